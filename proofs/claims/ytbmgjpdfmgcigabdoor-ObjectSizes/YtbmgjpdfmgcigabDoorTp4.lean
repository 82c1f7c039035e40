/- Package table: byKey, without, by their contracts. -/
import Derived.Test.YtbmgjpdfmgcigabDoorTp3
import Derived.Test.YtbmgjpdfmgcigabDoorTr
namespace Go.Proofs.YtbmgjpdfmgcigabDoor.Tab
set_option maxRecDepth 20000
open Go.RowKit

theorem slots_size2 (t : Tb) : (Tryd.prog.info? 92).map (·.size) = some t.all.toArray.size := by rw [List.size_toArray]; exact slots_size t
theorem slot_size : (Tryd.prog.info? 90).map (·.size) = some 2 := by kernel_rfl
set_option maxHeartbeats 1000000 in
theorem byKey_is (o k x : Int) (w : World) :
    Calls Tryd.prog 69 #[.agg #[.int .i64 o, .int .i64 k, .int .i64 x]] w fun e w' => e = .returned (.bool (decide (byKey o k))) ∧ Below w.heap.size w w' := by
  have fin : ∀ q, o = q → (q = 1 ∨ q = 2 ∨ q = 5) → Calls Tryd.prog 69 #[.agg #[.int .i64 o, .int .i64 k, .int .i64 x]] w fun e w' => e = .returned (.bool (decide (byKey o k))) ∧ Below w.heap.size w w' := by
    intro q e hq
    subst e
    have B : Hid (byKey o k ↔ 1 ≤ k ∧ k ≤ 1000) := ⟨fun h => h.2, fun h => ⟨hq, h⟩⟩
    by_cases h1 : 1 ≤ k
    · by_cases h2 : k ≤ 1000
      · rw [show decide (byKey o k) = true by first | exact decide_eq_true (B.out.2 ⟨h1, h2⟩) | exact decide_eq_false (fun h => by have := B.out.1 h; omega)]
        clear B
        rcases hq with rfl | rfl | rfl
        all_goals (
          go_enter Tryd.func69, Tryd.ntmps69
          go_wp2
          go_ret
          first | exact ⟨rfl, new_below _ _⟩ | exact ⟨congrArg (fun b => Ending.returned (.bool b)) (decide_eq_false (by omega)), new_below _ _⟩)
      · rw [show decide (byKey o k) = false by first | exact decide_eq_true (B.out.2 ⟨h1, h2⟩) | exact decide_eq_false (fun h => by have := B.out.1 h; omega)]
        clear B
        rcases hq with rfl | rfl | rfl
        all_goals (
          go_enter Tryd.func69, Tryd.ntmps69
          go_wp2
          go_ret
          first | exact ⟨rfl, new_below _ _⟩ | exact ⟨congrArg (fun b => Ending.returned (.bool b)) (decide_eq_false (by omega)), new_below _ _⟩)
    · rw [show decide (byKey o k) = false by first | exact decide_eq_true (B.out.2 ⟨h1, h2⟩) | exact decide_eq_false (fun h => by have := B.out.1 h; omega)]
      clear B
      rcases hq with rfl | rfl | rfl
      all_goals (
        go_enter Tryd.func69, Tryd.ntmps69
        go_wp2
        go_ret
        first | exact ⟨rfl, new_below _ _⟩ | exact ⟨congrArg (fun b => Ending.returned (.bool b)) (decide_eq_false (by omega)), new_below _ _⟩)
  by_cases o1 : o = 1
  · exact fin 1 o1 (Or.inl rfl)
  by_cases o2 : o = 2
  · exact fin 2 o2 (Or.inr (Or.inl rfl))
  by_cases o5 : o = 5
  · exact fin 5 o5 (Or.inr (Or.inr rfl))
  clear fin
  rw [show decide (byKey o k) = false by exact decide_eq_false (fun h => by rcases h.1 with e | e | e <;> contradiction)]
  have m1 : (o == 1) = false := by simp [o1]
  have m2 : (o == 2) = false := by simp [o2]
  have m5 : (o == 5) = false := by simp [o5]
  clear o1 o2 o5
  go_enter Tryd.func69, Tryd.ntmps69
  go_wp2
  go_ret
  exact ⟨rfl, new_below _ _⟩

set_option maxHeartbeats 2000000 in
theorem without_is (t : Tb) (p : Nat) (hp : p < 8) (w : World) :
    Calls Tryd.prog 71 #[.agg t.all.toArray, .int .i64 (p : Nat)] w fun e w' => e = .returned (.agg (without t p).all.toArray) ∧ Below w.heap.size w w' := by
  obtain ⟨na, ea, hd⟩ := slots_array
  have HD : Hid _ := hd
  clear hd
  have HS : Hid (∀ t : Tb, (Tryd.prog.info? 92).map (·.size) = some t.all.length) := slots_size
  have HZ : Hid (∀ t : Tb, (Tryd.prog.info? 92).map (·.size) = some t.all.toArray.size) := slots_size2
  have HT : Hid ((Tryd.prog.info? 90).map (·.size) = some 2) := slot_size
  have hp1 : (p : Int) < 8 := by omega
  have hp0 : (0 : Int) ≤ (p : Int) := by omega
  have g0 : Hid (Gd w.heap.size w ((w.alloc (.cells t.all.toArray 92)).alloc (.cells #[.int .i64 0, .int .i64 0, .int .i64 0, .int .i64 0, .int .i64 0, .int .i64 0, .int .i64 0, .int .i64 0, .int .i64 0, .int .i64 0, .int .i64 0, .int .i64 0, .int .i64 0, .int .i64 0, .int .i64 0, .int .i64 0] 92))) := ((Gd.refl w).new _).new _
  have t0 : Hid (TAt ((w.alloc (.cells t.all.toArray 92)).alloc (.cells #[.int .i64 0, .int .i64 0, .int .i64 0, .int .i64 0, .int .i64 0, .int .i64 0, .int .i64 0, .int .i64 0, .int .i64 0, .int .i64 0, .int .i64 0, .int .i64 0, .int .i64 0, .int .i64 0, .int .i64 0, .int .i64 0] 92)) w.heap.size t) := (TAt.born w t _).new _
  have z0 : Hid (TAt ((w.alloc (.cells t.all.toArray 92)).alloc (.cells #[.int .i64 0, .int .i64 0, .int .i64 0, .int .i64 0, .int .i64 0, .int .i64 0, .int .i64 0, .int .i64 0, .int .i64 0, .int .i64 0, .int .i64 0, .int .i64 0, .int .i64 0, .int .i64 0, .int .i64 0, .int .i64 0] 92)) (w.heap.size + 1) Tb.zero) := TAt.bornZero _ _ (by simp)
  generalize hn : w.heap.size = n at g0 t0 z0
  go_enter Tryd.func71, Tryd.ntmps71
  skip
  go_wp2_with (first
    | (refine wpList_store_mid rfl 90 _ _ rfl n _ #[.int .i64 (0), .int .i64 (0)] rfl rfl (t0.out.thereS hp) HT.out (two_one _ _) ?_
       have h1q : Hid (Gd n w (((w.alloc (.cells t.all.toArray 92)).alloc (.cells #[.int .i64 0, .int .i64 0, .int .i64 0, .int .i64 0, .int .i64 0, .int .i64 0, .int .i64 0, .int .i64 0, .int .i64 0, .int .i64 0, .int .i64 0, .int .i64 0, .int .i64 0, .int .i64 0, .int .i64 0, .int .i64 0] 92)).setCells n (p * 2) [.int .i64 (0), .int .i64 (0)])) := g0.out.asideL (by omega) (p * 2) [.int .i64 (0), .int .i64 (0)]
       have h2q : Hid (TAt (((w.alloc (.cells t.all.toArray 92)).alloc (.cells #[.int .i64 0, .int .i64 0, .int .i64 0, .int .i64 0, .int .i64 0, .int .i64 0, .int .i64 0, .int .i64 0, .int .i64 0, .int .i64 0, .int .i64 0, .int .i64 0, .int .i64 0, .int .i64 0, .int .i64 0, .int .i64 0] 92)).setCells n (p * 2) [.int .i64 (0), .int .i64 (0)]) n (t.set p 0 0)) := t0.out.slot hp (0) (0)
       have h3q : Hid (TAt (((w.alloc (.cells t.all.toArray 92)).alloc (.cells #[.int .i64 0, .int .i64 0, .int .i64 0, .int .i64 0, .int .i64 0, .int .i64 0, .int .i64 0, .int .i64 0, .int .i64 0, .int .i64 0, .int .i64 0, .int .i64 0, .int .i64 0, .int .i64 0, .int .i64 0, .int .i64 0] 92)).setCells n (p * 2) [.int .i64 (0), .int .i64 (0)]) (n + 1) Tb.zero) := z0.out.asideL (by omega) (p * 2) [.int .i64 (0), .int .i64 (0)]
       clear g0 t0 z0
       generalize (((w.alloc (.cells t.all.toArray 92)).alloc (.cells #[.int .i64 0, .int .i64 0, .int .i64 0, .int .i64 0, .int .i64 0, .int .i64 0, .int .i64 0, .int .i64 0, .int .i64 0, .int .i64 0, .int .i64 0, .int .i64 0, .int .i64 0, .int .i64 0, .int .i64 0, .int .i64 0] 92)).setCells n (p * 2) [.int .i64 (0), .int .i64 (0)]) = u4q at h1q h2q h3q  ⊢))
  have HN : Hid (w.heap.size = n) := hn
  clear hn
  go_loopg [1, 11] 7 (fun gg s1 s11 wt => ∃ i : Nat, i ≤ 7 ∧ 7 - i ≤ gg ∧ s11 = .int .i64 i ∧ ∃ q : Nat, q < 8 ∧ s1 = .int .i64 q ∧ ∃ u : Tb, Hid (TAt wt n u) ∧ Hid (TAt wt (n + 1) Tb.zero) ∧ Hid (Gd n w wt) ∧ Hid (woF (7 - i) u q = without t p))
  case atStart => exact ⟨0, by omega, by omega, rfl, p, hp, rfl, t.set p 0 0, h2q, h3q, h1q, rfl⟩
  case round =>
    obtain ⟨i, hi, hgg, rfl, q, hq, rfl, u, T, Z, G, D⟩ := hrel
    clear h2q h3q h1q
    by_cases hlt : i < 7
    · obtain ⟨r, hre⟩ : ∃ r, r = (q + 1) % 8 := ⟨_, rfl⟩
      have er : ((q : Int) + 1) % 8 = (r : Int) := by omega
      have hr : r < 8 := by omega
      have hr1 : (r : Int) < 8 := by omega
      have hr0 : (0 : Int) ≤ (r : Int) := by omega
      have ER : Hid (r = (q + 1) % 8) := hre
      have hi7 : (i : Int) < 7 := by omega
      clear hre
      have c0 := T.out.key hr
      have c1 := T.out.val hr
      have D1 : Hid ((if u.k r = 0 then u else woF (7 - (i + 1)) (anew u r) r) = without t p) := by
        have := D.out
        rw [show 7 - i = (7 - (i + 1)) + 1 by omega, woF, ← ER.out] at this
        exact this
      clear D
      obtain ⟨x, hx⟩ : ∃ x, u.k r = x := ⟨_, rfl⟩
      obtain ⟨y, hy⟩ : ∃ y, u.v r = y := ⟨_, rfl⟩
      have X : Hid (u.k r = x) := hx
      have Y : Hid (u.v r = y) := hy
      rw [hx] at c0
      rw [hy] at c1
      clear hx hy
      by_cases h0 : x = 0
      · have E : Hid (without t p = u) := by
          have := D1.out
          rw [X.out, if_pos h0] at this
          exact this.symm
        have m0 : (x == 0) = true := by simp [h0]
        clear h0
        go_wp2_with fail
        refine (free_is x y _).mono ?_
        rintro e u5q ⟨rfl, hb⟩
        have h6q : Hid (Gd n w u5q) := G.out.later hb
        have h7q : Hid (TAt u5q n u) := T.out.later hb
        have h8q : Hid (TAt u5q (n + 1) Tb.zero) := Z.out.later hb
        clear G T Z
        clear hb
        clear c0 c1
        go_wp2_with (first
          | (refine wpList_load_mid rfl 92 _ rfl n _ rfl u.all _ h7q.out.range HD.out rfl (HS.out u) ?_)
          | (refine wpList_store_mid rfl 92 _ _ rfl (n + 1) _ u.all.toArray rfl rfl (h8q.out.thereOf u) (HZ.out u) (u.all_all) ?_
             have h9q : Hid (Gd n w (u5q.setCells (n + 1) 0 u.all)) := h6q.out.asideAll (by omega) u
             have h10q : Hid (TAt (u5q.setCells (n + 1) 0 u.all) n u) := h7q.out.asideAll (by omega) u
             have h11q : Hid (TAt (u5q.setCells (n + 1) 0 u.all) (n + 1) u) := h8q.out.setAll u
             clear h6q h7q h8q
             generalize (u5q.setCells (n + 1) 0 u.all) = u12q at h9q h10q h11q  ⊢))
        refine bodyPost_ret (results_row Tryd.results71 _ _ (n + 1) u.all _ rfl h11q.out.range HD.out rfl (HS.out u)) rfl ⟨?_, h9q.out.low⟩
        rw [E.out]
      · have E : Hid (woF (7 - (i + 1)) (anew u r) r = without t p) := by
          have := D1.out
          rw [X.out, if_neg h0] at this
          exact this
        have m0 : (x == 0) = false := by simp [h0]
        clear h0
        go_wp2_with fail
        refine (free_is x y _).mono ?_
        rintro e u13q ⟨rfl, hb⟩
        have h14q : Hid (Gd n w u13q) := G.out.later hb
        have h15q : Hid (TAt u13q n u) := T.out.later hb
        have h16q : Hid (TAt u13q (n + 1) Tb.zero) := Z.out.later hb
        clear G T Z
        clear hb
        clear c0 c1
        have c2 := h15q.out.key hr
        have c3 := h15q.out.val hr
        rw [X.out] at c2
        rw [Y.out] at c3
        have hle : n + 2 ≤ u13q.heap.size := by have := h16q.out.lt; omega
        have h17q : Hid (Gd n w (u13q.alloc (.cells #[.int .i64 x, .int .i64 y] 90))) := h14q.out.new (.cells #[.int .i64 x, .int .i64 y] 90)
        have h18q : Hid (TAt (u13q.alloc (.cells #[.int .i64 x, .int .i64 y] 90)) n u) := h15q.out.new (.cells #[.int .i64 x, .int .i64 y] 90)
        have h19q : Hid (TAt (u13q.alloc (.cells #[.int .i64 x, .int .i64 y] 90)) (n + 1) Tb.zero) := h16q.out.new (.cells #[.int .i64 x, .int .i64 y] 90)
        clear h14q h15q h16q
        have h20q : Hid (Bo (u13q.alloc (.cells #[.int .i64 x, .int .i64 y] 90)) u13q.heap.size [.int .i64 x, .int .i64 y]) := Bo.born u13q [.int .i64 x, .int .i64 y] _ rfl
        go_wp2_with (first
          | (refine wpList_store_mid rfl 90 _ _ rfl n _ #[.int .i64 (0), .int .i64 (0)] rfl rfl (h18q.out.thereS hr) HT.out (two_one _ _) ?_
             have h21q : Hid (Gd n w ((u13q.alloc (.cells #[.int .i64 x, .int .i64 y] 90)).setCells n (r * 2) [.int .i64 (0), .int .i64 (0)])) := h17q.out.asideL (by omega) (r * 2) [.int .i64 (0), .int .i64 (0)]
             have h22q : Hid (TAt ((u13q.alloc (.cells #[.int .i64 x, .int .i64 y] 90)).setCells n (r * 2) [.int .i64 (0), .int .i64 (0)]) n (u.set r 0 0)) := h18q.out.slot hr (0) (0)
             have h23q : Hid (TAt ((u13q.alloc (.cells #[.int .i64 x, .int .i64 y] 90)).setCells n (r * 2) [.int .i64 (0), .int .i64 (0)]) (n + 1) Tb.zero) := h19q.out.asideL (by omega) (r * 2) [.int .i64 (0), .int .i64 (0)]
             have h24q : Hid (Bo ((u13q.alloc (.cells #[.int .i64 x, .int .i64 y] 90)).setCells n (r * 2) [.int .i64 (0), .int .i64 (0)]) u13q.heap.size [.int .i64 x, .int .i64 y]) := h20q.out.asideL (by omega) (r * 2) [.int .i64 (0), .int .i64 (0)]
             clear h17q h18q h19q h20q
             generalize ((u13q.alloc (.cells #[.int .i64 x, .int .i64 y] 90)).setCells n (r * 2) [.int .i64 (0), .int .i64 (0)]) = u25q at h21q h22q h23q h24q  ⊢
             have c4 := h24q.out.at 0 rfl)
          | (refine wpList_load_mid rfl 92 _ rfl n _ rfl (u.set r 0 0).all _ h22q.out.range HD.out rfl (HS.out (u.set r 0 0)) ?_))
        obtain ⟨a, ha⟩ : ∃ a, place (u.set r 0 0) x = a := ⟨_, rfl⟩
        have PL := place_eq (u.set r 0 0) x
        unfold Placed at PL
        have ha8 : a < 8 := ha ▸ place_lt _ _
        have A : Hid (place (u.set r 0 0) x = a) := ha
        rw [ha] at PL
        clear ha
        generalize ((u.set r 0 0).k a == x) = has at PL
        have ha1 : (a : Int) < 8 := by omega
        have ha0 : (0 : Int) ≤ (a : Int) := by omega
        refine (PL _).mono ?_
        rintro e u26q ⟨rfl, hb⟩
        have h27q : Hid (Gd n w u26q) := h21q.out.later hb
        have h28q : Hid (TAt u26q n (u.set r 0 0)) := h22q.out.later hb
        have h29q : Hid (TAt u26q (n + 1) Tb.zero) := h23q.out.later hb
        have h30q : Hid (Bo u26q u13q.heap.size [.int .i64 x, .int .i64 y]) := h24q.out.later hb
        clear h21q h22q h23q h24q
        clear hb
        clear c4 PL
        have c5 := h30q.out.at 0 rfl
        have c6 := h30q.out.at 1 rfl
        go_wp2_with (first
          | (refine wpList_store_mid rfl 90 _ _ rfl n _ #[.int .i64 (x), .int .i64 (y)] rfl rfl (h28q.out.thereS ha8) HT.out (two_one _ _) ?_
             have h31q : Hid (Gd n w (u26q.setCells n (a * 2) [.int .i64 (x), .int .i64 (y)])) := h27q.out.asideL (by omega) (a * 2) [.int .i64 (x), .int .i64 (y)]
             have h32q : Hid (TAt (u26q.setCells n (a * 2) [.int .i64 (x), .int .i64 (y)]) n ((u.set r 0 0).set a x y)) := h28q.out.slot ha8 (x) (y)
             have h33q : Hid (TAt (u26q.setCells n (a * 2) [.int .i64 (x), .int .i64 (y)]) (n + 1) Tb.zero) := h29q.out.asideL (by omega) (a * 2) [.int .i64 (x), .int .i64 (y)]
             have h34q : Hid (Bo (u26q.setCells n (a * 2) [.int .i64 (x), .int .i64 (y)]) u13q.heap.size [.int .i64 x, .int .i64 y]) := h30q.out.asideL (by omega) (a * 2) [.int .i64 (x), .int .i64 (y)]
             clear h27q h28q h29q h30q
             generalize (u26q.setCells n (a * 2) [.int .i64 (x), .int .i64 (y)]) = u35q at h31q h32q h33q h34q  ⊢))
        go_roundg (7 - (i + 1))
        case measure => omega
        case rel =>
          refine ⟨i + 1, by omega, by omega, by go_num, r, hr, rfl, (u.set r 0 0).set a x y, h32q, h33q, h31q, ?_⟩
          have := E.out
          rw [anew, X.out, Y.out, A.out] at this
          exact this
    · obtain rfl : i = 7 := by omega
      have E : Hid (without t p = u) := D.out.symm
      clear D
      go_wp2_with (first
        | (refine wpList_load_mid rfl 92 _ rfl n _ rfl u.all _ T.out.range HD.out rfl (HS.out u) ?_)
        | (refine wpList_store_mid rfl 92 _ _ rfl (n + 1) _ u.all.toArray rfl rfl (Z.out.thereOf u) (HZ.out u) (u.all_all) ?_
           have h36q : Hid (Gd n w (wr.setCells (n + 1) 0 u.all)) := G.out.asideAll (by omega) u
           have h37q : Hid (TAt (wr.setCells (n + 1) 0 u.all) n u) := T.out.asideAll (by omega) u
           have h38q : Hid (TAt (wr.setCells (n + 1) 0 u.all) (n + 1) u) := Z.out.setAll u
           clear G T Z
           generalize (wr.setCells (n + 1) 0 u.all) = u39q at h36q h37q h38q  ⊢))
      refine bodyPost_ret (results_row Tryd.results71 _ _ (n + 1) u.all _ rfl h38q.out.range HD.out rfl (HS.out u)) rfl ⟨?_, h36q.out.low⟩
      rw [E.out]
end Go.Proofs.YtbmgjpdfmgcigabDoor.Tab
