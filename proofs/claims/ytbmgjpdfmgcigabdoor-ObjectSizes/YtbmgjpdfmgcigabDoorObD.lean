/- Package object: the slots that words are. -/
import Derived.Test.YtbmgjpdfmgcigabDoorObA
namespace Go.Proofs.YtbmgjpdfmgcigabDoor.Tab
set_option maxRecDepth 20000
open Go.RowKit

def tblp (c : Nat → Nat) (i : Nat) : Tb := ⟨fun p => if p < i then (c (2 * p) : Nat) else 0, fun p => if p < i then (c (2 * p + 1) : Nat) else 0⟩
theorem tblp_zero (c : Nat → Nat) : tblp c 0 = Tb.zero := by
  unfold tblp Tb.zero; congr 1 <;> (funext p; simp)
theorem tblp_next (c : Nat → Nat) (i : Nat) : (tblp c i).set i (c (2 * i) : Nat) (c (2 * i + 1) : Nat) = tblp c (i + 1) := by
  unfold tblp Tb.set; congr 1 <;>
  · funext p
    by_cases e : p = i
    · subst e; simp
    · by_cases h : p < i
      · simp [e, h, show p < i + 1 by omega]
      · simp [e, h, show ¬ p < i + 1 by omega]
theorem tblp_all (c : Nat → Nat) : (tblp c 8).all = (tbl c).all := by
  unfold Tb.all
  refine List.map_congr_left fun j hj => ?_
  have : j / 2 < 8 := by have : j < 16 := by simpa using hj
                         omega
  simp [Tb.at, tblp, tbl, this]

set_option maxHeartbeats 4000000 in
theorem slots_is (c : Nat → Nat) (hv : ∀ j, j < 16 → c j ≤ 4294967295) (w : World) : Calls Tryd.prog 49 #[.agg (wl c).toArray] w fun e w' => e = .returned (.agg (tbl c).all.toArray) ∧ Below w.heap.size w w' := by
  obtain ⟨na, ea, hd⟩ := slots_array
  have HD : Hid _ := hd
  clear hd
  have HS : Hid (∀ t : Tb, (Tryd.prog.info? 92).map (·.size) = some t.all.length) := slots_size
  have HZ : Hid (∀ t : Tb, (Tryd.prog.info? 92).map (·.size) = some t.all.toArray.size) := slots_size2
  have HV : Hid _ := hv
  clear hv
  have G : Hid (Gd w.heap.size w (((w.alloc (.cells (wl c).toArray 24)).alloc (.cells #[.int .i64 0, .int .i64 0, .int .i64 0, .int .i64 0, .int .i64 0, .int .i64 0, .int .i64 0, .int .i64 0, .int .i64 0, .int .i64 0, .int .i64 0, .int .i64 0, .int .i64 0, .int .i64 0, .int .i64 0, .int .i64 0] 92)).alloc (.cells #[.int .i64 0, .int .i64 0, .int .i64 0, .int .i64 0, .int .i64 0, .int .i64 0, .int .i64 0, .int .i64 0, .int .i64 0, .int .i64 0, .int .i64 0, .int .i64 0, .int .i64 0, .int .i64 0, .int .i64 0, .int .i64 0] 92))) := (((Gd.refl w).new _).new _).new _
  have T : Hid (Bo (((w.alloc (.cells (wl c).toArray 24)).alloc (.cells #[.int .i64 0, .int .i64 0, .int .i64 0, .int .i64 0, .int .i64 0, .int .i64 0, .int .i64 0, .int .i64 0, .int .i64 0, .int .i64 0, .int .i64 0, .int .i64 0, .int .i64 0, .int .i64 0, .int .i64 0, .int .i64 0] 92)).alloc (.cells #[.int .i64 0, .int .i64 0, .int .i64 0, .int .i64 0, .int .i64 0, .int .i64 0, .int .i64 0, .int .i64 0, .int .i64 0, .int .i64 0, .int .i64 0, .int .i64 0, .int .i64 0, .int .i64 0, .int .i64 0, .int .i64 0] 92)) w.heap.size (wl c)) := ((Bo.born w (wl c) _ rfl).new _).new _
  have R : Hid (TAt (((w.alloc (.cells (wl c).toArray 24)).alloc (.cells #[.int .i64 0, .int .i64 0, .int .i64 0, .int .i64 0, .int .i64 0, .int .i64 0, .int .i64 0, .int .i64 0, .int .i64 0, .int .i64 0, .int .i64 0, .int .i64 0, .int .i64 0, .int .i64 0, .int .i64 0, .int .i64 0] 92)).alloc (.cells #[.int .i64 0, .int .i64 0, .int .i64 0, .int .i64 0, .int .i64 0, .int .i64 0, .int .i64 0, .int .i64 0, .int .i64 0, .int .i64 0, .int .i64 0, .int .i64 0, .int .i64 0, .int .i64 0, .int .i64 0, .int .i64 0] 92)) (w.heap.size + 1) Tb.zero) := (TAt.bornZero _ _ (by simp)).new _
  have L : Hid (TAt (((w.alloc (.cells (wl c).toArray 24)).alloc (.cells #[.int .i64 0, .int .i64 0, .int .i64 0, .int .i64 0, .int .i64 0, .int .i64 0, .int .i64 0, .int .i64 0, .int .i64 0, .int .i64 0, .int .i64 0, .int .i64 0, .int .i64 0, .int .i64 0, .int .i64 0, .int .i64 0] 92)).alloc (.cells #[.int .i64 0, .int .i64 0, .int .i64 0, .int .i64 0, .int .i64 0, .int .i64 0, .int .i64 0, .int .i64 0, .int .i64 0, .int .i64 0, .int .i64 0, .int .i64 0, .int .i64 0, .int .i64 0, .int .i64 0, .int .i64 0] 92)) (w.heap.size + 2) (tblp c 0)) := by rw [tblp_zero]; exact TAt.bornZero _ _ (by simp)
  go_enter Tryd.func49, Tryd.ntmps49
  go_wp2_with fail
  generalize World.alloc _ _ = W at G T R L ⊢
  generalize hsz : w.heap.size = n at G T R L ⊢
  have HSZ : Hid (w.heap.size = n) := hsz
  clear hsz
  go_loopg [5] 8 (fun gg s5 wt => ∃ i : Nat, i ≤ 8 ∧ 8 - i ≤ gg ∧ s5 = .int .i64 i ∧ Hid (Bo wt n (wl c)) ∧ Hid (TAt wt (n + 1) Tb.zero) ∧ Hid (TAt wt (n + 2) (tblp c i)) ∧ Hid (Gd n w wt))
  case atStart => exact ⟨0, by omega, by omega, rfl, T, R, L, G⟩
  case round =>
    clear T R L G
    obtain ⟨i, hi, hgg, rfl, T, R, L, G⟩ := hrel
    by_cases hlt : i < 8
    · have g0 := T.out.word (show 2 * i < 17 by omega)
      have g1 := T.out.word (show 2 * i + 1 < 17 by omega)
      have x1 := HV.out (2 * i) (by omega)
      have y1 := HV.out (2 * i + 1) (by omega)
      have l0 := L.out.key hlt
      have l1 := L.out.val hlt
      have f0 := L.out.froz (i * 2)
      have f1 := L.out.froz (i * 2 + 1)
      have NX : Hid _ := tblp_next c i
      have T1 : Hid (Bo wr.drew n (wl c)) := T.out.drew
      have R1 : Hid (TAt wr.drew (n + 1) Tb.zero) := R.out.drew
      have L1 : Hid (TAt wr.drew (n + 2) (tblp c i)) := L.out.drew
      have G1 : Hid (Gd n w wr.drew) := G.out.drew
      clear T R L G
      generalize c (2 * i) = x at g0 x1 NX
      generalize c (2 * i + 1) = y at g1 y1 NX
      generalize (tblp c i).k i = z0 at l0
      generalize (tblp c i).v i = z1 at l1
      have ex1 : IntKind.i64.wrap (x : Int) = x := by rw [IntKind.wrap_i64]; omega
      have ex2 : wrap64 (x : Int) = x := by unfold wrap64; omega
      have ey1 : IntKind.i64.wrap (y : Int) = y := by rw [IntKind.wrap_i64]; omega
      have ey2 : wrap64 (y : Int) = y := by unfold wrap64; omega
      have i1 : (i : Int) < 8 := by omega
      have i0 : (0 : Int) ≤ (i : Int) := by omega
      have i2 : 2 * (i : Int) < 17 := by omega
      have i3 : 2 * (i : Int) + 1 < 17 := by omega
      have i4 : (0 : Int) ≤ 2 * (i : Int) := by omega
      have i5 : (0 : Int) ≤ 2 * (i : Int) + 1 := by omega
      clear x1 y1
      go_wp2_with fail
      go_region
      all_goals go_wp2
      all_goals go_roundg (8 - (i + 1))
      case measure => omega
      case rel => exact ⟨i + 1, by omega, by omega, by go_num, (T1.out.aside (show n ≠ n + 2 by omega) _).aside (show n ≠ n + 2 by omega) _, (R1.out.aside (show n + 1 ≠ n + 2 by omega) _).aside (show n + 1 ≠ n + 2 by omega) _, by rw [← NX.out]; exact L1.out.setSlot hlt x y, (G1.out.aside (show n ≤ n + 2 by omega) _).aside (show n ≤ n + 2 by omega) _⟩
    · have ei : i = 8 := by omega
      subst ei
      have e8 := tblp_all c
      generalize tblp c 8 = t at L e8
      clear hlt T
      go_wp2_with (first
        | (refine wpList_load_mid rfl 92 _ rfl (n + 2) _ rfl t.all _ L.out.range HD.out rfl (HS.out t) ?_)
        | (refine wpList_store_mid rfl 92 _ _ rfl (n + 1) _ t.all.toArray rfl rfl (R.out.thereOf t) (HZ.out t) (t.all_all) ?_
           have R1 : Hid (TAt (wr.setCells (n + 1) 0 t.all) (n + 1) t) := R.out.setAll t
           have G1 : Hid (Gd n w (wr.setCells (n + 1) 0 t.all)) := G.out.asideAll (by omega) t
           clear R G L
           generalize wr.setCells (n + 1) 0 t.all = V at R1 G1 ⊢))
      exact bodyPost_ret (results_row Tryd.results49 _ _ (n + 1) t.all _ rfl R1.out.range HD.out rfl (HS.out t)) rfl ⟨by rw [e8], G1.out.2⟩
end Go.Proofs.YtbmgjpdfmgcigabDoor.Tab
