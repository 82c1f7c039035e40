/- The keepers' pick, key, peek and tabled, by their contracts. -/
import Derived.Test.YtojnkfdodjcnfabTp5
import Derived.Test.YtojnkfdodjcnfabTe
namespace Go.Proofs.Ytojnkfdodjcnfab
open Go.RowKit

theorem pick_num (a : Int) (n : Nat) (h0 : 0 < n) (h : n < 4611686018427387904) : ∃ r : Nat, r < n ∧ wrap64 ((IntKind.u64.wrap a).tmod (IntKind.u64.wrap n)) = (r : Nat) := by
  rw [IntKind.wrap_u64, IntKind.wrap_u64]
  have e : (n : Int) % 18446744073709551616 = n := by omega
  rw [e, Int.tmod_eq_emod_of_nonneg (by omega)]
  have h1 : 0 ≤ a % 18446744073709551616 % (n : Int) := Int.emod_nonneg _ (by omega)
  have h2 : a % 18446744073709551616 % (n : Int) < n := Int.emod_lt_of_pos _ (by omega)
  refine ⟨(a % 18446744073709551616 % (n : Int)).toNat, by omega, ?_⟩
  generalize a % 18446744073709551616 % (n : Int) = x at *
  unfold wrap64
  omega
theorem pick_12 (a : Int) : ∃ r : Nat, r < 12 ∧ ∀ w : World, Calls Try.prog 8 #[.int .i64 a, .int .i64 12] w fun e w' => e = .returned (.int .i64 (r : Nat)) ∧ w' = w := by
  obtain ⟨r, hr, he⟩ := pick_num a 12 (by decide) (by decide)
  refine ⟨r, hr, fun w => ?_⟩
  have HE : Hid _ := he
  clear he
  go_enter Try.func8, Try.ntmps8
  go_wp2
  go_ret
  exact ⟨ret_int HE.out, rfl⟩
theorem pick_3 (a : Int) : ∃ r : Nat, r < 3 ∧ ∀ w : World, Calls Try.prog 8 #[.int .i64 a, .int .i64 3] w fun e w' => e = .returned (.int .i64 (r : Nat)) ∧ w' = w := by
  obtain ⟨r, hr, he⟩ := pick_num a 3 (by decide) (by decide)
  refine ⟨r, hr, fun w => ?_⟩
  have HE : Hid _ := he
  clear he
  go_enter Try.func8, Try.ntmps8
  go_wp2
  go_ret
  exact ⟨ret_int HE.out, rfl⟩
theorem pick_100 (a : Int) : ∃ r : Nat, r < 100 ∧ ∀ w : World, Calls Try.prog 8 #[.int .i64 a, .int .i64 100] w fun e w' => e = .returned (.int .i64 (r : Nat)) ∧ w' = w := by
  obtain ⟨r, hr, he⟩ := pick_num a 100 (by decide) (by decide)
  refine ⟨r, hr, fun w => ?_⟩
  have HE : Hid _ := he
  clear he
  go_enter Try.func8, Try.ntmps8
  go_wp2
  go_ret
  exact ⟨ret_int HE.out, rfl⟩
theorem pick_1000 (a : Int) : ∃ r : Nat, r < 1000 ∧ ∀ w : World, Calls Try.prog 8 #[.int .i64 a, .int .i64 1000] w fun e w' => e = .returned (.int .i64 (r : Nat)) ∧ w' = w := by
  obtain ⟨r, hr, he⟩ := pick_num a 1000 (by decide) (by decide)
  refine ⟨r, hr, fun w => ?_⟩
  have HE : Hid _ := he
  clear he
  go_enter Try.func8, Try.ntmps8
  go_wp2
  go_ret
  exact ⟨ret_int HE.out, rfl⟩
theorem pick_4294967296 (a : Int) : ∃ r : Nat, r < 4294967296 ∧ ∀ w : World, Calls Try.prog 8 #[.int .i64 a, .int .i64 4294967296] w fun e w' => e = .returned (.int .i64 (r : Nat)) ∧ w' = w := by
  obtain ⟨r, hr, he⟩ := pick_num a 4294967296 (by decide) (by decide)
  refine ⟨r, hr, fun w => ?_⟩
  have HE : Hid _ := he
  clear he
  go_enter Try.func8, Try.ntmps8
  go_wp2
  go_ret
  exact ⟨ret_int HE.out, rfl⟩
theorem key_fun (a : Int) : ∃ r : Nat, r < 1000 ∧ ∀ w : World, Calls Try.prog 12 #[.int .i64 a] w fun e w' => e = .returned (.int .i64 (1 + (r : Int))) ∧ w' = w := by
  obtain ⟨r, hr, hp⟩ := pick_1000 a
  refine ⟨r, hr, fun w => ?_⟩
  have HP : Hid _ := hp
  clear hp
  go_enter Try.func12, Try.ntmps12
  go_wp2_with fail
  refine (HP.out _).mono ?_
  rintro e w' ⟨rfl, rfl⟩
  go_wp2
  go_ret
  exact ⟨rfl, rfl⟩

set_option maxHeartbeats 2000000 in
theorem peek_is (t : Tb) (k : Int) (h1 : 1 ≤ k) (h2 : k ≤ 1000) (w : World) :
    Calls Try.prog 11 #[.agg t.all.toArray, .int .i64 k] w (fun e w' => e = .returned (.agg #[.int .i64 (look t k).1, .int .i64 (look t k).2]) ∧ Below w.heap.size w w') := by
  obtain ⟨na, ea, hd⟩ := slots_array
  have HD : Hid _ := hd
  clear hd
  have HS : Hid (∀ t : Tb, (Try.prog.info? 27).map (·.size) = some t.all.length) := slots_size
  have HZ : Hid (∀ t : Tb, (Try.prog.info? 27).map (·.size) = some t.all.toArray.size) := slots_size2
  have HT : Hid ((Try.prog.info? 25).map (·.size) = some 2) := slot_size
  have HA : Hid ((Try.prog.info? 31).map (·.size) = some 2) := answer_size
  obtain ⟨fs, ha⟩ := answer_struct
  have HDA : Hid _ := ha
  clear ha
  have g0 : Hid (Gd w.heap.size w w) := Gd.refl w
  have h1q : Hid (Gd w.heap.size w (w.alloc (.cells t.all.toArray 27))) := g0.out.new (.cells t.all.toArray 27)
  clear g0
  have h2q : Hid (TAt (w.alloc (.cells t.all.toArray 27)) w.heap.size t) := TAt.bornAt w t _ (by simp)
  have h3q : Hid (Gd w.heap.size w ((w.alloc (.cells t.all.toArray 27)).alloc (.cells #[.int .i64 0, .int .i64 0] 31))) := h1q.out.new (.cells #[.int .i64 0, .int .i64 0] 31)
  have h4q : Hid (TAt ((w.alloc (.cells t.all.toArray 27)).alloc (.cells #[.int .i64 0, .int .i64 0] 31)) w.heap.size t) := h2q.out.new (.cells #[.int .i64 0, .int .i64 0] 31)
  clear h1q h2q
  have h5q : Hid (Bo ((w.alloc (.cells t.all.toArray 27)).alloc (.cells #[.int .i64 0, .int .i64 0] 31)) (w.heap.size + 1) [.int .i64 0, .int .i64 0]) := Bo.born (w.alloc (.cells t.all.toArray 27)) [.int .i64 0, .int .i64 0] 31 (by simp)
  have D := tDo_eq t 5 k 0
  rw [tdo_peek 0 h1 h2] at D
  unfold Told at D
  generalize (look t k).1 = c at D ⊢
  generalize (look t k).2 = y at D ⊢
  clear h1 h2
  go_enter Try.func11, Try.ntmps11
  go_wp2_with (first
    | (refine wpList_load_mid rfl 27 _ rfl w.heap.size _ rfl t.all _ h4q.out.range HD.out rfl (HS.out t) ?_))
  generalize ((w.alloc (.cells t.all.toArray 27)).alloc (.cells #[.int .i64 0, .int .i64 0] 31)) = W at h3q h4q h5q ⊢
  generalize w.heap.size = n at h3q h4q h5q ⊢
  refine (D _).mono ?_
  rintro e u6q ⟨rfl, hb⟩
  have h7q : Hid (Gd n w u6q) := h3q.out.later hb
  have h8q : Hid (TAt u6q n t) := h4q.out.later hb
  have h9q : Hid (Bo u6q (n + 1) [.int .i64 0, .int .i64 0]) := h5q.out.later hb
  clear h3q h4q h5q
  clear hb
  have l10q : n ≤ u6q.heap.size := h7q.out.le
  have l11q : n < u6q.heap.size := h8q.out.lt
  have l12q : (n + 1) < u6q.heap.size := h9q.out.lt
  have h13q : Hid (Gd n w (u6q.alloc (.cells #[.int .i64 0, .int .i64 0, .int .i64 0, .int .i64 0, .int .i64 0, .int .i64 0, .int .i64 0, .int .i64 0, .int .i64 0, .int .i64 0, .int .i64 0, .int .i64 0, .int .i64 0, .int .i64 0, .int .i64 0, .int .i64 0] 27))) := h7q.out.new (.cells #[.int .i64 0, .int .i64 0, .int .i64 0, .int .i64 0, .int .i64 0, .int .i64 0, .int .i64 0, .int .i64 0, .int .i64 0, .int .i64 0, .int .i64 0, .int .i64 0, .int .i64 0, .int .i64 0, .int .i64 0, .int .i64 0] 27)
  have h14q : Hid (TAt (u6q.alloc (.cells #[.int .i64 0, .int .i64 0, .int .i64 0, .int .i64 0, .int .i64 0, .int .i64 0, .int .i64 0, .int .i64 0, .int .i64 0, .int .i64 0, .int .i64 0, .int .i64 0, .int .i64 0, .int .i64 0, .int .i64 0, .int .i64 0] 27)) n t) := h8q.out.new (.cells #[.int .i64 0, .int .i64 0, .int .i64 0, .int .i64 0, .int .i64 0, .int .i64 0, .int .i64 0, .int .i64 0, .int .i64 0, .int .i64 0, .int .i64 0, .int .i64 0, .int .i64 0, .int .i64 0, .int .i64 0, .int .i64 0] 27)
  have h15q : Hid (Bo (u6q.alloc (.cells #[.int .i64 0, .int .i64 0, .int .i64 0, .int .i64 0, .int .i64 0, .int .i64 0, .int .i64 0, .int .i64 0, .int .i64 0, .int .i64 0, .int .i64 0, .int .i64 0, .int .i64 0, .int .i64 0, .int .i64 0, .int .i64 0] 27)) (n + 1) [.int .i64 0, .int .i64 0]) := h9q.out.new (.cells #[.int .i64 0, .int .i64 0, .int .i64 0, .int .i64 0, .int .i64 0, .int .i64 0, .int .i64 0, .int .i64 0, .int .i64 0, .int .i64 0, .int .i64 0, .int .i64 0, .int .i64 0, .int .i64 0, .int .i64 0, .int .i64 0] 27)
  clear h7q h8q h9q
  have h16q : Hid (TAt (u6q.alloc (.cells #[.int .i64 0, .int .i64 0, .int .i64 0, .int .i64 0, .int .i64 0, .int .i64 0, .int .i64 0, .int .i64 0, .int .i64 0, .int .i64 0, .int .i64 0, .int .i64 0, .int .i64 0, .int .i64 0, .int .i64 0, .int .i64 0] 27)) u6q.heap.size Tb.zero) := TAt.bornZero u6q 27 (by simp)
  have h17q : Hid (Gd n w ((u6q.alloc (.cells #[.int .i64 0, .int .i64 0, .int .i64 0, .int .i64 0, .int .i64 0, .int .i64 0, .int .i64 0, .int .i64 0, .int .i64 0, .int .i64 0, .int .i64 0, .int .i64 0, .int .i64 0, .int .i64 0, .int .i64 0, .int .i64 0] 27)).alloc (.cells #[.int .i64 0, .int .i64 0] 31))) := h13q.out.new (.cells #[.int .i64 0, .int .i64 0] 31)
  have h18q : Hid (TAt ((u6q.alloc (.cells #[.int .i64 0, .int .i64 0, .int .i64 0, .int .i64 0, .int .i64 0, .int .i64 0, .int .i64 0, .int .i64 0, .int .i64 0, .int .i64 0, .int .i64 0, .int .i64 0, .int .i64 0, .int .i64 0, .int .i64 0, .int .i64 0] 27)).alloc (.cells #[.int .i64 0, .int .i64 0] 31)) n t) := h14q.out.new (.cells #[.int .i64 0, .int .i64 0] 31)
  have h19q : Hid (Bo ((u6q.alloc (.cells #[.int .i64 0, .int .i64 0, .int .i64 0, .int .i64 0, .int .i64 0, .int .i64 0, .int .i64 0, .int .i64 0, .int .i64 0, .int .i64 0, .int .i64 0, .int .i64 0, .int .i64 0, .int .i64 0, .int .i64 0, .int .i64 0] 27)).alloc (.cells #[.int .i64 0, .int .i64 0] 31)) (n + 1) [.int .i64 0, .int .i64 0]) := h15q.out.new (.cells #[.int .i64 0, .int .i64 0] 31)
  have h20q : Hid (TAt ((u6q.alloc (.cells #[.int .i64 0, .int .i64 0, .int .i64 0, .int .i64 0, .int .i64 0, .int .i64 0, .int .i64 0, .int .i64 0, .int .i64 0, .int .i64 0, .int .i64 0, .int .i64 0, .int .i64 0, .int .i64 0, .int .i64 0, .int .i64 0] 27)).alloc (.cells #[.int .i64 0, .int .i64 0] 31)) u6q.heap.size Tb.zero) := h16q.out.new (.cells #[.int .i64 0, .int .i64 0] 31)
  clear h13q h14q h15q h16q
  have h21q : Hid (Bo ((u6q.alloc (.cells #[.int .i64 0, .int .i64 0, .int .i64 0, .int .i64 0, .int .i64 0, .int .i64 0, .int .i64 0, .int .i64 0, .int .i64 0, .int .i64 0, .int .i64 0, .int .i64 0, .int .i64 0, .int .i64 0, .int .i64 0, .int .i64 0] 27)).alloc (.cells #[.int .i64 0, .int .i64 0] 31)) (u6q.heap.size + 1) [.int .i64 0, .int .i64 0]) := Bo.born (u6q.alloc (.cells #[.int .i64 0, .int .i64 0, .int .i64 0, .int .i64 0, .int .i64 0, .int .i64 0, .int .i64 0, .int .i64 0, .int .i64 0, .int .i64 0, .int .i64 0, .int .i64 0, .int .i64 0, .int .i64 0, .int .i64 0, .int .i64 0] 27)) [.int .i64 0, .int .i64 0] 31 (by simp)
  go_wp2_with (first
    | (refine wpList_store_mid rfl 27 _ _ rfl u6q.heap.size _ t.all.toArray rfl rfl (h20q.out.thereOf t) (HZ.out t) (t.all_all) ?_
       have h22q : Hid (Gd n w (((u6q.alloc (.cells #[.int .i64 0, .int .i64 0, .int .i64 0, .int .i64 0, .int .i64 0, .int .i64 0, .int .i64 0, .int .i64 0, .int .i64 0, .int .i64 0, .int .i64 0, .int .i64 0, .int .i64 0, .int .i64 0, .int .i64 0, .int .i64 0] 27)).alloc (.cells #[.int .i64 0, .int .i64 0] 31)).setCells u6q.heap.size 0 t.all)) := h17q.out.asideAll (by omega) t
       have h23q : Hid (TAt (((u6q.alloc (.cells #[.int .i64 0, .int .i64 0, .int .i64 0, .int .i64 0, .int .i64 0, .int .i64 0, .int .i64 0, .int .i64 0, .int .i64 0, .int .i64 0, .int .i64 0, .int .i64 0, .int .i64 0, .int .i64 0, .int .i64 0, .int .i64 0] 27)).alloc (.cells #[.int .i64 0, .int .i64 0] 31)).setCells u6q.heap.size 0 t.all) n t) := h18q.out.asideAll (by omega) t
       have h24q : Hid (Bo (((u6q.alloc (.cells #[.int .i64 0, .int .i64 0, .int .i64 0, .int .i64 0, .int .i64 0, .int .i64 0, .int .i64 0, .int .i64 0, .int .i64 0, .int .i64 0, .int .i64 0, .int .i64 0, .int .i64 0, .int .i64 0, .int .i64 0, .int .i64 0] 27)).alloc (.cells #[.int .i64 0, .int .i64 0] 31)).setCells u6q.heap.size 0 t.all) (n + 1) [.int .i64 0, .int .i64 0]) := h19q.out.asideAll (by omega) t
       have h25q : Hid (TAt (((u6q.alloc (.cells #[.int .i64 0, .int .i64 0, .int .i64 0, .int .i64 0, .int .i64 0, .int .i64 0, .int .i64 0, .int .i64 0, .int .i64 0, .int .i64 0, .int .i64 0, .int .i64 0, .int .i64 0, .int .i64 0, .int .i64 0, .int .i64 0] 27)).alloc (.cells #[.int .i64 0, .int .i64 0] 31)).setCells u6q.heap.size 0 t.all) u6q.heap.size t) := h20q.out.setAll t
       have h26q : Hid (Bo (((u6q.alloc (.cells #[.int .i64 0, .int .i64 0, .int .i64 0, .int .i64 0, .int .i64 0, .int .i64 0, .int .i64 0, .int .i64 0, .int .i64 0, .int .i64 0, .int .i64 0, .int .i64 0, .int .i64 0, .int .i64 0, .int .i64 0, .int .i64 0] 27)).alloc (.cells #[.int .i64 0, .int .i64 0] 31)).setCells u6q.heap.size 0 t.all) (u6q.heap.size + 1) [.int .i64 0, .int .i64 0]) := h21q.out.asideAll (by omega) t
       clear h17q h18q h19q h20q h21q
       generalize (((u6q.alloc (.cells #[.int .i64 0, .int .i64 0, .int .i64 0, .int .i64 0, .int .i64 0, .int .i64 0, .int .i64 0, .int .i64 0, .int .i64 0, .int .i64 0, .int .i64 0, .int .i64 0, .int .i64 0, .int .i64 0, .int .i64 0, .int .i64 0] 27)).alloc (.cells #[.int .i64 0, .int .i64 0] 31)).setCells u6q.heap.size 0 t.all) = u27q at h22q h23q h24q h25q h26q  ⊢)
    | (refine wpList_store_mid rfl 31 _ _ rfl (u6q.heap.size + 1) _ #[.int .i64 (c), .int .i64 (y)] rfl rfl h26q.out.there2 HA.out (two_one _ _) ?_
       have h28q : Hid (Gd n w (u27q.setCells (u6q.heap.size + 1) 0 [.int .i64 (c), .int .i64 (y)])) := h22q.out.asideL (by omega) 0 [.int .i64 (c), .int .i64 (y)]
       have h29q : Hid (TAt (u27q.setCells (u6q.heap.size + 1) 0 [.int .i64 (c), .int .i64 (y)]) n t) := h23q.out.asideL (by omega) 0 [.int .i64 (c), .int .i64 (y)]
       have h30q : Hid (Bo (u27q.setCells (u6q.heap.size + 1) 0 [.int .i64 (c), .int .i64 (y)]) (n + 1) [.int .i64 0, .int .i64 0]) := h24q.out.asideL (by omega) 0 [.int .i64 (c), .int .i64 (y)]
       have h31q : Hid (TAt (u27q.setCells (u6q.heap.size + 1) 0 [.int .i64 (c), .int .i64 (y)]) u6q.heap.size t) := h25q.out.asideL (by omega) 0 [.int .i64 (c), .int .i64 (y)]
       have h32q : Hid (Bo (u27q.setCells (u6q.heap.size + 1) 0 [.int .i64 (c), .int .i64 (y)]) (u6q.heap.size + 1) [.int .i64 (c), .int .i64 (y)]) := h26q.out.set2 (.int .i64 (c)) (.int .i64 (y))
       clear h22q h23q h24q h25q h26q
       generalize (u27q.setCells (u6q.heap.size + 1) 0 [.int .i64 (c), .int .i64 (y)]) = u33q at h28q h29q h30q h31q h32q  ⊢
       have c0 := h32q.out.at 0 rfl
       have c1 := h32q.out.at 1 rfl)
    | (refine wpList_store_mid rfl 31 _ _ rfl (n + 1) _ #[.int .i64 (c), .int .i64 (y)] rfl rfl h30q.out.there2 HA.out (two_one _ _) ?_
       have h34q : Hid (Gd n w (u33q.setCells (n + 1) 0 [.int .i64 (c), .int .i64 (y)])) := h28q.out.asideL (by omega) 0 [.int .i64 (c), .int .i64 (y)]
       have h35q : Hid (TAt (u33q.setCells (n + 1) 0 [.int .i64 (c), .int .i64 (y)]) n t) := h29q.out.asideL (by omega) 0 [.int .i64 (c), .int .i64 (y)]
       have h36q : Hid (Bo (u33q.setCells (n + 1) 0 [.int .i64 (c), .int .i64 (y)]) (n + 1) [.int .i64 (c), .int .i64 (y)]) := h30q.out.set2 (.int .i64 (c)) (.int .i64 (y))
       have h37q : Hid (TAt (u33q.setCells (n + 1) 0 [.int .i64 (c), .int .i64 (y)]) u6q.heap.size t) := h31q.out.asideL (by omega) 0 [.int .i64 (c), .int .i64 (y)]
       have h38q : Hid (Bo (u33q.setCells (n + 1) 0 [.int .i64 (c), .int .i64 (y)]) (u6q.heap.size + 1) [.int .i64 (c), .int .i64 (y)]) := h32q.out.asideL (by omega) 0 [.int .i64 (c), .int .i64 (y)]
       clear h28q h29q h30q h31q h32q
       generalize (u33q.setCells (n + 1) 0 [.int .i64 (c), .int .i64 (y)]) = u39q at h34q h35q h36q h37q h38q  ⊢))
  exact bodyPost_ret (results_row Try.results11 _ _ (n + 1) [.int .i64 c, .int .i64 y] _ rfl h36q.out.range HDA.out rfl HA.out) rfl ⟨rfl, h34q.out.2⟩

set_option maxHeartbeats 2000000 in
theorem tabled_is  (w : World) :
    Calls Try.prog 6 #[] w (fun e w' => e = .returned (.bool true) ∧ Below w.heap.size w w') := by
  obtain ⟨na, ea, hd⟩ := slots_array
  have HD : Hid _ := hd
  clear hd
  have HS : Hid (∀ t : Tb, (Try.prog.info? 27).map (·.size) = some t.all.length) := slots_size
  have HZ : Hid (∀ t : Tb, (Try.prog.info? 27).map (·.size) = some t.all.toArray.size) := slots_size2
  have HT : Hid ((Try.prog.info? 25).map (·.size) = some 2) := slot_size
  have HA : Hid ((Try.prog.info? 31).map (·.size) = some 2) := answer_size
  obtain ⟨fs, ha⟩ := answer_struct
  have HDA : Hid _ := ha
  clear ha
  have g0 : Hid (Gd w.heap.size w w) := Gd.refl w
  have h40q : Hid (Gd w.heap.size w (w.alloc (.cells #[.int .i64 0, .int .i64 0, .int .i64 0, .int .i64 0, .int .i64 0, .int .i64 0, .int .i64 0, .int .i64 0, .int .i64 0, .int .i64 0, .int .i64 0, .int .i64 0, .int .i64 0, .int .i64 0, .int .i64 0, .int .i64 0] 27))) := g0.out.new (.cells #[.int .i64 0, .int .i64 0, .int .i64 0, .int .i64 0, .int .i64 0, .int .i64 0, .int .i64 0, .int .i64 0, .int .i64 0, .int .i64 0, .int .i64 0, .int .i64 0, .int .i64 0, .int .i64 0, .int .i64 0, .int .i64 0] 27)
  clear g0
  have h41q : Hid (TAt (w.alloc (.cells #[.int .i64 0, .int .i64 0, .int .i64 0, .int .i64 0, .int .i64 0, .int .i64 0, .int .i64 0, .int .i64 0, .int .i64 0, .int .i64 0, .int .i64 0, .int .i64 0, .int .i64 0, .int .i64 0, .int .i64 0, .int .i64 0] 27)) w.heap.size Tb.zero) := TAt.bornZero w 27 (by simp)
  obtain ⟨T1, hT⟩ : ∃ T1, T1 = Tb.zero.set 7 3 7 := ⟨_, rfl⟩
  have D := tDo_eq Tb.zero 1 3 7
  have E := tDo_eq T1 5 3 0
  rw [show tdo Tb.zero 1 3 7 = (T1, 1, 0) by rw [hT]; rfl] at D
  rw [show tdo T1 5 3 0 = (T1, 1, 7) by rw [hT]; rfl] at E
  have L := Len_is T1
  rw [show len T1 = 1 by rw [hT]; rfl] at L
  have K7 : Hid (T1.k 7 = 3) := show T1.k 7 = 3 by rw [hT]; rfl
  have V7 : Hid (T1.v 7 = 7) := show T1.v 7 = 7 by rw [hT]; rfl
  clear hT
  unfold Told at D E
  go_enter Try.func6, Try.ntmps6
  go_wp2_with (first
    | (refine wpList_load_mid rfl 27 _ rfl w.heap.size _ rfl Tb.zero.all _ h41q.out.range HD.out rfl (HS.out Tb.zero) ?_))
  generalize (w.alloc (.cells #[.int .i64 0, .int .i64 0, .int .i64 0, .int .i64 0, .int .i64 0, .int .i64 0, .int .i64 0, .int .i64 0, .int .i64 0, .int .i64 0, .int .i64 0, .int .i64 0, .int .i64 0, .int .i64 0, .int .i64 0, .int .i64 0] 27)) = W at h40q h41q ⊢
  generalize w.heap.size = n at h40q h41q ⊢
  refine (D _).mono ?_
  rintro e u42q ⟨rfl, hb⟩
  have h43q : Hid (Gd n w u42q) := h40q.out.later hb
  have h44q : Hid (TAt u42q n Tb.zero) := h41q.out.later hb
  clear h40q h41q
  clear hb
  clear D
  have l45q : n ≤ u42q.heap.size := h43q.out.le
  have l46q : n < u42q.heap.size := h44q.out.lt
  have h47q : Hid (Gd n w (u42q.alloc (.cells #[.int .i64 0, .int .i64 0] 31))) := h43q.out.new (.cells #[.int .i64 0, .int .i64 0] 31)
  have h48q : Hid (TAt (u42q.alloc (.cells #[.int .i64 0, .int .i64 0] 31)) n Tb.zero) := h44q.out.new (.cells #[.int .i64 0, .int .i64 0] 31)
  clear h43q h44q
  have h49q : Hid (Bo (u42q.alloc (.cells #[.int .i64 0, .int .i64 0] 31)) u42q.heap.size [.int .i64 0, .int .i64 0]) := Bo.born u42q [.int .i64 0, .int .i64 0] 31 (by simp)
  go_wp2_with (first
    | (refine wpList_store_mid rfl 27 _ _ rfl n _ T1.all.toArray rfl rfl (h48q.out.thereOf T1) (HZ.out T1) (T1.all_all) ?_
       have h50q : Hid (Gd n w ((u42q.alloc (.cells #[.int .i64 0, .int .i64 0] 31)).setCells n 0 T1.all)) := h47q.out.asideAll (by omega) T1
       have h51q : Hid (TAt ((u42q.alloc (.cells #[.int .i64 0, .int .i64 0] 31)).setCells n 0 T1.all) n T1) := h48q.out.setAll T1
       have h52q : Hid (Bo ((u42q.alloc (.cells #[.int .i64 0, .int .i64 0] 31)).setCells n 0 T1.all) u42q.heap.size [.int .i64 0, .int .i64 0]) := h49q.out.asideAll (by omega) T1
       clear h47q h48q h49q
       generalize ((u42q.alloc (.cells #[.int .i64 0, .int .i64 0] 31)).setCells n 0 T1.all) = u53q at h50q h51q h52q  ⊢)
    | (refine wpList_store_mid rfl 31 _ _ rfl u42q.heap.size _ #[.int .i64 (1), .int .i64 (0)] rfl rfl h52q.out.there2 HA.out (two_one _ _) ?_
       have h54q : Hid (Gd n w (u53q.setCells u42q.heap.size 0 [.int .i64 (1), .int .i64 (0)])) := h50q.out.asideL (by omega) 0 [.int .i64 (1), .int .i64 (0)]
       have h55q : Hid (TAt (u53q.setCells u42q.heap.size 0 [.int .i64 (1), .int .i64 (0)]) n T1) := h51q.out.asideL (by omega) 0 [.int .i64 (1), .int .i64 (0)]
       have h56q : Hid (Bo (u53q.setCells u42q.heap.size 0 [.int .i64 (1), .int .i64 (0)]) u42q.heap.size [.int .i64 (1), .int .i64 (0)]) := h52q.out.set2 (.int .i64 (1)) (.int .i64 (0))
       clear h50q h51q h52q
       generalize (u53q.setCells u42q.heap.size 0 [.int .i64 (1), .int .i64 (0)]) = u57q at h54q h55q h56q  ⊢)
    | (refine wpList_load_mid rfl 27 _ rfl n _ rfl T1.all _ h55q.out.range HD.out rfl (HS.out T1) ?_))
  refine (E _).mono ?_
  rintro e u58q ⟨rfl, hb⟩
  have h59q : Hid (Gd n w u58q) := h54q.out.later hb
  have h60q : Hid (TAt u58q n T1) := h55q.out.later hb
  have h61q : Hid (Bo u58q u42q.heap.size [.int .i64 (1), .int .i64 (0)]) := h56q.out.later hb
  clear h54q h55q h56q
  clear hb
  clear E
  have l62q : n ≤ u58q.heap.size := h59q.out.le
  have l63q : n < u58q.heap.size := h60q.out.lt
  have l64q : u42q.heap.size < u58q.heap.size := h61q.out.lt
  have h65q : Hid (Gd n w (u58q.alloc (.cells #[.int .i64 0, .int .i64 0, .int .i64 0, .int .i64 0, .int .i64 0, .int .i64 0, .int .i64 0, .int .i64 0, .int .i64 0, .int .i64 0, .int .i64 0, .int .i64 0, .int .i64 0, .int .i64 0, .int .i64 0, .int .i64 0] 27))) := h59q.out.new (.cells #[.int .i64 0, .int .i64 0, .int .i64 0, .int .i64 0, .int .i64 0, .int .i64 0, .int .i64 0, .int .i64 0, .int .i64 0, .int .i64 0, .int .i64 0, .int .i64 0, .int .i64 0, .int .i64 0, .int .i64 0, .int .i64 0] 27)
  have h66q : Hid (TAt (u58q.alloc (.cells #[.int .i64 0, .int .i64 0, .int .i64 0, .int .i64 0, .int .i64 0, .int .i64 0, .int .i64 0, .int .i64 0, .int .i64 0, .int .i64 0, .int .i64 0, .int .i64 0, .int .i64 0, .int .i64 0, .int .i64 0, .int .i64 0] 27)) n T1) := h60q.out.new (.cells #[.int .i64 0, .int .i64 0, .int .i64 0, .int .i64 0, .int .i64 0, .int .i64 0, .int .i64 0, .int .i64 0, .int .i64 0, .int .i64 0, .int .i64 0, .int .i64 0, .int .i64 0, .int .i64 0, .int .i64 0, .int .i64 0] 27)
  have h67q : Hid (Bo (u58q.alloc (.cells #[.int .i64 0, .int .i64 0, .int .i64 0, .int .i64 0, .int .i64 0, .int .i64 0, .int .i64 0, .int .i64 0, .int .i64 0, .int .i64 0, .int .i64 0, .int .i64 0, .int .i64 0, .int .i64 0, .int .i64 0, .int .i64 0] 27)) u42q.heap.size [.int .i64 (1), .int .i64 (0)]) := h61q.out.new (.cells #[.int .i64 0, .int .i64 0, .int .i64 0, .int .i64 0, .int .i64 0, .int .i64 0, .int .i64 0, .int .i64 0, .int .i64 0, .int .i64 0, .int .i64 0, .int .i64 0, .int .i64 0, .int .i64 0, .int .i64 0, .int .i64 0] 27)
  clear h59q h60q h61q
  have h68q : Hid (TAt (u58q.alloc (.cells #[.int .i64 0, .int .i64 0, .int .i64 0, .int .i64 0, .int .i64 0, .int .i64 0, .int .i64 0, .int .i64 0, .int .i64 0, .int .i64 0, .int .i64 0, .int .i64 0, .int .i64 0, .int .i64 0, .int .i64 0, .int .i64 0] 27)) u58q.heap.size Tb.zero) := TAt.bornZero u58q 27 (by simp)
  have h69q : Hid (Gd n w ((u58q.alloc (.cells #[.int .i64 0, .int .i64 0, .int .i64 0, .int .i64 0, .int .i64 0, .int .i64 0, .int .i64 0, .int .i64 0, .int .i64 0, .int .i64 0, .int .i64 0, .int .i64 0, .int .i64 0, .int .i64 0, .int .i64 0, .int .i64 0] 27)).alloc (.cells #[.int .i64 0, .int .i64 0] 31))) := h65q.out.new (.cells #[.int .i64 0, .int .i64 0] 31)
  have h70q : Hid (TAt ((u58q.alloc (.cells #[.int .i64 0, .int .i64 0, .int .i64 0, .int .i64 0, .int .i64 0, .int .i64 0, .int .i64 0, .int .i64 0, .int .i64 0, .int .i64 0, .int .i64 0, .int .i64 0, .int .i64 0, .int .i64 0, .int .i64 0, .int .i64 0] 27)).alloc (.cells #[.int .i64 0, .int .i64 0] 31)) n T1) := h66q.out.new (.cells #[.int .i64 0, .int .i64 0] 31)
  have h71q : Hid (Bo ((u58q.alloc (.cells #[.int .i64 0, .int .i64 0, .int .i64 0, .int .i64 0, .int .i64 0, .int .i64 0, .int .i64 0, .int .i64 0, .int .i64 0, .int .i64 0, .int .i64 0, .int .i64 0, .int .i64 0, .int .i64 0, .int .i64 0, .int .i64 0] 27)).alloc (.cells #[.int .i64 0, .int .i64 0] 31)) u42q.heap.size [.int .i64 (1), .int .i64 (0)]) := h67q.out.new (.cells #[.int .i64 0, .int .i64 0] 31)
  have h72q : Hid (TAt ((u58q.alloc (.cells #[.int .i64 0, .int .i64 0, .int .i64 0, .int .i64 0, .int .i64 0, .int .i64 0, .int .i64 0, .int .i64 0, .int .i64 0, .int .i64 0, .int .i64 0, .int .i64 0, .int .i64 0, .int .i64 0, .int .i64 0, .int .i64 0] 27)).alloc (.cells #[.int .i64 0, .int .i64 0] 31)) u58q.heap.size Tb.zero) := h68q.out.new (.cells #[.int .i64 0, .int .i64 0] 31)
  clear h65q h66q h67q h68q
  have h73q : Hid (Bo ((u58q.alloc (.cells #[.int .i64 0, .int .i64 0, .int .i64 0, .int .i64 0, .int .i64 0, .int .i64 0, .int .i64 0, .int .i64 0, .int .i64 0, .int .i64 0, .int .i64 0, .int .i64 0, .int .i64 0, .int .i64 0, .int .i64 0, .int .i64 0] 27)).alloc (.cells #[.int .i64 0, .int .i64 0] 31)) (u58q.heap.size + 1) [.int .i64 0, .int .i64 0]) := Bo.born (u58q.alloc (.cells #[.int .i64 0, .int .i64 0, .int .i64 0, .int .i64 0, .int .i64 0, .int .i64 0, .int .i64 0, .int .i64 0, .int .i64 0, .int .i64 0, .int .i64 0, .int .i64 0, .int .i64 0, .int .i64 0, .int .i64 0, .int .i64 0] 27)) [.int .i64 0, .int .i64 0] 31 (by simp)
  go_wp2_with (first
    | (refine wpList_store_mid rfl 27 _ _ rfl u58q.heap.size _ T1.all.toArray rfl rfl (h72q.out.thereOf T1) (HZ.out T1) (T1.all_all) ?_
       have h74q : Hid (Gd n w (((u58q.alloc (.cells #[.int .i64 0, .int .i64 0, .int .i64 0, .int .i64 0, .int .i64 0, .int .i64 0, .int .i64 0, .int .i64 0, .int .i64 0, .int .i64 0, .int .i64 0, .int .i64 0, .int .i64 0, .int .i64 0, .int .i64 0, .int .i64 0] 27)).alloc (.cells #[.int .i64 0, .int .i64 0] 31)).setCells u58q.heap.size 0 T1.all)) := h69q.out.asideAll (by omega) T1
       have h75q : Hid (TAt (((u58q.alloc (.cells #[.int .i64 0, .int .i64 0, .int .i64 0, .int .i64 0, .int .i64 0, .int .i64 0, .int .i64 0, .int .i64 0, .int .i64 0, .int .i64 0, .int .i64 0, .int .i64 0, .int .i64 0, .int .i64 0, .int .i64 0, .int .i64 0] 27)).alloc (.cells #[.int .i64 0, .int .i64 0] 31)).setCells u58q.heap.size 0 T1.all) n T1) := h70q.out.asideAll (by omega) T1
       have h76q : Hid (Bo (((u58q.alloc (.cells #[.int .i64 0, .int .i64 0, .int .i64 0, .int .i64 0, .int .i64 0, .int .i64 0, .int .i64 0, .int .i64 0, .int .i64 0, .int .i64 0, .int .i64 0, .int .i64 0, .int .i64 0, .int .i64 0, .int .i64 0, .int .i64 0] 27)).alloc (.cells #[.int .i64 0, .int .i64 0] 31)).setCells u58q.heap.size 0 T1.all) u42q.heap.size [.int .i64 (1), .int .i64 (0)]) := h71q.out.asideAll (by omega) T1
       have h77q : Hid (TAt (((u58q.alloc (.cells #[.int .i64 0, .int .i64 0, .int .i64 0, .int .i64 0, .int .i64 0, .int .i64 0, .int .i64 0, .int .i64 0, .int .i64 0, .int .i64 0, .int .i64 0, .int .i64 0, .int .i64 0, .int .i64 0, .int .i64 0, .int .i64 0] 27)).alloc (.cells #[.int .i64 0, .int .i64 0] 31)).setCells u58q.heap.size 0 T1.all) u58q.heap.size T1) := h72q.out.setAll T1
       have h78q : Hid (Bo (((u58q.alloc (.cells #[.int .i64 0, .int .i64 0, .int .i64 0, .int .i64 0, .int .i64 0, .int .i64 0, .int .i64 0, .int .i64 0, .int .i64 0, .int .i64 0, .int .i64 0, .int .i64 0, .int .i64 0, .int .i64 0, .int .i64 0, .int .i64 0] 27)).alloc (.cells #[.int .i64 0, .int .i64 0] 31)).setCells u58q.heap.size 0 T1.all) (u58q.heap.size + 1) [.int .i64 0, .int .i64 0]) := h73q.out.asideAll (by omega) T1
       clear h69q h70q h71q h72q h73q
       generalize (((u58q.alloc (.cells #[.int .i64 0, .int .i64 0, .int .i64 0, .int .i64 0, .int .i64 0, .int .i64 0, .int .i64 0, .int .i64 0, .int .i64 0, .int .i64 0, .int .i64 0, .int .i64 0, .int .i64 0, .int .i64 0, .int .i64 0, .int .i64 0] 27)).alloc (.cells #[.int .i64 0, .int .i64 0] 31)).setCells u58q.heap.size 0 T1.all) = u79q at h74q h75q h76q h77q h78q  ⊢)
    | (refine wpList_store_mid rfl 31 _ _ rfl (u58q.heap.size + 1) _ #[.int .i64 (1), .int .i64 (7)] rfl rfl h78q.out.there2 HA.out (two_one _ _) ?_
       have h80q : Hid (Gd n w (u79q.setCells (u58q.heap.size + 1) 0 [.int .i64 (1), .int .i64 (7)])) := h74q.out.asideL (by omega) 0 [.int .i64 (1), .int .i64 (7)]
       have h81q : Hid (TAt (u79q.setCells (u58q.heap.size + 1) 0 [.int .i64 (1), .int .i64 (7)]) n T1) := h75q.out.asideL (by omega) 0 [.int .i64 (1), .int .i64 (7)]
       have h82q : Hid (Bo (u79q.setCells (u58q.heap.size + 1) 0 [.int .i64 (1), .int .i64 (7)]) u42q.heap.size [.int .i64 (1), .int .i64 (0)]) := h76q.out.asideL (by omega) 0 [.int .i64 (1), .int .i64 (7)]
       have h83q : Hid (TAt (u79q.setCells (u58q.heap.size + 1) 0 [.int .i64 (1), .int .i64 (7)]) u58q.heap.size T1) := h77q.out.asideL (by omega) 0 [.int .i64 (1), .int .i64 (7)]
       have h84q : Hid (Bo (u79q.setCells (u58q.heap.size + 1) 0 [.int .i64 (1), .int .i64 (7)]) (u58q.heap.size + 1) [.int .i64 (1), .int .i64 (7)]) := h78q.out.set2 (.int .i64 (1)) (.int .i64 (7))
       clear h74q h75q h76q h77q h78q
       generalize (u79q.setCells (u58q.heap.size + 1) 0 [.int .i64 (1), .int .i64 (7)]) = u85q at h80q h81q h82q h83q h84q  ⊢
       have ca0 := h82q.out.at 0 rfl
       have ca1 := h82q.out.at 1 rfl
       have cb0 := h84q.out.at 0 rfl
       have cb1 := h84q.out.at 1 rfl)
    | (refine wpList_load_wanted (by rfl) 27 _ rfl n _ rfl T1.all _ h81q.out.range HD.out rfl (HS.out T1) ?_))
  refine (L _).mono ?_
  rintro e u86q ⟨rfl, hb⟩
  have h87q : Hid (Gd n w u86q) := h80q.out.later hb
  have h88q : Hid (TAt u86q n T1) := h81q.out.later hb
  have h89q : Hid (Bo u86q u42q.heap.size [.int .i64 (1), .int .i64 (0)]) := h82q.out.later hb
  have h90q : Hid (TAt u86q u58q.heap.size T1) := h83q.out.later hb
  have h91q : Hid (Bo u86q (u58q.heap.size + 1) [.int .i64 (1), .int .i64 (7)]) := h84q.out.later hb
  clear h80q h81q h82q h83q h84q
  clear hb
  clear ca0 ca1 cb0 cb1 L
  have c0 := h88q.out.key (i := 7) (by decide)
  have c1 := h88q.out.val (i := 7) (by decide)
  rw [K7.out] at c0
  rw [V7.out] at c1
  simp only [Nat.reduceMul, Nat.reduceAdd] at c0 c1
  go_wp2
  go_ret
  exact ⟨rfl, h87q.out.2⟩
end Go.Proofs.Ytojnkfdodjcnfab
