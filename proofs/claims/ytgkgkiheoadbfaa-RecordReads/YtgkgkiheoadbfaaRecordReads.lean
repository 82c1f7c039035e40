/- RecordReads is proved: for every thirty-two words and every number of a thread the call returns true (the kind, the object and any toggle of any record are the document's). -/
import Derived.Test.YtgkgkiheoadbfaaRows
import Derived.Test.YtgkgkiheoadbfaaPk00
import Derived.Test.YtgkgkiheoadbfaaPk02
import Derived.Deep.DeepCutAuto
import Derived.Deep.RegionHeld3

namespace Go.Proofs.Ytgkgkiheoadbfaa.Tab.recordReads
set_option maxRecDepth 20000
open Go.ChangeShapes Go.WideShapes Go.ChangeAt Go.RowKit
set_option linter.unusedVariables false

theorem own : ownKnob Try.prog.godebug = none := by kernel_rfl

set_option maxHeartbeats 8000000 in
set_option maxRecDepth 20000 in
theorem walk (r : Nat → Nat) (t : Int) (U : ∀ j, j < 32 → r j < 18446744073709551616) (w1 : (Lit.int .i64 t).wf = true) (w : World) :
    Calls Try.prog 3 #[.agg (rl r).toArray, .int .i64 t] w fun e w' => e = .returned (.bool true) ∧ Below w.heap.size w w' := by
  clear w1
  obtain ⟨q, hq⟩ : ∃ q, q = min (r 0) 4294967296 := ⟨_, rfl⟩
  have KI : Hid (∀ w : World, _) := recKind_is r hq
  have OI : Hid (∀ w : World, _) := recObject_is r
  have EE := cells_equal
  obtain ⟨x, hx⟩ : ∃ x, r 0 = x := ⟨_, rfl⟩
  obtain ⟨z, hz⟩ : ∃ z, r 26 = z := ⟨_, rfl⟩
  have x64 : x < 18446744073709551616 := hx ▸ U 0 (by decide)
  have z64 : z < 18446744073709551616 := hz ▸ U 26 (by decide)
  rw [hx] at hq
  have HX : Hid _ := hx
  have HZ : Hid _ := hz
  have U64 : Hid _ := U
  clear hx U
  have hM : Hid _ := ((Ms.nil w).born (rl r) 24 (b := w.heap.size) rfl)
  by_cases hx4 : x < 4294967296
  · have e1 : (x : Int) < 4294967296 := by omega
    have e2 : IntKind.i64.wrap (x : Int) = x := by rw [IntKind.wrap_i64]; omega
    obtain rfl : q = x := by omega
    clear hq hx4
    by_cases ht : 0 ≤ t ∧ t < 4
    · obtain ⟨i, rfl⟩ := Int.eq_ofNat_of_zero_le ht.1
      have hi : i < 4 := by have := ht.2; omega
      have TG : Hid (∀ w : World, _) := toggle_yes r hi (U64.out 26 (by decide))
      rw [hz] at TG
      have BI : Hid (∀ w : World, _) := fun w => refBit_yes z i w z64 (by omega)
      have t1 : (0 : Int) ≤ (i : Int) := ht.1
      have t2 : (i : Int) < 4 := ht.2
      clear ht hi
      generalize z.testBit i = b at *
      clear hz
      have x1 := (hM.out.at 0 rfl).rwordx (show 0 < 32 by decide) HX.out
      have x2 := (hM.out.at 0 rfl).rwordx (show 26 < 32 by decide) HZ.out
      go_enter Try.func3, Try.ntmps3
      go_wp2_with fail
      clear x1 x2
      generalize World.alloc _ _ = W at hM ⊢
      generalize hsz : w.heap.size = n at hM ⊢
      clear hsz
      refine (BI.out _).mono ?_
      rintro e W ⟨rfl, hg⟩
      have hb := hg.below
      clear hg
      replace hM := hid (hM.out.later hb)
      clear hb
      cases b
      · go_wp2_with fail
        replace hM := hid (hM.out.drew)
        refine wp_region_held_drew (S := fun w' => Bo w' n (rl r)) (by kernel_rfl) (hM.out.at 0 rfl) (fun hH => ?_)
        generalize World.drew _ = W at hM hH  ⊢
        refine tkR 0 rfl hH (fun _ h => h) (rwR r) ?_
        simp only [Act.put, p1, p2, p3]
        refine tk 2 rfl hH ?_
        simp only [Act.put, p1, p2, p3]
        refine rd1 1 rfl (fun K hK => ?_)
        go_simp
        refine (KI.out _).mono ?_
        rintro e W ⟨rfl, hb⟩
        replace hM := hid (hM.out.later hb)
        clear hb
        go_wp2_with fail
        refine hK.out _ _ (hM.out.at 0 rfl) (fun hH => ?_)
        clear hK K
        try simp only [Act.put, p1, p2, p3]
        refine tk 3 rfl hH ?_
        simp only [Act.put, p1, p2, p3]
        refine tk 4 rfl hH ?_
        simp only [Act.put, p1, p2, p3]
        refine tkR 5 rfl hH (fun _ h => h) (rwR r) ?_
        simp only [Act.put, p1, p2, p3]
        refine tk 7 rfl hH ?_
        simp only [Act.put, p1, p2, p3]
        refine rd1 6 rfl (fun K hK => ?_)
        go_simp
        refine (OI.out _).mono ?_
        rintro e W ⟨rfl, hb⟩
        replace hM := hid (hM.out.later hb)
        clear hb
        go_wp2_with fail
        refine hK.out _ _ (hM.out.at 0 rfl) (fun hH => ?_)
        clear hK K
        try simp only [Act.put, p1, p2, p3]
        refine rd1 8 rfl (fun K hK => ?_)
        go_simp
        refine (cellsOf_is (d := ob r) ⟨fun j hj => (hM.out.at 0 rfl).rword (show 1 + j < 32 by omega)⟩).mono ?_
        rintro e W ⟨rfl, hb⟩
        replace hM := hid (hM.out.later hb)
        clear hb
        go_wp2_with fail
        refine hK.out _ _ (hM.out.at 0 rfl) (fun hH => ?_)
        clear hK K
        try simp only [Act.put, p1, p2, p3]
        refine tk 9 rfl hH ?_
        simp only [Act.put, p1, p2, p3]
        refine tk 10 rfl hH ?_
        simp only [Act.put, p1, p2, p3]
        refine tk 11 rfl hH ?_
        simp only [Act.put, p1, p2, p3]
        refine tkR 12 rfl hH (fun _ h => h) (rwR r) ?_
        simp only [Act.put, p1, p2, p3]
        refine tk 13 rfl hH ?_
        simp only [Act.put, p1, p2, p3]
        refine tk 15 rfl hH ?_
        simp only [Act.put, p1, p2, p3]
        refine rd1 14 rfl (fun K hK => ?_)
        go_simp
        refine (TG.out _).mono ?_
        rintro e W ⟨rfl, hb⟩
        replace hM := hid (hM.out.later hb)
        clear hb
        go_wp2_with fail
        refine hK.out _ _ (hM.out.at 0 rfl) (fun hH => ?_)
        clear hK K
        try simp only [Act.put, p1, p2, p3]
        refine tk 16 rfl hH ?_
        simp only [Act.put, p1, p2, p3]
        refine tk 17 rfl hH ?_
        simp only [Act.put, p1, p2, p3]
        refine tk 18 rfl hH ?_
        simp only [Act.put, p1, p2, p3]
        refine wpAnyH_done (by kernel_rfl) ?_ _
        go_wp2
        go_ret
        exact ⟨rfl, hM.out.below⟩
      · go_wp2_with fail
        replace hM := hid (hM.out.drew)
        refine wp_region_held_drew (S := fun w' => Bo w' n (rl r)) (by kernel_rfl) (hM.out.at 0 rfl) (fun hH => ?_)
        generalize World.drew _ = W at hM hH  ⊢
        refine tkR 0 rfl hH (fun _ h => h) (rwR r) ?_
        simp only [Act.put, p1, p2, p3]
        refine tk 2 rfl hH ?_
        simp only [Act.put, p1, p2, p3]
        refine rd1 1 rfl (fun K hK => ?_)
        go_simp
        refine (KI.out _).mono ?_
        rintro e W ⟨rfl, hb⟩
        replace hM := hid (hM.out.later hb)
        clear hb
        go_wp2_with fail
        refine hK.out _ _ (hM.out.at 0 rfl) (fun hH => ?_)
        clear hK K
        try simp only [Act.put, p1, p2, p3]
        refine tk 3 rfl hH ?_
        simp only [Act.put, p1, p2, p3]
        refine tk 4 rfl hH ?_
        simp only [Act.put, p1, p2, p3]
        refine tkR 5 rfl hH (fun _ h => h) (rwR r) ?_
        simp only [Act.put, p1, p2, p3]
        refine tk 7 rfl hH ?_
        simp only [Act.put, p1, p2, p3]
        refine rd1 6 rfl (fun K hK => ?_)
        go_simp
        refine (OI.out _).mono ?_
        rintro e W ⟨rfl, hb⟩
        replace hM := hid (hM.out.later hb)
        clear hb
        go_wp2_with fail
        refine hK.out _ _ (hM.out.at 0 rfl) (fun hH => ?_)
        clear hK K
        try simp only [Act.put, p1, p2, p3]
        refine rd1 8 rfl (fun K hK => ?_)
        go_simp
        refine (cellsOf_is (d := ob r) ⟨fun j hj => (hM.out.at 0 rfl).rword (show 1 + j < 32 by omega)⟩).mono ?_
        rintro e W ⟨rfl, hb⟩
        replace hM := hid (hM.out.later hb)
        clear hb
        go_wp2_with fail
        refine hK.out _ _ (hM.out.at 0 rfl) (fun hH => ?_)
        clear hK K
        try simp only [Act.put, p1, p2, p3]
        refine tk 9 rfl hH ?_
        simp only [Act.put, p1, p2, p3]
        refine tk 10 rfl hH ?_
        simp only [Act.put, p1, p2, p3]
        refine tk 11 rfl hH ?_
        simp only [Act.put, p1, p2, p3]
        refine tkR 12 rfl hH (fun _ h => h) (rwR r) ?_
        simp only [Act.put, p1, p2, p3]
        refine tk 13 rfl hH ?_
        simp only [Act.put, p1, p2, p3]
        refine tk 15 rfl hH ?_
        simp only [Act.put, p1, p2, p3]
        refine rd1 14 rfl (fun K hK => ?_)
        go_simp
        refine (TG.out _).mono ?_
        rintro e W ⟨rfl, hb⟩
        replace hM := hid (hM.out.later hb)
        clear hb
        go_wp2_with fail
        refine hK.out _ _ (hM.out.at 0 rfl) (fun hH => ?_)
        clear hK K
        try simp only [Act.put, p1, p2, p3]
        refine tk 16 rfl hH ?_
        simp only [Act.put, p1, p2, p3]
        refine tk 17 rfl hH ?_
        simp only [Act.put, p1, p2, p3]
        refine tk 18 rfl hH ?_
        simp only [Act.put, p1, p2, p3]
        refine wpAnyH_done (by kernel_rfl) ?_ _
        go_wp2
        go_ret
        exact ⟨rfl, hM.out.below⟩
    · rcases (by omega : t < 0 ∨ 4 ≤ t) with ht | ht
      · have TG : Hid (∀ w : World, _) := toggle_no r (t := t) (by omega)
        clear hz
        have t1 : ¬ (0 : Int) ≤ t := by omega
        clear ht
        have x1 := (hM.out.at 0 rfl).rwordx (show 0 < 32 by decide) HX.out
        have x2 := (hM.out.at 0 rfl).rwordx (show 26 < 32 by decide) HZ.out
        go_enter Try.func3, Try.ntmps3
        go_wp2_with fail
        clear x1 x2
        generalize World.alloc _ _ = W at hM ⊢
        generalize hsz : w.heap.size = n at hM ⊢
        clear hsz
        replace hM := hid (hM.out.drew)
        refine wp_region_held_drew (S := fun w' => Bo w' n (rl r)) (by kernel_rfl) (hM.out.at 0 rfl) (fun hH => ?_)
        generalize World.drew _ = W at hM hH  ⊢
        refine tkR 0 rfl hH (fun _ h => h) (rwR r) ?_
        simp only [Act.put, p1, p2, p3]
        refine tk 2 rfl hH ?_
        simp only [Act.put, p1, p2, p3]
        refine rd1 1 rfl (fun K hK => ?_)
        go_simp
        refine (KI.out _).mono ?_
        rintro e W ⟨rfl, hb⟩
        replace hM := hid (hM.out.later hb)
        clear hb
        go_wp2_with fail
        refine hK.out _ _ (hM.out.at 0 rfl) (fun hH => ?_)
        clear hK K
        try simp only [Act.put, p1, p2, p3]
        refine tk 3 rfl hH ?_
        simp only [Act.put, p1, p2, p3]
        refine tk 4 rfl hH ?_
        simp only [Act.put, p1, p2, p3]
        refine tkR 5 rfl hH (fun _ h => h) (rwR r) ?_
        simp only [Act.put, p1, p2, p3]
        refine tk 7 rfl hH ?_
        simp only [Act.put, p1, p2, p3]
        refine rd1 6 rfl (fun K hK => ?_)
        go_simp
        refine (OI.out _).mono ?_
        rintro e W ⟨rfl, hb⟩
        replace hM := hid (hM.out.later hb)
        clear hb
        go_wp2_with fail
        refine hK.out _ _ (hM.out.at 0 rfl) (fun hH => ?_)
        clear hK K
        try simp only [Act.put, p1, p2, p3]
        refine rd1 8 rfl (fun K hK => ?_)
        go_simp
        refine (cellsOf_is (d := ob r) ⟨fun j hj => (hM.out.at 0 rfl).rword (show 1 + j < 32 by omega)⟩).mono ?_
        rintro e W ⟨rfl, hb⟩
        replace hM := hid (hM.out.later hb)
        clear hb
        go_wp2_with fail
        refine hK.out _ _ (hM.out.at 0 rfl) (fun hH => ?_)
        clear hK K
        try simp only [Act.put, p1, p2, p3]
        refine tk 9 rfl hH ?_
        simp only [Act.put, p1, p2, p3]
        refine tk 10 rfl hH ?_
        simp only [Act.put, p1, p2, p3]
        refine tk 11 rfl hH ?_
        simp only [Act.put, p1, p2, p3]
        refine tkR 12 rfl hH (fun _ h => h) (rwR r) ?_
        simp only [Act.put, p1, p2, p3]
        refine tk 13 rfl hH ?_
        simp only [Act.put, p1, p2, p3]
        refine tk 15 rfl hH ?_
        simp only [Act.put, p1, p2, p3]
        refine rd1 14 rfl (fun K hK => ?_)
        go_simp
        refine (TG.out _).mono ?_
        rintro e W ⟨rfl, hb⟩
        replace hM := hid (hM.out.later hb)
        clear hb
        go_wp2_with fail
        refine hK.out _ _ (hM.out.at 0 rfl) (fun hH => ?_)
        clear hK K
        try simp only [Act.put, p1, p2, p3]
        refine tk 16 rfl hH ?_
        simp only [Act.put, p1, p2, p3]
        refine tk 17 rfl hH ?_
        simp only [Act.put, p1, p2, p3]
        refine tk 18 rfl hH ?_
        simp only [Act.put, p1, p2, p3]
        refine wpAnyH_done (by kernel_rfl) ?_ _
        go_wp2
        go_ret
        exact ⟨rfl, hM.out.below⟩
      · have TG : Hid (∀ w : World, _) := toggle_no r (t := t) (by omega)
        clear hz
        have t1 : (0 : Int) ≤ t := by omega
        have t2 : ¬ t < 4 := by omega
        clear ht
        have x1 := (hM.out.at 0 rfl).rwordx (show 0 < 32 by decide) HX.out
        have x2 := (hM.out.at 0 rfl).rwordx (show 26 < 32 by decide) HZ.out
        go_enter Try.func3, Try.ntmps3
        go_wp2_with fail
        clear x1 x2
        generalize World.alloc _ _ = W at hM ⊢
        generalize hsz : w.heap.size = n at hM ⊢
        clear hsz
        replace hM := hid (hM.out.drew)
        refine wp_region_held_drew (S := fun w' => Bo w' n (rl r)) (by kernel_rfl) (hM.out.at 0 rfl) (fun hH => ?_)
        generalize World.drew _ = W at hM hH  ⊢
        refine tkR 0 rfl hH (fun _ h => h) (rwR r) ?_
        simp only [Act.put, p1, p2, p3]
        refine tk 2 rfl hH ?_
        simp only [Act.put, p1, p2, p3]
        refine rd1 1 rfl (fun K hK => ?_)
        go_simp
        refine (KI.out _).mono ?_
        rintro e W ⟨rfl, hb⟩
        replace hM := hid (hM.out.later hb)
        clear hb
        go_wp2_with fail
        refine hK.out _ _ (hM.out.at 0 rfl) (fun hH => ?_)
        clear hK K
        try simp only [Act.put, p1, p2, p3]
        refine tk 3 rfl hH ?_
        simp only [Act.put, p1, p2, p3]
        refine tk 4 rfl hH ?_
        simp only [Act.put, p1, p2, p3]
        refine tkR 5 rfl hH (fun _ h => h) (rwR r) ?_
        simp only [Act.put, p1, p2, p3]
        refine tk 7 rfl hH ?_
        simp only [Act.put, p1, p2, p3]
        refine rd1 6 rfl (fun K hK => ?_)
        go_simp
        refine (OI.out _).mono ?_
        rintro e W ⟨rfl, hb⟩
        replace hM := hid (hM.out.later hb)
        clear hb
        go_wp2_with fail
        refine hK.out _ _ (hM.out.at 0 rfl) (fun hH => ?_)
        clear hK K
        try simp only [Act.put, p1, p2, p3]
        refine rd1 8 rfl (fun K hK => ?_)
        go_simp
        refine (cellsOf_is (d := ob r) ⟨fun j hj => (hM.out.at 0 rfl).rword (show 1 + j < 32 by omega)⟩).mono ?_
        rintro e W ⟨rfl, hb⟩
        replace hM := hid (hM.out.later hb)
        clear hb
        go_wp2_with fail
        refine hK.out _ _ (hM.out.at 0 rfl) (fun hH => ?_)
        clear hK K
        try simp only [Act.put, p1, p2, p3]
        refine tk 9 rfl hH ?_
        simp only [Act.put, p1, p2, p3]
        refine tk 10 rfl hH ?_
        simp only [Act.put, p1, p2, p3]
        refine tk 11 rfl hH ?_
        simp only [Act.put, p1, p2, p3]
        refine tkR 12 rfl hH (fun _ h => h) (rwR r) ?_
        simp only [Act.put, p1, p2, p3]
        refine tk 13 rfl hH ?_
        simp only [Act.put, p1, p2, p3]
        refine tk 15 rfl hH ?_
        simp only [Act.put, p1, p2, p3]
        refine rd1 14 rfl (fun K hK => ?_)
        go_simp
        refine (TG.out _).mono ?_
        rintro e W ⟨rfl, hb⟩
        replace hM := hid (hM.out.later hb)
        clear hb
        go_wp2_with fail
        refine hK.out _ _ (hM.out.at 0 rfl) (fun hH => ?_)
        clear hK K
        try simp only [Act.put, p1, p2, p3]
        refine tk 16 rfl hH ?_
        simp only [Act.put, p1, p2, p3]
        refine tk 17 rfl hH ?_
        simp only [Act.put, p1, p2, p3]
        refine tk 18 rfl hH ?_
        simp only [Act.put, p1, p2, p3]
        refine wpAnyH_done (by kernel_rfl) ?_ _
        go_wp2
        go_ret
        exact ⟨rfl, hM.out.below⟩
  · have e1 : ¬ (x : Int) < 4294967296 := by omega
    obtain rfl : q = 4294967296 := by omega
    clear hq hx4
    by_cases ht : 0 ≤ t ∧ t < 4
    · obtain ⟨i, rfl⟩ := Int.eq_ofNat_of_zero_le ht.1
      have hi : i < 4 := by have := ht.2; omega
      have TG : Hid (∀ w : World, _) := toggle_yes r hi (U64.out 26 (by decide))
      rw [hz] at TG
      have BI : Hid (∀ w : World, _) := fun w => refBit_yes z i w z64 (by omega)
      have t1 : (0 : Int) ≤ (i : Int) := ht.1
      have t2 : (i : Int) < 4 := ht.2
      clear ht hi
      generalize z.testBit i = b at *
      clear hz
      have x1 := (hM.out.at 0 rfl).rwordx (show 0 < 32 by decide) HX.out
      have x2 := (hM.out.at 0 rfl).rwordx (show 26 < 32 by decide) HZ.out
      go_enter Try.func3, Try.ntmps3
      go_wp2_with fail
      clear x1 x2
      generalize World.alloc _ _ = W at hM ⊢
      generalize hsz : w.heap.size = n at hM ⊢
      clear hsz
      refine (BI.out _).mono ?_
      rintro e W ⟨rfl, hg⟩
      have hb := hg.below
      clear hg
      replace hM := hid (hM.out.later hb)
      clear hb
      cases b
      · go_wp2_with fail
        replace hM := hid (hM.out.drew)
        refine wp_region_held_drew (S := fun w' => Bo w' n (rl r)) (by kernel_rfl) (hM.out.at 0 rfl) (fun hH => ?_)
        generalize World.drew _ = W at hM hH  ⊢
        refine tkR 0 rfl hH (fun _ h => h) (rwR r) ?_
        simp only [Act.put, p1, p2, p3]
        refine tk 2 rfl hH ?_
        simp only [Act.put, p1, p2, p3]
        refine rd1 1 rfl (fun K hK => ?_)
        go_simp
        refine (KI.out _).mono ?_
        rintro e W ⟨rfl, hb⟩
        replace hM := hid (hM.out.later hb)
        clear hb
        go_wp2_with fail
        refine hK.out _ _ (hM.out.at 0 rfl) (fun hH => ?_)
        clear hK K
        try simp only [Act.put, p1, p2, p3]
        refine tk 3 rfl hH ?_
        simp only [Act.put, p1, p2, p3]
        refine tk 4 rfl hH ?_
        simp only [Act.put, p1, p2, p3]
        refine tkR 5 rfl hH (fun _ h => h) (rwR r) ?_
        simp only [Act.put, p1, p2, p3]
        refine tk 7 rfl hH ?_
        simp only [Act.put, p1, p2, p3]
        refine rd1 6 rfl (fun K hK => ?_)
        go_simp
        refine (OI.out _).mono ?_
        rintro e W ⟨rfl, hb⟩
        replace hM := hid (hM.out.later hb)
        clear hb
        go_wp2_with fail
        refine hK.out _ _ (hM.out.at 0 rfl) (fun hH => ?_)
        clear hK K
        try simp only [Act.put, p1, p2, p3]
        refine rd1 8 rfl (fun K hK => ?_)
        go_simp
        refine (cellsOf_is (d := ob r) ⟨fun j hj => (hM.out.at 0 rfl).rword (show 1 + j < 32 by omega)⟩).mono ?_
        rintro e W ⟨rfl, hb⟩
        replace hM := hid (hM.out.later hb)
        clear hb
        go_wp2_with fail
        refine hK.out _ _ (hM.out.at 0 rfl) (fun hH => ?_)
        clear hK K
        try simp only [Act.put, p1, p2, p3]
        refine tk 9 rfl hH ?_
        simp only [Act.put, p1, p2, p3]
        refine tk 10 rfl hH ?_
        simp only [Act.put, p1, p2, p3]
        refine tk 11 rfl hH ?_
        simp only [Act.put, p1, p2, p3]
        refine tkR 12 rfl hH (fun _ h => h) (rwR r) ?_
        simp only [Act.put, p1, p2, p3]
        refine tk 13 rfl hH ?_
        simp only [Act.put, p1, p2, p3]
        refine tk 15 rfl hH ?_
        simp only [Act.put, p1, p2, p3]
        refine rd1 14 rfl (fun K hK => ?_)
        go_simp
        refine (TG.out _).mono ?_
        rintro e W ⟨rfl, hb⟩
        replace hM := hid (hM.out.later hb)
        clear hb
        go_wp2_with fail
        refine hK.out _ _ (hM.out.at 0 rfl) (fun hH => ?_)
        clear hK K
        try simp only [Act.put, p1, p2, p3]
        refine tk 16 rfl hH ?_
        simp only [Act.put, p1, p2, p3]
        refine tk 17 rfl hH ?_
        simp only [Act.put, p1, p2, p3]
        refine tk 18 rfl hH ?_
        simp only [Act.put, p1, p2, p3]
        refine wpAnyH_done (by kernel_rfl) ?_ _
        go_wp2
        go_ret
        exact ⟨rfl, hM.out.below⟩
      · go_wp2_with fail
        replace hM := hid (hM.out.drew)
        refine wp_region_held_drew (S := fun w' => Bo w' n (rl r)) (by kernel_rfl) (hM.out.at 0 rfl) (fun hH => ?_)
        generalize World.drew _ = W at hM hH  ⊢
        refine tkR 0 rfl hH (fun _ h => h) (rwR r) ?_
        simp only [Act.put, p1, p2, p3]
        refine tk 2 rfl hH ?_
        simp only [Act.put, p1, p2, p3]
        refine rd1 1 rfl (fun K hK => ?_)
        go_simp
        refine (KI.out _).mono ?_
        rintro e W ⟨rfl, hb⟩
        replace hM := hid (hM.out.later hb)
        clear hb
        go_wp2_with fail
        refine hK.out _ _ (hM.out.at 0 rfl) (fun hH => ?_)
        clear hK K
        try simp only [Act.put, p1, p2, p3]
        refine tk 3 rfl hH ?_
        simp only [Act.put, p1, p2, p3]
        refine tk 4 rfl hH ?_
        simp only [Act.put, p1, p2, p3]
        refine tkR 5 rfl hH (fun _ h => h) (rwR r) ?_
        simp only [Act.put, p1, p2, p3]
        refine tk 7 rfl hH ?_
        simp only [Act.put, p1, p2, p3]
        refine rd1 6 rfl (fun K hK => ?_)
        go_simp
        refine (OI.out _).mono ?_
        rintro e W ⟨rfl, hb⟩
        replace hM := hid (hM.out.later hb)
        clear hb
        go_wp2_with fail
        refine hK.out _ _ (hM.out.at 0 rfl) (fun hH => ?_)
        clear hK K
        try simp only [Act.put, p1, p2, p3]
        refine rd1 8 rfl (fun K hK => ?_)
        go_simp
        refine (cellsOf_is (d := ob r) ⟨fun j hj => (hM.out.at 0 rfl).rword (show 1 + j < 32 by omega)⟩).mono ?_
        rintro e W ⟨rfl, hb⟩
        replace hM := hid (hM.out.later hb)
        clear hb
        go_wp2_with fail
        refine hK.out _ _ (hM.out.at 0 rfl) (fun hH => ?_)
        clear hK K
        try simp only [Act.put, p1, p2, p3]
        refine tk 9 rfl hH ?_
        simp only [Act.put, p1, p2, p3]
        refine tk 10 rfl hH ?_
        simp only [Act.put, p1, p2, p3]
        refine tk 11 rfl hH ?_
        simp only [Act.put, p1, p2, p3]
        refine tkR 12 rfl hH (fun _ h => h) (rwR r) ?_
        simp only [Act.put, p1, p2, p3]
        refine tk 13 rfl hH ?_
        simp only [Act.put, p1, p2, p3]
        refine tk 15 rfl hH ?_
        simp only [Act.put, p1, p2, p3]
        refine rd1 14 rfl (fun K hK => ?_)
        go_simp
        refine (TG.out _).mono ?_
        rintro e W ⟨rfl, hb⟩
        replace hM := hid (hM.out.later hb)
        clear hb
        go_wp2_with fail
        refine hK.out _ _ (hM.out.at 0 rfl) (fun hH => ?_)
        clear hK K
        try simp only [Act.put, p1, p2, p3]
        refine tk 16 rfl hH ?_
        simp only [Act.put, p1, p2, p3]
        refine tk 17 rfl hH ?_
        simp only [Act.put, p1, p2, p3]
        refine tk 18 rfl hH ?_
        simp only [Act.put, p1, p2, p3]
        refine wpAnyH_done (by kernel_rfl) ?_ _
        go_wp2
        go_ret
        exact ⟨rfl, hM.out.below⟩
    · rcases (by omega : t < 0 ∨ 4 ≤ t) with ht | ht
      · have TG : Hid (∀ w : World, _) := toggle_no r (t := t) (by omega)
        clear hz
        have t1 : ¬ (0 : Int) ≤ t := by omega
        clear ht
        have x1 := (hM.out.at 0 rfl).rwordx (show 0 < 32 by decide) HX.out
        have x2 := (hM.out.at 0 rfl).rwordx (show 26 < 32 by decide) HZ.out
        go_enter Try.func3, Try.ntmps3
        go_wp2_with fail
        clear x1 x2
        generalize World.alloc _ _ = W at hM ⊢
        generalize hsz : w.heap.size = n at hM ⊢
        clear hsz
        replace hM := hid (hM.out.drew)
        refine wp_region_held_drew (S := fun w' => Bo w' n (rl r)) (by kernel_rfl) (hM.out.at 0 rfl) (fun hH => ?_)
        generalize World.drew _ = W at hM hH  ⊢
        refine tkR 0 rfl hH (fun _ h => h) (rwR r) ?_
        simp only [Act.put, p1, p2, p3]
        refine tk 2 rfl hH ?_
        simp only [Act.put, p1, p2, p3]
        refine rd1 1 rfl (fun K hK => ?_)
        go_simp
        refine (KI.out _).mono ?_
        rintro e W ⟨rfl, hb⟩
        replace hM := hid (hM.out.later hb)
        clear hb
        go_wp2_with fail
        refine hK.out _ _ (hM.out.at 0 rfl) (fun hH => ?_)
        clear hK K
        try simp only [Act.put, p1, p2, p3]
        refine tk 3 rfl hH ?_
        simp only [Act.put, p1, p2, p3]
        refine tk 4 rfl hH ?_
        simp only [Act.put, p1, p2, p3]
        refine tkR 5 rfl hH (fun _ h => h) (rwR r) ?_
        simp only [Act.put, p1, p2, p3]
        refine tk 7 rfl hH ?_
        simp only [Act.put, p1, p2, p3]
        refine rd1 6 rfl (fun K hK => ?_)
        go_simp
        refine (OI.out _).mono ?_
        rintro e W ⟨rfl, hb⟩
        replace hM := hid (hM.out.later hb)
        clear hb
        go_wp2_with fail
        refine hK.out _ _ (hM.out.at 0 rfl) (fun hH => ?_)
        clear hK K
        try simp only [Act.put, p1, p2, p3]
        refine rd1 8 rfl (fun K hK => ?_)
        go_simp
        refine (cellsOf_is (d := ob r) ⟨fun j hj => (hM.out.at 0 rfl).rword (show 1 + j < 32 by omega)⟩).mono ?_
        rintro e W ⟨rfl, hb⟩
        replace hM := hid (hM.out.later hb)
        clear hb
        go_wp2_with fail
        refine hK.out _ _ (hM.out.at 0 rfl) (fun hH => ?_)
        clear hK K
        try simp only [Act.put, p1, p2, p3]
        refine tk 9 rfl hH ?_
        simp only [Act.put, p1, p2, p3]
        refine tk 10 rfl hH ?_
        simp only [Act.put, p1, p2, p3]
        refine tk 11 rfl hH ?_
        simp only [Act.put, p1, p2, p3]
        refine tkR 12 rfl hH (fun _ h => h) (rwR r) ?_
        simp only [Act.put, p1, p2, p3]
        refine tk 13 rfl hH ?_
        simp only [Act.put, p1, p2, p3]
        refine tk 15 rfl hH ?_
        simp only [Act.put, p1, p2, p3]
        refine rd1 14 rfl (fun K hK => ?_)
        go_simp
        refine (TG.out _).mono ?_
        rintro e W ⟨rfl, hb⟩
        replace hM := hid (hM.out.later hb)
        clear hb
        go_wp2_with fail
        refine hK.out _ _ (hM.out.at 0 rfl) (fun hH => ?_)
        clear hK K
        try simp only [Act.put, p1, p2, p3]
        refine tk 16 rfl hH ?_
        simp only [Act.put, p1, p2, p3]
        refine tk 17 rfl hH ?_
        simp only [Act.put, p1, p2, p3]
        refine tk 18 rfl hH ?_
        simp only [Act.put, p1, p2, p3]
        refine wpAnyH_done (by kernel_rfl) ?_ _
        go_wp2
        go_ret
        exact ⟨rfl, hM.out.below⟩
      · have TG : Hid (∀ w : World, _) := toggle_no r (t := t) (by omega)
        clear hz
        have t1 : (0 : Int) ≤ t := by omega
        have t2 : ¬ t < 4 := by omega
        clear ht
        have x1 := (hM.out.at 0 rfl).rwordx (show 0 < 32 by decide) HX.out
        have x2 := (hM.out.at 0 rfl).rwordx (show 26 < 32 by decide) HZ.out
        go_enter Try.func3, Try.ntmps3
        go_wp2_with fail
        clear x1 x2
        generalize World.alloc _ _ = W at hM ⊢
        generalize hsz : w.heap.size = n at hM ⊢
        clear hsz
        replace hM := hid (hM.out.drew)
        refine wp_region_held_drew (S := fun w' => Bo w' n (rl r)) (by kernel_rfl) (hM.out.at 0 rfl) (fun hH => ?_)
        generalize World.drew _ = W at hM hH  ⊢
        refine tkR 0 rfl hH (fun _ h => h) (rwR r) ?_
        simp only [Act.put, p1, p2, p3]
        refine tk 2 rfl hH ?_
        simp only [Act.put, p1, p2, p3]
        refine rd1 1 rfl (fun K hK => ?_)
        go_simp
        refine (KI.out _).mono ?_
        rintro e W ⟨rfl, hb⟩
        replace hM := hid (hM.out.later hb)
        clear hb
        go_wp2_with fail
        refine hK.out _ _ (hM.out.at 0 rfl) (fun hH => ?_)
        clear hK K
        try simp only [Act.put, p1, p2, p3]
        refine tk 3 rfl hH ?_
        simp only [Act.put, p1, p2, p3]
        refine tk 4 rfl hH ?_
        simp only [Act.put, p1, p2, p3]
        refine tkR 5 rfl hH (fun _ h => h) (rwR r) ?_
        simp only [Act.put, p1, p2, p3]
        refine tk 7 rfl hH ?_
        simp only [Act.put, p1, p2, p3]
        refine rd1 6 rfl (fun K hK => ?_)
        go_simp
        refine (OI.out _).mono ?_
        rintro e W ⟨rfl, hb⟩
        replace hM := hid (hM.out.later hb)
        clear hb
        go_wp2_with fail
        refine hK.out _ _ (hM.out.at 0 rfl) (fun hH => ?_)
        clear hK K
        try simp only [Act.put, p1, p2, p3]
        refine rd1 8 rfl (fun K hK => ?_)
        go_simp
        refine (cellsOf_is (d := ob r) ⟨fun j hj => (hM.out.at 0 rfl).rword (show 1 + j < 32 by omega)⟩).mono ?_
        rintro e W ⟨rfl, hb⟩
        replace hM := hid (hM.out.later hb)
        clear hb
        go_wp2_with fail
        refine hK.out _ _ (hM.out.at 0 rfl) (fun hH => ?_)
        clear hK K
        try simp only [Act.put, p1, p2, p3]
        refine tk 9 rfl hH ?_
        simp only [Act.put, p1, p2, p3]
        refine tk 10 rfl hH ?_
        simp only [Act.put, p1, p2, p3]
        refine tk 11 rfl hH ?_
        simp only [Act.put, p1, p2, p3]
        refine tkR 12 rfl hH (fun _ h => h) (rwR r) ?_
        simp only [Act.put, p1, p2, p3]
        refine tk 13 rfl hH ?_
        simp only [Act.put, p1, p2, p3]
        refine tk 15 rfl hH ?_
        simp only [Act.put, p1, p2, p3]
        refine rd1 14 rfl (fun K hK => ?_)
        go_simp
        refine (TG.out _).mono ?_
        rintro e W ⟨rfl, hb⟩
        replace hM := hid (hM.out.later hb)
        clear hb
        go_wp2_with fail
        refine hK.out _ _ (hM.out.at 0 rfl) (fun hH => ?_)
        clear hK K
        try simp only [Act.put, p1, p2, p3]
        refine tk 16 rfl hH ?_
        simp only [Act.put, p1, p2, p3]
        refine tk 17 rfl hH ?_
        simp only [Act.put, p1, p2, p3]
        refine tk 18 rfl hH ?_
        simp only [Act.put, p1, p2, p3]
        refine wpAnyH_done (by kernel_rfl) ?_ _
        go_wp2
        go_ret
        exact ⟨rfl, hM.out.below⟩


set_option maxRecDepth 100000 in
theorem lifted (os : Os) (started : os.Started) (H : Type) (enc : TypeId × Value → H) :
    ReturnsInHanded {} Try.checked os 3 .any (Rows.recordReadsSpec.pre6 enc Try.prog Try.f3 Rows.recordReadsRow.domain false) (Rows.recordReadsSpec.post enc Try.prog Try.f3 false true false false) := by
  refine returnsInHanded_of_change (C := Try.checked) own started (by kernel_rfl) Try.func3
    (ChangeSpec.witness6 (enc := enc) (C := Try.checked) false ⟨#[], #[.agg #[.int .u64 0, .int .u64 0, .int .u64 0, .int .u64 0, .int .u64 0, .int .u64 0, .int .u64 0, .int .u64 0, .int .u64 0, .int .u64 0, .int .u64 0, .int .u64 0, .int .u64 0, .int .u64 0, .int .u64 0, .int .u64 0, .int .u64 0, .int .u64 0, .int .u64 0, .int .u64 0, .int .u64 0, .int .u64 0, .int .u64 0, .int .u64 0, .int .u64 0, .int .u64 0, .int .u64 0, .int .u64 0, .int .u64 0, .int .u64 0, .int .u64 0, .int .u64 0], .int .i64 0], []⟩ 8 (by kernel_rfl) (by kernel_rfl) (by kernel_rfl) (by kernel_rfl)) ?_
  intro W base args ds gs before hval0 hW hcnd _
  have hval : ∀ (j : Nat) t v, Try.f3.params[j]? = some t → args[j]? = some v → Value.okWide Try.prog W .any base t v := hval0
  have hW' := hW
  obtain ⟨p, q, hA0, hV, rfl, hfz, hnd⟩ := hW
  have hA : DataW.TrodAll enc Try.prog W 0 (fun _ => true) true Try.f3.params.toList args.toList ds p := hA0
  rw [Try.params3] at hA hval
  obtain ⟨v0, vs0, d0, ds0, p0, q0, hargs, rfl, rfl, h0, r0⟩ := trodAll_cons hA
  obtain ⟨v1, vs1, d1, ds1, p1, q1, rfl, rfl, rfl, h1, r1⟩ := trodAll_cons r0
  obtain ⟨rfl, rfl, rfl⟩ := trodAll_nil r1
  obtain rfl : args = #[v0, v1] := by cases args; simp_all
  obtain ⟨rfl, rfl⟩ := trodVars_none hV
  obtain ⟨t0, rfl, u0⟩ := record_of_trod (hval 0 24 v0 rfl rfl) h0
  obtain ⟨a1, rfl, rfl, rfl, w1⟩ := open_int Try.underlying3 (hval 1 3 v1 rfl rfl) h1
  have hlt := hW'.lt
  clear hA0 hval0
  refine (walk t0 a1 u0 w1 W  ).mono fun e W' ⟨he, hg⟩ => ?_
  subst he
  exact ⟨_, rfl, post_below (pv := []) hW' (fun _ _ _ => (trodAll_cons_mk (shut_bool Try.underlying4 _) trodAll_mk0)) (fun sp hsp => (trodAll_cons_mk (record_stay h0 hg (fun x hx => hlt x (by simp [hx])) (fun x hx => hsp x (by simp [hx]))) (trodAll_cons_mk (shut_int Try.underlying3 w1) trodAll_mk0))) (fun _ _ => rfl) (by simp) (hg.frame _)⟩

theorem over : Rows.recordReadsRow.holds Try.pinned (OpenSpec.ofChange Rows.recordReadsSpec) :=
  OpenClaim.holds_of_wide 3 Try.f3 rfl rfl rfl rfl rfl rfl rfl ⟨rfl, rfl, rfl, rfl, rfl⟩ rfl rfl rfl rfl rfl (by kernel_rfl) Try.func3 (by kernel_rfl)
    (of_decide_eq_true (by kernel_rfl)) (by unfold Func.isWrapper; first | (rw [if_pos (by decide +kernel)]; kernel_rfl) | (rw [if_neg (by decide +kernel)]; exact ⟨rfl, rfl⟩))
    (fun os started H enc _ => lifted os started H enc)

theorem proved : Rows.RecordReadsSaid :=
  over
#print axioms proved
end Go.Proofs.Ytgkgkiheoadbfaa.Tab.recordReads
