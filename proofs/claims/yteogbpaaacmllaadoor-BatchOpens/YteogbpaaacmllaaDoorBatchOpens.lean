/- BatchOpens is proved: for every record and every ask the call returns true (whether an ask is open is the document's answer); the library's handle of the type error stands as the program's text lays it. -/
import Derived.Test.YteogbpaaacmllaaDoorRows
import Derived.Test.YteogbpaaacmllaaDoorPk03
import Derived.Test.YteogbpaaacmllaaDoorPk07
import Derived.Test.YteogbpaaacmllaaDoorPk08
import Derived.Test.YteogbpaaacmllaaDoorCards
import Derived.Deep.DeepCutAuto
import Derived.Deep.RegionHeld3
import Derived.SevenTiedAt

namespace Go.Proofs.YteogbpaaacmllaaDoor.Tab.batchOpens
set_option maxRecDepth 20000
open Go.ChangeShapes Go.WideShapes Go.ChangeAt Go.RowKit
set_option linter.unusedVariables false

theorem rwRa (t g o k x : Int) : Rw Tryd.prog 28 [.int .i64 t, .int .i64 g, .int .i64 o, .int .i64 k, .int .i64 x] := ⟨⟨_, Tryd.underlying28, rfl⟩, by kernel_rfl, by intro v hv; simp at hv; rcases hv with rfl | rfl | rfl | rfl | rfl <;> rfl⟩
set_option maxHeartbeats 16000000 in
set_option maxRecDepth 20000 in
theorem walk (r : Nat → Nat) (t g o k x : Int) (U : ∀ j, j < 32 → r j < 18446744073709551616) (w : World) (hT : HandleAt w) :
    Calls Tryd.prog 3 #[.agg (rl r).toArray, .agg #[.int .i64 t, .int .i64 g, .int .i64 o, .int .i64 k, .int .i64 x]] w fun e w' => e = .returned (.bool true) ∧ Below w.heap.size w w' := by
  have HT : Hid (HandleAt w) := hT
  clear hT
  have AO : Hid (∀ {t g o k x : Int} {w : World} {b : Nat} (h : Bo w b [.int .i64 t, .int .i64 g, .int .i64 o, .int .i64 k, .int .i64 x]), Calls Tryd.prog 6 #[.slice (some ⟨b, 0, none⟩) 1 1] w fun e w' => ∃ q cap, e = .returned (.slice (some ⟨q, 0, none⟩) 1 cap) ∧ w.heap.size ≤ q ∧ Bo w' q [.int .i64 t, .int .i64 g, .int .i64 o, .int .i64 k, .int .i64 x] ∧ Below w.heap.size w w') := fun {t g o k x w b} h => by
    have D : Aq w (.slice (some ⟨b, 0, none⟩) 1 1) 1 (fun _ => ⟨t, g, o, k, x⟩) := Or.inr ⟨b, 0, 1, rfl, by decide, by decide, by decide, fun i hi j v hv => by
      obtain rfl : i = 0 := by omega
      rw [Nat.zero_mul, Nat.add_zero, Nat.zero_add]; exact h.cell j v hv⟩
    refine (asksOf_is D (by decide)).mono ?_
    rintro e w' ⟨B, v, hB, he, hO, hb⟩
    rcases hO.form with ⟨_, h⟩ | ⟨q, cap, rfl, hq, hc, hQ⟩
    · cases h
    · exact ⟨q, cap, he, Nat.le_trans hB hq, hQ, hb⟩
  by_cases ht : 0 ≤ t ∧ t < 4
  · obtain ⟨t0, t4⟩ := ht
    by_cases hg : g = 0 ∨ g = 1
    · obtain ⟨tn, rfl⟩ : ∃ n : Nat, t = n := ⟨t.toNat, by omega⟩
      have hn : tn < 4 := by omega
      have h1 : ¬ (tn : Int) < 0 := by omega
      have h2 : ¬ (tn : Int) ≥ 4 := by omega
      have BI : Hid (∀ w : World, _) := fun w => refBit_yes (r 26) tn w (U 26 (by decide)) (by omega)
      obtain ⟨z, hz⟩ : ∃ z, z = r 26 := ⟨_, rfl⟩
      have OP0 := fun v hv => open_yes (U 26 (by decide)) hn hg o k x (v := v) hv
      unfold bt at OP0
      have HZ : Hid _ := hz
      rw [← hz] at OP0 BI
      clear hz hn t0 t4 U
      generalize z.testBit tn = b at *
      have OP : Hid (∀ w : World, _) := OP0 (!(g == ((b.toNat : Nat) : Int))) (by rcases hg with rfl | rfl <;> cases b <;> decide)
      clear OP0
      rcases hg with rfl | rfl <;> cases b
      · have hM : Hid _ := (((Ms.nil w).born (rl r) 24 (b := w.heap.size) rfl).born [.int .i64 (tn : Nat), .int .i64 0, .int .i64 o, .int .i64 k, .int .i64 x] 28 (b := w.heap.size + 1) (by simp))
        go_enter Tryd.func3, Tryd.ntmps3
        go_wp2_with fail
        generalize World.alloc _ _ = W at hM ⊢
        generalize hsz : w.heap.size = n at hM ⊢
        clear hsz
        replace hM := hid (hM.out.drew)
        refine wp_region_held_drew (S := fun w' => Bo w' n (rl r) ∧ Bo w' (n + 1) [.int .i64 (tn : Nat), .int .i64 0, .int .i64 o, .int .i64 k, .int .i64 x]) (by kernel_rfl) ⟨hM.out.at 1 rfl, hM.out.at 0 rfl⟩ (fun hH => ?_)
        generalize World.drew _ = W at hM hH  ⊢
        refine tkR 0 rfl hH (fun _ h => h.1) (rwR r) ?_
        simp only [Act.put, p1, p2, p3]
        refine tkR 1 rfl hH (fun _ h => h.2) (rwRa (tn : Nat) 0 o k x) ?_
        simp only [Act.put, p1, p2, p3]
        refine rd1 2 rfl (fun K hK => ?_)
        go_simp
        replace hM := hid (hM.out.born [.int .i64 (tn : Nat), .int .i64 0, .int .i64 o, .int .i64 k, .int .i64 x] 28 rfl)
        refine hK.out _ _ ⟨hM.out.at 2 rfl, hM.out.at 1 rfl⟩ (fun hH => ?_)
        clear hK K
        generalize W.heap.size = bq1 at hM hH ⊢
        generalize World.alloc _ _ = W at hM hH  ⊢
        try simp only [Act.put, p1, p2, p3]
        refine rd1 3 rfl (fun K hK => ?_)
        go_simp
        refine (AO.out (hM.out.at 0 rfl)).mono ?_
        rintro e W ⟨q, cap, rfl, hq, hQ, hb⟩
        replace hM := hid (hM.out.laterB hb hq hQ)
        clear hb
        clear hq hQ
        go_wp2_with fail
        refine hK.out _ _ ⟨hM.out.at 3 rfl, hM.out.at 2 rfl⟩ (fun hH => ?_)
        clear hK K
        try simp only [Act.put, p1, p2, p3]
        refine tk 4 rfl hH ?_
        simp only [Act.put, p1, p2, p3]
        refine rd1 5 rfl (fun K hK => ?_)
        refine ldR rfl (hM.out.at 0 rfl) (rwAk (tn : Nat) 0 o k x) ?_
        refine hK.out _ _ ⟨hM.out.at 3 rfl, hM.out.at 2 rfl⟩ (fun hH => ?_)
        clear hK K
        try simp only [Act.put, p1, p2, p3]
        refine rd1 6 rfl (fun K hK => ?_)
        go_simp
        refine (OP.out _).mono ?_
        rintro e W ⟨rfl, hb⟩
        replace hM := hid (hM.out.later hb)
        clear hb
        go_wp2_with fail
        refine hK.out _ _ ⟨hM.out.at 3 rfl, hM.out.at 2 rfl⟩ (fun hH => ?_)
        clear hK K
        try simp only [Act.put, p1, p2, p3]
        refine tk 7 rfl hH ?_
        simp only [Act.put, p1, p2, p3]
        refine tk 8 rfl hH ?_
        simp only [Act.put, p1, p2, p3]
        refine tk 9 rfl hH ?_
        simp only [Act.put, p1, p2, p3]
        refine tk 10 rfl hH ?_
        simp only [Act.put, p1, p2, p3]
        refine tk 11 rfl hH ?_
        simp only [Act.put, p1, p2, p3]
        refine wpAnyH_done (by kernel_rfl) ?_ _
        have c2 := hM.out.cell 2 0 rfl rfl
        have c3 := hM.out.cell 2 1 rfl rfl
        go_wp2_with fail
        clear c2 c3
        replace hM := hid (hM.out.drew)
        refine wp_region_held_drew (S := fun w' => Bo w' n (rl r) ∧ Bo w' (n + 1) [.int .i64 (tn : Nat), .int .i64 0, .int .i64 o, .int .i64 k, .int .i64 x]) (by kernel_rfl) ⟨hM.out.at 3 rfl, hM.out.at 2 rfl⟩ (fun hH => ?_)
        generalize World.drew _ = W at hM hH  ⊢
        refine tk 0 rfl hH ?_
        simp only [Act.put, p1, p2, p3]
        refine tk 1 rfl hH ?_
        simp only [Act.put, p1, p2, p3]
        refine tk 2 rfl hH ?_
        simp only [Act.put, p1, p2, p3]
        refine tk 3 rfl hH ?_
        simp only [Act.put, p1, p2, p3]
        refine tk 4 rfl hH ?_
        simp only [Act.put, p1, p2, p3]
        refine tk 5 rfl hH ?_ (by intro w h; have c0 := h.1.rwordx (show 26 < 32 by decide) HZ.out.symm; clear h; go_simp; try with_reducible rfl)
        simp only [Act.put, p1, p2, p3]
        refine tk 6 rfl hH ?_
        simp only [Act.put, p1, p2, p3]
        refine tk 7 rfl hH ?_ (by intro w h; have c0 := h.2.cell 0 _ rfl; clear h; go_simp; try with_reducible rfl)
        simp only [Act.put, p1, p2, p3]
        refine tk 9 rfl hH ?_
        simp only [Act.put, p1, p2, p3]
        refine tk 10 rfl hH ?_ (by intro w h; have c0 := h.2.cell 1 _ rfl; clear h; go_simp; try with_reducible rfl)
        simp only [Act.put, p1, p2, p3]
        refine tk 11 rfl hH ?_
        simp only [Act.put, p1, p2, p3]
        refine rd1 8 rfl (fun K hK => ?_)
        go_simp
        refine (BI.out _).mono ?_
        rintro e W ⟨rfl, hg⟩
        have hb := hg.below
        clear hg
        replace hM := hid (hM.out.later hb)
        clear hb
        go_wp2_with fail
        refine hK.out _ _ ⟨hM.out.at 3 rfl, hM.out.at 2 rfl⟩ (fun hH => ?_)
        clear hK K
        try simp only [Act.put, p1, p2, p3]
        refine tk 12 rfl hH ?_
        simp only [Act.put, p1, p2, p3]
        refine tk 13 rfl hH ?_
        simp only [Act.put, p1, p2, p3]
        refine tk 14 rfl hH ?_
        simp only [Act.put, p1, p2, p3]
        refine tk 15 rfl hH ?_
        simp only [Act.put, p1, p2, p3]
        refine wpAnyH_done (by kernel_rfl) ?_ _
        go_wp2
        go_ret
        exact ⟨rfl, hM.out.below⟩
      · have hM : Hid _ := (((Ms.nil w).born (rl r) 24 (b := w.heap.size) rfl).born [.int .i64 (tn : Nat), .int .i64 0, .int .i64 o, .int .i64 k, .int .i64 x] 28 (b := w.heap.size + 1) (by simp))
        go_enter Tryd.func3, Tryd.ntmps3
        go_wp2_with fail
        generalize World.alloc _ _ = W at hM ⊢
        generalize hsz : w.heap.size = n at hM ⊢
        clear hsz
        replace hM := hid (hM.out.drew)
        refine wp_region_held_drew (S := fun w' => Bo w' n (rl r) ∧ Bo w' (n + 1) [.int .i64 (tn : Nat), .int .i64 0, .int .i64 o, .int .i64 k, .int .i64 x]) (by kernel_rfl) ⟨hM.out.at 1 rfl, hM.out.at 0 rfl⟩ (fun hH => ?_)
        generalize World.drew _ = W at hM hH  ⊢
        refine tkR 0 rfl hH (fun _ h => h.1) (rwR r) ?_
        simp only [Act.put, p1, p2, p3]
        refine tkR 1 rfl hH (fun _ h => h.2) (rwRa (tn : Nat) 0 o k x) ?_
        simp only [Act.put, p1, p2, p3]
        refine rd1 2 rfl (fun K hK => ?_)
        go_simp
        replace hM := hid (hM.out.born [.int .i64 (tn : Nat), .int .i64 0, .int .i64 o, .int .i64 k, .int .i64 x] 28 rfl)
        refine hK.out _ _ ⟨hM.out.at 2 rfl, hM.out.at 1 rfl⟩ (fun hH => ?_)
        clear hK K
        generalize W.heap.size = bq1 at hM hH ⊢
        generalize World.alloc _ _ = W at hM hH  ⊢
        try simp only [Act.put, p1, p2, p3]
        refine rd1 3 rfl (fun K hK => ?_)
        go_simp
        refine (AO.out (hM.out.at 0 rfl)).mono ?_
        rintro e W ⟨q, cap, rfl, hq, hQ, hb⟩
        replace hM := hid (hM.out.laterB hb hq hQ)
        clear hb
        clear hq hQ
        go_wp2_with fail
        refine hK.out _ _ ⟨hM.out.at 3 rfl, hM.out.at 2 rfl⟩ (fun hH => ?_)
        clear hK K
        try simp only [Act.put, p1, p2, p3]
        refine tk 4 rfl hH ?_
        simp only [Act.put, p1, p2, p3]
        refine rd1 5 rfl (fun K hK => ?_)
        refine ldR rfl (hM.out.at 0 rfl) (rwAk (tn : Nat) 0 o k x) ?_
        refine hK.out _ _ ⟨hM.out.at 3 rfl, hM.out.at 2 rfl⟩ (fun hH => ?_)
        clear hK K
        try simp only [Act.put, p1, p2, p3]
        refine rd1 6 rfl (fun K hK => ?_)
        go_simp
        refine (OP.out _).mono ?_
        rintro e W ⟨rfl, hb⟩
        replace hM := hid (hM.out.later hb)
        clear hb
        go_wp2_with fail
        refine hK.out _ _ ⟨hM.out.at 3 rfl, hM.out.at 2 rfl⟩ (fun hH => ?_)
        clear hK K
        try simp only [Act.put, p1, p2, p3]
        refine tk 7 rfl hH ?_
        simp only [Act.put, p1, p2, p3]
        refine tk 8 rfl hH ?_
        simp only [Act.put, p1, p2, p3]
        refine tk 9 rfl hH ?_
        simp only [Act.put, p1, p2, p3]
        refine tk 10 rfl hH ?_
        simp only [Act.put, p1, p2, p3]
        refine tk 11 rfl hH ?_
        simp only [Act.put, p1, p2, p3]
        refine wpAnyH_done (by kernel_rfl) ?_ _
        have c2 := hM.out.cell 2 0 rfl rfl
        have c3 := hM.out.cell 2 1 rfl rfl
        go_wp2_with fail
        clear c2 c3
        replace hM := hid (hM.out.drew)
        refine wp_region_held_drew (S := fun w' => Bo w' n (rl r) ∧ Bo w' (n + 1) [.int .i64 (tn : Nat), .int .i64 0, .int .i64 o, .int .i64 k, .int .i64 x]) (by kernel_rfl) ⟨hM.out.at 3 rfl, hM.out.at 2 rfl⟩ (fun hH => ?_)
        generalize World.drew _ = W at hM hH  ⊢
        refine tk 0 rfl hH ?_
        simp only [Act.put, p1, p2, p3]
        refine tk 1 rfl hH ?_
        simp only [Act.put, p1, p2, p3]
        refine tk 2 rfl hH ?_
        simp only [Act.put, p1, p2, p3]
        refine tk 3 rfl hH ?_
        simp only [Act.put, p1, p2, p3]
        refine tk 4 rfl hH ?_
        simp only [Act.put, p1, p2, p3]
        refine tk 5 rfl hH ?_ (by intro w h; have c0 := h.1.rwordx (show 26 < 32 by decide) HZ.out.symm; clear h; go_simp; try with_reducible rfl)
        simp only [Act.put, p1, p2, p3]
        refine tk 6 rfl hH ?_
        simp only [Act.put, p1, p2, p3]
        refine tk 7 rfl hH ?_ (by intro w h; have c0 := h.2.cell 0 _ rfl; clear h; go_simp; try with_reducible rfl)
        simp only [Act.put, p1, p2, p3]
        refine tk 9 rfl hH ?_
        simp only [Act.put, p1, p2, p3]
        refine tk 10 rfl hH ?_ (by intro w h; have c0 := h.2.cell 1 _ rfl; clear h; go_simp; try with_reducible rfl)
        simp only [Act.put, p1, p2, p3]
        refine tk 11 rfl hH ?_
        simp only [Act.put, p1, p2, p3]
        refine rd1 8 rfl (fun K hK => ?_)
        go_simp
        refine (BI.out _).mono ?_
        rintro e W ⟨rfl, hg⟩
        have hb := hg.below
        clear hg
        replace hM := hid (hM.out.later hb)
        clear hb
        go_wp2_with fail
        refine hK.out _ _ ⟨hM.out.at 3 rfl, hM.out.at 2 rfl⟩ (fun hH => ?_)
        clear hK K
        try simp only [Act.put, p1, p2, p3]
        refine tk 12 rfl hH ?_
        simp only [Act.put, p1, p2, p3]
        refine tk 13 rfl hH ?_
        simp only [Act.put, p1, p2, p3]
        refine tk 14 rfl hH ?_
        simp only [Act.put, p1, p2, p3]
        refine tk 15 rfl hH ?_
        simp only [Act.put, p1, p2, p3]
        refine wpAnyH_done (by kernel_rfl) ?_ _
        go_wp2
        go_ret
        exact ⟨rfl, hM.out.below⟩
      · have hM : Hid _ := (((Ms.nil w).born (rl r) 24 (b := w.heap.size) rfl).born [.int .i64 (tn : Nat), .int .i64 1, .int .i64 o, .int .i64 k, .int .i64 x] 28 (b := w.heap.size + 1) (by simp))
        go_enter Tryd.func3, Tryd.ntmps3
        go_wp2_with fail
        generalize World.alloc _ _ = W at hM ⊢
        generalize hsz : w.heap.size = n at hM ⊢
        clear hsz
        replace hM := hid (hM.out.drew)
        refine wp_region_held_drew (S := fun w' => Bo w' n (rl r) ∧ Bo w' (n + 1) [.int .i64 (tn : Nat), .int .i64 1, .int .i64 o, .int .i64 k, .int .i64 x]) (by kernel_rfl) ⟨hM.out.at 1 rfl, hM.out.at 0 rfl⟩ (fun hH => ?_)
        generalize World.drew _ = W at hM hH  ⊢
        refine tkR 0 rfl hH (fun _ h => h.1) (rwR r) ?_
        simp only [Act.put, p1, p2, p3]
        refine tkR 1 rfl hH (fun _ h => h.2) (rwRa (tn : Nat) 1 o k x) ?_
        simp only [Act.put, p1, p2, p3]
        refine rd1 2 rfl (fun K hK => ?_)
        go_simp
        replace hM := hid (hM.out.born [.int .i64 (tn : Nat), .int .i64 1, .int .i64 o, .int .i64 k, .int .i64 x] 28 rfl)
        refine hK.out _ _ ⟨hM.out.at 2 rfl, hM.out.at 1 rfl⟩ (fun hH => ?_)
        clear hK K
        generalize W.heap.size = bq1 at hM hH ⊢
        generalize World.alloc _ _ = W at hM hH  ⊢
        try simp only [Act.put, p1, p2, p3]
        refine rd1 3 rfl (fun K hK => ?_)
        go_simp
        refine (AO.out (hM.out.at 0 rfl)).mono ?_
        rintro e W ⟨q, cap, rfl, hq, hQ, hb⟩
        replace hM := hid (hM.out.laterB hb hq hQ)
        clear hb
        clear hq hQ
        go_wp2_with fail
        refine hK.out _ _ ⟨hM.out.at 3 rfl, hM.out.at 2 rfl⟩ (fun hH => ?_)
        clear hK K
        try simp only [Act.put, p1, p2, p3]
        refine tk 4 rfl hH ?_
        simp only [Act.put, p1, p2, p3]
        refine rd1 5 rfl (fun K hK => ?_)
        refine ldR rfl (hM.out.at 0 rfl) (rwAk (tn : Nat) 1 o k x) ?_
        refine hK.out _ _ ⟨hM.out.at 3 rfl, hM.out.at 2 rfl⟩ (fun hH => ?_)
        clear hK K
        try simp only [Act.put, p1, p2, p3]
        refine rd1 6 rfl (fun K hK => ?_)
        go_simp
        refine (OP.out _).mono ?_
        rintro e W ⟨rfl, hb⟩
        replace hM := hid (hM.out.later hb)
        clear hb
        go_wp2_with fail
        refine hK.out _ _ ⟨hM.out.at 3 rfl, hM.out.at 2 rfl⟩ (fun hH => ?_)
        clear hK K
        try simp only [Act.put, p1, p2, p3]
        refine tk 7 rfl hH ?_
        simp only [Act.put, p1, p2, p3]
        refine tk 8 rfl hH ?_
        simp only [Act.put, p1, p2, p3]
        refine tk 9 rfl hH ?_
        simp only [Act.put, p1, p2, p3]
        refine tk 10 rfl hH ?_
        simp only [Act.put, p1, p2, p3]
        refine tk 11 rfl hH ?_
        simp only [Act.put, p1, p2, p3]
        refine wpAnyH_done (by kernel_rfl) ?_ _
        have c2 := hM.out.cell 2 0 rfl rfl
        have c3 := hM.out.cell 2 1 rfl rfl
        go_wp2_with fail
        clear c2 c3
        replace hM := hid (hM.out.drew)
        refine wp_region_held_drew (S := fun w' => Bo w' n (rl r) ∧ Bo w' (n + 1) [.int .i64 (tn : Nat), .int .i64 1, .int .i64 o, .int .i64 k, .int .i64 x]) (by kernel_rfl) ⟨hM.out.at 3 rfl, hM.out.at 2 rfl⟩ (fun hH => ?_)
        generalize World.drew _ = W at hM hH  ⊢
        refine tk 0 rfl hH ?_
        simp only [Act.put, p1, p2, p3]
        refine tk 1 rfl hH ?_
        simp only [Act.put, p1, p2, p3]
        refine tk 2 rfl hH ?_
        simp only [Act.put, p1, p2, p3]
        refine tk 3 rfl hH ?_
        simp only [Act.put, p1, p2, p3]
        refine tk 4 rfl hH ?_
        simp only [Act.put, p1, p2, p3]
        refine tk 5 rfl hH ?_ (by intro w h; have c0 := h.1.rwordx (show 26 < 32 by decide) HZ.out.symm; clear h; go_simp; try with_reducible rfl)
        simp only [Act.put, p1, p2, p3]
        refine tk 6 rfl hH ?_
        simp only [Act.put, p1, p2, p3]
        refine tk 7 rfl hH ?_ (by intro w h; have c0 := h.2.cell 0 _ rfl; clear h; go_simp; try with_reducible rfl)
        simp only [Act.put, p1, p2, p3]
        refine tk 9 rfl hH ?_
        simp only [Act.put, p1, p2, p3]
        refine tk 10 rfl hH ?_ (by intro w h; have c0 := h.2.cell 1 _ rfl; clear h; go_simp; try with_reducible rfl)
        simp only [Act.put, p1, p2, p3]
        refine tk 11 rfl hH ?_
        simp only [Act.put, p1, p2, p3]
        refine rd1 8 rfl (fun K hK => ?_)
        go_simp
        refine (BI.out _).mono ?_
        rintro e W ⟨rfl, hg⟩
        have hb := hg.below
        clear hg
        replace hM := hid (hM.out.later hb)
        clear hb
        go_wp2_with fail
        refine hK.out _ _ ⟨hM.out.at 3 rfl, hM.out.at 2 rfl⟩ (fun hH => ?_)
        clear hK K
        try simp only [Act.put, p1, p2, p3]
        refine tk 12 rfl hH ?_
        simp only [Act.put, p1, p2, p3]
        refine tk 13 rfl hH ?_
        simp only [Act.put, p1, p2, p3]
        refine tk 14 rfl hH ?_
        simp only [Act.put, p1, p2, p3]
        refine tk 15 rfl hH ?_
        simp only [Act.put, p1, p2, p3]
        refine wpAnyH_done (by kernel_rfl) ?_ _
        go_wp2
        go_ret
        exact ⟨rfl, hM.out.below⟩
      · have hM : Hid _ := (((Ms.nil w).born (rl r) 24 (b := w.heap.size) rfl).born [.int .i64 (tn : Nat), .int .i64 1, .int .i64 o, .int .i64 k, .int .i64 x] 28 (b := w.heap.size + 1) (by simp))
        go_enter Tryd.func3, Tryd.ntmps3
        go_wp2_with fail
        generalize World.alloc _ _ = W at hM ⊢
        generalize hsz : w.heap.size = n at hM ⊢
        clear hsz
        replace hM := hid (hM.out.drew)
        refine wp_region_held_drew (S := fun w' => Bo w' n (rl r) ∧ Bo w' (n + 1) [.int .i64 (tn : Nat), .int .i64 1, .int .i64 o, .int .i64 k, .int .i64 x]) (by kernel_rfl) ⟨hM.out.at 1 rfl, hM.out.at 0 rfl⟩ (fun hH => ?_)
        generalize World.drew _ = W at hM hH  ⊢
        refine tkR 0 rfl hH (fun _ h => h.1) (rwR r) ?_
        simp only [Act.put, p1, p2, p3]
        refine tkR 1 rfl hH (fun _ h => h.2) (rwRa (tn : Nat) 1 o k x) ?_
        simp only [Act.put, p1, p2, p3]
        refine rd1 2 rfl (fun K hK => ?_)
        go_simp
        replace hM := hid (hM.out.born [.int .i64 (tn : Nat), .int .i64 1, .int .i64 o, .int .i64 k, .int .i64 x] 28 rfl)
        refine hK.out _ _ ⟨hM.out.at 2 rfl, hM.out.at 1 rfl⟩ (fun hH => ?_)
        clear hK K
        generalize W.heap.size = bq1 at hM hH ⊢
        generalize World.alloc _ _ = W at hM hH  ⊢
        try simp only [Act.put, p1, p2, p3]
        refine rd1 3 rfl (fun K hK => ?_)
        go_simp
        refine (AO.out (hM.out.at 0 rfl)).mono ?_
        rintro e W ⟨q, cap, rfl, hq, hQ, hb⟩
        replace hM := hid (hM.out.laterB hb hq hQ)
        clear hb
        clear hq hQ
        go_wp2_with fail
        refine hK.out _ _ ⟨hM.out.at 3 rfl, hM.out.at 2 rfl⟩ (fun hH => ?_)
        clear hK K
        try simp only [Act.put, p1, p2, p3]
        refine tk 4 rfl hH ?_
        simp only [Act.put, p1, p2, p3]
        refine rd1 5 rfl (fun K hK => ?_)
        refine ldR rfl (hM.out.at 0 rfl) (rwAk (tn : Nat) 1 o k x) ?_
        refine hK.out _ _ ⟨hM.out.at 3 rfl, hM.out.at 2 rfl⟩ (fun hH => ?_)
        clear hK K
        try simp only [Act.put, p1, p2, p3]
        refine rd1 6 rfl (fun K hK => ?_)
        go_simp
        refine (OP.out _).mono ?_
        rintro e W ⟨rfl, hb⟩
        replace hM := hid (hM.out.later hb)
        clear hb
        go_wp2_with fail
        refine hK.out _ _ ⟨hM.out.at 3 rfl, hM.out.at 2 rfl⟩ (fun hH => ?_)
        clear hK K
        try simp only [Act.put, p1, p2, p3]
        refine tk 7 rfl hH ?_
        simp only [Act.put, p1, p2, p3]
        refine tk 8 rfl hH ?_
        simp only [Act.put, p1, p2, p3]
        refine tk 9 rfl hH ?_
        simp only [Act.put, p1, p2, p3]
        refine tk 10 rfl hH ?_
        simp only [Act.put, p1, p2, p3]
        refine tk 11 rfl hH ?_
        simp only [Act.put, p1, p2, p3]
        refine wpAnyH_done (by kernel_rfl) ?_ _
        have c2 := hM.out.cell 2 0 rfl rfl
        have c3 := hM.out.cell 2 1 rfl rfl
        go_wp2_with fail
        clear c2 c3
        replace hM := hid (hM.out.drew)
        refine wp_region_held_drew (S := fun w' => Bo w' n (rl r) ∧ Bo w' (n + 1) [.int .i64 (tn : Nat), .int .i64 1, .int .i64 o, .int .i64 k, .int .i64 x]) (by kernel_rfl) ⟨hM.out.at 3 rfl, hM.out.at 2 rfl⟩ (fun hH => ?_)
        generalize World.drew _ = W at hM hH  ⊢
        refine tk 0 rfl hH ?_
        simp only [Act.put, p1, p2, p3]
        refine tk 1 rfl hH ?_
        simp only [Act.put, p1, p2, p3]
        refine tk 2 rfl hH ?_
        simp only [Act.put, p1, p2, p3]
        refine tk 3 rfl hH ?_
        simp only [Act.put, p1, p2, p3]
        refine tk 4 rfl hH ?_
        simp only [Act.put, p1, p2, p3]
        refine tk 5 rfl hH ?_ (by intro w h; have c0 := h.1.rwordx (show 26 < 32 by decide) HZ.out.symm; clear h; go_simp; try with_reducible rfl)
        simp only [Act.put, p1, p2, p3]
        refine tk 6 rfl hH ?_
        simp only [Act.put, p1, p2, p3]
        refine tk 7 rfl hH ?_ (by intro w h; have c0 := h.2.cell 0 _ rfl; clear h; go_simp; try with_reducible rfl)
        simp only [Act.put, p1, p2, p3]
        refine tk 9 rfl hH ?_
        simp only [Act.put, p1, p2, p3]
        refine tk 10 rfl hH ?_ (by intro w h; have c0 := h.2.cell 1 _ rfl; clear h; go_simp; try with_reducible rfl)
        simp only [Act.put, p1, p2, p3]
        refine tk 11 rfl hH ?_
        simp only [Act.put, p1, p2, p3]
        refine rd1 8 rfl (fun K hK => ?_)
        go_simp
        refine (BI.out _).mono ?_
        rintro e W ⟨rfl, hg⟩
        have hb := hg.below
        clear hg
        replace hM := hid (hM.out.later hb)
        clear hb
        go_wp2_with fail
        refine hK.out _ _ ⟨hM.out.at 3 rfl, hM.out.at 2 rfl⟩ (fun hH => ?_)
        clear hK K
        try simp only [Act.put, p1, p2, p3]
        refine tk 12 rfl hH ?_
        simp only [Act.put, p1, p2, p3]
        refine tk 13 rfl hH ?_
        simp only [Act.put, p1, p2, p3]
        refine tk 14 rfl hH ?_
        simp only [Act.put, p1, p2, p3]
        refine tk 15 rfl hH ?_
        simp only [Act.put, p1, p2, p3]
        refine wpAnyH_done (by kernel_rfl) ?_ _
        go_wp2
        go_ret
        exact ⟨rfl, hM.out.below⟩
    · have OP : Hid (∀ w : World, _) := open_arg r t0 t4 hg o k x
      have h1 : ¬ t < 0 := by omega
      have h2 : ¬ t ≥ 4 := by omega
      have h3 : (g != 0) = true := bne_iff_ne.2 fun e => hg (Or.inl e)
      have h5 : (g != 1) = true := bne_iff_ne.2 fun e => hg (Or.inr e)
      clear hg t0 t4 U
      have hM : Hid _ := (((Ms.nil w).born (rl r) 24 (b := w.heap.size) rfl).born [.int .i64 t, .int .i64 g, .int .i64 o, .int .i64 k, .int .i64 x] 28 (b := w.heap.size + 1) (by simp))
      go_enter Tryd.func3, Tryd.ntmps3
      go_wp2_with fail
      generalize World.alloc _ _ = W at hM ⊢
      generalize hsz : w.heap.size = n at hM ⊢
      clear hsz
      replace hM := hid (hM.out.drew)
      refine wp_region_held_drew (S := fun w' => Bo w' n (rl r) ∧ Bo w' (n + 1) [.int .i64 t, .int .i64 g, .int .i64 o, .int .i64 k, .int .i64 x]) (by kernel_rfl) ⟨hM.out.at 1 rfl, hM.out.at 0 rfl⟩ (fun hH => ?_)
      generalize World.drew _ = W at hM hH  ⊢
      refine tkR 0 rfl hH (fun _ h => h.1) (rwR r) ?_
      simp only [Act.put, p1, p2, p3]
      refine tkR 1 rfl hH (fun _ h => h.2) (rwRa t g o k x) ?_
      simp only [Act.put, p1, p2, p3]
      refine rd1 2 rfl (fun K hK => ?_)
      go_simp
      replace hM := hid (hM.out.born [.int .i64 t, .int .i64 g, .int .i64 o, .int .i64 k, .int .i64 x] 28 rfl)
      refine hK.out _ _ ⟨hM.out.at 2 rfl, hM.out.at 1 rfl⟩ (fun hH => ?_)
      clear hK K
      generalize W.heap.size = bq1 at hM hH ⊢
      generalize World.alloc _ _ = W at hM hH  ⊢
      try simp only [Act.put, p1, p2, p3]
      refine rd1 3 rfl (fun K hK => ?_)
      go_simp
      refine (AO.out (hM.out.at 0 rfl)).mono ?_
      rintro e W ⟨q, cap, rfl, hq, hQ, hb⟩
      replace hM := hid (hM.out.laterB hb hq hQ)
      clear hb
      clear hq hQ
      go_wp2_with fail
      refine hK.out _ _ ⟨hM.out.at 3 rfl, hM.out.at 2 rfl⟩ (fun hH => ?_)
      clear hK K
      try simp only [Act.put, p1, p2, p3]
      refine tk 4 rfl hH ?_
      simp only [Act.put, p1, p2, p3]
      refine rd1 5 rfl (fun K hK => ?_)
      refine ldR rfl (hM.out.at 0 rfl) (rwAk t g o k x) ?_
      refine hK.out _ _ ⟨hM.out.at 3 rfl, hM.out.at 2 rfl⟩ (fun hH => ?_)
      clear hK K
      try simp only [Act.put, p1, p2, p3]
      refine rd1 6 rfl (fun K hK => ?_)
      go_simp
      refine (OP.out _).mono ?_
      rintro e W ⟨rfl, hb⟩
      replace hM := hid (hM.out.later hb)
      clear hb
      go_wp2_with fail
      refine hK.out _ _ ⟨hM.out.at 3 rfl, hM.out.at 2 rfl⟩ (fun hH => ?_)
      clear hK K
      try simp only [Act.put, p1, p2, p3]
      refine tk 7 rfl hH ?_
      simp only [Act.put, p1, p2, p3]
      refine tk 8 rfl hH ?_
      simp only [Act.put, p1, p2, p3]
      refine tk 9 rfl hH ?_
      simp only [Act.put, p1, p2, p3]
      refine tk 10 rfl hH ?_
      simp only [Act.put, p1, p2, p3]
      refine tk 11 rfl hH ?_
      simp only [Act.put, p1, p2, p3]
      refine wpAnyH_done (by kernel_rfl) ?_ _
      have c2 := hM.out.cell 2 0 rfl rfl
      have c3 := hM.out.cell 2 1 rfl rfl
      go_wp2_with fail
      clear c2 c3
      refine (bare_errno 1 1 _ (HT.out.below hM.out.below)).mono ?_
      rintro e W ⟨rfl, hg⟩
      have hb := hg.below
      replace hM := hid (hM.out.later hb)
      clear hb hg
      go_wp2
      go_ret
      exact ⟨rfl, hM.out.below⟩
  · have OP : Hid (∀ w : World, _) := open_range r (show t < 0 ∨ 4 ≤ t by omega) g o k x
    by_cases h1 : t < 0
    · clear ht U
      have hM : Hid _ := (((Ms.nil w).born (rl r) 24 (b := w.heap.size) rfl).born [.int .i64 t, .int .i64 g, .int .i64 o, .int .i64 k, .int .i64 x] 28 (b := w.heap.size + 1) (by simp))
      go_enter Tryd.func3, Tryd.ntmps3
      go_wp2_with fail
      generalize World.alloc _ _ = W at hM ⊢
      generalize hsz : w.heap.size = n at hM ⊢
      clear hsz
      replace hM := hid (hM.out.drew)
      refine wp_region_held_drew (S := fun w' => Bo w' n (rl r) ∧ Bo w' (n + 1) [.int .i64 t, .int .i64 g, .int .i64 o, .int .i64 k, .int .i64 x]) (by kernel_rfl) ⟨hM.out.at 1 rfl, hM.out.at 0 rfl⟩ (fun hH => ?_)
      generalize World.drew _ = W at hM hH  ⊢
      refine tkR 0 rfl hH (fun _ h => h.1) (rwR r) ?_
      simp only [Act.put, p1, p2, p3]
      refine tkR 1 rfl hH (fun _ h => h.2) (rwRa t g o k x) ?_
      simp only [Act.put, p1, p2, p3]
      refine rd1 2 rfl (fun K hK => ?_)
      go_simp
      replace hM := hid (hM.out.born [.int .i64 t, .int .i64 g, .int .i64 o, .int .i64 k, .int .i64 x] 28 rfl)
      refine hK.out _ _ ⟨hM.out.at 2 rfl, hM.out.at 1 rfl⟩ (fun hH => ?_)
      clear hK K
      generalize W.heap.size = bq1 at hM hH ⊢
      generalize World.alloc _ _ = W at hM hH  ⊢
      try simp only [Act.put, p1, p2, p3]
      refine rd1 3 rfl (fun K hK => ?_)
      go_simp
      refine (AO.out (hM.out.at 0 rfl)).mono ?_
      rintro e W ⟨q, cap, rfl, hq, hQ, hb⟩
      replace hM := hid (hM.out.laterB hb hq hQ)
      clear hb
      clear hq hQ
      go_wp2_with fail
      refine hK.out _ _ ⟨hM.out.at 3 rfl, hM.out.at 2 rfl⟩ (fun hH => ?_)
      clear hK K
      try simp only [Act.put, p1, p2, p3]
      refine tk 4 rfl hH ?_
      simp only [Act.put, p1, p2, p3]
      refine rd1 5 rfl (fun K hK => ?_)
      refine ldR rfl (hM.out.at 0 rfl) (rwAk t g o k x) ?_
      refine hK.out _ _ ⟨hM.out.at 3 rfl, hM.out.at 2 rfl⟩ (fun hH => ?_)
      clear hK K
      try simp only [Act.put, p1, p2, p3]
      refine rd1 6 rfl (fun K hK => ?_)
      go_simp
      refine (OP.out _).mono ?_
      rintro e W ⟨rfl, hb⟩
      replace hM := hid (hM.out.later hb)
      clear hb
      go_wp2_with fail
      refine hK.out _ _ ⟨hM.out.at 3 rfl, hM.out.at 2 rfl⟩ (fun hH => ?_)
      clear hK K
      try simp only [Act.put, p1, p2, p3]
      refine tk 7 rfl hH ?_
      simp only [Act.put, p1, p2, p3]
      refine tk 8 rfl hH ?_
      simp only [Act.put, p1, p2, p3]
      refine tk 9 rfl hH ?_
      simp only [Act.put, p1, p2, p3]
      refine tk 10 rfl hH ?_
      simp only [Act.put, p1, p2, p3]
      refine tk 11 rfl hH ?_
      simp only [Act.put, p1, p2, p3]
      refine wpAnyH_done (by kernel_rfl) ?_ _
      have c2 := hM.out.cell 2 0 rfl rfl
      have c3 := hM.out.cell 2 1 rfl rfl
      go_wp2_with fail
      clear c2 c3
      refine (bare_errno 2 2 _ (HT.out.below hM.out.below)).mono ?_
      rintro e W ⟨rfl, hg⟩
      have hb := hg.below
      replace hM := hid (hM.out.later hb)
      clear hb hg
      go_wp2
      go_ret
      exact ⟨rfl, hM.out.below⟩
    · have h2 : t ≥ 4 := by omega
      clear ht U
      have hM : Hid _ := (((Ms.nil w).born (rl r) 24 (b := w.heap.size) rfl).born [.int .i64 t, .int .i64 g, .int .i64 o, .int .i64 k, .int .i64 x] 28 (b := w.heap.size + 1) (by simp))
      go_enter Tryd.func3, Tryd.ntmps3
      go_wp2_with fail
      generalize World.alloc _ _ = W at hM ⊢
      generalize hsz : w.heap.size = n at hM ⊢
      clear hsz
      replace hM := hid (hM.out.drew)
      refine wp_region_held_drew (S := fun w' => Bo w' n (rl r) ∧ Bo w' (n + 1) [.int .i64 t, .int .i64 g, .int .i64 o, .int .i64 k, .int .i64 x]) (by kernel_rfl) ⟨hM.out.at 1 rfl, hM.out.at 0 rfl⟩ (fun hH => ?_)
      generalize World.drew _ = W at hM hH  ⊢
      refine tkR 0 rfl hH (fun _ h => h.1) (rwR r) ?_
      simp only [Act.put, p1, p2, p3]
      refine tkR 1 rfl hH (fun _ h => h.2) (rwRa t g o k x) ?_
      simp only [Act.put, p1, p2, p3]
      refine rd1 2 rfl (fun K hK => ?_)
      go_simp
      replace hM := hid (hM.out.born [.int .i64 t, .int .i64 g, .int .i64 o, .int .i64 k, .int .i64 x] 28 rfl)
      refine hK.out _ _ ⟨hM.out.at 2 rfl, hM.out.at 1 rfl⟩ (fun hH => ?_)
      clear hK K
      generalize W.heap.size = bq1 at hM hH ⊢
      generalize World.alloc _ _ = W at hM hH  ⊢
      try simp only [Act.put, p1, p2, p3]
      refine rd1 3 rfl (fun K hK => ?_)
      go_simp
      refine (AO.out (hM.out.at 0 rfl)).mono ?_
      rintro e W ⟨q, cap, rfl, hq, hQ, hb⟩
      replace hM := hid (hM.out.laterB hb hq hQ)
      clear hb
      clear hq hQ
      go_wp2_with fail
      refine hK.out _ _ ⟨hM.out.at 3 rfl, hM.out.at 2 rfl⟩ (fun hH => ?_)
      clear hK K
      try simp only [Act.put, p1, p2, p3]
      refine tk 4 rfl hH ?_
      simp only [Act.put, p1, p2, p3]
      refine rd1 5 rfl (fun K hK => ?_)
      refine ldR rfl (hM.out.at 0 rfl) (rwAk t g o k x) ?_
      refine hK.out _ _ ⟨hM.out.at 3 rfl, hM.out.at 2 rfl⟩ (fun hH => ?_)
      clear hK K
      try simp only [Act.put, p1, p2, p3]
      refine rd1 6 rfl (fun K hK => ?_)
      go_simp
      refine (OP.out _).mono ?_
      rintro e W ⟨rfl, hb⟩
      replace hM := hid (hM.out.later hb)
      clear hb
      go_wp2_with fail
      refine hK.out _ _ ⟨hM.out.at 3 rfl, hM.out.at 2 rfl⟩ (fun hH => ?_)
      clear hK K
      try simp only [Act.put, p1, p2, p3]
      refine tk 7 rfl hH ?_
      simp only [Act.put, p1, p2, p3]
      refine tk 8 rfl hH ?_
      simp only [Act.put, p1, p2, p3]
      refine tk 9 rfl hH ?_
      simp only [Act.put, p1, p2, p3]
      refine tk 10 rfl hH ?_
      simp only [Act.put, p1, p2, p3]
      refine tk 11 rfl hH ?_
      simp only [Act.put, p1, p2, p3]
      refine wpAnyH_done (by kernel_rfl) ?_ _
      have c2 := hM.out.cell 2 0 rfl rfl
      have c3 := hM.out.cell 2 1 rfl rfl
      go_wp2_with fail
      clear c2 c3
      refine (bare_errno 2 2 _ (HT.out.below hM.out.below)).mono ?_
      rintro e W ⟨rfl, hg⟩
      have hb := hg.below
      replace hM := hid (hM.out.later hb)
      clear hb hg
      go_wp2
      go_ret
      exact ⟨rfl, hM.out.below⟩


set_option maxRecDepth 100000 in
theorem lifted (os : Os) (started : os.Started) (H : Type) (enc : TypeId × Value → H) :
    ReturnsInHanded {} Tryd.checked os 3 .any (fun w args => (Rows.batchOpensSpec.pre enc Tryd.prog Tryd.f3 [] false w args ∧ laidMetH Tryd.prog laidHandle w) ∧ sizedMet enc Tryd.prog Tryd.f3 (OpenSpec.ofChange Rows.batchOpensSpec) false w args)
      (Rows.batchOpensSpec.post enc Tryd.prog Tryd.f3 false true false false) := by
  refine returnsInHanded_of_change_and (C := Tryd.checked) (X := fun w _ => laidMetH Tryd.prog laidHandle w) (fun _ _ _ hh h => h.of_heap hh) own started (by kernel_rfl) Tryd.func3
    (ChangeSpec.witness_shaped (enc := enc) (C := Tryd.checked) (os := os) (X := fun w _ => laidMetH Tryd.prog laidHandle w) false (World.doorLaid Tryd.prog 400 os) #[.agg #[.int .u64 0, .int .u64 0, .int .u64 0, .int .u64 0, .int .u64 0, .int .u64 0, .int .u64 0, .int .u64 0, .int .u64 0, .int .u64 0, .int .u64 0, .int .u64 0, .int .u64 0, .int .u64 0, .int .u64 0, .int .u64 0, .int .u64 0, .int .u64 0, .int .u64 0, .int .u64 0, .int .u64 0, .int .u64 0, .int .u64 0, .int .u64 0, .int .u64 0, .int .u64 0, .int .u64 0, .int .u64 0, .int .u64 0, .int .u64 0, .int .u64 0, .int .u64 0], .agg #[.int .i64 0, .int .i64 0, .int .i64 0, .int .i64 0, .int .i64 0]] 8 rfl (World.shaped_of_RefB (by kernel_rfl) (by kernel_rfl)) (by kernel_rfl) (by kernel_rfl) (by kernel_rfl) (door_handle os _)) ?_
  intro W base args ds gs before hval0 hW _ _ hL _
  have hval : ∀ (j : Nat) t v, Tryd.f3.params[j]? = some t → args[j]? = some v → Value.okWide Tryd.prog W .any base t v := hval0
  have hW' := hW
  obtain ⟨p, q, hA0, hV, rfl, hfz, hnd⟩ := hW
  have hA : DataW.TrodAll enc Tryd.prog W 0 (fun _ => true) true Tryd.f3.params.toList args.toList ds p := hA0
  rw [Tryd.params3] at hA hval
  obtain ⟨v0, vs0, d0, ds0, p0, q0, hargs, rfl, rfl, h0, r0⟩ := trodAll_cons hA
  obtain ⟨v1, vs1, d1, ds1, p1, q1, rfl, rfl, rfl, h1, r1⟩ := trodAll_cons r0
  obtain ⟨rfl, rfl, rfl⟩ := trodAll_nil r1
  obtain rfl : args = #[v0, v1] := by cases args; simp_all
  obtain ⟨rfl, rfl⟩ := trodVars_none hV
  obtain ⟨t0, rfl, u0⟩ := record_of_trod (hval 0 24 v0 rfl rfl) h0
  obtain ⟨a1, b1, c1, e1, f1, rfl⟩ := ask_of_trod (hval 1 28 v1 rfl rfl) h1
  have hT := handle_of_laid hL
  have hlt := hW'.lt
  clear hA0 hval0
  refine (walk t0 a1 b1 c1 e1 f1 u0 W hT ).mono fun e W' ⟨he, hg⟩ => ?_
  subst he
  exact ⟨_, rfl, post_below (pv := []) hW' (fun _ _ _ => (trodAll_cons_mk (shut_bool Tryd.underlying4 _) trodAll_mk0)) (fun sp hsp => (trodAll_cons_mk (record_stay h0 hg (fun x hx => hlt x (by simp [hx])) (fun x hx => hsp x (by simp [hx]))) (trodAll_cons_mk (ask_stay h1 hg (fun x hx => hlt x (by simp [hx])) (fun x hx => hsp x (by simp [hx]))) trodAll_mk0))) (fun _ _ => rfl) (by simp) (hg.frame _)⟩

theorem over : Rows.BatchOpensSaid :=
  OpenClaim.holds_of_wide 3 Tryd.f3 rfl rfl rfl rfl rfl rfl rfl ⟨rfl, rfl, rfl, rfl, rfl⟩ rfl rfl rfl rfl rfl (by kernel_rfl) Tryd.func3 (by kernel_rfl)
    (of_decide_eq_true (by kernel_rfl)) (by unfold Func.isWrapper; first | (rw [if_pos (by decide +kernel)]; kernel_rfl) | (rw [if_neg (by decide +kernel)]; exact ⟨rfl, rfl⟩))
    (fun os started H enc _ => lifted os started H enc)

theorem proved : Rows.BatchOpensCardSaid :=
  Claim7.holds_tied_plain_at .later [] [.handle] true (true, "cec31d70e81bb7b02ee8602f9a3c7aeeea482d7b28caed499688775e148d21bb") true
    over (fun _ h => by cases h) (by kernel_rfl) (fun _ h => by cases h) batchOpens_row_tie rfl ⟨rfl, rfl⟩ (by kernel_rfl) rfl
    (fun f fn hf hfn => by
      obtain rfl : f = 3 := Option.some.inj ((show Tryd.prog.funcNamed "gristmill/gristmilllaw.BatchOpens" = some 3 by kernel_rfl).symm.trans hf) |>.symm
      obtain rfl : fn = Tryd.f3 := (Option.some.inj (Tryd.func3.symm.trans hfn)).symm
      exact ⟨by kernel_rfl, fun j t ht => by
        rw [Tryd.params3] at ht
        have hm : t ∈ [24, 28] := by simpa using Array.mem_of_getElem? ht
        have hall : ([24, 28].all fun u => !Tryd.prog.wantsStandIn u) = true := by kernel_rfl
        exact (show Tryd.prog.wantsStandIn t = false by simpa using List.all_eq_true.1 hall t hm)⟩)
    (by kernel_rfl)
#print axioms proved
end Go.Proofs.YteogbpaaacmllaaDoor.Tab.batchOpens
