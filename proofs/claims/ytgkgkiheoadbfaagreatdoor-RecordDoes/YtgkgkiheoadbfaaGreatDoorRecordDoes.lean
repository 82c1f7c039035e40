/- RecordDoes is proved: for every thirty-two words, every number of a thread and every operation the call returns true (any record with any operation more is the document's); the library's handle of the type error stands as the program's text lays it. -/
import Derived.Test.YtgkgkiheoadbfaaGreatDoorRows
import Derived.Test.YtgkgkiheoadbfaaGreatDoorPk08
import Derived.Test.YtgkgkiheoadbfaaGreatDoorPk11
import Derived.Test.YtgkgkiheoadbfaaGreatDoorCards
import Derived.Deep.DeepCutAuto
import Derived.Deep.RegionHeld3
import Derived.SevenTiedAt

namespace Go.Proofs.YtgkgkiheoadbfaaGreatDoor.Tab.recordDoes
set_option maxRecDepth 20000
open Go.ChangeShapes Go.WideShapes Go.ChangeAt Go.RowKit
set_option linter.unusedVariables false

set_option maxHeartbeats 16000000 in
set_option maxRecDepth 20000 in
theorem walk (r : Nat → Nat) (t : Int) (o k x : Int) (U : ∀ j, j < 32 → r j < 18446744073709551616) (w1 : (Lit.int .i64 t).wf = true) (wa2 : (Lit.int .i64 o).wf = true) (wb2 : (Lit.int .i64 k).wf = true) (wc2 : (Lit.int .i64 x).wf = true) (w : World) (hT : HandleAt w) :
    Calls Tryz.prog 3 #[.agg (rl r).toArray, .int .i64 t, .agg #[.int .i64 o, .int .i64 k, .int .i64 x]] w fun e w' => e = .returned (.bool true) ∧ Below w.heap.size w w' := by
  have HT : Hid (HandleAt w) := hT
  clear hT w1 wa2 wb2 wc2
  have EZ := rec_zero
  have EE := rec_equal
  obtain ⟨b, hb⟩ := bool_of (isRec r)
  have RO : Hid (∀ (bc : Nat) (w : World) (hC : Bo w bc (rl r)), _) := fun bc w hC => RecOf_is U hb w hC
  have HBR : Hid _ := hb
  clear hb
  by_cases ht : 0 ≤ t ∧ t < 4
  · obtain ⟨i, rfl⟩ := Int.eq_ofNat_of_zero_le ht.1
    have hi : i < 4 := by have := ht.2; omega
    have t1 : ¬ (i : Int) < 0 := by omega
    have t2 : ¬ (4 : Int) ≤ (i : Int) := by omega
    clear ht
    rcases b with _ | _
    · have DO : Hid (∀ w : World, _) := recDone_not U hi (o := o) (k := k) (x := x) (fun h => (by have := HBR.out.2 h; cases this))
      clear U HBR hi EE
      have hM : Hid _ := (((Ms.nil w).born (rl r) 24 (b := w.heap.size) rfl).born [.int .i64 o, .int .i64 k, .int .i64 x] 26 (b := w.heap.size + 1) (by simp))
      have c1 := hM.out.cell 0 0 rfl rfl
      have c2 := hM.out.cell 0 1 rfl rfl
      have c3 := hM.out.cell 0 2 rfl rfl
      go_enter Tryz.func3, Tryz.ntmps3
      go_wp2_with fail
      clear c1 c2 c3
      generalize World.alloc _ _ = W at hM ⊢
      generalize hsz : w.heap.size = n at hM ⊢
      clear hsz
      refine (RO.out _ _ (hM.out.at 1 rfl)).mono ?_
      rintro e W ⟨f, hf, rfl, hth, hb⟩
      replace hM := hid (hM.out.later hb)
      clear hb
      have F1 : Hid _ := hf
      have TH : Hid _ := hth
      clear hf hth
      obtain ⟨bx4, hbx4⟩ : ∃ q, q = W.heap.size := ⟨_, rfl⟩
      replace hM := hid (hM.out.bornR zf_all.symm 40 (b := bx4) hbx4)
      have Hbx4 : Hid _ := hbx4
      clear hbx4
      go_wp2_with (first
        | (rw [← Hbx4.out]; refine sR rfl (hM.out.at 0 rfl) rfl ((rwV zf_one).len (rwV F1.out)) (rwV F1.out) ?_
           replace hM := hid (hM.out.put 0 rfl (rv f) ((rwV zf_one).len (rwV F1.out)))
           generalize World.setCells _ _ _ _ = W at hM ⊢
           have c5 := hM.out.cell 1 0 rfl rfl
           have c6 := hM.out.cell 1 1 rfl rfl
           have c7 := hM.out.cell 1 2 rfl rfl)
        | (refine lR rfl (hM.out.at 2 rfl) rfl (rwR r) ?_))
      clear c5 c6 c7
      refine (DO.out _).mono ?_
      rintro e W ⟨rfl, hb⟩
      replace hM := hid (hM.out.later hb)
      clear hb
      obtain ⟨bx8, hbx8⟩ : ∃ q, q = W.heap.size := ⟨_, rfl⟩
      replace hM := hid (hM.out.bornR rl_zero.symm 24 (b := bx8) hbx8)
      have Hbx8 : Hid _ := hbx8
      clear hbx8
      go_wp2_with (first
        | (rw [← Hbx8.out]; refine sR rfl (hM.out.at 0 rfl) rfl ((rwR wz).len (rwR wz)) (rwR wz) ?_
           replace hM := hid (hM.out.put 0 rfl (rl wz) ((rwR wz).len (rwR wz)))
           generalize World.setCells _ _ _ _ = W at hM ⊢))
      refine (bare_errno 1 1 _ (HandleAt.below HT.out hM.out.below)).mono ?_
      rintro e W ⟨rfl, hg⟩
      have hb := hg.below
      clear hg
      replace hM := hid (hM.out.later hb)
      clear hb
      go_wp2_with (first
        | (refine lW rfl (hM.out.at 0 rfl) rfl (rwR wz) ?_))
      go_ret
      exact ⟨rfl, hM.out.below⟩
    · have IR : Hid (isRec r) := HBR.out.1 rfl
      by_cases hR : Rt o k x
      · have DO : Hid (∀ w : World, _) := recDone_yes U hi IR.out hR
        have OP : Hid (∀ w, _) := rfR_yes hR
        have RD : Hid (∀ {B : Nat} {v : Value} {tt : Tb} {x0 : Int} (ho : v.oneCell' = true) (w : World) (hT : Th B w (r 0 : Nat) (ob r) v tt x0), _) := fun {B v tt x0} ho w hT => RDone_is IR.out hi hR ho w hT
        have K6 : ((r 0 : Nat) : Int) ≤ 6 := IR.out.ob1.2
        have NW : Hid _ := rdo_nw (o := o) (k := k) (x := x) IR.out hi
        have U2 : Hid (∀ j, j < 32 → rdo r i o k x j < 18446744073709551616) := rdo_u64 IR.out hR hi U
        have RC : Hid (∀ {b : Nat} {w : World} (hB : Bo w b (rl (nw (rdo r i o k x)))), Calls Tryz.prog 8 #[.slice (some ⟨b, 0, none⟩) 32 32] w fun e w' => e = .returned (.agg (rl (rdo r i o k x)).toArray) ∧ Below w.heap.size w w') := fun {b w} hB => by
          rw [NW.out] at hB
          exact recordOf_is w hB
        have W2 : Hid (∀ (w : World) (c : Nat → Nat) (v : Value) (tt : Tb) (x0 : Int) (ho : v.oneCell' = true) (hc : ∀ j, j < 17 → c j = ob (rdo r i o k x) j) (CE : _), _) := fun w c v tt x0 ho hc CE => Words_is (ρ := rdo r i o k x) (c := c) (th := tg (r 0 : Nat) v tt x0) (tg_length _ _ _ _) (tg_one _ ho tt x0) (rwTh _ ho tt x0) (by rw [rdo_0 hi]; rfl) (by rw [rdo_0 hi]; omega) hc U2.out (rdo_ans IR.out hR hi) w CE
        clear U HBR hi hR
        have hM : Hid _ := (((Ms.nil w).born (rl r) 24 (b := w.heap.size) rfl).born [.int .i64 o, .int .i64 k, .int .i64 x] 26 (b := w.heap.size + 1) (by simp))
        have c1 := hM.out.cell 0 0 rfl rfl
        have c2 := hM.out.cell 0 1 rfl rfl
        have c3 := hM.out.cell 0 2 rfl rfl
        go_enter Tryz.func3, Tryz.ntmps3
        go_wp2_with fail
        clear c1 c2 c3
        generalize World.alloc _ _ = W at hM ⊢
        generalize hsz : w.heap.size = n at hM ⊢
        clear hsz
        refine (RO.out _ _ (hM.out.at 1 rfl)).mono ?_
        rintro e W ⟨f, hf, rfl, hth, hb⟩
        obtain ⟨B0, v, tt, x0, hB0, hv, hrow, hTh⟩ := hth (by first | rfl | trivial)
        replace hM := hid (hM.out.laterL hb (hTh.isl K6) hB0)
        clear hb
        rw [hrow]
        have HV : Hid _ := hv
        have TQ : Hid _ := hTh.tq
        have F1 : Hid (∀ j, j < 37 → (rf (tg (r 0 : Nat) v tt x0) r 4 j).oneCell' = true) := rf_one (tg_one _ hv tt x0) (tg_length _ _ _ _)
        clear hf hth hB0 hv hrow hTh
        obtain ⟨bx4, hbx4⟩ : ∃ q, q = W.heap.size := ⟨_, rfl⟩
        replace hM := hid (hM.out.bornR zf_all.symm 40 (b := bx4) hbx4)
        have Hbx4 : Hid _ := hbx4
        clear hbx4
        go_wp2_with (first
          | (rw [← Hbx4.out]; refine sR rfl (hM.out.at 0 rfl) rfl ((rwV zf_one).len (rwV F1.out)) (rwV F1.out) ?_
             replace hM := hid (hM.out.put 0 rfl (rv (rf (tg (r 0 : Nat) v tt x0) r 4)) ((rwV zf_one).len (rwV F1.out)))
             generalize World.setCells _ _ _ _ = W at hM ⊢
             have c5 := hM.out.cell 1 0 rfl rfl
             have c6 := hM.out.cell 1 1 rfl rfl
             have c7 := hM.out.cell 1 2 rfl rfl)
          | (refine lR rfl (hM.out.at 2 rfl) rfl (rwR r) ?_))
        clear c5 c6 c7
        refine (DO.out _).mono ?_
        rintro e W ⟨rfl, hb⟩
        replace hM := hid (hM.out.later hb)
        clear hb
        obtain ⟨bx8, hbx8⟩ : ∃ q, q = W.heap.size := ⟨_, rfl⟩
        replace hM := hid (hM.out.bornR rl_zero.symm 24 (b := bx8) hbx8)
        have Hbx8 : Hid _ := hbx8
        clear hbx8
        go_wp2_with (first
          | (rw [← Hbx8.out]; refine sR rfl (hM.out.at 0 rfl) rfl ((rwR wz).len (rwR (rdo r i o k x))) (rwR (rdo r i o k x)) ?_
             replace hM := hid (hM.out.put 0 rfl (rl (rdo r i o k x)) ((rwR wz).len (rwR (rdo r i o k x))))
             generalize World.setCells _ _ _ _ = W at hM ⊢
             have c9 := hM.out.cell 2 0 rfl rfl
             have c10 := hM.out.cell 2 1 rfl rfl
             have c11 := hM.out.cell 2 2 rfl rfl))
        refine (OP.out _).mono ?_
        rintro e W ⟨rfl, hb⟩
        replace hM := hid (hM.out.later hb)
        clear hb
        clear c9 c10 c11
        go_wp2_with fail
        replace hM := hid (hM.out.drew)
        refine wp_region_held_drew (S := fun w' => Bo w' bx8 (rl (rdo r i o k x)) ∧ Bo w' bx4 (rv (rf (tg (r 0 : Nat) v tt x0) r 4)) ∧ Bo w' (n + 1) [.int .i64 o, .int .i64 k, .int .i64 x]) (by kernel_rfl) ⟨hM.out.at 0 rfl, hM.out.at 1 rfl, hM.out.at 2 rfl⟩ (fun hH => ?_)
        generalize World.drew _ = W at hM hH  ⊢
        refine tk 0 rfl hH ?_
        simp only [Act.put, p1, p2, p3]
        refine tk 1 rfl hH ?_
        simp only [Act.put, p1, p2, p3]
        refine tk 2 rfl hH ?_
        simp only [Act.put, p1, p2, p3]
        refine tkR 3 rfl hH (fun _ h => h.1) (rwR (rdo r i o k x)) ?_
        simp only [Act.put, p1, p2, p3]
        refine tkR 4 rfl hH (fun _ h => h.2.1) (rwV F1.out) ?_
        simp only [Act.put, p1, p2, p3]
        refine tk 5 rfl hH ?_
        simp only [Act.put, p1, p2, p3]
        refine tk 6 rfl hH ?_ (by intro w h; have c0 := h.2.2.at 0 rfl; have c1 := h.2.2.at 1 rfl; have c2 := h.2.2.at 2 rfl; clear h; go_simp; try with_reducible rfl)
        simp only [Act.put, p1, p2, p3]
        refine rd1 7 rfl (fun K hK => ?_)
        go_simp
        refine (RD.out HV.out _ (TQ.out.th (hM.out.isL 0 rfl))).mono ?_
        rintro e W ⟨C, c2, v2, t2, x2, hv2, rfl, ⟨hO2, hc2, hT2⟩, hb⟩
        replace hM := hid (hM.out.later hb)
        clear hb
        go_wp2_with fail
        refine hK.out _ _ ⟨hM.out.at 0 rfl, hM.out.at 1 rfl, hM.out.at 2 rfl⟩ (fun hH => ?_)
        clear hK K
        try simp only [Act.put, p1, p2, p3]
        refine rd1 8 rfl (fun K hK => ?_)
        go_simp
        refine (W2.out _ c2 v2 t2 x2 hv2 hc2 (fun W9 hb => TCells_is hO2 (hT2.later hb))).mono ?_
        rintro e W ⟨⟨bq, rfl, hq, hWq⟩, hb⟩
        replace hM := hid (hM.out.laterB hb hq hWq)
        clear hb
        go_wp2_with fail
        refine hK.out _ _ ⟨hM.out.at 1 rfl, hM.out.at 2 rfl, hM.out.at 3 rfl⟩ (fun hH => ?_)
        clear hK K
        try simp only [Act.put, p1, p2, p3]
        refine rd1 9 rfl (fun K hK => ?_)
        go_simp
        refine (RC.out (hM.out.at 0 rfl)).mono ?_
        rintro e W ⟨rfl, hb⟩
        replace hM := hid (hM.out.later hb)
        clear hb
        go_wp2_with fail
        refine hK.out _ _ ⟨hM.out.at 1 rfl, hM.out.at 2 rfl, hM.out.at 3 rfl⟩ (fun hH => ?_)
        clear hK K
        try simp only [Act.put, p1, p2, p3]
        refine tk 10 rfl hH ?_
        simp only [Act.put, p1, p2, p3]
        refine tk 11 rfl hH ?_
        simp only [Act.put, p1, p2, p3]
        refine tk 12 rfl hH ?_
        simp only [Act.put, p1, p2, p3]
        refine wpAnyH_done (by kernel_rfl) ?_ _
        go_wp2
        go_ret
        exact ⟨rfl, hM.out.below⟩
      · have DO : Hid (∀ w : World, _) := recDone_wrong U hi IR.out hR
        have OP : Hid (∀ w, _) := rfR_no hR
        clear U HBR hi hR EE
        have hM : Hid _ := (((Ms.nil w).born (rl r) 24 (b := w.heap.size) rfl).born [.int .i64 o, .int .i64 k, .int .i64 x] 26 (b := w.heap.size + 1) (by simp))
        have c1 := hM.out.cell 0 0 rfl rfl
        have c2 := hM.out.cell 0 1 rfl rfl
        have c3 := hM.out.cell 0 2 rfl rfl
        go_enter Tryz.func3, Tryz.ntmps3
        go_wp2_with fail
        clear c1 c2 c3
        generalize World.alloc _ _ = W at hM ⊢
        generalize hsz : w.heap.size = n at hM ⊢
        clear hsz
        refine (RO.out _ _ (hM.out.at 1 rfl)).mono ?_
        rintro e W ⟨f, hf, rfl, hth, hb⟩
        replace hM := hid (hM.out.later hb)
        clear hb
        have F1 : Hid _ := hf
        have TH : Hid _ := hth
        clear hf hth
        obtain ⟨bx4, hbx4⟩ : ∃ q, q = W.heap.size := ⟨_, rfl⟩
        replace hM := hid (hM.out.bornR zf_all.symm 40 (b := bx4) hbx4)
        have Hbx4 : Hid _ := hbx4
        clear hbx4
        go_wp2_with (first
          | (rw [← Hbx4.out]; refine sR rfl (hM.out.at 0 rfl) rfl ((rwV zf_one).len (rwV F1.out)) (rwV F1.out) ?_
             replace hM := hid (hM.out.put 0 rfl (rv f) ((rwV zf_one).len (rwV F1.out)))
             generalize World.setCells _ _ _ _ = W at hM ⊢
             have c5 := hM.out.cell 1 0 rfl rfl
             have c6 := hM.out.cell 1 1 rfl rfl
             have c7 := hM.out.cell 1 2 rfl rfl)
          | (refine lR rfl (hM.out.at 2 rfl) rfl (rwR r) ?_))
        clear c5 c6 c7
        refine (DO.out _).mono ?_
        rintro e W ⟨rfl, hb⟩
        replace hM := hid (hM.out.later hb)
        clear hb
        obtain ⟨bx8, hbx8⟩ : ∃ q, q = W.heap.size := ⟨_, rfl⟩
        replace hM := hid (hM.out.bornR rl_zero.symm 24 (b := bx8) hbx8)
        have Hbx8 : Hid _ := hbx8
        clear hbx8
        go_wp2_with (first
          | (rw [← Hbx8.out]; refine sR rfl (hM.out.at 0 rfl) rfl ((rwR wz).len (rwR wz)) (rwR wz) ?_
             replace hM := hid (hM.out.put 0 rfl (rl wz) ((rwR wz).len (rwR wz)))
             generalize World.setCells _ _ _ _ = W at hM ⊢
             have c9 := hM.out.cell 2 0 rfl rfl
             have c10 := hM.out.cell 2 1 rfl rfl
             have c11 := hM.out.cell 2 2 rfl rfl))
        refine (OP.out _).mono ?_
        rintro e W ⟨rfl, hb⟩
        replace hM := hid (hM.out.later hb)
        clear hb
        clear c9 c10 c11
        go_wp2_with fail
        refine (bare_errno 1 1 _ (HandleAt.below HT.out hM.out.below)).mono ?_
        rintro e W ⟨rfl, hg⟩
        have hb := hg.below
        clear hg
        replace hM := hid (hM.out.later hb)
        clear hb
        go_wp2_with (first
          | (refine lW rfl (hM.out.at 0 rfl) rfl (rwR wz) ?_))
        go_ret
        exact ⟨rfl, hM.out.below⟩
  · rcases (by omega : t < 0 ∨ 4 ≤ t) with ht | ht
    · have t1 : t < 0 := ht
      have DO : Hid (∀ w : World, _) := recDone_range r (t := t) (o := o) (k := k) (x := x) (by omega)
      clear ht U HBR EE
      have hM : Hid _ := (((Ms.nil w).born (rl r) 24 (b := w.heap.size) rfl).born [.int .i64 o, .int .i64 k, .int .i64 x] 26 (b := w.heap.size + 1) (by simp))
      have c1 := hM.out.cell 0 0 rfl rfl
      have c2 := hM.out.cell 0 1 rfl rfl
      have c3 := hM.out.cell 0 2 rfl rfl
      go_enter Tryz.func3, Tryz.ntmps3
      go_wp2_with fail
      clear c1 c2 c3
      generalize World.alloc _ _ = W at hM ⊢
      generalize hsz : w.heap.size = n at hM ⊢
      clear hsz
      refine (RO.out _ _ (hM.out.at 1 rfl)).mono ?_
      rintro e W ⟨f, hf, rfl, hth, hb⟩
      replace hM := hid (hM.out.later hb)
      clear hb
      have F1 : Hid _ := hf
      have TH : Hid _ := hth
      clear hf hth
      obtain ⟨bx4, hbx4⟩ : ∃ q, q = W.heap.size := ⟨_, rfl⟩
      replace hM := hid (hM.out.bornR zf_all.symm 40 (b := bx4) hbx4)
      have Hbx4 : Hid _ := hbx4
      clear hbx4
      go_wp2_with (first
        | (rw [← Hbx4.out]; refine sR rfl (hM.out.at 0 rfl) rfl ((rwV zf_one).len (rwV F1.out)) (rwV F1.out) ?_
           replace hM := hid (hM.out.put 0 rfl (rv f) ((rwV zf_one).len (rwV F1.out)))
           generalize World.setCells _ _ _ _ = W at hM ⊢
           have c5 := hM.out.cell 1 0 rfl rfl
           have c6 := hM.out.cell 1 1 rfl rfl
           have c7 := hM.out.cell 1 2 rfl rfl)
        | (refine lR rfl (hM.out.at 2 rfl) rfl (rwR r) ?_))
      clear c5 c6 c7
      refine (DO.out _).mono ?_
      rintro e W ⟨rfl, hb⟩
      replace hM := hid (hM.out.later hb)
      clear hb
      obtain ⟨bx8, hbx8⟩ : ∃ q, q = W.heap.size := ⟨_, rfl⟩
      replace hM := hid (hM.out.bornR rl_zero.symm 24 (b := bx8) hbx8)
      have Hbx8 : Hid _ := hbx8
      clear hbx8
      go_wp2_with (first
        | (rw [← Hbx8.out]; refine sR rfl (hM.out.at 0 rfl) rfl ((rwR wz).len (rwR wz)) (rwR wz) ?_
           replace hM := hid (hM.out.put 0 rfl (rl wz) ((rwR wz).len (rwR wz)))
           generalize World.setCells _ _ _ _ = W at hM ⊢))
      refine (bare_errno 2 2 _ (HandleAt.below HT.out hM.out.below)).mono ?_
      rintro e W ⟨rfl, hg⟩
      have hb := hg.below
      clear hg
      replace hM := hid (hM.out.later hb)
      clear hb
      go_wp2_with (first
        | (refine lW rfl (hM.out.at 0 rfl) rfl (rwR wz) ?_))
      go_ret
      exact ⟨rfl, hM.out.below⟩
    · have t1 : ¬ t < 0 := by omega
      have t2 : 4 ≤ t := ht
      have DO : Hid (∀ w : World, _) := recDone_range r (t := t) (o := o) (k := k) (x := x) (by omega)
      clear ht U HBR EE
      have hM : Hid _ := (((Ms.nil w).born (rl r) 24 (b := w.heap.size) rfl).born [.int .i64 o, .int .i64 k, .int .i64 x] 26 (b := w.heap.size + 1) (by simp))
      have c1 := hM.out.cell 0 0 rfl rfl
      have c2 := hM.out.cell 0 1 rfl rfl
      have c3 := hM.out.cell 0 2 rfl rfl
      go_enter Tryz.func3, Tryz.ntmps3
      go_wp2_with fail
      clear c1 c2 c3
      generalize World.alloc _ _ = W at hM ⊢
      generalize hsz : w.heap.size = n at hM ⊢
      clear hsz
      refine (RO.out _ _ (hM.out.at 1 rfl)).mono ?_
      rintro e W ⟨f, hf, rfl, hth, hb⟩
      replace hM := hid (hM.out.later hb)
      clear hb
      have F1 : Hid _ := hf
      have TH : Hid _ := hth
      clear hf hth
      obtain ⟨bx4, hbx4⟩ : ∃ q, q = W.heap.size := ⟨_, rfl⟩
      replace hM := hid (hM.out.bornR zf_all.symm 40 (b := bx4) hbx4)
      have Hbx4 : Hid _ := hbx4
      clear hbx4
      go_wp2_with (first
        | (rw [← Hbx4.out]; refine sR rfl (hM.out.at 0 rfl) rfl ((rwV zf_one).len (rwV F1.out)) (rwV F1.out) ?_
           replace hM := hid (hM.out.put 0 rfl (rv f) ((rwV zf_one).len (rwV F1.out)))
           generalize World.setCells _ _ _ _ = W at hM ⊢
           have c5 := hM.out.cell 1 0 rfl rfl
           have c6 := hM.out.cell 1 1 rfl rfl
           have c7 := hM.out.cell 1 2 rfl rfl)
        | (refine lR rfl (hM.out.at 2 rfl) rfl (rwR r) ?_))
      clear c5 c6 c7
      refine (DO.out _).mono ?_
      rintro e W ⟨rfl, hb⟩
      replace hM := hid (hM.out.later hb)
      clear hb
      obtain ⟨bx8, hbx8⟩ : ∃ q, q = W.heap.size := ⟨_, rfl⟩
      replace hM := hid (hM.out.bornR rl_zero.symm 24 (b := bx8) hbx8)
      have Hbx8 : Hid _ := hbx8
      clear hbx8
      go_wp2_with (first
        | (rw [← Hbx8.out]; refine sR rfl (hM.out.at 0 rfl) rfl ((rwR wz).len (rwR wz)) (rwR wz) ?_
           replace hM := hid (hM.out.put 0 rfl (rl wz) ((rwR wz).len (rwR wz)))
           generalize World.setCells _ _ _ _ = W at hM ⊢))
      refine (bare_errno 2 2 _ (HandleAt.below HT.out hM.out.below)).mono ?_
      rintro e W ⟨rfl, hg⟩
      have hb := hg.below
      clear hg
      replace hM := hid (hM.out.later hb)
      clear hb
      go_wp2_with (first
        | (refine lW rfl (hM.out.at 0 rfl) rfl (rwR wz) ?_))
      go_ret
      exact ⟨rfl, hM.out.below⟩


set_option maxRecDepth 100000 in
theorem lifted (os : Os) (started : os.Started) (H : Type) (enc : TypeId × Value → H) :
    ReturnsInHanded {} Tryz.checked os 3 .any (fun w args => (Rows.recordDoesSpec.pre enc Tryz.prog Tryz.f3 [] false w args ∧ laidMetH Tryz.prog laidHandle w) ∧ sizedMet enc Tryz.prog Tryz.f3 (OpenSpec.ofChange Rows.recordDoesSpec) false w args)
      (Rows.recordDoesSpec.post enc Tryz.prog Tryz.f3 false true false false) := by
  refine returnsInHanded_of_change_and (C := Tryz.checked) (X := fun w _ => laidMetH Tryz.prog laidHandle w) (fun _ _ _ hh h => h.of_heap hh) own started (by kernel_rfl) Tryz.func3
    (ChangeSpec.witness_shaped (enc := enc) (C := Tryz.checked) (os := os) (X := fun w _ => laidMetH Tryz.prog laidHandle w) false (World.doorLaid Tryz.prog 400 os) #[.agg #[.int .u64 0, .int .u64 0, .int .u64 0, .int .u64 0, .int .u64 0, .int .u64 0, .int .u64 0, .int .u64 0, .int .u64 0, .int .u64 0, .int .u64 0, .int .u64 0, .int .u64 0, .int .u64 0, .int .u64 0, .int .u64 0, .int .u64 0, .int .u64 0, .int .u64 0, .int .u64 0, .int .u64 0, .int .u64 0, .int .u64 0, .int .u64 0, .int .u64 0, .int .u64 0, .int .u64 0, .int .u64 0, .int .u64 0, .int .u64 0, .int .u64 0, .int .u64 0], .int .i64 0, .agg #[.int .i64 0, .int .i64 0, .int .i64 0]] 8 rfl (World.shaped_of_RefB (by kernel_rfl) (by kernel_rfl)) (by kernel_rfl) (by kernel_rfl) (by kernel_rfl) (door_handle os _)) ?_
  intro W base args ds gs before hval0 hW _ _ hL _
  have hval : ∀ (j : Nat) t v, Tryz.f3.params[j]? = some t → args[j]? = some v → Value.okWide Tryz.prog W .any base t v := hval0
  have hW' := hW
  obtain ⟨p, q, hA0, hV, rfl, hfz, hnd⟩ := hW
  have hA : DataW.TrodAll enc Tryz.prog W 0 (fun _ => true) true Tryz.f3.params.toList args.toList ds p := hA0
  rw [Tryz.params3] at hA hval
  obtain ⟨v0, vs0, d0, ds0, p0, q0, hargs, rfl, rfl, h0, r0⟩ := trodAll_cons hA
  obtain ⟨v1, vs1, d1, ds1, p1, q1, rfl, rfl, rfl, h1, r1⟩ := trodAll_cons r0
  obtain ⟨v2, vs2, d2, ds2, p2, q2, rfl, rfl, rfl, h2, r2⟩ := trodAll_cons r1
  obtain ⟨rfl, rfl, rfl⟩ := trodAll_nil r2
  obtain rfl : args = #[v0, v1, v2] := by cases args; simp_all
  obtain ⟨rfl, rfl⟩ := trodVars_none hV
  obtain ⟨t0, rfl, u0⟩ := record_of_trod (hval 0 24 v0 rfl rfl) h0
  obtain ⟨a1, rfl, rfl, rfl, w1⟩ := open_int Tryz.underlying3 (hval 1 3 v1 rfl rfl) h1
  obtain ⟨a2, b2, c2, rfl, wa2, wb2, wc2⟩ := op_of_trod (hval 2 26 v2 rfl rfl) h2
  have hT := handle_of_laid hL
  have hlt := hW'.lt
  clear hA0 hval0
  refine (walk t0 a1 a2 b2 c2 u0 w1 wa2 wb2 wc2 W hT ).mono fun e W' ⟨he, hg⟩ => ?_
  subst he
  exact ⟨_, rfl, post_below (pv := []) hW' (fun _ _ _ => (trodAll_cons_mk (shut_bool Tryz.underlying4 _) trodAll_mk0)) (fun sp hsp => (trodAll_cons_mk (record_stay h0 hg (fun x hx => hlt x (by simp [hx])) (fun x hx => hsp x (by simp [hx]))) (trodAll_cons_mk (shut_int Tryz.underlying3 w1) (trodAll_cons_mk (op_stay h2 hg (fun x hx => hlt x (by simp [hx])) (fun x hx => hsp x (by simp [hx]))) trodAll_mk0)))) (fun _ _ => rfl) (by simp) (hg.frame _)⟩

theorem over : Rows.RecordDoesSaid :=
  OpenClaim.holds_of_wide 3 Tryz.f3 rfl rfl rfl rfl rfl rfl rfl ⟨rfl, rfl, rfl, rfl, rfl⟩ rfl rfl rfl rfl rfl (by kernel_rfl) Tryz.func3 (by kernel_rfl)
    (of_decide_eq_true (by kernel_rfl)) (by unfold Func.isWrapper; first | (rw [if_pos (by decide +kernel)]; kernel_rfl) | (rw [if_neg (by decide +kernel)]; exact ⟨rfl, rfl⟩))
    (fun os started H enc _ => lifted os started H enc)

theorem proved : Rows.RecordDoesCardSaid :=
  Claim7.holds_tied_plain_at .later [] [.handle] true (true, "002384a4ee096f5395fad909c9ffbb100111acffddcd56d6359efbb4eb4be7e3") true
    over (fun _ h => by cases h) (by kernel_rfl) (fun _ h => by cases h) recordDoes_row_tie rfl ⟨rfl, rfl⟩ (by kernel_rfl) rfl
    (fun f fn hf hfn => by
      obtain rfl : f = 3 := Option.some.inj ((show Tryz.prog.funcNamed "gristmill/gristmilllaw.RecordDoes" = some 3 by kernel_rfl).symm.trans hf) |>.symm
      obtain rfl : fn = Tryz.f3 := (Option.some.inj (Tryz.func3.symm.trans hfn)).symm
      exact ⟨by kernel_rfl, fun j t ht => by
        rw [Tryz.params3] at ht
        have hm : t ∈ [24, 3, 26] := by simpa using Array.mem_of_getElem? ht
        have hall : ([24, 3, 26].all fun u => !Tryz.prog.wantsStandIn u) = true := by kernel_rfl
        exact (show Tryz.prog.wantsStandIn t = false by simpa using List.all_eq_true.1 hall t hm)⟩)
    (by kernel_rfl)
#print axioms proved
end Go.Proofs.YtgkgkiheoadbfaaGreatDoor.Tab.recordDoes
