/- RecordTells is proved: for every number of a kind, every list of deeds, every number of a thread and every operation the call returns true (what the object answers is what is told). -/
import Derived.Test.YtgkgkiheoadbfabRows
import Derived.Test.YtgkgkiheoadbfabPk07
import Derived.Test.YtgkgkiheoadbfabPk03
import Derived.Test.YtgkgkiheoadbfabPk08
import Derived.Deep.DeepCutAuto
import Derived.Deep.RegionHeld3

namespace Go.Proofs.Ytgkgkiheoadbfab.Tab.recordTells
set_option maxRecDepth 20000
open Go.ChangeShapes Go.WideShapes Go.ChangeAt Go.RowKit
set_option linter.unusedVariables false

theorem own : ownKnob Try.prog.godebug = none := by kernel_rfl

set_option maxHeartbeats 8000000 in
set_option maxRecDepth 20000 in
theorem walk (a0 : Int) (v1 : Value) (n1 : Nat) (a2 : Int) (o k x : Int) (w0 : (Lit.int .i64 a0).wf = true) (w2 : (Lit.int .i64 a2).wf = true) (wa3 : (Lit.int .i64 o).wf = true) (wb3 : (Lit.int .i64 k).wf = true) (wc3 : (Lit.int .i64 x).wf = true) (w : World) (D : Dds w v1 n1) :
    Calls Try.prog 5 #[.int .i64 a0, v1, .int .i64 a2, .agg #[.int .i64 o, .int .i64 k, .int .i64 x]] w fun e w' => e = .returned (.bool true) ∧ Below w.heap.size w w' := by
  clear w0 w2 wa3 wb3 wc3
  have RC : Hid (∀ w : World, _) := recorded_is
  obtain ⟨kk, h1, h6, hko⟩ := kindOf_is a0
  have KO : Hid _ := hko
  clear hko
  obtain ⟨t, ht4, pt⟩ := pick4_is a2
  have Pt : Hid _ := pt
  clear pt
  have D1 : Hid (Dds w v1 n1) := D
  clear D
  have TH : Hid (∀ w : World, _) := fun w => things_is w
  have EE := cells_equal
  have ob3 : Hid (Rt o k x ∨ ¬ Rt o k x) := Classical.em _
  obtain ⟨va, vc, hv⟩ := Dds.form (v := v1) (n := n1) D1.out
  have HV1 : Hid (v1 = .slice va n1 vc) := hv
  clear hv
  have LN : Hid (∀ (a : Addr) (c : Nat) (w : World), _) := fun a c w => legal_nil h1 h6 a c w
  have hM : Hid _ := ((Ms.nil w).born [.int .i64 o, .int .i64 k, .int .i64 x] 35 (b := w.heap.size) rfl)
  have c1 := hM.out.cell 0 0 rfl rfl
  have c2 := hM.out.cell 0 1 rfl rfl
  have c3 := hM.out.cell 0 2 rfl rfl
  go_enter Try.func5, Try.ntmps5
  go_wp2_with fail
  refine (RC.out _).mono ?_
  rintro e W ⟨rfl, hb⟩
  replace hM := hid (hM.out.later hb)
  clear hb
  go_wp2_with fail
  refine (TH.out _).mono ?_
  rintro e W ⟨rfl, hb⟩
  replace hM := hid (hM.out.later hb)
  clear hb
  go_wp2_with fail
  refine (KO.out _).mono ?_
  rintro e ux ⟨rfl, hw⟩
  rw [hw]; clear hw ux
  go_wp2_with fail
  clear c1 c2 c3
  refine (written_is h1 h6 (Dds.later (v := v1) (n := n1) D1.out hM.out.below)).mono ?_
  rintro e W ⟨d, hd, hk, hc, hm, rfl, hb⟩
  replace hM := hid (hM.out.later hb)
  clear hb
  have ID : Hid (isRec d) := hd
  have KD : Hid (d 0 = kk ∧ d 28 ≤ 30) := ⟨hk, hc⟩
  have MD : Hid _ := hm
  clear hd hk hc hm
  generalize hsz : w.heap.size = n at hM ⊢
  clear hsz
  obtain ⟨bx4, hbx4⟩ : ∃ q, q = W.heap.size := ⟨_, rfl⟩
  replace hM := hid (hM.out.bornR rl_zero.symm 26 (b := bx4) hbx4)
  have Hbx4 : Hid _ := hbx4
  clear hbx4
  go_wp2_with (first
    | (rw [← Hbx4.out]; refine sR rfl (hM.out.at 0 rfl) rfl ((rwR wz).len (rwR d)) (rwR d) ?_
       replace hM := hid (hM.out.put 0 rfl (rl d) ((rwR wz).len (rwR d)))
       generalize World.setCells _ _ _ _ = W at hM ⊢))
  refine (Pt.out _).mono ?_
  rintro e W ⟨rfl, hb⟩
  replace hM := hid (hM.out.later hb)
  clear hb
  have hv := HV1.out
  clear HV1 D1
  subst hv
  rcases ob3.out with hR | hR
  · rcases Nat.eq_zero_or_pos n1 with h0 | h0
    · subst h0
      have er := MD.out rfl
      rw [er] at hM
      have ID : Hid (isRec (newR kk)) := newR_rec h1 h6
      have KD : Hid (newR kk 0 = kk ∧ newR kk 28 ≤ 30) := ⟨newR_0 kk, by unfold newR; rw [if_neg (by decide)]; omega⟩
      clear er MD
      have eo := ob_newR kk
      obtain ⟨d, hd⟩ : ∃ d, d = newR kk := ⟨_, rfl⟩
      rw [← hd] at hM ID KD eo
      have OR : Hid (∀ w : World, Calls Try.prog 11 #[.agg (rl d).toArray] w fun e w' => e = .returned (.agg (wl wz).toArray) ∧ Below w.heap.size w w') := fun w => by have h := recObject_is d w; rw [eo] at h; exact h
      have OQ : Hid (∀ w : World, Calls Try.prog 11 #[.agg (rl (rdo d t o k x)).toArray] w fun e w' => e = .returned (.agg (wl (odo (kk : Nat) wz o k x).1).toArray) ∧ Below w.heap.size w w') := fun w => by have h := recObject_is (rdo d t o k x) w; rw [wl_congr (rdo_ob ht4), eo, KD.out.1] at h; exact h
      have MO : Hid (∀ {b : Nat} {w : World} (h : Bo w b [.int .i64 o, .int .i64 k, .int .i64 x]), _) := fun {b w} h => made_one h1 h6 hR w h
      generalize (odo (kk : Nat) wz o k x).1 = D at *
      clear hd eo
      have DO : Hid (∀ w : World, _) := recDone_yes (o := o) (k := k) (x := x) ID.out.u64 ht4 ID.out hR
      have IQ : Hid (isRec (rdo d t o k x)) := rdo_rec ID.out hR ht4 (by have := KD.out.2; omega)
      have Q28 : Hid (rdo d t o k x 28 = d 28 + 1) := rdo_28
      obtain ⟨xa, xb, xk, hft, AQ⟩ : ∃ xa xb xk : Int, Ft xa xb ∧ Hid (∀ w : World, Calls Try.prog 14 #[.agg (rl (rdo d t o k x)).toArray, .int .i64 (t : Nat)] w fun e w' => e = .returned (.tuple #[.agg #[.int .i64 xa, .int .i64 xb], .int .i64 xk, .nilIface]) ∧ Below w.heap.size w w') := by
        have ha : Aw (rdo d t o k x (18 + t)) := by rw [rdo_a ht4]; exact aw_ans (odo_ft ID.out.1 hR)
        exact ⟨((rdo d t o k x (18 + t) / 4294967296 : Nat) : Int), ((rdo d t o k x (18 + t) % 4294967296 : Nat) : Int), _, ha, fun w => recAnswer_yes IQ.out.u64 ht4 ha w⟩
      have FI : Hid (∀ w : World, _) := fits_yes hft
      have KQ : Hid (∀ w : World, Calls Try.prog 19 #[.agg (rl (rdo d t o k x)).toArray] w fun e w' => e = .returned (.int .i64 (kk : Nat)) ∧ Below w.heap.size w w') := fun w => recKind_is (rdo d t o k x) (q := kk) (by rw [rdo_0 ht4, KD.out.1]; omega) w
      generalize rdo d t o k x = dq at *
      clear hft hR ht4 h1 h6
      have c5 := hM.out.cell 1 0 rfl rfl
      have c6 := hM.out.cell 1 1 rfl rfl
      have c7 := hM.out.cell 1 2 rfl rfl
      go_wp2_with (first
        | (refine lR rfl (hM.out.at 0 rfl) rfl (rwR d) ?_))
      clear c5 c6 c7
      refine (DO.out _).mono ?_
      rintro e W ⟨rfl, hb⟩
      replace hM := hid (hM.out.later hb)
      clear hb
      obtain ⟨bx8, hbx8⟩ : ∃ q, q = W.heap.size := ⟨_, rfl⟩
      replace hM := hid (hM.out.bornR rl_zero.symm 26 (b := bx8) hbx8)
      have Hbx8 : Hid _ := hbx8
      clear hbx8
      go_wp2_with (first
        | (rw [← Hbx8.out]; refine sR rfl (hM.out.at 0 rfl) rfl ((rwR wz).len (rwR dq)) (rwR dq) ?_
           replace hM := hid (hM.out.put 0 rfl (rl dq) ((rwR wz).len (rwR dq)))
           generalize World.setCells _ _ _ _ = W at hM ⊢)
        | (refine lR rfl (hM.out.at 0 rfl) rfl (rwR dq) ?_))
      refine (AQ.out _).mono ?_
      rintro e W ⟨rfl, hb⟩
      replace hM := hid (hM.out.later hb)
      clear hb
      obtain ⟨bx9, hbx9⟩ : ∃ q, q = W.heap.size := ⟨_, rfl⟩
      replace hM := hid (hM.out.born [.int .i64 0, .int .i64 0] 42 (b := bx9) hbx9)
      have Hbx9 : Hid _ := hbx9
      clear hbx9
      go_wp2_with (first
        | (rw [← Hbx9.out]; refine sR rfl (hM.out.at 0 rfl) rfl ((rwA 0 0).len (rwA xa xb)) (rwA xa xb) ?_
           replace hM := hid (hM.out.put 0 rfl [.int .i64 xa, .int .i64 xb] ((rwA 0 0).len (rwA xa xb)))
           generalize World.setCells _ _ _ _ = W at hM ⊢))
      replace hM := hid (hM.out.born [] 56 rfl)
      generalize W.heap.size = be at hM ⊢
      generalize World.alloc _ _ = W at hM ⊢
      refine (LN.out _ _ _).mono ?_
      rintro e W ⟨rfl, hb⟩
      replace hM := hid (hM.out.later hb)
      clear hb
      obtain ⟨bx10, hbx10⟩ : ∃ q, q = W.heap.size := ⟨_, rfl⟩
      replace hM := hid (hM.out.bornR wz_all.symm 37 (b := bx10) hbx10)
      have Hbx10 : Hid _ := hbx10
      clear hbx10
      go_wp2_with (first
        | (rw [← Hbx10.out]; refine sR rfl (hM.out.at 0 rfl) rfl ((rwC wz).len (rwC wz)) (rwC wz) ?_
           replace hM := hid (hM.out.put 0 rfl (wl wz) ((rwC wz).len (rwC wz)))
           generalize World.setCells _ _ _ _ = W at hM ⊢))
      replace hM := hid (hM.out.drew)
      refine wp_region_held_drew (S := fun w' => Bo w' bx8 (rl dq) ∧ Bo w' bx9 [.int .i64 xa, .int .i64 xb] ∧ Bo w' n [.int .i64 o, .int .i64 k, .int .i64 x] ∧ Bo w' bx10 (wl wz) ∧ Bo w' bx4 (rl d)) (by kernel_rfl) ⟨hM.out.at 3 rfl, hM.out.at 2 rfl, hM.out.at 5 rfl, hM.out.at 0 rfl, hM.out.at 4 rfl⟩ (fun hH => ?_)
      generalize World.drew _ = W at hM hH  ⊢
      refine tk 0 rfl hH ?_
      simp only [Act.put, p1, p2, p3]
      refine tk 1 rfl hH ?_
      simp only [Act.put, p1, p2, p3]
      refine tk 2 rfl hH ?_
      simp only [Act.put, p1, p2, p3]
      refine tk 3 rfl hH ?_
      simp only [Act.put, p1, p2, p3]
      refine tk 4 rfl hH ?_
      simp only [Act.put, p1, p2, p3]
      refine tk 5 rfl hH ?_
      simp only [Act.put, p1, p2, p3]
      refine tk 6 rfl hH ?_
      simp only [Act.put, p1, p2, p3]
      refine tk 7 rfl hH ?_ (by intro w h; have c0 := h.2.1.at 0 rfl; have c1 := h.2.1.at 1 rfl; clear h; go_simp; try with_reducible rfl)
      simp only [Act.put, p1, p2, p3]
      refine rd1 8 rfl (fun K hK => ?_)
      go_simp
      refine (FI.out _).mono ?_
      rintro e W ⟨rfl, hb⟩
      replace hM := hid (hM.out.later hb)
      clear hb
      go_wp2_with fail
      refine hK.out _ _ ⟨hM.out.at 3 rfl, hM.out.at 2 rfl, hM.out.at 5 rfl, hM.out.at 0 rfl, hM.out.at 4 rfl⟩ (fun hH => ?_)
      clear hK K
      try simp only [Act.put, p1, p2, p3]
      refine tk 9 rfl hH ?_
      simp only [Act.put, p1, p2, p3]
      refine tk 10 rfl hH ?_
      simp only [Act.put, p1, p2, p3]
      refine tkR 11 rfl hH (fun _ h => h.1) (rwR dq) ?_
      simp only [Act.put, p1, p2, p3]
      refine tk 13 rfl hH ?_
      simp only [Act.put, p1, p2, p3]
      refine rd1 12 rfl (fun K hK => ?_)
      go_simp
      refine (KQ.out _).mono ?_
      rintro e W ⟨rfl, hb⟩
      replace hM := hid (hM.out.later hb)
      clear hb
      go_wp2_with fail
      refine hK.out _ _ ⟨hM.out.at 3 rfl, hM.out.at 2 rfl, hM.out.at 5 rfl, hM.out.at 0 rfl, hM.out.at 4 rfl⟩ (fun hH => ?_)
      clear hK K
      try simp only [Act.put, p1, p2, p3]
      refine tk 14 rfl hH ?_
      simp only [Act.put, p1, p2, p3]
      refine tk 15 rfl hH ?_
      simp only [Act.put, p1, p2, p3]
      refine tk 16 rfl hH ?_
      simp only [Act.put, p1, p2, p3]
      refine tk 17 rfl hH ?_
      simp only [Act.put, p1, p2, p3]
      refine tk 18 rfl hH ?_
      simp only [Act.put, p1, p2, p3]
      refine tk 19 rfl hH ?_
      simp only [Act.put, p1, p2, p3]
      refine tk 20 rfl hH ?_
      simp only [Act.put, p1, p2, p3]
      refine tkR 21 rfl hH (fun _ h => h.1) (rwR dq) ?_
      simp only [Act.put, p1, p2, p3]
      refine tk 23 rfl hH ?_
      simp only [Act.put, p1, p2, p3]
      refine tk 24 rfl hH ?_ (by intro w h; have c0 := h.2.2.1.at 0 rfl; have c1 := h.2.2.1.at 1 rfl; have c2 := h.2.2.1.at 2 rfl; clear h; go_simp; try with_reducible rfl)
      simp only [Act.put, p1, p2, p3]
      refine rdn [22, 25] ?_
      refine rdc rfl (fun K hK => ?_) ?_
      · go_simp
        refine (OQ.out _).mono ?_
        rintro e W ⟨rfl, hb⟩
        replace hM := hid (hM.out.later hb)
        clear hb
        go_wp2_with fail
        refine hK.out _ _ ⟨hM.out.at 3 rfl, hM.out.at 2 rfl, hM.out.at 5 rfl, hM.out.at 0 rfl, hM.out.at 4 rfl⟩ (fun hH => ?_)
        clear hK K
        try simp only [Act.put, p1, p2, p3]
        refine rd1 25 rfl (fun K hK => ?_)
        go_simp
        replace hM := hid (hM.out.born [.int .i64 o, .int .i64 k, .int .i64 x] 35 rfl)
        refine hK.out _ _ ⟨hM.out.at 4 rfl, hM.out.at 3 rfl, hM.out.at 6 rfl, hM.out.at 1 rfl, hM.out.at 5 rfl⟩ (fun hH => ?_)
        clear hK K
        generalize W.heap.size = bq11 at hM hH ⊢
        generalize World.alloc _ _ = W at hM hH  ⊢
        try simp only [Act.put, p1, p2, p3]
        refine rd1 26 rfl (fun K hK => ?_)
        go_simp
        refine (MO.out (hM.out.at 0 rfl)).mono ?_
        rintro e W ⟨rfl, hb⟩
        replace hM := hid (hM.out.later hb)
        clear hb
        go_wp2_with fail
        refine hK.out _ _ ⟨hM.out.at 4 rfl, hM.out.at 3 rfl, hM.out.at 6 rfl, hM.out.at 1 rfl, hM.out.at 5 rfl⟩ (fun hH => ?_)
        clear hK K
        try simp only [Act.put, p1, p2, p3]
        refine tk 27 rfl hH ?_
        simp only [Act.put, p1, p2, p3]
        refine tk 28 rfl hH ?_
        simp only [Act.put, p1, p2, p3]
        refine tkR 29 rfl hH (fun _ h => h.2.2.2.1) (rwC wz) ?_
        simp only [Act.put, p1, p2, p3]
        refine tkR 30 rfl hH (fun _ h => h.2.2.2.2) (rwR d) ?_
        simp only [Act.put, p1, p2, p3]
        refine rd1 31 rfl (fun K hK => ?_)
        go_simp
        refine (OR.out _).mono ?_
        rintro e W ⟨rfl, hb⟩
        replace hM := hid (hM.out.later hb)
        clear hb
        go_wp2_with fail
        refine hK.out _ _ ⟨hM.out.at 4 rfl, hM.out.at 3 rfl, hM.out.at 6 rfl, hM.out.at 1 rfl, hM.out.at 5 rfl⟩ (fun hH => ?_)
        clear hK K
        try simp only [Act.put, p1, p2, p3]
        refine tk 32 rfl hH ?_
        simp only [Act.put, p1, p2, p3]
        refine tk 33 rfl hH ?_
        simp only [Act.put, p1, p2, p3]
        refine tk 34 rfl hH ?_
        simp only [Act.put, p1, p2, p3]
        refine tk 35 rfl hH ?_
        simp only [Act.put, p1, p2, p3]
        refine tk 36 rfl hH ?_
        simp only [Act.put, p1, p2, p3]
        refine wpAnyH_done (by kernel_rfl) ?_ _
        go_wp2
        go_ret
        exact ⟨rfl, hM.out.below⟩
      refine rdc rfl (fun K hK => ?_) AllReadyH.nil
      go_simp
      replace hM := hid (hM.out.born [.int .i64 o, .int .i64 k, .int .i64 x] 35 rfl)
      refine hK.out _ _ ⟨hM.out.at 4 rfl, hM.out.at 3 rfl, hM.out.at 6 rfl, hM.out.at 1 rfl, hM.out.at 5 rfl⟩ (fun hH => ?_)
      clear hK K
      generalize W.heap.size = bq11 at hM hH ⊢
      generalize World.alloc _ _ = W at hM hH  ⊢
      try simp only [Act.put, p1, p2, p3]
      refine rd1 22 rfl (fun K hK => ?_)
      go_simp
      refine (OQ.out _).mono ?_
      rintro e W ⟨rfl, hb⟩
      replace hM := hid (hM.out.later hb)
      clear hb
      go_wp2_with fail
      refine hK.out _ _ ⟨hM.out.at 4 rfl, hM.out.at 3 rfl, hM.out.at 6 rfl, hM.out.at 1 rfl, hM.out.at 5 rfl⟩ (fun hH => ?_)
      clear hK K
      try simp only [Act.put, p1, p2, p3]
      refine rd1 26 rfl (fun K hK => ?_)
      go_simp
      refine (MO.out (hM.out.at 0 rfl)).mono ?_
      rintro e W ⟨rfl, hb⟩
      replace hM := hid (hM.out.later hb)
      clear hb
      go_wp2_with fail
      refine hK.out _ _ ⟨hM.out.at 4 rfl, hM.out.at 3 rfl, hM.out.at 6 rfl, hM.out.at 1 rfl, hM.out.at 5 rfl⟩ (fun hH => ?_)
      clear hK K
      try simp only [Act.put, p1, p2, p3]
      refine tk 27 rfl hH ?_
      simp only [Act.put, p1, p2, p3]
      refine tk 28 rfl hH ?_
      simp only [Act.put, p1, p2, p3]
      refine tkR 29 rfl hH (fun _ h => h.2.2.2.1) (rwC wz) ?_
      simp only [Act.put, p1, p2, p3]
      refine tkR 30 rfl hH (fun _ h => h.2.2.2.2) (rwR d) ?_
      simp only [Act.put, p1, p2, p3]
      refine rd1 31 rfl (fun K hK => ?_)
      go_simp
      refine (OR.out _).mono ?_
      rintro e W ⟨rfl, hb⟩
      replace hM := hid (hM.out.later hb)
      clear hb
      go_wp2_with fail
      refine hK.out _ _ ⟨hM.out.at 4 rfl, hM.out.at 3 rfl, hM.out.at 6 rfl, hM.out.at 1 rfl, hM.out.at 5 rfl⟩ (fun hH => ?_)
      clear hK K
      try simp only [Act.put, p1, p2, p3]
      refine tk 32 rfl hH ?_
      simp only [Act.put, p1, p2, p3]
      refine tk 33 rfl hH ?_
      simp only [Act.put, p1, p2, p3]
      refine tk 34 rfl hH ?_
      simp only [Act.put, p1, p2, p3]
      refine tk 35 rfl hH ?_
      simp only [Act.put, p1, p2, p3]
      refine tk 36 rfl hH ?_
      simp only [Act.put, p1, p2, p3]
      refine wpAnyH_done (by kernel_rfl) ?_ _
      go_wp2
      go_ret
      exact ⟨rfl, hM.out.below⟩
    · have g0 : (0 : Int) < (n1 : Int) := by omega
      have DO : Hid (∀ w : World, _) := recDone_yes (o := o) (k := k) (x := x) ID.out.u64 ht4 ID.out hR
      have IQ : Hid (isRec (rdo d t o k x)) := rdo_rec ID.out hR ht4 (by have := KD.out.2; omega)
      have Q28 : Hid (rdo d t o k x 28 = d 28 + 1) := rdo_28
      obtain ⟨xa, xb, xk, hft, AQ⟩ : ∃ xa xb xk : Int, Ft xa xb ∧ Hid (∀ w : World, Calls Try.prog 14 #[.agg (rl (rdo d t o k x)).toArray, .int .i64 (t : Nat)] w fun e w' => e = .returned (.tuple #[.agg #[.int .i64 xa, .int .i64 xb], .int .i64 xk, .nilIface]) ∧ Below w.heap.size w w') := by
        have ha : Aw (rdo d t o k x (18 + t)) := by rw [rdo_a ht4]; exact aw_ans (odo_ft ID.out.1 hR)
        exact ⟨((rdo d t o k x (18 + t) / 4294967296 : Nat) : Int), ((rdo d t o k x (18 + t) % 4294967296 : Nat) : Int), _, ha, fun w => recAnswer_yes IQ.out.u64 ht4 ha w⟩
      have FI : Hid (∀ w : World, _) := fits_yes hft
      have KQ : Hid (∀ w : World, Calls Try.prog 19 #[.agg (rl (rdo d t o k x)).toArray] w fun e w' => e = .returned (.int .i64 (kk : Nat)) ∧ Below w.heap.size w w') := fun w => recKind_is (rdo d t o k x) (q := kk) (by rw [rdo_0 ht4, KD.out.1]; omega) w
      generalize rdo d t o k x = dq at *
      clear hft hR ht4 h1 h6
      have c5 := hM.out.cell 1 0 rfl rfl
      have c6 := hM.out.cell 1 1 rfl rfl
      have c7 := hM.out.cell 1 2 rfl rfl
      go_wp2_with (first
        | (refine lR rfl (hM.out.at 0 rfl) rfl (rwR d) ?_))
      clear c5 c6 c7
      refine (DO.out _).mono ?_
      rintro e W ⟨rfl, hb⟩
      replace hM := hid (hM.out.later hb)
      clear hb
      obtain ⟨bx8, hbx8⟩ : ∃ q, q = W.heap.size := ⟨_, rfl⟩
      replace hM := hid (hM.out.bornR rl_zero.symm 26 (b := bx8) hbx8)
      have Hbx8 : Hid _ := hbx8
      clear hbx8
      go_wp2_with (first
        | (rw [← Hbx8.out]; refine sR rfl (hM.out.at 0 rfl) rfl ((rwR wz).len (rwR dq)) (rwR dq) ?_
           replace hM := hid (hM.out.put 0 rfl (rl dq) ((rwR wz).len (rwR dq)))
           generalize World.setCells _ _ _ _ = W at hM ⊢)
        | (refine lR rfl (hM.out.at 0 rfl) rfl (rwR dq) ?_))
      refine (AQ.out _).mono ?_
      rintro e W ⟨rfl, hb⟩
      replace hM := hid (hM.out.later hb)
      clear hb
      obtain ⟨bx9, hbx9⟩ : ∃ q, q = W.heap.size := ⟨_, rfl⟩
      replace hM := hid (hM.out.born [.int .i64 0, .int .i64 0] 42 (b := bx9) hbx9)
      have Hbx9 : Hid _ := hbx9
      clear hbx9
      go_wp2_with (first
        | (rw [← Hbx9.out]; refine sR rfl (hM.out.at 0 rfl) rfl ((rwA 0 0).len (rwA xa xb)) (rwA xa xb) ?_
           replace hM := hid (hM.out.put 0 rfl [.int .i64 xa, .int .i64 xb] ((rwA 0 0).len (rwA xa xb)))
           generalize World.setCells _ _ _ _ = W at hM ⊢))
      replace hM := hid (hM.out.born [] 56 rfl)
      generalize W.heap.size = be at hM ⊢
      generalize World.alloc _ _ = W at hM ⊢
      refine (LN.out _ _ _).mono ?_
      rintro e W ⟨rfl, hb⟩
      replace hM := hid (hM.out.later hb)
      clear hb
      obtain ⟨bx10, hbx10⟩ : ∃ q, q = W.heap.size := ⟨_, rfl⟩
      replace hM := hid (hM.out.bornR wz_all.symm 37 (b := bx10) hbx10)
      have Hbx10 : Hid _ := hbx10
      clear hbx10
      go_wp2_with (first
        | (rw [← Hbx10.out]; refine sR rfl (hM.out.at 0 rfl) rfl ((rwC wz).len (rwC wz)) (rwC wz) ?_
           replace hM := hid (hM.out.put 0 rfl (wl wz) ((rwC wz).len (rwC wz)))
           generalize World.setCells _ _ _ _ = W at hM ⊢))
      replace hM := hid (hM.out.drew)
      refine wp_region_held_drew (S := fun w' => Bo w' bx8 (rl dq) ∧ Bo w' bx9 [.int .i64 xa, .int .i64 xb]) (by kernel_rfl) ⟨hM.out.at 3 rfl, hM.out.at 2 rfl⟩ (fun hH => ?_)
      generalize World.drew _ = W at hM hH  ⊢
      refine tk 0 rfl hH ?_
      simp only [Act.put, p1, p2, p3]
      refine tk 1 rfl hH ?_
      simp only [Act.put, p1, p2, p3]
      refine tk 2 rfl hH ?_
      simp only [Act.put, p1, p2, p3]
      refine tk 3 rfl hH ?_
      simp only [Act.put, p1, p2, p3]
      refine tk 4 rfl hH ?_
      simp only [Act.put, p1, p2, p3]
      refine tk 5 rfl hH ?_
      simp only [Act.put, p1, p2, p3]
      refine tk 6 rfl hH ?_
      simp only [Act.put, p1, p2, p3]
      refine tk 7 rfl hH ?_ (by intro w h; have c0 := h.2.at 0 rfl; have c1 := h.2.at 1 rfl; clear h; go_simp; try with_reducible rfl)
      simp only [Act.put, p1, p2, p3]
      refine rd1 8 rfl (fun K hK => ?_)
      go_simp
      refine (FI.out _).mono ?_
      rintro e W ⟨rfl, hb⟩
      replace hM := hid (hM.out.later hb)
      clear hb
      go_wp2_with fail
      refine hK.out _ _ ⟨hM.out.at 3 rfl, hM.out.at 2 rfl⟩ (fun hH => ?_)
      clear hK K
      try simp only [Act.put, p1, p2, p3]
      refine tk 9 rfl hH ?_
      simp only [Act.put, p1, p2, p3]
      refine tk 10 rfl hH ?_
      simp only [Act.put, p1, p2, p3]
      refine tkR 11 rfl hH (fun _ h => h.1) (rwR dq) ?_
      simp only [Act.put, p1, p2, p3]
      refine tk 13 rfl hH ?_
      simp only [Act.put, p1, p2, p3]
      refine rd1 12 rfl (fun K hK => ?_)
      go_simp
      refine (KQ.out _).mono ?_
      rintro e W ⟨rfl, hb⟩
      replace hM := hid (hM.out.later hb)
      clear hb
      go_wp2_with fail
      refine hK.out _ _ ⟨hM.out.at 3 rfl, hM.out.at 2 rfl⟩ (fun hH => ?_)
      clear hK K
      try simp only [Act.put, p1, p2, p3]
      refine tk 14 rfl hH ?_
      simp only [Act.put, p1, p2, p3]
      refine tk 15 rfl hH ?_
      simp only [Act.put, p1, p2, p3]
      refine tk 16 rfl hH ?_
      simp only [Act.put, p1, p2, p3]
      refine tk 17 rfl hH ?_
      simp only [Act.put, p1, p2, p3]
      refine tk 18 rfl hH ?_
      simp only [Act.put, p1, p2, p3]
      refine tk 19 rfl hH ?_
      simp only [Act.put, p1, p2, p3]
      refine tk 20 rfl hH ?_
      simp only [Act.put, p1, p2, p3]
      refine tkN 21 rfl hH ?_
      simp only [Act.put, p1, p2, p3]
      refine tkN 22 rfl hH ?_
      simp only [Act.put, p1, p2, p3]
      refine tkN 23 rfl hH ?_
      simp only [Act.put, p1, p2, p3]
      refine tkN 24 rfl hH ?_
      simp only [Act.put, p1, p2, p3]
      refine tkN 25 rfl hH ?_
      simp only [Act.put, p1, p2, p3]
      refine tkN 26 rfl hH ?_
      simp only [Act.put, p1, p2, p3]
      refine tkN 27 rfl hH ?_
      simp only [Act.put, p1, p2, p3]
      refine tkN 28 rfl hH ?_
      simp only [Act.put, p1, p2, p3]
      refine tkN 29 rfl hH ?_
      simp only [Act.put, p1, p2, p3]
      refine tkN 30 rfl hH ?_
      simp only [Act.put, p1, p2, p3]
      refine tkN 31 rfl hH ?_
      simp only [Act.put, p1, p2, p3]
      refine tkN 32 rfl hH ?_
      simp only [Act.put, p1, p2, p3]
      refine tkN 33 rfl hH ?_
      simp only [Act.put, p1, p2, p3]
      refine tk 34 rfl hH ?_
      simp only [Act.put, p1, p2, p3]
      refine tk 35 rfl hH ?_
      simp only [Act.put, p1, p2, p3]
      refine tk 36 rfl hH ?_
      simp only [Act.put, p1, p2, p3]
      refine wpAnyH_done (by kernel_rfl) ?_ _
      go_wp2
      go_ret
      exact ⟨rfl, hM.out.below⟩
  · have DO : Hid (∀ w : World, _) := recDone_wrong ID.out.u64 ht4 ID.out hR
    have OR : Hid (∀ w : World, _) := opR_no hR
    clear hR ht4 h1 h6
    have c5 := hM.out.cell 1 0 rfl rfl
    have c6 := hM.out.cell 1 1 rfl rfl
    have c7 := hM.out.cell 1 2 rfl rfl
    go_wp2_with (first
      | (refine lR rfl (hM.out.at 0 rfl) rfl (rwR d) ?_))
    clear c5 c6 c7
    refine (DO.out _).mono ?_
    rintro e W ⟨rfl, hb⟩
    replace hM := hid (hM.out.later hb)
    clear hb
    obtain ⟨bx8, hbx8⟩ : ∃ q, q = W.heap.size := ⟨_, rfl⟩
    replace hM := hid (hM.out.bornR rl_zero.symm 26 (b := bx8) hbx8)
    have Hbx8 : Hid _ := hbx8
    clear hbx8
    go_wp2_with (first
      | (rw [← Hbx8.out]; refine sR rfl (hM.out.at 0 rfl) rfl ((rwR wz).len (rwR wz)) (rwR wz) ?_
         replace hM := hid (hM.out.put 0 rfl (rl wz) ((rwR wz).len (rwR wz)))
         generalize World.setCells _ _ _ _ = W at hM ⊢
         have c9 := hM.out.cell 2 0 rfl rfl
         have c10 := hM.out.cell 2 1 rfl rfl
         have c11 := hM.out.cell 2 2 rfl rfl))
    refine (OR.out _).mono ?_
    rintro e W ⟨rfl, hb⟩
    replace hM := hid (hM.out.later hb)
    clear hb
    clear c9 c10 c11
    go_wp2
    go_ret
    exact ⟨rfl, hM.out.below⟩


set_option maxRecDepth 100000 in
theorem lifted (os : Os) (started : os.Started) (H : Type) (enc : TypeId × Value → H) :
    ReturnsInHanded {} Try.checked os 5 .any (Rows.recordTellsSpec.pre6 enc Try.prog Try.f5 Rows.recordTellsRow.domain false) (Rows.recordTellsSpec.post enc Try.prog Try.f5 false true false false) := by
  refine returnsInHanded_of_change (C := Try.checked) own started (by kernel_rfl) Try.func5
    (ChangeSpec.witness6 (enc := enc) (C := Try.checked) false ⟨#[], #[.int .i64 0, .slice none 0 0, .int .i64 0, .agg #[.int .i64 0, .int .i64 0, .int .i64 0]], []⟩ 8 (by kernel_rfl) (by kernel_rfl) (by kernel_rfl) (by kernel_rfl)) ?_
  intro W base args ds gs before hval0 hW hcnd _
  have hval : ∀ (j : Nat) t v, Try.f5.params[j]? = some t → args[j]? = some v → Value.okWide Try.prog W .any base t v := hval0
  have hW' := hW
  obtain ⟨p, q, hA0, hV, rfl, hfz, hnd⟩ := hW
  have hA : DataW.TrodAll enc Try.prog W 0 (fun _ => true) true Try.f5.params.toList args.toList ds p := hA0
  rw [Try.params5] at hA hval
  obtain ⟨v0, vs0, d0, ds0, p0, q0, hargs, rfl, rfl, h0, r0⟩ := trodAll_cons hA
  obtain ⟨v1, vs1, d1, ds1, p1, q1, rfl, rfl, rfl, h1, r1⟩ := trodAll_cons r0
  obtain ⟨v2, vs2, d2, ds2, p2, q2, rfl, rfl, rfl, h2, r2⟩ := trodAll_cons r1
  obtain ⟨v3, vs3, d3, ds3, p3, q3, rfl, rfl, rfl, h3, r3⟩ := trodAll_cons r2
  obtain ⟨rfl, rfl, rfl⟩ := trodAll_nil r3
  obtain rfl : args = #[v0, v1, v2, v3] := by cases args; simp_all
  obtain ⟨rfl, rfl⟩ := trodVars_none hV
  obtain ⟨a0, rfl, rfl, rfl, w0⟩ := open_int Try.underlying3 (hval 0 3 v0 rfl rfl) h0
  obtain ⟨n1, D1⟩ := adeeds_of_trod (hval 1 22 v1 rfl rfl) h1
  obtain ⟨a2, rfl, rfl, rfl, w2⟩ := open_int Try.underlying3 (hval 2 3 v2 rfl rfl) h2
  obtain ⟨a3, b3, c3, rfl, wa3, wb3, wc3⟩ := op_of_trod (hval 3 35 v3 rfl rfl) h3
  have hlt := hW'.lt
  clear hA0 hval0
  refine (walk a0 v1 n1 a2 a3 b3 c3 w0 w2 wa3 wb3 wc3 W  D1).mono fun e W' ⟨he, hg⟩ => ?_
  subst he
  exact ⟨_, rfl, post_below (pv := []) hW' (fun _ _ _ => (trodAll_cons_mk (shut_bool Try.underlying4 _) trodAll_mk0)) (fun sp hsp => (trodAll_cons_mk (shut_int Try.underlying3 w0) (trodAll_cons_mk (adeeds_stay h1 hg (fun x hx => hlt x (by simp [hx])) (fun x hx => hsp x (by simp [hx]))) (trodAll_cons_mk (shut_int Try.underlying3 w2) (trodAll_cons_mk (op_stay h3 hg (fun x hx => hlt x (by simp [hx])) (fun x hx => hsp x (by simp [hx]))) trodAll_mk0))))) (fun _ _ => rfl) (by simp) (hg.frame _)⟩

theorem over : Rows.recordTellsRow.holds Try.pinned (OpenSpec.ofChange Rows.recordTellsSpec) :=
  OpenClaim.holds_of_wide 5 Try.f5 rfl rfl rfl rfl rfl rfl rfl ⟨rfl, rfl, rfl, rfl, rfl⟩ rfl rfl rfl rfl rfl (by kernel_rfl) Try.func5 (by kernel_rfl)
    (of_decide_eq_true (by kernel_rfl)) (by unfold Func.isWrapper; first | (rw [if_pos (by decide +kernel)]; kernel_rfl) | (rw [if_neg (by decide +kernel)]; exact ⟨rfl, rfl⟩))
    (fun os started H enc _ => lifted os started H enc)

theorem proved : Rows.RecordTellsSaid :=
  over
#print axioms proved
end Go.Proofs.Ytgkgkiheoadbfab.Tab.recordTells
