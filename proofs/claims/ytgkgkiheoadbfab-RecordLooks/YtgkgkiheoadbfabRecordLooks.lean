/- RecordLooks is proved: for every number of a kind, every list of deeds and every number of a thread the call returns true (who looks changes the object by nothing, and is counted all the same). -/
import Derived.Test.YtgkgkiheoadbfabRows
import Derived.Test.YtgkgkiheoadbfabPk07
import Derived.Test.YtgkgkiheoadbfabPk03
import Derived.Deep.DeepCutAuto
import Derived.Deep.RegionHeld3

namespace Go.Proofs.Ytgkgkiheoadbfab.Tab.recordLooks
set_option maxRecDepth 20000
open Go.ChangeShapes Go.WideShapes Go.ChangeAt Go.RowKit
set_option linter.unusedVariables false

theorem own : ownKnob Try.prog.godebug = none := by kernel_rfl

set_option maxHeartbeats 8000000 in
set_option maxRecDepth 20000 in
theorem walk (a0 : Int) (v1 : Value) (n1 : Nat) (a2 : Int) (w0 : (Lit.int .i64 a0).wf = true) (w2 : (Lit.int .i64 a2).wf = true) (w : World) (D : Dds w v1 n1) :
    Calls Try.prog 3 #[.int .i64 a0, v1, .int .i64 a2] w fun e w' => e = .returned (.bool true) ∧ Below w.heap.size w w' := by
  clear w0 w2
  have RC : Hid (∀ w : World, _) := recorded_is
  obtain ⟨kk, h1, h6, hko⟩ := kindOf_is a0
  have KO : Hid _ := hko
  clear hko
  obtain ⟨t, ht4, pt⟩ := pick4_is a2
  have Pt : Hid _ := pt
  clear pt
  have D1 : Hid (Dds w v1 n1) := D
  clear D
  have EE := cells_equal
  have hM : Hid _ := (Ms.nil w)
  go_enter Try.func3, Try.ntmps3
  go_wp2_with fail
  refine (RC.out _).mono ?_
  rintro e W ⟨rfl, hb⟩
  replace hM := hid (hM.out.later hb)
  clear hb
  go_wp2_with fail
  refine (KO.out _).mono ?_
  rintro e ux ⟨rfl, hw⟩
  rw [hw]; clear hw ux
  go_wp2_with fail
  refine (written_is h1 h6 (Dds.later (v := v1) (n := n1) D1.out hM.out.below)).mono ?_
  rintro e W ⟨d, hd, hk, hc, hm, rfl, hb⟩
  replace hM := hid (hM.out.later hb)
  clear hb
  have ID : Hid (isRec d) := hd
  have KD : Hid (d 0 = kk ∧ d 28 ≤ 30) := ⟨hk, hc⟩
  have MD : Hid _ := hm
  clear hd hk hc hm
  generalize hsz : w.heap.size = n at hM ⊢
  clear hsz
  obtain ⟨bx1, hbx1⟩ : ∃ q, q = W.heap.size := ⟨_, rfl⟩
  replace hM := hid (hM.out.bornR rl_zero.symm 26 (b := bx1) hbx1)
  have Hbx1 : Hid _ := hbx1
  clear hbx1
  go_wp2_with (first
    | (rw [← Hbx1.out]; refine sR rfl (hM.out.at 0 rfl) rfl ((rwR wz).len (rwR d)) (rwR d) ?_
       replace hM := hid (hM.out.put 0 rfl (rl d) ((rwR wz).len (rwR d)))
       generalize World.setCells _ _ _ _ = W at hM ⊢))
  have hR : Rt 6 0 0 := ⟨by decide, by decide, by decide, by decide, by decide, by decide⟩
  have DO : Hid (∀ w : World, _) := recDone_yes (o := 6) (k := 0) (x := 0) ID.out.u64 ht4 ID.out hR
  have IQ : Hid (isRec (rdo d t 6 0 0)) := rdo_rec ID.out hR ht4 (by have := KD.out.2; omega)
  have Q28 : Hid (rdo d t 6 0 0 28 = d 28 + 1) := rdo_28
  have OQ : Hid (∀ w : World, Calls Try.prog 11 #[.agg (rl (rdo d t 6 0 0)).toArray] w fun e w' => e = .returned (.agg (wl (ob d)).toArray) ∧ Below w.heap.size w w') := fun w => by
    have h := recObject_is (rdo d t 6 0 0) w
    have f := (odo_facts (k := 0) (x := 0) ID.out.1 (show (1 : Int) ≤ 6 by decide) (by decide) (by decide) (by decide) (by decide) (by decide)).same (Or.inr (Or.inr rfl))
    rw [wl_congr (rdo_ob ht4), f] at h
    exact h
  have OD : Hid (∀ w : World, _) := recObject_is d
  generalize rdo d t 6 0 0 = dq at *
  clear hR ht4 h1 h6
  obtain ⟨c, hc⟩ : ∃ c, d 28 = c := ⟨_, rfl⟩
  obtain ⟨c1, hc1⟩ : ∃ c1, c + 1 = c1 := ⟨_, rfl⟩
  have w1 : IntKind.u64.wrap ((c : Int) + 1) = (c1 : Nat) := by have := KD.out.2; rw [IntKind.wrap_u64]; omega
  have C0 : Hid (d 28 = c) := hc
  have C1 : Hid (dq 28 = c1) := Q28.out.trans (by rw [hc, hc1])
  clear hc hc1
  simp only [Act.put]
  go_cut [8, 9] (fun s8 s9 wx => ∃ bz8 : Nat, s8 = .pointer (some ⟨bz8, 0, none⟩) ∧ s9 = .nilIface ∧ Hid (Ms n w wx [(bx1, (rl d)), (bz8, (rl dq))] []))
  case first =>
    replace hM := hid (hM.out.drew)
    refine wp_region_held_drew (S := fun w' => Bo w' bx1 (rl d)) (by kernel_rfl) (hM.out.at 0 rfl) (fun hH => ?_)
    generalize World.drew _ = W at hM hH  ⊢
    refine tkR 0 rfl hH (fun _ h => h) (rwR d) ?_
    simp only [Act.put, p1, p2, p3]
    refine tk 1 rfl hH ?_
    simp only [Act.put, p1, p2, p3]
    refine tk 3 rfl hH ?_
    simp only [Act.put, p1, p2, p3]
    refine rdn [2, 8] ?_
    refine rdc rfl (fun K hK => ?_) ?_
    · go_simp
      refine (Pt.out _).mono ?_
      rintro e W ⟨rfl, hb⟩
      replace hM := hid (hM.out.later hb)
      clear hb
      go_wp2_with fail
      refine hK.out _ _ (hM.out.at 0 rfl) (fun hH => ?_)
      clear hK K
      try simp only [Act.put, p1, p2, p3]
      refine rdn [4, 8] ?_
      refine rdc rfl (fun K hK => ?_) ?_
      · go_simp
        refine (DO.out _).mono ?_
        rintro e W ⟨rfl, hb⟩
        replace hM := hid (hM.out.later hb)
        clear hb
        go_wp2_with fail
        refine hK.out _ _ (hM.out.at 0 rfl) (fun hH => ?_)
        clear hK K
        try simp only [Act.put, p1, p2, p3]
        refine tk 5 rfl hH ?_
        simp only [Act.put, p1, p2, p3]
        refine tk 6 rfl hH ?_
        simp only [Act.put, p1, p2, p3]
        refine tk 7 rfl hH ?_
        simp only [Act.put, p1, p2, p3]
        refine rd1 8 rfl (fun K hK => ?_)
        go_simp
        replace hM := hid (hM.out.bornR rl_zero.symm 26 rfl)
        refine hK.out _ _ (hM.out.at 1 rfl) (fun hH => ?_)
        clear hK K
        generalize W.heap.size = bq2 at hM hH ⊢
        generalize World.alloc _ _ = W at hM hH  ⊢
        try simp only [Act.put, p1, p2, p3]
        refine rd1 9 rfl (fun K hK => ?_)
        refine stR rfl (hM.out.at 0 rfl) ((rwR wz).len (rwR dq)) (rwR dq) ?_
        simp only [Act.put]
        replace hM := hid (hM.out.put 0 rfl (rl dq) ((rwR wz).len (rwR dq)))
        refine hK.out _ _ (hM.out.at 1 rfl) (fun hH => ?_)
        clear hK K
        generalize World.setCells _ _ _ _ = W at hM hH ⊢
        try simp only [Act.put, p1, p2, p3]
        refine tk 10 rfl hH ?_
        simp only [Act.put, p1, p2, p3]
        refine wpAnyH_done (by kernel_rfl) ?_ _
        go_wp2_with fail
        go_meet
        case rel => exact ⟨bq2, rfl, rfl, (hM.out.pick [1, 0]).pickL []⟩
      refine rdc rfl (fun K hK => ?_) AllReadyH.nil
      go_simp
      replace hM := hid (hM.out.bornR rl_zero.symm 26 rfl)
      refine hK.out _ _ (hM.out.at 1 rfl) (fun hH => ?_)
      clear hK K
      generalize W.heap.size = bq2 at hM hH ⊢
      generalize World.alloc _ _ = W at hM hH  ⊢
      try simp only [Act.put, p1, p2, p3]
      refine rd1 4 rfl (fun K hK => ?_)
      go_simp
      refine (DO.out _).mono ?_
      rintro e W ⟨rfl, hb⟩
      replace hM := hid (hM.out.later hb)
      clear hb
      go_wp2_with fail
      refine hK.out _ _ (hM.out.at 1 rfl) (fun hH => ?_)
      clear hK K
      try simp only [Act.put, p1, p2, p3]
      refine tk 5 rfl hH ?_
      simp only [Act.put, p1, p2, p3]
      refine tk 6 rfl hH ?_
      simp only [Act.put, p1, p2, p3]
      refine tk 7 rfl hH ?_
      simp only [Act.put, p1, p2, p3]
      refine rd1 9 rfl (fun K hK => ?_)
      refine stR rfl (hM.out.at 0 rfl) ((rwR wz).len (rwR dq)) (rwR dq) ?_
      simp only [Act.put]
      replace hM := hid (hM.out.put 0 rfl (rl dq) ((rwR wz).len (rwR dq)))
      refine hK.out _ _ (hM.out.at 1 rfl) (fun hH => ?_)
      clear hK K
      generalize World.setCells _ _ _ _ = W at hM hH ⊢
      try simp only [Act.put, p1, p2, p3]
      refine tk 10 rfl hH ?_
      simp only [Act.put, p1, p2, p3]
      refine wpAnyH_done (by kernel_rfl) ?_ _
      go_wp2_with fail
      go_meet
      case rel => exact ⟨bq2, rfl, rfl, (hM.out.pick [1, 0]).pickL []⟩
    refine rdc rfl (fun K hK => ?_) AllReadyH.nil
    go_simp
    replace hM := hid (hM.out.bornR rl_zero.symm 26 rfl)
    refine hK.out _ _ (hM.out.at 1 rfl) (fun hH => ?_)
    clear hK K
    generalize W.heap.size = bq2 at hM hH ⊢
    generalize World.alloc _ _ = W at hM hH  ⊢
    try simp only [Act.put, p1, p2, p3]
    refine rd1 2 rfl (fun K hK => ?_)
    go_simp
    refine (Pt.out _).mono ?_
    rintro e W ⟨rfl, hb⟩
    replace hM := hid (hM.out.later hb)
    clear hb
    go_wp2_with fail
    refine hK.out _ _ (hM.out.at 1 rfl) (fun hH => ?_)
    clear hK K
    try simp only [Act.put, p1, p2, p3]
    refine rd1 4 rfl (fun K hK => ?_)
    go_simp
    refine (DO.out _).mono ?_
    rintro e W ⟨rfl, hb⟩
    replace hM := hid (hM.out.later hb)
    clear hb
    go_wp2_with fail
    refine hK.out _ _ (hM.out.at 1 rfl) (fun hH => ?_)
    clear hK K
    try simp only [Act.put, p1, p2, p3]
    refine tk 5 rfl hH ?_
    simp only [Act.put, p1, p2, p3]
    refine tk 6 rfl hH ?_
    simp only [Act.put, p1, p2, p3]
    refine tk 7 rfl hH ?_
    simp only [Act.put, p1, p2, p3]
    refine rd1 9 rfl (fun K hK => ?_)
    refine stR rfl (hM.out.at 0 rfl) ((rwR wz).len (rwR dq)) (rwR dq) ?_
    simp only [Act.put]
    replace hM := hid (hM.out.put 0 rfl (rl dq) ((rwR wz).len (rwR dq)))
    refine hK.out _ _ (hM.out.at 1 rfl) (fun hH => ?_)
    clear hK K
    generalize World.setCells _ _ _ _ = W at hM hH ⊢
    try simp only [Act.put, p1, p2, p3]
    refine tk 10 rfl hH ?_
    simp only [Act.put, p1, p2, p3]
    refine wpAnyH_done (by kernel_rfl) ?_ _
    go_wp2_with fail
    go_meet
    case rel => exact ⟨bq2, rfl, rfl, (hM.out.pick [1, 0]).pickL []⟩
  case rest =>
    obtain ⟨bz8, rfl, rfl, hM⟩ := hcut
    generalize wc = W at hM ⊢
    go_wp2_with fail
    replace hM := hid (hM.out.drew)
    refine wp_region_held_drew (S := fun w' => Bo w' bx1 (rl d) ∧ Bo w' bz8 (rl dq)) (by kernel_rfl) ⟨hM.out.at 0 rfl, hM.out.at 1 rfl⟩ (fun hH => ?_)
    generalize World.drew _ = W at hM hH  ⊢
    refine tk 0 rfl hH ?_
    simp only [Act.put, p1, p2, p3]
    refine tk 1 rfl hH ?_
    simp only [Act.put, p1, p2, p3]
    refine tk 2 rfl hH ?_
    simp only [Act.put, p1, p2, p3]
    refine tkR 3 rfl hH (fun _ h => h.2) (rwR dq) ?_
    simp only [Act.put, p1, p2, p3]
    refine tkR 5 rfl hH (fun _ h => h.1) (rwR d) ?_
    simp only [Act.put, p1, p2, p3]
    refine rd1 4 rfl (fun K hK => ?_)
    go_simp
    refine (OQ.out _).mono ?_
    rintro e W ⟨rfl, hb⟩
    replace hM := hid (hM.out.later hb)
    clear hb
    go_wp2_with fail
    refine hK.out _ _ ⟨hM.out.at 0 rfl, hM.out.at 1 rfl⟩ (fun hH => ?_)
    clear hK K
    try simp only [Act.put, p1, p2, p3]
    refine rd1 6 rfl (fun K hK => ?_)
    go_simp
    refine (OD.out _).mono ?_
    rintro e W ⟨rfl, hb⟩
    replace hM := hid (hM.out.later hb)
    clear hb
    go_wp2_with fail
    refine hK.out _ _ ⟨hM.out.at 0 rfl, hM.out.at 1 rfl⟩ (fun hH => ?_)
    clear hK K
    try simp only [Act.put, p1, p2, p3]
    refine tk 7 rfl hH ?_
    simp only [Act.put, p1, p2, p3]
    refine tk 8 rfl hH ?_
    simp only [Act.put, p1, p2, p3]
    refine tk 9 rfl hH ?_
    simp only [Act.put, p1, p2, p3]
    refine tk 10 rfl hH ?_
    simp only [Act.put, p1, p2, p3]
    refine tk 11 rfl hH ?_ (by intro w h; have c0 := h.2.rwordx (show 28 < 32 by decide) C1.out; clear h; go_simp; try with_reducible rfl)
    simp only [Act.put, p1, p2, p3]
    refine tk 12 rfl hH ?_
    simp only [Act.put, p1, p2, p3]
    refine tk 13 rfl hH ?_ (by intro w h; have c0 := h.1.rwordx (show 28 < 32 by decide) C0.out; clear h; go_simp; try with_reducible rfl)
    simp only [Act.put, p1, p2, p3]
    refine tk 14 rfl hH ?_
    simp only [Act.put, p1, p2, p3]
    refine tk 15 rfl hH ?_
    simp only [Act.put, p1, p2, p3]
    refine tk 16 rfl hH ?_
    simp only [Act.put, p1, p2, p3]
    refine tk 17 rfl hH ?_
    simp only [Act.put, p1, p2, p3]
    refine wpAnyH_done (by kernel_rfl) ?_ _
    go_wp2
    go_ret
    exact ⟨rfl, hM.out.below⟩


set_option maxRecDepth 100000 in
theorem lifted (os : Os) (started : os.Started) (H : Type) (enc : TypeId × Value → H) :
    ReturnsInHanded {} Try.checked os 3 .any (Rows.recordLooksSpec.pre6 enc Try.prog Try.f3 Rows.recordLooksRow.domain false) (Rows.recordLooksSpec.post enc Try.prog Try.f3 false true false false) := by
  refine returnsInHanded_of_change (C := Try.checked) own started (by kernel_rfl) Try.func3
    (ChangeSpec.witness6 (enc := enc) (C := Try.checked) false ⟨#[], #[.int .i64 0, .slice none 0 0, .int .i64 0], []⟩ 8 (by kernel_rfl) (by kernel_rfl) (by kernel_rfl) (by kernel_rfl)) ?_
  intro W base args ds gs before hval0 hW hcnd _
  have hval : ∀ (j : Nat) t v, Try.f3.params[j]? = some t → args[j]? = some v → Value.okWide Try.prog W .any base t v := hval0
  have hW' := hW
  obtain ⟨p, q, hA0, hV, rfl, hfz, hnd⟩ := hW
  have hA : DataW.TrodAll enc Try.prog W 0 (fun _ => true) true Try.f3.params.toList args.toList ds p := hA0
  rw [Try.params3] at hA hval
  obtain ⟨v0, vs0, d0, ds0, p0, q0, hargs, rfl, rfl, h0, r0⟩ := trodAll_cons hA
  obtain ⟨v1, vs1, d1, ds1, p1, q1, rfl, rfl, rfl, h1, r1⟩ := trodAll_cons r0
  obtain ⟨v2, vs2, d2, ds2, p2, q2, rfl, rfl, rfl, h2, r2⟩ := trodAll_cons r1
  obtain ⟨rfl, rfl, rfl⟩ := trodAll_nil r2
  obtain rfl : args = #[v0, v1, v2] := by cases args; simp_all
  obtain ⟨rfl, rfl⟩ := trodVars_none hV
  obtain ⟨a0, rfl, rfl, rfl, w0⟩ := open_int Try.underlying3 (hval 0 3 v0 rfl rfl) h0
  obtain ⟨n1, D1⟩ := adeeds_of_trod (hval 1 22 v1 rfl rfl) h1
  obtain ⟨a2, rfl, rfl, rfl, w2⟩ := open_int Try.underlying3 (hval 2 3 v2 rfl rfl) h2
  have hlt := hW'.lt
  clear hA0 hval0
  refine (walk a0 v1 n1 a2 w0 w2 W  D1).mono fun e W' ⟨he, hg⟩ => ?_
  subst he
  exact ⟨_, rfl, post_below (pv := []) hW' (fun _ _ _ => (trodAll_cons_mk (shut_bool Try.underlying4 _) trodAll_mk0)) (fun sp hsp => (trodAll_cons_mk (shut_int Try.underlying3 w0) (trodAll_cons_mk (adeeds_stay h1 hg (fun x hx => hlt x (by simp [hx])) (fun x hx => hsp x (by simp [hx]))) (trodAll_cons_mk (shut_int Try.underlying3 w2) trodAll_mk0)))) (fun _ _ => rfl) (by simp) (hg.frame _)⟩

theorem over : Rows.recordLooksRow.holds Try.pinned (OpenSpec.ofChange Rows.recordLooksSpec) :=
  OpenClaim.holds_of_wide 3 Try.f3 rfl rfl rfl rfl rfl rfl rfl ⟨rfl, rfl, rfl, rfl, rfl⟩ rfl rfl rfl rfl rfl (by kernel_rfl) Try.func3 (by kernel_rfl)
    (of_decide_eq_true (by kernel_rfl)) (by unfold Func.isWrapper; first | (rw [if_pos (by decide +kernel)]; kernel_rfl) | (rw [if_neg (by decide +kernel)]; exact ⟨rfl, rfl⟩))
    (fun os started H enc _ => lifted os started H enc)

theorem proved : Rows.RecordLooksSaid :=
  over
#print axioms proved
end Go.Proofs.Ytgkgkiheoadbfab.Tab.recordLooks
