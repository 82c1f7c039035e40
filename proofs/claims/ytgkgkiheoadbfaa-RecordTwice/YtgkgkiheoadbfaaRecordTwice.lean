/- RecordTwice is proved: for every number of a kind, every list of deeds, every number of a thread and any two operations the call returns true (a thread's toggle, turned twice, is as it was; there are two deeds more). -/
import Derived.Test.YtgkgkiheoadbfaaRows
import Derived.Test.YtgkgkiheoadbfaaPk07
import Derived.Test.YtgkgkiheoadbfaaPk03
import Derived.Deep.DeepCutAuto
import Derived.Deep.RegionHeld3

namespace Go.Proofs.Ytgkgkiheoadbfaa.Tab.recordTwice
set_option maxRecDepth 20000
open Go.ChangeShapes Go.WideShapes Go.ChangeAt Go.RowKit
set_option linter.unusedVariables false

theorem own : ownKnob Try.prog.godebug = none := by kernel_rfl

set_option maxHeartbeats 8000000 in
set_option maxRecDepth 20000 in
theorem walk (a0 : Int) (v1 : Value) (n1 : Nat) (a2 : Int) (o k x l m y : Int) (w0 : (Lit.int .i64 a0).wf = true) (w2 : (Lit.int .i64 a2).wf = true) (wa3 : (Lit.int .i64 o).wf = true) (wb3 : (Lit.int .i64 k).wf = true) (wc3 : (Lit.int .i64 x).wf = true) (wa4 : (Lit.int .i64 l).wf = true) (wb4 : (Lit.int .i64 m).wf = true) (wc4 : (Lit.int .i64 y).wf = true) (w : World) (D : Dds w v1 n1) :
    Calls Try.prog 5 #[.int .i64 a0, v1, .int .i64 a2, .agg #[.int .i64 o, .int .i64 k, .int .i64 x], .agg #[.int .i64 l, .int .i64 m, .int .i64 y]] w fun e w' => e = .returned (.bool true) ∧ Below w.heap.size w w' := by
  clear w0 w2 wa3 wb3 wc3 wa4 wb4 wc4
  have RC : Hid (∀ w : World, _) := recorded_is
  obtain ⟨kk, h1, h6, hko⟩ := kindOf_is a0
  have KO : Hid _ := hko
  clear hko
  obtain ⟨t, ht4, pt⟩ := pick4_is a2
  have Pt : Hid _ := pt
  clear pt
  have D1 : Hid (Dds w v1 n1) := D
  clear D
  have ob3 : Hid (Rt o k x ∨ ¬ Rt o k x) := Classical.em _
  have ob4 : Hid (Rt l m y ∨ ¬ Rt l m y) := Classical.em _
  have hM : Hid _ := (((Ms.nil w).born [.int .i64 o, .int .i64 k, .int .i64 x] 54 (b := w.heap.size) rfl).born [.int .i64 l, .int .i64 m, .int .i64 y] 54 (b := w.heap.size + 1) (by simp))
  have c1 := hM.out.cell 1 0 rfl rfl
  have c2 := hM.out.cell 1 1 rfl rfl
  have c3 := hM.out.cell 1 2 rfl rfl
  have c4 := hM.out.cell 0 0 rfl rfl
  have c5 := hM.out.cell 0 1 rfl rfl
  have c6 := hM.out.cell 0 2 rfl rfl
  go_enter Try.func5, Try.ntmps5
  go_wp2_with fail
  refine (RC.out _).mono ?_
  rintro e W ⟨rfl, hb⟩
  replace hM := hid (hM.out.later hb)
  clear hb
  clear c1 c2 c3 c4 c5 c6
  rcases ob3.out with hR | hR
  · have OR : Hid (∀ w : World, _) := opR_yes hR
    have c7 := hM.out.cell 1 0 rfl rfl
    have c8 := hM.out.cell 1 1 rfl rfl
    have c9 := hM.out.cell 1 2 rfl rfl
    have c10 := hM.out.cell 0 0 rfl rfl
    have c11 := hM.out.cell 0 1 rfl rfl
    have c12 := hM.out.cell 0 2 rfl rfl
    go_wp2_with fail
    clear c7 c8 c9 c10 c11 c12
    refine (OR.out _).mono ?_
    rintro e W ⟨rfl, hb⟩
    replace hM := hid (hM.out.later hb)
    clear hb
    rcases ob4.out with hS | hS
    · have OS : Hid (∀ w : World, _) := opR_yes hS
      have c13 := hM.out.cell 1 0 rfl rfl
      have c14 := hM.out.cell 1 1 rfl rfl
      have c15 := hM.out.cell 1 2 rfl rfl
      have c16 := hM.out.cell 0 0 rfl rfl
      have c17 := hM.out.cell 0 1 rfl rfl
      have c18 := hM.out.cell 0 2 rfl rfl
      go_wp2_with fail
      clear c13 c14 c15 c16 c17 c18
      refine (OS.out _).mono ?_
      rintro e W ⟨rfl, hb⟩
      replace hM := hid (hM.out.later hb)
      clear hb
      go_wp2_with fail
      refine (KO.out _).mono ?_
      rintro e ux ⟨rfl, hw⟩
      rw [hw]; clear hw ux
      go_wp2_with fail
      refine (written_is h1 h6 (Dds.later (v := v1) (n := n1) D1.out hM.out.below)).mono ?_
      rintro e W ⟨d, hd, hk, hc, hm, rfl, hb⟩
      replace hM := hid (hM.out.later hb)
      clear hb
      have ID : Hid (isRec d) := hd
      have KD : Hid (d 0 = kk ∧ d 28 ≤ 30) := ⟨hk, hc⟩
      clear hd hk hc hm
      generalize hsz : w.heap.size = n at hM ⊢
      clear hsz
      obtain ⟨bx19, hbx19⟩ : ∃ q, q = W.heap.size := ⟨_, rfl⟩
      replace hM := hid (hM.out.bornR rl_zero.symm 24 (b := bx19) hbx19)
      have Hbx19 : Hid _ := hbx19
      clear hbx19
      go_wp2_with (first
        | (rw [← Hbx19.out]; refine sR rfl (hM.out.at 0 rfl) rfl ((rwR wz).len (rwR d)) (rwR d) ?_
           replace hM := hid (hM.out.put 0 rfl (rl d) ((rwR wz).len (rwR d)))
           generalize World.setCells _ _ _ _ = W at hM ⊢))
      refine (Pt.out _).mono ?_
      rintro e W ⟨rfl, hb⟩
      replace hM := hid (hM.out.later hb)
      clear hb
      have DO : Hid (∀ w : World, _) := recDone_yes (o := o) (k := k) (x := x) ID.out.u64 ht4 ID.out hR
      have IQ : Hid (isRec (rdo d t o k x)) := rdo_rec ID.out hR ht4 (by have := KD.out.2; omega)
      have Q28 : Hid (rdo d t o k x 28 = d 28 + 1) := rdo_28
      obtain ⟨d1, hd1⟩ : ∃ d1, d1 = rdo d t o k x := ⟨_, rfl⟩
      have A26 : Hid (d1 26 = d 26 ^^^ 2 ^ t) := by rw [hd1]; exact rdo_26
      have A27 : Hid (d1 27 = d 27) := by rw [hd1]; exact rdo_27 ht4
      rw [← hd1] at DO IQ Q28
      clear hd1
      have D2 : Hid (∀ w : World, _) := recDone_yes (o := l) (k := m) (x := y) IQ.out.u64 ht4 IQ.out hS
      obtain ⟨d2, hd2⟩ : ∃ d2, d2 = rdo d1 t l m y := ⟨_, rfl⟩
      obtain ⟨a, ha⟩ : ∃ a, d 26 = a := ⟨_, rfl⟩
      obtain ⟨v, hv⟩ : ∃ v, d 27 = v := ⟨_, rfl⟩
      obtain ⟨c, hc⟩ : ∃ c, d 28 = c := ⟨_, rfl⟩
      obtain ⟨c2, hc2⟩ : ∃ c2, c + 2 = c2 := ⟨_, rfl⟩
      have B26 : Hid (d2 26 = a) := by show _ = _; rw [hd2, rdo_26, A26.out, Nat.xor_assoc, Nat.xor_self, Nat.xor_zero, ha]
      have B27 : Hid (d2 27 = v) := by show _ = _; rw [hd2, rdo_27 ht4, A27.out, hv]
      have B28 : Hid (d2 28 = c2) := by show _ = _; rw [hd2, rdo_28, Q28.out, hc, ← hc2]
      have wc : IntKind.u64.wrap ((c : Int) + 2) = (c2 : Nat) := by have := KD.out.2; rw [IntKind.wrap_u64]; omega
      have H26 : Hid (d 26 = a) := ha
      have H27 : Hid (d 27 = v) := hv
      have H28 : Hid (d 28 = c) := hc
      rw [← hd2] at D2
      clear ha hv hc hc2 hd2 hR hS ht4 h1 h6
      have c20 := hM.out.cell 2 0 rfl rfl
      have c21 := hM.out.cell 2 1 rfl rfl
      have c22 := hM.out.cell 2 2 rfl rfl
      go_wp2_with (first
        | (refine lR rfl (hM.out.at 0 rfl) rfl (rwR d) ?_))
      clear c20 c21 c22
      refine (DO.out _).mono ?_
      rintro e W ⟨rfl, hb⟩
      replace hM := hid (hM.out.later hb)
      clear hb
      obtain ⟨bx23, hbx23⟩ : ∃ q, q = W.heap.size := ⟨_, rfl⟩
      replace hM := hid (hM.out.bornR rl_zero.symm 24 (b := bx23) hbx23)
      have Hbx23 : Hid _ := hbx23
      clear hbx23
      go_wp2_with (first
        | (rw [← Hbx23.out]; refine sR rfl (hM.out.at 0 rfl) rfl ((rwR wz).len (rwR d1)) (rwR d1) ?_
           replace hM := hid (hM.out.put 0 rfl (rl d1) ((rwR wz).len (rwR d1)))
           generalize World.setCells _ _ _ _ = W at hM ⊢
           have c24 := hM.out.cell 2 0 rfl rfl
           have c25 := hM.out.cell 2 1 rfl rfl
           have c26 := hM.out.cell 2 2 rfl rfl)
        | (refine lR rfl (hM.out.at 0 rfl) rfl (rwR d1) ?_))
      clear c24 c25 c26
      refine (D2.out _).mono ?_
      rintro e W ⟨rfl, hb⟩
      replace hM := hid (hM.out.later hb)
      clear hb
      obtain ⟨bx27, hbx27⟩ : ∃ q, q = W.heap.size := ⟨_, rfl⟩
      replace hM := hid (hM.out.bornR rl_zero.symm 24 (b := bx27) hbx27)
      have Hbx27 : Hid _ := hbx27
      clear hbx27
      go_wp2_with (first
        | (rw [← Hbx27.out]; refine sR rfl (hM.out.at 0 rfl) rfl ((rwR wz).len (rwR d2)) (rwR d2) ?_
           replace hM := hid (hM.out.put 0 rfl (rl d2) ((rwR wz).len (rwR d2)))
           generalize World.setCells _ _ _ _ = W at hM ⊢
           have x28 := (hM.out.at 0 rfl).rwordx (show 26 < 32 by decide) B26.out
           have x29 := (hM.out.at 0 rfl).rwordx (show 27 < 32 by decide) B27.out
           have x30 := (hM.out.at 0 rfl).rwordx (show 28 < 32 by decide) B28.out
           have x31 := (hM.out.at 2 rfl).rwordx (show 26 < 32 by decide) H26.out
           have x32 := (hM.out.at 2 rfl).rwordx (show 27 < 32 by decide) H27.out
           have x33 := (hM.out.at 2 rfl).rwordx (show 28 < 32 by decide) H28.out))
      go_ret
      exact ⟨rfl, hM.out.below⟩
    · have OS : Hid (∀ w : World, _) := opR_no hS
      clear hS
      have c13 := hM.out.cell 1 0 rfl rfl
      have c14 := hM.out.cell 1 1 rfl rfl
      have c15 := hM.out.cell 1 2 rfl rfl
      have c16 := hM.out.cell 0 0 rfl rfl
      have c17 := hM.out.cell 0 1 rfl rfl
      have c18 := hM.out.cell 0 2 rfl rfl
      go_wp2_with fail
      clear c13 c14 c15 c16 c17 c18
      refine (OS.out _).mono ?_
      rintro e W ⟨rfl, hb⟩
      replace hM := hid (hM.out.later hb)
      clear hb
      go_wp2
      go_ret
      exact ⟨rfl, hM.out.below⟩
  · have OR : Hid (∀ w : World, _) := opR_no hR
    clear hR
    have c7 := hM.out.cell 1 0 rfl rfl
    have c8 := hM.out.cell 1 1 rfl rfl
    have c9 := hM.out.cell 1 2 rfl rfl
    have c10 := hM.out.cell 0 0 rfl rfl
    have c11 := hM.out.cell 0 1 rfl rfl
    have c12 := hM.out.cell 0 2 rfl rfl
    go_wp2_with fail
    clear c7 c8 c9 c10 c11 c12
    refine (OR.out _).mono ?_
    rintro e W ⟨rfl, hb⟩
    replace hM := hid (hM.out.later hb)
    clear hb
    go_wp2
    go_ret
    exact ⟨rfl, hM.out.below⟩


set_option maxRecDepth 100000 in
theorem lifted (os : Os) (started : os.Started) (H : Type) (enc : TypeId × Value → H) :
    ReturnsInHanded {} Try.checked os 5 .any (Rows.recordTwiceSpec.pre6 enc Try.prog Try.f5 Rows.recordTwiceRow.domain false) (Rows.recordTwiceSpec.post enc Try.prog Try.f5 false true false false) := by
  refine returnsInHanded_of_change (C := Try.checked) own started (by kernel_rfl) Try.func5
    (ChangeSpec.witness6 (enc := enc) (C := Try.checked) false ⟨#[], #[.int .i64 0, .slice none 0 0, .int .i64 0, .agg #[.int .i64 0, .int .i64 0, .int .i64 0], .agg #[.int .i64 0, .int .i64 0, .int .i64 0]], []⟩ 8 (by kernel_rfl) (by kernel_rfl) (by kernel_rfl) (by kernel_rfl)) ?_
  intro W base args ds gs before hval0 hW hcnd _
  have hval : ∀ (j : Nat) t v, Try.f5.params[j]? = some t → args[j]? = some v → Value.okWide Try.prog W .any base t v := hval0
  have hW' := hW
  obtain ⟨p, q, hA0, hV, rfl, hfz, hnd⟩ := hW
  have hA : DataW.TrodAll enc Try.prog W 0 (fun _ => true) true Try.f5.params.toList args.toList ds p := hA0
  rw [Try.params5] at hA hval
  obtain ⟨v0, vs0, d0, ds0, p0, q0, hargs, rfl, rfl, h0, r0⟩ := trodAll_cons hA
  obtain ⟨v1, vs1, d1, ds1, p1, q1, rfl, rfl, rfl, h1, r1⟩ := trodAll_cons r0
  obtain ⟨v2, vs2, d2, ds2, p2, q2, rfl, rfl, rfl, h2, r2⟩ := trodAll_cons r1
  obtain ⟨v3, vs3, d3, ds3, p3, q3, rfl, rfl, rfl, h3, r3⟩ := trodAll_cons r2
  obtain ⟨v4, vs4, d4, ds4, p4, q4, rfl, rfl, rfl, h4, r4⟩ := trodAll_cons r3
  obtain ⟨rfl, rfl, rfl⟩ := trodAll_nil r4
  obtain rfl : args = #[v0, v1, v2, v3, v4] := by cases args; simp_all
  obtain ⟨rfl, rfl⟩ := trodVars_none hV
  obtain ⟨a0, rfl, rfl, rfl, w0⟩ := open_int Try.underlying3 (hval 0 3 v0 rfl rfl) h0
  obtain ⟨n1, D1⟩ := adeeds_of_trod (hval 1 52 v1 rfl rfl) h1
  obtain ⟨a2, rfl, rfl, rfl, w2⟩ := open_int Try.underlying3 (hval 2 3 v2 rfl rfl) h2
  obtain ⟨a3, b3, c3, rfl, wa3, wb3, wc3⟩ := op_of_trod (hval 3 54 v3 rfl rfl) h3
  obtain ⟨a4, b4, c4, rfl, wa4, wb4, wc4⟩ := op_of_trod (hval 4 54 v4 rfl rfl) h4
  have hlt := hW'.lt
  clear hA0 hval0
  refine (walk a0 v1 n1 a2 a3 b3 c3 a4 b4 c4 w0 w2 wa3 wb3 wc3 wa4 wb4 wc4 W  D1).mono fun e W' ⟨he, hg⟩ => ?_
  subst he
  exact ⟨_, rfl, post_below (pv := []) hW' (fun _ _ _ => (trodAll_cons_mk (shut_bool Try.underlying4 _) trodAll_mk0)) (fun sp hsp => (trodAll_cons_mk (shut_int Try.underlying3 w0) (trodAll_cons_mk (adeeds_stay h1 hg (fun x hx => hlt x (by simp [hx])) (fun x hx => hsp x (by simp [hx]))) (trodAll_cons_mk (shut_int Try.underlying3 w2) (trodAll_cons_mk (op_stay h3 hg (fun x hx => hlt x (by simp [hx])) (fun x hx => hsp x (by simp [hx]))) (trodAll_cons_mk (op_stay h4 hg (fun x hx => hlt x (by simp [hx])) (fun x hx => hsp x (by simp [hx]))) trodAll_mk0)))))) (fun _ _ => rfl) (by simp) (hg.frame _)⟩

theorem over : Rows.recordTwiceRow.holds Try.pinned (OpenSpec.ofChange Rows.recordTwiceSpec) :=
  OpenClaim.holds_of_wide 5 Try.f5 rfl rfl rfl rfl rfl rfl rfl ⟨rfl, rfl, rfl, rfl, rfl⟩ rfl rfl rfl rfl rfl (by kernel_rfl) Try.func5 (by kernel_rfl)
    (of_decide_eq_true (by kernel_rfl)) (by unfold Func.isWrapper; first | (rw [if_pos (by decide +kernel)]; kernel_rfl) | (rw [if_neg (by decide +kernel)]; exact ⟨rfl, rfl⟩))
    (fun os started H enc _ => lifted os started H enc)

theorem proved : Rows.RecordTwiceSaid :=
  over
#print axioms proved
end Go.Proofs.Ytgkgkiheoadbfaa.Tab.recordTwice
