/- RecordRights is proved: for every thirty-two words the call returns true (whether any words are a record is the document's). -/
import Derived.Test.YtgkgkiheoadbfaaRows
import Derived.Test.YtgkgkiheoadbfaaPk06
import Derived.Deep.DeepCutAuto
import Derived.Deep.RegionHeld3

namespace Go.Proofs.Ytgkgkiheoadbfaa.Tab.recordRights
set_option maxRecDepth 20000
open Go.ChangeShapes Go.WideShapes Go.ChangeAt Go.RowKit
set_option linter.unusedVariables false

theorem own : ownKnob Try.prog.godebug = none := by kernel_rfl

set_option maxHeartbeats 8000000 in
set_option maxRecDepth 20000 in
theorem walk (r : Nat → Nat) (U : ∀ j, j < 32 → r j < 18446744073709551616) (w : World) :
    Calls Try.prog 4 #[.agg (rl r).toArray] w fun e w' => e = .returned (.bool true) ∧ Below w.heap.size w w' := by
  obtain ⟨b, hb⟩ := bool_of (isRec r)
  have RR : Hid (∀ w : World, _) := recRight_is U hb
  have RO : Hid (∀ (bc : Nat) (w : World) (hC : Bo w bc (rl r)), _) := fun bc w hC => RecOf_is U hb w hC
  clear hb U
  have hM : Hid _ := ((Ms.nil w).born (rl r) 24 (b := w.heap.size) rfl)
  go_enter Try.func4, Try.ntmps4
  go_wp2_with fail
  generalize World.alloc _ _ = W at hM ⊢
  generalize hsz : w.heap.size = n at hM ⊢
  clear hsz
  refine (RO.out _ _ (hM.out.at 0 rfl)).mono ?_
  rintro e W ⟨f, hf, rfl, hth, hb⟩
  replace hM := hid (hM.out.later hb)
  clear hb
  have F1 : Hid _ := hf
  clear hf hth
  obtain ⟨bx1, hbx1⟩ : ∃ q, q = W.heap.size := ⟨_, rfl⟩
  replace hM := hid (hM.out.bornR zf_all.symm 47 (b := bx1) hbx1)
  have Hbx1 : Hid _ := hbx1
  clear hbx1
  go_wp2_with (first
    | (rw [← Hbx1.out]; refine sR rfl (hM.out.at 0 rfl) rfl ((rwV zf_one).len (rwV F1.out)) (rwV F1.out) ?_
       replace hM := hid (hM.out.put 0 rfl (rv f) ((rwV zf_one).len (rwV F1.out)))
       generalize World.setCells _ _ _ _ = W at hM ⊢)
    | (refine lR rfl (hM.out.at 1 rfl) rfl (rwR r) ?_))
  refine (RR.out _).mono ?_
  rintro e W ⟨rfl, hb⟩
  replace hM := hid (hM.out.later hb)
  clear hb
  cases b
  all_goals go_wp2
  all_goals go_ret
  all_goals exact ⟨rfl, hM.out.below⟩


set_option maxRecDepth 100000 in
theorem lifted (os : Os) (started : os.Started) (H : Type) (enc : TypeId × Value → H) :
    ReturnsInHanded {} Try.checked os 4 .any (Rows.recordRightsSpec.pre6 enc Try.prog Try.f4 Rows.recordRightsRow.domain false) (Rows.recordRightsSpec.post enc Try.prog Try.f4 false true false false) := by
  refine returnsInHanded_of_change (C := Try.checked) own started (by kernel_rfl) Try.func4
    (ChangeSpec.witness6 (enc := enc) (C := Try.checked) false ⟨#[], #[.agg #[.int .u64 0, .int .u64 0, .int .u64 0, .int .u64 0, .int .u64 0, .int .u64 0, .int .u64 0, .int .u64 0, .int .u64 0, .int .u64 0, .int .u64 0, .int .u64 0, .int .u64 0, .int .u64 0, .int .u64 0, .int .u64 0, .int .u64 0, .int .u64 0, .int .u64 0, .int .u64 0, .int .u64 0, .int .u64 0, .int .u64 0, .int .u64 0, .int .u64 0, .int .u64 0, .int .u64 0, .int .u64 0, .int .u64 0, .int .u64 0, .int .u64 0, .int .u64 0]], []⟩ 8 (by kernel_rfl) (by kernel_rfl) (by kernel_rfl) (by kernel_rfl)) ?_
  intro W base args ds gs before hval0 hW hcnd _
  have hval : ∀ (j : Nat) t v, Try.f4.params[j]? = some t → args[j]? = some v → Value.okWide Try.prog W .any base t v := hval0
  have hW' := hW
  obtain ⟨p, q, hA0, hV, rfl, hfz, hnd⟩ := hW
  have hA : DataW.TrodAll enc Try.prog W 0 (fun _ => true) true Try.f4.params.toList args.toList ds p := hA0
  rw [Try.params4] at hA hval
  obtain ⟨v0, vs0, d0, ds0, p0, q0, hargs, rfl, rfl, h0, r0⟩ := trodAll_cons hA
  obtain ⟨rfl, rfl, rfl⟩ := trodAll_nil r0
  obtain rfl : args = #[v0] := by cases args; simp_all
  obtain ⟨rfl, rfl⟩ := trodVars_none hV
  obtain ⟨t0, rfl, u0⟩ := record_of_trod (hval 0 24 v0 rfl rfl) h0
  have hlt := hW'.lt
  clear hA0 hval0
  refine (walk t0 u0 W  ).mono fun e W' ⟨he, hg⟩ => ?_
  subst he
  exact ⟨_, rfl, post_below (pv := []) hW' (fun _ _ _ => (trodAll_cons_mk (shut_bool Try.underlying4 _) trodAll_mk0)) (fun sp hsp => (trodAll_cons_mk (record_stay h0 hg (fun x hx => hlt x (by simp [hx])) (fun x hx => hsp x (by simp [hx]))) trodAll_mk0)) (fun _ _ => rfl) (by simp) (hg.frame _)⟩

theorem over : Rows.recordRightsRow.holds Try.pinned (OpenSpec.ofChange Rows.recordRightsSpec) :=
  OpenClaim.holds_of_wide 4 Try.f4 rfl rfl rfl rfl rfl rfl rfl ⟨rfl, rfl, rfl, rfl, rfl⟩ rfl rfl rfl rfl rfl (by kernel_rfl) Try.func4 (by kernel_rfl)
    (of_decide_eq_true (by kernel_rfl)) (by unfold Func.isWrapper; first | (rw [if_pos (by decide +kernel)]; kernel_rfl) | (rw [if_neg (by decide +kernel)]; exact ⟨rfl, rfl⟩))
    (fun os started H enc _ => lifted os started H enc)

theorem proved : Rows.RecordRightsSaid :=
  over
#print axioms proved
end Go.Proofs.Ytgkgkiheoadbfaa.Tab.recordRights
