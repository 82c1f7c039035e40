/- BatchNone is proved: for every number of a kind and every list of deeds the call returns true (a batch of nothing is a version more, and no other word); the library's handle of the type error stands as the program's text lays it. -/
import Derived.Test.YteogbpaaacmllaaDoorRows
import Derived.Test.YteogbpaaacmllaaDoorPk08
import Derived.Test.YteogbpaaacmllaaDoorLaidHandle
import Derived.Test.YteogbpaaacmllaaDoorPk00
import Derived.Test.YteogbpaaacmllaaDoorCards
import Derived.Deep.DeepCutAuto
import Derived.Deep.RegionHeld3
import Derived.SevenTiedAt

namespace Go.Proofs.YteogbpaaacmllaaDoor.Tab.batchNone
set_option maxRecDepth 20000
open Go.ChangeShapes Go.WideShapes Go.ChangeAt Go.RowKit
set_option linter.unusedVariables false

set_option maxHeartbeats 16000000 in
set_option maxRecDepth 20000 in
theorem walk (a0 : Int) (v1 : Value) (n1 : Nat) (w0 : (Lit.int .i64 a0).wf = true) (w : World) (hT : HandleAt w) (D : Dds w v1 n1) :
    Calls Tryd.prog 4 #[.int .i64 a0, v1] w fun e w' => e = .returned (.bool true) ∧ Below w.heap.size w w' := by
  clear w0 hT
  have RC : Hid (∀ w : World, _) := recorded_is
  have BC : Hid (∀ w : World, _) := batched_is
  obtain ⟨kk, h1, h6, hko⟩ := kindOf_is a0
  have KO : Hid _ := hko
  clear hko
  have D1 : Hid (Dds w v1 n1) := D
  clear D
  have hM : Hid _ := (Ms.nil w)
  go_enter Tryd.func4, Tryd.ntmps4
  go_wp2_with fail
  refine (BC.out _).mono ?_
  rintro e W ⟨rfl, hb⟩
  replace hM := hid (hM.out.later hb)
  clear hb
  go_wp2_with fail
  refine (RC.out _).mono ?_
  rintro e W ⟨rfl, hb⟩
  replace hM := hid (hM.out.later hb)
  clear hb
  go_wp2_with fail
  refine (KO.out _).mono ?_
  rintro e ux ⟨rfl, hw⟩
  rw [hw]; clear hw ux
  go_wp2_with fail
  refine (written_is h1 h6 (Dds.later (v := v1) (n := n1) D1.out hM.out.below)).mono ?_
  rintro e W ⟨d, hd, hk, hc, hm, rfl, hb⟩
  replace hM := hid (hM.out.later hb)
  clear hb
  have V27 : Hid (d 27 < 18446744073709551615) := hid (by have := hd.2.2.2.2.2.1; omega)
  have DO : Hid (∀ w : World, _) := do_nil hd
  clear hd hk hc hm h1 h6
  generalize hsz : w.heap.size = n at hM ⊢
  clear hsz
  obtain ⟨bx1, hbx1⟩ : ∃ q, q = W.heap.size := ⟨_, rfl⟩
  replace hM := hid (hM.out.bornR rl_zero.symm 24 (b := bx1) hbx1)
  have Hbx1 : Hid _ := hbx1
  clear hbx1
  go_wp2_with (first
    | (rw [← Hbx1.out]; refine sR rfl (hM.out.at 0 rfl) rfl ((rwR wz).len (rwR d)) (rwR d) ?_
       replace hM := hid (hM.out.put 0 rfl (rl d) ((rwR wz).len (rwR d)))
       generalize World.setCells _ _ _ _ = W at hM ⊢)
    | (refine lR rfl (hM.out.at 0 rfl) rfl (rwR d) ?_))
  refine (DO.out _).mono ?_
  rintro e W ⟨rfl, hb⟩
  replace hM := hid (hM.out.later hb)
  clear hb
  obtain ⟨db, hdb⟩ : ∃ c, c = bump d := ⟨_, rfl⟩
  rw [← hdb]
  have HDB : Hid _ := hdb
  clear hdb
  obtain ⟨bx2, hbx2⟩ : ∃ q, q = W.heap.size := ⟨_, rfl⟩
  replace hM := hid (hM.out.bornR rl_zero.symm 24 (b := bx2) hbx2)
  have Hbx2 : Hid _ := hbx2
  clear hbx2
  obtain ⟨vn, hvn⟩ : ∃ v, v = d 27 := ⟨_, rfl⟩
  have w27 : IntKind.u64.wrap ((vn : Int) + 1) = ((vn + 1 : Nat) : Int) := by rw [IntKind.wrap_u64]; have := V27.out; omega
  obtain ⟨v1, hv1⟩ : ∃ v, v = vn + 1 := ⟨_, rfl⟩
  rw [← hv1] at w27
  have HB : Hid (rl (upw d 27 v1) = rl (bump d)) := by rw [hv1, hvn]; rfl
  have HVN : Hid _ := hvn
  clear hvn hv1
  have EQ : rl (upw d 27 v1) = rl db := by rw [HB.out, HDB.out]
  have HQ : Hid _ := EQ
  clear EQ
  have EE := rec_equal db
  go_wp2_with (first
    | (rw [← Hbx2.out]; refine sR rfl (hM.out.at 0 rfl) rfl ((rwR wz).len (rwR db)) (rwR db) ?_
       replace hM := hid (hM.out.put 0 rfl (rl db) ((rwR wz).len (rwR db)))
       generalize World.setCells _ _ _ _ = W at hM ⊢
       have x3 := (hM.out.at 1 rfl).rwordx (show 27 < 32 by decide) HVN.out.symm)
    | (refine s1 rfl (hM.out.at 1 rfl) 27 rfl (.int .u64 (v1 : Nat)) rfl sz_u ?_ (by rw [rl_length]; decide)
       replace hM := hid (hM.out.put1 1 27 rfl (.int .u64 (v1 : Nat)) (rl (upw d 27 v1)) (by rw [rl_length]; decide) (rl_set _ _ (by decide)))
       generalize World.setCell _ _ _ = W at hM ⊢
       clear x3)
    | (refine lW rfl (hM.out.at 0 rfl) rfl (rwR db) ?_)
    | (refine lW rfl (hM.out.at 1 rfl) rfl (rwR (upw d 27 v1)) ?_; rw [HQ.out]))
  go_ret
  exact ⟨rfl, hM.out.below⟩


set_option maxRecDepth 100000 in
theorem lifted (os : Os) (started : os.Started) (H : Type) (enc : TypeId × Value → H) :
    ReturnsInHanded {} Tryd.checked os 4 .any (fun w args => (Rows.batchNoneSpec.pre enc Tryd.prog Tryd.f4 [] false w args ∧ laidMetH Tryd.prog laidHandle w) ∧ sizedMet enc Tryd.prog Tryd.f4 (OpenSpec.ofChange Rows.batchNoneSpec) false w args)
      (Rows.batchNoneSpec.post enc Tryd.prog Tryd.f4 false true false false) := by
  refine returnsInHanded_of_change_and (C := Tryd.checked) (X := fun w _ => laidMetH Tryd.prog laidHandle w) (fun _ _ _ hh h => h.of_heap hh) own started (by kernel_rfl) Tryd.func4
    (ChangeSpec.witness_shaped (enc := enc) (C := Tryd.checked) (os := os) (X := fun w _ => laidMetH Tryd.prog laidHandle w) false (World.doorLaid Tryd.prog 400 os) #[.int .i64 0, .slice none 0 0] 8 rfl (World.shaped_of_RefB (by kernel_rfl) (by kernel_rfl)) (by kernel_rfl) (by kernel_rfl) (by kernel_rfl) (door_handle os _)) ?_
  intro W base args ds gs before hval0 hW _ _ hL _
  have hval : ∀ (j : Nat) t v, Tryd.f4.params[j]? = some t → args[j]? = some v → Value.okWide Tryd.prog W .any base t v := hval0
  have hW' := hW
  obtain ⟨p, q, hA0, hV, rfl, hfz, hnd⟩ := hW
  have hA : DataW.TrodAll enc Tryd.prog W 0 (fun _ => true) true Tryd.f4.params.toList args.toList ds p := hA0
  rw [Tryd.params4] at hA hval
  obtain ⟨v0, vs0, d0, ds0, p0, q0, hargs, rfl, rfl, h0, r0⟩ := trodAll_cons hA
  obtain ⟨v1, vs1, d1, ds1, p1, q1, rfl, rfl, rfl, h1, r1⟩ := trodAll_cons r0
  obtain ⟨rfl, rfl, rfl⟩ := trodAll_nil r1
  obtain rfl : args = #[v0, v1] := by cases args; simp_all
  obtain ⟨rfl, rfl⟩ := trodVars_none hV
  obtain ⟨a0, rfl, rfl, rfl, w0⟩ := open_int Tryd.underlying3 (hval 0 3 v0 rfl rfl) h0
  obtain ⟨n1, D1⟩ := adeeds_of_trod (hval 1 41 v1 rfl rfl) h1
  have hT := handle_of_laid hL
  have hlt := hW'.lt
  clear hA0 hval0
  refine (walk a0 v1 n1 w0 W hT D1).mono fun e W' ⟨he, hg⟩ => ?_
  subst he
  exact ⟨_, rfl, post_below (pv := []) hW' (fun _ _ _ => (trodAll_cons_mk (shut_bool Tryd.underlying4 _) trodAll_mk0)) (fun sp hsp => (trodAll_cons_mk (shut_int Tryd.underlying3 w0) (trodAll_cons_mk (adeeds_stay h1 hg (fun x hx => hlt x (by simp [hx])) (fun x hx => hsp x (by simp [hx]))) trodAll_mk0))) (fun _ _ => rfl) (by simp) (hg.frame _)⟩

theorem over : Rows.BatchNoneSaid :=
  OpenClaim.holds_of_wide 4 Tryd.f4 rfl rfl rfl rfl rfl rfl rfl ⟨rfl, rfl, rfl, rfl, rfl⟩ rfl rfl rfl rfl rfl (by kernel_rfl) Tryd.func4 (by kernel_rfl)
    (of_decide_eq_true (by kernel_rfl)) (by unfold Func.isWrapper; first | (rw [if_pos (by decide +kernel)]; kernel_rfl) | (rw [if_neg (by decide +kernel)]; exact ⟨rfl, rfl⟩))
    (fun os started H enc _ => lifted os started H enc)

theorem proved : Rows.BatchNoneCardSaid :=
  Claim7.holds_tied_plain_at .later [] [.handle] true (true, "cec31d70e81bb7b02ee8602f9a3c7aeeea482d7b28caed499688775e148d21bb") true
    over (fun _ h => by cases h) (by kernel_rfl) (fun _ h => by cases h) batchNone_row_tie rfl ⟨rfl, rfl⟩ (by kernel_rfl) rfl
    (fun f fn hf hfn => by
      obtain rfl : f = 4 := Option.some.inj ((show Tryd.prog.funcNamed "gristmill/gristmillkeep.BatchNone" = some 4 by kernel_rfl).symm.trans hf) |>.symm
      obtain rfl : fn = Tryd.f4 := (Option.some.inj (Tryd.func4.symm.trans hfn)).symm
      exact ⟨by kernel_rfl, fun j t ht => by
        rw [Tryd.params4] at ht
        have hm : t ∈ [3, 41] := by simpa using Array.mem_of_getElem? ht
        have hall : ([3, 41].all fun u => !Tryd.prog.wantsStandIn u) = true := by kernel_rfl
        exact (show Tryd.prog.wantsStandIn t = false by simpa using List.all_eq_true.1 hall t hm)⟩)
    (by kernel_rfl)
#print axioms proved
end Go.Proofs.YteogbpaaacmllaaDoor.Tab.batchNone
