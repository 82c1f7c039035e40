/- OpFits is proved: for every answer the call returns true (package op's Answer and Fits answer as the reference's, the error too); the library's handle of the type error stands as the program's text lays it. -/
import Derived.Test.YtdohomdhgkhebaaDoorRfA
import Derived.Test.YtdohomdhgkhebaaDoorArgAn
import Derived.Test.YtdohomdhgkhebaaDoorErrs
import Derived.Test.YtdohomdhgkhebaaDoorLaidHandle
import Derived.Test.YtdohomdhgkhebaaDoorCards
import Derived.SevenTiedAt
import Derived.Deep.RegionWith
import Derived.ChangeAlike

namespace Go.Proofs.YtdohomdhgkhebaaDoor.opFits
open Go.ChangeShapes Go.WideShapes Go.ChangeAt Go.RowKit
set_option linter.unusedVariables false

set_option maxHeartbeats 1000000 in
theorem walk (a b : Int) (_w0 : (Lit.int .i64 a).wf = true) (_w1 : (Lit.int .i64 b).wf = true) (w : World) (hT : HandleAt w) :
    Calls Tryd.prog 5 #[.agg #[.int .i64 a, .int .i64 b]] w fun e w' => e = .returned (.bool true) ∧ Below w.heap.size w w' := by
  by_cases h : Ft a b
  · obtain ⟨o, rfl⟩ := Int.eq_ofNat_of_zero_le (show 0 ≤ a by have := h.c1; omega)
    obtain ⟨k, rfl⟩ := Int.eq_ofNat_of_zero_le (show 0 ≤ b by have := h.v0; omega)
    go_enter Tryd.func5, Tryd.ntmps5
    go_wp2_with fail
    refine (RfAnswer_yes h _).mono ?_
    rintro e w1 ⟨rfl, g1⟩
    have c0 := g1.box 0 rfl
    have c1 := g1.box 1 rfl
    go_wp2_with fail
    refine (Answer_yes h _).mono ?_
    rintro e w2 ⟨rfl, g2⟩
    have d0 := (g1.trans g2).box 0 rfl
    have d1 := (g1.trans g2).box 1 rfl
    have G : Hid _ := ((Gr.refl w).alloc _ _).trans (g1.trans g2)
    have hz : w.heap.size < w2.heap.size := by have := (g1.trans g2).below.size; simp at this; omega
    clear c0 c1 g1 g2
    have hy : Hid _ := ansN_lt h
    generalize ansN o k = x at hy
    go_wp2_with fail
    go_region_with (first
      | (go_at_call 9; refine (bare_nil 0 _).mono ?_; rintro e w3 ⟨rfl, rfl⟩)
      | (go_at_call 14; refine (Fits_is h _).mono ?_; rintro e w4 ⟨rfl, rfl⟩)
      | (go_at_call 15; refine (RfFits_is h _).mono ?_; rintro e w5 ⟨rfl, rfl⟩))
    all_goals
      go_wp2
      go_ret
      exact ⟨rfl, (((G.out).alloc _ _).alloc _ _).drew.below⟩
  · go_enter Tryd.func5, Tryd.ntmps5
    go_wp2_with fail
    refine (RfAnswer_no h _).mono ?_
    rintro e w1 ⟨rfl, g1⟩
    have c0 := g1.box 0 rfl
    have c1 := g1.box 1 rfl
    go_wp2_with fail
    refine (Answer_no h _).mono ?_
    rintro e w2 ⟨rfl, g2⟩
    have G0 : Hid _ := g1.trans g2
    have G : Hid _ := ((Gr.refl w).alloc _ _).trans (g1.trans g2)
    clear c0 c1 g1 g2
    go_wp2_with fail
    go_region_with (first
      | (go_at_call 9; refine (bare_errno 1 1 _ (hT.later G.out.drew)).mono ?_; rintro e w3 ⟨rfl, g3⟩; have d0 := (G0.out.drew.trans g3).box 0 rfl; have d1 := (G0.out.drew.trans g3).box 1 rfl; have hz : w.heap.size < w3.heap.size := (by have := (G0.out.drew.trans g3).below.size; simp at this; omega))
      | (go_at_call 14; refine (Fits_isnt h _).mono ?_; rintro e w4 ⟨rfl, rfl⟩)
      | (go_at_call 15; refine (RfFits_isnt h _).mono ?_; rintro e w5 ⟨rfl, rfl⟩))
    all_goals
      go_wp2
      go_ret
      exact ⟨rfl, ((((G.out.drew).trans g3).alloc _ _).alloc _ _).below⟩


set_option maxRecDepth 100000 in
theorem lifted (os : Os) (started : os.Started) (H : Type) (enc : TypeId × Value → H) :
    ReturnsInHanded {} Tryd.checked os 5 .any (fun w args => (Rows.opFitsSpec.pre enc Tryd.prog Tryd.f5 [] false w args ∧ laidMetH Tryd.prog laidHandle w) ∧ sizedMet enc Tryd.prog Tryd.f5 (OpenSpec.ofChange Rows.opFitsSpec) false w args)
      (Rows.opFitsSpec.post enc Tryd.prog Tryd.f5 false true false false) := by
  refine returnsInHanded_of_change_and (C := Tryd.checked) (X := fun w _ => laidMetH Tryd.prog laidHandle w) (fun _ _ _ hh h => h.of_heap hh) own started (by kernel_rfl) Tryd.func5
    (ChangeSpec.witness_shaped (enc := enc) (C := Tryd.checked) (os := os) (X := fun w _ => laidMetH Tryd.prog laidHandle w) false (World.doorLaid Tryd.prog 400 os) #[.agg #[.int .i64 0, .int .i64 0]] 8 rfl (World.shaped_of_RefB (by kernel_rfl) (by kernel_rfl)) (by kernel_rfl) (by kernel_rfl) (by kernel_rfl) (door_handle os _)) ?_
  intro W base args ds gs before hval0 hW _ _ hL _
  have hval : ∀ (j : Nat) t v, Tryd.f5.params[j]? = some t → args[j]? = some v → Value.okWide Tryd.prog W .any base t v := hval0
  have hW' := hW
  obtain ⟨p, q, hA0, hV, rfl, hfz, hnd⟩ := hW
  have hA : DataW.TrodAll enc Tryd.prog W 0 (fun _ => true) true Tryd.f5.params.toList args.toList ds p := hA0
  rw [Tryd.params5] at hA hval
  obtain ⟨v0, vs0, d0, ds0, p0, q0, hargs, rfl, rfl, h0, r0⟩ := trodAll_cons hA
  obtain ⟨rfl, rfl, rfl⟩ := trodAll_nil r0
  obtain rfl : args = #[v0] := by cases args; simp_all
  obtain ⟨rfl, rfl⟩ := trodVars_none hV
  obtain ⟨a0, b0, rfl, wa0, wb0⟩ := answer_of_trod (hval 0 40 v0 rfl rfl) h0
  have hT := handle_of_laid hL
  have hlt := hW'.lt
  clear hA0 hval0
  refine (walk a0 b0 wa0 wb0 W hT ).mono fun e W' ⟨he, hg⟩ => ?_
  subst he
  exact ⟨_, rfl, post_below (pv := []) hW' (fun _ _ _ => (trodAll_cons_mk (shut_bool Tryd.underlying4 _) trodAll_mk0)) (fun sp hsp => (trodAll_cons_mk (answer_stay h0 hg (fun x hx => hlt x (by simp [hx])) (fun x hx => hsp x (by simp [hx]))) trodAll_mk0)) (fun _ _ => rfl) (by simp) (hg.frame _)⟩

theorem over : Rows.OpFitsSaid :=
  OpenClaim.holds_of_wide 5 Tryd.f5 rfl rfl rfl rfl rfl rfl rfl ⟨rfl, rfl, rfl, rfl, rfl⟩ rfl rfl rfl rfl rfl (by kernel_rfl) Tryd.func5 (by kernel_rfl)
    (of_decide_eq_true (by kernel_rfl)) (by unfold Func.isWrapper; first | (rw [if_pos (by decide +kernel)]; kernel_rfl) | (rw [if_neg (by decide +kernel)]; exact ⟨rfl, rfl⟩))
    (fun os started H enc _ => lifted os started H enc)

theorem proved : Rows.OpFitsCardSaid :=
  Claim7.holds_tied_plain_at .later [] [.handle] true (true, "a851c0c365b10d6c7f7e6ef16198674fca2d87ad461a6b30a8cbafb05e7c96d2") true
    over (fun _ h => by cases h) (by kernel_rfl) (fun _ h => by cases h) opFits_row_tie rfl ⟨rfl, rfl⟩ (by kernel_rfl) rfl
    (fun f fn hf hfn => by
      obtain rfl : f = 5 := Option.some.inj ((show Tryd.prog.funcNamed "gristmill/gristmilllaw.OpFits" = some 5 by kernel_rfl).symm.trans hf) |>.symm
      obtain rfl : fn = Tryd.f5 := (Option.some.inj (Tryd.func5.symm.trans hfn)).symm
      exact ⟨by kernel_rfl, fun j t ht => by
        rw [Tryd.params5] at ht
        have hm : t ∈ [40] := by simpa using Array.mem_of_getElem? ht
        have hall : ([40].all fun u => !Tryd.prog.wantsStandIn u) = true := by kernel_rfl
        exact (show Tryd.prog.wantsStandIn t = false by simpa using List.all_eq_true.1 hall t hm)⟩)
    (by kernel_rfl)
#print axioms proved
end Go.Proofs.YtdohomdhgkhebaaDoor.opFits
