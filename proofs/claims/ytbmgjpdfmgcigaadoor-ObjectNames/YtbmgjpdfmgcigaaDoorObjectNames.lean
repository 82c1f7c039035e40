/- ObjectNames is proved: for every number of a kind the call returns true (its name, and whether there is such a kind, are the document's); what the three variables hold that the row lists is its condition. -/
import Derived.Test.YtbmgjpdfmgcigaaDoorRows
import Derived.Test.YtbmgjpdfmgcigaaDoorCards
import Derived.Test.YtbmgjpdfmgcigaaDoorTie
import Derived.Test.YtbmgjpdfmgcigaaDoorNm
import Derived.Test.YtbmgjpdfmgcigaaDoorLaidN

namespace Go.Proofs.YtbmgjpdfmgcigaaDoor.objectNames
open Go.ChangeShapes Go.WideShapes Go.ChangeAt Go.RowKit
set_option linter.unusedVariables false

theorem ne_q (a : Nat) (h1 : 1 ≤ a) (h6 : a ≤ 6) : (knm a == [63]) = false := by
  obtain rfl | rfl | rfl | rfl | rfl | rfl : a = 1 ∨ a = 2 ∨ a = 3 ∨ a = 4 ∨ a = 5 ∨ a = 6 := by omega
  all_goals decide
set_option maxHeartbeats 1000000 in
theorem walk (a0 : Int) (w0 : (Lit.int .i64 a0).wf = true) (w : World) (E : En w) :
    Calls Tryd.prog 3 #[.int .i64 a0] w fun e w' => e = .returned (.bool true) ∧ Below w.heap.size w w' := by
  clear w0
  by_cases h : a0 < 1 ∨ 6 < a0
  · have N1 : Hid _ := Name_no h
    have N2 : Hid _ := KName_no h
    have N3 : Hid _ := Is_no h
    clear h E
    go_enter Tryd.func3, Tryd.ntmps3
    go_wp2_with fail
    refine (N1.out _).mono ?_
    rintro e w1 ⟨rfl, rfl⟩
    go_wp2_with fail
    refine (N2.out _).mono ?_
    rintro e w2 ⟨rfl, rfl⟩
    go_wp2_with fail
    refine (N3.out _).mono ?_
    rintro e w3 ⟨rfl, rfl⟩
    go_wp2_with fail
    refine (N2.out _).mono ?_
    rintro e w4 ⟨rfl, rfl⟩
    go_wp2
    go_ret
    exact ⟨rfl, Below.refl _ _⟩
  · obtain ⟨j, rfl⟩ : ∃ j : Nat, a0 = (j : Int) + 1 := ⟨(a0 - 1).toNat, by omega⟩
    have hj : j ≤ 5 := by omega
    have N1 : Hid (∀ w, Kn w → Calls Tryd.prog 4 #[.int .i64 ((j : Int) + 1)] w fun e w' => e = .returned (.string ⟨(knm (j + 1)).toArray⟩) ∧ w' = w) := fun w hk => Name_yes (a := j + 1) (by omega) (by omega) w hk
    have N2 : Hid (∀ w, As w → _) := fun w hA => KName_yes hj w hA
    have N3 : Hid _ := Is_yes (a := (j : Int) + 1) (by omega) (by omega)
    have hne := ne_q (j + 1) (by omega) (by omega)
    have E0 : Hid _ := E
    clear h hj E
    generalize knm (j + 1) = s at *
    go_enter Tryd.func3, Tryd.ntmps3
    go_wp2_with fail
    refine (N1.out _ E0.out.kn).mono ?_
    rintro e w1 ⟨rfl, rfl⟩
    go_wp2_with fail
    refine (N2.out _ E0.out.asc).mono ?_
    rintro e w2 ⟨rfl, hb⟩
    have G : Hid _ := hb
    have E2 : Hid (As w2) := E0.out.asc.later hb
    clear hb
    go_wp2_with fail
    refine (N3.out _).mono ?_
    rintro e w3 ⟨rfl, rfl⟩
    go_wp2_with fail
    refine (N2.out _ E2.out).mono ?_
    rintro e w4 ⟨rfl, hb⟩
    have G4 : Hid _ := G.out.trans (hb.mono G.out.size)
    clear hb
    go_wp2
    go_ret
    exact ⟨rfl, G4.out⟩


set_option maxRecDepth 100000 in
theorem lifted (os : Os) (started : os.Started) (H : Type) (enc : TypeId × Value → H) :
    ReturnsInHanded {} Tryd.checked os 3 .any (fun w args => (Rows.objectNamesSpec.pre enc Tryd.prog Tryd.f3 [] false w args ∧ laidMetH Tryd.prog laidN w) ∧ sizedMet enc Tryd.prog Tryd.f3 (OpenSpec.ofChange Rows.objectNamesSpec) false w args)
      (Rows.objectNamesSpec.post enc Tryd.prog Tryd.f3 false true false false) := by
  refine returnsInHanded_of_change_and (C := Tryd.checked) (X := fun w _ => laidMetH Tryd.prog laidN w) (fun _ _ _ hh h => h.of_heap hh) own started (by kernel_rfl) Tryd.func3
    (ChangeSpec.witness_shaped (enc := enc) (C := Tryd.checked) (os := os) (X := fun w _ => laidMetH Tryd.prog laidN w) false (World.doorLaid Tryd.prog 1000 os) #[.int .i64 0] 8 rfl (World.shaped_of_RefB (by kernel_rfl) (by kernel_rfl)) (by kernel_rfl) (by kernel_rfl) (by kernel_rfl) (door_N os _)) ?_
  intro W base args ds gs before hval0 hW _ _ hL _
  have hval : ∀ (j : Nat) t v, Tryd.f3.params[j]? = some t → args[j]? = some v → Value.okWide Tryd.prog W .any base t v := hval0
  have hW' := hW
  obtain ⟨p, q, hA0, hV, rfl, hfz, hnd⟩ := hW
  have hA : DataW.TrodAll enc Tryd.prog W 0 (fun _ => true) true Tryd.f3.params.toList args.toList ds p := hA0
  rw [Tryd.params3] at hA hval
  obtain ⟨v0, vs0, d0, ds0, p0, q0, hargs, rfl, rfl, h0, r0⟩ := trodAll_cons hA
  obtain ⟨rfl, rfl, rfl⟩ := trodAll_nil r0
  obtain rfl : args = #[v0] := by cases args; simp_all
  obtain ⟨rfl, rfl⟩ := trodVars_none hV
  obtain ⟨a0, rfl, rfl, rfl, w0⟩ := open_int Tryd.underlying3 (hval 0 3 v0 rfl rfl) h0
  have hT := env_of_N hL
  have hlt := hW'.lt
  clear hA0 hval0
  refine (walk a0 w0 W hT ).mono fun e W' ⟨he, hg⟩ => ?_
  subst he
  exact ⟨_, rfl, post_below (pv := []) hW' (fun _ _ _ => (trodAll_cons_mk (shut_bool Tryd.underlying4 _) trodAll_mk0)) (fun sp hsp => (trodAll_cons_mk (shut_int Tryd.underlying3 w0) trodAll_mk0)) (fun _ _ => rfl) (by simp) (hg.frame _)⟩

theorem over : Rows.ObjectNamesSaid :=
  OpenClaim.holds_of_wide 3 Tryd.f3 rfl rfl rfl rfl rfl rfl rfl ⟨rfl, rfl, rfl, rfl, rfl⟩ rfl rfl rfl rfl rfl (by kernel_rfl) Tryd.func3 (by kernel_rfl)
    (of_decide_eq_true (by kernel_rfl)) (by unfold Func.isWrapper; first | (rw [if_pos (by decide +kernel)]; kernel_rfl) | (rw [if_neg (by decide +kernel)]; exact ⟨rfl, rfl⟩))
    (fun os started H enc _ => lifted os started H enc)

theorem proved : Rows.ObjectNamesCardSaid :=
  Claim7.holds_tied_plain_at .later [] [.listed, .data, .data] true (true, "04fe9394ca1f40b620e13b3f1971436fee7fb148fdc78fd6a8126a6548bfce1c") false
    over (fun _ h => by cases h) (by kernel_rfl) (fun _ h => by cases h) objectNames_row_tie rfl ⟨rfl, rfl⟩ (by kernel_rfl) rfl
    (fun f fn hf hfn => by
      obtain rfl : f = 3 := Option.some.inj ((show Tryd.prog.funcNamed "gristmill/gristmilllaw.ObjectNames" = some 3 by kernel_rfl).symm.trans hf) |>.symm
      obtain rfl : fn = Tryd.f3 := (Option.some.inj (Tryd.func3.symm.trans hfn)).symm
      exact ⟨by kernel_rfl, fun j t ht => by
        rw [Tryd.params3] at ht
        have hm : t ∈ [3] := by simpa using Array.mem_of_getElem? ht
        have hall : ([3].all fun u => !Tryd.prog.wantsStandIn u) = true := by kernel_rfl
        exact (show Tryd.prog.wantsStandIn t = false by simpa using List.all_eq_true.1 hall t hm)⟩)
    (by kernel_rfl)
#print axioms proved
end Go.Proofs.YtbmgjpdfmgcigaaDoor.objectNames
