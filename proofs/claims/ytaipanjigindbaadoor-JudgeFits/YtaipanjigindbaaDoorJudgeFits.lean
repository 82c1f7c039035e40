/- JudgeFits is proved: for every history of events and every list of deeds the call returns true (Fits answers the error that the document asks, at its place, or none); the library's handle of the type error stands as the program's text lays it. -/
import Derived.Test.YtaipanjigindbaaDoorRows
import Derived.Test.YtaipanjigindbaaDoorPk07
import Derived.Test.YtaipanjigindbaaDoorPk04
import Derived.Test.YtaipanjigindbaaDoorPk00
import Derived.Test.YtaipanjigindbaaDoorCards
import Derived.Deep.DeepCutAuto
import Derived.Deep.RegionHeld3
import Derived.SevenTiedAt

namespace Go.Proofs.YtaipanjigindbaaDoor.Tab.judgeFits
set_option maxRecDepth 20000
open Go.ChangeShapes Go.WideShapes Go.ChangeAt Go.RowKit
set_option linter.unusedVariables false

set_option maxHeartbeats 16000000 in
set_option maxRecDepth 20000 in
theorem walk (v0 : Value) (n0 : Nat) (v1 : Value) (n1 : Nat) (w : World) (hT : HandleAt w) (D0 : Evs w v0 n0) (D1 : Ddw w v1 n1) :
    Calls Tryd.prog 4 #[v0, v1] w fun e w' => e = .returned (.bool true) ∧ Below w.heap.size w w' := by
  have HT : Hid (HandleAt w) := hT
  clear hT
  obtain ⟨h, E⟩ := D0
  obtain ⟨va, vc, rfl⟩ := E.form
  obtain ⟨q, D, hwt⟩ := D1
  obtain ⟨da, dc, rfl⟩ := D.form
  have HE : Hid _ := hid E
  have HD : Hid _ := hid D
  have hM : Hid _ := hid (Ms.nil w)
  by_cases hn : 60 < (n0 : Int)
  · clear E D hwt
    go_enter Tryd.func4, Tryd.ntmps4
    go_wp2
    go_ret
    exact ⟨rfl, hM.out.below⟩
  · by_cases hm : 40 < (n1 : Int)
    · clear E D hwt
      go_enter Tryd.func4, Tryd.ntmps4
      go_wp2
      go_ret
      exact ⟨rfl, hM.out.below⟩
    · have HC : Hid (n0 ≤ 1000000 ∧ n1 ≤ 1000000) := ⟨by omega, by omega⟩
      rcases calls_first h n0 with ⟨cs, hcs⟩ | ⟨k, cs, hk, h1, h2⟩
      · obtain ⟨a, ha, hF⟩ := fits_code (vea := va) (vda := da) (vec := vc) (vdc := dc) HC.out.1 HC.out.2 hwt hcs
        have HA : Hid _ := hid ha
        have HF : Hid _ := hid hF
        clear E D hwt ha hF hcs
        go_enter Tryd.func4, Tryd.ntmps4
        go_wp2_with fail
        refine (HF.out _ (HE.out.later hM.out.below) (HD.out.later hM.out.below)).mono ?_
        rintro e W ⟨rfl, hb⟩
        replace hM := hid (hM.out.later hb)
        clear hb
        go_wp2_with fail
        refine (judgeR _ (HE.out.later hM.out.below) (HD.out.later hM.out.below) HC.out.1 HC.out.2).mono ?_
        rintro e W ⟨a', p', j, rfl, hb⟩
        obtain ⟨rfl, rfl⟩ := HA.out a' p' j
        replace hM := hid (hM.out.later hb)
        clear hb j
        go_wp2_with fail
        by_cases ha0 : a' = 0
        · subst ha0
          have hcv : codeV 0 = .nilIface := if_pos rfl
          rw [hcv]
          refine (placed_nil _).mono ?_
          rintro e W ⟨rfl, hb⟩
          replace hM := hid (hM.out.later hb)
          clear hb
          go_wp2
          go_ret
          exact ⟨rfl, hM.out.below⟩
        · have hcv : codeV a' = errV a' := if_neg ha0
          rw [hcv]
          clear ha0 hcv
          refine (placed_errno a' _ (HT.out.below hM.out.below)).mono ?_
          rintro e W ⟨rfl, hb⟩
          replace hM := hid (hM.out.later hb)
          clear hb
          go_wp2
          go_ret
          exact ⟨rfl, hM.out.below⟩
      · have P : Hid (∀ {w : World} (E : Ev w (.slice va n0 vc) n0 h), _) := fun {w} E => fits_order (vd := .slice da n1 dc) E HC.out.1 hk h1 h2
        have HA : Hid (∀ a p, JR h q n0 n1 a p → a = 10 ∧ p = (k : Nat)) := fun a p j => j.first hk h1 h2
        clear E D hwt hk h1 h2
        go_enter Tryd.func4, Tryd.ntmps4
        go_wp2_with fail
        refine (P.out (HE.out.later hM.out.below)).mono ?_
        rintro e W ⟨b, rfl, hq, hWq, hb⟩
        replace hM := hid (hM.out.laterB hb hq hWq)
        clear hb hq hWq
        go_wp2_with fail
        refine (judgeR _ (HE.out.later hM.out.below) (HD.out.later hM.out.below) HC.out.1 HC.out.2).mono ?_
        rintro e W ⟨a', p', j, rfl, hb⟩
        obtain ⟨rfl, rfl⟩ := HA.out a' p' j
        replace hM := hid (hM.out.later hb)
        clear hb j
        go_wp2_with fail
        refine (placed_at 10 (k : Nat) b _ (HT.out.below hM.out.below) (hM.out.at 0 rfl)).mono ?_
        rintro e W ⟨rfl, hb⟩
        replace hM := hid (hM.out.later hb)
        clear hb
        go_wp2
        go_ret
        exact ⟨rfl, hM.out.below⟩


set_option maxRecDepth 100000 in
theorem lifted (os : Os) (started : os.Started) (H : Type) (enc : TypeId × Value → H) :
    ReturnsInHanded {} Tryd.checked os 4 .any (fun w args => (Rows.judgeFitsSpec.pre enc Tryd.prog Tryd.f4 [] false w args ∧ laidMetH Tryd.prog laidHandle w) ∧ sizedMet enc Tryd.prog Tryd.f4 (OpenSpec.ofChange Rows.judgeFitsSpec) false w args)
      (Rows.judgeFitsSpec.post enc Tryd.prog Tryd.f4 false true false false) := by
  refine returnsInHanded_of_change_and (C := Tryd.checked) (X := fun w _ => laidMetH Tryd.prog laidHandle w) (fun _ _ _ hh h => h.of_heap hh) own started (by kernel_rfl) Tryd.func4
    (ChangeSpec.witness_shaped (enc := enc) (C := Tryd.checked) (os := os) (X := fun w _ => laidMetH Tryd.prog laidHandle w) false (World.doorLaid Tryd.prog 400 os) #[.slice none 0 0, .slice none 0 0] 8 rfl (World.shaped_of_RefB (by kernel_rfl) (by kernel_rfl)) (by kernel_rfl) (by kernel_rfl) (by kernel_rfl) (door_handle os _)) ?_
  intro W base args ds gs before hval0 hW _ _ hL _
  have hval : ∀ (j : Nat) t v, Tryd.f4.params[j]? = some t → args[j]? = some v → Value.okWide Tryd.prog W .any base t v := hval0
  have hW' := hW
  obtain ⟨p, q, hA0, hV, rfl, hfz, hnd⟩ := hW
  have hA : DataW.TrodAll enc Tryd.prog W 0 (fun _ => true) true Tryd.f4.params.toList args.toList ds p := hA0
  rw [Tryd.params4] at hA hval
  obtain ⟨v0, vs0, d0, ds0, p0, q0, hargs, rfl, rfl, h0, r0⟩ := trodAll_cons hA
  obtain ⟨v1, vs1, d1, ds1, p1, q1, rfl, rfl, rfl, h1, r1⟩ := trodAll_cons r0
  obtain ⟨rfl, rfl, rfl⟩ := trodAll_nil r1
  obtain rfl : args = #[v0, v1] := by cases args; simp_all
  obtain ⟨rfl, rfl⟩ := trodVars_none hV
  obtain ⟨n0, D0⟩ := events_of_trod (hval 0 39 v0 rfl rfl) h0
  obtain ⟨n1, D1⟩ := wdeeds_of_trod (hval 1 22 v1 rfl rfl) h1
  have hT := handle_of_laid hL
  have hlt := hW'.lt
  clear hA0 hval0
  refine (walk v0 n0 v1 n1  W hT D0 D1).mono fun e W' ⟨he, hg⟩ => ?_
  subst he
  exact ⟨_, rfl, post_below (pv := []) hW' (fun _ _ _ => (trodAll_cons_mk (shut_bool Tryd.underlying4 _) trodAll_mk0)) (fun sp hsp => (trodAll_cons_mk (events_stay h0 hg (fun x hx => hlt x (by simp [hx])) (fun x hx => hsp x (by simp [hx]))) (trodAll_cons_mk (wdeeds_stay h1 hg (fun x hx => hlt x (by simp [hx])) (fun x hx => hsp x (by simp [hx]))) trodAll_mk0))) (fun _ _ => rfl) (by simp) (hg.frame _)⟩

theorem over : Rows.JudgeFitsSaid :=
  OpenClaim.holds_of_wide 4 Tryd.f4 rfl rfl rfl rfl rfl rfl rfl ⟨rfl, rfl, rfl, rfl, rfl⟩ rfl rfl rfl rfl rfl (by kernel_rfl) Tryd.func4 (by kernel_rfl)
    (of_decide_eq_true (by kernel_rfl)) (by unfold Func.isWrapper; first | (rw [if_pos (by decide +kernel)]; kernel_rfl) | (rw [if_neg (by decide +kernel)]; exact ⟨rfl, rfl⟩))
    (fun os started H enc _ => lifted os started H enc)

theorem proved : Rows.JudgeFitsCardSaid :=
  Claim7.holds_tied_plain_at .later [] [.handle] true (true, "393dd0ee3179eace80c24e7cab550b860e25d86ef87c5343551562d36c5e0fff") true
    over (fun _ h => by cases h) (by kernel_rfl) (fun _ h => by cases h) judgeFits_row_tie rfl ⟨rfl, rfl⟩ (by kernel_rfl) rfl
    (fun f fn hf hfn => by
      obtain rfl : f = 4 := Option.some.inj ((show Tryd.prog.funcNamed "gristmill/gristmilllaw.JudgeFits" = some 4 by kernel_rfl).symm.trans hf) |>.symm
      obtain rfl : fn = Tryd.f4 := (Option.some.inj (Tryd.func4.symm.trans hfn)).symm
      exact ⟨by kernel_rfl, fun j t ht => by
        rw [Tryd.params4] at ht
        have hm : t ∈ [39, 22] := by simpa using Array.mem_of_getElem? ht
        have hall : ([39, 22].all fun u => !Tryd.prog.wantsStandIn u) = true := by kernel_rfl
        exact (show Tryd.prog.wantsStandIn t = false by simpa using List.all_eq_true.1 hall t hm)⟩)
    (by kernel_rfl)
#print axioms proved
end Go.Proofs.YtaipanjigindbaaDoor.Tab.judgeFits
