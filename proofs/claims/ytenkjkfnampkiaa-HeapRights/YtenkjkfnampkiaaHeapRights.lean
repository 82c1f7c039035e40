/- HeapRights is proved: for every list the call returns true (package heap's Right answers as the reference's; a list of more than sixty is let be, by the law's own words). -/
import Derived.Test.YtenkjkfnampkiaaRows
import Derived.Test.YtenkjkfnampkiaaArgL
import Derived.Test.YtenkjkfnampkiaaRh
import Derived.ChangeAlike

namespace Go.Proofs.Ytenkjkfnampkiaa.heapRights
open Go.ChangeShapes Go.WideShapes Go.ChangeAt Go.RowKit
set_option linter.unusedVariables false

theorem own : ownKnob Try.prog.godebug = none := by kernel_rfl

set_option maxHeartbeats 4000000 in
theorem walk (v : Value) (xs : List Int) (w : World) (D : In w v xs) :
    Calls Try.prog 3 #[v] w fun e w' => e = .returned (.bool true) ∧ Below w.heap.size w w' := by
  obtain ⟨a, c, rfl⟩ := D.1.form
  have h1 : Hid (IsL 0 w (.slice a xs.length c) xs) := D.1
  have h2 : Hid (Gd w w) := Gd.refl w
  clear D
  by_cases s60 : 60 < xs.length
  · have s60i : (60 : Int) < (xs.length : Int) := by omega
    go_enter Try.func3, Try.ntmps3
    go_wp2
    go_ret
    exact ⟨rfl, h2.out⟩
  · have s60i : ¬ (60 : Int) < (xs.length : Int) := by omega
    by_cases hr : xs.length ≤ 6 ∧ Hp xs
    · obtain ⟨s6, hp⟩ := hr
      have HR : Hid (Hp xs) := hp
      clear hp
      go_enter Try.func3, Try.ntmps3
      go_wp2_with fail
      refine (hRight_yes h1.out s6 HR.out).mono ?_
      rintro e u1 ⟨rfl, hb⟩
      have h3 : Hid (IsL 0 u1 (.slice a xs.length c) xs) := h1.out.later hb
      have h4 : Hid (Gd w u1) := h2.out.later hb
      clear h1 h2
      clear hb
      go_wp2_with fail
      refine (RRight_yes h3.out s6 HR.out).mono ?_
      rintro e u2 ⟨rfl, hb⟩
      have h5 : Hid (IsL 0 u2 (.slice a xs.length c) xs) := h3.out.later hb
      have h6 : Hid (Gd w u2) := h4.out.later hb
      clear h3 h4
      clear hb
      go_wp2
      go_ret
      exact ⟨rfl, h6.out⟩
    · have HR : Hid (¬ (xs.length ≤ 6 ∧ Hp xs)) := hr
      clear hr
      go_enter Try.func3, Try.ntmps3
      go_wp2_with fail
      refine (hRight_isnt h1.out HR.out).mono ?_
      rintro e u1 ⟨rfl, hb⟩
      have h3 : Hid (IsL 0 u1 (.slice a xs.length c) xs) := h1.out.later hb
      have h4 : Hid (Gd w u1) := h2.out.later hb
      clear h1 h2
      clear hb
      go_wp2_with fail
      refine (RRight_isnt h3.out (by omega) HR.out).mono ?_
      rintro e u2 ⟨rfl, hb⟩
      have h5 : Hid (IsL 0 u2 (.slice a xs.length c) xs) := h3.out.later hb
      have h6 : Hid (Gd w u2) := h4.out.later hb
      clear h3 h4
      clear hb
      go_wp2
      go_ret
      exact ⟨rfl, h6.out⟩


set_option maxRecDepth 100000 in
theorem lifted (os : Os) (started : os.Started) (H : Type) (enc : TypeId × Value → H) :
    ReturnsInHanded {} Try.checked os 3 .any (Rows.heapRightsSpec.pre6 enc Try.prog Try.f3 Rows.heapRightsRow.domain false) (Rows.heapRightsSpec.post enc Try.prog Try.f3 false true false false) := by
  refine returnsInHanded_of_change (C := Try.checked) own started (by kernel_rfl) Try.func3
    (ChangeSpec.witness6 (enc := enc) (C := Try.checked) false ⟨#[], #[.slice none 0 0], []⟩ 8 (by kernel_rfl) (by kernel_rfl) (by kernel_rfl) (by kernel_rfl)) ?_
  intro W base args ds gs before hval0 hW hcnd _
  have hval : ∀ (j : Nat) t v, Try.f3.params[j]? = some t → args[j]? = some v → Value.okWide Try.prog W .any base t v := hval0
  have hW' := hW
  obtain ⟨p, q, hA0, hV, rfl, hfz, hnd⟩ := hW
  have hA : DataW.TrodAll enc Try.prog W 0 (fun _ => true) true Try.f3.params.toList args.toList ds p := hA0
  rw [Try.params3] at hA hval
  obtain ⟨v0, vs0, d0, ds0, p0, q0, hargs, rfl, rfl, h0, r0⟩ := trodAll_cons hA
  obtain ⟨rfl, rfl, rfl⟩ := trodAll_nil r0
  obtain rfl : args = #[v0] := by cases args; simp_all
  obtain ⟨rfl, rfl⟩ := trodVars_none hV
  obtain ⟨n0, D0⟩ := ints_of_trod (hval 0 22 v0 rfl rfl) h0
  have hlt := hW'.lt
  clear hA0 hval0
  refine (walk v0 n0  W  D0).mono fun e W' ⟨he, hg⟩ => ?_
  subst he
  exact ⟨_, rfl, post_below (pv := []) hW' (fun _ _ _ => (trodAll_cons_mk (shut_bool Try.underlying4 _) trodAll_mk0)) (fun sp hsp => (trodAll_cons_mk (ints_stay h0 hg (fun x hx => hlt x (by simp [hx])) (fun x hx => hsp x (by simp [hx]))) trodAll_mk0)) (fun _ _ => rfl) (by simp) (hg.frame _)⟩

theorem over : Rows.heapRightsRow.holds Try.pinned (OpenSpec.ofChange Rows.heapRightsSpec) :=
  OpenClaim.holds_of_wide 3 Try.f3 rfl rfl rfl rfl rfl rfl rfl ⟨rfl, rfl, rfl, rfl, rfl⟩ rfl rfl rfl rfl rfl (by kernel_rfl) Try.func3 (by kernel_rfl)
    (of_decide_eq_true (by kernel_rfl)) (by unfold Func.isWrapper; first | (rw [if_pos (by decide +kernel)]; kernel_rfl) | (rw [if_neg (by decide +kernel)]; exact ⟨rfl, rfl⟩))
    (fun os started H enc _ => lifted os started H enc)

theorem proved : Rows.HeapRightsSaid :=
  over
#print axioms proved
end Go.Proofs.Ytenkjkfnampkiaa.heapRights
