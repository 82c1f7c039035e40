/- RamGoes is proved: for every list of words and every number of a word the call returns true (behind a clear every word is 0), with no condition beyond the form's own. -/
import Derived.Test.YtfmgdjnmaphhjaaRows
import Derived.Test.YtfmgdjnmaphhjaaRm2
import Derived.WalkKit

namespace Go.Proofs.Ytfmgdjnmaphhjaa.ramGoes
open Go.ChangeShapes Go.WideShapes Go.ChangeAt Go.RowKit
set_option linter.unusedVariables false

theorem own : ownKnob Try.prog.godebug = none := by kernel_rfl

set_option maxHeartbeats 2000000 in
theorem walk (v0 : Value) (n0 : Nat) (a1 : Int) (w1 : (Lit.int .i64 a1).wf = true) (w : World) (D0 : Words w v0 n0) :
    Calls Try.prog 4 #[v0, .int .i64 a1] w fun e w' => e = .returned (.bool true) ∧ Gr w w' := by
  clear w1
  obtain ⟨A, cap, rfl, HE0⟩ := D0.open
  have HE : Hid _ := HE0
  clear HE0 D0
  go_enter Try.func4, Try.ntmps4
  go_wp2_with fail
  refine (remembered_any _).mono ?_
  rintro e u1 ⟨rfl, g1⟩
  by_cases hn : n0 ≤ 16
  · have hn' : ¬ (16 : Int) < (n0 : Int) := by omega
    obtain ⟨r1, hr1, p1⟩ := pick_fun a1 16 (by decide) (by decide)
    have P1 : Hid _ := p1
    clear p1
    have h2 : Hid _ := ram_new u1
    have g2 : Hid _ := g1.alloc #[.int .u64 0, .int .u64 0, .int .u64 0, .int .u64 0, .int .u64 0, .int .u64 0, .int .u64 0, .int .u64 0, .int .u64 0, .int .u64 0, .int .u64 0, .int .u64 0, .int .u64 0, .int .u64 0, .int .u64 0, .int .u64 0] 28
    have hb : Hid (w.heap.size ≤ u1.heap.size) := g1.below.size
    go_wp2_with fail
    generalize u1.heap.size = b at *
    go_loopw [19] (fun i wr => ∃ k : Nat, k ≤ n0 ∧ i = .int .i64 k ∧ (∃ f, RowAt wr b 16 f) ∧ Gr w wr)
      (fun i _ => n0 - (intOf i).toNat)
    case atStart => exact ⟨0, by omega, rfl, ⟨_, h2.out⟩, g2.out⟩
    case round =>
      obtain ⟨k, hk, rfl, ⟨f, hs⟩, g⟩ := hrel
      by_cases hlt : k < n0
      · obtain ⟨a, x, rfl, hc⟩ := HE.out wr g k hlt
        go_wp2_with (first | (go_at_call 6; refine (Save_yes k b _ f _ (by omega) hs).mono ?_; rintro e u4 ⟨rfl, h4, o4⟩; have G4 : Hid _ := g.only hb.out o4))
        go_roundw
        case rel => exact ⟨k + 1, by omega, by go_num, ⟨_, h4⟩, G4.out⟩
        case measure => simp [intOf]; omega
      · have hlt' : ¬ (k : Int) < (n0 : Int) := by omega
        go_wp2_with fail
        refine (Clear_any b f _ hs).mono ?_
        rintro e u5 ⟨rfl, h5, o5⟩
        have G5 : Hid _ := g.only hb.out o5
        clear o5 hs g
        go_wp2_with fail
        refine (P1.out _).mono ?_
        rintro e ux ⟨rfl, hu⟩
        rw [hu]; clear hu ux
        go_wp2_with fail
        refine (Load_yes r1 b _ _ hr1 h5).mono ?_
        rintro e ux ⟨rfl, hu⟩
        rw [hu]; clear hu ux
        go_wp2
        go_ret
        exact ⟨rfl, G5.out⟩
  · have hn' : (16 : Int) < (n0 : Int) := by omega
    go_wp2
    go_ret
    exact ⟨rfl, g1⟩


set_option maxRecDepth 100000 in
theorem lifted (os : Os) (started : os.Started) (H : Type) (enc : TypeId × Value → H) :
    ReturnsInHanded {} Try.checked os 4 .any (Rows.ramGoesSpec.pre6 enc Try.prog Try.f4 Rows.ramGoesRow.domain false) (Rows.ramGoesSpec.post enc Try.prog Try.f4 false true false false) := by
  refine returnsInHanded_of_change (C := Try.checked) own started (by kernel_rfl) Try.func4
    (ChangeSpec.witness6 (enc := enc) (C := Try.checked) false ⟨#[], #[.slice none 0 0, .int .i64 0], []⟩ 8 (by kernel_rfl) (by kernel_rfl) (by kernel_rfl) (by kernel_rfl)) ?_
  intro W base args ds gs before hval0 hW hcnd _
  have hval : ∀ (j : Nat) t v, Try.f4.params[j]? = some t → args[j]? = some v → Value.okWide Try.prog W .any base t v := hval0
  have hW' := hW
  obtain ⟨p, q, hA0, hV, rfl, hfz, hnd⟩ := hW
  have hA : DataW.TrodAll enc Try.prog W 0 (fun _ => true) true Try.f4.params.toList args.toList ds p := hA0
  rw [Try.params4] at hA hval
  obtain ⟨v0, vs0, d0, ds0, p0, q0, hargs, rfl, rfl, h0, r0⟩ := trodAll_cons hA
  obtain ⟨v1, vs1, d1, ds1, p1, q1, rfl, rfl, rfl, h1, r1⟩ := trodAll_cons r0
  obtain ⟨rfl, rfl, rfl⟩ := trodAll_nil r1
  obtain rfl : args = #[v0, v1] := by cases args; simp_all
  obtain ⟨rfl, rfl⟩ := trodVars_none hV
  obtain ⟨n0, D0⟩ := words_of_trod (hval 0 22 v0 rfl rfl) h0
  obtain ⟨a1, rfl, rfl, rfl, w1⟩ := open_int Try.underlying3 (hval 1 3 v1 rfl rfl) h1
  have hlt := hW'.lt
  clear hA0 hval0
  refine (walk v0 n0 a1 w1 W D0).mono fun e W' ⟨he, hg⟩ => ?_
  subst he
  exact ⟨_, rfl, post_of_same (pv := []) hW' (fun _ _ _ => (trodAll_cons_mk (shut_bool Try.underlying4 _) trodAll_mk0)) (fun sp hsp => (trodAll_cons_mk (words_stay h0 hg.below (fun x hx => hlt x (by simp [hx])) (fun x hx => hsp x (by simp [hx]))) (trodAll_cons_mk (shut_int Try.underlying3 w1) trodAll_mk0))) (fun _ _ => rfl) (by simp)
    (hg.grown.frame _) hg.froz (ok_one (by kernel_rfl) rfl (okWide_bool_mk Try.underlying4 _))⟩

theorem over : Rows.ramGoesRow.holds Try.pinned (OpenSpec.ofChange Rows.ramGoesSpec) :=
  OpenClaim.holds_of_wide 4 Try.f4 rfl rfl rfl rfl rfl rfl rfl ⟨rfl, rfl, rfl, rfl, rfl⟩ rfl rfl rfl rfl rfl (by kernel_rfl) Try.func4 (by kernel_rfl)
    (of_decide_eq_true (by kernel_rfl)) (by unfold Func.isWrapper; first | (rw [if_pos (by decide +kernel)]; kernel_rfl) | (rw [if_neg (by decide +kernel)]; exact ⟨rfl, rfl⟩))
    (fun os started H enc _ => lifted os started H enc)

theorem proved : Rows.RamGoesSaid :=
  over
#print axioms proved
end Go.Proofs.Ytfmgdjnmaphhjaa.ramGoes
