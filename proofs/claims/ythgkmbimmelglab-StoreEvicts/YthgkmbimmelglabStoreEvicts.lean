/- StoreEvicts is proved: for every list of deeds, every thread and line the call returns true (a line that is evicted is as one that is wanted and fenced, by one who wants nothing else), with no condition beyond the form's own. -/
import Derived.Test.YthgkmbimmelglabRows
import Derived.Test.YthgkmbimmelglabArgs
import Derived.Test.YthgkmbimmelglabKp3
import Derived.Test.YthgkmbimmelglabLoc
import Derived.Test.YthgkmbimmelglabCopy
import Derived.Test.YthgkmbimmelglabAlike
import Derived.Deep.RegionHeld3
import Derived.WalkKit

namespace Go.Proofs.Ythgkmbimmelglab.storeEvicts
open Go.ChangeShapes Go.WideShapes Go.ChangeAt Go.RowKit
set_option linter.unusedVariables false

theorem own : ownKnob Try.prog.godebug = none := by kernel_rfl

set_option maxHeartbeats 2000000 in
theorem walk (v0 : Value) (n0 : Nat) (a1 : Int) (a2 : Int) (w1 : (Lit.int .i64 a1).wf = true) (w2 : (Lit.int .i64 a2).wf = true) (w : World) (D0 : Deeds w v0 n0) :
    Calls Try.prog 7 #[v0, .int .i64 a1, .int .i64 a2] w fun e w' => e = .returned (.bool true) ∧ Gr w w' := by
  clear w1 w2
  have HL : ∃ A c, v0 = .slice A n0 c := by
    rcases D0 with ⟨h, rfl⟩ | ⟨a, c, h, _⟩
    · exact ⟨_, _, h⟩
    · exact ⟨_, _, h⟩
  by_cases hn : n0 ≤ 60
  · clear HL
    obtain ⟨r1, hr1, p1⟩ := pick_fun a1 4 (by decide) (by decide)
    have P1 : Hid _ := p1
    clear p1
    obtain ⟨r2, hr2, p2⟩ := pick_fun a2 9 (by decide) (by decide)
    have P2 : Hid _ := p2
    clear p2
    go_enter Try.func7, Try.ntmps7
    go_wp2_with fail
    refine (kept_any _).mono ?_
    rintro e u1 ⟨rfl, g1⟩
    go_wp2_with fail
    refine (done_any v0 n0 _ hn (D0.gr g1)).mono ?_
    rintro e u2 ⟨rfl, ⟨s, h2⟩, g2⟩
    have hb : Hid (w.heap.size ≤ u1.heap.size) := g1.below.size
    generalize u1.heap.size = b at *
    have G : Hid (Gr w u2) := g1.trans g2
    clear g1 g2
    go_wp2_with fail
    refine (P1.out _).mono ?_
    rintro e ux ⟨rfl, hw⟩
    rw [hw]; clear hw ux
    go_wp2_with fail
    refine (P2.out _).mono ?_
    rintro e ux ⟨rfl, hw⟩
    rw [hw]; clear hw ux
    go_wp2_with fail
    refine (Fence_yes r1 b s _ hr1 h2).mono ?_
    rintro e u3 ⟨rfl, h3, o3⟩
    have G3 : Hid (Gr w u3) := G.out.only hb.out o3
    clear G o3 h2
    go_wp2_with fail
    refine (Copy_any b _ _ h3).mono ?_
    rintro e u4 ⟨rfl, c4, g4⟩
    have h4 := h3.gr g4
    have G4 : Hid (Gr w u4) := G3.out.trans g4
    have hbc : b ≠ u3.heap.size := Nat.ne_of_lt h3.lt
    have hc : Hid (w.heap.size ≤ u3.heap.size) := G3.out.below.size
    generalize u3.heap.size = c at *
    clear G3 g4 h3
    go_wp2_with fail
    refine (Evict_yes r2 b _ _ hr2 h4).mono ?_
    rintro e u5 ⟨rfl, h5, o5⟩
    have c5 := c4.only (Ne.symm hbc) o5
    have G5 : Hid (Gr w u5) := G4.out.only hb.out o5
    clear G4 o5 c4 h4
    go_wp2_with fail
    refine (Flush_yes r1 r2 c _ _ hr1 hr2 c5).mono ?_
    rintro e u6 ⟨rfl, c6, o6⟩
    go_wp2_with fail
    refine (Fence_yes r1 c _ _ hr1 c6).mono ?_
    rintro e u7 ⟨rfl, c7, o7⟩
    have h7 := (h5.only hbc o6).only hbc o7
    have G7 : Hid (Gr w u7) := (G5.out.only hc.out o6).only hc.out o7
    clear G5 o6 o7 h5 c5 c6
    go_wp2_with fail
    refine (alike_yes b c _ _ _ h7 c7 (fun i hi => evicts_good s r1 r2 i hi) (fun _ _ => rfl)).mono ?_
    rintro e u8 ⟨rfl, g8⟩
    have G8 : Hid (Gr w u8) := G7.out.trans g8
    clear g8 G7
    go_wp2
    go_ret
    exact ⟨rfl, G8.out⟩
  · obtain ⟨A, c, rfl⟩ := HL
    have hn' : (60 : Int) < (n0 : Int) := by omega
    go_enter Try.func7, Try.ntmps7
    go_wp2_with fail
    refine (kept_any _).mono ?_
    rintro e u1 ⟨rfl, g1⟩
    go_wp2_with fail
    refine (done_many _ n0 _ (by omega) (D0.gr g1)).mono ?_
    rintro e u2 ⟨rfl, g2⟩
    go_wp2
    go_ret
    exact ⟨rfl, g1.trans g2⟩


set_option maxRecDepth 100000 in
theorem lifted (os : Os) (started : os.Started) (H : Type) (enc : TypeId × Value → H) :
    ReturnsInHanded {} Try.checked os 7 .any (Rows.storeEvictsSpec.pre6 enc Try.prog Try.f7 Rows.storeEvictsRow.domain false) (Rows.storeEvictsSpec.post enc Try.prog Try.f7 false true false false) := by
  refine returnsInHanded_of_change (C := Try.checked) own started (by kernel_rfl) Try.func7
    (ChangeSpec.witness6 (enc := enc) (C := Try.checked) false ⟨#[], #[.slice none 0 0, .int .i64 0, .int .i64 0], []⟩ 8 (by kernel_rfl) (by kernel_rfl) (by kernel_rfl) (by kernel_rfl)) ?_
  intro W base args ds gs before hval0 hW hcnd _
  have hval : ∀ (j : Nat) t v, Try.f7.params[j]? = some t → args[j]? = some v → Value.okWide Try.prog W .any base t v := hval0
  have hW' := hW
  obtain ⟨p, q, hA0, hV, rfl, hfz, hnd⟩ := hW
  have hA : DataW.TrodAll enc Try.prog W 0 (fun _ => true) true Try.f7.params.toList args.toList ds p := hA0
  rw [Try.params7] at hA hval
  obtain ⟨v0, vs0, d0, ds0, p0, q0, hargs, rfl, rfl, h0, r0⟩ := trodAll_cons hA
  obtain ⟨v1, vs1, d1, ds1, p1, q1, rfl, rfl, rfl, h1, r1⟩ := trodAll_cons r0
  obtain ⟨v2, vs2, d2, ds2, p2, q2, rfl, rfl, rfl, h2, r2⟩ := trodAll_cons r1
  obtain ⟨rfl, rfl, rfl⟩ := trodAll_nil r2
  obtain rfl : args = #[v0, v1, v2] := by cases args; simp_all
  obtain ⟨rfl, rfl⟩ := trodVars_none hV
  obtain ⟨n0, D0⟩ := deeds_of_trod (hval 0 22 v0 rfl rfl) h0
  obtain ⟨a1, rfl, rfl, rfl, w1⟩ := open_int Try.underlying3 (hval 1 3 v1 rfl rfl) h1
  obtain ⟨a2, rfl, rfl, rfl, w2⟩ := open_int Try.underlying3 (hval 2 3 v2 rfl rfl) h2
  have hlt := hW'.lt
  clear hA0 hval0
  refine (walk v0 n0 a1 a2 w1 w2 W D0).mono fun e W' ⟨he, hg⟩ => ?_
  subst he
  exact ⟨_, rfl, post_of_same (pv := []) hW' (fun _ _ _ => (trodAll_cons_mk (shut_bool Try.underlying4 _) trodAll_mk0)) (fun sp hsp => (trodAll_cons_mk (deeds_stay h0 hg.below (fun x hx => hlt x (by simp [hx])) (fun x hx => hsp x (by simp [hx]))) (trodAll_cons_mk (shut_int Try.underlying3 w1) (trodAll_cons_mk (shut_int Try.underlying3 w2) trodAll_mk0)))) (fun _ _ => rfl) (by simp)
    (hg.grown.frame _) hg.froz (ok_one (by kernel_rfl) rfl (okWide_bool_mk Try.underlying4 _))⟩

theorem over : Rows.storeEvictsRow.holds Try.pinned (OpenSpec.ofChange Rows.storeEvictsSpec) :=
  OpenClaim.holds_of_wide 7 Try.f7 rfl rfl rfl rfl rfl rfl rfl ⟨rfl, rfl, rfl, rfl, rfl⟩ rfl rfl rfl rfl rfl (by kernel_rfl) Try.func7 (by kernel_rfl)
    (of_decide_eq_true (by kernel_rfl)) (by unfold Func.isWrapper; first | (rw [if_pos (by decide +kernel)]; kernel_rfl) | (rw [if_neg (by decide +kernel)]; exact ⟨rfl, rfl⟩))
    (fun os started H enc _ => lifted os started H enc)

theorem proved : Rows.StoreEvictsSaid :=
  over
#print axioms proved
end Go.Proofs.Ythgkmbimmelglab.storeEvicts
