/- StoreNow is proved: for every list of deeds, every two words, line, thread and word the call returns true (what was saved last is there, and no other word is another one), with no condition beyond the form's own. -/
import Derived.Test.YthgkmbimmelglaaRows
import Derived.Test.YthgkmbimmelglaaArgs
import Derived.Test.YthgkmbimmelglaaKp3
import Derived.WalkKit

namespace Go.Proofs.Ythgkmbimmelglaa.storeNow
open Go.ChangeShapes Go.WideShapes Go.ChangeAt Go.RowKit
set_option linter.unusedVariables false

theorem own : ownKnob Try.prog.godebug = none := by kernel_rfl

theorem walk (v0 : Value) (n0 : Nat) (a1 a2 a3 a4 a5 : Int) (w1 : (Lit.int .i64 a1).wf = true) (w2 : (Lit.int .i64 a2).wf = true) (w3 : (Lit.int .i64 a3).wf = true) (w4 : (Lit.int .i64 a4).wf = true) (w5 : (Lit.int .u64 a5).wf = true)
    (w : World) (D0 : Deeds w v0 n0) :
    Calls Try.prog 3 #[v0, .int .i64 a1, .int .i64 a2, .int .i64 a3, .int .i64 a4, .int .u64 a5] w fun e w' => e = .returned (.bool true) ∧ Gr w w' := by
  clear w1 w2 w3 w4 w5
  have HL : ∃ A c, v0 = .slice A n0 c := by
    rcases D0 with ⟨h, rfl⟩ | ⟨a, c, h, _⟩
    · exact ⟨_, _, h⟩
    · exact ⟨_, _, h⟩
  by_cases hn : n0 ≤ 60
  · obtain ⟨r1, hr1, p1⟩ := pick_fun a1 72 (by decide) (by decide)
    obtain ⟨r2, hr2, p2⟩ := pick_fun a2 72 (by decide) (by decide)
    obtain ⟨r3, hr3, p3⟩ := pick_fun a3 9 (by decide) (by decide)
    obtain ⟨r4, hr4, p4⟩ := pick_fun a4 4 (by decide) (by decide)
    have P1 : Hid _ := p1
    have P2 : Hid _ := p2
    have P3 : Hid _ := p3
    have P4 : Hid _ := p4
    clear p1 p2 p3 p4 HL
    go_enter Try.func3, Try.ntmps3
    go_wp2_with fail
    refine (kept_any _).mono ?_
    rintro e u1 ⟨rfl, g1⟩
    go_wp2_with fail
    refine (done_any v0 n0 _ hn (D0.gr g1)).mono ?_
    rintro e u2 ⟨rfl, ⟨s, h2⟩, g2⟩
    have hb : w.heap.size ≤ u1.heap.size := g1.below.size
    generalize u1.heap.size = b at *
    have G : Hid (Gr w u2) := g1.trans g2
    clear g1 g2
    go_wp2_with fail
    refine (P1.out _).mono ?_
    rintro e u3 ⟨rfl, hw⟩
    rw [hw]; clear hw u3
    go_wp2_with fail
    refine (P2.out _).mono ?_
    rintro e u3 ⟨rfl, hw⟩
    rw [hw]; clear hw u3
    go_wp2_with fail
    refine (Load_yes r2 b s _ hr2 h2).mono ?_
    rintro e u3 ⟨rfl, hw⟩
    rw [hw]; clear hw u3
    go_wp2_with fail
    refine (Save_yes r1 b _ s _ hr1 h2).mono ?_
    rintro e u3 ⟨rfl, h3, o3⟩
    go_wp2_with fail
    refine (P3.out _).mono ?_
    rintro e u4 ⟨rfl, hw⟩
    rw [hw]; clear hw u4
    go_wp2_with fail
    refine (Evict_yes r3 b _ _ hr3 h3).mono ?_
    rintro e u4 ⟨rfl, h4, o4⟩
    go_wp2_with fail
    refine (P4.out _).mono ?_
    rintro e u5 ⟨rfl, hw⟩
    rw [hw]; clear hw u5
    go_wp2_with fail
    refine (P3.out _).mono ?_
    rintro e u5 ⟨rfl, hw⟩
    rw [hw]; clear hw u5
    go_wp2_with fail
    refine (Flush_yes r4 r3 b _ _ hr4 hr3 h4).mono ?_
    rintro e u5 ⟨rfl, h5, o5⟩
    go_wp2_with fail
    refine (P4.out _).mono ?_
    rintro e u6 ⟨rfl, hw⟩
    rw [hw]; clear hw u6
    go_wp2_with fail
    refine (Fence_yes r4 b _ _ hr4 h5).mono ?_
    rintro e u6 ⟨rfl, h6, o6⟩
    go_wp2_with fail
    refine (Load_yes r1 b _ _ hr1 h6).mono ?_
    rintro e u7 ⟨rfl, hw⟩
    rw [hw]; clear hw u7
    go_wp2_with fail
    refine (Load_yes r2 b _ _ hr2 h6).mono ?_
    rintro e u7 ⟨rfl, hw⟩
    rw [hw]; clear hw u7
    have e1 : (((((s.save r1 a5).stay r3).wish r4 r3).fence r4).now r1) = a5 := by simp [St.fence, St.wish, St.stay, St.save]
    have e2 : (((((s.save r1 a5).stay r3).wish r4 r3).fence r4).now r2) = if r2 = r1 then a5 else s.now r2 := by simp [St.fence, St.wish, St.stay, St.save]
    rw [e1, e2]
    have G6 : Hid (Gr w u6) := ((((G.out.only hb o3).only hb o4).only hb o5).only hb o6)
    by_cases hq : r2 = r1
    · subst hq
      go_wp2
      go_ret
      exact ⟨rfl, G6.out⟩
    · have hq' : ¬ ((r2 : Int) = (r1 : Int)) := by omega
      rw [if_neg hq]
      go_wp2
      go_ret
      exact ⟨rfl, G6.out⟩
  · obtain ⟨A, c, rfl⟩ := HL
    have hn' : (60 : Int) < (n0 : Int) := by omega
    go_enter Try.func3, Try.ntmps3
    go_wp2_with fail
    refine (kept_any _).mono ?_
    rintro e u1 ⟨rfl, g1⟩
    go_wp2_with fail
    refine (done_many _ n0 _ (by omega) (D0.gr g1)).mono ?_
    rintro e u2 ⟨rfl, g2⟩
    go_wp2
    go_ret
    exact ⟨rfl, g1.trans g2⟩


set_option maxRecDepth 100000 in
theorem lifted (os : Os) (started : os.Started) (H : Type) (enc : TypeId × Value → H) :
    ReturnsInHanded {} Try.checked os 3 .any (Rows.storeNowSpec.pre6 enc Try.prog Try.f3 Rows.storeNowRow.domain false) (Rows.storeNowSpec.post enc Try.prog Try.f3 false true false false) := by
  refine returnsInHanded_of_change (C := Try.checked) own started (by kernel_rfl) Try.func3
    (ChangeSpec.witness6 (enc := enc) (C := Try.checked) false ⟨#[], #[.slice none 0 0, .int .i64 0, .int .i64 0, .int .i64 0, .int .i64 0, .int .u64 0], []⟩ 8 (by kernel_rfl) (by kernel_rfl) (by kernel_rfl) (by kernel_rfl)) ?_
  intro W base args ds gs before hval0 hW hcnd _
  have hval : ∀ (j : Nat) t v, Try.f3.params[j]? = some t → args[j]? = some v → Value.okWide Try.prog W .any base t v := hval0
  have hW' := hW
  obtain ⟨p, q, hA0, hV, rfl, hfz, hnd⟩ := hW
  have hA : DataW.TrodAll enc Try.prog W 0 (fun _ => true) true Try.f3.params.toList args.toList ds p := hA0
  rw [Try.params3] at hA hval
  obtain ⟨v0, vs0, d0, ds0, p0, q0, hargs, rfl, rfl, h0, r0⟩ := trodAll_cons hA
  obtain ⟨v1, vs1, d1, ds1, p1, q1, rfl, rfl, rfl, h1, r1⟩ := trodAll_cons r0
  obtain ⟨v2, vs2, d2, ds2, p2, q2, rfl, rfl, rfl, h2, r2⟩ := trodAll_cons r1
  obtain ⟨v3, vs3, d3, ds3, p3, q3, rfl, rfl, rfl, h3, r3⟩ := trodAll_cons r2
  obtain ⟨v4, vs4, d4, ds4, p4, q4, rfl, rfl, rfl, h4, r4⟩ := trodAll_cons r3
  obtain ⟨v5, vs5, d5, ds5, p5, q5, rfl, rfl, rfl, h5, r5⟩ := trodAll_cons r4
  obtain ⟨rfl, rfl, rfl⟩ := trodAll_nil r5
  obtain rfl : args = #[v0, v1, v2, v3, v4, v5] := by cases args; simp_all
  obtain ⟨rfl, rfl⟩ := trodVars_none hV
  obtain ⟨n0, D0⟩ := deeds_of_trod (hval 0 22 v0 rfl rfl) h0
  obtain ⟨a1, rfl, rfl, rfl, w1⟩ := open_int Try.underlying3 (hval 1 3 v1 rfl rfl) h1
  obtain ⟨a2, rfl, rfl, rfl, w2⟩ := open_int Try.underlying3 (hval 2 3 v2 rfl rfl) h2
  obtain ⟨a3, rfl, rfl, rfl, w3⟩ := open_int Try.underlying3 (hval 3 3 v3 rfl rfl) h3
  obtain ⟨a4, rfl, rfl, rfl, w4⟩ := open_int Try.underlying3 (hval 4 3 v4 rfl rfl) h4
  obtain ⟨a5, rfl, rfl, rfl, w5⟩ := open_int Try.underlying23 (hval 5 23 v5 rfl rfl) h5
  have hlt := hW'.lt
  clear hA0 hval0
  refine (walk v0 n0 a1 a2 a3 a4 a5 w1 w2 w3 w4 w5 W D0).mono fun e W' ⟨he, hg⟩ => ?_
  subst he
  exact ⟨_, rfl, post_of_same (pv := []) hW' (fun _ _ _ => (trodAll_cons_mk (shut_bool Try.underlying4 _) trodAll_mk0)) (fun sp hsp => (trodAll_cons_mk (deeds_stay h0 hg.below (fun x hx => hlt x (by simp [hx])) (fun x hx => hsp x (by simp [hx]))) (trodAll_cons_mk (shut_int Try.underlying3 w1) (trodAll_cons_mk (shut_int Try.underlying3 w2) (trodAll_cons_mk (shut_int Try.underlying3 w3) (trodAll_cons_mk (shut_int Try.underlying3 w4) (trodAll_cons_mk (shut_int Try.underlying23 w5) trodAll_mk0))))))) (fun _ _ => rfl) (by simp)
    (hg.grown.frame _) hg.froz (ok_one (by kernel_rfl) rfl (okWide_bool_mk Try.underlying4 _))⟩

theorem over : Rows.storeNowRow.holds Try.pinned (OpenSpec.ofChange Rows.storeNowSpec) :=
  OpenClaim.holds_of_wide 3 Try.f3 rfl rfl rfl rfl rfl rfl rfl ⟨rfl, rfl, rfl, rfl, rfl⟩ rfl rfl rfl rfl rfl (by kernel_rfl) Try.func3 (by kernel_rfl)
    (of_decide_eq_true (by kernel_rfl)) (by unfold Func.isWrapper; first | (rw [if_pos (by decide +kernel)]; kernel_rfl) | (rw [if_neg (by decide +kernel)]; exact ⟨rfl, rfl⟩))
    (fun os started H enc _ => lifted os started H enc)

theorem proved : Rows.StoreNowSaid :=
  over
#print axioms proved
end Go.Proofs.Ythgkmbimmelglaa.storeNow
