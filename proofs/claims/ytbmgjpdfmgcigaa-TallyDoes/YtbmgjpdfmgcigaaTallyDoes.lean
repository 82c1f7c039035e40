/- TallyDoes is proved: for every number and every operation the call returns true (what the program makes of a tally, and its answer, are the document's; numbers and values out of 0 to MaxValue are let be, by the law's own words). -/
import Derived.Test.YtbmgjpdfmgcigaaRows
import Derived.Test.YtbmgjpdfmgcigaaRta
import Derived.Test.YtbmgjpdfmgcigaaPk
import Derived.Test.YtbmgjpdfmgcigaaArgOp

namespace Go.Proofs.Ytbmgjpdfmgcigaa.Tab.tallyDoes
open Go.ChangeShapes Go.WideShapes Go.ChangeAt Go.RowKit
set_option linter.unusedVariables false

theorem own : ownKnob Try.prog.godebug = none := by kernel_rfl

set_option maxHeartbeats 2000000 in
theorem walk (a0 a1 b1 c1 : Int) (w0 : (Lit.int .i64 a0).wf = true) (wa1 : (Lit.int .i64 a1).wf = true) (wb1 : (Lit.int .i64 b1).wf = true) (wc1 : (Lit.int .i64 c1).wf = true) (w : World) :
    Calls Try.prog 3 #[.int .i64 a0, .agg #[.int .i64 a1, .int .i64 b1, .int .i64 c1]] w (fun e w' => e = .returned (.bool true) ∧ Below w.heap.size w w') := by
  have HA : Hid ((Try.prog.info? 25).map (·.size) = some 2) := answer_sz
  obtain ⟨fs, ha⟩ := answer_st
  have HDA : Hid _ := ha
  clear ha
  have g0 : Hid (Gd w.heap.size w w) := Gd.refl w
  have h27q : Hid (Gd w.heap.size w (w.alloc (.cells #[.int .i64 a1, .int .i64 b1, .int .i64 c1] 23))) := g0.out.new (.cells #[.int .i64 a1, .int .i64 b1, .int .i64 c1] 23)
  clear g0
  have h28q : Hid (Bo (w.alloc (.cells #[.int .i64 a1, .int .i64 b1, .int .i64 c1] 23)) w.heap.size [.int .i64 a1, .int .i64 b1, .int .i64 c1]) := Bo.born w [.int .i64 a1, .int .i64 b1, .int .i64 c1] 23 (by simp)
  clear w0 wa1 wb1 wc1
  by_cases h1 : a0 < 0
  · go_enter Try.func3, Try.ntmps3
    go_wp2
    go_ret
    exact ⟨rfl, by first | exact h27q.out.low | exact h27q.out.2⟩
  · by_cases h2 : 4294967295 < a0
    · go_enter Try.func3, Try.ntmps3
      go_wp2
      go_ret
      exact ⟨rfl, by first | exact h27q.out.low | exact h27q.out.2⟩
    · by_cases h3 : c1 < 0
      · go_enter Try.func3, Try.ntmps3
        go_wp2
        go_ret
        exact ⟨rfl, by first | exact h27q.out.low | exact h27q.out.2⟩
      · by_cases h4 : 4294967295 < c1
        · go_enter Try.func3, Try.ntmps3
          go_wp2
          go_ret
          exact ⟨rfl, by first | exact h27q.out.low | exact h27q.out.2⟩
        · have d0 : decide (a0 < 0) = false := by simp; omega
          have d1 : decide (4294967295 < a0) = false := by simp; omega
          have d2 : decide (c1 < 0) = false := by simp; omega
          have d3 : decide (4294967295 < c1) = false := by simp; omega
          obtain ⟨⟨m, c, y⟩, hu⟩ : ∃ r, ado a0 a1 c1 = r := ⟨_, rfl⟩
          have R : ∀ w : World, _ := rTally_eq (n := a0) (o := a1) (k := b1) (x := c1) (by omega) (by omega) (by omega) (by omega) (show ado a0 a1 c1 = (m, c, y) from hu)
          have D : ∀ w : World, _ := aDo_eq (n := a0) (o := a1) (k := b1) (x := c1) (by omega) (by omega) (by omega) (by omega) (show ado a0 a1 c1 = (m, c, y) from hu)
          clear hu h1 h2 h3 h4
          go_enter Try.func3, Try.ntmps3
          go_wp2_with fail
          generalize (w.alloc (.cells #[.int .i64 a1, .int .i64 b1, .int .i64 c1] 23)) = W at h27q h28q  ⊢
          generalize hsz : w.heap.size = n at h27q h28q  ⊢
          have HSZ : Hid (w.heap.size = n) := hsz
          clear hsz
          refine (R _).mono ?_
          rintro e u29q ⟨rfl, hb⟩
          have h30q : Hid (Gd n w u29q) := h27q.out.later hb
          have h31q : Hid (Bo u29q n [.int .i64 a1, .int .i64 b1, .int .i64 c1]) := h28q.out.later hb
          clear h27q h28q
          clear hb
          clear R
          have l32q : n ≤ u29q.heap.size := h30q.out.le
          have l33q : n < u29q.heap.size := h31q.out.lt
          have h34q : Hid (Gd n w (u29q.alloc (.cells #[.int .i64 0, .int .i64 0] 25))) := h30q.out.new (.cells #[.int .i64 0, .int .i64 0] 25)
          have h35q : Hid (Bo (u29q.alloc (.cells #[.int .i64 0, .int .i64 0] 25)) n [.int .i64 a1, .int .i64 b1, .int .i64 c1]) := h31q.out.new (.cells #[.int .i64 0, .int .i64 0] 25)
          clear h30q h31q
          have h36q : Hid (Bo (u29q.alloc (.cells #[.int .i64 0, .int .i64 0] 25)) u29q.heap.size [.int .i64 0, .int .i64 0]) := Bo.born u29q [.int .i64 0, .int .i64 0] 25 (by simp)
          go_wp2_with (first
            | (refine wpList_store_mid rfl 25 _ _ rfl u29q.heap.size _ #[.int .i64 (c), .int .i64 (y)] rfl rfl h36q.out.there2 HA.out (two_one _ _) ?_
               have h37q : Hid (Gd n w ((u29q.alloc (.cells #[.int .i64 0, .int .i64 0] 25)).setCells u29q.heap.size 0 [.int .i64 (c), .int .i64 (y)])) := h34q.out.asideL (by omega) 0 [.int .i64 (c), .int .i64 (y)]
               have h38q : Hid (Bo ((u29q.alloc (.cells #[.int .i64 0, .int .i64 0] 25)).setCells u29q.heap.size 0 [.int .i64 (c), .int .i64 (y)]) n [.int .i64 a1, .int .i64 b1, .int .i64 c1]) := h35q.out.asideL (by omega) 0 [.int .i64 (c), .int .i64 (y)]
               have h39q : Hid (Bo ((u29q.alloc (.cells #[.int .i64 0, .int .i64 0] 25)).setCells u29q.heap.size 0 [.int .i64 (c), .int .i64 (y)]) u29q.heap.size [.int .i64 (c), .int .i64 (y)]) := h36q.out.set2 (.int .i64 (c)) (.int .i64 (y))
               clear h34q h35q h36q
               generalize ((u29q.alloc (.cells #[.int .i64 0, .int .i64 0] 25)).setCells u29q.heap.size 0 [.int .i64 (c), .int .i64 (y)]) = u40q at h37q h38q h39q  ⊢
               have c41q := h38q.out.at 0 rfl
               have c42q := h38q.out.at 1 rfl
               have c43q := h38q.out.at 2 rfl))
          refine (D _).mono ?_
          rintro e u44q ⟨rfl, hb⟩
          have h45q : Hid (Gd n w u44q) := h37q.out.later hb
          have h46q : Hid (Bo u44q n [.int .i64 a1, .int .i64 b1, .int .i64 c1]) := h38q.out.later hb
          have h47q : Hid (Bo u44q u29q.heap.size [.int .i64 (c), .int .i64 (y)]) := h39q.out.later hb
          clear h37q h38q h39q
          clear hb
          clear D
          have l48q : n ≤ u44q.heap.size := h45q.out.le
          have l49q : n < u44q.heap.size := h46q.out.lt
          have l50q : u29q.heap.size < u44q.heap.size := h47q.out.lt
          have h51q : Hid (Gd n w (u44q.alloc (.cells #[.int .i64 0, .int .i64 0] 25))) := h45q.out.new (.cells #[.int .i64 0, .int .i64 0] 25)
          have h52q : Hid (Bo (u44q.alloc (.cells #[.int .i64 0, .int .i64 0] 25)) n [.int .i64 a1, .int .i64 b1, .int .i64 c1]) := h46q.out.new (.cells #[.int .i64 0, .int .i64 0] 25)
          have h53q : Hid (Bo (u44q.alloc (.cells #[.int .i64 0, .int .i64 0] 25)) u29q.heap.size [.int .i64 (c), .int .i64 (y)]) := h47q.out.new (.cells #[.int .i64 0, .int .i64 0] 25)
          clear h45q h46q h47q
          have h54q : Hid (Bo (u44q.alloc (.cells #[.int .i64 0, .int .i64 0] 25)) u44q.heap.size [.int .i64 0, .int .i64 0]) := Bo.born u44q [.int .i64 0, .int .i64 0] 25 (by simp)
          go_wp2_with (first
            | (refine wpList_store_mid rfl 25 _ _ rfl u44q.heap.size _ #[.int .i64 (c), .int .i64 (y)] rfl rfl h54q.out.there2 HA.out (two_one _ _) ?_
               have h55q : Hid (Gd n w ((u44q.alloc (.cells #[.int .i64 0, .int .i64 0] 25)).setCells u44q.heap.size 0 [.int .i64 (c), .int .i64 (y)])) := h51q.out.asideL (by omega) 0 [.int .i64 (c), .int .i64 (y)]
               have h56q : Hid (Bo ((u44q.alloc (.cells #[.int .i64 0, .int .i64 0] 25)).setCells u44q.heap.size 0 [.int .i64 (c), .int .i64 (y)]) n [.int .i64 a1, .int .i64 b1, .int .i64 c1]) := h52q.out.asideL (by omega) 0 [.int .i64 (c), .int .i64 (y)]
               have h57q : Hid (Bo ((u44q.alloc (.cells #[.int .i64 0, .int .i64 0] 25)).setCells u44q.heap.size 0 [.int .i64 (c), .int .i64 (y)]) u29q.heap.size [.int .i64 (c), .int .i64 (y)]) := h53q.out.asideL (by omega) 0 [.int .i64 (c), .int .i64 (y)]
               have h58q : Hid (Bo ((u44q.alloc (.cells #[.int .i64 0, .int .i64 0] 25)).setCells u44q.heap.size 0 [.int .i64 (c), .int .i64 (y)]) u44q.heap.size [.int .i64 (c), .int .i64 (y)]) := h54q.out.set2 (.int .i64 (c)) (.int .i64 (y))
               clear h51q h52q h53q h54q
               generalize ((u44q.alloc (.cells #[.int .i64 0, .int .i64 0] 25)).setCells u44q.heap.size 0 [.int .i64 (c), .int .i64 (y)]) = u59q at h55q h56q h57q h58q  ⊢
               have c60q := h57q.out.at 0 rfl
               have c61q := h57q.out.at 1 rfl
               have c62q := h58q.out.at 0 rfl
               have c63q := h58q.out.at 1 rfl))
          go_ret
          exact ⟨rfl, by first | exact h55q.out.low | exact h55q.out.2⟩


set_option maxRecDepth 100000 in
theorem lifted (os : Os) (started : os.Started) (H : Type) (enc : TypeId × Value → H) :
    ReturnsInHanded {} Try.checked os 3 .any (Rows.tallyDoesSpec.pre6 enc Try.prog Try.f3 Rows.tallyDoesRow.domain false) (Rows.tallyDoesSpec.post enc Try.prog Try.f3 false true false false) := by
  refine returnsInHanded_of_change (C := Try.checked) own started (by kernel_rfl) Try.func3
    (ChangeSpec.witness6 (enc := enc) (C := Try.checked) false ⟨#[], #[.int .i64 0, .agg #[.int .i64 0, .int .i64 0, .int .i64 0]], []⟩ 8 (by kernel_rfl) (by kernel_rfl) (by kernel_rfl) (by kernel_rfl)) ?_
  intro W base args ds gs before hval0 hW hcnd _
  have hval : ∀ (j : Nat) t v, Try.f3.params[j]? = some t → args[j]? = some v → Value.okWide Try.prog W .any base t v := hval0
  have hW' := hW
  obtain ⟨p, q, hA0, hV, rfl, hfz, hnd⟩ := hW
  have hA : DataW.TrodAll enc Try.prog W 0 (fun _ => true) true Try.f3.params.toList args.toList ds p := hA0
  rw [Try.params3] at hA hval
  obtain ⟨v0, vs0, d0, ds0, p0, q0, hargs, rfl, rfl, h0, r0⟩ := trodAll_cons hA
  obtain ⟨v1, vs1, d1, ds1, p1, q1, rfl, rfl, rfl, h1, r1⟩ := trodAll_cons r0
  obtain ⟨rfl, rfl, rfl⟩ := trodAll_nil r1
  obtain rfl : args = #[v0, v1] := by cases args; simp_all
  obtain ⟨rfl, rfl⟩ := trodVars_none hV
  obtain ⟨a0, rfl, rfl, rfl, w0⟩ := open_int Try.underlying3 (hval 0 3 v0 rfl rfl) h0
  obtain ⟨a1, b1, c1, rfl, wa1, wb1, wc1⟩ := op_of_trod (hval 1 23 v1 rfl rfl) h1
  have hlt := hW'.lt
  clear hA0 hval0
  refine (walk a0 a1 b1 c1 w0 wa1 wb1 wc1 W  ).mono fun e W' ⟨he, hg⟩ => ?_
  subst he
  exact ⟨_, rfl, post_below (pv := []) hW' (fun _ _ _ => (trodAll_cons_mk (shut_bool Try.underlying4 _) trodAll_mk0)) (fun sp hsp => (trodAll_cons_mk (shut_int Try.underlying3 w0) (trodAll_cons_mk (op_stay h1 hg (fun x hx => hlt x (by simp [hx])) (fun x hx => hsp x (by simp [hx]))) trodAll_mk0))) (fun _ _ => rfl) (by simp) (hg.frame _)⟩

theorem over : Rows.tallyDoesRow.holds Try.pinned (OpenSpec.ofChange Rows.tallyDoesSpec) :=
  OpenClaim.holds_of_wide 3 Try.f3 rfl rfl rfl rfl rfl rfl rfl ⟨rfl, rfl, rfl, rfl, rfl⟩ rfl rfl rfl rfl rfl (by kernel_rfl) Try.func3 (by kernel_rfl)
    (of_decide_eq_true (by kernel_rfl)) (by unfold Func.isWrapper; first | (rw [if_pos (by decide +kernel)]; kernel_rfl) | (rw [if_neg (by decide +kernel)]; exact ⟨rfl, rfl⟩))
    (fun os started H enc _ => lifted os started H enc)

theorem proved : Rows.TallyDoesSaid :=
  over
#print axioms proved
end Go.Proofs.Ytbmgjpdfmgcigaa.Tab.tallyDoes
