/- TallyBack is proved: for every two numbers the call returns true (what is added to a tally and taken off leaves it as it was, and it never is beyond its bounds). -/
import Derived.Test.YtbmgjpdfmgcigaaRows
import Derived.Test.YtbmgjpdfmgcigaaKta
import Derived.Test.YtbmgjpdfmgcigaaArgOp

namespace Go.Proofs.Ytbmgjpdfmgcigaa.Tab.tallyBack
open Go.ChangeShapes Go.WideShapes Go.ChangeAt Go.RowKit
set_option linter.unusedVariables false

theorem own : ownKnob Try.prog.godebug = none := by kernel_rfl

set_option maxHeartbeats 2000000 in
theorem walk (a0 a1 : Int) (w0 : (Lit.int .i64 a0).wf = true) (w1 : (Lit.int .i64 a1).wf = true) (w : World) :
    Calls Try.prog 4 #[.int .i64 a0, .int .i64 a1] w (fun e w' => e = .returned (.bool true) ∧ Below w.heap.size w w') := by
  have HA : Hid ((Try.prog.info? 25).map (·.size) = some 2) := answer_sz
  obtain ⟨fs, ha⟩ := answer_st
  have HDA : Hid _ := ha
  clear ha
  have g0 : Hid (Gd w.heap.size w w) := Gd.refl w
  clear w0 w1
  go_enter Try.func4, Try.ntmps4
  go_wp2_with fail
  generalize hsz : w.heap.size = n at g0  ⊢
  have HSZ : Hid (w.heap.size = n) := hsz
  clear hsz
  refine (tallied_is _).mono ?_
  rintro e u64q ⟨rfl, hb⟩
  have h65q : Hid (Gd n w u64q) := g0.out.later hb
  clear g0
  clear hb
  obtain ⟨p, hp, pp⟩ := pick_4294967296 a0
  have Pp : Hid _ := pp
  clear pp
  obtain ⟨q, hq, pq⟩ := pick_4294967296 a1
  have Pq : Hid _ := pq
  clear pq
  go_wp2_with fail
  refine (Pp.out _).mono ?_
  rintro e u66q ⟨rfl, hw⟩
  rw [hw]; clear hw u66q
  go_wp2_with fail
  refine (Pq.out _).mono ?_
  rintro e u67q ⟨rfl, hw⟩
  rw [hw]; clear hw u67q
  obtain ⟨pi, ep⟩ : ∃ x : Int, ((p : Nat) : Int) = x := ⟨_, rfl⟩
  have p0 : 0 ≤ pi := by omega
  have p1 : pi ≤ 4294967295 := by omega
  rw [ep]
  clear ep Pp hp
  obtain ⟨qi, eq⟩ : ∃ x : Int, ((q : Nat) : Int) = x := ⟨_, rfl⟩
  have q0 : 0 ≤ qi := by omega
  have q1 : qi ≤ 4294967295 := by omega
  rw [eq]
  clear eq Pq hq
  have es : IntKind.i64.wrap (pi + qi) = pi + qi := by rw [IntKind.wrap_i64]; omega
  go_wp2_with fail
  refine (put_is (qi) _).mono ?_
  rintro e u68q ⟨rfl, hb⟩
  have h69q : Hid (Gd n w u68q) := h65q.out.later hb
  clear h65q
  clear hb
  by_cases hf : 4294967295 < pi + qi
  · have D : ∀ w : World, _ := aDo_eq (n := pi) (o := 1) (k := 0) (x := qi) (by omega) (by omega) (by omega) (by omega) (show ado pi 1 qi = (pi, 3, 0) from by simp [ado, hf])
    go_wp2_with fail
    refine (D _).mono ?_
    rintro e u70q ⟨rfl, hb⟩
    have h71q : Hid (Gd n w u70q) := h69q.out.later hb
    clear h69q
    clear hb
    clear D
    have l72q : n ≤ u70q.heap.size := h71q.out.le
    have h73q : Hid (Gd n w (u70q.alloc (.cells #[.int .i64 0, .int .i64 0] 25))) := h71q.out.new (.cells #[.int .i64 0, .int .i64 0] 25)
    clear h71q
    have h74q : Hid (Bo (u70q.alloc (.cells #[.int .i64 0, .int .i64 0] 25)) u70q.heap.size [.int .i64 0, .int .i64 0]) := Bo.born u70q [.int .i64 0, .int .i64 0] 25 (by simp)
    go_wp2_with (first
      | (refine wpList_store_mid rfl 25 _ _ rfl u70q.heap.size _ #[.int .i64 (3), .int .i64 (0)] rfl rfl h74q.out.there2 HA.out (two_one _ _) ?_
         have h75q : Hid (Gd n w ((u70q.alloc (.cells #[.int .i64 0, .int .i64 0] 25)).setCells u70q.heap.size 0 [.int .i64 (3), .int .i64 (0)])) := h73q.out.asideL (by omega) 0 [.int .i64 (3), .int .i64 (0)]
         have h76q : Hid (Bo ((u70q.alloc (.cells #[.int .i64 0, .int .i64 0] 25)).setCells u70q.heap.size 0 [.int .i64 (3), .int .i64 (0)]) u70q.heap.size [.int .i64 (3), .int .i64 (0)]) := h74q.out.set2 (.int .i64 (3)) (.int .i64 (0))
         clear h73q h74q
         generalize ((u70q.alloc (.cells #[.int .i64 0, .int .i64 0] 25)).setCells u70q.heap.size 0 [.int .i64 (3), .int .i64 (0)]) = u77q at h75q h76q  ⊢
         have c78q := h76q.out.at 0 rfl
         have c79q := h76q.out.at 1 rfl))
    go_ret
    exact ⟨rfl, by first | exact h75q.out.low | exact h75q.out.2⟩
  · obtain ⟨m, hm⟩ : ∃ m, m = pi + qi := ⟨_, rfl⟩
    have D : ∀ w : World, _ := aDo_eq (n := pi) (o := 1) (k := 0) (x := qi) (by omega) (by omega) (by omega) (by omega) (show ado pi 1 qi = (m, 1, pi) from by simp [ado, hf, hm])
    have E : ∀ w : World, _ := aDo_eq (n := m) (o := 2) (k := 0) (x := qi) (by omega) (by omega) (by omega) (by omega) (show ado m 2 qi = (pi, 1, m) from by simp [ado, show ¬ m < qi by omega]; omega)
    have m0 : 0 ≤ m := by omega
    have m1 : m ≤ 4294967295 := by omega
    have em : (m == pi + qi) = true := by simp [hm]
    clear hf hm
    go_wp2_with fail
    refine (D _).mono ?_
    rintro e u80q ⟨rfl, hb⟩
    have h81q : Hid (Gd n w u80q) := h69q.out.later hb
    clear h69q
    clear hb
    clear D
    have l82q : n ≤ u80q.heap.size := h81q.out.le
    have h83q : Hid (Gd n w (u80q.alloc (.cells #[.int .i64 0, .int .i64 0] 25))) := h81q.out.new (.cells #[.int .i64 0, .int .i64 0] 25)
    clear h81q
    have h84q : Hid (Bo (u80q.alloc (.cells #[.int .i64 0, .int .i64 0] 25)) u80q.heap.size [.int .i64 0, .int .i64 0]) := Bo.born u80q [.int .i64 0, .int .i64 0] 25 (by simp)
    go_wp2_with (first
      | (refine wpList_store_mid rfl 25 _ _ rfl u80q.heap.size _ #[.int .i64 (1), .int .i64 (pi)] rfl rfl h84q.out.there2 HA.out (two_one _ _) ?_
         have h85q : Hid (Gd n w ((u80q.alloc (.cells #[.int .i64 0, .int .i64 0] 25)).setCells u80q.heap.size 0 [.int .i64 (1), .int .i64 (pi)])) := h83q.out.asideL (by omega) 0 [.int .i64 (1), .int .i64 (pi)]
         have h86q : Hid (Bo ((u80q.alloc (.cells #[.int .i64 0, .int .i64 0] 25)).setCells u80q.heap.size 0 [.int .i64 (1), .int .i64 (pi)]) u80q.heap.size [.int .i64 (1), .int .i64 (pi)]) := h84q.out.set2 (.int .i64 (1)) (.int .i64 (pi))
         clear h83q h84q
         generalize ((u80q.alloc (.cells #[.int .i64 0, .int .i64 0] 25)).setCells u80q.heap.size 0 [.int .i64 (1), .int .i64 (pi)]) = u87q at h85q h86q  ⊢
         have c88q := h86q.out.at 0 rfl
         have c89q := h86q.out.at 1 rfl))
    refine (E _).mono ?_
    rintro e u90q ⟨rfl, hb⟩
    have h91q : Hid (Gd n w u90q) := h85q.out.later hb
    have h92q : Hid (Bo u90q u80q.heap.size [.int .i64 (1), .int .i64 (pi)]) := h86q.out.later hb
    clear h85q h86q
    clear hb
    clear E
    have l93q : n ≤ u90q.heap.size := h91q.out.le
    have l94q : u80q.heap.size < u90q.heap.size := h92q.out.lt
    have h95q : Hid (Gd n w (u90q.alloc (.cells #[.int .i64 0, .int .i64 0] 25))) := h91q.out.new (.cells #[.int .i64 0, .int .i64 0] 25)
    have h96q : Hid (Bo (u90q.alloc (.cells #[.int .i64 0, .int .i64 0] 25)) u80q.heap.size [.int .i64 (1), .int .i64 (pi)]) := h92q.out.new (.cells #[.int .i64 0, .int .i64 0] 25)
    clear h91q h92q
    have h97q : Hid (Bo (u90q.alloc (.cells #[.int .i64 0, .int .i64 0] 25)) u90q.heap.size [.int .i64 0, .int .i64 0]) := Bo.born u90q [.int .i64 0, .int .i64 0] 25 (by simp)
    go_wp2_with (first
      | (refine wpList_store_mid rfl 25 _ _ rfl u90q.heap.size _ #[.int .i64 (1), .int .i64 (m)] rfl rfl h97q.out.there2 HA.out (two_one _ _) ?_
         have h98q : Hid (Gd n w ((u90q.alloc (.cells #[.int .i64 0, .int .i64 0] 25)).setCells u90q.heap.size 0 [.int .i64 (1), .int .i64 (m)])) := h95q.out.asideL (by omega) 0 [.int .i64 (1), .int .i64 (m)]
         have h99q : Hid (Bo ((u90q.alloc (.cells #[.int .i64 0, .int .i64 0] 25)).setCells u90q.heap.size 0 [.int .i64 (1), .int .i64 (m)]) u80q.heap.size [.int .i64 (1), .int .i64 (pi)]) := h96q.out.asideL (by omega) 0 [.int .i64 (1), .int .i64 (m)]
         have h100q : Hid (Bo ((u90q.alloc (.cells #[.int .i64 0, .int .i64 0] 25)).setCells u90q.heap.size 0 [.int .i64 (1), .int .i64 (m)]) u90q.heap.size [.int .i64 (1), .int .i64 (m)]) := h97q.out.set2 (.int .i64 (1)) (.int .i64 (m))
         clear h95q h96q h97q
         generalize ((u90q.alloc (.cells #[.int .i64 0, .int .i64 0] 25)).setCells u90q.heap.size 0 [.int .i64 (1), .int .i64 (m)]) = u101q at h98q h99q h100q  ⊢
         have c102q := h99q.out.at 0 rfl
         have c103q := h99q.out.at 1 rfl
         have c104q := h100q.out.at 0 rfl
         have c105q := h100q.out.at 1 rfl))
    go_ret
    exact ⟨rfl, by first | exact h98q.out.low | exact h98q.out.2⟩


set_option maxRecDepth 100000 in
theorem lifted (os : Os) (started : os.Started) (H : Type) (enc : TypeId × Value → H) :
    ReturnsInHanded {} Try.checked os 4 .any (Rows.tallyBackSpec.pre6 enc Try.prog Try.f4 Rows.tallyBackRow.domain false) (Rows.tallyBackSpec.post enc Try.prog Try.f4 false true false false) := by
  refine returnsInHanded_of_change (C := Try.checked) own started (by kernel_rfl) Try.func4
    (ChangeSpec.witness6 (enc := enc) (C := Try.checked) false ⟨#[], #[.int .i64 0, .int .i64 0], []⟩ 8 (by kernel_rfl) (by kernel_rfl) (by kernel_rfl) (by kernel_rfl)) ?_
  intro W base args ds gs before hval0 hW hcnd _
  have hval : ∀ (j : Nat) t v, Try.f4.params[j]? = some t → args[j]? = some v → Value.okWide Try.prog W .any base t v := hval0
  have hW' := hW
  obtain ⟨p, q, hA0, hV, rfl, hfz, hnd⟩ := hW
  have hA : DataW.TrodAll enc Try.prog W 0 (fun _ => true) true Try.f4.params.toList args.toList ds p := hA0
  rw [Try.params4] at hA hval
  obtain ⟨v0, vs0, d0, ds0, p0, q0, hargs, rfl, rfl, h0, r0⟩ := trodAll_cons hA
  obtain ⟨v1, vs1, d1, ds1, p1, q1, rfl, rfl, rfl, h1, r1⟩ := trodAll_cons r0
  obtain ⟨rfl, rfl, rfl⟩ := trodAll_nil r1
  obtain rfl : args = #[v0, v1] := by cases args; simp_all
  obtain ⟨rfl, rfl⟩ := trodVars_none hV
  obtain ⟨a0, rfl, rfl, rfl, w0⟩ := open_int Try.underlying3 (hval 0 3 v0 rfl rfl) h0
  obtain ⟨a1, rfl, rfl, rfl, w1⟩ := open_int Try.underlying3 (hval 1 3 v1 rfl rfl) h1
  have hlt := hW'.lt
  clear hA0 hval0
  refine (walk a0 a1 w0 w1 W  ).mono fun e W' ⟨he, hg⟩ => ?_
  subst he
  exact ⟨_, rfl, post_below (pv := []) hW' (fun _ _ _ => (trodAll_cons_mk (shut_bool Try.underlying4 _) trodAll_mk0)) (fun sp hsp => (trodAll_cons_mk (shut_int Try.underlying3 w0) (trodAll_cons_mk (shut_int Try.underlying3 w1) trodAll_mk0))) (fun _ _ => rfl) (by simp) (hg.frame _)⟩

theorem over : Rows.tallyBackRow.holds Try.pinned (OpenSpec.ofChange Rows.tallyBackSpec) :=
  OpenClaim.holds_of_wide 4 Try.f4 rfl rfl rfl rfl rfl rfl rfl ⟨rfl, rfl, rfl, rfl, rfl⟩ rfl rfl rfl rfl rfl (by kernel_rfl) Try.func4 (by kernel_rfl)
    (of_decide_eq_true (by kernel_rfl)) (by unfold Func.isWrapper; first | (rw [if_pos (by decide +kernel)]; kernel_rfl) | (rw [if_neg (by decide +kernel)]; exact ⟨rfl, rfl⟩))
    (fun os started H enc _ => lifted os started H enc)

theorem proved : Rows.TallyBackSaid :=
  over
#print axioms proved
end Go.Proofs.Ytbmgjpdfmgcigaa.Tab.tallyBack
