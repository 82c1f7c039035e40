/- StackBack is proved: for every list and value the call returns true (what is put on top, and taken off, leaves a stack as it was). -/
import Derived.Test.YthjfkmalhdfmlabRows
import Derived.Test.YthjfkmalhdfmlabArgL
import Derived.Test.YthjfkmalhdfmlabKs
import Derived.ChangeAlike

namespace Go.Proofs.Ythjfkmalhdfmlab.stackBack
open Go.ChangeShapes Go.WideShapes Go.ChangeAt Go.RowKit
set_option linter.unusedVariables false

theorem own : ownKnob Try.prog.godebug = none := by kernel_rfl

set_option maxHeartbeats 4000000 in
theorem walk (v : Value) (xs : List Int) (x : Int) (_w0 : (Lit.int .i64 x).wf = true) (w : World) (D : In w v xs) :
    Calls Try.prog 3 #[v, .int .i64 x] w fun e w' => e = .returned (.bool true) ∧ Below w.heap.size w w' := by
  obtain ⟨ys, hys⟩ : ∃ ys, ys = fw xs := ⟨_, rfl⟩
  have hl6 : ys.length ≤ 6 := by rw [hys]; exact fw_le _
  have HY : Hid (ys = fw xs) := hys
  clear hys
  have hlx : Hid (xs.length ≤ 9223372036854775807) := D.2
  have h1 : Hid (IsL 0 w v xs) := D.1
  clear D
  have h2 : Hid (Gd w w) := Gd.refl w
  by_cases h6 : ys.length = 6
  · have h6i : ((ys.length : Int) == 6) = true := by rw [beq_iff_eq]; omega
    have H6 : Hid (6 ≤ ys.length) := (by omega : 6 ≤ ys.length)
    clear h6
    go_enter Try.func3, Try.ntmps3
    go_wp2_with fail
    refine (stacked_is _).mono ?_
    rintro e u1 ⟨rfl, hb⟩
    have h3 : Hid (IsL 0 u1 v xs) := h1.out.later hb
    have h4 : Hid (Gd w u1) := h2.out.later hb
    clear h1 h2
    clear hb
    go_wp2_with fail
    refine (few_is h3.out hlx.out).mono ?_
    rintro e u2 ⟨l, rfl, hi, hb⟩
    rw [← HY.out] at hi
    obtain ⟨a, c, rfl⟩ := hi.form
    have h5 : Hid (IsL 0 u2 v xs) := h3.out.later hb
    have h6 : Hid (Gd w u2) := h4.out.later hb
    clear h3 h4
    have h7 : Hid (IsL 0 u2 (.slice a ys.length c) ys) := hi.any
    clear hb hi
    clear h5
    go_wp2_with fail
    refine (pick_is _ _).mono ?_
    rintro e u ⟨rfl, hw⟩
    rw [hw]; clear hw u
    go_wp2_with fail
    refine (put_is _ _).mono ?_
    rintro e u3 ⟨rfl, hb⟩
    have h8 : Hid (Gd w u3) := h6.out.later hb
    have h9 : Hid (IsL 0 u3 (.slice a ys.length c) ys) := h7.out.later hb
    clear h6 h7
    clear hb
    go_wp2_with fail
    refine (sDo_eq 0 h9.out (by omega) (sdo_full (pk x) H6.out)).mono ?_
    rintro e u4 ⟨q1, rfl, hi, hb⟩
    have h10 : Hid (Gd w u4) := h8.out.later hb
    have h11 : Hid (IsL 0 u4 (.slice a ys.length c) ys) := h9.out.later hb
    clear h8 h9
    have h12 : Hid (IsL 0 u4 q1 ys) := hi.any
    clear hb hi
    have h13 : Hid (Gd w (u4.alloc (.cells #[.int .i64 3, .int .i64 0] 27))) := h10.out.new (.cells #[.int .i64 3, .int .i64 0] 27)
    have h14 : Hid (IsL 0 (u4.alloc (.cells #[.int .i64 3, .int .i64 0] 27)) (.slice a ys.length c) ys) := h11.out.new (.cells #[.int .i64 3, .int .i64 0] 27)
    have h15 : Hid (IsL 0 (u4.alloc (.cells #[.int .i64 3, .int .i64 0] 27)) q1 ys) := h12.out.new (.cells #[.int .i64 3, .int .i64 0] 27)
    clear h10 h11 h12
    have h16 : Hid (Bx (u4.heap.size) 3 0 (u4.alloc (.cells #[.int .i64 3, .int .i64 0] 27))) := Bx.bornAt u4 3 0 27 (by simp)
    have x17 := h16.out.c0
    have x18 := h16.out.c1
    go_wp2_with fail
    refine (Equal_same h15.out h14.out (by omega)).mono ?_
    rintro e u5 ⟨rfl, hb⟩
    have h19 : Hid (Gd w u5) := h13.out.later hb
    have h20 : Hid (IsL 0 u5 (.slice a ys.length c) ys) := h14.out.later hb
    have h21 : Hid (IsL 0 u5 q1 ys) := h15.out.later hb
    have h22 : Hid (Bx (u4.heap.size) 3 0 u5) := h16.out.later hb
    clear h13 h14 h15 h16
    clear hb
    go_wp2
    go_ret
    exact ⟨rfl, h19.out⟩
  · have H6 : Hid (ys.length < 6) := (by omega : ys.length < 6)
    clear h6
    go_enter Try.func3, Try.ntmps3
    go_wp2_with fail
    refine (stacked_is _).mono ?_
    rintro e u1 ⟨rfl, hb⟩
    have h3 : Hid (IsL 0 u1 v xs) := h1.out.later hb
    have h4 : Hid (Gd w u1) := h2.out.later hb
    clear h1 h2
    clear hb
    go_wp2_with fail
    refine (few_is h3.out hlx.out).mono ?_
    rintro e u2 ⟨l, rfl, hi, hb⟩
    rw [← HY.out] at hi
    obtain ⟨a, c, rfl⟩ := hi.form
    have h5 : Hid (IsL 0 u2 v xs) := h3.out.later hb
    have h6 : Hid (Gd w u2) := h4.out.later hb
    clear h3 h4
    have h7 : Hid (IsL 0 u2 (.slice a ys.length c) ys) := hi.any
    clear hb hi
    clear h5
    go_wp2_with fail
    refine (pick_is _ _).mono ?_
    rintro e u ⟨rfl, hw⟩
    rw [hw]; clear hw u
    go_wp2_with fail
    refine (put_is _ _).mono ?_
    rintro e u3 ⟨rfl, hb⟩
    have h8 : Hid (Gd w u3) := h6.out.later hb
    have h9 : Hid (IsL 0 u3 (.slice a ys.length c) ys) := h7.out.later hb
    clear h6 h7
    clear hb
    go_wp2_with fail
    refine (sDo_eq 0 h9.out (by omega) (sdo_put (pk x) H6.out)).mono ?_
    rintro e u4 ⟨q1, rfl, hi, hb⟩
    have h10 : Hid (Gd w u4) := h8.out.later hb
    have h11 : Hid (IsL 0 u4 (.slice a ys.length c) ys) := h9.out.later hb
    clear h8 h9
    have h12 : Hid (IsL 0 u4 q1 (ys ++ [pk x])) := hi.any
    clear hb hi
    have h13 : Hid (Gd w (u4.alloc (.cells #[.int .i64 1, .int .i64 0] 27))) := h10.out.new (.cells #[.int .i64 1, .int .i64 0] 27)
    have h14 : Hid (IsL 0 (u4.alloc (.cells #[.int .i64 1, .int .i64 0] 27)) (.slice a ys.length c) ys) := h11.out.new (.cells #[.int .i64 1, .int .i64 0] 27)
    have h15 : Hid (IsL 0 (u4.alloc (.cells #[.int .i64 1, .int .i64 0] 27)) q1 (ys ++ [pk x])) := h12.out.new (.cells #[.int .i64 1, .int .i64 0] 27)
    clear h10 h11 h12
    have h16 : Hid (Bx (u4.heap.size) 1 0 (u4.alloc (.cells #[.int .i64 1, .int .i64 0] 27))) := Bx.bornAt u4 1 0 27 (by simp)
    have x17 := h16.out.c0
    have x18 := h16.out.c1
    go_wp2_with fail
    refine (sDo_eq 0 h15.out (by simp; omega) (sdo_take ys (pk x) 0)).mono ?_
    rintro e u5 ⟨q2, rfl, hi, hb⟩
    have h19 : Hid (Gd w u5) := h13.out.later hb
    have h20 : Hid (IsL 0 u5 (.slice a ys.length c) ys) := h14.out.later hb
    have h21 : Hid (IsL 0 u5 q1 (ys ++ [pk x])) := h15.out.later hb
    have h22 : Hid (Bx (u4.heap.size) 1 0 u5) := h16.out.later hb
    clear h13 h14 h15 h16
    have h23 : Hid (IsL 0 u5 q2 ys) := hi.any
    clear hb hi
    have h24 : Hid (Gd w (u5.alloc (.cells #[.int .i64 1, .int .i64 (pk x)] 27))) := h19.out.new (.cells #[.int .i64 1, .int .i64 (pk x)] 27)
    have h25 : Hid (IsL 0 (u5.alloc (.cells #[.int .i64 1, .int .i64 (pk x)] 27)) (.slice a ys.length c) ys) := h20.out.new (.cells #[.int .i64 1, .int .i64 (pk x)] 27)
    have h26 : Hid (IsL 0 (u5.alloc (.cells #[.int .i64 1, .int .i64 (pk x)] 27)) q1 (ys ++ [pk x])) := h21.out.new (.cells #[.int .i64 1, .int .i64 (pk x)] 27)
    have h27 : Hid (Bx (u4.heap.size) 1 0 (u5.alloc (.cells #[.int .i64 1, .int .i64 (pk x)] 27))) := h22.out.new (.cells #[.int .i64 1, .int .i64 (pk x)] 27)
    have h28 : Hid (IsL 0 (u5.alloc (.cells #[.int .i64 1, .int .i64 (pk x)] 27)) q2 ys) := h23.out.new (.cells #[.int .i64 1, .int .i64 (pk x)] 27)
    clear h19 h20 h21 h22 h23
    have h29 : Hid (Bx (u5.heap.size) 1 (pk x) (u5.alloc (.cells #[.int .i64 1, .int .i64 (pk x)] 27))) := Bx.bornAt u5 1 (pk x) 27 (by simp)
    have x30 := h27.out.c0
    have x31 := h27.out.c1
    have x32 := h29.out.c0
    have x33 := h29.out.c1
    go_wp2_with fail
    refine (Equal_same h28.out h25.out (by omega)).mono ?_
    rintro e u6 ⟨rfl, hb⟩
    have h34 : Hid (Gd w u6) := h24.out.later hb
    have h35 : Hid (IsL 0 u6 (.slice a ys.length c) ys) := h25.out.later hb
    have h36 : Hid (IsL 0 u6 q1 (ys ++ [pk x])) := h26.out.later hb
    have h37 : Hid (Bx (u4.heap.size) 1 0 u6) := h27.out.later hb
    have h38 : Hid (IsL 0 u6 q2 ys) := h28.out.later hb
    have h39 : Hid (Bx (u5.heap.size) 1 (pk x) u6) := h29.out.later hb
    clear h24 h25 h26 h27 h28 h29
    clear hb
    have x40 := h37.out.c0
    have x41 := h37.out.c1
    have x42 := h39.out.c0
    have x43 := h39.out.c1
    go_wp2
    go_ret
    exact ⟨rfl, h34.out⟩


set_option maxRecDepth 100000 in
theorem lifted (os : Os) (started : os.Started) (H : Type) (enc : TypeId × Value → H) :
    ReturnsInHanded {} Try.checked os 3 .any (Rows.stackBackSpec.pre6 enc Try.prog Try.f3 Rows.stackBackRow.domain false) (Rows.stackBackSpec.post enc Try.prog Try.f3 false true false false) := by
  refine returnsInHanded_of_change (C := Try.checked) own started (by kernel_rfl) Try.func3
    (ChangeSpec.witness6 (enc := enc) (C := Try.checked) false ⟨#[], #[.slice none 0 0, .int .i64 0], []⟩ 8 (by kernel_rfl) (by kernel_rfl) (by kernel_rfl) (by kernel_rfl)) ?_
  intro W base args ds gs before hval0 hW hcnd _
  have hval : ∀ (j : Nat) t v, Try.f3.params[j]? = some t → args[j]? = some v → Value.okWide Try.prog W .any base t v := hval0
  have hW' := hW
  obtain ⟨p, q, hA0, hV, rfl, hfz, hnd⟩ := hW
  have hA : DataW.TrodAll enc Try.prog W 0 (fun _ => true) true Try.f3.params.toList args.toList ds p := hA0
  rw [Try.params3] at hA hval
  obtain ⟨v0, vs0, d0, ds0, p0, q0, hargs, rfl, rfl, h0, r0⟩ := trodAll_cons hA
  obtain ⟨v1, vs1, d1, ds1, p1, q1, rfl, rfl, rfl, h1, r1⟩ := trodAll_cons r0
  obtain ⟨rfl, rfl, rfl⟩ := trodAll_nil r1
  obtain rfl : args = #[v0, v1] := by cases args; simp_all
  obtain ⟨rfl, rfl⟩ := trodVars_none hV
  obtain ⟨n0, D0⟩ := ints_of_trod (hval 0 22 v0 rfl rfl) h0
  obtain ⟨a1, rfl, rfl, rfl, w1⟩ := open_int Try.underlying3 (hval 1 3 v1 rfl rfl) h1
  have hlt := hW'.lt
  clear hA0 hval0
  refine (walk v0 n0 a1 w1 W  D0).mono fun e W' ⟨he, hg⟩ => ?_
  subst he
  exact ⟨_, rfl, post_below (pv := []) hW' (fun _ _ _ => (trodAll_cons_mk (shut_bool Try.underlying4 _) trodAll_mk0)) (fun sp hsp => (trodAll_cons_mk (ints_stay h0 hg (fun x hx => hlt x (by simp [hx])) (fun x hx => hsp x (by simp [hx]))) (trodAll_cons_mk (shut_int Try.underlying3 w1) trodAll_mk0))) (fun _ _ => rfl) (by simp) (hg.frame _)⟩

theorem over : Rows.stackBackRow.holds Try.pinned (OpenSpec.ofChange Rows.stackBackSpec) :=
  OpenClaim.holds_of_wide 3 Try.f3 rfl rfl rfl rfl rfl rfl rfl ⟨rfl, rfl, rfl, rfl, rfl⟩ rfl rfl rfl rfl rfl (by kernel_rfl) Try.func3 (by kernel_rfl)
    (of_decide_eq_true (by kernel_rfl)) (by unfold Func.isWrapper; first | (rw [if_pos (by decide +kernel)]; kernel_rfl) | (rw [if_neg (by decide +kernel)]; exact ⟨rfl, rfl⟩))
    (fun os started H enc _ => lifted os started H enc)

theorem proved : Rows.StackBackSaid :=
  over
#print axioms proved
end Go.Proofs.Ythjfkmalhdfmlab.stackBack
