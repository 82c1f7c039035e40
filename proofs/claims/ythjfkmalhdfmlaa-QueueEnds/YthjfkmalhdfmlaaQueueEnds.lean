/- QueueEnds is proved: for every list and value the call returns true (where there is something, and room, it is no matter who comes first). -/
import Derived.Test.YthjfkmalhdfmlaaRows
import Derived.Test.YthjfkmalhdfmlaaArgL
import Derived.Test.YthjfkmalhdfmlaaKq
import Derived.ChangeAlike

namespace Go.Proofs.Ythjfkmalhdfmlaa.queueEnds
open Go.ChangeShapes Go.WideShapes Go.ChangeAt Go.RowKit
set_option linter.unusedVariables false

theorem own : ownKnob Try.prog.godebug = none := by kernel_rfl

set_option maxHeartbeats 4000000 in
theorem walk (v : Value) (xs : List Int) (x : Int) (_w0 : (Lit.int .i64 x).wf = true) (w : World) (D : In w v xs) :
    Calls Try.prog 7 #[v, .int .i64 x] w fun e w' => e = .returned (.bool true) ∧ Below w.heap.size w w' := by
  obtain ⟨ys, hys⟩ : ∃ ys, ys = fw xs := ⟨_, rfl⟩
  have hl6 : ys.length ≤ 6 := by rw [hys]; exact fw_le _
  have HY : Hid (ys = fw xs) := hys
  clear hys
  have hlx : Hid (xs.length ≤ 9223372036854775807) := D.2
  have h1 : Hid (IsL 0 w v xs) := D.1
  clear D
  have h2 : Hid (Gd w w) := Gd.refl w
  by_cases h0 : ys.length = 0
  · have h0i : ((ys.length : Int) == 0) = true := by rw [beq_iff_eq]; omega
    go_enter Try.func7, Try.ntmps7
    go_wp2_with fail
    refine (queued_is _).mono ?_
    rintro e u1 ⟨rfl, hb⟩
    have h3 : Hid (IsL 0 u1 v xs) := h1.out.later hb
    have h4 : Hid (Gd w u1) := h2.out.later hb
    clear h1 h2
    clear hb
    go_wp2_with fail
    refine (few_is h3.out hlx.out).mono ?_
    rintro e u2 ⟨l, rfl, hi, hb⟩
    rw [← HY.out] at hi
    obtain ⟨a, c, rfl⟩ := hi.form
    have h5 : Hid (IsL 0 u2 v xs) := h3.out.later hb
    have h6 : Hid (Gd w u2) := h4.out.later hb
    clear h3 h4
    have h7 : Hid (IsL 0 u2 (.slice a ys.length c) ys) := hi.any
    clear hb hi
    clear h5
    go_wp2_with fail
    refine (pick_is _ _).mono ?_
    rintro e u ⟨rfl, hw⟩
    rw [hw]; clear hw u
    go_wp2
    go_ret
    exact ⟨rfl, h6.out⟩
  by_cases h6 : ys.length = 6
  · have h0i : ((ys.length : Int) == 0) = false := by rw [beq_eq_false_iff_ne]; omega
    have h6i : ((ys.length : Int) == 6) = true := by rw [beq_iff_eq]; omega
    go_enter Try.func7, Try.ntmps7
    go_wp2_with fail
    refine (queued_is _).mono ?_
    rintro e u1 ⟨rfl, hb⟩
    have h3 : Hid (IsL 0 u1 v xs) := h1.out.later hb
    have h4 : Hid (Gd w u1) := h2.out.later hb
    clear h1 h2
    clear hb
    go_wp2_with fail
    refine (few_is h3.out hlx.out).mono ?_
    rintro e u2 ⟨l, rfl, hi, hb⟩
    rw [← HY.out] at hi
    obtain ⟨a, c, rfl⟩ := hi.form
    have h5 : Hid (IsL 0 u2 v xs) := h3.out.later hb
    have h6 : Hid (Gd w u2) := h4.out.later hb
    clear h3 h4
    have h7 : Hid (IsL 0 u2 (.slice a ys.length c) ys) := hi.any
    clear hb hi
    clear h5
    go_wp2_with fail
    refine (pick_is _ _).mono ?_
    rintro e u ⟨rfl, hw⟩
    rw [hw]; clear hw u
    go_wp2
    go_ret
    exact ⟨rfl, h6.out⟩
  · have h0i : ((ys.length : Int) == 0) = false := by rw [beq_eq_false_iff_ne]; omega
    have h6i : ((ys.length : Int) == 6) = false := by rw [beq_eq_false_iff_ne]; omega
    obtain ⟨z, r, hzr⟩ : ∃ z r, ys = z :: r := by cases ys with | nil => simp at h0 | cons z r => exact ⟨z, r, rfl⟩
    have hr : r.length + 1 < 6 := by rw [hzr] at hl6 h6; simp at hl6 h6; omega
    have Z : Hid (ys = z :: r) := hzr
    clear hzr
    go_enter Try.func7, Try.ntmps7
    go_wp2_with fail
    refine (queued_is _).mono ?_
    rintro e u1 ⟨rfl, hb⟩
    have h3 : Hid (IsL 0 u1 v xs) := h1.out.later hb
    have h4 : Hid (Gd w u1) := h2.out.later hb
    clear h1 h2
    clear hb
    go_wp2_with fail
    refine (few_is h3.out hlx.out).mono ?_
    rintro e u2 ⟨l, rfl, hi, hb⟩
    rw [← HY.out] at hi
    obtain ⟨a, c, rfl⟩ := hi.form
    have h5 : Hid (IsL 0 u2 v xs) := h3.out.later hb
    have h6 : Hid (Gd w u2) := h4.out.later hb
    clear h3 h4
    have h7 : Hid (IsL 0 u2 (.slice a ys.length c) ys) := hi.any
    clear hb hi
    clear h5
    go_wp2_with fail
    refine (pick_is _ _).mono ?_
    rintro e u ⟨rfl, hw⟩
    rw [hw]; clear hw u
    have h8 : Hid (IsL 0 u2 (.slice a ys.length c) (z :: r)) := (Z.out ▸ h7.out)
    clear h7
    go_wp2_with fail
    refine (put_is _ _).mono ?_
    rintro e u3 ⟨rfl, hb⟩
    have h9 : Hid (Gd w u3) := h6.out.later hb
    have h10 : Hid (IsL 0 u3 (.slice a ys.length c) (z :: r)) := h8.out.later hb
    clear h6 h8
    clear hb
    go_wp2_with fail
    refine (qDo_put (xs := z :: r) 0 (pk x) h10.out (by simp; omega) (by simp; omega)).mono ?_
    rintro e u4 ⟨a1, rfl, hi, hb⟩
    have h11 : Hid (Gd w u4) := h9.out.later hb
    have h12 : Hid (IsL 0 u4 (.slice a ys.length c) (z :: r)) := h10.out.later hb
    clear h9 h10
    have h13 : Hid (IsL 0 u4 a1 (z :: (r ++ [pk x]))) := hi.any
    clear hb hi
    have h14 : Hid (Gd w (u4.alloc (.cells #[.int .i64 1, .int .i64 0] 26))) := h11.out.new (.cells #[.int .i64 1, .int .i64 0] 26)
    have h15 : Hid (IsL 0 (u4.alloc (.cells #[.int .i64 1, .int .i64 0] 26)) (.slice a ys.length c) (z :: r)) := h12.out.new (.cells #[.int .i64 1, .int .i64 0] 26)
    have h16 : Hid (IsL 0 (u4.alloc (.cells #[.int .i64 1, .int .i64 0] 26)) a1 (z :: (r ++ [pk x]))) := h13.out.new (.cells #[.int .i64 1, .int .i64 0] 26)
    clear h11 h12 h13
    have h17 : Hid (Bx (u4.heap.size) 1 0 (u4.alloc (.cells #[.int .i64 1, .int .i64 0] 26))) := Bx.bornAt u4 1 0 26 (by simp)
    go_wp2_with fail
    refine (qDo_take (z := z) (r := r ++ [pk x]) 0 0 h16.out (by simp; omega)).mono ?_
    rintro e u5 ⟨a2, rfl, hi, hb⟩
    have h18 : Hid (Gd w u5) := h14.out.later hb
    have h19 : Hid (IsL 0 u5 (.slice a ys.length c) (z :: r)) := h15.out.later hb
    have h20 : Hid (IsL 0 u5 a1 (z :: (r ++ [pk x]))) := h16.out.later hb
    have h21 : Hid (Bx (u4.heap.size) 1 0 u5) := h17.out.later hb
    clear h14 h15 h16 h17
    have h22 : Hid (IsL 0 u5 a2 (r ++ [pk x])) := hi.any
    clear hb hi
    have h23 : Hid (Gd w (u5.alloc (.cells #[.int .i64 1, .int .i64 z] 26))) := h18.out.new (.cells #[.int .i64 1, .int .i64 z] 26)
    have h24 : Hid (IsL 0 (u5.alloc (.cells #[.int .i64 1, .int .i64 z] 26)) (.slice a ys.length c) (z :: r)) := h19.out.new (.cells #[.int .i64 1, .int .i64 z] 26)
    have h25 : Hid (IsL 0 (u5.alloc (.cells #[.int .i64 1, .int .i64 z] 26)) a1 (z :: (r ++ [pk x]))) := h20.out.new (.cells #[.int .i64 1, .int .i64 z] 26)
    have h26 : Hid (Bx (u4.heap.size) 1 0 (u5.alloc (.cells #[.int .i64 1, .int .i64 z] 26))) := h21.out.new (.cells #[.int .i64 1, .int .i64 z] 26)
    have h27 : Hid (IsL 0 (u5.alloc (.cells #[.int .i64 1, .int .i64 z] 26)) a2 (r ++ [pk x])) := h22.out.new (.cells #[.int .i64 1, .int .i64 z] 26)
    clear h18 h19 h20 h21 h22
    have h28 : Hid (Bx (u5.heap.size) 1 z (u5.alloc (.cells #[.int .i64 1, .int .i64 z] 26))) := Bx.bornAt u5 1 z 26 (by simp)
    go_wp2_with fail
    refine (qDo_take (z := z) (r := r) 0 0 h24.out (by simp; omega)).mono ?_
    rintro e u6 ⟨b1, rfl, hi, hb⟩
    have h29 : Hid (Gd w u6) := h23.out.later hb
    have h30 : Hid (IsL 0 u6 (.slice a ys.length c) (z :: r)) := h24.out.later hb
    have h31 : Hid (IsL 0 u6 a1 (z :: (r ++ [pk x]))) := h25.out.later hb
    have h32 : Hid (Bx (u4.heap.size) 1 0 u6) := h26.out.later hb
    have h33 : Hid (IsL 0 u6 a2 (r ++ [pk x])) := h27.out.later hb
    have h34 : Hid (Bx (u5.heap.size) 1 z u6) := h28.out.later hb
    clear h23 h24 h25 h26 h27 h28
    have h35 : Hid (IsL 0 u6 b1 r) := hi.any
    clear hb hi
    have h36 : Hid (Gd w (u6.alloc (.cells #[.int .i64 1, .int .i64 z] 26))) := h29.out.new (.cells #[.int .i64 1, .int .i64 z] 26)
    have h37 : Hid (IsL 0 (u6.alloc (.cells #[.int .i64 1, .int .i64 z] 26)) (.slice a ys.length c) (z :: r)) := h30.out.new (.cells #[.int .i64 1, .int .i64 z] 26)
    have h38 : Hid (IsL 0 (u6.alloc (.cells #[.int .i64 1, .int .i64 z] 26)) a1 (z :: (r ++ [pk x]))) := h31.out.new (.cells #[.int .i64 1, .int .i64 z] 26)
    have h39 : Hid (Bx (u4.heap.size) 1 0 (u6.alloc (.cells #[.int .i64 1, .int .i64 z] 26))) := h32.out.new (.cells #[.int .i64 1, .int .i64 z] 26)
    have h40 : Hid (IsL 0 (u6.alloc (.cells #[.int .i64 1, .int .i64 z] 26)) a2 (r ++ [pk x])) := h33.out.new (.cells #[.int .i64 1, .int .i64 z] 26)
    have h41 : Hid (Bx (u5.heap.size) 1 z (u6.alloc (.cells #[.int .i64 1, .int .i64 z] 26))) := h34.out.new (.cells #[.int .i64 1, .int .i64 z] 26)
    have h42 : Hid (IsL 0 (u6.alloc (.cells #[.int .i64 1, .int .i64 z] 26)) b1 r) := h35.out.new (.cells #[.int .i64 1, .int .i64 z] 26)
    clear h29 h30 h31 h32 h33 h34 h35
    have h43 : Hid (Bx (u6.heap.size) 1 z (u6.alloc (.cells #[.int .i64 1, .int .i64 z] 26))) := Bx.bornAt u6 1 z 26 (by simp)
    go_wp2_with fail
    refine (put_is _ _).mono ?_
    rintro e u7 ⟨rfl, hb⟩
    have h44 : Hid (Gd w u7) := h36.out.later hb
    have h45 : Hid (IsL 0 u7 (.slice a ys.length c) (z :: r)) := h37.out.later hb
    have h46 : Hid (IsL 0 u7 a1 (z :: (r ++ [pk x]))) := h38.out.later hb
    have h47 : Hid (Bx (u4.heap.size) 1 0 u7) := h39.out.later hb
    have h48 : Hid (IsL 0 u7 a2 (r ++ [pk x])) := h40.out.later hb
    have h49 : Hid (Bx (u5.heap.size) 1 z u7) := h41.out.later hb
    have h50 : Hid (IsL 0 u7 b1 r) := h42.out.later hb
    have h51 : Hid (Bx (u6.heap.size) 1 z u7) := h43.out.later hb
    clear h36 h37 h38 h39 h40 h41 h42 h43
    clear hb
    go_wp2_with fail
    refine (qDo_put (xs := r) 0 (pk x) h50.out (by omega) (by omega)).mono ?_
    rintro e u8 ⟨b2, rfl, hi, hb⟩
    have h52 : Hid (Gd w u8) := h44.out.later hb
    have h53 : Hid (IsL 0 u8 (.slice a ys.length c) (z :: r)) := h45.out.later hb
    have h54 : Hid (IsL 0 u8 a1 (z :: (r ++ [pk x]))) := h46.out.later hb
    have h55 : Hid (Bx (u4.heap.size) 1 0 u8) := h47.out.later hb
    have h56 : Hid (IsL 0 u8 a2 (r ++ [pk x])) := h48.out.later hb
    have h57 : Hid (Bx (u5.heap.size) 1 z u8) := h49.out.later hb
    have h58 : Hid (IsL 0 u8 b1 r) := h50.out.later hb
    have h59 : Hid (Bx (u6.heap.size) 1 z u8) := h51.out.later hb
    clear h44 h45 h46 h47 h48 h49 h50 h51
    have h60 : Hid (IsL 0 u8 b2 (r ++ [pk x])) := hi.any
    clear hb hi
    have h61 : Hid (Gd w (u8.alloc (.cells #[.int .i64 1, .int .i64 0] 26))) := h52.out.new (.cells #[.int .i64 1, .int .i64 0] 26)
    have h62 : Hid (IsL 0 (u8.alloc (.cells #[.int .i64 1, .int .i64 0] 26)) (.slice a ys.length c) (z :: r)) := h53.out.new (.cells #[.int .i64 1, .int .i64 0] 26)
    have h63 : Hid (IsL 0 (u8.alloc (.cells #[.int .i64 1, .int .i64 0] 26)) a1 (z :: (r ++ [pk x]))) := h54.out.new (.cells #[.int .i64 1, .int .i64 0] 26)
    have h64 : Hid (Bx (u4.heap.size) 1 0 (u8.alloc (.cells #[.int .i64 1, .int .i64 0] 26))) := h55.out.new (.cells #[.int .i64 1, .int .i64 0] 26)
    have h65 : Hid (IsL 0 (u8.alloc (.cells #[.int .i64 1, .int .i64 0] 26)) a2 (r ++ [pk x])) := h56.out.new (.cells #[.int .i64 1, .int .i64 0] 26)
    have h66 : Hid (Bx (u5.heap.size) 1 z (u8.alloc (.cells #[.int .i64 1, .int .i64 0] 26))) := h57.out.new (.cells #[.int .i64 1, .int .i64 0] 26)
    have h67 : Hid (IsL 0 (u8.alloc (.cells #[.int .i64 1, .int .i64 0] 26)) b1 r) := h58.out.new (.cells #[.int .i64 1, .int .i64 0] 26)
    have h68 : Hid (Bx (u6.heap.size) 1 z (u8.alloc (.cells #[.int .i64 1, .int .i64 0] 26))) := h59.out.new (.cells #[.int .i64 1, .int .i64 0] 26)
    have h69 : Hid (IsL 0 (u8.alloc (.cells #[.int .i64 1, .int .i64 0] 26)) b2 (r ++ [pk x])) := h60.out.new (.cells #[.int .i64 1, .int .i64 0] 26)
    clear h52 h53 h54 h55 h56 h57 h58 h59 h60
    have h70 : Hid (Bx (u8.heap.size) 1 0 (u8.alloc (.cells #[.int .i64 1, .int .i64 0] 26))) := Bx.bornAt u8 1 0 26 (by simp)
    have x71 := h64.out.c0
    have x72 := h64.out.c1
    have x73 := h66.out.c0
    have x74 := h66.out.c1
    have x75 := h68.out.c0
    have x76 := h68.out.c1
    have x77 := h70.out.c0
    have x78 := h70.out.c1
    go_wp2_with fail
    refine (Equal_same h65.out h69.out (by simp; omega)).mono ?_
    rintro e u9 ⟨rfl, hb⟩
    have h79 : Hid (Gd w u9) := h61.out.later hb
    have h80 : Hid (IsL 0 u9 (.slice a ys.length c) (z :: r)) := h62.out.later hb
    have h81 : Hid (IsL 0 u9 a1 (z :: (r ++ [pk x]))) := h63.out.later hb
    have h82 : Hid (Bx (u4.heap.size) 1 0 u9) := h64.out.later hb
    have h83 : Hid (IsL 0 u9 a2 (r ++ [pk x])) := h65.out.later hb
    have h84 : Hid (Bx (u5.heap.size) 1 z u9) := h66.out.later hb
    have h85 : Hid (IsL 0 u9 b1 r) := h67.out.later hb
    have h86 : Hid (Bx (u6.heap.size) 1 z u9) := h68.out.later hb
    have h87 : Hid (IsL 0 u9 b2 (r ++ [pk x])) := h69.out.later hb
    have h88 : Hid (Bx (u8.heap.size) 1 0 u9) := h70.out.later hb
    clear h61 h62 h63 h64 h65 h66 h67 h68 h69 h70
    clear hb
    have x89 := h82.out.c0
    have x90 := h82.out.c1
    have x91 := h84.out.c0
    have x92 := h84.out.c1
    have x93 := h86.out.c0
    have x94 := h86.out.c1
    have x95 := h88.out.c0
    have x96 := h88.out.c1
    go_wp2
    go_ret
    exact ⟨rfl, h79.out⟩


set_option maxRecDepth 100000 in
theorem lifted (os : Os) (started : os.Started) (H : Type) (enc : TypeId × Value → H) :
    ReturnsInHanded {} Try.checked os 7 .any (Rows.queueEndsSpec.pre6 enc Try.prog Try.f7 Rows.queueEndsRow.domain false) (Rows.queueEndsSpec.post enc Try.prog Try.f7 false true false false) := by
  refine returnsInHanded_of_change (C := Try.checked) own started (by kernel_rfl) Try.func7
    (ChangeSpec.witness6 (enc := enc) (C := Try.checked) false ⟨#[], #[.slice none 0 0, .int .i64 0], []⟩ 8 (by kernel_rfl) (by kernel_rfl) (by kernel_rfl) (by kernel_rfl)) ?_
  intro W base args ds gs before hval0 hW hcnd _
  have hval : ∀ (j : Nat) t v, Try.f7.params[j]? = some t → args[j]? = some v → Value.okWide Try.prog W .any base t v := hval0
  have hW' := hW
  obtain ⟨p, q, hA0, hV, rfl, hfz, hnd⟩ := hW
  have hA : DataW.TrodAll enc Try.prog W 0 (fun _ => true) true Try.f7.params.toList args.toList ds p := hA0
  rw [Try.params7] at hA hval
  obtain ⟨v0, vs0, d0, ds0, p0, q0, hargs, rfl, rfl, h0, r0⟩ := trodAll_cons hA
  obtain ⟨v1, vs1, d1, ds1, p1, q1, rfl, rfl, rfl, h1, r1⟩ := trodAll_cons r0
  obtain ⟨rfl, rfl, rfl⟩ := trodAll_nil r1
  obtain rfl : args = #[v0, v1] := by cases args; simp_all
  obtain ⟨rfl, rfl⟩ := trodVars_none hV
  obtain ⟨n0, D0⟩ := ints_of_trod (hval 0 22 v0 rfl rfl) h0
  obtain ⟨a1, rfl, rfl, rfl, w1⟩ := open_int Try.underlying3 (hval 1 3 v1 rfl rfl) h1
  have hlt := hW'.lt
  clear hA0 hval0
  refine (walk v0 n0 a1 w1 W  D0).mono fun e W' ⟨he, hg⟩ => ?_
  subst he
  exact ⟨_, rfl, post_below (pv := []) hW' (fun _ _ _ => (trodAll_cons_mk (shut_bool Try.underlying4 _) trodAll_mk0)) (fun sp hsp => (trodAll_cons_mk (ints_stay h0 hg (fun x hx => hlt x (by simp [hx])) (fun x hx => hsp x (by simp [hx]))) (trodAll_cons_mk (shut_int Try.underlying3 w1) trodAll_mk0))) (fun _ _ => rfl) (by simp) (hg.frame _)⟩

theorem over : Rows.queueEndsRow.holds Try.pinned (OpenSpec.ofChange Rows.queueEndsSpec) :=
  OpenClaim.holds_of_wide 7 Try.f7 rfl rfl rfl rfl rfl rfl rfl ⟨rfl, rfl, rfl, rfl, rfl⟩ rfl rfl rfl rfl rfl (by kernel_rfl) Try.func7 (by kernel_rfl)
    (of_decide_eq_true (by kernel_rfl)) (by unfold Func.isWrapper; first | (rw [if_pos (by decide +kernel)]; kernel_rfl) | (rw [if_neg (by decide +kernel)]; exact ⟨rfl, rfl⟩))
    (fun os started H enc _ => lifted os started H enc)

theorem proved : Rows.QueueEndsSaid :=
  over
#print axioms proved
end Go.Proofs.Ythjfkmalhdfmlaa.queueEnds
