/- StackLooks is proved: for every list the call returns true (what Peek tells is what Take would, and there are so many as Count says). -/
import Derived.Test.YthjfkmalhdfmlabRows
import Derived.Test.YthjfkmalhdfmlabArgL
import Derived.Test.YthjfkmalhdfmlabKs
import Derived.ChangeAlike

namespace Go.Proofs.Ythjfkmalhdfmlab.stackLooks
open Go.ChangeShapes Go.WideShapes Go.ChangeAt Go.RowKit
set_option linter.unusedVariables false

theorem own : ownKnob Try.prog.godebug = none := by kernel_rfl

set_option maxHeartbeats 4000000 in
theorem walk (v : Value) (xs : List Int) (w : World) (D : In w v xs) :
    Calls Try.prog 5 #[v] w fun e w' => e = .returned (.bool true) ∧ Below w.heap.size w w' := by
  obtain ⟨ys, hys⟩ : ∃ ys, ys = fw xs := ⟨_, rfl⟩
  have hl6 : ys.length ≤ 6 := by rw [hys]; exact fw_le _
  have HY : Hid (ys = fw xs) := hys
  clear hys
  have hlx : Hid (xs.length ≤ 9223372036854775807) := D.2
  have h1 : Hid (IsL 0 w v xs) := D.1
  clear D
  have h2 : Hid (Gd w w) := Gd.refl w
  obtain ⟨r, c5, y5, e5, e2⟩ := sdo_looks ys
  have E5 : Hid (sdo ys 5 0 = (ys, c5, y5)) := e5
  have E2 : Hid (sdo ys 2 0 = (r, c5, y5)) := e2
  clear e5 e2
  go_enter Try.func5, Try.ntmps5
  go_wp2_with fail
  refine (stacked_is _).mono ?_
  rintro e u1 ⟨rfl, hb⟩
  have h3 : Hid (IsL 0 u1 v xs) := h1.out.later hb
  have h4 : Hid (Gd w u1) := h2.out.later hb
  clear h1 h2
  clear hb
  go_wp2_with fail
  refine (few_is h3.out hlx.out).mono ?_
  rintro e u2 ⟨l, rfl, hi, hb⟩
  rw [← HY.out] at hi
  obtain ⟨a, c, rfl⟩ := hi.form
  have h5 : Hid (IsL 0 u2 v xs) := h3.out.later hb
  have h6 : Hid (Gd w u2) := h4.out.later hb
  clear h3 h4
  have h7 : Hid (IsL 0 u2 (.slice a ys.length c) ys) := hi.any
  clear hb hi
  clear h5
  go_wp2_with fail
  refine (sDo_eq 0 h7.out (by omega) E5.out).mono ?_
  rintro e u3 ⟨q5, rfl, hi, hb⟩
  have h8 : Hid (Gd w u3) := h6.out.later hb
  have h9 : Hid (IsL 0 u3 (.slice a ys.length c) ys) := h7.out.later hb
  clear h6 h7
  have h10 : Hid (IsL 0 u3 q5 ys) := hi.any
  clear hb hi
  have h11 : Hid (Gd w (u3.alloc (.cells #[.int .i64 c5, .int .i64 y5] 27))) := h8.out.new (.cells #[.int .i64 c5, .int .i64 y5] 27)
  have h12 : Hid (IsL 0 (u3.alloc (.cells #[.int .i64 c5, .int .i64 y5] 27)) (.slice a ys.length c) ys) := h9.out.new (.cells #[.int .i64 c5, .int .i64 y5] 27)
  have h13 : Hid (IsL 0 (u3.alloc (.cells #[.int .i64 c5, .int .i64 y5] 27)) q5 ys) := h10.out.new (.cells #[.int .i64 c5, .int .i64 y5] 27)
  clear h8 h9 h10
  have h14 : Hid (Bx (u3.heap.size) c5 y5 (u3.alloc (.cells #[.int .i64 c5, .int .i64 y5] 27))) := Bx.bornAt u3 c5 y5 27 (by simp)
  go_wp2_with fail
  refine (sDo_eq 0 h12.out (by omega) E2.out).mono ?_
  rintro e u4 ⟨q2, rfl, hi, hb⟩
  have h15 : Hid (Gd w u4) := h11.out.later hb
  have h16 : Hid (IsL 0 u4 (.slice a ys.length c) ys) := h12.out.later hb
  have h17 : Hid (IsL 0 u4 q5 ys) := h13.out.later hb
  have h18 : Hid (Bx (u3.heap.size) c5 y5 u4) := h14.out.later hb
  clear h11 h12 h13 h14
  have h19 : Hid (IsL 0 u4 q2 r) := hi.any
  clear hb hi
  have h20 : Hid (Gd w (u4.alloc (.cells #[.int .i64 c5, .int .i64 y5] 27))) := h15.out.new (.cells #[.int .i64 c5, .int .i64 y5] 27)
  have h21 : Hid (IsL 0 (u4.alloc (.cells #[.int .i64 c5, .int .i64 y5] 27)) (.slice a ys.length c) ys) := h16.out.new (.cells #[.int .i64 c5, .int .i64 y5] 27)
  have h22 : Hid (IsL 0 (u4.alloc (.cells #[.int .i64 c5, .int .i64 y5] 27)) q5 ys) := h17.out.new (.cells #[.int .i64 c5, .int .i64 y5] 27)
  have h23 : Hid (Bx (u3.heap.size) c5 y5 (u4.alloc (.cells #[.int .i64 c5, .int .i64 y5] 27))) := h18.out.new (.cells #[.int .i64 c5, .int .i64 y5] 27)
  have h24 : Hid (IsL 0 (u4.alloc (.cells #[.int .i64 c5, .int .i64 y5] 27)) q2 r) := h19.out.new (.cells #[.int .i64 c5, .int .i64 y5] 27)
  clear h15 h16 h17 h18 h19
  have h25 : Hid (Bx (u4.heap.size) c5 y5 (u4.alloc (.cells #[.int .i64 c5, .int .i64 y5] 27))) := Bx.bornAt u4 c5 y5 27 (by simp)
  go_wp2_with fail
  refine (sDo_eq 0 h21.out (by omega) (sdo_count ys 0)).mono ?_
  rintro e u5 ⟨q6, rfl, hi, hb⟩
  have h26 : Hid (Gd w u5) := h20.out.later hb
  have h27 : Hid (IsL 0 u5 (.slice a ys.length c) ys) := h21.out.later hb
  have h28 : Hid (IsL 0 u5 q5 ys) := h22.out.later hb
  have h29 : Hid (Bx (u3.heap.size) c5 y5 u5) := h23.out.later hb
  have h30 : Hid (IsL 0 u5 q2 r) := h24.out.later hb
  have h31 : Hid (Bx (u4.heap.size) c5 y5 u5) := h25.out.later hb
  clear h20 h21 h22 h23 h24 h25
  have h32 : Hid (IsL 0 u5 q6 ys) := hi.any
  clear hb hi
  have h33 : Hid (Gd w (u5.alloc (.cells #[.int .i64 1, .int .i64 ys.length] 27))) := h26.out.new (.cells #[.int .i64 1, .int .i64 ys.length] 27)
  have h34 : Hid (IsL 0 (u5.alloc (.cells #[.int .i64 1, .int .i64 ys.length] 27)) (.slice a ys.length c) ys) := h27.out.new (.cells #[.int .i64 1, .int .i64 ys.length] 27)
  have h35 : Hid (IsL 0 (u5.alloc (.cells #[.int .i64 1, .int .i64 ys.length] 27)) q5 ys) := h28.out.new (.cells #[.int .i64 1, .int .i64 ys.length] 27)
  have h36 : Hid (Bx (u3.heap.size) c5 y5 (u5.alloc (.cells #[.int .i64 1, .int .i64 ys.length] 27))) := h29.out.new (.cells #[.int .i64 1, .int .i64 ys.length] 27)
  have h37 : Hid (IsL 0 (u5.alloc (.cells #[.int .i64 1, .int .i64 ys.length] 27)) q2 r) := h30.out.new (.cells #[.int .i64 1, .int .i64 ys.length] 27)
  have h38 : Hid (Bx (u4.heap.size) c5 y5 (u5.alloc (.cells #[.int .i64 1, .int .i64 ys.length] 27))) := h31.out.new (.cells #[.int .i64 1, .int .i64 ys.length] 27)
  have h39 : Hid (IsL 0 (u5.alloc (.cells #[.int .i64 1, .int .i64 ys.length] 27)) q6 ys) := h32.out.new (.cells #[.int .i64 1, .int .i64 ys.length] 27)
  clear h26 h27 h28 h29 h30 h31 h32
  have h40 : Hid (Bx (u5.heap.size) 1 ys.length (u5.alloc (.cells #[.int .i64 1, .int .i64 ys.length] 27))) := Bx.bornAt u5 1 ys.length 27 (by simp)
  have x41 := h36.out.c0
  have x42 := h36.out.c1
  have x43 := h38.out.c0
  have x44 := h38.out.c1
  have x45 := h40.out.c0
  have x46 := h40.out.c1
  go_wp2_with fail
  refine (Equal_same h35.out h34.out (by omega)).mono ?_
  rintro e u6 ⟨rfl, hb⟩
  have h47 : Hid (Gd w u6) := h33.out.later hb
  have h48 : Hid (IsL 0 u6 (.slice a ys.length c) ys) := h34.out.later hb
  have h49 : Hid (IsL 0 u6 q5 ys) := h35.out.later hb
  have h50 : Hid (Bx (u3.heap.size) c5 y5 u6) := h36.out.later hb
  have h51 : Hid (IsL 0 u6 q2 r) := h37.out.later hb
  have h52 : Hid (Bx (u4.heap.size) c5 y5 u6) := h38.out.later hb
  have h53 : Hid (IsL 0 u6 q6 ys) := h39.out.later hb
  have h54 : Hid (Bx (u5.heap.size) 1 ys.length u6) := h40.out.later hb
  clear h33 h34 h35 h36 h37 h38 h39 h40
  clear hb
  have x55 := h50.out.c0
  have x56 := h50.out.c1
  have x57 := h52.out.c0
  have x58 := h52.out.c1
  have x59 := h54.out.c0
  have x60 := h54.out.c1
  go_wp2_with fail
  refine (Equal_same h53.out h48.out (by omega)).mono ?_
  rintro e u7 ⟨rfl, hb⟩
  have h61 : Hid (Gd w u7) := h47.out.later hb
  have h62 : Hid (IsL 0 u7 (.slice a ys.length c) ys) := h48.out.later hb
  have h63 : Hid (IsL 0 u7 q5 ys) := h49.out.later hb
  have h64 : Hid (Bx (u3.heap.size) c5 y5 u7) := h50.out.later hb
  have h65 : Hid (IsL 0 u7 q2 r) := h51.out.later hb
  have h66 : Hid (Bx (u4.heap.size) c5 y5 u7) := h52.out.later hb
  have h67 : Hid (IsL 0 u7 q6 ys) := h53.out.later hb
  have h68 : Hid (Bx (u5.heap.size) 1 ys.length u7) := h54.out.later hb
  clear h47 h48 h49 h50 h51 h52 h53 h54
  clear hb
  have x69 := h64.out.c0
  have x70 := h64.out.c1
  have x71 := h66.out.c0
  have x72 := h66.out.c1
  have x73 := h68.out.c0
  have x74 := h68.out.c1
  go_wp2
  go_ret
  exact ⟨rfl, h61.out⟩


set_option maxRecDepth 100000 in
theorem lifted (os : Os) (started : os.Started) (H : Type) (enc : TypeId × Value → H) :
    ReturnsInHanded {} Try.checked os 5 .any (Rows.stackLooksSpec.pre6 enc Try.prog Try.f5 Rows.stackLooksRow.domain false) (Rows.stackLooksSpec.post enc Try.prog Try.f5 false true false false) := by
  refine returnsInHanded_of_change (C := Try.checked) own started (by kernel_rfl) Try.func5
    (ChangeSpec.witness6 (enc := enc) (C := Try.checked) false ⟨#[], #[.slice none 0 0], []⟩ 8 (by kernel_rfl) (by kernel_rfl) (by kernel_rfl) (by kernel_rfl)) ?_
  intro W base args ds gs before hval0 hW hcnd _
  have hval : ∀ (j : Nat) t v, Try.f5.params[j]? = some t → args[j]? = some v → Value.okWide Try.prog W .any base t v := hval0
  have hW' := hW
  obtain ⟨p, q, hA0, hV, rfl, hfz, hnd⟩ := hW
  have hA : DataW.TrodAll enc Try.prog W 0 (fun _ => true) true Try.f5.params.toList args.toList ds p := hA0
  rw [Try.params5] at hA hval
  obtain ⟨v0, vs0, d0, ds0, p0, q0, hargs, rfl, rfl, h0, r0⟩ := trodAll_cons hA
  obtain ⟨rfl, rfl, rfl⟩ := trodAll_nil r0
  obtain rfl : args = #[v0] := by cases args; simp_all
  obtain ⟨rfl, rfl⟩ := trodVars_none hV
  obtain ⟨n0, D0⟩ := ints_of_trod (hval 0 22 v0 rfl rfl) h0
  have hlt := hW'.lt
  clear hA0 hval0
  refine (walk v0 n0  W  D0).mono fun e W' ⟨he, hg⟩ => ?_
  subst he
  exact ⟨_, rfl, post_below (pv := []) hW' (fun _ _ _ => (trodAll_cons_mk (shut_bool Try.underlying4 _) trodAll_mk0)) (fun sp hsp => (trodAll_cons_mk (ints_stay h0 hg (fun x hx => hlt x (by simp [hx])) (fun x hx => hsp x (by simp [hx]))) trodAll_mk0)) (fun _ _ => rfl) (by simp) (hg.frame _)⟩

theorem over : Rows.stackLooksRow.holds Try.pinned (OpenSpec.ofChange Rows.stackLooksSpec) :=
  OpenClaim.holds_of_wide 5 Try.f5 rfl rfl rfl rfl rfl rfl rfl ⟨rfl, rfl, rfl, rfl, rfl⟩ rfl rfl rfl rfl rfl (by kernel_rfl) Try.func5 (by kernel_rfl)
    (of_decide_eq_true (by kernel_rfl)) (by unfold Func.isWrapper; first | (rw [if_pos (by decide +kernel)]; kernel_rfl) | (rw [if_neg (by decide +kernel)]; exact ⟨rfl, rfl⟩))
    (fun os started H enc _ => lifted os started H enc)

theorem proved : Rows.StackLooksSaid :=
  over
#print axioms proved
end Go.Proofs.Ythjfkmalhdfmlab.stackLooks
