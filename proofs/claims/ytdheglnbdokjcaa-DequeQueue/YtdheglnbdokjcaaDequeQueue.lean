/- DequeQueue is proved: for every list and operation the call returns true (at one end in, at the other one out, a deque is a queue; an operation that is not right, Front and Back are let be, by the law's own words). -/
import Derived.Test.YtdheglnbdokjcaaRows
import Derived.Test.YtdheglnbdokjcaaArgL
import Derived.Test.YtdheglnbdokjcaaDl
import Derived.Test.YtdheglnbdokjcaaKq
import Derived.Test.YtdheglnbdokjcaaRp
import Derived.ChangeAlike

namespace Go.Proofs.Ytdheglnbdokjcaa.dequeQueue
open Go.ChangeShapes Go.WideShapes Go.ChangeAt Go.RowKit
set_option linter.unusedVariables false

theorem own : ownKnob Try.prog.godebug = none := by kernel_rfl

set_option maxHeartbeats 4000000 in
theorem walk (v : Value) (xs : List Int) (o k x : Int) (_w0 : (Lit.int .i64 o).wf = true) (_w1 : (Lit.int .i64 k).wf = true) (_w2 : (Lit.int .i64 x).wf = true) (w : World) (D : In w v xs) :
    Calls Try.prog 5 #[v, .agg #[.int .i64 o, .int .i64 k, .int .i64 x]] w fun e w' => e = .returned (.bool true) ∧ Below w.heap.size w w' := by
  obtain ⟨ys, hys⟩ : ∃ ys, ys = fw xs := ⟨_, rfl⟩
  have hl6 : ys.length ≤ 6 := by rw [hys]; exact fw_le _
  have HY : Hid (ys = fw xs) := hys
  clear hys
  have hlx : Hid (xs.length ≤ 9223372036854775807) := D.2
  have h1 : Hid (IsL 0 w v xs) := D.1
  clear D
  have h2 : Hid (Gd w w) := Gd.refl w
  have h3 : Hid (IsL 0 (w.alloc (.cells #[.int .i64 o, .int .i64 k, .int .i64 x] 24)) v xs) := h1.out.new (.cells #[.int .i64 o, .int .i64 k, .int .i64 x] 24)
  have h4 : Hid (Gd w (w.alloc (.cells #[.int .i64 o, .int .i64 k, .int .i64 x] 24))) := h2.out.new (.cells #[.int .i64 o, .int .i64 k, .int .i64 x] 24)
  clear h1 h2
  have h5 : Hid (Bo w.heap.size o k x (w.alloc (.cells #[.int .i64 o, .int .i64 k, .int .i64 x] 24))) := Bo.born w o k x 24
  by_cases hrt : Rt o k x
  · have HR : Hid (Rt o k x) := hrt
    clear hrt
    by_cases e3 : o = 3
    · subst e3
      go_enter Try.func5, Try.ntmps5
      go_wp2_with fail
      refine (dealt_is _).mono ?_
      rintro e u1 ⟨rfl, hb⟩
      have h6 : Hid (IsL 0 u1 v xs) := h3.out.later hb
      have h7 : Hid (Gd w u1) := h4.out.later hb
      have h8 : Hid (Bo w.heap.size 3 k x u1) := h5.out.later hb
      clear h3 h4 h5
      clear hb
      go_wp2_with fail
      refine (queued_is _).mono ?_
      rintro e u2 ⟨rfl, hb⟩
      have h9 : Hid (IsL 0 u2 v xs) := h6.out.later hb
      have h10 : Hid (Gd w u2) := h7.out.later hb
      have h11 : Hid (Bo w.heap.size 3 k x u2) := h8.out.later hb
      clear h6 h7 h8
      clear hb
      have x12 := h11.out.c0
      have x13 := h11.out.c1
      have x14 := h11.out.c2
      have x15 := h11.out.lt
      go_wp2_with fail
      refine (Right_is HR.out _).mono ?_
      rintro e u3 ⟨rfl, hw⟩
      have hb : Below u2.heap.size u2 u3 := by rw [hw]; exact new_below _ _
      clear hw
      have h16 : Hid (IsL 0 u3 v xs) := h9.out.later hb
      have h17 : Hid (Gd w u3) := h10.out.later hb
      have h18 : Hid (Bo w.heap.size 3 k x u3) := h11.out.later hb
      clear h9 h10 h11
      clear hb
      have x19 := h18.out.c0
      have x20 := h18.out.c1
      have x21 := h18.out.c2
      have x22 := h18.out.lt
      go_wp2
      go_ret
      exact ⟨rfl, h17.out⟩
    by_cases e4 : o = 4
    · subst e4
      go_enter Try.func5, Try.ntmps5
      go_wp2_with fail
      refine (dealt_is _).mono ?_
      rintro e u1 ⟨rfl, hb⟩
      have h6 : Hid (IsL 0 u1 v xs) := h3.out.later hb
      have h7 : Hid (Gd w u1) := h4.out.later hb
      have h8 : Hid (Bo w.heap.size 4 k x u1) := h5.out.later hb
      clear h3 h4 h5
      clear hb
      go_wp2_with fail
      refine (queued_is _).mono ?_
      rintro e u2 ⟨rfl, hb⟩
      have h9 : Hid (IsL 0 u2 v xs) := h6.out.later hb
      have h10 : Hid (Gd w u2) := h7.out.later hb
      have h11 : Hid (Bo w.heap.size 4 k x u2) := h8.out.later hb
      clear h6 h7 h8
      clear hb
      have x12 := h11.out.c0
      have x13 := h11.out.c1
      have x14 := h11.out.c2
      have x15 := h11.out.lt
      go_wp2_with fail
      refine (Right_is HR.out _).mono ?_
      rintro e u3 ⟨rfl, hw⟩
      have hb : Below u2.heap.size u2 u3 := by rw [hw]; exact new_below _ _
      clear hw
      have h16 : Hid (IsL 0 u3 v xs) := h9.out.later hb
      have h17 : Hid (Gd w u3) := h10.out.later hb
      have h18 : Hid (Bo w.heap.size 4 k x u3) := h11.out.later hb
      clear h9 h10 h11
      clear hb
      have x19 := h18.out.c0
      have x20 := h18.out.c1
      have x21 := h18.out.c2
      have x22 := h18.out.lt
      go_wp2
      go_ret
      exact ⟨rfl, h17.out⟩
    have m3 : (o == 3) = false := by simp [e3]
    have m4 : (o == 4) = false := by simp [e4]
    obtain ⟨⟨zs, cc, yy⟩, hq⟩ : ∃ p, qdo ys o x = p := ⟨_, rfl⟩
    have HQ : Hid (qdo ys o x = (zs, cc, yy)) := hq
    clear hq
    have HD : Hid (ddo ys o x = (zs, cc, yy)) := (ddo_else ys o x e3 e4).trans HQ.out
    have HL : Hid (zs.length ≤ 1000000) := Nat.le_trans (qdo_len HQ.out) (by omega)
    clear e3 e4
    go_enter Try.func5, Try.ntmps5
    go_wp2_with fail
    refine (dealt_is _).mono ?_
    rintro e u1 ⟨rfl, hb⟩
    have h6 : Hid (IsL 0 u1 v xs) := h3.out.later hb
    have h7 : Hid (Gd w u1) := h4.out.later hb
    have h8 : Hid (Bo w.heap.size o k x u1) := h5.out.later hb
    clear h3 h4 h5
    clear hb
    go_wp2_with fail
    refine (queued_is _).mono ?_
    rintro e u2 ⟨rfl, hb⟩
    have h9 : Hid (IsL 0 u2 v xs) := h6.out.later hb
    have h10 : Hid (Gd w u2) := h7.out.later hb
    have h11 : Hid (Bo w.heap.size o k x u2) := h8.out.later hb
    clear h6 h7 h8
    clear hb
    have x12 := h11.out.c0
    have x13 := h11.out.c1
    have x14 := h11.out.c2
    have x15 := h11.out.lt
    go_wp2_with fail
    refine (Right_is HR.out _).mono ?_
    rintro e u3 ⟨rfl, hw⟩
    have hb : Below u2.heap.size u2 u3 := by rw [hw]; exact new_below _ _
    clear hw
    have h16 : Hid (IsL 0 u3 v xs) := h9.out.later hb
    have h17 : Hid (Gd w u3) := h10.out.later hb
    have h18 : Hid (Bo w.heap.size o k x u3) := h11.out.later hb
    clear h9 h10 h11
    clear hb
    have x19 := h18.out.c0
    have x20 := h18.out.c1
    have x21 := h18.out.c2
    have x22 := h18.out.lt
    go_wp2_with fail
    refine (few_is h16.out hlx.out).mono ?_
    rintro e u4 ⟨l, rfl, hi, hb⟩
    rw [← HY.out] at hi
    obtain ⟨a, c, rfl⟩ := hi.form
    have h23 : Hid (IsL 0 u4 v xs) := h16.out.later hb
    have h24 : Hid (Gd w u4) := h17.out.later hb
    have h25 : Hid (Bo w.heap.size o k x u4) := h18.out.later hb
    clear h16 h17 h18
    have h26 : Hid (IsL 0 u4 (.slice a ys.length c) ys) := hi.any
    clear hb hi
    clear h23
    have x27 := h25.out.c0
    have x28 := h25.out.c1
    have x29 := h25.out.c2
    have x30 := h25.out.lt
    go_wp2_with fail
    refine (dDo_eq k h26.out (by omega) HD.out).mono ?_
    rintro e u5 ⟨q1, rfl, hi, hb⟩
    have h31 : Hid (Gd w u5) := h24.out.later hb
    have h32 : Hid (Bo w.heap.size o k x u5) := h25.out.later hb
    have h33 : Hid (IsL 0 u5 (.slice a ys.length c) ys) := h26.out.later hb
    clear h24 h25 h26
    have h34 : Hid (IsL 0 u5 q1 zs) := hi.any
    clear hb hi
    have x35 := h32.out.c0
    have x36 := h32.out.c1
    have x37 := h32.out.c2
    have x38 := h32.out.lt
    have h39 : Hid (Gd w (u5.alloc (.cells #[.int .i64 cc, .int .i64 yy] 26))) := h31.out.new (.cells #[.int .i64 cc, .int .i64 yy] 26)
    have h40 : Hid (Bo w.heap.size o k x (u5.alloc (.cells #[.int .i64 cc, .int .i64 yy] 26))) := h32.out.new (.cells #[.int .i64 cc, .int .i64 yy] 26)
    have h41 : Hid (IsL 0 (u5.alloc (.cells #[.int .i64 cc, .int .i64 yy] 26)) (.slice a ys.length c) ys) := h33.out.new (.cells #[.int .i64 cc, .int .i64 yy] 26)
    have h42 : Hid (IsL 0 (u5.alloc (.cells #[.int .i64 cc, .int .i64 yy] 26)) q1 zs) := h34.out.new (.cells #[.int .i64 cc, .int .i64 yy] 26)
    clear h31 h32 h33 h34
    have h43 : Hid (Bx (u5.heap.size) cc yy (u5.alloc (.cells #[.int .i64 cc, .int .i64 yy] 26))) := Bx.bornAt u5 cc yy 26 (by simp)
    go_wp2_with fail
    refine (qDo_eq k h41.out (by omega) HQ.out).mono ?_
    rintro e u6 ⟨q2, rfl, hi, hb⟩
    have h44 : Hid (Gd w u6) := h39.out.later hb
    have h45 : Hid (Bo w.heap.size o k x u6) := h40.out.later hb
    have h46 : Hid (IsL 0 u6 (.slice a ys.length c) ys) := h41.out.later hb
    have h47 : Hid (IsL 0 u6 q1 zs) := h42.out.later hb
    have h48 : Hid (Bx (u5.heap.size) cc yy u6) := h43.out.later hb
    clear h39 h40 h41 h42 h43
    have h49 : Hid (IsL 0 u6 q2 zs) := hi.any
    clear hb hi
    have h50 : Hid (Gd w (u6.alloc (.cells #[.int .i64 cc, .int .i64 yy] 26))) := h44.out.new (.cells #[.int .i64 cc, .int .i64 yy] 26)
    have h51 : Hid (Bo w.heap.size o k x (u6.alloc (.cells #[.int .i64 cc, .int .i64 yy] 26))) := h45.out.new (.cells #[.int .i64 cc, .int .i64 yy] 26)
    have h52 : Hid (IsL 0 (u6.alloc (.cells #[.int .i64 cc, .int .i64 yy] 26)) (.slice a ys.length c) ys) := h46.out.new (.cells #[.int .i64 cc, .int .i64 yy] 26)
    have h53 : Hid (IsL 0 (u6.alloc (.cells #[.int .i64 cc, .int .i64 yy] 26)) q1 zs) := h47.out.new (.cells #[.int .i64 cc, .int .i64 yy] 26)
    have h54 : Hid (Bx (u5.heap.size) cc yy (u6.alloc (.cells #[.int .i64 cc, .int .i64 yy] 26))) := h48.out.new (.cells #[.int .i64 cc, .int .i64 yy] 26)
    have h55 : Hid (IsL 0 (u6.alloc (.cells #[.int .i64 cc, .int .i64 yy] 26)) q2 zs) := h49.out.new (.cells #[.int .i64 cc, .int .i64 yy] 26)
    clear h44 h45 h46 h47 h48 h49
    have h56 : Hid (Bx (u6.heap.size) cc yy (u6.alloc (.cells #[.int .i64 cc, .int .i64 yy] 26))) := Bx.bornAt u6 cc yy 26 (by simp)
    have x57 := h54.out.c0
    have x58 := h54.out.c1
    have x59 := h56.out.c0
    have x60 := h56.out.c1
    go_wp2_with fail
    refine (Equal_same h53.out h55.out HL.out).mono ?_
    rintro e u7 ⟨rfl, hb⟩
    have h61 : Hid (Gd w u7) := h50.out.later hb
    have h62 : Hid (Bo w.heap.size o k x u7) := h51.out.later hb
    have h63 : Hid (IsL 0 u7 (.slice a ys.length c) ys) := h52.out.later hb
    have h64 : Hid (IsL 0 u7 q1 zs) := h53.out.later hb
    have h65 : Hid (Bx (u5.heap.size) cc yy u7) := h54.out.later hb
    have h66 : Hid (IsL 0 u7 q2 zs) := h55.out.later hb
    have h67 : Hid (Bx (u6.heap.size) cc yy u7) := h56.out.later hb
    clear h50 h51 h52 h53 h54 h55 h56
    clear hb
    go_wp2
    go_ret
    exact ⟨rfl, h61.out⟩
  · have HR : Hid (¬ Rt o k x) := hrt
    clear hrt
    go_enter Try.func5, Try.ntmps5
    go_wp2_with fail
    refine (dealt_is _).mono ?_
    rintro e u1 ⟨rfl, hb⟩
    have h6 : Hid (IsL 0 u1 v xs) := h3.out.later hb
    have h7 : Hid (Gd w u1) := h4.out.later hb
    have h8 : Hid (Bo w.heap.size o k x u1) := h5.out.later hb
    clear h3 h4 h5
    clear hb
    go_wp2_with fail
    refine (queued_is _).mono ?_
    rintro e u2 ⟨rfl, hb⟩
    have h9 : Hid (IsL 0 u2 v xs) := h6.out.later hb
    have h10 : Hid (Gd w u2) := h7.out.later hb
    have h11 : Hid (Bo w.heap.size o k x u2) := h8.out.later hb
    clear h6 h7 h8
    clear hb
    have x12 := h11.out.c0
    have x13 := h11.out.c1
    have x14 := h11.out.c2
    have x15 := h11.out.lt
    go_wp2_with fail
    refine (Right_isnt HR.out _).mono ?_
    rintro e u3 ⟨rfl, hw⟩
    have hb : Below u2.heap.size u2 u3 := by rw [hw]; exact new_below _ _
    clear hw
    have h16 : Hid (IsL 0 u3 v xs) := h9.out.later hb
    have h17 : Hid (Gd w u3) := h10.out.later hb
    have h18 : Hid (Bo w.heap.size o k x u3) := h11.out.later hb
    clear h9 h10 h11
    clear hb
    have x19 := h18.out.c0
    have x20 := h18.out.c1
    have x21 := h18.out.c2
    have x22 := h18.out.lt
    go_wp2
    go_ret
    exact ⟨rfl, h17.out⟩


set_option maxRecDepth 100000 in
theorem lifted (os : Os) (started : os.Started) (H : Type) (enc : TypeId × Value → H) :
    ReturnsInHanded {} Try.checked os 5 .any (Rows.dequeQueueSpec.pre6 enc Try.prog Try.f5 Rows.dequeQueueRow.domain false) (Rows.dequeQueueSpec.post enc Try.prog Try.f5 false true false false) := by
  refine returnsInHanded_of_change (C := Try.checked) own started (by kernel_rfl) Try.func5
    (ChangeSpec.witness6 (enc := enc) (C := Try.checked) false ⟨#[], #[.slice none 0 0, .agg #[.int .i64 0, .int .i64 0, .int .i64 0]], []⟩ 8 (by kernel_rfl) (by kernel_rfl) (by kernel_rfl) (by kernel_rfl)) ?_
  intro W base args ds gs before hval0 hW hcnd _
  have hval : ∀ (j : Nat) t v, Try.f5.params[j]? = some t → args[j]? = some v → Value.okWide Try.prog W .any base t v := hval0
  have hW' := hW
  obtain ⟨p, q, hA0, hV, rfl, hfz, hnd⟩ := hW
  have hA : DataW.TrodAll enc Try.prog W 0 (fun _ => true) true Try.f5.params.toList args.toList ds p := hA0
  rw [Try.params5] at hA hval
  obtain ⟨v0, vs0, d0, ds0, p0, q0, hargs, rfl, rfl, h0, r0⟩ := trodAll_cons hA
  obtain ⟨v1, vs1, d1, ds1, p1, q1, rfl, rfl, rfl, h1, r1⟩ := trodAll_cons r0
  obtain ⟨rfl, rfl, rfl⟩ := trodAll_nil r1
  obtain rfl : args = #[v0, v1] := by cases args; simp_all
  obtain ⟨rfl, rfl⟩ := trodVars_none hV
  obtain ⟨n0, D0⟩ := ints_of_trod (hval 0 22 v0 rfl rfl) h0
  obtain ⟨a1, b1, c1, rfl, wa1, wb1, wc1⟩ := op_of_trod (hval 1 24 v1 rfl rfl) h1
  have hlt := hW'.lt
  clear hA0 hval0
  refine (walk v0 n0 a1 b1 c1 wa1 wb1 wc1 W  D0).mono fun e W' ⟨he, hg⟩ => ?_
  subst he
  exact ⟨_, rfl, post_below (pv := []) hW' (fun _ _ _ => (trodAll_cons_mk (shut_bool Try.underlying4 _) trodAll_mk0)) (fun sp hsp => (trodAll_cons_mk (ints_stay h0 hg (fun x hx => hlt x (by simp [hx])) (fun x hx => hsp x (by simp [hx]))) (trodAll_cons_mk (op_stay h1 hg (fun x hx => hlt x (by simp [hx])) (fun x hx => hsp x (by simp [hx]))) trodAll_mk0))) (fun _ _ => rfl) (by simp) (hg.frame _)⟩

theorem over : Rows.dequeQueueRow.holds Try.pinned (OpenSpec.ofChange Rows.dequeQueueSpec) :=
  OpenClaim.holds_of_wide 5 Try.f5 rfl rfl rfl rfl rfl rfl rfl ⟨rfl, rfl, rfl, rfl, rfl⟩ rfl rfl rfl rfl rfl (by kernel_rfl) Try.func5 (by kernel_rfl)
    (of_decide_eq_true (by kernel_rfl)) (by unfold Func.isWrapper; first | (rw [if_pos (by decide +kernel)]; kernel_rfl) | (rw [if_neg (by decide +kernel)]; exact ⟨rfl, rfl⟩))
    (fun os started H enc _ => lifted os started H enc)

theorem proved : Rows.DequeQueueSaid :=
  over
#print axioms proved
end Go.Proofs.Ytdheglnbdokjcaa.dequeQueue
