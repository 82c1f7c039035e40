/- DequeDoes is proved: for every list and operation the call returns true (package deque's Do answers as the reference's; a list of more than sixty is let be, by the law's own words). -/
import Derived.Test.YtdheglnbdokjcaaRows
import Derived.Test.YtdheglnbdokjcaaArgL
import Derived.Test.YtdheglnbdokjcaaRd
import Derived.ChangeAlike

namespace Go.Proofs.Ytdheglnbdokjcaa.dequeDoes
open Go.ChangeShapes Go.WideShapes Go.ChangeAt Go.RowKit
set_option linter.unusedVariables false

theorem own : ownKnob Try.prog.godebug = none := by kernel_rfl

set_option maxHeartbeats 4000000 in
theorem walk (v : Value) (xs : List Int) (o k x : Int) (_w0 : (Lit.int .i64 o).wf = true) (_w1 : (Lit.int .i64 k).wf = true) (_w2 : (Lit.int .i64 x).wf = true) (w : World) (D : In w v xs) :
    Calls Try.prog 3 #[v, .agg #[.int .i64 o, .int .i64 k, .int .i64 x]] w fun e w' => e = .returned (.bool true) ∧ Below w.heap.size w w' := by
  obtain ⟨a, c, rfl⟩ := D.1.form
  by_cases h60 : 60 < xs.length
  · have h60i : (60 : Int) < (xs.length : Int) := by omega
    go_enter Try.func3, Try.ntmps3
    go_wp2
    go_ret
    exact ⟨rfl, new_below _ _⟩
  · have h60i : ¬ (60 : Int) < (xs.length : Int) := by omega
    have hx : Hid (xs.length ≤ 60) := (by omega : xs.length ≤ 60)
    clear h60
    obtain ⟨⟨ys, cc, yy⟩, hq⟩ : ∃ p, ddo xs o x = p := ⟨_, rfl⟩
    have HQ : Hid (ddo xs o x = (ys, cc, yy)) := hq
    clear hq
    have HL : Hid (ys.length ≤ 1000000) := Nat.le_trans (ddo_len HQ.out) (by have := hx.out; omega)
    have h1 : Hid (IsL 0 w (.slice a xs.length c) xs) := D.1
    clear D
    have h2 : Hid (Gd w w) := Gd.refl w
    have h3 : Hid (IsL 0 (w.alloc (.cells #[.int .i64 o, .int .i64 k, .int .i64 x] 24)) (.slice a xs.length c) xs) := h1.out.new (.cells #[.int .i64 o, .int .i64 k, .int .i64 x] 24)
    have h4 : Hid (Gd w (w.alloc (.cells #[.int .i64 o, .int .i64 k, .int .i64 x] 24))) := h2.out.new (.cells #[.int .i64 o, .int .i64 k, .int .i64 x] 24)
    clear h1 h2
    have h5 : Hid (Bo w.heap.size o k x (w.alloc (.cells #[.int .i64 o, .int .i64 k, .int .i64 x] 24))) := Bo.born w o k x 24
    go_enter Try.func3, Try.ntmps3
    go_wp2_with fail
    refine (RDeque_eq k h3.out hx.out HQ.out).mono ?_
    rintro e u1 ⟨v1, rfl, hi, hb⟩
    have h6 : Hid (IsL 0 u1 (.slice a xs.length c) xs) := h3.out.later hb
    have h7 : Hid (Gd w u1) := h4.out.later hb
    have h8 : Hid (Bo w.heap.size o k x u1) := h5.out.later hb
    clear h3 h4 h5
    have h9 : Hid (IsL 0 u1 v1 ys) := hi
    clear hb hi
    have x10 := h8.out.c0
    have x11 := h8.out.c1
    have x12 := h8.out.c2
    have x13 := h8.out.lt
    have h14 : Hid (IsL 0 (u1.alloc (.cells #[.int .i64 cc, .int .i64 yy] 26)) (.slice a xs.length c) xs) := h6.out.new (.cells #[.int .i64 cc, .int .i64 yy] 26)
    have h15 : Hid (Gd w (u1.alloc (.cells #[.int .i64 cc, .int .i64 yy] 26))) := h7.out.new (.cells #[.int .i64 cc, .int .i64 yy] 26)
    have h16 : Hid (Bo w.heap.size o k x (u1.alloc (.cells #[.int .i64 cc, .int .i64 yy] 26))) := h8.out.new (.cells #[.int .i64 cc, .int .i64 yy] 26)
    have h17 : Hid (IsL 0 (u1.alloc (.cells #[.int .i64 cc, .int .i64 yy] 26)) v1 ys) := h9.out.new (.cells #[.int .i64 cc, .int .i64 yy] 26)
    clear h6 h7 h8 h9
    have h18 : Hid (Bx (u1.heap.size) cc yy (u1.alloc (.cells #[.int .i64 cc, .int .i64 yy] 26))) := Bx.bornAt u1 cc yy 26 (by simp)
    go_wp2_with fail
    refine (dDo_eq k h14.out (Nat.le_trans hx.out (by decide)) HQ.out).mono ?_
    rintro e u2 ⟨v2, rfl, hi, hb⟩
    have h19 : Hid (IsL 0 u2 (.slice a xs.length c) xs) := h14.out.later hb
    have h20 : Hid (Gd w u2) := h15.out.later hb
    have h21 : Hid (Bo w.heap.size o k x u2) := h16.out.later hb
    have h22 : Hid (IsL 0 u2 v1 ys) := h17.out.later hb
    have h23 : Hid (Bx (u1.heap.size) cc yy u2) := h18.out.later hb
    clear h14 h15 h16 h17 h18
    have h24 : Hid (IsL 0 u2 v2 ys) := hi.any
    clear hb hi
    have h25 : Hid (IsL 0 (u2.alloc (.cells #[.int .i64 cc, .int .i64 yy] 26)) (.slice a xs.length c) xs) := h19.out.new (.cells #[.int .i64 cc, .int .i64 yy] 26)
    have h26 : Hid (Gd w (u2.alloc (.cells #[.int .i64 cc, .int .i64 yy] 26))) := h20.out.new (.cells #[.int .i64 cc, .int .i64 yy] 26)
    have h27 : Hid (Bo w.heap.size o k x (u2.alloc (.cells #[.int .i64 cc, .int .i64 yy] 26))) := h21.out.new (.cells #[.int .i64 cc, .int .i64 yy] 26)
    have h28 : Hid (IsL 0 (u2.alloc (.cells #[.int .i64 cc, .int .i64 yy] 26)) v1 ys) := h22.out.new (.cells #[.int .i64 cc, .int .i64 yy] 26)
    have h29 : Hid (Bx (u1.heap.size) cc yy (u2.alloc (.cells #[.int .i64 cc, .int .i64 yy] 26))) := h23.out.new (.cells #[.int .i64 cc, .int .i64 yy] 26)
    have h30 : Hid (IsL 0 (u2.alloc (.cells #[.int .i64 cc, .int .i64 yy] 26)) v2 ys) := h24.out.new (.cells #[.int .i64 cc, .int .i64 yy] 26)
    clear h19 h20 h21 h22 h23 h24
    have h31 : Hid (Bx (u2.heap.size) cc yy (u2.alloc (.cells #[.int .i64 cc, .int .i64 yy] 26))) := Bx.bornAt u2 cc yy 26 (by simp)
    have x32 := h29.out.c0
    have x33 := h29.out.c1
    have x34 := h31.out.c0
    have x35 := h31.out.c1
    go_wp2_with fail
    refine (same_is h28.out h30.out HL.out).mono ?_
    rintro e u3 ⟨rfl, hb⟩
    have h36 : Hid (IsL 0 u3 (.slice a xs.length c) xs) := h25.out.later hb
    have h37 : Hid (Gd w u3) := h26.out.later hb
    have h38 : Hid (Bo w.heap.size o k x u3) := h27.out.later hb
    have h39 : Hid (IsL 0 u3 v1 ys) := h28.out.later hb
    have h40 : Hid (Bx (u1.heap.size) cc yy u3) := h29.out.later hb
    have h41 : Hid (IsL 0 u3 v2 ys) := h30.out.later hb
    have h42 : Hid (Bx (u2.heap.size) cc yy u3) := h31.out.later hb
    clear h25 h26 h27 h28 h29 h30 h31
    clear hb
    have x43 := h40.out.c0
    have x44 := h40.out.c1
    have x45 := h42.out.c0
    have x46 := h42.out.c1
    go_wp2
    go_ret
    exact ⟨rfl, h37.out⟩


set_option maxRecDepth 100000 in
theorem lifted (os : Os) (started : os.Started) (H : Type) (enc : TypeId × Value → H) :
    ReturnsInHanded {} Try.checked os 3 .any (Rows.dequeDoesSpec.pre6 enc Try.prog Try.f3 Rows.dequeDoesRow.domain false) (Rows.dequeDoesSpec.post enc Try.prog Try.f3 false true false false) := by
  refine returnsInHanded_of_change (C := Try.checked) own started (by kernel_rfl) Try.func3
    (ChangeSpec.witness6 (enc := enc) (C := Try.checked) false ⟨#[], #[.slice none 0 0, .agg #[.int .i64 0, .int .i64 0, .int .i64 0]], []⟩ 8 (by kernel_rfl) (by kernel_rfl) (by kernel_rfl) (by kernel_rfl)) ?_
  intro W base args ds gs before hval0 hW hcnd _
  have hval : ∀ (j : Nat) t v, Try.f3.params[j]? = some t → args[j]? = some v → Value.okWide Try.prog W .any base t v := hval0
  have hW' := hW
  obtain ⟨p, q, hA0, hV, rfl, hfz, hnd⟩ := hW
  have hA : DataW.TrodAll enc Try.prog W 0 (fun _ => true) true Try.f3.params.toList args.toList ds p := hA0
  rw [Try.params3] at hA hval
  obtain ⟨v0, vs0, d0, ds0, p0, q0, hargs, rfl, rfl, h0, r0⟩ := trodAll_cons hA
  obtain ⟨v1, vs1, d1, ds1, p1, q1, rfl, rfl, rfl, h1, r1⟩ := trodAll_cons r0
  obtain ⟨rfl, rfl, rfl⟩ := trodAll_nil r1
  obtain rfl : args = #[v0, v1] := by cases args; simp_all
  obtain ⟨rfl, rfl⟩ := trodVars_none hV
  obtain ⟨n0, D0⟩ := ints_of_trod (hval 0 22 v0 rfl rfl) h0
  obtain ⟨a1, b1, c1, rfl, wa1, wb1, wc1⟩ := op_of_trod (hval 1 24 v1 rfl rfl) h1
  have hlt := hW'.lt
  clear hA0 hval0
  refine (walk v0 n0 a1 b1 c1 wa1 wb1 wc1 W  D0).mono fun e W' ⟨he, hg⟩ => ?_
  subst he
  exact ⟨_, rfl, post_below (pv := []) hW' (fun _ _ _ => (trodAll_cons_mk (shut_bool Try.underlying4 _) trodAll_mk0)) (fun sp hsp => (trodAll_cons_mk (ints_stay h0 hg (fun x hx => hlt x (by simp [hx])) (fun x hx => hsp x (by simp [hx]))) (trodAll_cons_mk (op_stay h1 hg (fun x hx => hlt x (by simp [hx])) (fun x hx => hsp x (by simp [hx]))) trodAll_mk0))) (fun _ _ => rfl) (by simp) (hg.frame _)⟩

theorem over : Rows.dequeDoesRow.holds Try.pinned (OpenSpec.ofChange Rows.dequeDoesSpec) :=
  OpenClaim.holds_of_wide 3 Try.f3 rfl rfl rfl rfl rfl rfl rfl ⟨rfl, rfl, rfl, rfl, rfl⟩ rfl rfl rfl rfl rfl (by kernel_rfl) Try.func3 (by kernel_rfl)
    (of_decide_eq_true (by kernel_rfl)) (by unfold Func.isWrapper; first | (rw [if_pos (by decide +kernel)]; kernel_rfl) | (rw [if_neg (by decide +kernel)]; exact ⟨rfl, rfl⟩))
    (fun os started H enc _ => lifted os started H enc)

theorem proved : Rows.DequeDoesSaid :=
  over
#print axioms proved
end Go.Proofs.Ytdheglnbdokjcaa.dequeDoes
