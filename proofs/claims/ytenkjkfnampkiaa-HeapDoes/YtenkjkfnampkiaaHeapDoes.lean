/- HeapDoes is proved: for every list and operation the call returns true (package heap's Do answers as the reference's, of a heap; a list that is none is let be, by the law's own words). -/
import Derived.Test.YtenkjkfnampkiaaRows
import Derived.Test.YtenkjkfnampkiaaArgL
import Derived.Test.YtenkjkfnampkiaaRz
import Derived.Test.YtenkjkfnampkiaaBo
import Derived.ChangeAlike

namespace Go.Proofs.Ytenkjkfnampkiaa.heapDoes
open Go.ChangeShapes Go.WideShapes Go.ChangeAt Go.RowKit
set_option linter.unusedVariables false

theorem own : ownKnob Try.prog.godebug = none := by kernel_rfl

set_option maxHeartbeats 4000000 in
theorem walk (v : Value) (xs : List Int) (o k x : Int) (_w0 : (Lit.int .i64 o).wf = true) (_w1 : (Lit.int .i64 k).wf = true) (_w2 : (Lit.int .i64 x).wf = true) (w : World) (D : In w v xs) :
    Calls Try.prog 4 #[v, .agg #[.int .i64 o, .int .i64 k, .int .i64 x]] w fun e w' => e = .returned (.bool true) ∧ Below w.heap.size w w' := by
  obtain ⟨a, c, rfl⟩ := D.1.form
  have h1 : Hid (IsL 0 w (.slice a xs.length c) xs) := D.1
  have h2 : Hid (Gd w w) := Gd.refl w
  clear D
  have h3 : Hid (IsL 0 (w.alloc (.cells #[.int .i64 o, .int .i64 k, .int .i64 x] 25)) (.slice a xs.length c) xs) := h1.out.new (.cells #[.int .i64 o, .int .i64 k, .int .i64 x] 25)
  have h4 : Hid (Gd w (w.alloc (.cells #[.int .i64 o, .int .i64 k, .int .i64 x] 25))) := h2.out.new (.cells #[.int .i64 o, .int .i64 k, .int .i64 x] 25)
  clear h1 h2
  have h5 : Hid (Bo w.heap.size o k x (w.alloc (.cells #[.int .i64 o, .int .i64 k, .int .i64 x] 25))) := Bo.born w o k x 25
  by_cases s60 : 60 < xs.length
  · have s60i : (60 : Int) < (xs.length : Int) := by omega
    go_enter Try.func4, Try.ntmps4
    have x6 := h5.out.c0
    have x7 := h5.out.c1
    have x8 := h5.out.c2
    have x9 := h5.out.lt
    go_wp2
    go_ret
    exact ⟨rfl, h4.out⟩
  · have s60i : ¬ (60 : Int) < (xs.length : Int) := by omega
    by_cases hr : xs.length ≤ 6 ∧ Hp xs
    · obtain ⟨s6, hp⟩ := hr
      have HR : Hid (Hp xs) := hp
      clear hp
      obtain ⟨⟨ys, cc, yy⟩, hq⟩ : ∃ p, hdo xs o x = p := ⟨_, rfl⟩
      have HQ : Hid (hdo xs o x = (ys, cc, yy)) := hq
      clear hq
      have HL : Hid (ys.length ≤ 1000000) := Nat.le_trans (hdo_len HQ.out) (by omega)
      go_enter Try.func4, Try.ntmps4
      have x6 := h5.out.c0
      have x7 := h5.out.c1
      have x8 := h5.out.c2
      have x9 := h5.out.lt
      go_wp2_with fail
      refine (RRight_yes h3.out s6 HR.out).mono ?_
      rintro e u1 ⟨rfl, hb⟩
      have h10 : Hid (IsL 0 u1 (.slice a xs.length c) xs) := h3.out.later hb
      have h11 : Hid (Gd w u1) := h4.out.later hb
      have h12 : Hid (Bo w.heap.size o k x u1) := h5.out.later hb
      clear h3 h4 h5
      clear hb
      have x13 := h12.out.c0
      have x14 := h12.out.c1
      have x15 := h12.out.c2
      have x16 := h12.out.lt
      go_wp2_with fail
      refine (RHeap_eq k h10.out s6 HQ.out).mono ?_
      rintro e u2 ⟨v1, rfl, hi, hb⟩
      have h17 : Hid (IsL 0 u2 (.slice a xs.length c) xs) := h10.out.later hb
      have h18 : Hid (Gd w u2) := h11.out.later hb
      have h19 : Hid (Bo w.heap.size o k x u2) := h12.out.later hb
      clear h10 h11 h12
      have h20 : Hid (IsL 0 u2 v1 ys) := hi
      clear hb hi
      have x21 := h19.out.c0
      have x22 := h19.out.c1
      have x23 := h19.out.c2
      have x24 := h19.out.lt
      have h25 : Hid (IsL 0 (u2.alloc (.cells #[.int .i64 cc, .int .i64 yy] 27)) (.slice a xs.length c) xs) := h17.out.new (.cells #[.int .i64 cc, .int .i64 yy] 27)
      have h26 : Hid (Gd w (u2.alloc (.cells #[.int .i64 cc, .int .i64 yy] 27))) := h18.out.new (.cells #[.int .i64 cc, .int .i64 yy] 27)
      have h27 : Hid (Bo w.heap.size o k x (u2.alloc (.cells #[.int .i64 cc, .int .i64 yy] 27))) := h19.out.new (.cells #[.int .i64 cc, .int .i64 yy] 27)
      have h28 : Hid (IsL 0 (u2.alloc (.cells #[.int .i64 cc, .int .i64 yy] 27)) v1 ys) := h20.out.new (.cells #[.int .i64 cc, .int .i64 yy] 27)
      clear h17 h18 h19 h20
      have h29 : Hid (Bx (u2.heap.size) cc yy (u2.alloc (.cells #[.int .i64 cc, .int .i64 yy] 27))) := Bx.bornAt u2 cc yy 27 (by simp)
      go_wp2_with fail
      refine (hDo_eq k h25.out (by omega) HQ.out).mono ?_
      rintro e u3 ⟨v2, rfl, hi, hb⟩
      have h30 : Hid (IsL 0 u3 (.slice a xs.length c) xs) := h25.out.later hb
      have h31 : Hid (Gd w u3) := h26.out.later hb
      have h32 : Hid (Bo w.heap.size o k x u3) := h27.out.later hb
      have h33 : Hid (IsL 0 u3 v1 ys) := h28.out.later hb
      have h34 : Hid (Bx (u2.heap.size) cc yy u3) := h29.out.later hb
      clear h25 h26 h27 h28 h29
      have h35 : Hid (IsL 0 u3 v2 ys) := hi.any
      clear hb hi
      have h36 : Hid (IsL 0 (u3.alloc (.cells #[.int .i64 cc, .int .i64 yy] 27)) (.slice a xs.length c) xs) := h30.out.new (.cells #[.int .i64 cc, .int .i64 yy] 27)
      have h37 : Hid (Gd w (u3.alloc (.cells #[.int .i64 cc, .int .i64 yy] 27))) := h31.out.new (.cells #[.int .i64 cc, .int .i64 yy] 27)
      have h38 : Hid (Bo w.heap.size o k x (u3.alloc (.cells #[.int .i64 cc, .int .i64 yy] 27))) := h32.out.new (.cells #[.int .i64 cc, .int .i64 yy] 27)
      have h39 : Hid (IsL 0 (u3.alloc (.cells #[.int .i64 cc, .int .i64 yy] 27)) v1 ys) := h33.out.new (.cells #[.int .i64 cc, .int .i64 yy] 27)
      have h40 : Hid (Bx (u2.heap.size) cc yy (u3.alloc (.cells #[.int .i64 cc, .int .i64 yy] 27))) := h34.out.new (.cells #[.int .i64 cc, .int .i64 yy] 27)
      have h41 : Hid (IsL 0 (u3.alloc (.cells #[.int .i64 cc, .int .i64 yy] 27)) v2 ys) := h35.out.new (.cells #[.int .i64 cc, .int .i64 yy] 27)
      clear h30 h31 h32 h33 h34 h35
      have h42 : Hid (Bx (u3.heap.size) cc yy (u3.alloc (.cells #[.int .i64 cc, .int .i64 yy] 27))) := Bx.bornAt u3 cc yy 27 (by simp)
      have x43 := h40.out.c0
      have x44 := h40.out.c1
      have x45 := h42.out.c0
      have x46 := h42.out.c1
      go_wp2_with fail
      refine (same_is h39.out h41.out HL.out).mono ?_
      rintro e u4 ⟨rfl, hb⟩
      have h47 : Hid (IsL 0 u4 (.slice a xs.length c) xs) := h36.out.later hb
      have h48 : Hid (Gd w u4) := h37.out.later hb
      have h49 : Hid (Bo w.heap.size o k x u4) := h38.out.later hb
      have h50 : Hid (IsL 0 u4 v1 ys) := h39.out.later hb
      have h51 : Hid (Bx (u2.heap.size) cc yy u4) := h40.out.later hb
      have h52 : Hid (IsL 0 u4 v2 ys) := h41.out.later hb
      have h53 : Hid (Bx (u3.heap.size) cc yy u4) := h42.out.later hb
      clear h36 h37 h38 h39 h40 h41 h42
      clear hb
      have x54 := h51.out.c0
      have x55 := h51.out.c1
      have x56 := h53.out.c0
      have x57 := h53.out.c1
      go_wp2
      go_ret
      exact ⟨rfl, h48.out⟩
    · have HR : Hid (¬ (xs.length ≤ 6 ∧ Hp xs)) := hr
      clear hr
      go_enter Try.func4, Try.ntmps4
      have x6 := h5.out.c0
      have x7 := h5.out.c1
      have x8 := h5.out.c2
      have x9 := h5.out.lt
      go_wp2_with fail
      refine (RRight_isnt h3.out (by omega) HR.out).mono ?_
      rintro e u1 ⟨rfl, hb⟩
      have h10 : Hid (IsL 0 u1 (.slice a xs.length c) xs) := h3.out.later hb
      have h11 : Hid (Gd w u1) := h4.out.later hb
      have h12 : Hid (Bo w.heap.size o k x u1) := h5.out.later hb
      clear h3 h4 h5
      clear hb
      have x13 := h12.out.c0
      have x14 := h12.out.c1
      have x15 := h12.out.c2
      have x16 := h12.out.lt
      go_wp2
      go_ret
      exact ⟨rfl, h11.out⟩


set_option maxRecDepth 100000 in
theorem lifted (os : Os) (started : os.Started) (H : Type) (enc : TypeId × Value → H) :
    ReturnsInHanded {} Try.checked os 4 .any (Rows.heapDoesSpec.pre6 enc Try.prog Try.f4 Rows.heapDoesRow.domain false) (Rows.heapDoesSpec.post enc Try.prog Try.f4 false true false false) := by
  refine returnsInHanded_of_change (C := Try.checked) own started (by kernel_rfl) Try.func4
    (ChangeSpec.witness6 (enc := enc) (C := Try.checked) false ⟨#[], #[.slice none 0 0, .agg #[.int .i64 0, .int .i64 0, .int .i64 0]], []⟩ 8 (by kernel_rfl) (by kernel_rfl) (by kernel_rfl) (by kernel_rfl)) ?_
  intro W base args ds gs before hval0 hW hcnd _
  have hval : ∀ (j : Nat) t v, Try.f4.params[j]? = some t → args[j]? = some v → Value.okWide Try.prog W .any base t v := hval0
  have hW' := hW
  obtain ⟨p, q, hA0, hV, rfl, hfz, hnd⟩ := hW
  have hA : DataW.TrodAll enc Try.prog W 0 (fun _ => true) true Try.f4.params.toList args.toList ds p := hA0
  rw [Try.params4] at hA hval
  obtain ⟨v0, vs0, d0, ds0, p0, q0, hargs, rfl, rfl, h0, r0⟩ := trodAll_cons hA
  obtain ⟨v1, vs1, d1, ds1, p1, q1, rfl, rfl, rfl, h1, r1⟩ := trodAll_cons r0
  obtain ⟨rfl, rfl, rfl⟩ := trodAll_nil r1
  obtain rfl : args = #[v0, v1] := by cases args; simp_all
  obtain ⟨rfl, rfl⟩ := trodVars_none hV
  obtain ⟨n0, D0⟩ := ints_of_trod (hval 0 22 v0 rfl rfl) h0
  obtain ⟨a1, b1, c1, rfl, wa1, wb1, wc1⟩ := op_of_trod (hval 1 25 v1 rfl rfl) h1
  have hlt := hW'.lt
  clear hA0 hval0
  refine (walk v0 n0 a1 b1 c1 wa1 wb1 wc1 W  D0).mono fun e W' ⟨he, hg⟩ => ?_
  subst he
  exact ⟨_, rfl, post_below (pv := []) hW' (fun _ _ _ => (trodAll_cons_mk (shut_bool Try.underlying4 _) trodAll_mk0)) (fun sp hsp => (trodAll_cons_mk (ints_stay h0 hg (fun x hx => hlt x (by simp [hx])) (fun x hx => hsp x (by simp [hx]))) (trodAll_cons_mk (op_stay h1 hg (fun x hx => hlt x (by simp [hx])) (fun x hx => hsp x (by simp [hx]))) trodAll_mk0))) (fun _ _ => rfl) (by simp) (hg.frame _)⟩

theorem over : Rows.heapDoesRow.holds Try.pinned (OpenSpec.ofChange Rows.heapDoesSpec) :=
  OpenClaim.holds_of_wide 4 Try.f4 rfl rfl rfl rfl rfl rfl rfl ⟨rfl, rfl, rfl, rfl, rfl⟩ rfl rfl rfl rfl rfl (by kernel_rfl) Try.func4 (by kernel_rfl)
    (of_decide_eq_true (by kernel_rfl)) (by unfold Func.isWrapper; first | (rw [if_pos (by decide +kernel)]; kernel_rfl) | (rw [if_neg (by decide +kernel)]; exact ⟨rfl, rfl⟩))
    (fun os started H enc _ => lifted os started H enc)

theorem proved : Rows.HeapDoesSaid :=
  over
#print axioms proved
end Go.Proofs.Ytenkjkfnampkiaa.heapDoes
