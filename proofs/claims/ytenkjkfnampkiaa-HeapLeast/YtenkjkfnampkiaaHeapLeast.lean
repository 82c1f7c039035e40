/- HeapLeast is proved: for every list the call returns true (of a heap, Take and Peek tell one that none is less than, or Empty; a list that is no heap is let be, by the law's own words). -/
import Derived.Test.YtenkjkfnampkiaaRows
import Derived.Test.YtenkjkfnampkiaaArgL
import Derived.Test.YtenkjkfnampkiaaKh
import Derived.Test.YtenkjkfnampkiaaLx
import Derived.ChangeAlike

namespace Go.Proofs.Ytenkjkfnampkiaa.heapLeast
open Go.ChangeShapes Go.WideShapes Go.ChangeAt Go.RowKit
set_option linter.unusedVariables false

theorem own : ownKnob Try.prog.godebug = none := by kernel_rfl

theorem least_pure {xs : List Int} (h : Hp xs) (h0 : 0 < xs.length) : ∃ ys z, hdo xs 2 0 = (ys, 1, z) ∧ hdo xs 5 0 = (xs, 1, z) ∧ ∃ r, xs = z :: r ∧ ∀ y ∈ z :: r, z ≤ y := by
  cases xs with
  | nil => simp at h0
  | cons z r =>
    obtain ⟨ys, e1, _, _⟩ := hdo_takes 0 h
    exact ⟨ys, z, e1, hdo_peeks z r 0, r, rfl, h.head⟩
theorem Min_of {B : Nat} {v : Value} {z : Int} {xs : List Int} {w : World} (e : ∃ r, xs = z :: r ∧ ∀ y ∈ z :: r, z ≤ y) (h : IsL B w v xs) (hx : xs.length ≤ 1000000) :
    Calls Try.prog 21 #[v] w fun e w' => e = .returned (.int .i64 z) ∧ w' = w := by
  obtain ⟨r, rfl, hz⟩ := e
  exact Min_head h hx hz
set_option maxHeartbeats 4000000 in
theorem walk (v : Value) (xs : List Int) (w : World) (D : In w v xs) :
    Calls Try.prog 6 #[v] w fun e w' => e = .returned (.bool true) ∧ Below w.heap.size w w' := by
  obtain ⟨a, c, rfl⟩ := D.1.form
  have h1 : Hid (IsL 0 w (.slice a xs.length c) xs) := D.1
  have h2 : Hid (Gd w w) := Gd.refl w
  clear D
  by_cases hr : xs.length ≤ 6 ∧ Hp xs
  · obtain ⟨s6, hp⟩ := hr
    have HR : Hid (Hp xs) := hp
    clear hp
    by_cases s0 : xs.length = 0
    · obtain rfl : xs = [] := List.eq_nil_of_length_eq_zero s0
      clear s0 s6
      have E1 : Hid (hdo [] 2 0 = ([], 2, 0)) := hdo_none 0
      have E2 : Hid (hdo [] 5 0 = ([], 2, 0)) := (show hdo [] 5 0 = ([], 2, 0) by simp [hdo, qdo])
      go_enter Try.func6, Try.ntmps6
      go_wp2_with fail
      refine (heaped_is _).mono ?_
      rintro e u1 ⟨rfl, hb⟩
      have h3 : Hid (IsL 0 u1 (.slice a 0 c) []) := h1.out.later hb
      have h4 : Hid (Gd w u1) := h2.out.later hb
      clear h1 h2
      clear hb
      go_wp2_with fail
      refine (hRight_yes h3.out (by decide) HR.out).mono ?_
      rintro e u2 ⟨rfl, hb⟩
      have h5 : Hid (IsL 0 u2 (.slice a 0 c) []) := h3.out.later hb
      have h6 : Hid (Gd w u2) := h4.out.later hb
      clear h3 h4
      clear hb
      go_wp2_with fail
      refine (hDo_eq 0 h5.out (by decide) E1.out).mono ?_
      rintro e u3 ⟨q1, rfl, hi, hb⟩
      have h7 : Hid (IsL 0 u3 (.slice a 0 c) []) := h5.out.later hb
      have h8 : Hid (Gd w u3) := h6.out.later hb
      clear h5 h6
      have h9 : Hid (IsL 0 u3 q1 []) := hi.any
      clear hb hi
      have h10 : Hid (IsL 0 (u3.alloc (.cells #[.int .i64 2, .int .i64 0] 27)) (.slice a 0 c) []) := h7.out.new (.cells #[.int .i64 2, .int .i64 0] 27)
      have h11 : Hid (Gd w (u3.alloc (.cells #[.int .i64 2, .int .i64 0] 27))) := h8.out.new (.cells #[.int .i64 2, .int .i64 0] 27)
      have h12 : Hid (IsL 0 (u3.alloc (.cells #[.int .i64 2, .int .i64 0] 27)) q1 []) := h9.out.new (.cells #[.int .i64 2, .int .i64 0] 27)
      clear h7 h8 h9
      have h13 : Hid (Bx (u3.heap.size) 2 0 (u3.alloc (.cells #[.int .i64 2, .int .i64 0] 27))) := Bx.bornAt u3 2 0 27 (by simp)
      go_wp2_with fail
      refine (hDo_eq 0 h10.out (by decide) E2.out).mono ?_
      rintro e u4 ⟨q2, rfl, hi, hb⟩
      have h14 : Hid (IsL 0 u4 (.slice a 0 c) []) := h10.out.later hb
      have h15 : Hid (Gd w u4) := h11.out.later hb
      have h16 : Hid (IsL 0 u4 q1 []) := h12.out.later hb
      have h17 : Hid (Bx (u3.heap.size) 2 0 u4) := h13.out.later hb
      clear h10 h11 h12 h13
      have h18 : Hid (IsL 0 u4 q2 []) := hi.any
      clear hb hi
      have h19 : Hid (IsL 0 (u4.alloc (.cells #[.int .i64 2, .int .i64 0] 27)) (.slice a 0 c) []) := h14.out.new (.cells #[.int .i64 2, .int .i64 0] 27)
      have h20 : Hid (Gd w (u4.alloc (.cells #[.int .i64 2, .int .i64 0] 27))) := h15.out.new (.cells #[.int .i64 2, .int .i64 0] 27)
      have h21 : Hid (IsL 0 (u4.alloc (.cells #[.int .i64 2, .int .i64 0] 27)) q1 []) := h16.out.new (.cells #[.int .i64 2, .int .i64 0] 27)
      have h22 : Hid (Bx (u3.heap.size) 2 0 (u4.alloc (.cells #[.int .i64 2, .int .i64 0] 27))) := h17.out.new (.cells #[.int .i64 2, .int .i64 0] 27)
      have h23 : Hid (IsL 0 (u4.alloc (.cells #[.int .i64 2, .int .i64 0] 27)) q2 []) := h18.out.new (.cells #[.int .i64 2, .int .i64 0] 27)
      clear h14 h15 h16 h17 h18
      have h24 : Hid (Bx (u4.heap.size) 2 0 (u4.alloc (.cells #[.int .i64 2, .int .i64 0] 27))) := Bx.bornAt u4 2 0 27 (by simp)
      have x25 := h22.out.c0
      have x26 := h22.out.c1
      have x27 := h24.out.c0
      have x28 := h24.out.c1
      go_wp2
      go_ret
      exact ⟨rfl, h20.out⟩
    · have s0i : ((xs.length : Int) == 0) = false := by rw [beq_eq_false_iff_ne]; omega
      obtain ⟨ys, z, e1, e2, e3⟩ := least_pure HR.out (by omega)
      have E1 : Hid (hdo xs 2 0 = (ys, 1, z)) := e1
      have E2 : Hid (hdo xs 5 0 = (xs, 1, z)) := e2
      have E3 : Hid (∃ r, xs = z :: r ∧ ∀ y ∈ z :: r, z ≤ y) := e3
      clear e1 e2 e3
      go_enter Try.func6, Try.ntmps6
      go_wp2_with fail
      refine (heaped_is _).mono ?_
      rintro e u1 ⟨rfl, hb⟩
      have h3 : Hid (IsL 0 u1 (.slice a xs.length c) xs) := h1.out.later hb
      have h4 : Hid (Gd w u1) := h2.out.later hb
      clear h1 h2
      clear hb
      go_wp2_with fail
      refine (hRight_yes h3.out s6 HR.out).mono ?_
      rintro e u2 ⟨rfl, hb⟩
      have h5 : Hid (IsL 0 u2 (.slice a xs.length c) xs) := h3.out.later hb
      have h6 : Hid (Gd w u2) := h4.out.later hb
      clear h3 h4
      clear hb
      go_wp2_with fail
      refine (hDo_eq 0 h5.out (by omega) E1.out).mono ?_
      rintro e u3 ⟨q1, rfl, hi, hb⟩
      have h7 : Hid (IsL 0 u3 (.slice a xs.length c) xs) := h5.out.later hb
      have h8 : Hid (Gd w u3) := h6.out.later hb
      clear h5 h6
      have h9 : Hid (IsL 0 u3 q1 ys) := hi.any
      clear hb hi
      have h10 : Hid (IsL 0 (u3.alloc (.cells #[.int .i64 1, .int .i64 z] 27)) (.slice a xs.length c) xs) := h7.out.new (.cells #[.int .i64 1, .int .i64 z] 27)
      have h11 : Hid (Gd w (u3.alloc (.cells #[.int .i64 1, .int .i64 z] 27))) := h8.out.new (.cells #[.int .i64 1, .int .i64 z] 27)
      have h12 : Hid (IsL 0 (u3.alloc (.cells #[.int .i64 1, .int .i64 z] 27)) q1 ys) := h9.out.new (.cells #[.int .i64 1, .int .i64 z] 27)
      clear h7 h8 h9
      have h13 : Hid (Bx (u3.heap.size) 1 z (u3.alloc (.cells #[.int .i64 1, .int .i64 z] 27))) := Bx.bornAt u3 1 z 27 (by simp)
      go_wp2_with fail
      refine (hDo_eq 0 h10.out (by omega) E2.out).mono ?_
      rintro e u4 ⟨q2, rfl, hi, hb⟩
      have h14 : Hid (IsL 0 u4 (.slice a xs.length c) xs) := h10.out.later hb
      have h15 : Hid (Gd w u4) := h11.out.later hb
      have h16 : Hid (IsL 0 u4 q1 ys) := h12.out.later hb
      have h17 : Hid (Bx (u3.heap.size) 1 z u4) := h13.out.later hb
      clear h10 h11 h12 h13
      have h18 : Hid (IsL 0 u4 q2 xs) := hi.any
      clear hb hi
      have h19 : Hid (IsL 0 (u4.alloc (.cells #[.int .i64 1, .int .i64 z] 27)) (.slice a xs.length c) xs) := h14.out.new (.cells #[.int .i64 1, .int .i64 z] 27)
      have h20 : Hid (Gd w (u4.alloc (.cells #[.int .i64 1, .int .i64 z] 27))) := h15.out.new (.cells #[.int .i64 1, .int .i64 z] 27)
      have h21 : Hid (IsL 0 (u4.alloc (.cells #[.int .i64 1, .int .i64 z] 27)) q1 ys) := h16.out.new (.cells #[.int .i64 1, .int .i64 z] 27)
      have h22 : Hid (Bx (u3.heap.size) 1 z (u4.alloc (.cells #[.int .i64 1, .int .i64 z] 27))) := h17.out.new (.cells #[.int .i64 1, .int .i64 z] 27)
      have h23 : Hid (IsL 0 (u4.alloc (.cells #[.int .i64 1, .int .i64 z] 27)) q2 xs) := h18.out.new (.cells #[.int .i64 1, .int .i64 z] 27)
      clear h14 h15 h16 h17 h18
      have h24 : Hid (Bx (u4.heap.size) 1 z (u4.alloc (.cells #[.int .i64 1, .int .i64 z] 27))) := Bx.bornAt u4 1 z 27 (by simp)
      clear h21
      go_wp2_with fail
      generalize (u4.alloc (.cells #[.int .i64 1, .int .i64 z] 27)) = W at h19 h20 h22 h24 h23 ⊢
      have M : Hid (∀ n, Calls Try.prog 21 #[.slice a xs.length c] (W.drewN n) fun e w' => e = .returned (.int .i64 z) ∧ w' = W.drewN n) := fun n => Min_of E3.out (h19.out.later (below_drewN _ _)) (by omega)
      have Q : Hid (∀ n, Calls Try.prog 20 #[q2, .slice a xs.length c] (W.drewN n) fun e w' => e = .returned (.bool true) ∧ ∃ m, w' = (W.drewN n).drewN m) := fun n => Equal_quiet (h23.out.later (below_drewN _ _)) (h19.out.later (below_drewN _ _)) (by omega)
      have x25 := h22.out.c0
      have x26 := h22.out.c1
      have x27 := h24.out.c0
      have x28 := h24.out.c1
      go_quiet ((first | (go_at_call 21; exact Calls.quiet_of_same (M.out _)) | (go_at_call 20; exact Calls.quiet_of (Q.out _))))
      go_wp2
      go_ret
      exact ⟨rfl, h20.out.later (below_drewN _ _)⟩
  · have HR : Hid (¬ (xs.length ≤ 6 ∧ Hp xs)) := hr
    clear hr
    go_enter Try.func6, Try.ntmps6
    go_wp2_with fail
    refine (heaped_is _).mono ?_
    rintro e u1 ⟨rfl, hb⟩
    have h3 : Hid (IsL 0 u1 (.slice a xs.length c) xs) := h1.out.later hb
    have h4 : Hid (Gd w u1) := h2.out.later hb
    clear h1 h2
    clear hb
    go_wp2_with fail
    refine (hRight_isnt h3.out HR.out).mono ?_
    rintro e u2 ⟨rfl, hb⟩
    have h5 : Hid (IsL 0 u2 (.slice a xs.length c) xs) := h3.out.later hb
    have h6 : Hid (Gd w u2) := h4.out.later hb
    clear h3 h4
    clear hb
    go_wp2
    go_ret
    exact ⟨rfl, h6.out⟩


set_option maxRecDepth 100000 in
theorem lifted (os : Os) (started : os.Started) (H : Type) (enc : TypeId × Value → H) :
    ReturnsInHanded {} Try.checked os 6 .any (Rows.heapLeastSpec.pre6 enc Try.prog Try.f6 Rows.heapLeastRow.domain false) (Rows.heapLeastSpec.post enc Try.prog Try.f6 false true false false) := by
  refine returnsInHanded_of_change (C := Try.checked) own started (by kernel_rfl) Try.func6
    (ChangeSpec.witness6 (enc := enc) (C := Try.checked) false ⟨#[], #[.slice none 0 0], []⟩ 8 (by kernel_rfl) (by kernel_rfl) (by kernel_rfl) (by kernel_rfl)) ?_
  intro W base args ds gs before hval0 hW hcnd _
  have hval : ∀ (j : Nat) t v, Try.f6.params[j]? = some t → args[j]? = some v → Value.okWide Try.prog W .any base t v := hval0
  have hW' := hW
  obtain ⟨p, q, hA0, hV, rfl, hfz, hnd⟩ := hW
  have hA : DataW.TrodAll enc Try.prog W 0 (fun _ => true) true Try.f6.params.toList args.toList ds p := hA0
  rw [Try.params6] at hA hval
  obtain ⟨v0, vs0, d0, ds0, p0, q0, hargs, rfl, rfl, h0, r0⟩ := trodAll_cons hA
  obtain ⟨rfl, rfl, rfl⟩ := trodAll_nil r0
  obtain rfl : args = #[v0] := by cases args; simp_all
  obtain ⟨rfl, rfl⟩ := trodVars_none hV
  obtain ⟨n0, D0⟩ := ints_of_trod (hval 0 22 v0 rfl rfl) h0
  have hlt := hW'.lt
  clear hA0 hval0
  refine (walk v0 n0  W  D0).mono fun e W' ⟨he, hg⟩ => ?_
  subst he
  exact ⟨_, rfl, post_below (pv := []) hW' (fun _ _ _ => (trodAll_cons_mk (shut_bool Try.underlying4 _) trodAll_mk0)) (fun sp hsp => (trodAll_cons_mk (ints_stay h0 hg (fun x hx => hlt x (by simp [hx])) (fun x hx => hsp x (by simp [hx]))) trodAll_mk0)) (fun _ _ => rfl) (by simp) (hg.frame _)⟩

theorem over : Rows.heapLeastRow.holds Try.pinned (OpenSpec.ofChange Rows.heapLeastSpec) :=
  OpenClaim.holds_of_wide 6 Try.f6 rfl rfl rfl rfl rfl rfl rfl ⟨rfl, rfl, rfl, rfl, rfl⟩ rfl rfl rfl rfl rfl (by kernel_rfl) Try.func6 (by kernel_rfl)
    (of_decide_eq_true (by kernel_rfl)) (by unfold Func.isWrapper; first | (rw [if_pos (by decide +kernel)]; kernel_rfl) | (rw [if_neg (by decide +kernel)]; exact ⟨rfl, rfl⟩))
    (fun os started H enc _ => lifted os started H enc)

theorem proved : Rows.HeapLeastSaid :=
  over
#print axioms proved
end Go.Proofs.Ytenkjkfnampkiaa.heapLeast
