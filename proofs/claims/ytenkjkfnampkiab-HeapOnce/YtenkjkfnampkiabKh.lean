/- The keepers' fact of a heap. -/
import Derived.Test.YtenkjkfnampkiabHo
import Derived.Test.YtenkjkfnampkiabBo
namespace Go.Proofs.Ytenkjkfnampkiab
open Go.RowKit

theorem hp_12 : Hp [1, 1] := by
  intro i h0 hi
  have : i = 1 := by simp at hi; omega
  subst this
  decide
theorem hp_21 : ¬ Hp [2, 1] := fun h => absurd (h 1 (by decide) (by decide)) (by decide)

set_option maxHeartbeats 2000000 in
theorem heaped_big (w : World) :
    Calls Try.prog 4 #[] w fun e w' => e = .returned (.bool true) ∧ Below w.heap.size w w' ∧ 0 < w'.heap.size := by
  have h1 : Hid (Gd w w) := Gd.refl w
  go_enter Try.func4, Try.ntmps4
  have h2 : Hid (Gd w (w.alloc (.cells #[.int .i64 2, .int .i64 5, .int .i64 3] 3))) := h1.out.new (.cells #[.int .i64 2, .int .i64 5, .int .i64 3] 3)
  clear h1
  have h3 : Hid (IsL 0 (w.alloc (.cells #[.int .i64 2, .int .i64 5, .int .i64 3] 3)) (.slice (some ⟨w.heap.size, 0, none⟩) 3 3) [2, 5, 3]) := IsL.litAt w [2, 5, 3] (by decide) (by simp)
  go_wp2_with fail
  refine (put_is _ _).mono ?_
  rintro e u1 ⟨rfl, hb⟩
  have h4 : Hid (Gd w u1) := h2.out.later hb
  have h5 : Hid (IsL 0 u1 (.slice (some ⟨w.heap.size, 0, none⟩) 3 3) [2, 5, 3]) := h3.out.later hb
  clear h2 h3
  clear hb
  go_wp2_with fail
  refine (hDo_eq (xs := [2, 5, 3]) (ys := [1, 2, 3, 5]) (o := 1) (x := 1) (c := 1) (y := 0) 0 h5.out (by decide) (by decide)).mono ?_
  rintro e u2 ⟨q1, rfl, hi, hb⟩
  have h6 : Hid (Gd w u2) := h4.out.later hb
  have h7 : Hid (IsL 0 u2 (.slice (some ⟨w.heap.size, 0, none⟩) 3 3) [2, 5, 3]) := h5.out.later hb
  clear h4 h5
  have h8 : Hid (IsL 0 u2 q1 [1, 2, 3, 5]) := hi.any
  clear hb hi
  clear h7
  have h9 : Hid (Gd w (u2.alloc (.cells #[.int .i64 1, .int .i64 0] 28))) := h6.out.new (.cells #[.int .i64 1, .int .i64 0] 28)
  have h10 : Hid (IsL 0 (u2.alloc (.cells #[.int .i64 1, .int .i64 0] 28)) q1 [1, 2, 3, 5]) := h8.out.new (.cells #[.int .i64 1, .int .i64 0] 28)
  clear h6 h8
  have h11 : Hid (Bx (u2.heap.size) 1 0 (u2.alloc (.cells #[.int .i64 1, .int .i64 0] 28))) := Bx.bornAt u2 1 0 28 (by simp)
  go_wp2_with fail
  refine (hDo_eq (xs := [1, 2, 3, 5]) (ys := [2, 5, 3]) (o := 2) (x := 0) (c := 1) (y := 1) 0 h10.out (by decide) (by decide)).mono ?_
  rintro e u3 ⟨q2, rfl, hi, hb⟩
  have h12 : Hid (Gd w u3) := h9.out.later hb
  have h13 : Hid (IsL 0 u3 q1 [1, 2, 3, 5]) := h10.out.later hb
  have h14 : Hid (Bx (u2.heap.size) 1 0 u3) := h11.out.later hb
  clear h9 h10 h11
  have h15 : Hid (IsL 0 u3 q2 [2, 5, 3]) := hi.any
  clear hb hi
  have h16 : Hid (Gd w (u3.alloc (.cells #[.int .i64 1, .int .i64 1] 28))) := h12.out.new (.cells #[.int .i64 1, .int .i64 1] 28)
  have h17 : Hid (IsL 0 (u3.alloc (.cells #[.int .i64 1, .int .i64 1] 28)) q1 [1, 2, 3, 5]) := h13.out.new (.cells #[.int .i64 1, .int .i64 1] 28)
  have h18 : Hid (Bx (u2.heap.size) 1 0 (u3.alloc (.cells #[.int .i64 1, .int .i64 1] 28))) := h14.out.new (.cells #[.int .i64 1, .int .i64 1] 28)
  have h19 : Hid (IsL 0 (u3.alloc (.cells #[.int .i64 1, .int .i64 1] 28)) q2 [2, 5, 3]) := h15.out.new (.cells #[.int .i64 1, .int .i64 1] 28)
  clear h12 h13 h14 h15
  have h20 : Hid (Bx (u3.heap.size) 1 1 (u3.alloc (.cells #[.int .i64 1, .int .i64 1] 28))) := Bx.bornAt u3 1 1 28 (by simp)
  clear h18
  have h21 : Hid (Gd w ((u3.alloc (.cells #[.int .i64 1, .int .i64 1] 28)).alloc (.cells #[.int .i64 1, .int .i64 2, .int .i64 3, .int .i64 5] 3))) := h16.out.new (.cells #[.int .i64 1, .int .i64 2, .int .i64 3, .int .i64 5] 3)
  have h22 : Hid (IsL 0 ((u3.alloc (.cells #[.int .i64 1, .int .i64 1] 28)).alloc (.cells #[.int .i64 1, .int .i64 2, .int .i64 3, .int .i64 5] 3)) q1 [1, 2, 3, 5]) := h17.out.new (.cells #[.int .i64 1, .int .i64 2, .int .i64 3, .int .i64 5] 3)
  have h23 : Hid (IsL 0 ((u3.alloc (.cells #[.int .i64 1, .int .i64 1] 28)).alloc (.cells #[.int .i64 1, .int .i64 2, .int .i64 3, .int .i64 5] 3)) q2 [2, 5, 3]) := h19.out.new (.cells #[.int .i64 1, .int .i64 2, .int .i64 3, .int .i64 5] 3)
  have h24 : Hid (Bx (u3.heap.size) 1 1 ((u3.alloc (.cells #[.int .i64 1, .int .i64 1] 28)).alloc (.cells #[.int .i64 1, .int .i64 2, .int .i64 3, .int .i64 5] 3))) := h20.out.new (.cells #[.int .i64 1, .int .i64 2, .int .i64 3, .int .i64 5] 3)
  clear h16 h17 h19 h20
  have h25 : Hid (IsL 0 ((u3.alloc (.cells #[.int .i64 1, .int .i64 1] 28)).alloc (.cells #[.int .i64 1, .int .i64 2, .int .i64 3, .int .i64 5] 3)) (.slice (some ⟨u3.heap.size + 1, 0, none⟩) 4 4) [1, 2, 3, 5]) := IsL.litAt (u3.alloc (.cells #[.int .i64 1, .int .i64 1] 28)) [1, 2, 3, 5] (by decide) (by simp)
  have x26 := h24.out.c0
  have x27 := h24.out.c1
  go_wp2_with fail
  refine (Equal_same h22.out h25.out (by decide)).mono ?_
  rintro e u4 ⟨rfl, hb⟩
  have h28 : Hid (Gd w u4) := h21.out.later hb
  have h29 : Hid (IsL 0 u4 q1 [1, 2, 3, 5]) := h22.out.later hb
  have h30 : Hid (IsL 0 u4 q2 [2, 5, 3]) := h23.out.later hb
  have h31 : Hid (Bx (u3.heap.size) 1 1 u4) := h24.out.later hb
  have h32 : Hid (IsL 0 u4 (.slice (some ⟨u3.heap.size + 1, 0, none⟩) 4 4) [1, 2, 3, 5]) := h25.out.later hb
  clear h21 h22 h23 h24 h25
  clear hb
  clear h32
  clear h29
  have x33 := h31.out.c0
  have x34 := h31.out.c1
  have h35 : Hid (Gd w (u4.alloc (.cells #[.int .i64 2, .int .i64 5, .int .i64 3] 3))) := h28.out.new (.cells #[.int .i64 2, .int .i64 5, .int .i64 3] 3)
  have h36 : Hid (IsL 0 (u4.alloc (.cells #[.int .i64 2, .int .i64 5, .int .i64 3] 3)) q2 [2, 5, 3]) := h30.out.new (.cells #[.int .i64 2, .int .i64 5, .int .i64 3] 3)
  have h37 : Hid (Bx (u3.heap.size) 1 1 (u4.alloc (.cells #[.int .i64 2, .int .i64 5, .int .i64 3] 3))) := h31.out.new (.cells #[.int .i64 2, .int .i64 5, .int .i64 3] 3)
  clear h28 h30 h31
  have h38 : Hid (IsL 0 (u4.alloc (.cells #[.int .i64 2, .int .i64 5, .int .i64 3] 3)) (.slice (some ⟨u4.heap.size, 0, none⟩) 3 3) [2, 5, 3]) := IsL.litAt u4 [2, 5, 3] (by decide) (by simp)
  go_wp2_with fail
  refine (Equal_same h36.out h38.out (by decide)).mono ?_
  rintro e u5 ⟨rfl, hb⟩
  have h39 : Hid (Gd w u5) := h35.out.later hb
  have h40 : Hid (IsL 0 u5 q2 [2, 5, 3]) := h36.out.later hb
  have h41 : Hid (Bx (u3.heap.size) 1 1 u5) := h37.out.later hb
  have h42 : Hid (IsL 0 u5 (.slice (some ⟨u4.heap.size, 0, none⟩) 3 3) [2, 5, 3]) := h38.out.later hb
  clear h35 h36 h37 h38
  clear hb
  clear h42
  clear h40
  have x43 := h41.out.c0
  have x44 := h41.out.c1
  have h45 : Hid (Gd w (u5.alloc (.cells #[.int .i64 1, .int .i64 1] 3))) := h39.out.new (.cells #[.int .i64 1, .int .i64 1] 3)
  have h46 : Hid (Bx (u3.heap.size) 1 1 (u5.alloc (.cells #[.int .i64 1, .int .i64 1] 3))) := h41.out.new (.cells #[.int .i64 1, .int .i64 1] 3)
  clear h39 h41
  have h47 : Hid (IsL 0 (u5.alloc (.cells #[.int .i64 1, .int .i64 1] 3)) (.slice (some ⟨u5.heap.size, 0, none⟩) 2 2) [1, 1]) := IsL.litAt u5 [1, 1] (by decide) (by simp)
  go_wp2_with fail
  refine (hRight_yes h47.out (by decide) hp_12).mono ?_
  rintro e u6 ⟨rfl, hb⟩
  have h48 : Hid (Gd w u6) := h45.out.later hb
  have h49 : Hid (Bx (u3.heap.size) 1 1 u6) := h46.out.later hb
  have h50 : Hid (IsL 0 u6 (.slice (some ⟨u5.heap.size, 0, none⟩) 2 2) [1, 1]) := h47.out.later hb
  clear h45 h46 h47
  clear hb
  clear h50
  have h51 : Hid (Gd w (u6.alloc (.cells #[.int .i64 2, .int .i64 1] 3))) := h48.out.new (.cells #[.int .i64 2, .int .i64 1] 3)
  have h52 : Hid (Bx (u3.heap.size) 1 1 (u6.alloc (.cells #[.int .i64 2, .int .i64 1] 3))) := h49.out.new (.cells #[.int .i64 2, .int .i64 1] 3)
  clear h48 h49
  have h53 : Hid (IsL 0 (u6.alloc (.cells #[.int .i64 2, .int .i64 1] 3)) (.slice (some ⟨u6.heap.size, 0, none⟩) 2 2) [2, 1]) := IsL.litAt u6 [2, 1] (by decide) (by simp)
  go_wp2_with fail
  refine (hRight_no h53.out (by decide) hp_21).mono ?_
  rintro e u7 ⟨rfl, hb⟩
  have h54 : Hid (Gd w u7) := h51.out.later hb
  have h55 : Hid (Bx (u3.heap.size) 1 1 u7) := h52.out.later hb
  have h56 : Hid (IsL 0 u7 (.slice (some ⟨u6.heap.size, 0, none⟩) 2 2) [2, 1]) := h53.out.later hb
  clear h51 h52 h53
  clear hb
  go_wp2
  go_ret
  exact ⟨rfl, h54.out, Nat.lt_of_le_of_lt (Nat.zero_le _) h55.out.lt⟩

theorem heaped_is (w : World) :
    Calls Try.prog 4 #[] w fun e w' => e = .returned (.bool true) ∧ Below w.heap.size w w' :=
  (heaped_big w).mono fun _ _ ⟨h1, h2, _⟩ => ⟨h1, h2⟩

end Go.Proofs.Ytenkjkfnampkiab
