/- The keepers' fact of a deque. -/
import Derived.Test.YtdheglnbdokjcaaDq
namespace Go.Proofs.Ytdheglnbdokjcaa
open Go.RowKit

set_option maxHeartbeats 2000000 in
theorem dealt_is (w : World) :
    Calls Try.prog 11 #[] w fun e w' => e = .returned (.bool true) ∧ Below w.heap.size w w' := by
  have h1 : Hid (Gd w w) := Gd.refl w
  go_enter Try.func11, Try.ntmps11
  have h2 : Hid (Gd w (w.alloc (.cells #[.int .i64 1, .int .i64 2] 3))) := h1.out.new (.cells #[.int .i64 1, .int .i64 2] 3)
  clear h1
  have h3 : Hid (IsL 0 (w.alloc (.cells #[.int .i64 1, .int .i64 2] 3)) (.slice (some ⟨w.heap.size, 0, none⟩) 2 2) [1, 2]) := IsL.litAt w [1, 2] (by decide) (by simp)
  go_wp2_with fail
  refine (dDo_eq (xs := [1, 2]) (ys := [3, 1, 2]) (o := 3) (x := 3) (c := 1) (y := 0) 0 h3.out (by decide) (by decide)).mono ?_
  rintro e u1 ⟨q1, rfl, hi, hb⟩
  have h4 : Hid (Gd w u1) := h2.out.later hb
  have h5 : Hid (IsL 0 u1 (.slice (some ⟨w.heap.size, 0, none⟩) 2 2) [1, 2]) := h3.out.later hb
  clear h2 h3
  have h6 : Hid (IsL 0 u1 q1 [3, 1, 2]) := hi.any
  clear hb hi
  clear h5
  have h7 : Hid (Gd w (u1.alloc (.cells #[.int .i64 1, .int .i64 0] 26))) := h4.out.new (.cells #[.int .i64 1, .int .i64 0] 26)
  have h8 : Hid (IsL 0 (u1.alloc (.cells #[.int .i64 1, .int .i64 0] 26)) q1 [3, 1, 2]) := h6.out.new (.cells #[.int .i64 1, .int .i64 0] 26)
  clear h4 h6
  have h9 : Hid (Bx (u1.heap.size) 1 0 (u1.alloc (.cells #[.int .i64 1, .int .i64 0] 26))) := Bx.bornAt u1 1 0 26 (by simp)
  go_wp2_with fail
  refine (dDo_eq (xs := [3, 1, 2]) (ys := [3, 1]) (o := 4) (x := 0) (c := 1) (y := 2) 0 h8.out (by decide) (by decide)).mono ?_
  rintro e u2 ⟨q2, rfl, hi, hb⟩
  have h10 : Hid (Gd w u2) := h7.out.later hb
  have h11 : Hid (IsL 0 u2 q1 [3, 1, 2]) := h8.out.later hb
  have h12 : Hid (Bx (u1.heap.size) 1 0 u2) := h9.out.later hb
  clear h7 h8 h9
  have h13 : Hid (IsL 0 u2 q2 [3, 1]) := hi.any
  clear hb hi
  have h14 : Hid (Gd w (u2.alloc (.cells #[.int .i64 1, .int .i64 2] 26))) := h10.out.new (.cells #[.int .i64 1, .int .i64 2] 26)
  have h15 : Hid (IsL 0 (u2.alloc (.cells #[.int .i64 1, .int .i64 2] 26)) q1 [3, 1, 2]) := h11.out.new (.cells #[.int .i64 1, .int .i64 2] 26)
  have h16 : Hid (Bx (u1.heap.size) 1 0 (u2.alloc (.cells #[.int .i64 1, .int .i64 2] 26))) := h12.out.new (.cells #[.int .i64 1, .int .i64 2] 26)
  have h17 : Hid (IsL 0 (u2.alloc (.cells #[.int .i64 1, .int .i64 2] 26)) q2 [3, 1]) := h13.out.new (.cells #[.int .i64 1, .int .i64 2] 26)
  clear h10 h11 h12 h13
  have h18 : Hid (Bx (u2.heap.size) 1 2 (u2.alloc (.cells #[.int .i64 1, .int .i64 2] 26))) := Bx.bornAt u2 1 2 26 (by simp)
  have h19 : Hid (Gd w ((u2.alloc (.cells #[.int .i64 1, .int .i64 2] 26)).alloc (.cells #[.int .i64 3, .int .i64 1, .int .i64 2] 3))) := h14.out.new (.cells #[.int .i64 3, .int .i64 1, .int .i64 2] 3)
  have h20 : Hid (IsL 0 ((u2.alloc (.cells #[.int .i64 1, .int .i64 2] 26)).alloc (.cells #[.int .i64 3, .int .i64 1, .int .i64 2] 3)) q1 [3, 1, 2]) := h15.out.new (.cells #[.int .i64 3, .int .i64 1, .int .i64 2] 3)
  have h21 : Hid (Bx (u1.heap.size) 1 0 ((u2.alloc (.cells #[.int .i64 1, .int .i64 2] 26)).alloc (.cells #[.int .i64 3, .int .i64 1, .int .i64 2] 3))) := h16.out.new (.cells #[.int .i64 3, .int .i64 1, .int .i64 2] 3)
  have h22 : Hid (IsL 0 ((u2.alloc (.cells #[.int .i64 1, .int .i64 2] 26)).alloc (.cells #[.int .i64 3, .int .i64 1, .int .i64 2] 3)) q2 [3, 1]) := h17.out.new (.cells #[.int .i64 3, .int .i64 1, .int .i64 2] 3)
  have h23 : Hid (Bx (u2.heap.size) 1 2 ((u2.alloc (.cells #[.int .i64 1, .int .i64 2] 26)).alloc (.cells #[.int .i64 3, .int .i64 1, .int .i64 2] 3))) := h18.out.new (.cells #[.int .i64 3, .int .i64 1, .int .i64 2] 3)
  clear h14 h15 h16 h17 h18
  have h24 : Hid (IsL 0 ((u2.alloc (.cells #[.int .i64 1, .int .i64 2] 26)).alloc (.cells #[.int .i64 3, .int .i64 1, .int .i64 2] 3)) (.slice (some ⟨u2.heap.size + 1, 0, none⟩) 3 3) [3, 1, 2]) := IsL.litAt (u2.alloc (.cells #[.int .i64 1, .int .i64 2] 26)) [3, 1, 2] (by decide) (by simp)
  have x25 := h23.out.c0
  have x26 := h23.out.c1
  go_wp2_with fail
  refine (Equal_same h20.out h24.out (by decide)).mono ?_
  rintro e u3 ⟨rfl, hb⟩
  have h27 : Hid (Gd w u3) := h19.out.later hb
  have h28 : Hid (IsL 0 u3 q1 [3, 1, 2]) := h20.out.later hb
  have h29 : Hid (Bx (u1.heap.size) 1 0 u3) := h21.out.later hb
  have h30 : Hid (IsL 0 u3 q2 [3, 1]) := h22.out.later hb
  have h31 : Hid (Bx (u2.heap.size) 1 2 u3) := h23.out.later hb
  have h32 : Hid (IsL 0 u3 (.slice (some ⟨u2.heap.size + 1, 0, none⟩) 3 3) [3, 1, 2]) := h24.out.later hb
  clear h19 h20 h21 h22 h23 h24
  clear hb
  have x33 := h31.out.c0
  have x34 := h31.out.c1
  have h35 : Hid (Gd w (u3.alloc (.cells #[.int .i64 3, .int .i64 1] 3))) := h27.out.new (.cells #[.int .i64 3, .int .i64 1] 3)
  have h36 : Hid (IsL 0 (u3.alloc (.cells #[.int .i64 3, .int .i64 1] 3)) q1 [3, 1, 2]) := h28.out.new (.cells #[.int .i64 3, .int .i64 1] 3)
  have h37 : Hid (Bx (u1.heap.size) 1 0 (u3.alloc (.cells #[.int .i64 3, .int .i64 1] 3))) := h29.out.new (.cells #[.int .i64 3, .int .i64 1] 3)
  have h38 : Hid (IsL 0 (u3.alloc (.cells #[.int .i64 3, .int .i64 1] 3)) q2 [3, 1]) := h30.out.new (.cells #[.int .i64 3, .int .i64 1] 3)
  have h39 : Hid (Bx (u2.heap.size) 1 2 (u3.alloc (.cells #[.int .i64 3, .int .i64 1] 3))) := h31.out.new (.cells #[.int .i64 3, .int .i64 1] 3)
  have h40 : Hid (IsL 0 (u3.alloc (.cells #[.int .i64 3, .int .i64 1] 3)) (.slice (some ⟨u2.heap.size + 1, 0, none⟩) 3 3) [3, 1, 2]) := h32.out.new (.cells #[.int .i64 3, .int .i64 1] 3)
  clear h27 h28 h29 h30 h31 h32
  have h41 : Hid (IsL 0 (u3.alloc (.cells #[.int .i64 3, .int .i64 1] 3)) (.slice (some ⟨u3.heap.size, 0, none⟩) 2 2) [3, 1]) := IsL.litAt u3 [3, 1] (by decide) (by simp)
  go_wp2_with fail
  refine (Equal_same h38.out h41.out (by decide)).mono ?_
  rintro e u4 ⟨rfl, hb⟩
  have h42 : Hid (Gd w u4) := h35.out.later hb
  have h43 : Hid (IsL 0 u4 q1 [3, 1, 2]) := h36.out.later hb
  have h44 : Hid (Bx (u1.heap.size) 1 0 u4) := h37.out.later hb
  have h45 : Hid (IsL 0 u4 q2 [3, 1]) := h38.out.later hb
  have h46 : Hid (Bx (u2.heap.size) 1 2 u4) := h39.out.later hb
  have h47 : Hid (IsL 0 u4 (.slice (some ⟨u2.heap.size + 1, 0, none⟩) 3 3) [3, 1, 2]) := h40.out.later hb
  have h48 : Hid (IsL 0 u4 (.slice (some ⟨u3.heap.size, 0, none⟩) 2 2) [3, 1]) := h41.out.later hb
  clear h35 h36 h37 h38 h39 h40 h41
  clear hb
  have x49 := h46.out.c0
  have x50 := h46.out.c1
  go_wp2
  go_ret
  exact ⟨rfl, h42.out⟩

end Go.Proofs.Ytdheglnbdokjcaa
