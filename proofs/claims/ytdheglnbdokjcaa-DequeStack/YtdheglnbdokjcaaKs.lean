/- The keepers' fact of a stack. -/
import Derived.Test.YtdheglnbdokjcaaSd
namespace Go.Proofs.Ytdheglnbdokjcaa
open Go.RowKit

set_option maxHeartbeats 2000000 in
theorem stacked_is (w : World) :
    Calls Try.prog 20 #[] w fun e w' => e = .returned (.bool true) ∧ Below w.heap.size w w' := by
  have h1 : Hid (Gd w w) := Gd.refl w
  go_enter Try.func20, Try.ntmps20
  have h2 : Hid (Gd w (w.alloc (.cells #[.int .i64 1, .int .i64 2] 3))) := h1.out.new (.cells #[.int .i64 1, .int .i64 2] 3)
  clear h1
  have h3 : Hid (IsL 0 (w.alloc (.cells #[.int .i64 1, .int .i64 2] 3)) (.slice (some ⟨w.heap.size, 0, none⟩) 2 2) [1, 2]) := IsL.litAt w [1, 2] (by decide) (by simp)
  go_wp2_with fail
  refine (put_is 3 _).mono ?_
  rintro e u1 ⟨rfl, hb⟩
  have h4 : Hid (Gd w u1) := h2.out.later hb
  have h5 : Hid (IsL 0 u1 (.slice (some ⟨w.heap.size, 0, none⟩) 2 2) [1, 2]) := h3.out.later hb
  clear h2 h3
  clear hb
  go_wp2_with fail
  refine (sDo_eq (xs := [1, 2]) (ys := [1, 2, 3]) (o := 1) (x := 3) (c := 1) (y := 0) 0 h5.out (by decide) (by decide)).mono ?_
  rintro e u2 ⟨q1, rfl, hi, hb⟩
  have h6 : Hid (Gd w u2) := h4.out.later hb
  have h7 : Hid (IsL 0 u2 (.slice (some ⟨w.heap.size, 0, none⟩) 2 2) [1, 2]) := h5.out.later hb
  clear h4 h5
  have h8 : Hid (IsL 0 u2 q1 [1, 2, 3]) := hi.any
  clear hb hi
  have h9 : Hid (Gd w (u2.alloc (.cells #[.int .i64 1, .int .i64 0] 26))) := h6.out.new (.cells #[.int .i64 1, .int .i64 0] 26)
  have h10 : Hid (IsL 0 (u2.alloc (.cells #[.int .i64 1, .int .i64 0] 26)) (.slice (some ⟨w.heap.size, 0, none⟩) 2 2) [1, 2]) := h7.out.new (.cells #[.int .i64 1, .int .i64 0] 26)
  have h11 : Hid (IsL 0 (u2.alloc (.cells #[.int .i64 1, .int .i64 0] 26)) q1 [1, 2, 3]) := h8.out.new (.cells #[.int .i64 1, .int .i64 0] 26)
  clear h6 h7 h8
  have h12 : Hid (Bx (u2.heap.size) 1 0 (u2.alloc (.cells #[.int .i64 1, .int .i64 0] 26))) := Bx.bornAt u2 1 0 26 (by simp)
  go_wp2_with fail
  refine (sDo_eq (xs := [1, 2, 3]) (ys := [1, 2]) (o := 2) (x := 0) (c := 1) (y := 3) 0 h11.out (by decide) (by decide)).mono ?_
  rintro e u3 ⟨q2, rfl, hi, hb⟩
  have h13 : Hid (Gd w u3) := h9.out.later hb
  have h14 : Hid (IsL 0 u3 (.slice (some ⟨w.heap.size, 0, none⟩) 2 2) [1, 2]) := h10.out.later hb
  have h15 : Hid (IsL 0 u3 q1 [1, 2, 3]) := h11.out.later hb
  have h16 : Hid (Bx (u2.heap.size) 1 0 u3) := h12.out.later hb
  clear h9 h10 h11 h12
  have h17 : Hid (IsL 0 u3 q2 [1, 2]) := hi.any
  clear hb hi
  have h18 : Hid (Gd w (u3.alloc (.cells #[.int .i64 1, .int .i64 3] 26))) := h13.out.new (.cells #[.int .i64 1, .int .i64 3] 26)
  have h19 : Hid (IsL 0 (u3.alloc (.cells #[.int .i64 1, .int .i64 3] 26)) (.slice (some ⟨w.heap.size, 0, none⟩) 2 2) [1, 2]) := h14.out.new (.cells #[.int .i64 1, .int .i64 3] 26)
  have h20 : Hid (IsL 0 (u3.alloc (.cells #[.int .i64 1, .int .i64 3] 26)) q1 [1, 2, 3]) := h15.out.new (.cells #[.int .i64 1, .int .i64 3] 26)
  have h21 : Hid (Bx (u2.heap.size) 1 0 (u3.alloc (.cells #[.int .i64 1, .int .i64 3] 26))) := h16.out.new (.cells #[.int .i64 1, .int .i64 3] 26)
  have h22 : Hid (IsL 0 (u3.alloc (.cells #[.int .i64 1, .int .i64 3] 26)) q2 [1, 2]) := h17.out.new (.cells #[.int .i64 1, .int .i64 3] 26)
  clear h13 h14 h15 h16 h17
  have h23 : Hid (Bx (u3.heap.size) 1 3 (u3.alloc (.cells #[.int .i64 1, .int .i64 3] 26))) := Bx.bornAt u3 1 3 26 (by simp)
  have h24 : Hid (Gd w ((u3.alloc (.cells #[.int .i64 1, .int .i64 3] 26)).alloc (.cells #[.int .i64 1, .int .i64 2, .int .i64 3] 3))) := h18.out.new (.cells #[.int .i64 1, .int .i64 2, .int .i64 3] 3)
  have h25 : Hid (IsL 0 ((u3.alloc (.cells #[.int .i64 1, .int .i64 3] 26)).alloc (.cells #[.int .i64 1, .int .i64 2, .int .i64 3] 3)) (.slice (some ⟨w.heap.size, 0, none⟩) 2 2) [1, 2]) := h19.out.new (.cells #[.int .i64 1, .int .i64 2, .int .i64 3] 3)
  have h26 : Hid (IsL 0 ((u3.alloc (.cells #[.int .i64 1, .int .i64 3] 26)).alloc (.cells #[.int .i64 1, .int .i64 2, .int .i64 3] 3)) q1 [1, 2, 3]) := h20.out.new (.cells #[.int .i64 1, .int .i64 2, .int .i64 3] 3)
  have h27 : Hid (Bx (u2.heap.size) 1 0 ((u3.alloc (.cells #[.int .i64 1, .int .i64 3] 26)).alloc (.cells #[.int .i64 1, .int .i64 2, .int .i64 3] 3))) := h21.out.new (.cells #[.int .i64 1, .int .i64 2, .int .i64 3] 3)
  have h28 : Hid (IsL 0 ((u3.alloc (.cells #[.int .i64 1, .int .i64 3] 26)).alloc (.cells #[.int .i64 1, .int .i64 2, .int .i64 3] 3)) q2 [1, 2]) := h22.out.new (.cells #[.int .i64 1, .int .i64 2, .int .i64 3] 3)
  have h29 : Hid (Bx (u3.heap.size) 1 3 ((u3.alloc (.cells #[.int .i64 1, .int .i64 3] 26)).alloc (.cells #[.int .i64 1, .int .i64 2, .int .i64 3] 3))) := h23.out.new (.cells #[.int .i64 1, .int .i64 2, .int .i64 3] 3)
  clear h18 h19 h20 h21 h22 h23
  have h30 : Hid (IsL 0 ((u3.alloc (.cells #[.int .i64 1, .int .i64 3] 26)).alloc (.cells #[.int .i64 1, .int .i64 2, .int .i64 3] 3)) (.slice (some ⟨u3.heap.size + 1, 0, none⟩) 3 3) [1, 2, 3]) := IsL.litAt (u3.alloc (.cells #[.int .i64 1, .int .i64 3] 26)) [1, 2, 3] (by decide) (by simp)
  have x31 := h27.out.c0
  have x32 := h27.out.c1
  have x33 := h29.out.c0
  have x34 := h29.out.c1
  go_wp2_with fail
  refine (Equal_same h26.out h30.out (by decide)).mono ?_
  rintro e u4 ⟨rfl, hb⟩
  have h35 : Hid (Gd w u4) := h24.out.later hb
  have h36 : Hid (IsL 0 u4 (.slice (some ⟨w.heap.size, 0, none⟩) 2 2) [1, 2]) := h25.out.later hb
  have h37 : Hid (IsL 0 u4 q1 [1, 2, 3]) := h26.out.later hb
  have h38 : Hid (Bx (u2.heap.size) 1 0 u4) := h27.out.later hb
  have h39 : Hid (IsL 0 u4 q2 [1, 2]) := h28.out.later hb
  have h40 : Hid (Bx (u3.heap.size) 1 3 u4) := h29.out.later hb
  have h41 : Hid (IsL 0 u4 (.slice (some ⟨u3.heap.size + 1, 0, none⟩) 3 3) [1, 2, 3]) := h30.out.later hb
  clear h24 h25 h26 h27 h28 h29 h30
  clear hb
  have x42 := h38.out.c0
  have x43 := h38.out.c1
  have x44 := h40.out.c0
  have x45 := h40.out.c1
  have h46 : Hid (Gd w (u4.alloc (.cells #[.int .i64 1, .int .i64 2] 3))) := h35.out.new (.cells #[.int .i64 1, .int .i64 2] 3)
  have h47 : Hid (IsL 0 (u4.alloc (.cells #[.int .i64 1, .int .i64 2] 3)) (.slice (some ⟨w.heap.size, 0, none⟩) 2 2) [1, 2]) := h36.out.new (.cells #[.int .i64 1, .int .i64 2] 3)
  have h48 : Hid (IsL 0 (u4.alloc (.cells #[.int .i64 1, .int .i64 2] 3)) q1 [1, 2, 3]) := h37.out.new (.cells #[.int .i64 1, .int .i64 2] 3)
  have h49 : Hid (Bx (u2.heap.size) 1 0 (u4.alloc (.cells #[.int .i64 1, .int .i64 2] 3))) := h38.out.new (.cells #[.int .i64 1, .int .i64 2] 3)
  have h50 : Hid (IsL 0 (u4.alloc (.cells #[.int .i64 1, .int .i64 2] 3)) q2 [1, 2]) := h39.out.new (.cells #[.int .i64 1, .int .i64 2] 3)
  have h51 : Hid (Bx (u3.heap.size) 1 3 (u4.alloc (.cells #[.int .i64 1, .int .i64 2] 3))) := h40.out.new (.cells #[.int .i64 1, .int .i64 2] 3)
  have h52 : Hid (IsL 0 (u4.alloc (.cells #[.int .i64 1, .int .i64 2] 3)) (.slice (some ⟨u3.heap.size + 1, 0, none⟩) 3 3) [1, 2, 3]) := h41.out.new (.cells #[.int .i64 1, .int .i64 2] 3)
  clear h35 h36 h37 h38 h39 h40 h41
  have h53 : Hid (IsL 0 (u4.alloc (.cells #[.int .i64 1, .int .i64 2] 3)) (.slice (some ⟨u4.heap.size, 0, none⟩) 2 2) [1, 2]) := IsL.litAt u4 [1, 2] (by decide) (by simp)
  go_wp2_with fail
  refine (Equal_same h50.out h53.out (by decide)).mono ?_
  rintro e u5 ⟨rfl, hb⟩
  have h54 : Hid (Gd w u5) := h46.out.later hb
  have h55 : Hid (IsL 0 u5 (.slice (some ⟨w.heap.size, 0, none⟩) 2 2) [1, 2]) := h47.out.later hb
  have h56 : Hid (IsL 0 u5 q1 [1, 2, 3]) := h48.out.later hb
  have h57 : Hid (Bx (u2.heap.size) 1 0 u5) := h49.out.later hb
  have h58 : Hid (IsL 0 u5 q2 [1, 2]) := h50.out.later hb
  have h59 : Hid (Bx (u3.heap.size) 1 3 u5) := h51.out.later hb
  have h60 : Hid (IsL 0 u5 (.slice (some ⟨u3.heap.size + 1, 0, none⟩) 3 3) [1, 2, 3]) := h52.out.later hb
  have h61 : Hid (IsL 0 u5 (.slice (some ⟨u4.heap.size, 0, none⟩) 2 2) [1, 2]) := h53.out.later hb
  clear h46 h47 h48 h49 h50 h51 h52 h53
  clear hb
  have x62 := h57.out.c0
  have x63 := h57.out.c1
  have x64 := h59.out.c0
  have x65 := h59.out.c1
  go_wp2
  go_ret
  exact ⟨rfl, h54.out⟩

end Go.Proofs.Ytdheglnbdokjcaa
