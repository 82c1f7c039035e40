/- DequeBack is proved: for every list, value and end the call returns true (what is put in at an end, and taken out there, leaves a deque as it was). -/
import Derived.Test.YtdheglnbdokjcaaRows
import Derived.Test.YtdheglnbdokjcaaArgL
import Derived.Test.YtdheglnbdokjcaaDl
import Derived.ChangeAlike

namespace Go.Proofs.Ytdheglnbdokjcaa.dequeBack
open Go.ChangeShapes Go.WideShapes Go.ChangeAt Go.RowKit
set_option linter.unusedVariables false

theorem own : ownKnob Try.prog.godebug = none := by kernel_rfl

set_option maxHeartbeats 4000000 in
theorem walk (v : Value) (xs : List Int) (x : Int) (f : Bool) (_w0 : (Lit.int .i64 x).wf = true) (w : World) (D : In w v xs) :
    Calls Try.prog 7 #[v, .int .i64 x, .bool f] w fun e w' => e = .returned (.bool true) ∧ Below w.heap.size w w' := by
  obtain ⟨ys, hys⟩ : ∃ ys, ys = fw xs := ⟨_, rfl⟩
  have hl6 : ys.length ≤ 6 := by rw [hys]; exact fw_le _
  have HY : Hid (ys = fw xs) := hys
  clear hys
  have hlx : Hid (xs.length ≤ 9223372036854775807) := D.2
  have h1 : Hid (IsL 0 w v xs) := D.1
  clear D
  have h2 : Hid (Gd w w) := Gd.refl w
  cases f
  · by_cases h6 : ys.length = 6
    · have h6i : ((ys.length : Int) == 6) = true := by rw [beq_iff_eq]; omega
      have H6 : Hid (6 ≤ ys.length) := (by omega : 6 ≤ ys.length)
      clear h6
      go_enter Try.func7, Try.ntmps7
      go_wp2_with fail
      refine (dealt_is _).mono ?_
      rintro e u1 ⟨rfl, hb⟩
      have h3 : Hid (IsL 0 u1 v xs) := h1.out.later hb
      have h4 : Hid (Gd w u1) := h2.out.later hb
      clear h1 h2
      clear hb
      go_wp2_with fail
      refine (few_is h3.out hlx.out).mono ?_
      rintro e u2 ⟨l, rfl, hi, hb⟩
      rw [← HY.out] at hi
      obtain ⟨a, c, rfl⟩ := hi.form
      have h5 : Hid (IsL 0 u2 v xs) := h3.out.later hb
      have h6 : Hid (Gd w u2) := h4.out.later hb
      clear h3 h4
      have h7 : Hid (IsL 0 u2 (.slice a ys.length c) ys) := hi.any
      clear hb hi
      clear h5
      go_wp2_with fail
      refine (pick_is _ _).mono ?_
      rintro e u ⟨rfl, hw⟩
      rw [hw]; clear hw u
      have h8 : Hid (Gd w (u2.alloc (.cells #[.int .i64 1, .int .i64 0, .int .i64 (pk x)] 24))) := h6.out.new (.cells #[.int .i64 1, .int .i64 0, .int .i64 (pk x)] 24)
      have h9 : Hid (IsL 0 (u2.alloc (.cells #[.int .i64 1, .int .i64 0, .int .i64 (pk x)] 24)) (.slice a ys.length c) ys) := h7.out.new (.cells #[.int .i64 1, .int .i64 0, .int .i64 (pk x)] 24)
      clear h6 h7
      have h10 : Hid (Bo (u2.heap.size) 1 0 (pk x) (u2.alloc (.cells #[.int .i64 1, .int .i64 0, .int .i64 (pk x)] 24))) := Bo.bornAt u2 1 0 (pk x) 24 (by simp)
      have h11 : Hid (Gd w ((u2.alloc (.cells #[.int .i64 1, .int .i64 0, .int .i64 (pk x)] 24)).alloc (.cells #[.int .i64 4, .int .i64 0, .int .i64 0] 24))) := h8.out.new (.cells #[.int .i64 4, .int .i64 0, .int .i64 0] 24)
      have h12 : Hid (IsL 0 ((u2.alloc (.cells #[.int .i64 1, .int .i64 0, .int .i64 (pk x)] 24)).alloc (.cells #[.int .i64 4, .int .i64 0, .int .i64 0] 24)) (.slice a ys.length c) ys) := h9.out.new (.cells #[.int .i64 4, .int .i64 0, .int .i64 0] 24)
      have h13 : Hid (Bo (u2.heap.size) 1 0 (pk x) ((u2.alloc (.cells #[.int .i64 1, .int .i64 0, .int .i64 (pk x)] 24)).alloc (.cells #[.int .i64 4, .int .i64 0, .int .i64 0] 24))) := h10.out.new (.cells #[.int .i64 4, .int .i64 0, .int .i64 0] 24)
      clear h8 h9 h10
      have h14 : Hid (Bo (u2.heap.size + 1) 4 0 0 ((u2.alloc (.cells #[.int .i64 1, .int .i64 0, .int .i64 (pk x)] 24)).alloc (.cells #[.int .i64 4, .int .i64 0, .int .i64 0] 24))) := Bo.bornAt (u2.alloc (.cells #[.int .i64 1, .int .i64 0, .int .i64 (pk x)] 24)) 4 0 0 24 (by simp)
      go_wp2_with fail
      refine (dDo_eq 0 h12.out (by omega) (ddo_full (pk x) H6.out)).mono ?_
      rintro e u3 ⟨q1, rfl, hi, hb⟩
      have h15 : Hid (Gd w u3) := h11.out.later hb
      have h16 : Hid (IsL 0 u3 (.slice a ys.length c) ys) := h12.out.later hb
      have h17 : Hid (Bo (u2.heap.size) 1 0 (pk x) u3) := h13.out.later hb
      have h18 : Hid (Bo (u2.heap.size + 1) 4 0 0 u3) := h14.out.later hb
      clear h11 h12 h13 h14
      have h19 : Hid (IsL 0 u3 q1 ys) := hi.any
      clear hb hi
      have h20 : Hid (Gd w (u3.alloc (.cells #[.int .i64 3, .int .i64 0] 26))) := h15.out.new (.cells #[.int .i64 3, .int .i64 0] 26)
      have h21 : Hid (IsL 0 (u3.alloc (.cells #[.int .i64 3, .int .i64 0] 26)) (.slice a ys.length c) ys) := h16.out.new (.cells #[.int .i64 3, .int .i64 0] 26)
      have h22 : Hid (Bo (u2.heap.size) 1 0 (pk x) (u3.alloc (.cells #[.int .i64 3, .int .i64 0] 26))) := h17.out.new (.cells #[.int .i64 3, .int .i64 0] 26)
      have h23 : Hid (Bo (u2.heap.size + 1) 4 0 0 (u3.alloc (.cells #[.int .i64 3, .int .i64 0] 26))) := h18.out.new (.cells #[.int .i64 3, .int .i64 0] 26)
      have h24 : Hid (IsL 0 (u3.alloc (.cells #[.int .i64 3, .int .i64 0] 26)) q1 ys) := h19.out.new (.cells #[.int .i64 3, .int .i64 0] 26)
      clear h15 h16 h17 h18 h19
      have h25 : Hid (Bx (u3.heap.size) 3 0 (u3.alloc (.cells #[.int .i64 3, .int .i64 0] 26))) := Bx.bornAt u3 3 0 26 (by simp)
      have x26 := h25.out.c0
      have x27 := h25.out.c1
      go_wp2_with fail
      refine (Equal_same h24.out h21.out (by omega)).mono ?_
      rintro e u4 ⟨rfl, hb⟩
      have h28 : Hid (Gd w u4) := h20.out.later hb
      have h29 : Hid (IsL 0 u4 (.slice a ys.length c) ys) := h21.out.later hb
      have h30 : Hid (Bo (u2.heap.size) 1 0 (pk x) u4) := h22.out.later hb
      have h31 : Hid (Bo (u2.heap.size + 1) 4 0 0 u4) := h23.out.later hb
      have h32 : Hid (IsL 0 u4 q1 ys) := h24.out.later hb
      have h33 : Hid (Bx (u3.heap.size) 3 0 u4) := h25.out.later hb
      clear h20 h21 h22 h23 h24 h25
      clear hb
      go_wp2
      go_ret
      exact ⟨rfl, h28.out⟩
    · have H6 : Hid (ys.length < 6) := (by omega : ys.length < 6)
      clear h6
      go_enter Try.func7, Try.ntmps7
      go_wp2_with fail
      refine (dealt_is _).mono ?_
      rintro e u1 ⟨rfl, hb⟩
      have h3 : Hid (IsL 0 u1 v xs) := h1.out.later hb
      have h4 : Hid (Gd w u1) := h2.out.later hb
      clear h1 h2
      clear hb
      go_wp2_with fail
      refine (few_is h3.out hlx.out).mono ?_
      rintro e u2 ⟨l, rfl, hi, hb⟩
      rw [← HY.out] at hi
      obtain ⟨a, c, rfl⟩ := hi.form
      have h5 : Hid (IsL 0 u2 v xs) := h3.out.later hb
      have h6 : Hid (Gd w u2) := h4.out.later hb
      clear h3 h4
      have h7 : Hid (IsL 0 u2 (.slice a ys.length c) ys) := hi.any
      clear hb hi
      clear h5
      go_wp2_with fail
      refine (pick_is _ _).mono ?_
      rintro e u ⟨rfl, hw⟩
      rw [hw]; clear hw u
      have h8 : Hid (Gd w (u2.alloc (.cells #[.int .i64 1, .int .i64 0, .int .i64 (pk x)] 24))) := h6.out.new (.cells #[.int .i64 1, .int .i64 0, .int .i64 (pk x)] 24)
      have h9 : Hid (IsL 0 (u2.alloc (.cells #[.int .i64 1, .int .i64 0, .int .i64 (pk x)] 24)) (.slice a ys.length c) ys) := h7.out.new (.cells #[.int .i64 1, .int .i64 0, .int .i64 (pk x)] 24)
      clear h6 h7
      have h10 : Hid (Bo (u2.heap.size) 1 0 (pk x) (u2.alloc (.cells #[.int .i64 1, .int .i64 0, .int .i64 (pk x)] 24))) := Bo.bornAt u2 1 0 (pk x) 24 (by simp)
      have h11 : Hid (Gd w ((u2.alloc (.cells #[.int .i64 1, .int .i64 0, .int .i64 (pk x)] 24)).alloc (.cells #[.int .i64 4, .int .i64 0, .int .i64 0] 24))) := h8.out.new (.cells #[.int .i64 4, .int .i64 0, .int .i64 0] 24)
      have h12 : Hid (IsL 0 ((u2.alloc (.cells #[.int .i64 1, .int .i64 0, .int .i64 (pk x)] 24)).alloc (.cells #[.int .i64 4, .int .i64 0, .int .i64 0] 24)) (.slice a ys.length c) ys) := h9.out.new (.cells #[.int .i64 4, .int .i64 0, .int .i64 0] 24)
      have h13 : Hid (Bo (u2.heap.size) 1 0 (pk x) ((u2.alloc (.cells #[.int .i64 1, .int .i64 0, .int .i64 (pk x)] 24)).alloc (.cells #[.int .i64 4, .int .i64 0, .int .i64 0] 24))) := h10.out.new (.cells #[.int .i64 4, .int .i64 0, .int .i64 0] 24)
      clear h8 h9 h10
      have h14 : Hid (Bo (u2.heap.size + 1) 4 0 0 ((u2.alloc (.cells #[.int .i64 1, .int .i64 0, .int .i64 (pk x)] 24)).alloc (.cells #[.int .i64 4, .int .i64 0, .int .i64 0] 24))) := Bo.bornAt (u2.alloc (.cells #[.int .i64 1, .int .i64 0, .int .i64 (pk x)] 24)) 4 0 0 24 (by simp)
      go_wp2_with fail
      refine (dDo_eq 0 h12.out (by omega) (ddo_put (pk x) H6.out)).mono ?_
      rintro e u3 ⟨q1, rfl, hi, hb⟩
      have h15 : Hid (Gd w u3) := h11.out.later hb
      have h16 : Hid (IsL 0 u3 (.slice a ys.length c) ys) := h12.out.later hb
      have h17 : Hid (Bo (u2.heap.size) 1 0 (pk x) u3) := h13.out.later hb
      have h18 : Hid (Bo (u2.heap.size + 1) 4 0 0 u3) := h14.out.later hb
      clear h11 h12 h13 h14
      have h19 : Hid (IsL 0 u3 q1 (ys ++ [pk x])) := hi.any
      clear hb hi
      have h20 : Hid (Gd w (u3.alloc (.cells #[.int .i64 1, .int .i64 0] 26))) := h15.out.new (.cells #[.int .i64 1, .int .i64 0] 26)
      have h21 : Hid (IsL 0 (u3.alloc (.cells #[.int .i64 1, .int .i64 0] 26)) (.slice a ys.length c) ys) := h16.out.new (.cells #[.int .i64 1, .int .i64 0] 26)
      have h22 : Hid (Bo (u2.heap.size) 1 0 (pk x) (u3.alloc (.cells #[.int .i64 1, .int .i64 0] 26))) := h17.out.new (.cells #[.int .i64 1, .int .i64 0] 26)
      have h23 : Hid (Bo (u2.heap.size + 1) 4 0 0 (u3.alloc (.cells #[.int .i64 1, .int .i64 0] 26))) := h18.out.new (.cells #[.int .i64 1, .int .i64 0] 26)
      have h24 : Hid (IsL 0 (u3.alloc (.cells #[.int .i64 1, .int .i64 0] 26)) q1 (ys ++ [pk x])) := h19.out.new (.cells #[.int .i64 1, .int .i64 0] 26)
      clear h15 h16 h17 h18 h19
      have h25 : Hid (Bx (u3.heap.size) 1 0 (u3.alloc (.cells #[.int .i64 1, .int .i64 0] 26))) := Bx.bornAt u3 1 0 26 (by simp)
      have x26 := h25.out.c0
      have x27 := h25.out.c1
      have x28 := h23.out.c0
      have x29 := h23.out.c1
      have x30 := h23.out.c2
      have x31 := h23.out.lt
      go_wp2_with fail
      refine (dDo_eq 0 h24.out (by simp; omega) (ddo_last ys (pk x) 0)).mono ?_
      rintro e u4 ⟨q2, rfl, hi, hb⟩
      have h32 : Hid (Gd w u4) := h20.out.later hb
      have h33 : Hid (IsL 0 u4 (.slice a ys.length c) ys) := h21.out.later hb
      have h34 : Hid (Bo (u2.heap.size) 1 0 (pk x) u4) := h22.out.later hb
      have h35 : Hid (Bo (u2.heap.size + 1) 4 0 0 u4) := h23.out.later hb
      have h36 : Hid (IsL 0 u4 q1 (ys ++ [pk x])) := h24.out.later hb
      have h37 : Hid (Bx (u3.heap.size) 1 0 u4) := h25.out.later hb
      clear h20 h21 h22 h23 h24 h25
      have h38 : Hid (IsL 0 u4 q2 ys) := hi.any
      clear hb hi
      have h39 : Hid (Gd w (u4.alloc (.cells #[.int .i64 1, .int .i64 (pk x)] 26))) := h32.out.new (.cells #[.int .i64 1, .int .i64 (pk x)] 26)
      have h40 : Hid (IsL 0 (u4.alloc (.cells #[.int .i64 1, .int .i64 (pk x)] 26)) (.slice a ys.length c) ys) := h33.out.new (.cells #[.int .i64 1, .int .i64 (pk x)] 26)
      have h41 : Hid (Bo (u2.heap.size) 1 0 (pk x) (u4.alloc (.cells #[.int .i64 1, .int .i64 (pk x)] 26))) := h34.out.new (.cells #[.int .i64 1, .int .i64 (pk x)] 26)
      have h42 : Hid (Bo (u2.heap.size + 1) 4 0 0 (u4.alloc (.cells #[.int .i64 1, .int .i64 (pk x)] 26))) := h35.out.new (.cells #[.int .i64 1, .int .i64 (pk x)] 26)
      have h43 : Hid (IsL 0 (u4.alloc (.cells #[.int .i64 1, .int .i64 (pk x)] 26)) q1 (ys ++ [pk x])) := h36.out.new (.cells #[.int .i64 1, .int .i64 (pk x)] 26)
      have h44 : Hid (Bx (u3.heap.size) 1 0 (u4.alloc (.cells #[.int .i64 1, .int .i64 (pk x)] 26))) := h37.out.new (.cells #[.int .i64 1, .int .i64 (pk x)] 26)
      have h45 : Hid (IsL 0 (u4.alloc (.cells #[.int .i64 1, .int .i64 (pk x)] 26)) q2 ys) := h38.out.new (.cells #[.int .i64 1, .int .i64 (pk x)] 26)
      clear h32 h33 h34 h35 h36 h37 h38
      have h46 : Hid (Bx (u4.heap.size) 1 (pk x) (u4.alloc (.cells #[.int .i64 1, .int .i64 (pk x)] 26))) := Bx.bornAt u4 1 (pk x) 26 (by simp)
      have x47 := h44.out.c0
      have x48 := h44.out.c1
      have x49 := h46.out.c0
      have x50 := h46.out.c1
      go_wp2_with fail
      refine (Equal_same h45.out h40.out (by omega)).mono ?_
      rintro e u5 ⟨rfl, hb⟩
      have h51 : Hid (Gd w u5) := h39.out.later hb
      have h52 : Hid (IsL 0 u5 (.slice a ys.length c) ys) := h40.out.later hb
      have h53 : Hid (Bo (u2.heap.size) 1 0 (pk x) u5) := h41.out.later hb
      have h54 : Hid (Bo (u2.heap.size + 1) 4 0 0 u5) := h42.out.later hb
      have h55 : Hid (IsL 0 u5 q1 (ys ++ [pk x])) := h43.out.later hb
      have h56 : Hid (Bx (u3.heap.size) 1 0 u5) := h44.out.later hb
      have h57 : Hid (IsL 0 u5 q2 ys) := h45.out.later hb
      have h58 : Hid (Bx (u4.heap.size) 1 (pk x) u5) := h46.out.later hb
      clear h39 h40 h41 h42 h43 h44 h45 h46
      clear hb
      have x59 := h56.out.c0
      have x60 := h56.out.c1
      have x61 := h58.out.c0
      have x62 := h58.out.c1
      go_wp2
      go_ret
      exact ⟨rfl, h51.out⟩
  · by_cases h6 : ys.length = 6
    · have h6i : ((ys.length : Int) == 6) = true := by rw [beq_iff_eq]; omega
      have H6 : Hid (6 ≤ ys.length) := (by omega : 6 ≤ ys.length)
      clear h6
      go_enter Try.func7, Try.ntmps7
      go_wp2_with fail
      refine (dealt_is _).mono ?_
      rintro e u1 ⟨rfl, hb⟩
      have h3 : Hid (IsL 0 u1 v xs) := h1.out.later hb
      have h4 : Hid (Gd w u1) := h2.out.later hb
      clear h1 h2
      clear hb
      go_wp2_with fail
      refine (few_is h3.out hlx.out).mono ?_
      rintro e u2 ⟨l, rfl, hi, hb⟩
      rw [← HY.out] at hi
      obtain ⟨a, c, rfl⟩ := hi.form
      have h5 : Hid (IsL 0 u2 v xs) := h3.out.later hb
      have h6 : Hid (Gd w u2) := h4.out.later hb
      clear h3 h4
      have h7 : Hid (IsL 0 u2 (.slice a ys.length c) ys) := hi.any
      clear hb hi
      clear h5
      go_wp2_with fail
      refine (pick_is _ _).mono ?_
      rintro e u ⟨rfl, hw⟩
      rw [hw]; clear hw u
      have h8 : Hid (Gd w (u2.alloc (.cells #[.int .i64 3, .int .i64 0, .int .i64 (pk x)] 24))) := h6.out.new (.cells #[.int .i64 3, .int .i64 0, .int .i64 (pk x)] 24)
      have h9 : Hid (IsL 0 (u2.alloc (.cells #[.int .i64 3, .int .i64 0, .int .i64 (pk x)] 24)) (.slice a ys.length c) ys) := h7.out.new (.cells #[.int .i64 3, .int .i64 0, .int .i64 (pk x)] 24)
      clear h6 h7
      have h10 : Hid (Bo (u2.heap.size) 3 0 (pk x) (u2.alloc (.cells #[.int .i64 3, .int .i64 0, .int .i64 (pk x)] 24))) := Bo.bornAt u2 3 0 (pk x) 24 (by simp)
      have h11 : Hid (Gd w ((u2.alloc (.cells #[.int .i64 3, .int .i64 0, .int .i64 (pk x)] 24)).alloc (.cells #[.int .i64 2, .int .i64 0, .int .i64 0] 24))) := h8.out.new (.cells #[.int .i64 2, .int .i64 0, .int .i64 0] 24)
      have h12 : Hid (IsL 0 ((u2.alloc (.cells #[.int .i64 3, .int .i64 0, .int .i64 (pk x)] 24)).alloc (.cells #[.int .i64 2, .int .i64 0, .int .i64 0] 24)) (.slice a ys.length c) ys) := h9.out.new (.cells #[.int .i64 2, .int .i64 0, .int .i64 0] 24)
      have h13 : Hid (Bo (u2.heap.size) 3 0 (pk x) ((u2.alloc (.cells #[.int .i64 3, .int .i64 0, .int .i64 (pk x)] 24)).alloc (.cells #[.int .i64 2, .int .i64 0, .int .i64 0] 24))) := h10.out.new (.cells #[.int .i64 2, .int .i64 0, .int .i64 0] 24)
      clear h8 h9 h10
      have h14 : Hid (Bo (u2.heap.size + 1) 2 0 0 ((u2.alloc (.cells #[.int .i64 3, .int .i64 0, .int .i64 (pk x)] 24)).alloc (.cells #[.int .i64 2, .int .i64 0, .int .i64 0] 24))) := Bo.bornAt (u2.alloc (.cells #[.int .i64 3, .int .i64 0, .int .i64 (pk x)] 24)) 2 0 0 24 (by simp)
      go_wp2_with fail
      refine (dDo_eq 0 h12.out (by omega) (ddo_ffull (pk x) H6.out)).mono ?_
      rintro e u3 ⟨q1, rfl, hi, hb⟩
      have h15 : Hid (Gd w u3) := h11.out.later hb
      have h16 : Hid (IsL 0 u3 (.slice a ys.length c) ys) := h12.out.later hb
      have h17 : Hid (Bo (u2.heap.size) 3 0 (pk x) u3) := h13.out.later hb
      have h18 : Hid (Bo (u2.heap.size + 1) 2 0 0 u3) := h14.out.later hb
      clear h11 h12 h13 h14
      have h19 : Hid (IsL 0 u3 q1 ys) := hi.any
      clear hb hi
      have h20 : Hid (Gd w (u3.alloc (.cells #[.int .i64 3, .int .i64 0] 26))) := h15.out.new (.cells #[.int .i64 3, .int .i64 0] 26)
      have h21 : Hid (IsL 0 (u3.alloc (.cells #[.int .i64 3, .int .i64 0] 26)) (.slice a ys.length c) ys) := h16.out.new (.cells #[.int .i64 3, .int .i64 0] 26)
      have h22 : Hid (Bo (u2.heap.size) 3 0 (pk x) (u3.alloc (.cells #[.int .i64 3, .int .i64 0] 26))) := h17.out.new (.cells #[.int .i64 3, .int .i64 0] 26)
      have h23 : Hid (Bo (u2.heap.size + 1) 2 0 0 (u3.alloc (.cells #[.int .i64 3, .int .i64 0] 26))) := h18.out.new (.cells #[.int .i64 3, .int .i64 0] 26)
      have h24 : Hid (IsL 0 (u3.alloc (.cells #[.int .i64 3, .int .i64 0] 26)) q1 ys) := h19.out.new (.cells #[.int .i64 3, .int .i64 0] 26)
      clear h15 h16 h17 h18 h19
      have h25 : Hid (Bx (u3.heap.size) 3 0 (u3.alloc (.cells #[.int .i64 3, .int .i64 0] 26))) := Bx.bornAt u3 3 0 26 (by simp)
      have x26 := h25.out.c0
      have x27 := h25.out.c1
      go_wp2_with fail
      refine (Equal_same h24.out h21.out (by omega)).mono ?_
      rintro e u4 ⟨rfl, hb⟩
      have h28 : Hid (Gd w u4) := h20.out.later hb
      have h29 : Hid (IsL 0 u4 (.slice a ys.length c) ys) := h21.out.later hb
      have h30 : Hid (Bo (u2.heap.size) 3 0 (pk x) u4) := h22.out.later hb
      have h31 : Hid (Bo (u2.heap.size + 1) 2 0 0 u4) := h23.out.later hb
      have h32 : Hid (IsL 0 u4 q1 ys) := h24.out.later hb
      have h33 : Hid (Bx (u3.heap.size) 3 0 u4) := h25.out.later hb
      clear h20 h21 h22 h23 h24 h25
      clear hb
      go_wp2
      go_ret
      exact ⟨rfl, h28.out⟩
    · have H6 : Hid (ys.length < 6) := (by omega : ys.length < 6)
      clear h6
      go_enter Try.func7, Try.ntmps7
      go_wp2_with fail
      refine (dealt_is _).mono ?_
      rintro e u1 ⟨rfl, hb⟩
      have h3 : Hid (IsL 0 u1 v xs) := h1.out.later hb
      have h4 : Hid (Gd w u1) := h2.out.later hb
      clear h1 h2
      clear hb
      go_wp2_with fail
      refine (few_is h3.out hlx.out).mono ?_
      rintro e u2 ⟨l, rfl, hi, hb⟩
      rw [← HY.out] at hi
      obtain ⟨a, c, rfl⟩ := hi.form
      have h5 : Hid (IsL 0 u2 v xs) := h3.out.later hb
      have h6 : Hid (Gd w u2) := h4.out.later hb
      clear h3 h4
      have h7 : Hid (IsL 0 u2 (.slice a ys.length c) ys) := hi.any
      clear hb hi
      clear h5
      go_wp2_with fail
      refine (pick_is _ _).mono ?_
      rintro e u ⟨rfl, hw⟩
      rw [hw]; clear hw u
      have h8 : Hid (Gd w (u2.alloc (.cells #[.int .i64 3, .int .i64 0, .int .i64 (pk x)] 24))) := h6.out.new (.cells #[.int .i64 3, .int .i64 0, .int .i64 (pk x)] 24)
      have h9 : Hid (IsL 0 (u2.alloc (.cells #[.int .i64 3, .int .i64 0, .int .i64 (pk x)] 24)) (.slice a ys.length c) ys) := h7.out.new (.cells #[.int .i64 3, .int .i64 0, .int .i64 (pk x)] 24)
      clear h6 h7
      have h10 : Hid (Bo (u2.heap.size) 3 0 (pk x) (u2.alloc (.cells #[.int .i64 3, .int .i64 0, .int .i64 (pk x)] 24))) := Bo.bornAt u2 3 0 (pk x) 24 (by simp)
      have h11 : Hid (Gd w ((u2.alloc (.cells #[.int .i64 3, .int .i64 0, .int .i64 (pk x)] 24)).alloc (.cells #[.int .i64 2, .int .i64 0, .int .i64 0] 24))) := h8.out.new (.cells #[.int .i64 2, .int .i64 0, .int .i64 0] 24)
      have h12 : Hid (IsL 0 ((u2.alloc (.cells #[.int .i64 3, .int .i64 0, .int .i64 (pk x)] 24)).alloc (.cells #[.int .i64 2, .int .i64 0, .int .i64 0] 24)) (.slice a ys.length c) ys) := h9.out.new (.cells #[.int .i64 2, .int .i64 0, .int .i64 0] 24)
      have h13 : Hid (Bo (u2.heap.size) 3 0 (pk x) ((u2.alloc (.cells #[.int .i64 3, .int .i64 0, .int .i64 (pk x)] 24)).alloc (.cells #[.int .i64 2, .int .i64 0, .int .i64 0] 24))) := h10.out.new (.cells #[.int .i64 2, .int .i64 0, .int .i64 0] 24)
      clear h8 h9 h10
      have h14 : Hid (Bo (u2.heap.size + 1) 2 0 0 ((u2.alloc (.cells #[.int .i64 3, .int .i64 0, .int .i64 (pk x)] 24)).alloc (.cells #[.int .i64 2, .int .i64 0, .int .i64 0] 24))) := Bo.bornAt (u2.alloc (.cells #[.int .i64 3, .int .i64 0, .int .i64 (pk x)] 24)) 2 0 0 24 (by simp)
      go_wp2_with fail
      refine (dDo_eq 0 h12.out (by omega) (ddo_front (pk x) H6.out)).mono ?_
      rintro e u3 ⟨q1, rfl, hi, hb⟩
      have h15 : Hid (Gd w u3) := h11.out.later hb
      have h16 : Hid (IsL 0 u3 (.slice a ys.length c) ys) := h12.out.later hb
      have h17 : Hid (Bo (u2.heap.size) 3 0 (pk x) u3) := h13.out.later hb
      have h18 : Hid (Bo (u2.heap.size + 1) 2 0 0 u3) := h14.out.later hb
      clear h11 h12 h13 h14
      have h19 : Hid (IsL 0 u3 q1 (pk x :: ys)) := hi.any
      clear hb hi
      have h20 : Hid (Gd w (u3.alloc (.cells #[.int .i64 1, .int .i64 0] 26))) := h15.out.new (.cells #[.int .i64 1, .int .i64 0] 26)
      have h21 : Hid (IsL 0 (u3.alloc (.cells #[.int .i64 1, .int .i64 0] 26)) (.slice a ys.length c) ys) := h16.out.new (.cells #[.int .i64 1, .int .i64 0] 26)
      have h22 : Hid (Bo (u2.heap.size) 3 0 (pk x) (u3.alloc (.cells #[.int .i64 1, .int .i64 0] 26))) := h17.out.new (.cells #[.int .i64 1, .int .i64 0] 26)
      have h23 : Hid (Bo (u2.heap.size + 1) 2 0 0 (u3.alloc (.cells #[.int .i64 1, .int .i64 0] 26))) := h18.out.new (.cells #[.int .i64 1, .int .i64 0] 26)
      have h24 : Hid (IsL 0 (u3.alloc (.cells #[.int .i64 1, .int .i64 0] 26)) q1 (pk x :: ys)) := h19.out.new (.cells #[.int .i64 1, .int .i64 0] 26)
      clear h15 h16 h17 h18 h19
      have h25 : Hid (Bx (u3.heap.size) 1 0 (u3.alloc (.cells #[.int .i64 1, .int .i64 0] 26))) := Bx.bornAt u3 1 0 26 (by simp)
      have x26 := h25.out.c0
      have x27 := h25.out.c1
      have x28 := h23.out.c0
      have x29 := h23.out.c1
      have x30 := h23.out.c2
      have x31 := h23.out.lt
      go_wp2_with fail
      refine (dDo_eq 0 h24.out (by simp; omega) (ddo_take ys (pk x) 0)).mono ?_
      rintro e u4 ⟨q2, rfl, hi, hb⟩
      have h32 : Hid (Gd w u4) := h20.out.later hb
      have h33 : Hid (IsL 0 u4 (.slice a ys.length c) ys) := h21.out.later hb
      have h34 : Hid (Bo (u2.heap.size) 3 0 (pk x) u4) := h22.out.later hb
      have h35 : Hid (Bo (u2.heap.size + 1) 2 0 0 u4) := h23.out.later hb
      have h36 : Hid (IsL 0 u4 q1 (pk x :: ys)) := h24.out.later hb
      have h37 : Hid (Bx (u3.heap.size) 1 0 u4) := h25.out.later hb
      clear h20 h21 h22 h23 h24 h25
      have h38 : Hid (IsL 0 u4 q2 ys) := hi.any
      clear hb hi
      have h39 : Hid (Gd w (u4.alloc (.cells #[.int .i64 1, .int .i64 (pk x)] 26))) := h32.out.new (.cells #[.int .i64 1, .int .i64 (pk x)] 26)
      have h40 : Hid (IsL 0 (u4.alloc (.cells #[.int .i64 1, .int .i64 (pk x)] 26)) (.slice a ys.length c) ys) := h33.out.new (.cells #[.int .i64 1, .int .i64 (pk x)] 26)
      have h41 : Hid (Bo (u2.heap.size) 3 0 (pk x) (u4.alloc (.cells #[.int .i64 1, .int .i64 (pk x)] 26))) := h34.out.new (.cells #[.int .i64 1, .int .i64 (pk x)] 26)
      have h42 : Hid (Bo (u2.heap.size + 1) 2 0 0 (u4.alloc (.cells #[.int .i64 1, .int .i64 (pk x)] 26))) := h35.out.new (.cells #[.int .i64 1, .int .i64 (pk x)] 26)
      have h43 : Hid (IsL 0 (u4.alloc (.cells #[.int .i64 1, .int .i64 (pk x)] 26)) q1 (pk x :: ys)) := h36.out.new (.cells #[.int .i64 1, .int .i64 (pk x)] 26)
      have h44 : Hid (Bx (u3.heap.size) 1 0 (u4.alloc (.cells #[.int .i64 1, .int .i64 (pk x)] 26))) := h37.out.new (.cells #[.int .i64 1, .int .i64 (pk x)] 26)
      have h45 : Hid (IsL 0 (u4.alloc (.cells #[.int .i64 1, .int .i64 (pk x)] 26)) q2 ys) := h38.out.new (.cells #[.int .i64 1, .int .i64 (pk x)] 26)
      clear h32 h33 h34 h35 h36 h37 h38
      have h46 : Hid (Bx (u4.heap.size) 1 (pk x) (u4.alloc (.cells #[.int .i64 1, .int .i64 (pk x)] 26))) := Bx.bornAt u4 1 (pk x) 26 (by simp)
      have x47 := h44.out.c0
      have x48 := h44.out.c1
      have x49 := h46.out.c0
      have x50 := h46.out.c1
      go_wp2_with fail
      refine (Equal_same h45.out h40.out (by omega)).mono ?_
      rintro e u5 ⟨rfl, hb⟩
      have h51 : Hid (Gd w u5) := h39.out.later hb
      have h52 : Hid (IsL 0 u5 (.slice a ys.length c) ys) := h40.out.later hb
      have h53 : Hid (Bo (u2.heap.size) 3 0 (pk x) u5) := h41.out.later hb
      have h54 : Hid (Bo (u2.heap.size + 1) 2 0 0 u5) := h42.out.later hb
      have h55 : Hid (IsL 0 u5 q1 (pk x :: ys)) := h43.out.later hb
      have h56 : Hid (Bx (u3.heap.size) 1 0 u5) := h44.out.later hb
      have h57 : Hid (IsL 0 u5 q2 ys) := h45.out.later hb
      have h58 : Hid (Bx (u4.heap.size) 1 (pk x) u5) := h46.out.later hb
      clear h39 h40 h41 h42 h43 h44 h45 h46
      clear hb
      have x59 := h56.out.c0
      have x60 := h56.out.c1
      have x61 := h58.out.c0
      have x62 := h58.out.c1
      go_wp2
      go_ret
      exact ⟨rfl, h51.out⟩


set_option maxRecDepth 100000 in
theorem lifted (os : Os) (started : os.Started) (H : Type) (enc : TypeId × Value → H) :
    ReturnsInHanded {} Try.checked os 7 .any (Rows.dequeBackSpec.pre6 enc Try.prog Try.f7 Rows.dequeBackRow.domain false) (Rows.dequeBackSpec.post enc Try.prog Try.f7 false true false false) := by
  refine returnsInHanded_of_change (C := Try.checked) own started (by kernel_rfl) Try.func7
    (ChangeSpec.witness6 (enc := enc) (C := Try.checked) false ⟨#[], #[.slice none 0 0, .int .i64 0, .bool false], []⟩ 8 (by kernel_rfl) (by kernel_rfl) (by kernel_rfl) (by kernel_rfl)) ?_
  intro W base args ds gs before hval0 hW hcnd _
  have hval : ∀ (j : Nat) t v, Try.f7.params[j]? = some t → args[j]? = some v → Value.okWide Try.prog W .any base t v := hval0
  have hW' := hW
  obtain ⟨p, q, hA0, hV, rfl, hfz, hnd⟩ := hW
  have hA : DataW.TrodAll enc Try.prog W 0 (fun _ => true) true Try.f7.params.toList args.toList ds p := hA0
  rw [Try.params7] at hA hval
  obtain ⟨v0, vs0, d0, ds0, p0, q0, hargs, rfl, rfl, h0, r0⟩ := trodAll_cons hA
  obtain ⟨v1, vs1, d1, ds1, p1, q1, rfl, rfl, rfl, h1, r1⟩ := trodAll_cons r0
  obtain ⟨v2, vs2, d2, ds2, p2, q2, rfl, rfl, rfl, h2, r2⟩ := trodAll_cons r1
  obtain ⟨rfl, rfl, rfl⟩ := trodAll_nil r2
  obtain rfl : args = #[v0, v1, v2] := by cases args; simp_all
  obtain ⟨rfl, rfl⟩ := trodVars_none hV
  obtain ⟨n0, D0⟩ := ints_of_trod (hval 0 22 v0 rfl rfl) h0
  obtain ⟨a1, rfl, rfl, rfl, w1⟩ := open_int Try.underlying3 (hval 1 3 v1 rfl rfl) h1
  obtain ⟨a2, rfl, rfl, rfl⟩ := open_bool Try.underlying4 (hval 2 4 v2 rfl rfl) h2
  have hlt := hW'.lt
  clear hA0 hval0
  refine (walk v0 n0 a1 a2 w1 W  D0).mono fun e W' ⟨he, hg⟩ => ?_
  subst he
  exact ⟨_, rfl, post_below (pv := []) hW' (fun _ _ _ => (trodAll_cons_mk (shut_bool Try.underlying4 _) trodAll_mk0)) (fun sp hsp => (trodAll_cons_mk (ints_stay h0 hg (fun x hx => hlt x (by simp [hx])) (fun x hx => hsp x (by simp [hx]))) (trodAll_cons_mk (shut_int Try.underlying3 w1) (trodAll_cons_mk (shut_bool Try.underlying4 _) trodAll_mk0)))) (fun _ _ => rfl) (by simp) (hg.frame _)⟩

theorem over : Rows.dequeBackRow.holds Try.pinned (OpenSpec.ofChange Rows.dequeBackSpec) :=
  OpenClaim.holds_of_wide 7 Try.f7 rfl rfl rfl rfl rfl rfl rfl ⟨rfl, rfl, rfl, rfl, rfl⟩ rfl rfl rfl rfl rfl (by kernel_rfl) Try.func7 (by kernel_rfl)
    (of_decide_eq_true (by kernel_rfl)) (by unfold Func.isWrapper; first | (rw [if_pos (by decide +kernel)]; kernel_rfl) | (rw [if_neg (by decide +kernel)]; exact ⟨rfl, rfl⟩))
    (fun os started H enc _ => lifted os started H enc)

theorem proved : Rows.DequeBackSaid :=
  over
#print axioms proved
end Go.Proofs.Ytdheglnbdokjcaa.dequeBack
