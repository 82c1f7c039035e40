/- DequeTurns is proved: for every list and value, at each end, in and out, the call returns true (what is done at one end is done at the other one of what is turned round). -/
import Derived.Test.YtdheglnbdokjcaaRows
import Derived.Test.YtdheglnbdokjcaaArgL
import Derived.Test.YtdheglnbdokjcaaRv
import Derived.ChangeAlike

namespace Go.Proofs.Ytdheglnbdokjcaa.dequeTurns
open Go.ChangeShapes Go.WideShapes Go.ChangeAt Go.RowKit
set_option linter.unusedVariables false

theorem own : ownKnob Try.prog.godebug = none := by kernel_rfl

set_option maxHeartbeats 4000000 in
theorem walk (v : Value) (xs : List Int) (x : Int) (f t : Bool) (_w0 : (Lit.int .i64 x).wf = true) (w : World) (D : In w v xs) :
    Calls Try.prog 4 #[v, .int .i64 x, .bool f, .bool t] w fun e w' => e = .returned (.bool true) ∧ Below w.heap.size w w' := by
  obtain ⟨ys, hys⟩ : ∃ ys, ys = fw xs := ⟨_, rfl⟩
  have hl6 : ys.length ≤ 6 := by rw [hys]; exact fw_le _
  have HY : Hid (ys = fw xs) := hys
  clear hys
  have hlx : Hid (xs.length ≤ 9223372036854775807) := D.2
  have h1 : Hid (IsL 0 w v xs) := D.1
  clear D
  have h2 : Hid (Gd w w) := Gd.refl w
  cases f
  · cases t
    · obtain ⟨⟨zs, cc, yy⟩, hq⟩ : ∃ p, ddo ys 1 (pk x) = p := ⟨_, rfl⟩
      have E1 : Hid (ddo ys 1 (pk x) = (zs, cc, yy)) := hq
      clear hq
      have E2 : Hid (ddo ys.reverse 3 (pk x) = (zs.reverse, cc, yy)) := turn13 E1.out
      have HL : Hid (zs.length ≤ 1000000) := Nat.le_trans (ddo_len E1.out) (by omega)
      have HR : Hid (zs.reverse.length ≤ 1000000) := by rw [List.length_reverse]; exact HL
      go_enter Try.func4, Try.ntmps4
      go_wp2_with fail
      refine (dealt_is _).mono ?_
      rintro e u1 ⟨rfl, hb⟩
      have h3 : Hid (IsL 0 u1 v xs) := h1.out.later hb
      have h4 : Hid (Gd w u1) := h2.out.later hb
      clear h1 h2
      clear hb
      go_wp2_with fail
      refine (few_is h3.out hlx.out).mono ?_
      rintro e u2 ⟨l, rfl, hi, hb⟩
      rw [← HY.out] at hi
      obtain ⟨a, c, rfl⟩ := hi.form
      have h5 : Hid (IsL 0 u2 v xs) := h3.out.later hb
      have h6 : Hid (Gd w u2) := h4.out.later hb
      clear h3 h4
      have h7 : Hid (IsL 0 u2 (.slice a ys.length c) ys) := hi.any
      clear hb hi
      clear h5
      go_wp2_with fail
      refine (pick_is _ _).mono ?_
      rintro e u ⟨rfl, hw⟩
      rw [hw]; clear hw u
      go_wp2_with fail
      refine (Clone_is h7.out (by omega)).mono ?_
      rintro e m1 ⟨bk, rfl, ho, hb⟩
      have O1 : Hid (Own u2.heap.size m1 bk ys) := ho
      have G1 : Hid (Below u2.heap.size u2 m1) := hb
      clear ho hb
      go_wp2_with fail
      refine (Reverse_own O1.out G1.out.size (by omega)).mono ?_
      rintro e m2 ⟨rfl, hi, hb2⟩
      have hb : Below u2.heap.size u2 m2 := G1.out.trans hb2
      clear hb2 O1 G1
      have h8 : Hid (Gd w m2) := h6.out.later hb
      have h9 : Hid (IsL 0 m2 (.slice a ys.length c) ys) := h7.out.later hb
      clear h6 h7
      have h10 : Hid (IsL 0 m2 bk ys.reverse) := hi
      clear hb hi
      have h11 : Hid (Gd w (m2.alloc (.cells #[.int .i64 1, .int .i64 0, .int .i64 (pk x)] 24))) := h8.out.new (.cells #[.int .i64 1, .int .i64 0, .int .i64 (pk x)] 24)
      have h12 : Hid (IsL 0 (m2.alloc (.cells #[.int .i64 1, .int .i64 0, .int .i64 (pk x)] 24)) (.slice a ys.length c) ys) := h9.out.new (.cells #[.int .i64 1, .int .i64 0, .int .i64 (pk x)] 24)
      have h13 : Hid (IsL 0 (m2.alloc (.cells #[.int .i64 1, .int .i64 0, .int .i64 (pk x)] 24)) bk ys.reverse) := h10.out.new (.cells #[.int .i64 1, .int .i64 0, .int .i64 (pk x)] 24)
      clear h8 h9 h10
      have h14 : Hid (Bo (m2.heap.size) 1 0 (pk x) (m2.alloc (.cells #[.int .i64 1, .int .i64 0, .int .i64 (pk x)] 24))) := Bo.bornAt m2 1 0 (pk x) 24 (by simp)
      have h15 : Hid (Gd w ((m2.alloc (.cells #[.int .i64 1, .int .i64 0, .int .i64 (pk x)] 24)).alloc (.cells #[.int .i64 3, .int .i64 0, .int .i64 (pk x)] 24))) := h11.out.new (.cells #[.int .i64 3, .int .i64 0, .int .i64 (pk x)] 24)
      have h16 : Hid (IsL 0 ((m2.alloc (.cells #[.int .i64 1, .int .i64 0, .int .i64 (pk x)] 24)).alloc (.cells #[.int .i64 3, .int .i64 0, .int .i64 (pk x)] 24)) (.slice a ys.length c) ys) := h12.out.new (.cells #[.int .i64 3, .int .i64 0, .int .i64 (pk x)] 24)
      have h17 : Hid (IsL 0 ((m2.alloc (.cells #[.int .i64 1, .int .i64 0, .int .i64 (pk x)] 24)).alloc (.cells #[.int .i64 3, .int .i64 0, .int .i64 (pk x)] 24)) bk ys.reverse) := h13.out.new (.cells #[.int .i64 3, .int .i64 0, .int .i64 (pk x)] 24)
      have h18 : Hid (Bo (m2.heap.size) 1 0 (pk x) ((m2.alloc (.cells #[.int .i64 1, .int .i64 0, .int .i64 (pk x)] 24)).alloc (.cells #[.int .i64 3, .int .i64 0, .int .i64 (pk x)] 24))) := h14.out.new (.cells #[.int .i64 3, .int .i64 0, .int .i64 (pk x)] 24)
      clear h11 h12 h13 h14
      have h19 : Hid (Bo (m2.heap.size + 1) 3 0 (pk x) ((m2.alloc (.cells #[.int .i64 1, .int .i64 0, .int .i64 (pk x)] 24)).alloc (.cells #[.int .i64 3, .int .i64 0, .int .i64 (pk x)] 24))) := Bo.bornAt (m2.alloc (.cells #[.int .i64 1, .int .i64 0, .int .i64 (pk x)] 24)) 3 0 (pk x) 24 (by simp)
      go_wp2_with fail
      refine (dDo_eq 0 h16.out (by omega) E1.out).mono ?_
      rintro e u3 ⟨q1, rfl, hi, hb⟩
      have h20 : Hid (Gd w u3) := h15.out.later hb
      have h21 : Hid (IsL 0 u3 (.slice a ys.length c) ys) := h16.out.later hb
      have h22 : Hid (IsL 0 u3 bk ys.reverse) := h17.out.later hb
      have h23 : Hid (Bo (m2.heap.size) 1 0 (pk x) u3) := h18.out.later hb
      have h24 : Hid (Bo (m2.heap.size + 1) 3 0 (pk x) u3) := h19.out.later hb
      clear h15 h16 h17 h18 h19
      have h25 : Hid (IsL 0 u3 q1 zs) := hi.any
      clear hb hi
      have x26 := h24.out.c0
      have x27 := h24.out.c1
      have x28 := h24.out.c2
      have x29 := h24.out.lt
      have h30 : Hid (Gd w (u3.alloc (.cells #[.int .i64 cc, .int .i64 yy] 26))) := h20.out.new (.cells #[.int .i64 cc, .int .i64 yy] 26)
      have h31 : Hid (IsL 0 (u3.alloc (.cells #[.int .i64 cc, .int .i64 yy] 26)) (.slice a ys.length c) ys) := h21.out.new (.cells #[.int .i64 cc, .int .i64 yy] 26)
      have h32 : Hid (IsL 0 (u3.alloc (.cells #[.int .i64 cc, .int .i64 yy] 26)) bk ys.reverse) := h22.out.new (.cells #[.int .i64 cc, .int .i64 yy] 26)
      have h33 : Hid (Bo (m2.heap.size) 1 0 (pk x) (u3.alloc (.cells #[.int .i64 cc, .int .i64 yy] 26))) := h23.out.new (.cells #[.int .i64 cc, .int .i64 yy] 26)
      have h34 : Hid (Bo (m2.heap.size + 1) 3 0 (pk x) (u3.alloc (.cells #[.int .i64 cc, .int .i64 yy] 26))) := h24.out.new (.cells #[.int .i64 cc, .int .i64 yy] 26)
      have h35 : Hid (IsL 0 (u3.alloc (.cells #[.int .i64 cc, .int .i64 yy] 26)) q1 zs) := h25.out.new (.cells #[.int .i64 cc, .int .i64 yy] 26)
      clear h20 h21 h22 h23 h24 h25
      have h36 : Hid (Bx (u3.heap.size) cc yy (u3.alloc (.cells #[.int .i64 cc, .int .i64 yy] 26))) := Bx.bornAt u3 cc yy 26 (by simp)
      clear h31
      clear h33
      go_wp2_with fail
      refine (dDo_eq 0 h32.out (by rw [List.length_reverse]; omega) E2.out).mono ?_
      rintro e m3 ⟨q2, rfl, hi, hb⟩
      have HB : Hid (Below (u3.alloc (.cells #[.int .i64 cc, .int .i64 yy] 26)).heap.size (u3.alloc (.cells #[.int .i64 cc, .int .i64 yy] 26)) m3) := hb
      have K0 : Hid (IsL (u3.alloc (.cells #[.int .i64 cc, .int .i64 yy] 26)).heap.size m3 q2 zs.reverse) := hi
      clear hi hb
      have K1 : Hid (IsL (u3.alloc (.cells #[.int .i64 cc, .int .i64 yy] 26)).heap.size (m3.alloc (.cells #[.int .i64 cc, .int .i64 yy] 26)) q2 zs.reverse) := K0.out.new _
      have Q0 : Hid (Bx m3.heap.size cc yy (m3.alloc (.cells #[.int .i64 cc, .int .i64 yy] 26))) := Bx.born m3 cc yy _
      go_wp2_with fail
      refine (Reverse_is K0.out K1.out (by simp) HR.out).mono ?_
      rintro e m4 ⟨rfl, hi, row, hrow, hg⟩
      have hb : Below (u3.alloc (.cells #[.int .i64 cc, .int .i64 yy] 26)).heap.size (u3.alloc (.cells #[.int .i64 cc, .int .i64 yy] 26)) m4 := (HB.out.alloc HB.out.size _).grown hg (Nat.le_trans HB.out.size (by simp)) (fun n hn => (hrow n hn).1)
      have Q4 : Hid (Bx m3.heap.size cc yy m4) := Q0.out.aside hg (fun hn => by have := (hrow _ hn.symm).2; omega)
      have K4 : Hid (IsL 0 m4 q2 zs) := by have := hi.any; rwa [List.reverse_reverse] at this
      clear hi hrow hg HB K0 K1 Q0
      have h37 : Hid (Gd w m4) := h30.out.later hb
      have h38 : Hid (IsL 0 m4 bk ys.reverse) := h32.out.later hb
      have h39 : Hid (Bo (m2.heap.size + 1) 3 0 (pk x) m4) := h34.out.later hb
      have h40 : Hid (IsL 0 m4 q1 zs) := h35.out.later hb
      have h41 : Hid (Bx (u3.heap.size) cc yy m4) := h36.out.later hb
      clear h30 h32 h34 h35 h36
      clear hb
      clear h38
      clear h39
      have x42 := h41.out.c0
      have x43 := h41.out.c1
      have y0 := Q4.out.c0
      have y1 := Q4.out.c1
      go_wp2_with fail
      refine (Equal_same h40.out K4.out HL.out).mono ?_
      rintro e u4 ⟨rfl, hb⟩
      have h44 : Hid (Gd w u4) := h37.out.later hb
      have h45 : Hid (IsL 0 u4 q1 zs) := h40.out.later hb
      have h46 : Hid (Bx (u3.heap.size) cc yy u4) := h41.out.later hb
      clear h37 h40 h41
      clear hb
      go_wp2
      go_ret
      exact ⟨rfl, h44.out⟩
    · obtain ⟨⟨zs, cc, yy⟩, hq⟩ : ∃ p, ddo ys 2 0 = p := ⟨_, rfl⟩
      have E1 : Hid (ddo ys 2 0 = (zs, cc, yy)) := hq
      clear hq
      have E2 : Hid (ddo ys.reverse 4 0 = (zs.reverse, cc, yy)) := turn24 E1.out
      have HL : Hid (zs.length ≤ 1000000) := Nat.le_trans (ddo_len E1.out) (by omega)
      have HR : Hid (zs.reverse.length ≤ 1000000) := by rw [List.length_reverse]; exact HL
      go_enter Try.func4, Try.ntmps4
      go_wp2_with fail
      refine (dealt_is _).mono ?_
      rintro e u1 ⟨rfl, hb⟩
      have h3 : Hid (IsL 0 u1 v xs) := h1.out.later hb
      have h4 : Hid (Gd w u1) := h2.out.later hb
      clear h1 h2
      clear hb
      go_wp2_with fail
      refine (few_is h3.out hlx.out).mono ?_
      rintro e u2 ⟨l, rfl, hi, hb⟩
      rw [← HY.out] at hi
      obtain ⟨a, c, rfl⟩ := hi.form
      have h5 : Hid (IsL 0 u2 v xs) := h3.out.later hb
      have h6 : Hid (Gd w u2) := h4.out.later hb
      clear h3 h4
      have h7 : Hid (IsL 0 u2 (.slice a ys.length c) ys) := hi.any
      clear hb hi
      clear h5
      go_wp2_with fail
      refine (pick_is _ _).mono ?_
      rintro e u ⟨rfl, hw⟩
      rw [hw]; clear hw u
      go_wp2_with fail
      refine (Clone_is h7.out (by omega)).mono ?_
      rintro e m1 ⟨bk, rfl, ho, hb⟩
      have O1 : Hid (Own u2.heap.size m1 bk ys) := ho
      have G1 : Hid (Below u2.heap.size u2 m1) := hb
      clear ho hb
      go_wp2_with fail
      refine (Reverse_own O1.out G1.out.size (by omega)).mono ?_
      rintro e m2 ⟨rfl, hi, hb2⟩
      have hb : Below u2.heap.size u2 m2 := G1.out.trans hb2
      clear hb2 O1 G1
      have h8 : Hid (Gd w m2) := h6.out.later hb
      have h9 : Hid (IsL 0 m2 (.slice a ys.length c) ys) := h7.out.later hb
      clear h6 h7
      have h10 : Hid (IsL 0 m2 bk ys.reverse) := hi
      clear hb hi
      have h11 : Hid (Gd w (m2.alloc (.cells #[.int .i64 2, .int .i64 0, .int .i64 0] 24))) := h8.out.new (.cells #[.int .i64 2, .int .i64 0, .int .i64 0] 24)
      have h12 : Hid (IsL 0 (m2.alloc (.cells #[.int .i64 2, .int .i64 0, .int .i64 0] 24)) (.slice a ys.length c) ys) := h9.out.new (.cells #[.int .i64 2, .int .i64 0, .int .i64 0] 24)
      have h13 : Hid (IsL 0 (m2.alloc (.cells #[.int .i64 2, .int .i64 0, .int .i64 0] 24)) bk ys.reverse) := h10.out.new (.cells #[.int .i64 2, .int .i64 0, .int .i64 0] 24)
      clear h8 h9 h10
      have h14 : Hid (Bo (m2.heap.size) 2 0 0 (m2.alloc (.cells #[.int .i64 2, .int .i64 0, .int .i64 0] 24))) := Bo.bornAt m2 2 0 0 24 (by simp)
      have h15 : Hid (Gd w ((m2.alloc (.cells #[.int .i64 2, .int .i64 0, .int .i64 0] 24)).alloc (.cells #[.int .i64 4, .int .i64 0, .int .i64 0] 24))) := h11.out.new (.cells #[.int .i64 4, .int .i64 0, .int .i64 0] 24)
      have h16 : Hid (IsL 0 ((m2.alloc (.cells #[.int .i64 2, .int .i64 0, .int .i64 0] 24)).alloc (.cells #[.int .i64 4, .int .i64 0, .int .i64 0] 24)) (.slice a ys.length c) ys) := h12.out.new (.cells #[.int .i64 4, .int .i64 0, .int .i64 0] 24)
      have h17 : Hid (IsL 0 ((m2.alloc (.cells #[.int .i64 2, .int .i64 0, .int .i64 0] 24)).alloc (.cells #[.int .i64 4, .int .i64 0, .int .i64 0] 24)) bk ys.reverse) := h13.out.new (.cells #[.int .i64 4, .int .i64 0, .int .i64 0] 24)
      have h18 : Hid (Bo (m2.heap.size) 2 0 0 ((m2.alloc (.cells #[.int .i64 2, .int .i64 0, .int .i64 0] 24)).alloc (.cells #[.int .i64 4, .int .i64 0, .int .i64 0] 24))) := h14.out.new (.cells #[.int .i64 4, .int .i64 0, .int .i64 0] 24)
      clear h11 h12 h13 h14
      have h19 : Hid (Bo (m2.heap.size + 1) 4 0 0 ((m2.alloc (.cells #[.int .i64 2, .int .i64 0, .int .i64 0] 24)).alloc (.cells #[.int .i64 4, .int .i64 0, .int .i64 0] 24))) := Bo.bornAt (m2.alloc (.cells #[.int .i64 2, .int .i64 0, .int .i64 0] 24)) 4 0 0 24 (by simp)
      go_wp2_with fail
      refine (dDo_eq 0 h16.out (by omega) E1.out).mono ?_
      rintro e u3 ⟨q1, rfl, hi, hb⟩
      have h20 : Hid (Gd w u3) := h15.out.later hb
      have h21 : Hid (IsL 0 u3 (.slice a ys.length c) ys) := h16.out.later hb
      have h22 : Hid (IsL 0 u3 bk ys.reverse) := h17.out.later hb
      have h23 : Hid (Bo (m2.heap.size) 2 0 0 u3) := h18.out.later hb
      have h24 : Hid (Bo (m2.heap.size + 1) 4 0 0 u3) := h19.out.later hb
      clear h15 h16 h17 h18 h19
      have h25 : Hid (IsL 0 u3 q1 zs) := hi.any
      clear hb hi
      have x26 := h24.out.c0
      have x27 := h24.out.c1
      have x28 := h24.out.c2
      have x29 := h24.out.lt
      have h30 : Hid (Gd w (u3.alloc (.cells #[.int .i64 cc, .int .i64 yy] 26))) := h20.out.new (.cells #[.int .i64 cc, .int .i64 yy] 26)
      have h31 : Hid (IsL 0 (u3.alloc (.cells #[.int .i64 cc, .int .i64 yy] 26)) (.slice a ys.length c) ys) := h21.out.new (.cells #[.int .i64 cc, .int .i64 yy] 26)
      have h32 : Hid (IsL 0 (u3.alloc (.cells #[.int .i64 cc, .int .i64 yy] 26)) bk ys.reverse) := h22.out.new (.cells #[.int .i64 cc, .int .i64 yy] 26)
      have h33 : Hid (Bo (m2.heap.size) 2 0 0 (u3.alloc (.cells #[.int .i64 cc, .int .i64 yy] 26))) := h23.out.new (.cells #[.int .i64 cc, .int .i64 yy] 26)
      have h34 : Hid (Bo (m2.heap.size + 1) 4 0 0 (u3.alloc (.cells #[.int .i64 cc, .int .i64 yy] 26))) := h24.out.new (.cells #[.int .i64 cc, .int .i64 yy] 26)
      have h35 : Hid (IsL 0 (u3.alloc (.cells #[.int .i64 cc, .int .i64 yy] 26)) q1 zs) := h25.out.new (.cells #[.int .i64 cc, .int .i64 yy] 26)
      clear h20 h21 h22 h23 h24 h25
      have h36 : Hid (Bx (u3.heap.size) cc yy (u3.alloc (.cells #[.int .i64 cc, .int .i64 yy] 26))) := Bx.bornAt u3 cc yy 26 (by simp)
      clear h31
      clear h33
      go_wp2_with fail
      refine (dDo_eq 0 h32.out (by rw [List.length_reverse]; omega) E2.out).mono ?_
      rintro e m3 ⟨q2, rfl, hi, hb⟩
      have HB : Hid (Below (u3.alloc (.cells #[.int .i64 cc, .int .i64 yy] 26)).heap.size (u3.alloc (.cells #[.int .i64 cc, .int .i64 yy] 26)) m3) := hb
      have K0 : Hid (IsL (u3.alloc (.cells #[.int .i64 cc, .int .i64 yy] 26)).heap.size m3 q2 zs.reverse) := hi
      clear hi hb
      have K1 : Hid (IsL (u3.alloc (.cells #[.int .i64 cc, .int .i64 yy] 26)).heap.size (m3.alloc (.cells #[.int .i64 cc, .int .i64 yy] 26)) q2 zs.reverse) := K0.out.new _
      have Q0 : Hid (Bx m3.heap.size cc yy (m3.alloc (.cells #[.int .i64 cc, .int .i64 yy] 26))) := Bx.born m3 cc yy _
      go_wp2_with fail
      refine (Reverse_is K0.out K1.out (by simp) HR.out).mono ?_
      rintro e m4 ⟨rfl, hi, row, hrow, hg⟩
      have hb : Below (u3.alloc (.cells #[.int .i64 cc, .int .i64 yy] 26)).heap.size (u3.alloc (.cells #[.int .i64 cc, .int .i64 yy] 26)) m4 := (HB.out.alloc HB.out.size _).grown hg (Nat.le_trans HB.out.size (by simp)) (fun n hn => (hrow n hn).1)
      have Q4 : Hid (Bx m3.heap.size cc yy m4) := Q0.out.aside hg (fun hn => by have := (hrow _ hn.symm).2; omega)
      have K4 : Hid (IsL 0 m4 q2 zs) := by have := hi.any; rwa [List.reverse_reverse] at this
      clear hi hrow hg HB K0 K1 Q0
      have h37 : Hid (Gd w m4) := h30.out.later hb
      have h38 : Hid (IsL 0 m4 bk ys.reverse) := h32.out.later hb
      have h39 : Hid (Bo (m2.heap.size + 1) 4 0 0 m4) := h34.out.later hb
      have h40 : Hid (IsL 0 m4 q1 zs) := h35.out.later hb
      have h41 : Hid (Bx (u3.heap.size) cc yy m4) := h36.out.later hb
      clear h30 h32 h34 h35 h36
      clear hb
      clear h38
      clear h39
      have x42 := h41.out.c0
      have x43 := h41.out.c1
      have y0 := Q4.out.c0
      have y1 := Q4.out.c1
      go_wp2_with fail
      refine (Equal_same h40.out K4.out HL.out).mono ?_
      rintro e u4 ⟨rfl, hb⟩
      have h44 : Hid (Gd w u4) := h37.out.later hb
      have h45 : Hid (IsL 0 u4 q1 zs) := h40.out.later hb
      have h46 : Hid (Bx (u3.heap.size) cc yy u4) := h41.out.later hb
      clear h37 h40 h41
      clear hb
      go_wp2
      go_ret
      exact ⟨rfl, h44.out⟩
  · cases t
    · obtain ⟨⟨zs, cc, yy⟩, hq⟩ : ∃ p, ddo ys 3 (pk x) = p := ⟨_, rfl⟩
      have E1 : Hid (ddo ys 3 (pk x) = (zs, cc, yy)) := hq
      clear hq
      have E2 : Hid (ddo ys.reverse 1 (pk x) = (zs.reverse, cc, yy)) := turn31 E1.out
      have HL : Hid (zs.length ≤ 1000000) := Nat.le_trans (ddo_len E1.out) (by omega)
      have HR : Hid (zs.reverse.length ≤ 1000000) := by rw [List.length_reverse]; exact HL
      go_enter Try.func4, Try.ntmps4
      go_wp2_with fail
      refine (dealt_is _).mono ?_
      rintro e u1 ⟨rfl, hb⟩
      have h3 : Hid (IsL 0 u1 v xs) := h1.out.later hb
      have h4 : Hid (Gd w u1) := h2.out.later hb
      clear h1 h2
      clear hb
      go_wp2_with fail
      refine (few_is h3.out hlx.out).mono ?_
      rintro e u2 ⟨l, rfl, hi, hb⟩
      rw [← HY.out] at hi
      obtain ⟨a, c, rfl⟩ := hi.form
      have h5 : Hid (IsL 0 u2 v xs) := h3.out.later hb
      have h6 : Hid (Gd w u2) := h4.out.later hb
      clear h3 h4
      have h7 : Hid (IsL 0 u2 (.slice a ys.length c) ys) := hi.any
      clear hb hi
      clear h5
      go_wp2_with fail
      refine (pick_is _ _).mono ?_
      rintro e u ⟨rfl, hw⟩
      rw [hw]; clear hw u
      go_wp2_with fail
      refine (Clone_is h7.out (by omega)).mono ?_
      rintro e m1 ⟨bk, rfl, ho, hb⟩
      have O1 : Hid (Own u2.heap.size m1 bk ys) := ho
      have G1 : Hid (Below u2.heap.size u2 m1) := hb
      clear ho hb
      go_wp2_with fail
      refine (Reverse_own O1.out G1.out.size (by omega)).mono ?_
      rintro e m2 ⟨rfl, hi, hb2⟩
      have hb : Below u2.heap.size u2 m2 := G1.out.trans hb2
      clear hb2 O1 G1
      have h8 : Hid (Gd w m2) := h6.out.later hb
      have h9 : Hid (IsL 0 m2 (.slice a ys.length c) ys) := h7.out.later hb
      clear h6 h7
      have h10 : Hid (IsL 0 m2 bk ys.reverse) := hi
      clear hb hi
      have h11 : Hid (Gd w (m2.alloc (.cells #[.int .i64 3, .int .i64 0, .int .i64 (pk x)] 24))) := h8.out.new (.cells #[.int .i64 3, .int .i64 0, .int .i64 (pk x)] 24)
      have h12 : Hid (IsL 0 (m2.alloc (.cells #[.int .i64 3, .int .i64 0, .int .i64 (pk x)] 24)) (.slice a ys.length c) ys) := h9.out.new (.cells #[.int .i64 3, .int .i64 0, .int .i64 (pk x)] 24)
      have h13 : Hid (IsL 0 (m2.alloc (.cells #[.int .i64 3, .int .i64 0, .int .i64 (pk x)] 24)) bk ys.reverse) := h10.out.new (.cells #[.int .i64 3, .int .i64 0, .int .i64 (pk x)] 24)
      clear h8 h9 h10
      have h14 : Hid (Bo (m2.heap.size) 3 0 (pk x) (m2.alloc (.cells #[.int .i64 3, .int .i64 0, .int .i64 (pk x)] 24))) := Bo.bornAt m2 3 0 (pk x) 24 (by simp)
      have h15 : Hid (Gd w ((m2.alloc (.cells #[.int .i64 3, .int .i64 0, .int .i64 (pk x)] 24)).alloc (.cells #[.int .i64 1, .int .i64 0, .int .i64 (pk x)] 24))) := h11.out.new (.cells #[.int .i64 1, .int .i64 0, .int .i64 (pk x)] 24)
      have h16 : Hid (IsL 0 ((m2.alloc (.cells #[.int .i64 3, .int .i64 0, .int .i64 (pk x)] 24)).alloc (.cells #[.int .i64 1, .int .i64 0, .int .i64 (pk x)] 24)) (.slice a ys.length c) ys) := h12.out.new (.cells #[.int .i64 1, .int .i64 0, .int .i64 (pk x)] 24)
      have h17 : Hid (IsL 0 ((m2.alloc (.cells #[.int .i64 3, .int .i64 0, .int .i64 (pk x)] 24)).alloc (.cells #[.int .i64 1, .int .i64 0, .int .i64 (pk x)] 24)) bk ys.reverse) := h13.out.new (.cells #[.int .i64 1, .int .i64 0, .int .i64 (pk x)] 24)
      have h18 : Hid (Bo (m2.heap.size) 3 0 (pk x) ((m2.alloc (.cells #[.int .i64 3, .int .i64 0, .int .i64 (pk x)] 24)).alloc (.cells #[.int .i64 1, .int .i64 0, .int .i64 (pk x)] 24))) := h14.out.new (.cells #[.int .i64 1, .int .i64 0, .int .i64 (pk x)] 24)
      clear h11 h12 h13 h14
      have h19 : Hid (Bo (m2.heap.size + 1) 1 0 (pk x) ((m2.alloc (.cells #[.int .i64 3, .int .i64 0, .int .i64 (pk x)] 24)).alloc (.cells #[.int .i64 1, .int .i64 0, .int .i64 (pk x)] 24))) := Bo.bornAt (m2.alloc (.cells #[.int .i64 3, .int .i64 0, .int .i64 (pk x)] 24)) 1 0 (pk x) 24 (by simp)
      go_wp2_with fail
      refine (dDo_eq 0 h16.out (by omega) E1.out).mono ?_
      rintro e u3 ⟨q1, rfl, hi, hb⟩
      have h20 : Hid (Gd w u3) := h15.out.later hb
      have h21 : Hid (IsL 0 u3 (.slice a ys.length c) ys) := h16.out.later hb
      have h22 : Hid (IsL 0 u3 bk ys.reverse) := h17.out.later hb
      have h23 : Hid (Bo (m2.heap.size) 3 0 (pk x) u3) := h18.out.later hb
      have h24 : Hid (Bo (m2.heap.size + 1) 1 0 (pk x) u3) := h19.out.later hb
      clear h15 h16 h17 h18 h19
      have h25 : Hid (IsL 0 u3 q1 zs) := hi.any
      clear hb hi
      have x26 := h24.out.c0
      have x27 := h24.out.c1
      have x28 := h24.out.c2
      have x29 := h24.out.lt
      have h30 : Hid (Gd w (u3.alloc (.cells #[.int .i64 cc, .int .i64 yy] 26))) := h20.out.new (.cells #[.int .i64 cc, .int .i64 yy] 26)
      have h31 : Hid (IsL 0 (u3.alloc (.cells #[.int .i64 cc, .int .i64 yy] 26)) (.slice a ys.length c) ys) := h21.out.new (.cells #[.int .i64 cc, .int .i64 yy] 26)
      have h32 : Hid (IsL 0 (u3.alloc (.cells #[.int .i64 cc, .int .i64 yy] 26)) bk ys.reverse) := h22.out.new (.cells #[.int .i64 cc, .int .i64 yy] 26)
      have h33 : Hid (Bo (m2.heap.size) 3 0 (pk x) (u3.alloc (.cells #[.int .i64 cc, .int .i64 yy] 26))) := h23.out.new (.cells #[.int .i64 cc, .int .i64 yy] 26)
      have h34 : Hid (Bo (m2.heap.size + 1) 1 0 (pk x) (u3.alloc (.cells #[.int .i64 cc, .int .i64 yy] 26))) := h24.out.new (.cells #[.int .i64 cc, .int .i64 yy] 26)
      have h35 : Hid (IsL 0 (u3.alloc (.cells #[.int .i64 cc, .int .i64 yy] 26)) q1 zs) := h25.out.new (.cells #[.int .i64 cc, .int .i64 yy] 26)
      clear h20 h21 h22 h23 h24 h25
      have h36 : Hid (Bx (u3.heap.size) cc yy (u3.alloc (.cells #[.int .i64 cc, .int .i64 yy] 26))) := Bx.bornAt u3 cc yy 26 (by simp)
      clear h31
      clear h33
      go_wp2_with fail
      refine (dDo_eq 0 h32.out (by rw [List.length_reverse]; omega) E2.out).mono ?_
      rintro e m3 ⟨q2, rfl, hi, hb⟩
      have HB : Hid (Below (u3.alloc (.cells #[.int .i64 cc, .int .i64 yy] 26)).heap.size (u3.alloc (.cells #[.int .i64 cc, .int .i64 yy] 26)) m3) := hb
      have K0 : Hid (IsL (u3.alloc (.cells #[.int .i64 cc, .int .i64 yy] 26)).heap.size m3 q2 zs.reverse) := hi
      clear hi hb
      have K1 : Hid (IsL (u3.alloc (.cells #[.int .i64 cc, .int .i64 yy] 26)).heap.size (m3.alloc (.cells #[.int .i64 cc, .int .i64 yy] 26)) q2 zs.reverse) := K0.out.new _
      have Q0 : Hid (Bx m3.heap.size cc yy (m3.alloc (.cells #[.int .i64 cc, .int .i64 yy] 26))) := Bx.born m3 cc yy _
      go_wp2_with fail
      refine (Reverse_is K0.out K1.out (by simp) HR.out).mono ?_
      rintro e m4 ⟨rfl, hi, row, hrow, hg⟩
      have hb : Below (u3.alloc (.cells #[.int .i64 cc, .int .i64 yy] 26)).heap.size (u3.alloc (.cells #[.int .i64 cc, .int .i64 yy] 26)) m4 := (HB.out.alloc HB.out.size _).grown hg (Nat.le_trans HB.out.size (by simp)) (fun n hn => (hrow n hn).1)
      have Q4 : Hid (Bx m3.heap.size cc yy m4) := Q0.out.aside hg (fun hn => by have := (hrow _ hn.symm).2; omega)
      have K4 : Hid (IsL 0 m4 q2 zs) := by have := hi.any; rwa [List.reverse_reverse] at this
      clear hi hrow hg HB K0 K1 Q0
      have h37 : Hid (Gd w m4) := h30.out.later hb
      have h38 : Hid (IsL 0 m4 bk ys.reverse) := h32.out.later hb
      have h39 : Hid (Bo (m2.heap.size + 1) 1 0 (pk x) m4) := h34.out.later hb
      have h40 : Hid (IsL 0 m4 q1 zs) := h35.out.later hb
      have h41 : Hid (Bx (u3.heap.size) cc yy m4) := h36.out.later hb
      clear h30 h32 h34 h35 h36
      clear hb
      clear h38
      clear h39
      have x42 := h41.out.c0
      have x43 := h41.out.c1
      have y0 := Q4.out.c0
      have y1 := Q4.out.c1
      go_wp2_with fail
      refine (Equal_same h40.out K4.out HL.out).mono ?_
      rintro e u4 ⟨rfl, hb⟩
      have h44 : Hid (Gd w u4) := h37.out.later hb
      have h45 : Hid (IsL 0 u4 q1 zs) := h40.out.later hb
      have h46 : Hid (Bx (u3.heap.size) cc yy u4) := h41.out.later hb
      clear h37 h40 h41
      clear hb
      go_wp2
      go_ret
      exact ⟨rfl, h44.out⟩
    · obtain ⟨⟨zs, cc, yy⟩, hq⟩ : ∃ p, ddo ys 4 0 = p := ⟨_, rfl⟩
      have E1 : Hid (ddo ys 4 0 = (zs, cc, yy)) := hq
      clear hq
      have E2 : Hid (ddo ys.reverse 2 0 = (zs.reverse, cc, yy)) := turn42 E1.out
      have HL : Hid (zs.length ≤ 1000000) := Nat.le_trans (ddo_len E1.out) (by omega)
      have HR : Hid (zs.reverse.length ≤ 1000000) := by rw [List.length_reverse]; exact HL
      go_enter Try.func4, Try.ntmps4
      go_wp2_with fail
      refine (dealt_is _).mono ?_
      rintro e u1 ⟨rfl, hb⟩
      have h3 : Hid (IsL 0 u1 v xs) := h1.out.later hb
      have h4 : Hid (Gd w u1) := h2.out.later hb
      clear h1 h2
      clear hb
      go_wp2_with fail
      refine (few_is h3.out hlx.out).mono ?_
      rintro e u2 ⟨l, rfl, hi, hb⟩
      rw [← HY.out] at hi
      obtain ⟨a, c, rfl⟩ := hi.form
      have h5 : Hid (IsL 0 u2 v xs) := h3.out.later hb
      have h6 : Hid (Gd w u2) := h4.out.later hb
      clear h3 h4
      have h7 : Hid (IsL 0 u2 (.slice a ys.length c) ys) := hi.any
      clear hb hi
      clear h5
      go_wp2_with fail
      refine (pick_is _ _).mono ?_
      rintro e u ⟨rfl, hw⟩
      rw [hw]; clear hw u
      go_wp2_with fail
      refine (Clone_is h7.out (by omega)).mono ?_
      rintro e m1 ⟨bk, rfl, ho, hb⟩
      have O1 : Hid (Own u2.heap.size m1 bk ys) := ho
      have G1 : Hid (Below u2.heap.size u2 m1) := hb
      clear ho hb
      go_wp2_with fail
      refine (Reverse_own O1.out G1.out.size (by omega)).mono ?_
      rintro e m2 ⟨rfl, hi, hb2⟩
      have hb : Below u2.heap.size u2 m2 := G1.out.trans hb2
      clear hb2 O1 G1
      have h8 : Hid (Gd w m2) := h6.out.later hb
      have h9 : Hid (IsL 0 m2 (.slice a ys.length c) ys) := h7.out.later hb
      clear h6 h7
      have h10 : Hid (IsL 0 m2 bk ys.reverse) := hi
      clear hb hi
      have h11 : Hid (Gd w (m2.alloc (.cells #[.int .i64 4, .int .i64 0, .int .i64 0] 24))) := h8.out.new (.cells #[.int .i64 4, .int .i64 0, .int .i64 0] 24)
      have h12 : Hid (IsL 0 (m2.alloc (.cells #[.int .i64 4, .int .i64 0, .int .i64 0] 24)) (.slice a ys.length c) ys) := h9.out.new (.cells #[.int .i64 4, .int .i64 0, .int .i64 0] 24)
      have h13 : Hid (IsL 0 (m2.alloc (.cells #[.int .i64 4, .int .i64 0, .int .i64 0] 24)) bk ys.reverse) := h10.out.new (.cells #[.int .i64 4, .int .i64 0, .int .i64 0] 24)
      clear h8 h9 h10
      have h14 : Hid (Bo (m2.heap.size) 4 0 0 (m2.alloc (.cells #[.int .i64 4, .int .i64 0, .int .i64 0] 24))) := Bo.bornAt m2 4 0 0 24 (by simp)
      have h15 : Hid (Gd w ((m2.alloc (.cells #[.int .i64 4, .int .i64 0, .int .i64 0] 24)).alloc (.cells #[.int .i64 2, .int .i64 0, .int .i64 0] 24))) := h11.out.new (.cells #[.int .i64 2, .int .i64 0, .int .i64 0] 24)
      have h16 : Hid (IsL 0 ((m2.alloc (.cells #[.int .i64 4, .int .i64 0, .int .i64 0] 24)).alloc (.cells #[.int .i64 2, .int .i64 0, .int .i64 0] 24)) (.slice a ys.length c) ys) := h12.out.new (.cells #[.int .i64 2, .int .i64 0, .int .i64 0] 24)
      have h17 : Hid (IsL 0 ((m2.alloc (.cells #[.int .i64 4, .int .i64 0, .int .i64 0] 24)).alloc (.cells #[.int .i64 2, .int .i64 0, .int .i64 0] 24)) bk ys.reverse) := h13.out.new (.cells #[.int .i64 2, .int .i64 0, .int .i64 0] 24)
      have h18 : Hid (Bo (m2.heap.size) 4 0 0 ((m2.alloc (.cells #[.int .i64 4, .int .i64 0, .int .i64 0] 24)).alloc (.cells #[.int .i64 2, .int .i64 0, .int .i64 0] 24))) := h14.out.new (.cells #[.int .i64 2, .int .i64 0, .int .i64 0] 24)
      clear h11 h12 h13 h14
      have h19 : Hid (Bo (m2.heap.size + 1) 2 0 0 ((m2.alloc (.cells #[.int .i64 4, .int .i64 0, .int .i64 0] 24)).alloc (.cells #[.int .i64 2, .int .i64 0, .int .i64 0] 24))) := Bo.bornAt (m2.alloc (.cells #[.int .i64 4, .int .i64 0, .int .i64 0] 24)) 2 0 0 24 (by simp)
      go_wp2_with fail
      refine (dDo_eq 0 h16.out (by omega) E1.out).mono ?_
      rintro e u3 ⟨q1, rfl, hi, hb⟩
      have h20 : Hid (Gd w u3) := h15.out.later hb
      have h21 : Hid (IsL 0 u3 (.slice a ys.length c) ys) := h16.out.later hb
      have h22 : Hid (IsL 0 u3 bk ys.reverse) := h17.out.later hb
      have h23 : Hid (Bo (m2.heap.size) 4 0 0 u3) := h18.out.later hb
      have h24 : Hid (Bo (m2.heap.size + 1) 2 0 0 u3) := h19.out.later hb
      clear h15 h16 h17 h18 h19
      have h25 : Hid (IsL 0 u3 q1 zs) := hi.any
      clear hb hi
      have x26 := h24.out.c0
      have x27 := h24.out.c1
      have x28 := h24.out.c2
      have x29 := h24.out.lt
      have h30 : Hid (Gd w (u3.alloc (.cells #[.int .i64 cc, .int .i64 yy] 26))) := h20.out.new (.cells #[.int .i64 cc, .int .i64 yy] 26)
      have h31 : Hid (IsL 0 (u3.alloc (.cells #[.int .i64 cc, .int .i64 yy] 26)) (.slice a ys.length c) ys) := h21.out.new (.cells #[.int .i64 cc, .int .i64 yy] 26)
      have h32 : Hid (IsL 0 (u3.alloc (.cells #[.int .i64 cc, .int .i64 yy] 26)) bk ys.reverse) := h22.out.new (.cells #[.int .i64 cc, .int .i64 yy] 26)
      have h33 : Hid (Bo (m2.heap.size) 4 0 0 (u3.alloc (.cells #[.int .i64 cc, .int .i64 yy] 26))) := h23.out.new (.cells #[.int .i64 cc, .int .i64 yy] 26)
      have h34 : Hid (Bo (m2.heap.size + 1) 2 0 0 (u3.alloc (.cells #[.int .i64 cc, .int .i64 yy] 26))) := h24.out.new (.cells #[.int .i64 cc, .int .i64 yy] 26)
      have h35 : Hid (IsL 0 (u3.alloc (.cells #[.int .i64 cc, .int .i64 yy] 26)) q1 zs) := h25.out.new (.cells #[.int .i64 cc, .int .i64 yy] 26)
      clear h20 h21 h22 h23 h24 h25
      have h36 : Hid (Bx (u3.heap.size) cc yy (u3.alloc (.cells #[.int .i64 cc, .int .i64 yy] 26))) := Bx.bornAt u3 cc yy 26 (by simp)
      clear h31
      clear h33
      go_wp2_with fail
      refine (dDo_eq 0 h32.out (by rw [List.length_reverse]; omega) E2.out).mono ?_
      rintro e m3 ⟨q2, rfl, hi, hb⟩
      have HB : Hid (Below (u3.alloc (.cells #[.int .i64 cc, .int .i64 yy] 26)).heap.size (u3.alloc (.cells #[.int .i64 cc, .int .i64 yy] 26)) m3) := hb
      have K0 : Hid (IsL (u3.alloc (.cells #[.int .i64 cc, .int .i64 yy] 26)).heap.size m3 q2 zs.reverse) := hi
      clear hi hb
      have K1 : Hid (IsL (u3.alloc (.cells #[.int .i64 cc, .int .i64 yy] 26)).heap.size (m3.alloc (.cells #[.int .i64 cc, .int .i64 yy] 26)) q2 zs.reverse) := K0.out.new _
      have Q0 : Hid (Bx m3.heap.size cc yy (m3.alloc (.cells #[.int .i64 cc, .int .i64 yy] 26))) := Bx.born m3 cc yy _
      go_wp2_with fail
      refine (Reverse_is K0.out K1.out (by simp) HR.out).mono ?_
      rintro e m4 ⟨rfl, hi, row, hrow, hg⟩
      have hb : Below (u3.alloc (.cells #[.int .i64 cc, .int .i64 yy] 26)).heap.size (u3.alloc (.cells #[.int .i64 cc, .int .i64 yy] 26)) m4 := (HB.out.alloc HB.out.size _).grown hg (Nat.le_trans HB.out.size (by simp)) (fun n hn => (hrow n hn).1)
      have Q4 : Hid (Bx m3.heap.size cc yy m4) := Q0.out.aside hg (fun hn => by have := (hrow _ hn.symm).2; omega)
      have K4 : Hid (IsL 0 m4 q2 zs) := by have := hi.any; rwa [List.reverse_reverse] at this
      clear hi hrow hg HB K0 K1 Q0
      have h37 : Hid (Gd w m4) := h30.out.later hb
      have h38 : Hid (IsL 0 m4 bk ys.reverse) := h32.out.later hb
      have h39 : Hid (Bo (m2.heap.size + 1) 2 0 0 m4) := h34.out.later hb
      have h40 : Hid (IsL 0 m4 q1 zs) := h35.out.later hb
      have h41 : Hid (Bx (u3.heap.size) cc yy m4) := h36.out.later hb
      clear h30 h32 h34 h35 h36
      clear hb
      clear h38
      clear h39
      have x42 := h41.out.c0
      have x43 := h41.out.c1
      have y0 := Q4.out.c0
      have y1 := Q4.out.c1
      go_wp2_with fail
      refine (Equal_same h40.out K4.out HL.out).mono ?_
      rintro e u4 ⟨rfl, hb⟩
      have h44 : Hid (Gd w u4) := h37.out.later hb
      have h45 : Hid (IsL 0 u4 q1 zs) := h40.out.later hb
      have h46 : Hid (Bx (u3.heap.size) cc yy u4) := h41.out.later hb
      clear h37 h40 h41
      clear hb
      go_wp2
      go_ret
      exact ⟨rfl, h44.out⟩


set_option maxRecDepth 100000 in
theorem lifted (os : Os) (started : os.Started) (H : Type) (enc : TypeId × Value → H) :
    ReturnsInHanded {} Try.checked os 4 .any (Rows.dequeTurnsSpec.pre6 enc Try.prog Try.f4 Rows.dequeTurnsRow.domain false) (Rows.dequeTurnsSpec.post enc Try.prog Try.f4 false true false false) := by
  refine returnsInHanded_of_change (C := Try.checked) own started (by kernel_rfl) Try.func4
    (ChangeSpec.witness6 (enc := enc) (C := Try.checked) false ⟨#[], #[.slice none 0 0, .int .i64 0, .bool false, .bool false], []⟩ 8 (by kernel_rfl) (by kernel_rfl) (by kernel_rfl) (by kernel_rfl)) ?_
  intro W base args ds gs before hval0 hW hcnd _
  have hval : ∀ (j : Nat) t v, Try.f4.params[j]? = some t → args[j]? = some v → Value.okWide Try.prog W .any base t v := hval0
  have hW' := hW
  obtain ⟨p, q, hA0, hV, rfl, hfz, hnd⟩ := hW
  have hA : DataW.TrodAll enc Try.prog W 0 (fun _ => true) true Try.f4.params.toList args.toList ds p := hA0
  rw [Try.params4] at hA hval
  obtain ⟨v0, vs0, d0, ds0, p0, q0, hargs, rfl, rfl, h0, r0⟩ := trodAll_cons hA
  obtain ⟨v1, vs1, d1, ds1, p1, q1, rfl, rfl, rfl, h1, r1⟩ := trodAll_cons r0
  obtain ⟨v2, vs2, d2, ds2, p2, q2, rfl, rfl, rfl, h2, r2⟩ := trodAll_cons r1
  obtain ⟨v3, vs3, d3, ds3, p3, q3, rfl, rfl, rfl, h3, r3⟩ := trodAll_cons r2
  obtain ⟨rfl, rfl, rfl⟩ := trodAll_nil r3
  obtain rfl : args = #[v0, v1, v2, v3] := by cases args; simp_all
  obtain ⟨rfl, rfl⟩ := trodVars_none hV
  obtain ⟨n0, D0⟩ := ints_of_trod (hval 0 22 v0 rfl rfl) h0
  obtain ⟨a1, rfl, rfl, rfl, w1⟩ := open_int Try.underlying3 (hval 1 3 v1 rfl rfl) h1
  obtain ⟨a2, rfl, rfl, rfl⟩ := open_bool Try.underlying4 (hval 2 4 v2 rfl rfl) h2
  obtain ⟨a3, rfl, rfl, rfl⟩ := open_bool Try.underlying4 (hval 3 4 v3 rfl rfl) h3
  have hlt := hW'.lt
  clear hA0 hval0
  refine (walk v0 n0 a1 a2 a3 w1 W  D0).mono fun e W' ⟨he, hg⟩ => ?_
  subst he
  exact ⟨_, rfl, post_below (pv := []) hW' (fun _ _ _ => (trodAll_cons_mk (shut_bool Try.underlying4 _) trodAll_mk0)) (fun sp hsp => (trodAll_cons_mk (ints_stay h0 hg (fun x hx => hlt x (by simp [hx])) (fun x hx => hsp x (by simp [hx]))) (trodAll_cons_mk (shut_int Try.underlying3 w1) (trodAll_cons_mk (shut_bool Try.underlying4 _) (trodAll_cons_mk (shut_bool Try.underlying4 _) trodAll_mk0))))) (fun _ _ => rfl) (by simp) (hg.frame _)⟩

theorem over : Rows.dequeTurnsRow.holds Try.pinned (OpenSpec.ofChange Rows.dequeTurnsSpec) :=
  OpenClaim.holds_of_wide 4 Try.f4 rfl rfl rfl rfl rfl rfl rfl ⟨rfl, rfl, rfl, rfl, rfl⟩ rfl rfl rfl rfl rfl (by kernel_rfl) Try.func4 (by kernel_rfl)
    (of_decide_eq_true (by kernel_rfl)) (by unfold Func.isWrapper; first | (rw [if_pos (by decide +kernel)]; kernel_rfl) | (rw [if_neg (by decide +kernel)]; exact ⟨rfl, rfl⟩))
    (fun os started H enc _ => lifted os started H enc)

theorem proved : Rows.DequeTurnsSaid :=
  over
#print axioms proved
end Go.Proofs.Ytdheglnbdokjcaa.dequeTurns
