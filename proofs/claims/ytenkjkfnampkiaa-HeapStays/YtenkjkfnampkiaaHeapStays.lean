/- HeapStays is proved: for every list and operation the call returns true (a heap stays one, whatever is done, and has just the same things but what is put in or taken out; a list that is no heap, and an operation that is not right, are let be, by the law's own words). -/
import Derived.Test.YtenkjkfnampkiaaRows
import Derived.Test.YtenkjkfnampkiaaArgL
import Derived.Test.YtenkjkfnampkiaaKh
import Derived.Test.YtenkjkfnampkiaaLx
import Derived.Test.YtenkjkfnampkiaaRp
import Derived.Test.YtenkjkfnampkiaaAp
import Derived.ChangeAlike

namespace Go.Proofs.Ytenkjkfnampkiaa.heapStays
open Go.ChangeShapes Go.WideShapes Go.ChangeAt Go.RowKit
set_option linter.unusedVariables false

theorem own : ownKnob Try.prog.godebug = none := by kernel_rfl

theorem Bx.keepB {n C : Nat} {c y : Int} {w w' : World} (h : Bx n c y w) (hb : Below C w w') (hn : n < C) : Bx n c y w' where
  lt := Nat.lt_of_lt_of_le h.lt hb.size
  c0 := by rw [hb.cell (p := ⟨n, 0, none⟩) hn]; exact h.c0
  c1 := by rw [hb.cell (p := ⟨n, 1, none⟩) hn]; exact h.c1
  f0 := by rw [World.frozen?_of_block (hb.block n hn)]; exact h.f0
  f1 := by rw [World.frozen?_of_block (hb.block n hn)]; exact h.f1
theorem Bo.keepB {n C : Nat} {o k x : Int} {w w' : World} (h : Bo n o k x w) (hb : Below C w w') (hn : n < C) : Bo n o k x w' where
  lt := Nat.lt_of_lt_of_le h.lt hb.size
  c0 := by rw [hb.cell (p := ⟨n, 0, none⟩) hn]; exact h.c0
  c1 := by rw [hb.cell (p := ⟨n, 1, none⟩) hn]; exact h.c1
  c2 := by rw [hb.cell (p := ⟨n, 2, none⟩) hn]; exact h.c2
theorem takes_pure {xs : List Int} (x : Int) (h : Hp xs) (h0 : 0 < xs.length) : ∃ z r ms, xs = z :: r ∧ hdo xs 2 x = (ms, 1, z) ∧ ms.Perm r ∧ Hp ms := by
  cases xs with
  | nil => simp at h0
  | cons z r =>
    obtain ⟨ms, e1, p1, h1⟩ := hdo_takes x h
    exact ⟨z, r, ms, rfl, e1, p1, h1⟩
theorem Index_of {B : Nat} {v : Value} {z : Int} {r xs : List Int} {w : World} (e : xs = z :: r) (h : IsL B w v xs) (hx : xs.length ≤ 1000000) :
    Calls Try.prog 17 #[v, .int .i64 z] w fun e w' => e = .returned (.int .i64 0) ∧ w' = w := by
  subst e
  exact Index_head h hx
theorem Delete_of {B : Nat} {v : Value} {z : Int} {r xs : List Int} {w : World} (e : xs = z :: r) (h : Own B w v xs) (hB : 0 < B) (hBw : B ≤ w.heap.size) :
    Calls Try.prog 18 #[v, .int .i64 0, .int .i64 1] w fun e w' => ∃ v', e = .returned v' ∧ IsL B w' v' r ∧ Below B w w' := by
  subst e
  exact Delete_head h hB hBw
set_option maxHeartbeats 4000000 in
theorem walk (v : Value) (xs : List Int) (o k x : Int) (_w0 : (Lit.int .i64 o).wf = true) (_w1 : (Lit.int .i64 k).wf = true) (_w2 : (Lit.int .i64 x).wf = true) (w : World) (D : In w v xs) :
    Calls Try.prog 5 #[v, .agg #[.int .i64 o, .int .i64 k, .int .i64 x]] w fun e w' => e = .returned (.bool true) ∧ Below w.heap.size w w' := by
  obtain ⟨a, c, rfl⟩ := D.1.form
  have h1 : Hid (IsL 0 w (.slice a xs.length c) xs) := D.1
  have h2 : Hid (Gd w w) := Gd.refl w
  clear D
  have h3 : Hid (IsL 0 (w.alloc (.cells #[.int .i64 o, .int .i64 k, .int .i64 x] 25)) (.slice a xs.length c) xs) := h1.out.new (.cells #[.int .i64 o, .int .i64 k, .int .i64 x] 25)
  have h4 : Hid (Gd w (w.alloc (.cells #[.int .i64 o, .int .i64 k, .int .i64 x] 25))) := h2.out.new (.cells #[.int .i64 o, .int .i64 k, .int .i64 x] 25)
  clear h1 h2
  have h5 : Hid (Bo w.heap.size o k x (w.alloc (.cells #[.int .i64 o, .int .i64 k, .int .i64 x] 25))) := Bo.born w o k x 25
  by_cases hr : xs.length ≤ 6 ∧ Hp xs
  · obtain ⟨s6, hp⟩ := hr
    have HP : Hid (Hp xs) := hp
    clear hp
    by_cases hrt : Rt o k x
    · have HR : Hid (Rt o k x) := hrt
      clear hrt
      by_cases e1 : o = 1
      · subst e1
        by_cases s5 : xs.length < 6
        · obtain ⟨ms, hq, hpm, hmp⟩ := hdo_puts x HP.out s5
          have hm6 : ms.length ≤ 6 := by rw [hpm.length_eq]; simp; omega
          have HD : Hid (hdo xs 1 x = (ms, 1, 0)) := hq
          have LM : Hid (ms.length ≤ 1000000) := Nat.le_trans hm6 (by decide)
          have L6 : Hid (ms.length ≤ 6) := hm6
          have LW : Hid ((xs ++ [x]).length ≤ 1000000) := (show (xs ++ [x]).length ≤ 1000000 by simp; omega)
          have PE : Hid (srt ms = srt (xs ++ [x])) := srt_eq hpm
          have HM : Hid (Hp ms) := hmp
          clear hq hm6 hpm hmp
          go_enter Try.func5, Try.ntmps5
          go_wp2_with fail
          refine (heaped_is _).mono ?_
          rintro e u1 ⟨rfl, hb⟩
          have h6 : Hid (IsL 0 u1 (.slice a xs.length c) xs) := h3.out.later hb
          have h7 : Hid (Gd w u1) := h4.out.later hb
          have h8 : Hid (Bo w.heap.size 1 k x u1) := h5.out.later hb
          clear h3 h4 h5
          clear hb
          have x9 := h8.out.c0
          have x10 := h8.out.c1
          have x11 := h8.out.c2
          have x12 := h8.out.lt
          go_wp2_with fail
          refine (hRight_yes h6.out s6 HP.out).mono ?_
          rintro e u2 ⟨rfl, hb⟩
          have h13 : Hid (IsL 0 u2 (.slice a xs.length c) xs) := h6.out.later hb
          have h14 : Hid (Gd w u2) := h7.out.later hb
          have h15 : Hid (Bo w.heap.size 1 k x u2) := h8.out.later hb
          clear h6 h7 h8
          clear hb
          have x16 := h15.out.c0
          have x17 := h15.out.c1
          have x18 := h15.out.c2
          have x19 := h15.out.lt
          go_wp2_with fail
          refine (Right_is HR.out _).mono ?_
          rintro e u3 ⟨rfl, hw⟩
          have hb : Below u2.heap.size u2 u3 := by rw [hw]; exact new_below _ _
          clear hw
          have h20 : Hid (IsL 0 u3 (.slice a xs.length c) xs) := h13.out.later hb
          have h21 : Hid (Gd w u3) := h14.out.later hb
          have h22 : Hid (Bo w.heap.size 1 k x u3) := h15.out.later hb
          clear h13 h14 h15
          clear hb
          have x23 := h22.out.c0
          have x24 := h22.out.c1
          have x25 := h22.out.c2
          have x26 := h22.out.lt
          go_wp2_with fail
          refine (hDo_eq k h20.out (by omega) HD.out).mono ?_
          rintro e u4 ⟨mv, rfl, hi, hb⟩
          have h27 : Hid (IsL 0 u4 (.slice a xs.length c) xs) := h20.out.later hb
          have h28 : Hid (Gd w u4) := h21.out.later hb
          have h29 : Hid (Bo w.heap.size 1 k x u4) := h22.out.later hb
          clear h20 h21 h22
          have h30 : Hid (IsL 0 u4 mv ms) := hi.any
          clear hb hi
          have h31 : Hid (IsL 0 (u4.alloc (.cells #[.int .i64 1, .int .i64 0] 27)) (.slice a xs.length c) xs) := h27.out.new (.cells #[.int .i64 1, .int .i64 0] 27)
          have h32 : Hid (Gd w (u4.alloc (.cells #[.int .i64 1, .int .i64 0] 27))) := h28.out.new (.cells #[.int .i64 1, .int .i64 0] 27)
          have h33 : Hid (Bo w.heap.size 1 k x (u4.alloc (.cells #[.int .i64 1, .int .i64 0] 27))) := h29.out.new (.cells #[.int .i64 1, .int .i64 0] 27)
          have h34 : Hid (IsL 0 (u4.alloc (.cells #[.int .i64 1, .int .i64 0] 27)) mv ms) := h30.out.new (.cells #[.int .i64 1, .int .i64 0] 27)
          clear h27 h28 h29 h30
          have h35 : Hid (Bx (u4.heap.size) 1 0 (u4.alloc (.cells #[.int .i64 1, .int .i64 0] 27))) := Bx.bornAt u4 1 0 27 (by simp)
          go_wp2_with fail
          have z1 : Hid (0 < (u4.alloc (.cells #[.int .i64 1, .int .i64 0] 27)).heap.size) := (by simp : 0 < (u4.alloc (.cells #[.int .i64 1, .int .i64 0] 27)).heap.size)
          generalize (u4.alloc (.cells #[.int .i64 1, .int .i64 0] 27)) = W1 at z1 h31 h32 h33 h34 h35 ⊢
          have H1 : Hid (0 < W1.heap.size) := z1
          clear z1
          have M1 : Hid (IsL 0 W1 mv ms) := h34
          have GG : Hid (Gd w W1) := h32
          have HB : Hid (u4.heap.size < W1.heap.size) := h35.out.lt
          have HC : Hid (w.heap.size < W1.heap.size) := h33.out.lt
          refine (Clone_is h31.out (by omega)).mono ?_
          rintro e W2 ⟨wv, rfl, ho, hb⟩
          have O2 : Hid (Own W1.heap.size W2 wv xs) := ho
          have B2 : Hid (Below W1.heap.size W1 W2) := hb
          have P2 : Hid (Bx u4.heap.size 1 0 W2) := h35.out.later hb
          have Q2 : Hid (Bo w.heap.size 1 k x W2) := h33.out.later hb
          clear ho hb h31 h32 h33 h34 h35
          have p0 := P2.out.c0
          have p1 := P2.out.c1
          have q0 := Q2.out.c0
          have q1 := Q2.out.c1
          have q2 := Q2.out.c2
          have n1 : Hid (W1.heap.size ≤ (W2.alloc (.cells #[.int .i64 x] 3)).heap.size) := Nat.le_trans B2.out.size (by simp)
          have n2 : Hid (Own W1.heap.size (W2.alloc (.cells #[.int .i64 x] 3)) wv xs) := O2.out.alloc _
          have n3 : Hid (IsL 0 (W2.alloc (.cells #[.int .i64 x] 3)) (.slice (some ⟨W2.heap.size, 0, none⟩) 1 1) [x]) := IsL.lit W2 [x] (Nat.succ_pos _)
          have n4 : Hid (xs.length + [x].length ≤ 1000000) := (show xs.length + [x].length ≤ 1000000 by simp; omega)
          go_wp2_with (at_builtin; refine wpList_onto rfl rfl (.tmp 36) (.tmp 39) rfl rfl rfl n1.out n2.out n3.out n4.out ?_; intro v3 W3 hO3 hb3; have O3 : Hid (Own W1.heap.size W3 v3 (xs ++ [x])) := hO3; have B3 : Hid (Below W1.heap.size W1 W3) := ((B2.out.alloc B2.out.size _).trans hb3); have P3 : Hid (Bx u4.heap.size 1 0 W3) := Bx.keepB (P2.out.new _) hb3 HB.out; have Q3 : Hid (Bo w.heap.size 1 k x W3) := Bo.keepB (Q2.out.new _) hb3 HC.out; have p30 := P3.out.c0; have p31 := P3.out.c1; have q30 := Q3.out.c0; clear hO3 hb3 n1 n2 n3 n4)
          have T4 : Hid (IsL W1.heap.size W3 v3 (xs ++ [x])) := O3.out.isL
          have B4 : Hid (Below W1.heap.size W1 W3) := B3.out
          refine (Clone_is (w := W3) (M1.out.later B4.out) LM.out).mono ?_
          rintro e W5 ⟨gv, rfl, ho, hb⟩
          have O5 : Hid (Own W3.heap.size W5 gv ms) := ho
          have B5 : Hid (Below W3.heap.size W3 W5) := hb
          clear ho hb
          go_wp2_with fail
          refine (Sort_is O5.out.isL O5.out.isL (Nat.lt_of_lt_of_le H1.out B4.out.size) LM.out).mono ?_
          rintro e W6 ⟨rfl, hi, row, hrow, hg⟩
          have G6 : Hid (IsL W3.heap.size W6 gv (srt ms)) := hi
          have B6 : Hid (Below W3.heap.size W3 W6) := B5.out.grown hg B5.out.size (fun n hn => (hrow n hn).1)
          clear hi hrow hg row
          go_wp2_with fail
          refine (Sort_is T4.out (T4.out.later B6.out) H1.out LW.out).mono ?_
          rintro e W7 ⟨rfl, hi, row, hrow, hg⟩
          have T7 : Hid (IsL W1.heap.size W7 v3 (srt (xs ++ [x]))) := hi
          have G7 : Hid (IsL W3.heap.size W7 gv (srt ms)) := G6.out.aside hg (fun n hn => (hrow n hn).2)
          have B7 : Hid (Below W1.heap.size W1 W7) := Below.grown (B4.out.trans (B6.out.mono B4.out.size)) hg (Nat.le_trans B4.out.size B6.out.size) (fun n hn => (hrow n hn).1)
          clear hi hrow hg row
          go_wp2_with fail
          refine (hRight_yes (M1.out.later B7.out) L6.out HM.out).mono ?_
          rintro e W8 ⟨rfl, hb⟩
          have T8 : Hid (IsL W1.heap.size W8 v3 (srt (xs ++ [x]))) := T7.out.later hb
          have G8 : Hid (IsL W3.heap.size W8 gv (srt (xs ++ [x]))) := by rw [← PE.out]; exact G7.out.later hb
          have B8 : Hid (Below W1.heap.size W1 W8) := B7.out.trans (hb.mono B7.out.size)
          clear hb
          go_wp2_with fail
          refine (Equal_same G8.out T8.out (by rw [srt_len]; exact LW.out)).mono ?_
          rintro e W9 ⟨rfl, hb⟩
          have B9 : Hid (Gd w W9) := Gd.later (Gd.later GG.out B8.out) hb
          clear hb
          go_wp2
          go_ret
          exact ⟨rfl, B9.out⟩
        · obtain ⟨ms, hms⟩ : ∃ ms, ms = xs := ⟨_, rfl⟩
          have hq : hdo xs 1 x = (ms, 3, 0) := by rw [hms]; exact hdo_full x (by omega)
          have HD : Hid (hdo xs 1 x = (ms, 3, 0)) := hq
          have hpm : ms.Perm xs := by rw [hms]
          have hm6 : ms.length ≤ 6 := by rw [hms]; exact s6
          have hmp : Hp ms := by rw [hms]; exact HP.out
          clear hms
          have LM : Hid (ms.length ≤ 1000000) := Nat.le_trans hm6 (by decide)
          have L6 : Hid (ms.length ≤ 6) := hm6
          have LW : Hid (xs.length ≤ 1000000) := (by omega : xs.length ≤ 1000000)
          have PE : Hid (srt ms = srt xs) := srt_eq hpm
          have HM : Hid (Hp ms) := hmp
          clear hq hm6 hpm hmp
          go_enter Try.func5, Try.ntmps5
          go_wp2_with fail
          refine (heaped_is _).mono ?_
          rintro e u1 ⟨rfl, hb⟩
          have h6 : Hid (IsL 0 u1 (.slice a xs.length c) xs) := h3.out.later hb
          have h7 : Hid (Gd w u1) := h4.out.later hb
          have h8 : Hid (Bo w.heap.size 1 k x u1) := h5.out.later hb
          clear h3 h4 h5
          clear hb
          have x9 := h8.out.c0
          have x10 := h8.out.c1
          have x11 := h8.out.c2
          have x12 := h8.out.lt
          go_wp2_with fail
          refine (hRight_yes h6.out s6 HP.out).mono ?_
          rintro e u2 ⟨rfl, hb⟩
          have h13 : Hid (IsL 0 u2 (.slice a xs.length c) xs) := h6.out.later hb
          have h14 : Hid (Gd w u2) := h7.out.later hb
          have h15 : Hid (Bo w.heap.size 1 k x u2) := h8.out.later hb
          clear h6 h7 h8
          clear hb
          have x16 := h15.out.c0
          have x17 := h15.out.c1
          have x18 := h15.out.c2
          have x19 := h15.out.lt
          go_wp2_with fail
          refine (Right_is HR.out _).mono ?_
          rintro e u3 ⟨rfl, hw⟩
          have hb : Below u2.heap.size u2 u3 := by rw [hw]; exact new_below _ _
          clear hw
          have h20 : Hid (IsL 0 u3 (.slice a xs.length c) xs) := h13.out.later hb
          have h21 : Hid (Gd w u3) := h14.out.later hb
          have h22 : Hid (Bo w.heap.size 1 k x u3) := h15.out.later hb
          clear h13 h14 h15
          clear hb
          have x23 := h22.out.c0
          have x24 := h22.out.c1
          have x25 := h22.out.c2
          have x26 := h22.out.lt
          go_wp2_with fail
          refine (hDo_eq k h20.out (by omega) HD.out).mono ?_
          rintro e u4 ⟨mv, rfl, hi, hb⟩
          have h27 : Hid (IsL 0 u4 (.slice a xs.length c) xs) := h20.out.later hb
          have h28 : Hid (Gd w u4) := h21.out.later hb
          have h29 : Hid (Bo w.heap.size 1 k x u4) := h22.out.later hb
          clear h20 h21 h22
          have h30 : Hid (IsL 0 u4 mv ms) := hi.any
          clear hb hi
          have h31 : Hid (IsL 0 (u4.alloc (.cells #[.int .i64 3, .int .i64 0] 27)) (.slice a xs.length c) xs) := h27.out.new (.cells #[.int .i64 3, .int .i64 0] 27)
          have h32 : Hid (Gd w (u4.alloc (.cells #[.int .i64 3, .int .i64 0] 27))) := h28.out.new (.cells #[.int .i64 3, .int .i64 0] 27)
          have h33 : Hid (Bo w.heap.size 1 k x (u4.alloc (.cells #[.int .i64 3, .int .i64 0] 27))) := h29.out.new (.cells #[.int .i64 3, .int .i64 0] 27)
          have h34 : Hid (IsL 0 (u4.alloc (.cells #[.int .i64 3, .int .i64 0] 27)) mv ms) := h30.out.new (.cells #[.int .i64 3, .int .i64 0] 27)
          clear h27 h28 h29 h30
          have h35 : Hid (Bx (u4.heap.size) 3 0 (u4.alloc (.cells #[.int .i64 3, .int .i64 0] 27))) := Bx.bornAt u4 3 0 27 (by simp)
          go_wp2_with fail
          have z1 : Hid (0 < (u4.alloc (.cells #[.int .i64 3, .int .i64 0] 27)).heap.size) := (by simp : 0 < (u4.alloc (.cells #[.int .i64 3, .int .i64 0] 27)).heap.size)
          generalize (u4.alloc (.cells #[.int .i64 3, .int .i64 0] 27)) = W1 at z1 h31 h32 h33 h34 h35 ⊢
          have H1 : Hid (0 < W1.heap.size) := z1
          clear z1
          have M1 : Hid (IsL 0 W1 mv ms) := h34
          have GG : Hid (Gd w W1) := h32
          have HB : Hid (u4.heap.size < W1.heap.size) := h35.out.lt
          have HC : Hid (w.heap.size < W1.heap.size) := h33.out.lt
          refine (Clone_is h31.out (by omega)).mono ?_
          rintro e W2 ⟨wv, rfl, ho, hb⟩
          have O2 : Hid (Own W1.heap.size W2 wv xs) := ho
          have B2 : Hid (Below W1.heap.size W1 W2) := hb
          have P2 : Hid (Bx u4.heap.size 3 0 W2) := h35.out.later hb
          have Q2 : Hid (Bo w.heap.size 1 k x W2) := h33.out.later hb
          clear ho hb h31 h32 h33 h34 h35
          have p0 := P2.out.c0
          have p1 := P2.out.c1
          have q0 := Q2.out.c0
          have q1 := Q2.out.c1
          have q2 := Q2.out.c2
          have T4 : Hid (IsL W1.heap.size W2 wv xs) := O2.out.isL
          have B4 : Hid (Below W1.heap.size W1 W2) := B2.out
          go_wp2_with fail
          refine (Clone_is (w := W2) (M1.out.later B4.out) LM.out).mono ?_
          rintro e W5 ⟨gv, rfl, ho, hb⟩
          have O5 : Hid (Own W2.heap.size W5 gv ms) := ho
          have B5 : Hid (Below W2.heap.size W2 W5) := hb
          clear ho hb
          go_wp2_with fail
          refine (Sort_is O5.out.isL O5.out.isL (Nat.lt_of_lt_of_le H1.out B4.out.size) LM.out).mono ?_
          rintro e W6 ⟨rfl, hi, row, hrow, hg⟩
          have G6 : Hid (IsL W2.heap.size W6 gv (srt ms)) := hi
          have B6 : Hid (Below W2.heap.size W2 W6) := B5.out.grown hg B5.out.size (fun n hn => (hrow n hn).1)
          clear hi hrow hg row
          go_wp2_with fail
          refine (Sort_is T4.out (T4.out.later B6.out) H1.out LW.out).mono ?_
          rintro e W7 ⟨rfl, hi, row, hrow, hg⟩
          have T7 : Hid (IsL W1.heap.size W7 wv (srt xs)) := hi
          have G7 : Hid (IsL W2.heap.size W7 gv (srt ms)) := G6.out.aside hg (fun n hn => (hrow n hn).2)
          have B7 : Hid (Below W1.heap.size W1 W7) := Below.grown (B4.out.trans (B6.out.mono B4.out.size)) hg (Nat.le_trans B4.out.size B6.out.size) (fun n hn => (hrow n hn).1)
          clear hi hrow hg row
          go_wp2_with fail
          refine (hRight_yes (M1.out.later B7.out) L6.out HM.out).mono ?_
          rintro e W8 ⟨rfl, hb⟩
          have T8 : Hid (IsL W1.heap.size W8 wv (srt xs)) := T7.out.later hb
          have G8 : Hid (IsL W2.heap.size W8 gv (srt xs)) := by rw [← PE.out]; exact G7.out.later hb
          have B8 : Hid (Below W1.heap.size W1 W8) := B7.out.trans (hb.mono B7.out.size)
          clear hb
          go_wp2_with fail
          refine (Equal_same G8.out T8.out (by rw [srt_len]; exact LW.out)).mono ?_
          rintro e W9 ⟨rfl, hb⟩
          have B9 : Hid (Gd w W9) := Gd.later (Gd.later GG.out B8.out) hb
          clear hb
          go_wp2
          go_ret
          exact ⟨rfl, B9.out⟩
      by_cases e2 : o = 2
      · subst e2
        clear e1
        by_cases s0 : xs.length = 0
        · obtain rfl : xs = [] := List.eq_nil_of_length_eq_zero s0
          clear s0
          obtain ⟨ms, hms⟩ : ∃ ms : List Int, ms = [] := ⟨_, rfl⟩
          have hq : hdo [] 2 x = (ms, 2, 0) := by rw [hms]; exact hdo_none x
          have HD : Hid (hdo [] 2 x = (ms, 2, 0)) := hq
          have hpm : ms.Perm [] := by rw [hms]
          have hm6 : ms.length ≤ 6 := by rw [hms]; exact s6
          have hmp : Hp ms := by rw [hms]; exact HP.out
          clear hms
          have LM : Hid (ms.length ≤ 1000000) := Nat.le_trans hm6 (by decide)
          have L6 : Hid (ms.length ≤ 6) := hm6
          have LW : Hid ([].length ≤ 1000000) := (by decide : ([] : List Int).length ≤ 1000000)
          have PE : Hid (srt ms = srt []) := srt_eq hpm
          have HM : Hid (Hp ms) := hmp
          clear hq hm6 hpm hmp
          clear s6
          go_enter Try.func5, Try.ntmps5
          go_wp2_with fail
          refine (heaped_is _).mono ?_
          rintro e u1 ⟨rfl, hb⟩
          have h6 : Hid (IsL 0 u1 (.slice a 0 c) []) := h3.out.later hb
          have h7 : Hid (Gd w u1) := h4.out.later hb
          have h8 : Hid (Bo w.heap.size 2 k x u1) := h5.out.later hb
          clear h3 h4 h5
          clear hb
          have x9 := h8.out.c0
          have x10 := h8.out.c1
          have x11 := h8.out.c2
          have x12 := h8.out.lt
          go_wp2_with fail
          refine (hRight_yes h6.out (by decide) HP.out).mono ?_
          rintro e u2 ⟨rfl, hb⟩
          have h13 : Hid (IsL 0 u2 (.slice a 0 c) []) := h6.out.later hb
          have h14 : Hid (Gd w u2) := h7.out.later hb
          have h15 : Hid (Bo w.heap.size 2 k x u2) := h8.out.later hb
          clear h6 h7 h8
          clear hb
          have x16 := h15.out.c0
          have x17 := h15.out.c1
          have x18 := h15.out.c2
          have x19 := h15.out.lt
          go_wp2_with fail
          refine (Right_is HR.out _).mono ?_
          rintro e u3 ⟨rfl, hw⟩
          have hb : Below u2.heap.size u2 u3 := by rw [hw]; exact new_below _ _
          clear hw
          have h20 : Hid (IsL 0 u3 (.slice a 0 c) []) := h13.out.later hb
          have h21 : Hid (Gd w u3) := h14.out.later hb
          have h22 : Hid (Bo w.heap.size 2 k x u3) := h15.out.later hb
          clear h13 h14 h15
          clear hb
          have x23 := h22.out.c0
          have x24 := h22.out.c1
          have x25 := h22.out.c2
          have x26 := h22.out.lt
          go_wp2_with fail
          refine (hDo_eq k h20.out (by decide) HD.out).mono ?_
          rintro e u4 ⟨mv, rfl, hi, hb⟩
          have h27 : Hid (IsL 0 u4 (.slice a 0 c) []) := h20.out.later hb
          have h28 : Hid (Gd w u4) := h21.out.later hb
          have h29 : Hid (Bo w.heap.size 2 k x u4) := h22.out.later hb
          clear h20 h21 h22
          have h30 : Hid (IsL 0 u4 mv ms) := hi.any
          clear hb hi
          have h31 : Hid (IsL 0 (u4.alloc (.cells #[.int .i64 2, .int .i64 0] 27)) (.slice a 0 c) []) := h27.out.new (.cells #[.int .i64 2, .int .i64 0] 27)
          have h32 : Hid (Gd w (u4.alloc (.cells #[.int .i64 2, .int .i64 0] 27))) := h28.out.new (.cells #[.int .i64 2, .int .i64 0] 27)
          have h33 : Hid (Bo w.heap.size 2 k x (u4.alloc (.cells #[.int .i64 2, .int .i64 0] 27))) := h29.out.new (.cells #[.int .i64 2, .int .i64 0] 27)
          have h34 : Hid (IsL 0 (u4.alloc (.cells #[.int .i64 2, .int .i64 0] 27)) mv ms) := h30.out.new (.cells #[.int .i64 2, .int .i64 0] 27)
          clear h27 h28 h29 h30
          have h35 : Hid (Bx (u4.heap.size) 2 0 (u4.alloc (.cells #[.int .i64 2, .int .i64 0] 27))) := Bx.bornAt u4 2 0 27 (by simp)
          go_wp2_with fail
          have z1 : Hid (0 < (u4.alloc (.cells #[.int .i64 2, .int .i64 0] 27)).heap.size) := (by simp : 0 < (u4.alloc (.cells #[.int .i64 2, .int .i64 0] 27)).heap.size)
          generalize (u4.alloc (.cells #[.int .i64 2, .int .i64 0] 27)) = W1 at z1 h31 h32 h33 h34 h35 ⊢
          have H1 : Hid (0 < W1.heap.size) := z1
          clear z1
          have M1 : Hid (IsL 0 W1 mv ms) := h34
          have GG : Hid (Gd w W1) := h32
          have HB : Hid (u4.heap.size < W1.heap.size) := h35.out.lt
          have HC : Hid (w.heap.size < W1.heap.size) := h33.out.lt
          refine (Clone_is h31.out (by decide)).mono ?_
          rintro e W2 ⟨wv, rfl, ho, hb⟩
          have O2 : Hid (Own W1.heap.size W2 wv []) := ho
          have B2 : Hid (Below W1.heap.size W1 W2) := hb
          have P2 : Hid (Bx u4.heap.size 2 0 W2) := h35.out.later hb
          have Q2 : Hid (Bo w.heap.size 2 k x W2) := h33.out.later hb
          clear ho hb h31 h32 h33 h34 h35
          have p0 := P2.out.c0
          have p1 := P2.out.c1
          have q0 := Q2.out.c0
          have q1 := Q2.out.c1
          have q2 := Q2.out.c2
          have T4 : Hid (IsL W1.heap.size W2 wv []) := O2.out.isL
          have B4 : Hid (Below W1.heap.size W1 W2) := B2.out
          go_wp2_with fail
          refine (Clone_is (w := W2) (M1.out.later B4.out) LM.out).mono ?_
          rintro e W5 ⟨gv, rfl, ho, hb⟩
          have O5 : Hid (Own W2.heap.size W5 gv ms) := ho
          have B5 : Hid (Below W2.heap.size W2 W5) := hb
          clear ho hb
          go_wp2_with fail
          refine (Sort_is O5.out.isL O5.out.isL (Nat.lt_of_lt_of_le H1.out B4.out.size) LM.out).mono ?_
          rintro e W6 ⟨rfl, hi, row, hrow, hg⟩
          have G6 : Hid (IsL W2.heap.size W6 gv (srt ms)) := hi
          have B6 : Hid (Below W2.heap.size W2 W6) := B5.out.grown hg B5.out.size (fun n hn => (hrow n hn).1)
          clear hi hrow hg row
          go_wp2_with fail
          refine (Sort_is T4.out (T4.out.later B6.out) H1.out LW.out).mono ?_
          rintro e W7 ⟨rfl, hi, row, hrow, hg⟩
          have T7 : Hid (IsL W1.heap.size W7 wv (srt [])) := hi
          have G7 : Hid (IsL W2.heap.size W7 gv (srt ms)) := G6.out.aside hg (fun n hn => (hrow n hn).2)
          have B7 : Hid (Below W1.heap.size W1 W7) := Below.grown (B4.out.trans (B6.out.mono B4.out.size)) hg (Nat.le_trans B4.out.size B6.out.size) (fun n hn => (hrow n hn).1)
          clear hi hrow hg row
          go_wp2_with fail
          refine (hRight_yes (M1.out.later B7.out) L6.out HM.out).mono ?_
          rintro e W8 ⟨rfl, hb⟩
          have T8 : Hid (IsL W1.heap.size W8 wv (srt [])) := T7.out.later hb
          have G8 : Hid (IsL W2.heap.size W8 gv (srt [])) := by rw [← PE.out]; exact G7.out.later hb
          have B8 : Hid (Below W1.heap.size W1 W8) := B7.out.trans (hb.mono B7.out.size)
          clear hb
          go_wp2_with fail
          refine (Equal_same G8.out T8.out (by rw [srt_len]; exact LW.out)).mono ?_
          rintro e W9 ⟨rfl, hb⟩
          have B9 : Hid (Gd w W9) := Gd.later (Gd.later GG.out B8.out) hb
          clear hb
          go_wp2
          go_ret
          exact ⟨rfl, B9.out⟩
        · obtain ⟨z, r, ms, hx0, hq, hpm, hmp⟩ := takes_pure x HP.out (by omega)
          have EX : Hid (xs = z :: r) := hx0
          have hlr : r.length + 1 = xs.length := by rw [hx0]; rfl
          clear hx0
          have hm6 : ms.length ≤ 6 := by rw [hpm.length_eq]; omega
          have HD : Hid (hdo xs 2 x = (ms, 1, z)) := hq
          have LM : Hid (ms.length ≤ 1000000) := Nat.le_trans hm6 (by decide)
          have L6 : Hid (ms.length ≤ 6) := hm6
          have LW : Hid (r.length ≤ 1000000) := (by omega : r.length ≤ 1000000)
          have PE : Hid (srt ms = srt r) := srt_eq hpm
          have HM : Hid (Hp ms) := hmp
          clear hq hm6 hpm hmp
          go_enter Try.func5, Try.ntmps5
          go_wp2_with fail
          refine (heaped_is _).mono ?_
          rintro e u1 ⟨rfl, hb⟩
          have h6 : Hid (IsL 0 u1 (.slice a xs.length c) xs) := h3.out.later hb
          have h7 : Hid (Gd w u1) := h4.out.later hb
          have h8 : Hid (Bo w.heap.size 2 k x u1) := h5.out.later hb
          clear h3 h4 h5
          clear hb
          have x9 := h8.out.c0
          have x10 := h8.out.c1
          have x11 := h8.out.c2
          have x12 := h8.out.lt
          go_wp2_with fail
          refine (hRight_yes h6.out s6 HP.out).mono ?_
          rintro e u2 ⟨rfl, hb⟩
          have h13 : Hid (IsL 0 u2 (.slice a xs.length c) xs) := h6.out.later hb
          have h14 : Hid (Gd w u2) := h7.out.later hb
          have h15 : Hid (Bo w.heap.size 2 k x u2) := h8.out.later hb
          clear h6 h7 h8
          clear hb
          have x16 := h15.out.c0
          have x17 := h15.out.c1
          have x18 := h15.out.c2
          have x19 := h15.out.lt
          go_wp2_with fail
          refine (Right_is HR.out _).mono ?_
          rintro e u3 ⟨rfl, hw⟩
          have hb : Below u2.heap.size u2 u3 := by rw [hw]; exact new_below _ _
          clear hw
          have h20 : Hid (IsL 0 u3 (.slice a xs.length c) xs) := h13.out.later hb
          have h21 : Hid (Gd w u3) := h14.out.later hb
          have h22 : Hid (Bo w.heap.size 2 k x u3) := h15.out.later hb
          clear h13 h14 h15
          clear hb
          have x23 := h22.out.c0
          have x24 := h22.out.c1
          have x25 := h22.out.c2
          have x26 := h22.out.lt
          go_wp2_with fail
          refine (hDo_eq k h20.out (by omega) HD.out).mono ?_
          rintro e u4 ⟨mv, rfl, hi, hb⟩
          have h27 : Hid (IsL 0 u4 (.slice a xs.length c) xs) := h20.out.later hb
          have h28 : Hid (Gd w u4) := h21.out.later hb
          have h29 : Hid (Bo w.heap.size 2 k x u4) := h22.out.later hb
          clear h20 h21 h22
          have h30 : Hid (IsL 0 u4 mv ms) := hi.any
          clear hb hi
          have h31 : Hid (IsL 0 (u4.alloc (.cells #[.int .i64 1, .int .i64 z] 27)) (.slice a xs.length c) xs) := h27.out.new (.cells #[.int .i64 1, .int .i64 z] 27)
          have h32 : Hid (Gd w (u4.alloc (.cells #[.int .i64 1, .int .i64 z] 27))) := h28.out.new (.cells #[.int .i64 1, .int .i64 z] 27)
          have h33 : Hid (Bo w.heap.size 2 k x (u4.alloc (.cells #[.int .i64 1, .int .i64 z] 27))) := h29.out.new (.cells #[.int .i64 1, .int .i64 z] 27)
          have h34 : Hid (IsL 0 (u4.alloc (.cells #[.int .i64 1, .int .i64 z] 27)) mv ms) := h30.out.new (.cells #[.int .i64 1, .int .i64 z] 27)
          clear h27 h28 h29 h30
          have h35 : Hid (Bx (u4.heap.size) 1 z (u4.alloc (.cells #[.int .i64 1, .int .i64 z] 27))) := Bx.bornAt u4 1 z 27 (by simp)
          go_wp2_with fail
          have z1 : Hid (0 < (u4.alloc (.cells #[.int .i64 1, .int .i64 z] 27)).heap.size) := (by simp : 0 < (u4.alloc (.cells #[.int .i64 1, .int .i64 z] 27)).heap.size)
          generalize (u4.alloc (.cells #[.int .i64 1, .int .i64 z] 27)) = W1 at z1 h31 h32 h33 h34 h35 ⊢
          have H1 : Hid (0 < W1.heap.size) := z1
          clear z1
          have M1 : Hid (IsL 0 W1 mv ms) := h34
          have GG : Hid (Gd w W1) := h32
          have HB : Hid (u4.heap.size < W1.heap.size) := h35.out.lt
          have HC : Hid (w.heap.size < W1.heap.size) := h33.out.lt
          refine (Clone_is h31.out (by omega)).mono ?_
          rintro e W2 ⟨wv, rfl, ho, hb⟩
          have O2 : Hid (Own W1.heap.size W2 wv xs) := ho
          have B2 : Hid (Below W1.heap.size W1 W2) := hb
          have P2 : Hid (Bx u4.heap.size 1 z W2) := h35.out.later hb
          have Q2 : Hid (Bo w.heap.size 2 k x W2) := h33.out.later hb
          clear ho hb h31 h32 h33 h34 h35
          have p0 := P2.out.c0
          have p1 := P2.out.c1
          have q0 := Q2.out.c0
          have q1 := Q2.out.c1
          have q2 := Q2.out.c2
          go_wp2_with fail
          refine (Index_of EX.out O2.out.isL (by omega)).mono ?_
          rintro e W ⟨rfl, hW⟩
          rw [hW]; clear hW W
          go_wp2_with fail
          refine (Delete_of EX.out O2.out H1.out B2.out.size).mono ?_
          rintro e W3 ⟨v3, rfl, hi, hb⟩
          have T3 : Hid (IsL W1.heap.size W3 v3 r) := hi
          have B3 : Hid (Below W1.heap.size W1 W3) := B2.out.trans hb
          clear hi hb
          have T4 : Hid (IsL W1.heap.size W3 v3 r) := T3.out
          have B4 : Hid (Below W1.heap.size W1 W3) := B3.out
          go_wp2_with fail
          refine (Clone_is (w := W3) (M1.out.later B4.out) LM.out).mono ?_
          rintro e W5 ⟨gv, rfl, ho, hb⟩
          have O5 : Hid (Own W3.heap.size W5 gv ms) := ho
          have B5 : Hid (Below W3.heap.size W3 W5) := hb
          clear ho hb
          go_wp2_with fail
          refine (Sort_is O5.out.isL O5.out.isL (Nat.lt_of_lt_of_le H1.out B4.out.size) LM.out).mono ?_
          rintro e W6 ⟨rfl, hi, row, hrow, hg⟩
          have G6 : Hid (IsL W3.heap.size W6 gv (srt ms)) := hi
          have B6 : Hid (Below W3.heap.size W3 W6) := B5.out.grown hg B5.out.size (fun n hn => (hrow n hn).1)
          clear hi hrow hg row
          go_wp2_with fail
          refine (Sort_is T4.out (T4.out.later B6.out) H1.out LW.out).mono ?_
          rintro e W7 ⟨rfl, hi, row, hrow, hg⟩
          have T7 : Hid (IsL W1.heap.size W7 v3 (srt r)) := hi
          have G7 : Hid (IsL W3.heap.size W7 gv (srt ms)) := G6.out.aside hg (fun n hn => (hrow n hn).2)
          have B7 : Hid (Below W1.heap.size W1 W7) := Below.grown (B4.out.trans (B6.out.mono B4.out.size)) hg (Nat.le_trans B4.out.size B6.out.size) (fun n hn => (hrow n hn).1)
          clear hi hrow hg row
          go_wp2_with fail
          refine (hRight_yes (M1.out.later B7.out) L6.out HM.out).mono ?_
          rintro e W8 ⟨rfl, hb⟩
          have T8 : Hid (IsL W1.heap.size W8 v3 (srt r)) := T7.out.later hb
          have G8 : Hid (IsL W3.heap.size W8 gv (srt r)) := by rw [← PE.out]; exact G7.out.later hb
          have B8 : Hid (Below W1.heap.size W1 W8) := B7.out.trans (hb.mono B7.out.size)
          clear hb
          go_wp2_with fail
          refine (Equal_same G8.out T8.out (by rw [srt_len]; exact LW.out)).mono ?_
          rintro e W9 ⟨rfl, hb⟩
          have B9 : Hid (Gd w W9) := Gd.later (Gd.later GG.out B8.out) hb
          clear hb
          go_wp2
          go_ret
          exact ⟨rfl, B9.out⟩
      have m1 : (o == 1) = false := by simp [e1]
      have m2 : (o == 2) = false := by simp [e2]
      obtain ⟨ms, cc, yy, hms, hq⟩ : ∃ ms cc yy, ms = xs ∧ hdo xs o x = (ms, cc, yy) := by obtain ⟨cc, yy, h⟩ := hdo_keeps xs o x e1 e2; exact ⟨xs, cc, yy, rfl, h⟩
      have HD : Hid (hdo xs o x = (ms, cc, yy)) := hq
      have hpm : ms.Perm xs := by rw [hms]
      have hm6 : ms.length ≤ 6 := by rw [hms]; exact s6
      have hmp : Hp ms := by rw [hms]; exact HP.out
      clear hms
      have LM : Hid (ms.length ≤ 1000000) := Nat.le_trans hm6 (by decide)
      have L6 : Hid (ms.length ≤ 6) := hm6
      have LW : Hid (xs.length ≤ 1000000) := (by omega : xs.length ≤ 1000000)
      have PE : Hid (srt ms = srt xs) := srt_eq hpm
      have HM : Hid (Hp ms) := hmp
      clear hq hm6 hpm hmp
      clear e1 e2
      by_cases c1 : cc = 1
      · have mc : (cc == 1) = true := by simp [c1]
        clear c1
        go_enter Try.func5, Try.ntmps5
        go_wp2_with fail
        refine (heaped_is _).mono ?_
        rintro e u1 ⟨rfl, hb⟩
        have h6 : Hid (IsL 0 u1 (.slice a xs.length c) xs) := h3.out.later hb
        have h7 : Hid (Gd w u1) := h4.out.later hb
        have h8 : Hid (Bo w.heap.size o k x u1) := h5.out.later hb
        clear h3 h4 h5
        clear hb
        have x9 := h8.out.c0
        have x10 := h8.out.c1
        have x11 := h8.out.c2
        have x12 := h8.out.lt
        go_wp2_with fail
        refine (hRight_yes h6.out s6 HP.out).mono ?_
        rintro e u2 ⟨rfl, hb⟩
        have h13 : Hid (IsL 0 u2 (.slice a xs.length c) xs) := h6.out.later hb
        have h14 : Hid (Gd w u2) := h7.out.later hb
        have h15 : Hid (Bo w.heap.size o k x u2) := h8.out.later hb
        clear h6 h7 h8
        clear hb
        have x16 := h15.out.c0
        have x17 := h15.out.c1
        have x18 := h15.out.c2
        have x19 := h15.out.lt
        go_wp2_with fail
        refine (Right_is HR.out _).mono ?_
        rintro e u3 ⟨rfl, hw⟩
        have hb : Below u2.heap.size u2 u3 := by rw [hw]; exact new_below _ _
        clear hw
        have h20 : Hid (IsL 0 u3 (.slice a xs.length c) xs) := h13.out.later hb
        have h21 : Hid (Gd w u3) := h14.out.later hb
        have h22 : Hid (Bo w.heap.size o k x u3) := h15.out.later hb
        clear h13 h14 h15
        clear hb
        have x23 := h22.out.c0
        have x24 := h22.out.c1
        have x25 := h22.out.c2
        have x26 := h22.out.lt
        go_wp2_with fail
        refine (hDo_eq k h20.out (by omega) HD.out).mono ?_
        rintro e u4 ⟨mv, rfl, hi, hb⟩
        have h27 : Hid (IsL 0 u4 (.slice a xs.length c) xs) := h20.out.later hb
        have h28 : Hid (Gd w u4) := h21.out.later hb
        have h29 : Hid (Bo w.heap.size o k x u4) := h22.out.later hb
        clear h20 h21 h22
        have h30 : Hid (IsL 0 u4 mv ms) := hi.any
        clear hb hi
        have h31 : Hid (IsL 0 (u4.alloc (.cells #[.int .i64 cc, .int .i64 yy] 27)) (.slice a xs.length c) xs) := h27.out.new (.cells #[.int .i64 cc, .int .i64 yy] 27)
        have h32 : Hid (Gd w (u4.alloc (.cells #[.int .i64 cc, .int .i64 yy] 27))) := h28.out.new (.cells #[.int .i64 cc, .int .i64 yy] 27)
        have h33 : Hid (Bo w.heap.size o k x (u4.alloc (.cells #[.int .i64 cc, .int .i64 yy] 27))) := h29.out.new (.cells #[.int .i64 cc, .int .i64 yy] 27)
        have h34 : Hid (IsL 0 (u4.alloc (.cells #[.int .i64 cc, .int .i64 yy] 27)) mv ms) := h30.out.new (.cells #[.int .i64 cc, .int .i64 yy] 27)
        clear h27 h28 h29 h30
        have h35 : Hid (Bx (u4.heap.size) cc yy (u4.alloc (.cells #[.int .i64 cc, .int .i64 yy] 27))) := Bx.bornAt u4 cc yy 27 (by simp)
        go_wp2_with fail
        have z1 : Hid (0 < (u4.alloc (.cells #[.int .i64 cc, .int .i64 yy] 27)).heap.size) := (by simp : 0 < (u4.alloc (.cells #[.int .i64 cc, .int .i64 yy] 27)).heap.size)
        generalize (u4.alloc (.cells #[.int .i64 cc, .int .i64 yy] 27)) = W1 at z1 h31 h32 h33 h34 h35 ⊢
        have H1 : Hid (0 < W1.heap.size) := z1
        clear z1
        have M1 : Hid (IsL 0 W1 mv ms) := h34
        have GG : Hid (Gd w W1) := h32
        have HB : Hid (u4.heap.size < W1.heap.size) := h35.out.lt
        have HC : Hid (w.heap.size < W1.heap.size) := h33.out.lt
        refine (Clone_is h31.out (by omega)).mono ?_
        rintro e W2 ⟨wv, rfl, ho, hb⟩
        have O2 : Hid (Own W1.heap.size W2 wv xs) := ho
        have B2 : Hid (Below W1.heap.size W1 W2) := hb
        have P2 : Hid (Bx u4.heap.size cc yy W2) := h35.out.later hb
        have Q2 : Hid (Bo w.heap.size o k x W2) := h33.out.later hb
        clear ho hb h31 h32 h33 h34 h35
        have p0 := P2.out.c0
        have p1 := P2.out.c1
        have q0 := Q2.out.c0
        have q1 := Q2.out.c1
        have q2 := Q2.out.c2
        have T4 : Hid (IsL W1.heap.size W2 wv xs) := O2.out.isL
        have B4 : Hid (Below W1.heap.size W1 W2) := B2.out
        go_wp2_with fail
        refine (Clone_is (w := W2) (M1.out.later B4.out) LM.out).mono ?_
        rintro e W5 ⟨gv, rfl, ho, hb⟩
        have O5 : Hid (Own W2.heap.size W5 gv ms) := ho
        have B5 : Hid (Below W2.heap.size W2 W5) := hb
        clear ho hb
        go_wp2_with fail
        refine (Sort_is O5.out.isL O5.out.isL (Nat.lt_of_lt_of_le H1.out B4.out.size) LM.out).mono ?_
        rintro e W6 ⟨rfl, hi, row, hrow, hg⟩
        have G6 : Hid (IsL W2.heap.size W6 gv (srt ms)) := hi
        have B6 : Hid (Below W2.heap.size W2 W6) := B5.out.grown hg B5.out.size (fun n hn => (hrow n hn).1)
        clear hi hrow hg row
        go_wp2_with fail
        refine (Sort_is T4.out (T4.out.later B6.out) H1.out LW.out).mono ?_
        rintro e W7 ⟨rfl, hi, row, hrow, hg⟩
        have T7 : Hid (IsL W1.heap.size W7 wv (srt xs)) := hi
        have G7 : Hid (IsL W2.heap.size W7 gv (srt ms)) := G6.out.aside hg (fun n hn => (hrow n hn).2)
        have B7 : Hid (Below W1.heap.size W1 W7) := Below.grown (B4.out.trans (B6.out.mono B4.out.size)) hg (Nat.le_trans B4.out.size B6.out.size) (fun n hn => (hrow n hn).1)
        clear hi hrow hg row
        go_wp2_with fail
        refine (hRight_yes (M1.out.later B7.out) L6.out HM.out).mono ?_
        rintro e W8 ⟨rfl, hb⟩
        have T8 : Hid (IsL W1.heap.size W8 wv (srt xs)) := T7.out.later hb
        have G8 : Hid (IsL W2.heap.size W8 gv (srt xs)) := by rw [← PE.out]; exact G7.out.later hb
        have B8 : Hid (Below W1.heap.size W1 W8) := B7.out.trans (hb.mono B7.out.size)
        clear hb
        go_wp2_with fail
        refine (Equal_same G8.out T8.out (by rw [srt_len]; exact LW.out)).mono ?_
        rintro e W9 ⟨rfl, hb⟩
        have B9 : Hid (Gd w W9) := Gd.later (Gd.later GG.out B8.out) hb
        clear hb
        go_wp2
        go_ret
        exact ⟨rfl, B9.out⟩
      · have mc : (cc == 1) = false := by simp [c1]
        clear c1
        go_enter Try.func5, Try.ntmps5
        go_wp2_with fail
        refine (heaped_is _).mono ?_
        rintro e u1 ⟨rfl, hb⟩
        have h6 : Hid (IsL 0 u1 (.slice a xs.length c) xs) := h3.out.later hb
        have h7 : Hid (Gd w u1) := h4.out.later hb
        have h8 : Hid (Bo w.heap.size o k x u1) := h5.out.later hb
        clear h3 h4 h5
        clear hb
        have x9 := h8.out.c0
        have x10 := h8.out.c1
        have x11 := h8.out.c2
        have x12 := h8.out.lt
        go_wp2_with fail
        refine (hRight_yes h6.out s6 HP.out).mono ?_
        rintro e u2 ⟨rfl, hb⟩
        have h13 : Hid (IsL 0 u2 (.slice a xs.length c) xs) := h6.out.later hb
        have h14 : Hid (Gd w u2) := h7.out.later hb
        have h15 : Hid (Bo w.heap.size o k x u2) := h8.out.later hb
        clear h6 h7 h8
        clear hb
        have x16 := h15.out.c0
        have x17 := h15.out.c1
        have x18 := h15.out.c2
        have x19 := h15.out.lt
        go_wp2_with fail
        refine (Right_is HR.out _).mono ?_
        rintro e u3 ⟨rfl, hw⟩
        have hb : Below u2.heap.size u2 u3 := by rw [hw]; exact new_below _ _
        clear hw
        have h20 : Hid (IsL 0 u3 (.slice a xs.length c) xs) := h13.out.later hb
        have h21 : Hid (Gd w u3) := h14.out.later hb
        have h22 : Hid (Bo w.heap.size o k x u3) := h15.out.later hb
        clear h13 h14 h15
        clear hb
        have x23 := h22.out.c0
        have x24 := h22.out.c1
        have x25 := h22.out.c2
        have x26 := h22.out.lt
        go_wp2_with fail
        refine (hDo_eq k h20.out (by omega) HD.out).mono ?_
        rintro e u4 ⟨mv, rfl, hi, hb⟩
        have h27 : Hid (IsL 0 u4 (.slice a xs.length c) xs) := h20.out.later hb
        have h28 : Hid (Gd w u4) := h21.out.later hb
        have h29 : Hid (Bo w.heap.size o k x u4) := h22.out.later hb
        clear h20 h21 h22
        have h30 : Hid (IsL 0 u4 mv ms) := hi.any
        clear hb hi
        have h31 : Hid (IsL 0 (u4.alloc (.cells #[.int .i64 cc, .int .i64 yy] 27)) (.slice a xs.length c) xs) := h27.out.new (.cells #[.int .i64 cc, .int .i64 yy] 27)
        have h32 : Hid (Gd w (u4.alloc (.cells #[.int .i64 cc, .int .i64 yy] 27))) := h28.out.new (.cells #[.int .i64 cc, .int .i64 yy] 27)
        have h33 : Hid (Bo w.heap.size o k x (u4.alloc (.cells #[.int .i64 cc, .int .i64 yy] 27))) := h29.out.new (.cells #[.int .i64 cc, .int .i64 yy] 27)
        have h34 : Hid (IsL 0 (u4.alloc (.cells #[.int .i64 cc, .int .i64 yy] 27)) mv ms) := h30.out.new (.cells #[.int .i64 cc, .int .i64 yy] 27)
        clear h27 h28 h29 h30
        have h35 : Hid (Bx (u4.heap.size) cc yy (u4.alloc (.cells #[.int .i64 cc, .int .i64 yy] 27))) := Bx.bornAt u4 cc yy 27 (by simp)
        go_wp2_with fail
        have z1 : Hid (0 < (u4.alloc (.cells #[.int .i64 cc, .int .i64 yy] 27)).heap.size) := (by simp : 0 < (u4.alloc (.cells #[.int .i64 cc, .int .i64 yy] 27)).heap.size)
        generalize (u4.alloc (.cells #[.int .i64 cc, .int .i64 yy] 27)) = W1 at z1 h31 h32 h33 h34 h35 ⊢
        have H1 : Hid (0 < W1.heap.size) := z1
        clear z1
        have M1 : Hid (IsL 0 W1 mv ms) := h34
        have GG : Hid (Gd w W1) := h32
        have HB : Hid (u4.heap.size < W1.heap.size) := h35.out.lt
        have HC : Hid (w.heap.size < W1.heap.size) := h33.out.lt
        refine (Clone_is h31.out (by omega)).mono ?_
        rintro e W2 ⟨wv, rfl, ho, hb⟩
        have O2 : Hid (Own W1.heap.size W2 wv xs) := ho
        have B2 : Hid (Below W1.heap.size W1 W2) := hb
        have P2 : Hid (Bx u4.heap.size cc yy W2) := h35.out.later hb
        have Q2 : Hid (Bo w.heap.size o k x W2) := h33.out.later hb
        clear ho hb h31 h32 h33 h34 h35
        have p0 := P2.out.c0
        have p1 := P2.out.c1
        have q0 := Q2.out.c0
        have q1 := Q2.out.c1
        have q2 := Q2.out.c2
        have T4 : Hid (IsL W1.heap.size W2 wv xs) := O2.out.isL
        have B4 : Hid (Below W1.heap.size W1 W2) := B2.out
        go_wp2_with fail
        refine (Clone_is (w := W2) (M1.out.later B4.out) LM.out).mono ?_
        rintro e W5 ⟨gv, rfl, ho, hb⟩
        have O5 : Hid (Own W2.heap.size W5 gv ms) := ho
        have B5 : Hid (Below W2.heap.size W2 W5) := hb
        clear ho hb
        go_wp2_with fail
        refine (Sort_is O5.out.isL O5.out.isL (Nat.lt_of_lt_of_le H1.out B4.out.size) LM.out).mono ?_
        rintro e W6 ⟨rfl, hi, row, hrow, hg⟩
        have G6 : Hid (IsL W2.heap.size W6 gv (srt ms)) := hi
        have B6 : Hid (Below W2.heap.size W2 W6) := B5.out.grown hg B5.out.size (fun n hn => (hrow n hn).1)
        clear hi hrow hg row
        go_wp2_with fail
        refine (Sort_is T4.out (T4.out.later B6.out) H1.out LW.out).mono ?_
        rintro e W7 ⟨rfl, hi, row, hrow, hg⟩
        have T7 : Hid (IsL W1.heap.size W7 wv (srt xs)) := hi
        have G7 : Hid (IsL W2.heap.size W7 gv (srt ms)) := G6.out.aside hg (fun n hn => (hrow n hn).2)
        have B7 : Hid (Below W1.heap.size W1 W7) := Below.grown (B4.out.trans (B6.out.mono B4.out.size)) hg (Nat.le_trans B4.out.size B6.out.size) (fun n hn => (hrow n hn).1)
        clear hi hrow hg row
        go_wp2_with fail
        refine (hRight_yes (M1.out.later B7.out) L6.out HM.out).mono ?_
        rintro e W8 ⟨rfl, hb⟩
        have T8 : Hid (IsL W1.heap.size W8 wv (srt xs)) := T7.out.later hb
        have G8 : Hid (IsL W2.heap.size W8 gv (srt xs)) := by rw [← PE.out]; exact G7.out.later hb
        have B8 : Hid (Below W1.heap.size W1 W8) := B7.out.trans (hb.mono B7.out.size)
        clear hb
        go_wp2_with fail
        refine (Equal_same G8.out T8.out (by rw [srt_len]; exact LW.out)).mono ?_
        rintro e W9 ⟨rfl, hb⟩
        have B9 : Hid (Gd w W9) := Gd.later (Gd.later GG.out B8.out) hb
        clear hb
        go_wp2
        go_ret
        exact ⟨rfl, B9.out⟩
    · have HR : Hid (¬ Rt o k x) := hrt
      clear hrt
      go_enter Try.func5, Try.ntmps5
      go_wp2_with fail
      refine (heaped_is _).mono ?_
      rintro e u1 ⟨rfl, hb⟩
      have h6 : Hid (IsL 0 u1 (.slice a xs.length c) xs) := h3.out.later hb
      have h7 : Hid (Gd w u1) := h4.out.later hb
      have h8 : Hid (Bo w.heap.size o k x u1) := h5.out.later hb
      clear h3 h4 h5
      clear hb
      have x9 := h8.out.c0
      have x10 := h8.out.c1
      have x11 := h8.out.c2
      have x12 := h8.out.lt
      go_wp2_with fail
      refine (hRight_yes h6.out s6 HP.out).mono ?_
      rintro e u2 ⟨rfl, hb⟩
      have h13 : Hid (IsL 0 u2 (.slice a xs.length c) xs) := h6.out.later hb
      have h14 : Hid (Gd w u2) := h7.out.later hb
      have h15 : Hid (Bo w.heap.size o k x u2) := h8.out.later hb
      clear h6 h7 h8
      clear hb
      have x16 := h15.out.c0
      have x17 := h15.out.c1
      have x18 := h15.out.c2
      have x19 := h15.out.lt
      go_wp2_with fail
      refine (Right_isnt HR.out _).mono ?_
      rintro e u3 ⟨rfl, hw⟩
      have hb : Below u2.heap.size u2 u3 := by rw [hw]; exact new_below _ _
      clear hw
      have h20 : Hid (IsL 0 u3 (.slice a xs.length c) xs) := h13.out.later hb
      have h21 : Hid (Gd w u3) := h14.out.later hb
      have h22 : Hid (Bo w.heap.size o k x u3) := h15.out.later hb
      clear h13 h14 h15
      clear hb
      have x23 := h22.out.c0
      have x24 := h22.out.c1
      have x25 := h22.out.c2
      have x26 := h22.out.lt
      go_wp2
      go_ret
      exact ⟨rfl, h21.out⟩
  · have HR : Hid (¬ (xs.length ≤ 6 ∧ Hp xs)) := hr
    clear hr
    go_enter Try.func5, Try.ntmps5
    go_wp2_with fail
    refine (heaped_is _).mono ?_
    rintro e u1 ⟨rfl, hb⟩
    have h6 : Hid (IsL 0 u1 (.slice a xs.length c) xs) := h3.out.later hb
    have h7 : Hid (Gd w u1) := h4.out.later hb
    have h8 : Hid (Bo w.heap.size o k x u1) := h5.out.later hb
    clear h3 h4 h5
    clear hb
    have x9 := h8.out.c0
    have x10 := h8.out.c1
    have x11 := h8.out.c2
    have x12 := h8.out.lt
    go_wp2_with fail
    refine (hRight_isnt h6.out HR.out).mono ?_
    rintro e u2 ⟨rfl, hb⟩
    have h13 : Hid (IsL 0 u2 (.slice a xs.length c) xs) := h6.out.later hb
    have h14 : Hid (Gd w u2) := h7.out.later hb
    have h15 : Hid (Bo w.heap.size o k x u2) := h8.out.later hb
    clear h6 h7 h8
    clear hb
    have x16 := h15.out.c0
    have x17 := h15.out.c1
    have x18 := h15.out.c2
    have x19 := h15.out.lt
    go_wp2
    go_ret
    exact ⟨rfl, h14.out⟩


set_option maxRecDepth 100000 in
theorem lifted (os : Os) (started : os.Started) (H : Type) (enc : TypeId × Value → H) :
    ReturnsInHanded {} Try.checked os 5 .any (Rows.heapStaysSpec.pre6 enc Try.prog Try.f5 Rows.heapStaysRow.domain false) (Rows.heapStaysSpec.post enc Try.prog Try.f5 false true false false) := by
  refine returnsInHanded_of_change (C := Try.checked) own started (by kernel_rfl) Try.func5
    (ChangeSpec.witness6 (enc := enc) (C := Try.checked) false ⟨#[], #[.slice none 0 0, .agg #[.int .i64 0, .int .i64 0, .int .i64 0]], []⟩ 8 (by kernel_rfl) (by kernel_rfl) (by kernel_rfl) (by kernel_rfl)) ?_
  intro W base args ds gs before hval0 hW hcnd _
  have hval : ∀ (j : Nat) t v, Try.f5.params[j]? = some t → args[j]? = some v → Value.okWide Try.prog W .any base t v := hval0
  have hW' := hW
  obtain ⟨p, q, hA0, hV, rfl, hfz, hnd⟩ := hW
  have hA : DataW.TrodAll enc Try.prog W 0 (fun _ => true) true Try.f5.params.toList args.toList ds p := hA0
  rw [Try.params5] at hA hval
  obtain ⟨v0, vs0, d0, ds0, p0, q0, hargs, rfl, rfl, h0, r0⟩ := trodAll_cons hA
  obtain ⟨v1, vs1, d1, ds1, p1, q1, rfl, rfl, rfl, h1, r1⟩ := trodAll_cons r0
  obtain ⟨rfl, rfl, rfl⟩ := trodAll_nil r1
  obtain rfl : args = #[v0, v1] := by cases args; simp_all
  obtain ⟨rfl, rfl⟩ := trodVars_none hV
  obtain ⟨n0, D0⟩ := ints_of_trod (hval 0 22 v0 rfl rfl) h0
  obtain ⟨a1, b1, c1, rfl, wa1, wb1, wc1⟩ := op_of_trod (hval 1 25 v1 rfl rfl) h1
  have hlt := hW'.lt
  clear hA0 hval0
  refine (walk v0 n0 a1 b1 c1 wa1 wb1 wc1 W  D0).mono fun e W' ⟨he, hg⟩ => ?_
  subst he
  exact ⟨_, rfl, post_below (pv := []) hW' (fun _ _ _ => (trodAll_cons_mk (shut_bool Try.underlying4 _) trodAll_mk0)) (fun sp hsp => (trodAll_cons_mk (ints_stay h0 hg (fun x hx => hlt x (by simp [hx])) (fun x hx => hsp x (by simp [hx]))) (trodAll_cons_mk (op_stay h1 hg (fun x hx => hlt x (by simp [hx])) (fun x hx => hsp x (by simp [hx]))) trodAll_mk0))) (fun _ _ => rfl) (by simp) (hg.frame _)⟩

theorem over : Rows.heapStaysRow.holds Try.pinned (OpenSpec.ofChange Rows.heapStaysSpec) :=
  OpenClaim.holds_of_wide 5 Try.f5 rfl rfl rfl rfl rfl rfl rfl ⟨rfl, rfl, rfl, rfl, rfl⟩ rfl rfl rfl rfl rfl (by kernel_rfl) Try.func5 (by kernel_rfl)
    (of_decide_eq_true (by kernel_rfl)) (by unfold Func.isWrapper; first | (rw [if_pos (by decide +kernel)]; kernel_rfl) | (rw [if_neg (by decide +kernel)]; exact ⟨rfl, rfl⟩))
    (fun os started H enc _ => lifted os started H enc)

theorem proved : Rows.HeapStaysSaid :=
  over
#print axioms proved
end Go.Proofs.Ytenkjkfnampkiaa.heapStays
