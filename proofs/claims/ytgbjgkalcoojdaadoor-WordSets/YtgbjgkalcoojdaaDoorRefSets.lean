/- The reference's Get and Set, by their contracts. -/
import Derived.Test.YtgbjgkalcoojdaaDoorRef
import Derived.Test.YtgbjgkalcoojdaaDoorSets
namespace Go.Proofs.YtgbjgkalcoojdaaDoor
open Go.RowKit

theorem refGet_no (x a n : Int) (w : World) (hn : n ≤ 9223372036854775807) (h : n < 1 ∨ a < 0 ∨ 64 - n < a) :
    Calls Tryd.prog 8 #[.int .u64 x, .int .i64 a, .int .i64 n] w fun e w' => e = .returned (.tuple #[.int .u64 0, .int .i64 2]) ∧ w' = w := by
  by_cases h1 : n < 1
  · clear h
    go_enter Tryd.func8, Tryd.ntmps8
    go_wp2
    go_ret2
    exact ⟨rfl, rfl⟩
  · by_cases h2 : 64 < n
    · have h1' : 1 ≤ n := by omega
      clear h h1
      go_enter Tryd.func8, Tryd.ntmps8
      go_wp2
      go_ret2
      exact ⟨rfl, rfl⟩
    · have h1' : 1 ≤ n := by omega
      have h2' : n ≤ 64 := by omega
      by_cases h3 : a < 0
      · clear h h1 h2
        go_enter Tryd.func8, Tryd.ntmps8
        go_wp2
        go_ret2
        exact ⟨rfl, rfl⟩
      · have h3' : 0 ≤ a := by omega
        have h4 : 64 - n < a := by omega
        clear h h1 h2 h3
        go_enter Tryd.func8, Tryd.ntmps8
        go_wp2
        go_ret2
        exact ⟨rfl, rfl⟩

theorem refGet_yes (x k n : Nat) (w : World) (hx : x < 18446744073709551616) (hn : 1 ≤ n) (h : k + n ≤ 64) :
    Calls Tryd.prog 8 #[.int .u64 x, .int .i64 k, .int .i64 n] w fun e w' => e = .returned (.tuple #[.int .u64 (x / 2 ^ k % 2 ^ n : Nat), .int .i64 0]) ∧ Gr w w' := by
  go_enter Tryd.func8, Tryd.ntmps8
  go_wp2_with fail
  refine (digits_any x _ hx).mono ?_
  rintro e w1 ⟨rfl, hd⟩
  go_wp2_with fail
  refine (number_any w.heap.size k n (64 - k) (fun j => bt x (k + j)) _ (by omega) (fun j => bt_lt _ _) (fun j hj => hd.cell (k + j) (by omega))).mono ?_
  rintro e w2 ⟨rfl, rfl⟩
  have ht := tp_bt x k n 0
  rw [Nat.add_zero] at ht
  rw [ht]
  clear ht
  go_wp2
  go_ret2
  exact ⟨rfl, hd.gr⟩

theorem refSet_no (x a n v : Int) (w : World) (hn : n ≤ 9223372036854775807) (h : n < 1 ∨ a < 0 ∨ 64 - n < a) :
    Calls Tryd.prog 11 #[.int .u64 x, .int .i64 a, .int .i64 n, .int .u64 v] w fun e w' => e = .returned (.tuple #[.int .u64 0, .int .i64 2]) ∧ w' = w := by
  go_enter Tryd.func11, Tryd.ntmps11
  go_wp2_with fail
  refine (refGet_no _ _ _ _ hn h).mono ?_
  rintro e w' ⟨rfl, rfl⟩
  go_wp2
  go_ret2
  exact ⟨rfl, rfl⟩

/-- The digits of x behind i rounds of Set. -/
def part (x v k n i j : Nat) : Nat := if k ≤ j ∧ j < k + n ∧ j < k + i then bt v (j - k) else bt x j

theorem part_lt (x v k n i j : Nat) : part x v k n i j < 2 := by
  unfold part; split <;> exact bt_lt _ _

theorem part_all (x v k n j : Nat) (h : k + n ≤ 64) (hv : v < 2 ^ n) (hj : j < 64) : part x v k n 64 j = bt (setN x k n v) j := by
  rw [bt_test, testBit_setN x k n v j h hv hj, part]
  by_cases c : k ≤ j ∧ j < k + n
  · rw [if_pos ⟨c.1, c.2, by omega⟩, if_pos c, bt_test]
  · rw [if_neg (by omega), if_neg c, bt_test]

theorem part_in (x v k n i j : Nat) (hi : i < n) : part x v k n (i + 1) j = if j = k + i then bt v i else part x v k n i j := by
  unfold part
  by_cases c : j = k + i
  · subst c
    rw [if_pos ⟨by omega, by omega, by omega⟩, if_pos rfl, show k + i - k = i by omega]
  · rw [if_neg c]
    by_cases d : k ≤ j ∧ j < k + n ∧ j < k + i
    · rw [if_pos d, if_pos ⟨d.1, d.2.1, by omega⟩]
    · rw [if_neg d, if_neg (by omega)]

theorem part_out (x v k n i j : Nat) (hi : n ≤ i) : part x v k n (i + 1) j = part x v k n i j := by
  unfold part
  by_cases d : k ≤ j ∧ j < k + n ∧ j < k + i
  · rw [if_pos d, if_pos ⟨d.1, d.2.1, by omega⟩]
  · rw [if_neg d, if_neg (by omega)]

/-- What the rounds of Set keep. -/
structure Two (b0 b1 : Nat) (f g : Nat → Nat) (w W : World) : Prop where
  gr : Gr w W
  l0 : w.heap.size ≤ b0
  ne : b0 ≠ b1
  fz : ∀ j, W.frozen? ⟨b0, j, none⟩ = false
  c0 : ∀ j, j < 64 → W.cell? ⟨b0, j, none⟩ = some (.int .i64 (f j : Nat))
  c1 : ∀ j, j < 64 → W.cell? ⟨b1, j, none⟩ = some (.int .i64 (g j : Nat))

theorem Two.set {b0 b1 : Nat} {f g : Nat → Nat} {w W : World} (h : Two b0 b1 f g w W) (k v : Nat) (hk : k < 64) (f' : Nat → Nat) (hf : ∀ j, j < 64 → f' j = if j = k then v else f j) :
    Two b0 b1 f' g w (W.setCell ⟨b0, k, none⟩ (.int .i64 (v : Nat))) where
  gr := h.gr.setCell h.l0 _
  l0 := h.l0
  ne := h.ne
  fz j := (World.frozen?_setCell _ _ _ _).trans (h.fz j)
  c0 j hj := by
    by_cases e : j = k
    · subst e
      rw [World.cell?_setCell_same _ _ _ (h.c0 j hj), hf j hj]; simp
    · rw [World.cell?_setCell_other, h.c0 j hj, hf j hj]
      · simp [e]
      · intro h; injection h with h1 h2; exact e h2.symm
  c1 j hj := by
    rw [World.cell?_setCell_other, h.c1 j hj]
    intro hh; injection hh with h1 h2; exact h.ne h1

theorem Two.congr {b0 b1 : Nat} {f f' g : Nat → Nat} {w W : World} (h : Two b0 b1 f g w W) (hf : ∀ j, j < 64 → f' j = f j) : Two b0 b1 f' g w W :=
  ⟨h.gr, h.l0, h.ne, h.fz, fun j hj => by rw [hf j hj]; exact h.c0 j hj, h.c1⟩

theorem Two.start {f g : Nat → Nat} {w w0 w1 w2 : World} (h0 : Gr w w0) (h1 : Dg f w0 w1) (h2 : Dg g w1 w2) : Two w0.heap.size w1.heap.size f g w w2 where
  gr := (h0.trans h1.gr).trans h2.gr
  l0 := h0.below.size
  ne := by rw [h1.size]; omega
  fz j := (h2.gr.froz _).trans (h1.froz j)
  c0 j hj := (h2.gr.cell (by rw [h1.size]; omega)).trans (h1.cell j hj)
  c1 j hj := h2.cell j hj

theorem high_bit (v n : Nat) (hv0 : v < 18446744073709551616) (h : 2 ^ n ≤ v) : ∃ c, n ≤ c ∧ c < 64 ∧ bt v c = 1 := by
  obtain ⟨c, hc, ht⟩ := Nat.exists_ge_and_testBit_of_ge_two_pow h
  refine ⟨c, hc, ?_, by rw [bt_test, ht]; rfl⟩
  by_cases h64 : c < 64
  · exact h64
  · rw [Nat.testBit_lt_two_pow (Nat.lt_of_lt_of_le hv0 (Nat.pow_le_pow_right (n := 2) (i := 64) (by decide) (by omega)))] at ht
    cases ht

theorem low_bits (v n i : Nat) (hv : v < 2 ^ n) (hi : n ≤ i) : bt v i = 0 := by
  rw [bt_test, Nat.testBit_lt_two_pow (Nat.lt_of_lt_of_le hv (Nat.pow_le_pow_right (by decide) hi))]; rfl

set_option maxHeartbeats 1000000 in
theorem refSet_yes (x k n v : Nat) (w : World) (hx : x < 18446744073709551616) (hv0 : v < 18446744073709551616) (hn : 1 ≤ n) (h : k + n ≤ 64) (hv : v < 2 ^ n) :
    Calls Tryd.prog 11 #[.int .u64 x, .int .i64 k, .int .i64 n, .int .u64 v] w fun e w' => e = .returned (.tuple #[.int .u64 (setN x k n v : Nat), .int .i64 0]) ∧ Gr w w' := by
  have HV : Hid _ := hv
  clear hv
  go_enter Tryd.func11, Tryd.ntmps11
  go_wp2_with fail
  refine (refGet_yes x k n _ hx hn h).mono ?_
  rintro e w0 ⟨rfl, g0⟩
  go_wp2_with fail
  refine (digits_any x _ hx).mono ?_
  rintro e w1 ⟨rfl, h1⟩
  go_wp2_with fail
  refine (digits_any v _ hv0).mono ?_
  rintro e w2 ⟨rfl, h2⟩
  have ht := Two.start g0 h1 h2
  clear g0 h1 h2
  generalize w0.heap.size = b0 at ht
  generalize w1.heap.size = b1 at ht
  go_wp2_with fail
  go_loopw [29] (fun i wr => ∃ j : Nat, j ≤ 64 ∧ i = .int .i64 j ∧ Two b0 b1 (part x v k n j) (bt v) w wr) (fun i _ => 64 - (intOf i).toNat)
  case atStart => exact ⟨0, by omega, rfl, ht.congr (fun j _ => by rw [part, if_neg (by omega)])⟩
  case round =>
    obtain ⟨i, hi, rfl, hT⟩ := hrel
    by_cases hlt : i < 64
    · have hc1 := hT.c1 i hlt
      by_cases hin : i < n
      · have hc0 := hT.c0 (k + i) (by omega)
        have hf0 := hT.fz (k + i)
        go_wp2
        go_roundw
        case rel => exact ⟨i + 1, by omega, by go_num, hT.set (k + i) (bt v i) (by omega) _ (fun j _ => part_in x v k n i j hin)⟩
        case measure => simp [intOf]; omega
      · have hb0 := low_bits v n i HV.out (by omega)
        rw [hb0] at hc1
        clear hb0
        go_wp2
        go_roundw
        case rel => exact ⟨i + 1, by omega, by go_num, hT.congr (fun j _ => part_out x v k n i j (by omega))⟩
        case measure => simp [intOf]; omega
    · have e64 : i = 64 := by omega
      subst e64
      clear ht
      go_wp2_with fail
      refine (number_any b0 0 64 64 (part x v k n 64) _ (by omega) (fun j => part_lt _ _ _ _ _ _) (fun j hj => by rw [Nat.zero_add]; exact hT.c0 j hj)).mono ?_
      rintro e w3 ⟨rfl, rfl⟩
      rw [tp_congr _ (bt (setN x k n v)) 64 0 (fun j _ hj => part_all x v k n j h HV.out (by omega)), tp_all _ (setN_lt x k n v hx h HV.out)]
      go_wp2
      go_ret2
      exact ⟨rfl, hT.gr⟩

set_option maxHeartbeats 1000000 in
theorem refSet_full (x k n v : Nat) (w : World) (hx : x < 18446744073709551616) (hv0 : v < 18446744073709551616) (hn : 1 ≤ n) (h : k + n ≤ 64) (hv : 2 ^ n ≤ v) :
    Calls Tryd.prog 11 #[.int .u64 x, .int .i64 k, .int .i64 n, .int .u64 v] w fun e w' => e = .returned (.tuple #[.int .u64 0, .int .i64 12]) ∧ Gr w w' := by
  obtain ⟨c, hc1, hc2, hc3⟩ := high_bit v n hv0 hv
  have HC : Hid _ := hc3
  clear hc3 hv
  go_enter Tryd.func11, Tryd.ntmps11
  go_wp2_with fail
  refine (refGet_yes x k n _ hx hn h).mono ?_
  rintro e w0 ⟨rfl, g0⟩
  go_wp2_with fail
  refine (digits_any x _ hx).mono ?_
  rintro e w1 ⟨rfl, h1⟩
  go_wp2_with fail
  refine (digits_any v _ hv0).mono ?_
  rintro e w2 ⟨rfl, h2⟩
  have ht := Two.start g0 h1 h2
  clear g0 h1 h2
  generalize w0.heap.size = b0 at ht
  generalize w1.heap.size = b1 at ht
  go_wp2_with fail
  go_loopw [29] (fun i wr => ∃ j : Nat, j ≤ c ∧ i = .int .i64 j ∧ Two b0 b1 (part x v k n j) (bt v) w wr) (fun i _ => 64 - (intOf i).toNat)
  case atStart => exact ⟨0, by omega, rfl, ht.congr (fun j _ => by rw [part, if_neg (by omega)])⟩
  case round =>
    obtain ⟨i, hi, rfl, hT⟩ := hrel
    have hlt : i < 64 := by omega
    have hc1' := hT.c1 i hlt
    by_cases hin : i < n
    · have hc0 := hT.c0 (k + i) (by omega)
      have hf0 := hT.fz (k + i)
      go_wp2
      go_roundw
      case rel => exact ⟨i + 1, by omega, by go_num, hT.set (k + i) (bt v i) (by omega) _ (fun j _ => part_in x v k n i j hin)⟩
      case measure => simp [intOf]; omega
    · by_cases hone : bt v i = 1
      · rw [hone] at hc1'
        clear hone
        go_wp2
        go_ret2
        exact ⟨rfl, hT.gr⟩
      · have hzero : bt v i = 0 := by have := bt_lt v i; omega
        have hne : i ≠ c := by intro e; subst e; exact hone HC.out
        rw [hzero] at hc1'
        clear hone hzero
        go_wp2
        go_roundw
        case rel => exact ⟨i + 1, by omega, by go_num, hT.congr (fun j _ => part_out x v k n i j (by omega))⟩
        case measure => simp [intOf]; omega
end Go.Proofs.YtgbjgkalcoojdaaDoor
