/- A word in which bits are another number: facts of no program. -/
import Derived.Test.YtgbjgkalcoojdaaDoorBase
namespace Go.Proofs.YtgbjgkalcoojdaaDoor

/-- x, in which the n bits from the k-th on are v. -/
def setN (x k n v : Nat) : Nat := (x &&& (18446744073709551615 - (2 ^ n - 1) * 2 ^ k)) ||| (v * 2 ^ k)

theorem pow_add_le (n k : Nat) (h : k + n ≤ 64) : 2 ^ n * 2 ^ k ≤ 18446744073709551616 := by
  rw [← Nat.pow_add]
  exact Nat.pow_le_pow_right (j := 64) (by decide) (by omega)

theorem mask_le (n k : Nat) (h : k + n ≤ 64) : (2 ^ n - 1) * 2 ^ k ≤ 18446744073709551615 := by
  have h1 := pow_add_le n k h
  have : (2 ^ n - 1) * 2 ^ k = 2 ^ n * 2 ^ k - 2 ^ k := by rw [Nat.sub_mul, Nat.one_mul]
  have : 0 < 2 ^ k := Nat.two_pow_pos _
  omega

theorem testBit_shl (v k j : Nat) : (v * 2 ^ k).testBit j = (decide (k ≤ j) && v.testBit (j - k)) := by
  rw [Nat.mul_comm, Nat.testBit_two_pow_mul]

theorem testBit_not (m j : Nat) (hm : m ≤ 18446744073709551615) : (18446744073709551615 - m).testBit j = (decide (j < 64) && !m.testBit j) := by
  have := Nat.testBit_two_pow_sub_succ (x := m) (n := 64) (by omega) j
  rw [show 2 ^ 64 - (m + 1) = 18446744073709551615 - m by omega] at this
  exact this

theorem testBit_setN (x k n v j : Nat) (h : k + n ≤ 64) (hv : v < 2 ^ n) (hj : j < 64) :
    (setN x k n v).testBit j = if k ≤ j ∧ j < k + n then v.testBit (j - k) else x.testBit j := by
  rw [setN, Nat.testBit_or, Nat.testBit_and, testBit_not _ _ (mask_le n k h), testBit_shl, testBit_shl, Nat.testBit_two_pow_sub_one]
  by_cases h1 : k ≤ j
  · by_cases h2 : j < k + n
    · simp [h1, h2, hj, show j - k < n by omega]
    · have h3 : v.testBit (j - k) = false := Nat.testBit_lt_two_pow (Nat.lt_of_lt_of_le hv (Nat.pow_le_pow_right (by decide) (by omega)))
      simp [h1, h2, hj, h3, show ¬ j - k < n by omega]
  · simp [h1, hj]

theorem setN_lt (x k n v : Nat) (hx : x < 18446744073709551616) (h : k + n ≤ 64) (hv : v < 2 ^ n) : setN x k n v < 18446744073709551616 := by
  have h1 : v * 2 ^ k < 18446744073709551616 := by
    have := pow_add_le n k h
    exact Nat.lt_of_lt_of_le (Nat.mul_lt_mul_of_pos_right hv (Nat.two_pow_pos _)) this
  exact Nat.or_lt_two_pow (n := 64) (Nat.lt_of_le_of_lt Nat.and_le_left hx) h1

theorem eq_of_bits (a b : Nat) (ha : a < 18446744073709551616) (hb : b < 18446744073709551616) (h : ∀ j, j < 64 → a.testBit j = b.testBit j) : a = b := by
  apply Nat.eq_of_testBit_eq
  intro j
  by_cases hj : j < 64
  · exact h j hj
  · have e : 2 ^ 64 ≤ 2 ^ j := Nat.pow_le_pow_right (by decide) (by omega)
    rw [Nat.testBit_lt_two_pow (Nat.lt_of_lt_of_le ha e), Nat.testBit_lt_two_pow (Nat.lt_of_lt_of_le hb e)]

theorem testBit_get (x k n j : Nat) : (x / 2 ^ k % 2 ^ n).testBit j = (decide (j < n) && x.testBit (k + j)) := by
  rw [Nat.testBit_mod_two_pow, Nat.testBit_div_two_pow, Nat.add_comm]

theorem get_lt (x k n : Nat) (hx : x < 18446744073709551616) : x / 2 ^ k % 2 ^ n < 18446744073709551616 :=
  Nat.lt_of_le_of_lt (Nat.le_trans (Nat.mod_le _ _) (Nat.div_le_self _ _)) hx

theorem ones_lt (n : Nat) (h : n ≤ 64) : 2 ^ n - 1 < 18446744073709551616 := by
  have : 2 ^ n ≤ 2 ^ 64 := Nat.pow_le_pow_right (by decide) h
  have := Nat.two_pow_pos n
  omega

theorem ones_eq (n : Nat) (h : n ≤ 64) : IntKind.u64.wrap (IntKind.u64.wrap (2 ^ n) - 1) = ((2 ^ n - 1 : Nat) : Int) := by
  rw [IntKind.wrap_u64, IntKind.wrap_u64, show (2 : Int) ^ n = ((2 ^ n : Nat) : Int) by simp]
  have h1 : 2 ^ n ≤ 2 ^ 64 := Nat.pow_le_pow_right (by decide) h
  have h2 := Nat.two_pow_pos n
  generalize 2 ^ n = m at h1 h2
  omega

theorem get_eq (x k n : Nat) (hx : x < 18446744073709551616) (h : n ≤ 64) : bits .and .u64 ((x : Int) / 2 ^ k) ((2 ^ n - 1 : Nat) : Int) = ((x / 2 ^ k % 2 ^ n : Nat) : Int) := by
  rw [cast_shr, u64_and_nat _ _ (Nat.lt_of_le_of_lt (Nat.div_le_self _ _) hx) (ones_lt n h), Nat.and_two_pow_sub_one_eq_mod]

theorem wrap_small (m : Nat) (h : m < 18446744073709551616) : IntKind.u64.wrap (m : Int) = (m : Int) := by
  rw [IntKind.wrap_u64]; omega

theorem shl_lt (n k v : Nat) (h : k + n ≤ 64) (hv : v < 2 ^ n) : v * 2 ^ k < 18446744073709551616 :=
  Nat.lt_of_lt_of_le (Nat.mul_lt_mul_of_pos_right hv (Nat.two_pow_pos _)) (pow_add_le n k h)

theorem cast_shl (m k : Nat) : (m : Int) * 2 ^ k = ((m * 2 ^ k : Nat) : Int) := by simp

theorem set_eq (x k n v : Nat) (hx : x < 18446744073709551616) (h : k + n ≤ 64) (hv : v < 2 ^ n) :
    bits .or .u64 (bits .andNot .u64 (x : Int) (IntKind.u64.wrap (((2 ^ n - 1 : Nat) : Int) * 2 ^ k))) (IntKind.u64.wrap ((v : Int) * 2 ^ k)) = ((setN x k n v : Nat) : Int) := by
  have h1 : (2 ^ n - 1) * 2 ^ k < 18446744073709551616 := by have := mask_le n k h; omega
  have h2 := shl_lt n k v h hv
  rw [cast_shl, cast_shl, wrap_small _ h1, wrap_small _ h2, u64_andNot_nat _ _ hx h1, u64_or_nat _ _ (Nat.lt_of_le_of_lt Nat.and_le_left hx) h2, setN]

theorem ret_pair {k : IntKind} {a b : Int} {v : Value} (h : a = b) : Ending.returned (.tuple #[.int k a, v]) = .returned (.tuple #[.int k b, v]) := by rw [h]

theorem mod_lt_pow (x n : Nat) : x % 2 ^ n < 2 ^ n := Nat.mod_lt _ (Nat.two_pow_pos n)

theorem set_same (x k n : Nat) (hx : x < 18446744073709551616) (h : k + n ≤ 64) : setN x k n (x / 2 ^ k % 2 ^ n) = x := by
  refine eq_of_bits _ _ (setN_lt _ _ _ _ hx h (mod_lt_pow _ _)) hx (fun j hj => ?_)
  rw [testBit_setN _ _ _ _ _ h (mod_lt_pow _ _) hj, testBit_get]
  by_cases h1 : k ≤ j ∧ j < k + n
  · rw [if_pos h1, show k + (j - k) = j by omega]
    simp [show j - k < n by omega]
  · rw [if_neg h1]

theorem get_set (x k n v : Nat) (hx : x < 18446744073709551616) (h : k + n ≤ 64) (hv : v < 2 ^ n) : setN x k n v / 2 ^ k % 2 ^ n = v := by
  have hv64 : v < 18446744073709551616 := by
    have := ones_lt n (by omega)
    omega
  refine eq_of_bits _ _ (get_lt _ _ _ (setN_lt _ _ _ _ hx h hv)) hv64 (fun j hj => ?_)
  rw [testBit_get]
  by_cases h1 : j < n
  · rw [testBit_setN _ _ _ _ _ h hv (by omega), if_pos ⟨by omega, by omega⟩, show k + j - k = j by omega]
    simp [h1]
  · rw [Nat.testBit_lt_two_pow (Nat.lt_of_lt_of_le hv (Nat.pow_le_pow_right (by decide) (by omega)))]
    simp [h1]

theorem set_beside (x k n v j : Nat) (h : k + n ≤ 64) (hv : v < 2 ^ n) (hj : j < 64) (h1 : ¬ (k ≤ j ∧ j < k + n)) : (setN x k n v).testBit j = x.testBit j := by
  rw [testBit_setN _ _ _ _ _ h hv hj, if_neg h1]
end Go.Proofs.YtgbjgkalcoojdaaDoor
