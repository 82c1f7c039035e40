/- Package word: inside and Bit, by their contracts. -/
import Derived.Test.YthgkmbimmelglaaDoorBase
import Derived.Test.YthgkmbimmelglaaDoorRows
import Derived.WalkKit
namespace Go.Proofs.YthgkmbimmelglaaDoor
open Go.RowKit

theorem inside_yes (a n : Int) (w : World) (h : 1 ≤ n) (h0 : 0 ≤ a) (h1 : a ≤ 64 - n) :
    Calls Tryd.prog 34 #[.int .i64 a, .int .i64 n] w fun e w' => e = .returned (.bool true) ∧ w' = w := by
  go_enter Tryd.func34, Tryd.ntmps34
  go_wp2
  go_ret
  exact ⟨rfl, rfl⟩

theorem inside_no (a n : Int) (w : World) (hn : n ≤ 9223372036854775807) (h : n < 1 ∨ a < 0 ∨ 64 - n < a) :
    Calls Tryd.prog 34 #[.int .i64 a, .int .i64 n] w fun e w' => e = .returned (.bool false) ∧ w' = w := by
  by_cases h1 : n < 1
  · have : ¬ 1 ≤ n := by omega
    clear h
    go_enter Tryd.func34, Tryd.ntmps34
    go_wp2
    go_ret
    exact ⟨rfl, rfl⟩
  · by_cases h2 : a < 0
    · have h1' : 1 ≤ n := by omega
      have : ¬ 0 ≤ a := by omega
      clear h h1
      go_enter Tryd.func34, Tryd.ntmps34
      go_wp2
      go_ret
      exact ⟨rfl, rfl⟩
    · have h1' : 1 ≤ n := by omega
      have h2' : 0 ≤ a := by omega
      have : ¬ a ≤ 64 - n := by omega
      clear h h1 h2
      go_enter Tryd.func34, Tryd.ntmps34
      go_wp2
      go_ret
      exact ⟨rfl, rfl⟩

theorem Bit_no (x a : Int) (w : World) (h : a < 0 ∨ 63 < a) :
    Calls Tryd.prog 30 #[.int .u64 x, .int .i64 a] w fun e w' => e = .returned (.bool false) ∧ w' = w := by
  go_enter Tryd.func30, Tryd.ntmps30
  go_wp2_with (go_at_call 34; refine (inside_no _ _ _ (by decide) (by omega)).mono ?_; rintro e w' ⟨rfl, rfl⟩)
  go_ret
  exact ⟨rfl, rfl⟩

theorem Bit_yes (x k : Nat) (w : World) (hx : x < 18446744073709551616) (hk : k < 64) :
    Calls Tryd.prog 30 #[.int .u64 x, .int .i64 k] w fun e w' => e = .returned (.bool (x.testBit k)) ∧ w' = w := by
  go_enter Tryd.func30, Tryd.ntmps30
  go_wp2_with (go_at_call 34; refine (inside_yes _ _ _ (by decide) (by omega) (by omega)).mono ?_; rintro e w' ⟨rfl, rfl⟩)
  go_ret
  exact ⟨ret_bool (bit_test x k hx), rfl⟩

end Go.Proofs.YthgkmbimmelglaaDoor
