/- Package word: ones, Get, Set, by their contracts. -/
import Derived.Test.YtgbjgkalcoojdaaDoorWord1
import Derived.Test.YtgbjgkalcoojdaaDoorSets
import Derived.Deep.QuietTactic
import Derived.BigQuiet
namespace Go.Proofs.YtgbjgkalcoojdaaDoor
open Go.RowKit

theorem ones_any (n : Nat) (w : World) (_h1 : 1 ≤ n) (h : n ≤ 64) :
    Calls Tryd.prog 23 #[.int .i64 n] w fun e w' => e = .returned (.int .u64 (2 ^ n - 1 : Nat)) ∧ w' = w := by
  go_enter Tryd.func23, Tryd.ntmps23
  go_wp2
  go_ret
  exact ⟨ret_int (ones_eq n h), rfl⟩

theorem Get_no (x a n : Int) (w : World) (hn : n ≤ 9223372036854775807) (h : n < 1 ∨ a < 0 ∨ 64 - n < a) :
    Calls Tryd.prog 9 #[.int .u64 x, .int .i64 a, .int .i64 n] w fun e w' => e = .returned (.tuple #[.int .u64 0, .iface 23 (.int .i64 2)]) ∧ w' = w := by
  go_enter Tryd.func9, Tryd.ntmps9
  go_wp2_with (go_at_call 22; refine (inside_no _ _ _ hn h).mono ?_; rintro e w' ⟨rfl, rfl⟩)
  go_ret2
  exact ⟨rfl, rfl⟩

theorem Get_yes (x k n : Nat) (w : World) (hx : x < 18446744073709551616) (hn : 1 ≤ n) (h : k + n ≤ 64) :
    Calls Tryd.prog 9 #[.int .u64 x, .int .i64 k, .int .i64 n] w fun e w' => e = .returned (.tuple #[.int .u64 (x / 2 ^ k % 2 ^ n : Nat), .nilIface]) ∧ ∃ q, w' = w.drewN q := by
  go_enter Tryd.func9, Tryd.ntmps9
  go_wp2_with fail
  refine (inside_yes _ _ _ (by omega) (by omega) (by omega)).mono ?_
  rintro e w' ⟨rfl, rfl⟩
  go_wp2_with fail
  go_quiet ((go_at_call 23; exact Calls.quiet_of_same (ones_any n _ (by omega) (by omega))))
  go_wp2
  go_ret2
  exact ⟨ret_pair (get_eq x k n hx (by omega)), nq, rfl⟩

theorem Set_no (x a n v : Int) (w : World) (hn : n ≤ 9223372036854775807) (h : n < 1 ∨ a < 0 ∨ 64 - n < a) :
    Calls Tryd.prog 12 #[.int .u64 x, .int .i64 a, .int .i64 n, .int .u64 v] w fun e w' => e = .returned (.tuple #[.int .u64 0, .iface 23 (.int .i64 2)]) ∧ w' = w := by
  go_enter Tryd.func12, Tryd.ntmps12
  go_wp2_with (go_at_call 22; refine (inside_no _ _ _ hn h).mono ?_; rintro e w' ⟨rfl, rfl⟩)
  go_ret2
  exact ⟨rfl, rfl⟩

theorem Set_full (x k n v : Nat) (w : World) (hn : 1 ≤ n) (h : k + n ≤ 64) (hv : 2 ^ n ≤ v) :
    Calls Tryd.prog 12 #[.int .u64 x, .int .i64 k, .int .i64 n, .int .u64 v] w fun e w' => e = .returned (.tuple #[.int .u64 0, .iface 23 (.int .i64 12)]) ∧ w' = w := by
  have hp : 2 ^ n - 1 < v := by have := Nat.two_pow_pos n; omega
  go_enter Tryd.func12, Tryd.ntmps12
  go_wp2_with fail
  refine (inside_yes _ _ _ (by omega) (by omega) (by omega)).mono ?_
  rintro e w' ⟨rfl, rfl⟩
  go_wp2_with fail
  refine (ones_any n _ (by omega) (by omega)).mono ?_
  rintro e w' ⟨rfl, rfl⟩
  go_wp2
  go_ret2
  exact ⟨rfl, rfl⟩

theorem Set_yes (x k n v : Nat) (w : World) (hx : x < 18446744073709551616) (hn : 1 ≤ n) (h : k + n ≤ 64) (hv : v < 2 ^ n) :
    Calls Tryd.prog 12 #[.int .u64 x, .int .i64 k, .int .i64 n, .int .u64 v] w fun e w' => e = .returned (.tuple #[.int .u64 (setN x k n v : Nat), .nilIface]) ∧ ∃ q, w' = w.drewN q := by
  have hp : ¬ 2 ^ n - 1 < v := by omega
  go_enter Tryd.func12, Tryd.ntmps12
  go_wp2_with fail
  refine (inside_yes _ _ _ (by omega) (by omega) (by omega)).mono ?_
  rintro e w' ⟨rfl, rfl⟩
  go_wp2_with fail
  refine (ones_any n _ (by omega) (by omega)).mono ?_
  rintro e w' ⟨rfl, rfl⟩
  go_wp2_with fail
  go_quiet ((go_at_call 23; exact Calls.quiet_of_same (ones_any n _ (by omega) (by omega))))
  go_wp2
  go_ret2
  exact ⟨ret_pair (set_eq x k n v hx h hv), nq, rfl⟩
end Go.Proofs.YtgbjgkalcoojdaaDoor
