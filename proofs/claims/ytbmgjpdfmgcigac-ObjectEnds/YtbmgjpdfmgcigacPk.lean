/- The keepers' pick, and an answer's size: contracts and facts. -/
import Derived.Test.YtbmgjpdfmgcigacTr
import Derived.Test.YtbmgjpdfmgcigacRows
namespace Go.Proofs.Ytbmgjpdfmgcigac.Tab
open Go.RowKit

theorem answer_sz : (Try.prog.info? 34).map (·.size) = some 2 := by kernel_rfl
theorem answer_st : ∃ fs, Try.prog.underlying 34 = some (.struct fs) := ⟨_, Try.underlying34⟩
theorem pick_mod (a : Int) (n : Nat) (h0 : 0 < n) (h : n < 4611686018427387904) : ∃ r : Nat, r < n ∧ wrap64 ((IntKind.u64.wrap a).tmod (IntKind.u64.wrap n)) = (r : Nat) := by
  rw [IntKind.wrap_u64, IntKind.wrap_u64]
  have e : (n : Int) % 18446744073709551616 = n := by omega
  rw [e, Int.tmod_eq_emod_of_nonneg (by omega)]
  have h1 : 0 ≤ a % 18446744073709551616 % (n : Int) := Int.emod_nonneg _ (by omega)
  have h2 : a % 18446744073709551616 % (n : Int) < n := Int.emod_lt_of_pos _ (by omega)
  refine ⟨(a % 18446744073709551616 % (n : Int)).toNat, by omega, ?_⟩
  generalize a % 18446744073709551616 % (n : Int) = x at *
  unfold wrap64
  omega
theorem pick_4 (a : Int) : ∃ r : Nat, r < 4 ∧ ∀ w : World, Calls Try.prog 5 #[.int .i64 a, .int .i64 4] w fun e w' => e = .returned (.int .i64 (r : Nat)) ∧ w' = w := by
  obtain ⟨r, hr, he⟩ := pick_mod a 4 (by decide) (by decide)
  refine ⟨r, hr, fun w => ?_⟩
  have HE : Hid _ := he
  clear he
  go_enter Try.func5, Try.ntmps5
  go_wp2
  go_ret
  exact ⟨ret_int HE.out, rfl⟩
theorem pick_5 (a : Int) : ∃ r : Nat, r < 5 ∧ ∀ w : World, Calls Try.prog 5 #[.int .i64 a, .int .i64 5] w fun e w' => e = .returned (.int .i64 (r : Nat)) ∧ w' = w := by
  obtain ⟨r, hr, he⟩ := pick_mod a 5 (by decide) (by decide)
  refine ⟨r, hr, fun w => ?_⟩
  have HE : Hid _ := he
  clear he
  go_enter Try.func5, Try.ntmps5
  go_wp2
  go_ret
  exact ⟨ret_int HE.out, rfl⟩
theorem pick_6 (a : Int) : ∃ r : Nat, r < 6 ∧ ∀ w : World, Calls Try.prog 5 #[.int .i64 a, .int .i64 6] w fun e w' => e = .returned (.int .i64 (r : Nat)) ∧ w' = w := by
  obtain ⟨r, hr, he⟩ := pick_mod a 6 (by decide) (by decide)
  refine ⟨r, hr, fun w => ?_⟩
  have HE : Hid _ := he
  clear he
  go_enter Try.func5, Try.ntmps5
  go_wp2
  go_ret
  exact ⟨ret_int HE.out, rfl⟩
theorem pick_1000 (a : Int) : ∃ r : Nat, r < 1000 ∧ ∀ w : World, Calls Try.prog 5 #[.int .i64 a, .int .i64 1000] w fun e w' => e = .returned (.int .i64 (r : Nat)) ∧ w' = w := by
  obtain ⟨r, hr, he⟩ := pick_mod a 1000 (by decide) (by decide)
  refine ⟨r, hr, fun w => ?_⟩
  have HE : Hid _ := he
  clear he
  go_enter Try.func5, Try.ntmps5
  go_wp2
  go_ret
  exact ⟨ret_int HE.out, rfl⟩
theorem pick_4294967296 (a : Int) : ∃ r : Nat, r < 4294967296 ∧ ∀ w : World, Calls Try.prog 5 #[.int .i64 a, .int .i64 4294967296] w fun e w' => e = .returned (.int .i64 (r : Nat)) ∧ w' = w := by
  obtain ⟨r, hr, he⟩ := pick_mod a 4294967296 (by decide) (by decide)
  refine ⟨r, hr, fun w => ?_⟩
  have HE : Hid _ := he
  clear he
  go_enter Try.func5, Try.ntmps5
  go_wp2
  go_ret
  exact ⟨ret_int HE.out, rfl⟩
end Go.Proofs.Ytbmgjpdfmgcigac.Tab
