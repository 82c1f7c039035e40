/- Words of objects held against each other. -/
import Derived.Test.YtbmgjpdfmgcigacObA
import Derived.Deep.DeepCutAuto
import Derived.Deep.RegionHeld3
import Derived.ChangeKeysEq
namespace Go.Proofs.Ytbmgjpdfmgcigac.Tab
open Go.RowKit
set_option linter.unusedVariables false

theorem cells_desc : Try.prog.underlying 27 = some (.array 17 25) := by kernel_rfl
theorem wpart0 (c : Nat → Nat) (w : World) : (part 25 (wl c).toArray 0).run Try.prog w = .ok (.int .u64 (c 0 : Nat)) w := by kernel_rfl
theorem wpart1 (c : Nat → Nat) (w : World) : (part 25 (wl c).toArray 1).run Try.prog w = .ok (.int .u64 (c 1 : Nat)) w := by kernel_rfl
theorem wpart2 (c : Nat → Nat) (w : World) : (part 25 (wl c).toArray 2).run Try.prog w = .ok (.int .u64 (c 2 : Nat)) w := by kernel_rfl
theorem wpart3 (c : Nat → Nat) (w : World) : (part 25 (wl c).toArray 3).run Try.prog w = .ok (.int .u64 (c 3 : Nat)) w := by kernel_rfl
theorem wpart4 (c : Nat → Nat) (w : World) : (part 25 (wl c).toArray 4).run Try.prog w = .ok (.int .u64 (c 4 : Nat)) w := by kernel_rfl
theorem wpart5 (c : Nat → Nat) (w : World) : (part 25 (wl c).toArray 5).run Try.prog w = .ok (.int .u64 (c 5 : Nat)) w := by kernel_rfl
theorem wpart6 (c : Nat → Nat) (w : World) : (part 25 (wl c).toArray 6).run Try.prog w = .ok (.int .u64 (c 6 : Nat)) w := by kernel_rfl
theorem wpart7 (c : Nat → Nat) (w : World) : (part 25 (wl c).toArray 7).run Try.prog w = .ok (.int .u64 (c 7 : Nat)) w := by kernel_rfl
theorem wpart8 (c : Nat → Nat) (w : World) : (part 25 (wl c).toArray 8).run Try.prog w = .ok (.int .u64 (c 8 : Nat)) w := by kernel_rfl
theorem wpart9 (c : Nat → Nat) (w : World) : (part 25 (wl c).toArray 9).run Try.prog w = .ok (.int .u64 (c 9 : Nat)) w := by kernel_rfl
theorem wpart10 (c : Nat → Nat) (w : World) : (part 25 (wl c).toArray 10).run Try.prog w = .ok (.int .u64 (c 10 : Nat)) w := by kernel_rfl
theorem wpart11 (c : Nat → Nat) (w : World) : (part 25 (wl c).toArray 11).run Try.prog w = .ok (.int .u64 (c 11 : Nat)) w := by kernel_rfl
theorem wpart12 (c : Nat → Nat) (w : World) : (part 25 (wl c).toArray 12).run Try.prog w = .ok (.int .u64 (c 12 : Nat)) w := by kernel_rfl
theorem wpart13 (c : Nat → Nat) (w : World) : (part 25 (wl c).toArray 13).run Try.prog w = .ok (.int .u64 (c 13 : Nat)) w := by kernel_rfl
theorem wpart14 (c : Nat → Nat) (w : World) : (part 25 (wl c).toArray 14).run Try.prog w = .ok (.int .u64 (c 14 : Nat)) w := by kernel_rfl
theorem wpart15 (c : Nat → Nat) (w : World) : (part 25 (wl c).toArray 15).run Try.prog w = .ok (.int .u64 (c 15 : Nat)) w := by kernel_rfl
theorem wpart16 (c : Nat → Nat) (w : World) : (part 25 (wl c).toArray 16).run Try.prog w = .ok (.int .u64 (c 16 : Nat)) w := by kernel_rfl
theorem word_equal (x : Int) (w : World) : (Op.equalIn 9999 25 (.int .u64 x) (.int .u64 x)).run Try.prog w = .ok true w := by
  go_simp
theorem cells_equal (c : Nat → Nat) (w : World) : (Op.equalIn 10000 27 (.agg (wl c).toArray) (.agg (wl c).toArray)).run Try.prog w = .ok true w := by
  have hc : Try.prog.cellsOf 25 = 1 := by kernel_rfl
  cases hi : Try.prog.info? 25 with
  | none => simp [Program.cellsOf, hi] at hc
  | some i =>
    have h := run_equalIn_array (w := w) 9999 (wl c).toArray (wl c).toArray cells_desc hi
    rw [h, hc]
    have hr : List.range 17 = [0, 1, 2, 3, 4, 5, 6, 7, 8, 9, 10, 11, 12, 13, 14, 15, 16] := by decide
    rw [hr]
    simp [Op.eqItems, wpart0 c w, wpart1 c w, wpart2 c w, wpart3 c w, wpart4 c w, wpart5 c w, wpart6 c w, wpart7 c w, wpart8 c w, wpart9 c w, wpart10 c w, wpart11 c w, wpart12 c w, wpart13 c w, wpart14 c w, wpart15 c w, wpart16 c w, word_equal]
theorem cells_zero (w : World) : (Op.equalIn 10000 27 (.agg (wl wz).toArray) (.agg #[.int .u64 0, .int .u64 0, .int .u64 0, .int .u64 0, .int .u64 0, .int .u64 0, .int .u64 0, .int .u64 0, .int .u64 0, .int .u64 0, .int .u64 0, .int .u64 0, .int .u64 0, .int .u64 0, .int .u64 0, .int .u64 0, .int .u64 0])).run Try.prog w = .ok true w := cells_equal wz w
theorem afield0 (c y : Int) (w : World) : (Instr.field 34 (.agg #[.int .i64 c, .int .i64 y]) 0).run Try.prog w = .ok (.int .i64 c) w := by kernel_rfl
theorem afield1 (c y : Int) (w : World) : (Instr.field 34 (.agg #[.int .i64 c, .int .i64 y]) 1).run Try.prog w = .ok (.int .i64 y) w := by kernel_rfl
end Go.Proofs.Ytbmgjpdfmgcigac.Tab
