/- Two tables, slot by slot, held against each other. -/
import Derived.Test.YtojnkfdodjcnfaaTp2
import Derived.ChangeKeysEq
namespace Go.Proofs.Ytojnkfdodjcnfaa
open Go.RowKit

theorem part0 (t : Tb) (w : World) : (part 27 t.all.toArray 0).run Try.prog w = .ok (.agg #[.int .i64 (t.k 0), .int .i64 (t.v 0)]) w := by kernel_rfl
theorem part1 (t : Tb) (w : World) : (part 27 t.all.toArray 2).run Try.prog w = .ok (.agg #[.int .i64 (t.k 1), .int .i64 (t.v 1)]) w := by kernel_rfl
theorem part2 (t : Tb) (w : World) : (part 27 t.all.toArray 4).run Try.prog w = .ok (.agg #[.int .i64 (t.k 2), .int .i64 (t.v 2)]) w := by kernel_rfl
theorem part3 (t : Tb) (w : World) : (part 27 t.all.toArray 6).run Try.prog w = .ok (.agg #[.int .i64 (t.k 3), .int .i64 (t.v 3)]) w := by kernel_rfl
theorem part4 (t : Tb) (w : World) : (part 27 t.all.toArray 8).run Try.prog w = .ok (.agg #[.int .i64 (t.k 4), .int .i64 (t.v 4)]) w := by kernel_rfl
theorem part5 (t : Tb) (w : World) : (part 27 t.all.toArray 10).run Try.prog w = .ok (.agg #[.int .i64 (t.k 5), .int .i64 (t.v 5)]) w := by kernel_rfl
theorem part6 (t : Tb) (w : World) : (part 27 t.all.toArray 12).run Try.prog w = .ok (.agg #[.int .i64 (t.k 6), .int .i64 (t.v 6)]) w := by kernel_rfl
theorem part7 (t : Tb) (w : World) : (part 27 t.all.toArray 14).run Try.prog w = .ok (.agg #[.int .i64 (t.k 7), .int .i64 (t.v 7)]) w := by kernel_rfl
theorem slots_desc : Try.prog.underlying 29 = some (.array 8 27) := by kernel_rfl
theorem slot_equal (k v : Int) (w : World) : (Op.equalIn 9999 27 (.agg #[.int .i64 k, .int .i64 v]) (.agg #[.int .i64 k, .int .i64 v])).run Try.prog w = .ok true w := by
  go_simp
theorem slots_equal (t : Tb) (w : World) : (Op.equalIn 10000 29 (.agg t.all.toArray) (.agg t.all.toArray)).run Try.prog w = .ok true w := by
  have hc : Try.prog.cellsOf 27 = 2 := by kernel_rfl
  cases hi : Try.prog.info? 27 with
  | none => simp [Program.cellsOf, hi] at hc
  | some i =>
    have h := run_equalIn_array (w := w) 9999 t.all.toArray t.all.toArray slots_desc hi
    rw [h, hc]
    have hr : List.range 8 = [0, 1, 2, 3, 4, 5, 6, 7] := by decide
    rw [hr]
    simp [Op.eqItems, part0 t w, part1 t w, part2 t w, part3 t w, part4 t w, part5 t w, part6 t w, part7 t w, slot_equal]
theorem field0 (c y : Int) (w : World) : (Instr.field 37 (.agg #[.int .i64 c, .int .i64 y]) 0).run Try.prog w = .ok (.int .i64 c) w := by kernel_rfl
theorem field1 (c y : Int) (w : World) : (Instr.field 37 (.agg #[.int .i64 c, .int .i64 y]) 1).run Try.prog w = .ok (.int .i64 y) w := by kernel_rfl
end Go.Proofs.Ytojnkfdodjcnfaa
