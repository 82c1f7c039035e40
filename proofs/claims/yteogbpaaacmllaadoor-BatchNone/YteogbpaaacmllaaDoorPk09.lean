/- Texts laid together: Records are held against each other; The library's handle of the type error, off the row's condition. -/
import Derived.Test.YteogbpaaacmllaaDoorPk03
import Derived.Deep.DeepCutAuto
import Derived.Deep.RegionHeld3
import Derived.ChangeKeysEq
import Derived.Test.YteogbpaaacmllaaDoorPk07
import Derived.Test.YteogbpaaacmllaaDoorTie
import Derived.ProofKit
import Derived.LaidMore
import Derived.LaidLaws
import Derived.LaidHandle
import Derived.OpenShut
import Derived.Stop.Joined
namespace Go.Proofs.YteogbpaaacmllaaDoor.Tab
set_option maxRecDepth 20000
open Go.RowKit
set_option linter.unusedVariables false
theorem rec_desc : Tryd.prog.underlying 24 = some (.array 32 22) := by kernel_rfl
theorem rpart0 (c : Nat → Nat) (w : World) : (part 22 (rl c).toArray 0).run Tryd.prog w = .ok (.int .u64 (c 0 : Nat)) w := by kernel_rfl
theorem rpart1 (c : Nat → Nat) (w : World) : (part 22 (rl c).toArray 1).run Tryd.prog w = .ok (.int .u64 (c 1 : Nat)) w := by kernel_rfl
theorem rpart2 (c : Nat → Nat) (w : World) : (part 22 (rl c).toArray 2).run Tryd.prog w = .ok (.int .u64 (c 2 : Nat)) w := by kernel_rfl
theorem rpart3 (c : Nat → Nat) (w : World) : (part 22 (rl c).toArray 3).run Tryd.prog w = .ok (.int .u64 (c 3 : Nat)) w := by kernel_rfl
theorem rpart4 (c : Nat → Nat) (w : World) : (part 22 (rl c).toArray 4).run Tryd.prog w = .ok (.int .u64 (c 4 : Nat)) w := by kernel_rfl
theorem rpart5 (c : Nat → Nat) (w : World) : (part 22 (rl c).toArray 5).run Tryd.prog w = .ok (.int .u64 (c 5 : Nat)) w := by kernel_rfl
theorem rpart6 (c : Nat → Nat) (w : World) : (part 22 (rl c).toArray 6).run Tryd.prog w = .ok (.int .u64 (c 6 : Nat)) w := by kernel_rfl
theorem rpart7 (c : Nat → Nat) (w : World) : (part 22 (rl c).toArray 7).run Tryd.prog w = .ok (.int .u64 (c 7 : Nat)) w := by kernel_rfl
theorem rpart8 (c : Nat → Nat) (w : World) : (part 22 (rl c).toArray 8).run Tryd.prog w = .ok (.int .u64 (c 8 : Nat)) w := by kernel_rfl
theorem rpart9 (c : Nat → Nat) (w : World) : (part 22 (rl c).toArray 9).run Tryd.prog w = .ok (.int .u64 (c 9 : Nat)) w := by kernel_rfl
theorem rpart10 (c : Nat → Nat) (w : World) : (part 22 (rl c).toArray 10).run Tryd.prog w = .ok (.int .u64 (c 10 : Nat)) w := by kernel_rfl
theorem rpart11 (c : Nat → Nat) (w : World) : (part 22 (rl c).toArray 11).run Tryd.prog w = .ok (.int .u64 (c 11 : Nat)) w := by kernel_rfl
theorem rpart12 (c : Nat → Nat) (w : World) : (part 22 (rl c).toArray 12).run Tryd.prog w = .ok (.int .u64 (c 12 : Nat)) w := by kernel_rfl
theorem rpart13 (c : Nat → Nat) (w : World) : (part 22 (rl c).toArray 13).run Tryd.prog w = .ok (.int .u64 (c 13 : Nat)) w := by kernel_rfl
theorem rpart14 (c : Nat → Nat) (w : World) : (part 22 (rl c).toArray 14).run Tryd.prog w = .ok (.int .u64 (c 14 : Nat)) w := by kernel_rfl
theorem rpart15 (c : Nat → Nat) (w : World) : (part 22 (rl c).toArray 15).run Tryd.prog w = .ok (.int .u64 (c 15 : Nat)) w := by kernel_rfl
theorem rpart16 (c : Nat → Nat) (w : World) : (part 22 (rl c).toArray 16).run Tryd.prog w = .ok (.int .u64 (c 16 : Nat)) w := by kernel_rfl
theorem rpart17 (c : Nat → Nat) (w : World) : (part 22 (rl c).toArray 17).run Tryd.prog w = .ok (.int .u64 (c 17 : Nat)) w := by kernel_rfl
theorem rpart18 (c : Nat → Nat) (w : World) : (part 22 (rl c).toArray 18).run Tryd.prog w = .ok (.int .u64 (c 18 : Nat)) w := by kernel_rfl
theorem rpart19 (c : Nat → Nat) (w : World) : (part 22 (rl c).toArray 19).run Tryd.prog w = .ok (.int .u64 (c 19 : Nat)) w := by kernel_rfl
theorem rpart20 (c : Nat → Nat) (w : World) : (part 22 (rl c).toArray 20).run Tryd.prog w = .ok (.int .u64 (c 20 : Nat)) w := by kernel_rfl
theorem rpart21 (c : Nat → Nat) (w : World) : (part 22 (rl c).toArray 21).run Tryd.prog w = .ok (.int .u64 (c 21 : Nat)) w := by kernel_rfl
theorem rpart22 (c : Nat → Nat) (w : World) : (part 22 (rl c).toArray 22).run Tryd.prog w = .ok (.int .u64 (c 22 : Nat)) w := by kernel_rfl
theorem rpart23 (c : Nat → Nat) (w : World) : (part 22 (rl c).toArray 23).run Tryd.prog w = .ok (.int .u64 (c 23 : Nat)) w := by kernel_rfl
theorem rpart24 (c : Nat → Nat) (w : World) : (part 22 (rl c).toArray 24).run Tryd.prog w = .ok (.int .u64 (c 24 : Nat)) w := by kernel_rfl
theorem rpart25 (c : Nat → Nat) (w : World) : (part 22 (rl c).toArray 25).run Tryd.prog w = .ok (.int .u64 (c 25 : Nat)) w := by kernel_rfl
theorem rpart26 (c : Nat → Nat) (w : World) : (part 22 (rl c).toArray 26).run Tryd.prog w = .ok (.int .u64 (c 26 : Nat)) w := by kernel_rfl
theorem rpart27 (c : Nat → Nat) (w : World) : (part 22 (rl c).toArray 27).run Tryd.prog w = .ok (.int .u64 (c 27 : Nat)) w := by kernel_rfl
theorem rpart28 (c : Nat → Nat) (w : World) : (part 22 (rl c).toArray 28).run Tryd.prog w = .ok (.int .u64 (c 28 : Nat)) w := by kernel_rfl
theorem rpart29 (c : Nat → Nat) (w : World) : (part 22 (rl c).toArray 29).run Tryd.prog w = .ok (.int .u64 (c 29 : Nat)) w := by kernel_rfl
theorem rpart30 (c : Nat → Nat) (w : World) : (part 22 (rl c).toArray 30).run Tryd.prog w = .ok (.int .u64 (c 30 : Nat)) w := by kernel_rfl
theorem rpart31 (c : Nat → Nat) (w : World) : (part 22 (rl c).toArray 31).run Tryd.prog w = .ok (.int .u64 (c 31 : Nat)) w := by kernel_rfl
theorem rword_equal (x : Int) (w : World) : (Op.equalIn 9999 22 (.int .u64 x) (.int .u64 x)).run Tryd.prog w = .ok true w := by
  go_simp
theorem rec_equal (c : Nat → Nat) (w : World) : (Op.equalIn 10000 24 (.agg (rl c).toArray) (.agg (rl c).toArray)).run Tryd.prog w = .ok true w := by
  have hc : Tryd.prog.cellsOf 22 = 1 := by kernel_rfl
  cases hi : Tryd.prog.info? 22 with
  | none => simp [Program.cellsOf, hi] at hc
  | some i =>
    have h := run_equalIn_array (w := w) 9999 (rl c).toArray (rl c).toArray rec_desc hi
    rw [h, hc]
    have hr : List.range 32 = [0, 1, 2, 3, 4, 5, 6, 7, 8, 9, 10, 11, 12, 13, 14, 15, 16, 17, 18, 19, 20, 21, 22, 23, 24, 25, 26, 27, 28, 29, 30, 31] := by decide
    rw [hr]
    simp [Op.eqItems, rpart0 c w, rpart1 c w, rpart2 c w, rpart3 c w, rpart4 c w, rpart5 c w, rpart6 c w, rpart7 c w, rpart8 c w, rpart9 c w, rpart10 c w, rpart11 c w, rpart12 c w, rpart13 c w, rpart14 c w, rpart15 c w, rpart16 c w, rpart17 c w, rpart18 c w, rpart19 c w, rpart20 c w, rpart21 c w, rpart22 c w, rpart23 c w, rpart24 c w, rpart25 c w, rpart26 c w, rpart27 c w, rpart28 c w, rpart29 c w, rpart30 c w, rpart31 c w, rword_equal]
theorem rec_zero (w : World) : (Op.equalIn 10000 24 (.agg (rl wz).toArray) (.agg #[.int .u64 0, .int .u64 0, .int .u64 0, .int .u64 0, .int .u64 0, .int .u64 0, .int .u64 0, .int .u64 0, .int .u64 0, .int .u64 0, .int .u64 0, .int .u64 0, .int .u64 0, .int .u64 0, .int .u64 0, .int .u64 0, .int .u64 0, .int .u64 0, .int .u64 0, .int .u64 0, .int .u64 0, .int .u64 0, .int .u64 0, .int .u64 0, .int .u64 0, .int .u64 0, .int .u64 0, .int .u64 0, .int .u64 0, .int .u64 0, .int .u64 0, .int .u64 0])).run Tryd.prog w = .ok true w := rec_equal wz w
end Go.Proofs.YteogbpaaacmllaaDoor.Tab
namespace Go.Proofs.YteogbpaaacmllaaDoor
set_option maxRecDepth 20000
open Go.ChangeShapes Go.WideShapes Go.ChangeAt Go.RowKit

theorem own : ownKnob Tryd.prog.godebug = none := by kernel_rfl
theorem gHandle : Tryd.prog.globalNamed "errors.errorType" = some 0 := by kernel_rfl
theorem rtHandle : (Tryd.prog.cutTypes.find? (·.1 == "internal/reflectlite.rtype")).map (·.2) = some 123 := by kernel_rfl
theorem oneRow : ((List.range 184).filter fun t => Tryd.prog.rowNamed t [101, 114, 114, 111, 114]) = [30] := by kernel_rfl
theorem typesSize : Tryd.prog.types.size = 184 := by kernel_rfl

abbrev laidHandle {H : Type} : List (String × DataW H) := [("errors.errorType", Rows.laid_errors_errorType)]

theorem door_handle (os : Os) (args : Array Value) : laidMetH Tryd.prog laidHandle ((World.doorLaid Tryd.prog 400 os).forCall (fun _ _ => 0) ⟨#[], args, []⟩).memory :=
  laidMetH_of_parts (laidMet_nil _ _) (by kernel_rfl)

theorem handle_of_laid {W : World} (h : laidMetH Tryd.prog laidHandle W) : HandleAt W := by
  have h' : laidMet Tryd.prog [] W ∧ handlesMet Tryd.prog laidHandle W := h
  obtain ⟨name, u, ty, e1, e2, e3, e4, e5⟩ := h'.2 _ (List.mem_singleton.2 rfl)
  have en : name = [101, 114, 114, 111, 114] := (Option.some.inj e1).symm
  subst en
  obtain rfl := Option.some.inj (rtHandle.symm.trans e2)
  have hm : ty ∈ (List.range 184).filter fun t => Tryd.prog.rowNamed t [101, 114, 114, 111, 114] := List.mem_filter.2 ⟨List.mem_range.2 (by rw [← typesSize]; exact e3), e4⟩
  rw [oneRow] at hm
  obtain rfl := List.mem_singleton.1 hm
  have hh : typeHandle Tryd.prog 30 = .pointer (some ⟨1, 30, none⟩) := by kernel_rfl
  rw [hh] at e5
  have := World.var?_cell gHandle e5 0
  rw [HandleAt, this]
  rfl
end Go.Proofs.YteogbpaaacmllaaDoor
