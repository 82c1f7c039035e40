/- What the row lists, off the row's condition: the table of powers, the two errors of numbers, the names. -/
import Derived.Test.YtdohomdhgkhebabDoorLaidA
import Derived.Test.YtdohomdhgkhebabDoorSpelled
import Derived.Test.YtdohomdhgkhebabDoorTie
import Derived.ProofKit
import Derived.OpenShut
import Derived.Stop.Joined
namespace Go.Proofs.YtdohomdhgkhebabDoor
open Go.ChangeShapes Go.WideShapes Go.ChangeAt Go.RowKit

theorem own : ownKnob Tryd.prog.godebug = none := by kernel_rfl

abbrev laidOps {H : Type} : List (String × DataW H) := [("math/bits.deBruijn32tab", Rows.laid_math_bits_deBruijn32tab), ("math/bits.deBruijn64tab", Rows.laid_math_bits_deBruijn64tab), ("internal/strconv.uint64pow10", Rows.laid_internal_strconv_uint64pow10), ("strconv.ErrRange", Rows.laid_strconv_ErrRange), ("strconv.ErrSyntax", Rows.laid_strconv_ErrSyntax), ("gristmill/op.whats", Rows.laid_gristmill_op_whats), ("gristmill/op.codes", Rows.laid_gristmill_op_codes)]

theorem door_Ops (os : Os) (args : Array Value) : laidMetH Tryd.prog laidOps ((World.doorLaid Tryd.prog 400 os).forCall (fun _ _ => 0) ⟨#[], args, []⟩).memory :=
  laidMetH_of_parts3 (fuel := 8) (laidMet_of_run' 8 (by kernel_rfl) (by kernel_rfl)) (by kernel_rfl) (by kernel_rfl)

theorem pow_eq : (Rows.laid_internal_strconv_uint64pow10 : DataW Unit) = Lib.tabData .u64 Lib.pow10Tab := by kernel_rfl
theorem whats_eq : (Rows.laid_gristmill_op_whats : DataW Unit) = strData [nm 0, nm 1, nm 2, nm 3, nm 4, nm 5, nm 6] := by kernel_rfl
theorem codes_eq : (Rows.laid_gristmill_op_codes : DataW Unit) = strData [cnm 0, cnm 1, cnm 2, cnm 3, cnm 4, cnm 5] := by kernel_rfl

theorem env_of_Ops {W : World} (h : laidMetH Tryd.prog laidOps W) : Ec W := by
  rw [MakeChecks.laidMetH_plain _ _ _ (by kernel_rfl)] at h
  have h3 := h.tail.tail
  have h4 := h3.tail
  have h5 := h4.tail
  have h6 := h5.tail
  have h7 := h6.tail
  rw [pow_eq] at h3
  rw [whats_eq] at h6
  rw [codes_eq] at h7
  have p := Lib.tabIs_of_head (g := 5) (by kernel_rfl) (by kernel_rfl) Tryd.underlying84 Tryd.underlying25 (by kernel_rfl) (by kernel_rfl) h3
  have r := iface_of_head (g := 4) (by kernel_rfl) (by kernel_rfl) Tryd.underlying27 h4
  have s := iface_of_head (g := 3) (by kernel_rfl) (by kernel_rfl) Tryd.underlying27 h5
  have w := strs_of_head (g := 0) (by kernel_rfl) (by kernel_rfl) Tryd.underlying48 Tryd.underlying9 (by kernel_rfl) (by kernel_rfl) h6
  have c := strs_of_head (g := 1) (by kernel_rfl) (by kernel_rfl) Tryd.underlying54 Tryd.underlying9 (by kernel_rfl) (by kernel_rfl) h7
  refine ⟨⟨p, fun o ho => ?_, s, r⟩, fun o ho => ?_⟩
  · obtain rfl | rfl | rfl | rfl | rfl | rfl | rfl : o = 0 ∨ o = 1 ∨ o = 2 ∨ o = 3 ∨ o = 4 ∨ o = 5 ∨ o = 6 := by omega
    all_goals exact w _ _ rfl
  · obtain rfl | rfl | rfl | rfl | rfl | rfl : o = 0 ∨ o = 1 ∨ o = 2 ∨ o = 3 ∨ o = 4 ∨ o = 5 := by omega
    all_goals exact c _ _ rfl
end Go.Proofs.YtdohomdhgkhebabDoor
