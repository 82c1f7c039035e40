/- What the row of OpSays lists, off the row's condition. -/
import Derived.Test.YtdohomdhgkhebabFmtLaidA
import Derived.Test.YtdohomdhgkhebabFmtEnvA
import Derived.Test.YtdohomdhgkhebabFmtEnvC
import Derived.Test.YtdohomdhgkhebabFmtTie
import Derived.ProofKit
import Derived.OpenShut
import Derived.Stop.Joined
namespace Go.Proofs.YtdohomdhgkhebabFmt
open Go.ChangeShapes Go.WideShapes Go.ChangeAt Go.RowKit

theorem ownS : ownKnob Tryf.prog.godebug = none := by kernel_rfl
abbrev laidS {H : Type} : List (String × DataW H) := [("math/bits.deBruijn32tab", Rows.laid_math_bits_deBruijn32tab), ("math/bits.deBruijn64tab", Rows.laid_math_bits_deBruijn64tab), ("internal/strconv.uint64pow10", Rows.laid_internal_strconv_uint64pow10), ("unicode.White_Space", Rows.laid_unicode_White_Space), ("strings.asciiSpace", Rows.laid_strings_asciiSpace), ("gristmill/op.codes", Rows.laid_gristmill_op_codes)]

theorem door_S (os : Os) (args : Array Value) : laidMetH Tryf.prog laidS ((World.doorLaid Tryf.prog 1000 os).forCall (fun _ _ => 0) ⟨#[], args, []⟩).memory :=
  laidMetH_of_parts3 (fuel := 8) (laidMet_of_run' 8 (by kernel_rfl) (by kernel_rfl)) (by kernel_rfl) (by kernel_rfl)

theorem pow_eqS : (Rows.laid_internal_strconv_uint64pow10 : DataW Unit) = Lib.tabData .u64 Lib.pow10Tab := by kernel_rfl
theorem spc_eqS : (Rows.laid_strings_asciiSpace : DataW Unit) = Lib.tabData .u8 Lib.asciiSpaceTab := by kernel_rfl
theorem codes_eqS : (Rows.laid_gristmill_op_codes : DataW Unit) = strData [cnm 0, cnm 1, cnm 2, cnm 3, cnm 4, cnm 5] := by kernel_rfl

/-- What the variables hold. -/
structure Es (w : World) : Prop where
  pw : Pw w
  cd : Cd w
  asc : As w
theorem Es.later {w w' : World} (h : Es w) (hb : Below w.heap.size w w') : Es w' := ⟨h.pw.later hb, h.cd.later hb, h.asc.later hb⟩

theorem env_of_S {W : World} (h : laidMetH Tryf.prog laidS W) : Es W := by
  rw [MakeChecks.laidMetH_plain _ _ _ (by kernel_rfl)] at h
  have h3 := h.tail.tail
  have h5 := h3.tail.tail
  have h6 := h5.tail
  rw [pow_eqS] at h3
  rw [spc_eqS] at h5
  rw [codes_eqS] at h6
  have p := Lib.tabIs_of_head (g := 8) (by kernel_rfl) (by kernel_rfl) Tryf.underlying150 Tryf.underlying120 (by kernel_rfl) (by kernel_rfl) h3
  have a := Lib.tabIs_of_head (g := 1) (by kernel_rfl) (by kernel_rfl) Tryf.underlying54 Tryf.underlying5 (by kernel_rfl) (by kernel_rfl) h5
  have c := strs_of_head (g := 0) (by kernel_rfl) (by kernel_rfl) Tryf.underlying51 Tryf.underlying9 (by kernel_rfl) (by kernel_rfl) h6
  refine ⟨p, fun o ho => ?_, a⟩
  obtain rfl | rfl | rfl | rfl | rfl | rfl : o = 0 ∨ o = 1 ∨ o = 2 ∨ o = 3 ∨ o = 4 ∨ o = 5 := by omega
  all_goals exact c _ _ rfl
end Go.Proofs.YtdohomdhgkhebabFmt
