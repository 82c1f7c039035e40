/- What the row of OpPrints lists, off the row's condition. -/
import Derived.Test.YtdohomdhgkhebaaFmtLaidA
import Derived.Test.YtdohomdhgkhebaaFmtLaidHandle
import Derived.Test.YtdohomdhgkhebaaFmtEnvA
import Derived.Test.YtdohomdhgkhebaaFmtEnvW
import Derived.Stop.Joined
namespace Go.Proofs.YtdohomdhgkhebaaFmt
open Go.ChangeShapes Go.WideShapes Go.ChangeAt Go.RowKit

abbrev laidP {H : Type} : List (String × DataW H) := [("math/bits.deBruijn32tab", Rows.laid_math_bits_deBruijn32tab), ("math/bits.deBruijn64tab", Rows.laid_math_bits_deBruijn64tab), ("internal/strconv.uint64pow10", Rows.laid_internal_strconv_uint64pow10), ("errors.errorType", Rows.laid_errors_errorType), ("unicode.White_Space", Rows.laid_unicode_White_Space), ("strings.asciiSpace", Rows.laid_strings_asciiSpace), ("gristmill/op.whats", Rows.laid_gristmill_op_whats)]
abbrev laidP0 {H : Type} : List (String × DataW H) := [("math/bits.deBruijn32tab", Rows.laid_math_bits_deBruijn32tab), ("math/bits.deBruijn64tab", Rows.laid_math_bits_deBruijn64tab), ("internal/strconv.uint64pow10", Rows.laid_internal_strconv_uint64pow10), ("unicode.White_Space", Rows.laid_unicode_White_Space), ("strings.asciiSpace", Rows.laid_strings_asciiSpace), ("gristmill/op.whats", Rows.laid_gristmill_op_whats)]

theorem door_P (os : Os) (args : Array Value) : laidMetH Tryf.prog laidP ((World.doorLaid Tryf.prog 1000 os).forCall (fun _ _ => 0) ⟨#[], args, []⟩).memory :=
  laidMetH_of_parts3 (fuel := 8) (laidMet_of_run' 8 (by kernel_rfl) (by kernel_rfl)) (by kernel_rfl) (by kernel_rfl)

theorem pow_eq : (Rows.laid_internal_strconv_uint64pow10 : DataW Unit) = Lib.tabData .u64 Lib.pow10Tab := by kernel_rfl
theorem spc_eq : (Rows.laid_strings_asciiSpace : DataW Unit) = Lib.tabData .u8 Lib.asciiSpaceTab := by kernel_rfl
theorem whats_eq : (Rows.laid_gristmill_op_whats : DataW Unit) = strData [nm 0, nm 1, nm 2, nm 3, nm 4, nm 5, nm 6] := by kernel_rfl

/-- What the variables hold. -/
structure Ep (w : World) : Prop where
  pw : Pw w
  wh : Wh w
  asc : As w
  hd : HandleAt w
theorem HandleAt.below {w w' : World} (h : HandleAt w) (hb : Below w.heap.size w w') : HandleAt w' := (hb.cell (p := ⟨3, 0, none⟩) (size_of_cell' h)).trans h
theorem Ep.later {w w' : World} (h : Ep w) (hb : Below w.heap.size w w') : Ep w' := ⟨h.pw.later hb, h.wh.later hb, h.asc.later hb, h.hd.below hb⟩

theorem env_of_P {W : World} (h : laidMetH Tryf.prog laidP W) : Ep W := by
  have h' : laidMet Tryf.prog laidP0 W ∧ handlesMet Tryf.prog laidHandle W := h
  obtain ⟨hl, hh⟩ := h'
  have h3 := hl.tail.tail
  have h5 := h3.tail.tail
  have h6 := h5.tail
  rw [pow_eq] at h3
  rw [spc_eq] at h5
  rw [whats_eq] at h6
  have p := Lib.tabIs_of_head (g := 4) (by kernel_rfl) (by kernel_rfl) Tryf.underlying110 Tryf.underlying90 (by kernel_rfl) (by kernel_rfl) h3
  have a := Lib.tabIs_of_head (g := 1) (by kernel_rfl) (by kernel_rfl) Tryf.underlying41 Tryf.underlying5 (by kernel_rfl) (by kernel_rfl) h5
  have w := strs_of_head (g := 0) (by kernel_rfl) (by kernel_rfl) Tryf.underlying36 Tryf.underlying9 (by kernel_rfl) (by kernel_rfl) h6
  refine ⟨p, fun o ho => ?_, a, handle_of_laid ⟨laidMet_nil _ _, hh⟩⟩
  obtain rfl | rfl | rfl | rfl | rfl | rfl | rfl : o = 0 ∨ o = 1 ∨ o = 2 ∨ o = 3 ∨ o = 4 ∨ o = 5 ∨ o = 6 := by omega
  all_goals exact w _ _ rfl
end Go.Proofs.YtdohomdhgkhebaaFmt
