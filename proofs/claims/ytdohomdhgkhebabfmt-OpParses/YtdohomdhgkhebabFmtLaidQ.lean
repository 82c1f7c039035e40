/- What the row of OpParses lists, off the row's condition. -/
import Derived.Test.YtdohomdhgkhebabFmtLaidA
import Derived.Test.YtdohomdhgkhebabFmtLaidHandle
import Derived.Test.YtdohomdhgkhebabFmtEnvA
import Derived.Test.YtdohomdhgkhebabFmtParseK
import Derived.Stop.Joined
namespace Go.Proofs.YtdohomdhgkhebabFmt
open Go.ChangeShapes Go.WideShapes Go.ChangeAt Go.RowKit

abbrev laidQ {H : Type} : List (String × DataW H) := [("math/bits.deBruijn32tab", Rows.laid_math_bits_deBruijn32tab), ("math/bits.deBruijn64tab", Rows.laid_math_bits_deBruijn64tab), ("internal/strconv.uint64pow10", Rows.laid_internal_strconv_uint64pow10), ("errors.errorType", Rows.laid_errors_errorType), ("strconv.ErrRange", Rows.laid_strconv_ErrRange), ("strconv.ErrSyntax", Rows.laid_strconv_ErrSyntax), ("unicode.White_Space", Rows.laid_unicode_White_Space), ("strings.asciiSpace", Rows.laid_strings_asciiSpace), ("gristmill/op.whats", Rows.laid_gristmill_op_whats)]
abbrev laidQ0 {H : Type} : List (String × DataW H) := [("math/bits.deBruijn32tab", Rows.laid_math_bits_deBruijn32tab), ("math/bits.deBruijn64tab", Rows.laid_math_bits_deBruijn64tab), ("internal/strconv.uint64pow10", Rows.laid_internal_strconv_uint64pow10), ("strconv.ErrRange", Rows.laid_strconv_ErrRange), ("strconv.ErrSyntax", Rows.laid_strconv_ErrSyntax), ("unicode.White_Space", Rows.laid_unicode_White_Space), ("strings.asciiSpace", Rows.laid_strings_asciiSpace), ("gristmill/op.whats", Rows.laid_gristmill_op_whats)]

theorem door_Q (os : Os) (args : Array Value) : laidMetH Tryf.prog laidQ ((World.doorLaid Tryf.prog 1000 os).forCall (fun _ _ => 0) ⟨#[], args, []⟩).memory :=
  laidMetH_of_parts3 (fuel := 8) (laidMet_of_run' 8 (by kernel_rfl) (by kernel_rfl)) (by kernel_rfl) (by kernel_rfl)

theorem pow_eq : (Rows.laid_internal_strconv_uint64pow10 : DataW Unit) = Lib.tabData .u64 Lib.pow10Tab := by kernel_rfl
theorem spc_eq : (Rows.laid_strings_asciiSpace : DataW Unit) = Lib.tabData .u8 Lib.asciiSpaceTab := by kernel_rfl
theorem whats_eq : (Rows.laid_gristmill_op_whats : DataW Unit) = strData [nm 0, nm 1, nm 2, nm 3, nm 4, nm 5, nm 6] := by kernel_rfl

/-- What the variables hold. -/
structure Eq' (w : World) : Prop where
  en : En w
  asc : As w
  hd : HandleAt w
theorem HandleAt.below {w w' : World} (h : HandleAt w) (hb : Below w.heap.size w w') : HandleAt w' := (hb.cell (p := ⟨5, 0, none⟩) (size_of_cell' h)).trans h
theorem Eq'.later {w w' : World} (h : Eq' w) (hb : Below w.heap.size w w') : Eq' w' := ⟨h.en.later hb, h.asc.later hb, h.hd.below hb⟩

theorem env_of_Q {W : World} (h : laidMetH Tryf.prog laidQ W) : Eq' W := by
  have h' : laidMet Tryf.prog laidQ0 W ∧ handlesMet Tryf.prog laidHandle W := h
  obtain ⟨hl, hh⟩ := h'
  have h3 := hl.tail.tail
  have h4 := h3.tail
  have h5 := h4.tail
  have h7 := h5.tail.tail
  have h8 := h7.tail
  rw [pow_eq] at h3
  rw [spc_eq] at h7
  rw [whats_eq] at h8
  have p := Lib.tabIs_of_head (g := 8) (by kernel_rfl) (by kernel_rfl) Tryf.underlying150 Tryf.underlying120 (by kernel_rfl) (by kernel_rfl) h3
  have r := iface_of_head (g := 7) (by kernel_rfl) (by kernel_rfl) Tryf.underlying28 h4
  have s := iface_of_head (g := 6) (by kernel_rfl) (by kernel_rfl) Tryf.underlying28 h5
  have a := Lib.tabIs_of_head (g := 1) (by kernel_rfl) (by kernel_rfl) Tryf.underlying54 Tryf.underlying5 (by kernel_rfl) (by kernel_rfl) h7
  have w := strs_of_head (g := 2) (by kernel_rfl) (by kernel_rfl) Tryf.underlying59 Tryf.underlying9 (by kernel_rfl) (by kernel_rfl) h8
  refine ⟨⟨p, fun o ho => ?_, s, r⟩, a, handle_of_laid ⟨laidMet_nil _ _, hh⟩⟩
  obtain rfl | rfl | rfl | rfl | rfl | rfl | rfl : o = 0 ∨ o = 1 ∨ o = 2 ∨ o = 3 ∨ o = 4 ∨ o = 5 ∨ o = 6 := by omega
  all_goals exact w _ _ rfl
end Go.Proofs.YtdohomdhgkhebabFmt
