/- What the row of ObjectNames lists, off the row's condition. -/
import Derived.Test.YtbmgjpdfmgcigaaDoorLaidA
import Derived.Test.YtbmgjpdfmgcigaaDoorEn
import Derived.Test.YtbmgjpdfmgcigaaDoorTie
import Derived.ProofKit
import Derived.OpenShut
import Derived.Stop.Joined
namespace Go.Proofs.YtbmgjpdfmgcigaaDoor
open Go.ChangeShapes Go.WideShapes Go.ChangeAt Go.RowKit

theorem own : ownKnob Tryd.prog.godebug = none := by kernel_rfl
abbrev laidN {H : Type} : List (String × DataW H) := [("unicode.White_Space", Rows.laid_unicode_White_Space), ("strings.asciiSpace", Rows.laid_strings_asciiSpace), ("gristmill/object.names", Rows.laid_gristmill_object_names)]

theorem door_N (os : Os) (args : Array Value) : laidMetH Tryd.prog laidN ((World.doorLaid Tryd.prog 1000 os).forCall (fun _ _ => 0) ⟨#[], args, []⟩).memory :=
  laidMetH_of_parts3 (fuel := 8) (laidMet_of_run' 8 (by kernel_rfl) (by kernel_rfl)) (by kernel_rfl) (by kernel_rfl)

theorem spc_eq : (Rows.laid_strings_asciiSpace : DataW Unit) = Lib.tabData .u8 Lib.asciiSpaceTab := by kernel_rfl
theorem names_eq : (Rows.laid_gristmill_object_names : DataW Unit) = strData [knm 0, knm 1, knm 2, knm 3, knm 4, knm 5, knm 6] := by kernel_rfl

theorem env_of_N {W : World} (h : laidMetH Tryd.prog laidN W) : En W := by
  rw [MakeChecks.laidMetH_plain _ _ _ (by kernel_rfl)] at h
  have h1 := h.tail
  have h2 := h1.tail
  rw [spc_eq] at h1
  rw [names_eq] at h2
  have a := Lib.tabIs_of_head (g := 1) (by kernel_rfl) (by kernel_rfl) Tryd.underlying28 Tryd.underlying5 (by kernel_rfl) (by kernel_rfl) h1
  have c := strs_of_head (g := 0) (by kernel_rfl) (by kernel_rfl) Tryd.underlying24 Tryd.underlying9 (by kernel_rfl) (by kernel_rfl) h2
  refine ⟨fun o ho => ?_, a⟩
  obtain rfl | rfl | rfl | rfl | rfl | rfl | rfl : o = 0 ∨ o = 1 ∨ o = 2 ∨ o = 3 ∨ o = 4 ∨ o = 5 ∨ o = 6 := by omega
  all_goals exact c _ _ rfl
end Go.Proofs.YtbmgjpdfmgcigaaDoor
