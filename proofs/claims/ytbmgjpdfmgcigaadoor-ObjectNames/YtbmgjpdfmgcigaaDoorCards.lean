/-
  DERIVED. GIVEN WITH THE SEED: THE CARDS: each row of YtbmgjpdfmgcigaaDoorRows.lean that lists a variable, with what it lists TIED to the program's text (the seventh form; the later family's looks); each row that meets fmt, with fmt's text TOLD by the authors' own Lean function (tested against real Go, not proved from fmt's source: count such statements apart). THE CARD IS WHAT COUNTS. Prove the row's statement (the work); the ties are given (YtbmgjpdfmgcigaaDoorTie.lean); close each card by the builder's one call (the guide's Derived/Test/ToyasCard.lean, 'card_holds'). Laid BY PROGRAM, IN A SANDBOX (cutbox-door.mjs). By AI agents, Wed Nov 11 2026. No macro, syntax, notation, axiom, sorry.
-/
import Derived.Test.YtbmgjpdfmgcigaaDoorRows
import GoSem.ClaimSeven
namespace Go.Proofs.YtbmgjpdfmgcigaaDoor
namespace Rows

/-- THE TIED CARD OF 'gristmilllaw.ObjectNames'. -/
def objectNamesCard : Claim7 := { stood := { row := objectNamesRow, standIns := [], harness := (true, "04fe9394ca1f40b620e13b3f1971436fee7fb148fdc78fd6a8126a6548bfce1c"), looks := false }, kinds := [], alts := [], laidByText := true, laidKinds := [.listed, .data, .data], laidTests := true, laidLooks := .later }
def ObjectNamesCardSaid : Prop := Claim7.holds Tryd.pinned (.plain (OpenSpec.ofChange objectNamesSpec)) objectNamesCard

/-- THE SECOND FORM's CARD OF 'gristmilllaw.ObjectNames'. -/
def objectNamesUptoCard : Claim7 := { stood := { row := objectNamesUptoRow, standIns := [], harness := (true, "04fe9394ca1f40b620e13b3f1971436fee7fb148fdc78fd6a8126a6548bfce1c"), looks := false }, kinds := [], alts := [], laidByText := true, laidKinds := [.listed, .data, .data], laidTests := true, laidLooks := .later }
def ObjectNamesUptoCardSaid : Prop := Claim7.holds Tryd.pinned (.plain (OpenSpec.upto objectNamesSpec)) objectNamesUptoCard
end Rows
end Go.Proofs.YtbmgjpdfmgcigaaDoor
