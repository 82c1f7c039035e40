/-
  DERIVED. GIVEN WITH THE SEED: THE CARDS: each row of YteogbpaaacmllabGreatDoorRows.lean that lists a variable, with what it lists TIED to the program's text (the seventh form; the later family's looks); each row that meets fmt, with fmt's text TOLD by the authors' own Lean function (tested against real Go, not proved from fmt's source: count such statements apart). THE CARD IS WHAT COUNTS. Prove the row's statement (the work); the ties are given (YteogbpaaacmllabGreatDoorTie.lean); close each card by the builder's one call (the guide's Derived/Test/ToyasCard.lean, 'card_holds'). Laid BY PROGRAM, IN A SANDBOX (cutbox-door.mjs). By AI agents, Wed Nov 11 2026. No macro, syntax, notation, axiom, sorry.
-/
import Derived.Test.YteogbpaaacmllabGreatDoorRows
import GoSem.ClaimSeven
namespace Go.Proofs.YteogbpaaacmllabGreatDoor
namespace Rows

/-- THE TIED CARD OF 'gristmillkeep.BatchLegal'. -/
def batchLegalCard : Claim7 := { stood := { row := batchLegalRow, standIns := [], harness := (true, "896f84311e5a6986679d865e033c64fff5c4db01008ce778d64a54c6cbed02e4"), looks := true }, kinds := [], alts := [], laidByText := true, laidKinds := [.handle], laidTests := true, laidLooks := .later }
def BatchLegalCardSaid : Prop := Claim7.holds Tryz.pinned (.plain (OpenSpec.ofChange batchLegalSpec)) batchLegalCard

/-- THE SECOND FORM's CARD OF 'gristmillkeep.BatchLegal'. -/
def batchLegalUptoCard : Claim7 := { stood := { row := batchLegalUptoRow, standIns := [], harness := (true, "896f84311e5a6986679d865e033c64fff5c4db01008ce778d64a54c6cbed02e4"), looks := true }, kinds := [], alts := [], laidByText := true, laidKinds := [.handle], laidTests := true, laidLooks := .later }
def BatchLegalUptoCardSaid : Prop := Claim7.holds Tryz.pinned (.plain (OpenSpec.upto batchLegalSpec)) batchLegalUptoCard
end Rows
end Go.Proofs.YteogbpaaacmllabGreatDoor
