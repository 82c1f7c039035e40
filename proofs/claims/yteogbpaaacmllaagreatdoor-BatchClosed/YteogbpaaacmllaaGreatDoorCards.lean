/-
  DERIVED. GIVEN WITH THE SEED: THE CARDS: each row of YteogbpaaacmllaaGreatDoorRows.lean that lists a variable, with what it lists TIED to the program's text (the seventh form; the later family's looks); each row that meets fmt, with fmt's text TOLD by the authors' own Lean function (tested against real Go, not proved from fmt's source: count such statements apart). THE CARD IS WHAT COUNTS. Prove the row's statement (the work); the ties are given (YteogbpaaacmllaaGreatDoorTie.lean); close each card by the builder's one call (the guide's Derived/Test/ToyasCard.lean, 'card_holds'). Laid BY PROGRAM, IN A SANDBOX (cutbox-door.mjs). By AI agents, Wed Nov 11 2026. No macro, syntax, notation, axiom, sorry.
-/
import Derived.Test.YteogbpaaacmllaaGreatDoorRows
import GoSem.ClaimSeven
namespace Go.Proofs.YteogbpaaacmllaaGreatDoor
namespace Rows

/-- THE TIED CARD OF 'gristmilllaw.BatchDoes'. -/
def batchDoesCard : Claim7 := { stood := { row := batchDoesRow, standIns := [], harness := (true, "a91206407ffc9ac50704e0f9d15d4c21b102433ee895ea6e11b36374faea923f"), looks := true }, kinds := [], alts := [], laidByText := true, laidKinds := [.handle], laidTests := true, laidLooks := .later }
def BatchDoesCardSaid : Prop := Claim7.holds Tryz.pinned (.plain (OpenSpec.ofChange batchDoesSpec)) batchDoesCard

/-- THE TIED CARD OF 'gristmillkeep.BatchClosed'. -/
def batchClosedCard : Claim7 := { stood := { row := batchClosedRow, standIns := [], harness := (true, "a91206407ffc9ac50704e0f9d15d4c21b102433ee895ea6e11b36374faea923f"), looks := true }, kinds := [], alts := [], laidByText := true, laidKinds := [.handle], laidTests := true, laidLooks := .later }
def BatchClosedCardSaid : Prop := Claim7.holds Tryz.pinned (.plain (OpenSpec.ofChange batchClosedSpec)) batchClosedCard

/-- THE TIED CARD OF 'gristmillkeep.BatchOnce'. -/
def batchOnceCard : Claim7 := { stood := { row := batchOnceRow, standIns := [], harness := (true, "a91206407ffc9ac50704e0f9d15d4c21b102433ee895ea6e11b36374faea923f"), looks := true }, kinds := [], alts := [], laidByText := true, laidKinds := [.handle], laidTests := true, laidLooks := .later }
def BatchOnceCardSaid : Prop := Claim7.holds Tryz.pinned (.plain (OpenSpec.ofChange batchOnceSpec)) batchOnceCard

/-- THE TIED CARD OF 'gristmillkeep.BatchFolds'. -/
def batchFoldsCard : Claim7 := { stood := { row := batchFoldsRow, standIns := [], harness := (true, "a91206407ffc9ac50704e0f9d15d4c21b102433ee895ea6e11b36374faea923f"), looks := true }, kinds := [], alts := [], laidByText := true, laidKinds := [.handle], laidTests := true, laidLooks := .later }
def BatchFoldsCardSaid : Prop := Claim7.holds Tryz.pinned (.plain (OpenSpec.ofChange batchFoldsSpec)) batchFoldsCard

/-- THE SECOND FORM's CARD OF 'gristmilllaw.BatchDoes'. -/
def batchDoesUptoCard : Claim7 := { stood := { row := batchDoesUptoRow, standIns := [], harness := (true, "a91206407ffc9ac50704e0f9d15d4c21b102433ee895ea6e11b36374faea923f"), looks := true }, kinds := [], alts := [], laidByText := true, laidKinds := [.handle], laidTests := true, laidLooks := .later }
def BatchDoesUptoCardSaid : Prop := Claim7.holds Tryz.pinned (.plain (OpenSpec.upto batchDoesSpec)) batchDoesUptoCard

/-- THE SECOND FORM's CARD OF 'gristmillkeep.BatchClosed'. -/
def batchClosedUptoCard : Claim7 := { stood := { row := batchClosedUptoRow, standIns := [], harness := (true, "a91206407ffc9ac50704e0f9d15d4c21b102433ee895ea6e11b36374faea923f"), looks := true }, kinds := [], alts := [], laidByText := true, laidKinds := [.handle], laidTests := true, laidLooks := .later }
def BatchClosedUptoCardSaid : Prop := Claim7.holds Tryz.pinned (.plain (OpenSpec.upto batchClosedSpec)) batchClosedUptoCard

/-- THE SECOND FORM's CARD OF 'gristmillkeep.BatchOnce'. -/
def batchOnceUptoCard : Claim7 := { stood := { row := batchOnceUptoRow, standIns := [], harness := (true, "a91206407ffc9ac50704e0f9d15d4c21b102433ee895ea6e11b36374faea923f"), looks := true }, kinds := [], alts := [], laidByText := true, laidKinds := [.handle], laidTests := true, laidLooks := .later }
def BatchOnceUptoCardSaid : Prop := Claim7.holds Tryz.pinned (.plain (OpenSpec.upto batchOnceSpec)) batchOnceUptoCard

/-- THE SECOND FORM's CARD OF 'gristmillkeep.BatchFolds'. -/
def batchFoldsUptoCard : Claim7 := { stood := { row := batchFoldsUptoRow, standIns := [], harness := (true, "a91206407ffc9ac50704e0f9d15d4c21b102433ee895ea6e11b36374faea923f"), looks := true }, kinds := [], alts := [], laidByText := true, laidKinds := [.handle], laidTests := true, laidLooks := .later }
def BatchFoldsUptoCardSaid : Prop := Claim7.holds Tryz.pinned (.plain (OpenSpec.upto batchFoldsSpec)) batchFoldsUptoCard
end Rows
end Go.Proofs.YteogbpaaacmllaaGreatDoor
