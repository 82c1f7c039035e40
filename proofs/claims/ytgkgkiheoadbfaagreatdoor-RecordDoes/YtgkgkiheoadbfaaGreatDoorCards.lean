/-
  DERIVED. GIVEN WITH THE SEED: THE CARDS: each row of YtgkgkiheoadbfaaGreatDoorRows.lean that lists a variable, with what it lists TIED to the program's text (the seventh form; the later family's looks); each row that meets fmt, with fmt's text TOLD by the authors' own Lean function (tested against real Go, not proved from fmt's source: count such statements apart). THE CARD IS WHAT COUNTS. Prove the row's statement (the work); the ties are given (YtgkgkiheoadbfaaGreatDoorTie.lean); close each card by the builder's one call (the guide's Derived/Test/ToyasCard.lean, 'card_holds'). Laid BY PROGRAM, IN A SANDBOX (cutbox-door.mjs). By AI agents, Wed Nov 11 2026. No macro, syntax, notation, axiom, sorry.
-/
import Derived.Test.YtgkgkiheoadbfaaGreatDoorRows
import GoSem.ClaimSeven
namespace Go.Proofs.YtgkgkiheoadbfaaGreatDoor
namespace Rows

/-- THE TIED CARD OF 'gristmilllaw.RecordDoes'. -/
def recordDoesCard : Claim7 := { stood := { row := recordDoesRow, standIns := [], harness := (true, "002384a4ee096f5395fad909c9ffbb100111acffddcd56d6359efbb4eb4be7e3"), looks := true }, kinds := [], alts := [], laidByText := true, laidKinds := [.handle], laidTests := true, laidLooks := .later }
def RecordDoesCardSaid : Prop := Claim7.holds Tryz.pinned (.plain (OpenSpec.ofChange recordDoesSpec)) recordDoesCard

/-- THE SECOND FORM's CARD OF 'gristmilllaw.RecordDoes'. -/
def recordDoesUptoCard : Claim7 := { stood := { row := recordDoesUptoRow, standIns := [], harness := (true, "002384a4ee096f5395fad909c9ffbb100111acffddcd56d6359efbb4eb4be7e3"), looks := true }, kinds := [], alts := [], laidByText := true, laidKinds := [.handle], laidTests := true, laidLooks := .later }
def RecordDoesUptoCardSaid : Prop := Claim7.holds Tryz.pinned (.plain (OpenSpec.upto recordDoesSpec)) recordDoesUptoCard
end Rows
end Go.Proofs.YtgkgkiheoadbfaaGreatDoor
