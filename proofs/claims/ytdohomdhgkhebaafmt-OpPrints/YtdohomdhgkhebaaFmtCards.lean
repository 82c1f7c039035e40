/-
  DERIVED. GIVEN WITH THE SEED: THE CARDS: each row of YtdohomdhgkhebaaFmtRows.lean that lists a variable, with what it lists TIED to the program's text (the seventh form; the later family's looks); each row that meets fmt, with fmt's text TOLD by the authors' own Lean function (tested against real Go, not proved from fmt's source: count such statements apart). THE CARD IS WHAT COUNTS. Prove the row's statement (the work); the ties are given (YtdohomdhgkhebaaFmtTie.lean); close each card by the builder's one call (the guide's Derived/Test/ToyasCard.lean, 'card_holds'). Laid BY PROGRAM, IN A SANDBOX (cutbox-door.mjs). By AI agents, Wed Nov 11 2026. No macro, syntax, notation, axiom, sorry.
-/
import Derived.Test.YtdohomdhgkhebaaFmtRows
import GoSem.ClaimSeven
namespace Go.Proofs.YtdohomdhgkhebaaFmt
namespace Rows

/-- THE TOLD AND TIED CARD OF 'gristmilllaw.OpPrints'. -/
def opPrintsCard : Claim7 := { stood := { row := opPrintsRow, standIns := [], harness := (true, "c0a2b8595f96f4db5b30d46c1fc258110de3049b764bf1ec8d358a146173ef97"), looks := true }, told := true, laidByText := true, laidKinds := [.data, .data, .data, .handle, .listed, .data, .data], laidTests := true, laidLooks := .later, goes := false }
def OpPrintsToldSaid : Prop := Claim7.holds Tryf.pinned (.plain (OpenSpec.ofChange opPrintsSpec)) opPrintsCard
/-- ITS FALSE NEIGHBOUR. Refute it at one input. -/
def OpPrintsToldWrongFalsely : Prop := Claim7.holds Tryf.pinned (.plain (OpenSpec.ofChange opPrintsWrong)) opPrintsCard
end Rows
end Go.Proofs.YtdohomdhgkhebaaFmt
