/-
  DERIVED. GIVEN WITH THE SEED: THE CARDS: each row of YtdohomdhgkhebabFmtRows.lean that lists a variable, with what it lists TIED to the program's text (the seventh form; the later family's looks); each row that meets fmt, with fmt's text TOLD by the authors' own Lean function (tested against real Go, not proved from fmt's source: count such statements apart). THE CARD IS WHAT COUNTS. Prove the row's statement (the work); the ties are given (YtdohomdhgkhebabFmtTie.lean); close each card by the builder's one call (the guide's Derived/Test/ToyasCard.lean, 'card_holds'). Laid BY PROGRAM, IN A SANDBOX (cutbox-door.mjs). By AI agents, Wed Nov 11 2026. No macro, syntax, notation, axiom, sorry.
-/
import Derived.Test.YtdohomdhgkhebabFmtRows
import GoSem.ClaimSeven
namespace Go.Proofs.YtdohomdhgkhebabFmt
namespace Rows

/-- THE TOLD AND TIED CARD OF 'gristmilllaw.OpParses'. -/
def opParsesCard : Claim7 := { stood := { row := opParsesRow, standIns := [], harness := (true, "883ed93110e1d4b356f380a4e152616bfea4ed96e03b4ba6431f90acbaeba92e"), looks := true }, told := true, laidByText := true, laidKinds := [.data, .data, .data, .handle, .sentinel, .sentinel, .listed, .data, .data], laidTests := true, laidLooks := .later, goes := false }
def OpParsesToldSaid : Prop := Claim7.holds Tryf.pinned (.plain (OpenSpec.ofChange opParsesSpec)) opParsesCard
/-- ITS FALSE NEIGHBOUR. Refute it at one input. -/
def OpParsesToldWrongFalsely : Prop := Claim7.holds Tryf.pinned (.plain (OpenSpec.ofChange opParsesWrong)) opParsesCard

/-- THE TOLD AND TIED CARD OF 'gristmilllaw.OpSays'. -/
def opSaysCard : Claim7 := { stood := { row := opSaysRow, standIns := [], harness := (true, "883ed93110e1d4b356f380a4e152616bfea4ed96e03b4ba6431f90acbaeba92e"), looks := true }, told := true, laidByText := true, laidKinds := [.data, .data, .data, .listed, .data, .data], laidTests := true, laidLooks := .later, goes := false }
def OpSaysToldSaid : Prop := Claim7.holds Tryf.pinned (.plain (OpenSpec.ofChange opSaysSpec)) opSaysCard
/-- ITS FALSE NEIGHBOUR. Refute it at one input. -/
def OpSaysToldWrongFalsely : Prop := Claim7.holds Tryf.pinned (.plain (OpenSpec.ofChange opSaysWrong)) opSaysCard
end Rows
end Go.Proofs.YtdohomdhgkhebabFmt
