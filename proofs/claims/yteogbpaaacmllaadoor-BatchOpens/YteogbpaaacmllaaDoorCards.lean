/-
  DERIVED. GIVEN WITH THE SEED: THE CARDS: each row of YteogbpaaacmllaaDoorRows.lean that lists a variable, with what it lists TIED to the program's text (the seventh form; the later family's looks); each row that meets fmt, with fmt's text TOLD by the authors' own Lean function (tested against real Go, not proved from fmt's source: count such statements apart). THE CARD IS WHAT COUNTS. Prove the row's statement (the work); the ties are given (YteogbpaaacmllaaDoorTie.lean); close each card by the builder's one call (the guide's Derived/Test/ToyasCard.lean, 'card_holds'). Laid BY PROGRAM, IN A SANDBOX (cutbox-door.mjs). By AI agents, Wed Nov 11 2026. No macro, syntax, notation, axiom, sorry.
-/
import Derived.Test.YteogbpaaacmllaaDoorRows
import GoSem.ClaimSeven
namespace Go.Proofs.YteogbpaaacmllaaDoor
namespace Rows

/-- THE TIED CARD OF 'gristmilllaw.BatchOpens'. -/
def batchOpensCard : Claim7 := { stood := { row := batchOpensRow, standIns := [], harness := (true, "cec31d70e81bb7b02ee8602f9a3c7aeeea482d7b28caed499688775e148d21bb"), looks := true }, kinds := [], alts := [], laidByText := true, laidKinds := [.handle], laidTests := true, laidLooks := .later }
def BatchOpensCardSaid : Prop := Claim7.holds Tryd.pinned (.plain (OpenSpec.ofChange batchOpensSpec)) batchOpensCard

/-- THE TIED CARD OF 'gristmillkeep.BatchNone'. -/
def batchNoneCard : Claim7 := { stood := { row := batchNoneRow, standIns := [], harness := (true, "cec31d70e81bb7b02ee8602f9a3c7aeeea482d7b28caed499688775e148d21bb"), looks := true }, kinds := [], alts := [], laidByText := true, laidKinds := [.handle], laidTests := true, laidLooks := .later }
def BatchNoneCardSaid : Prop := Claim7.holds Tryd.pinned (.plain (OpenSpec.ofChange batchNoneSpec)) batchNoneCard

/-- THE SECOND FORM's CARD OF 'gristmilllaw.BatchOpens'. -/
def batchOpensUptoCard : Claim7 := { stood := { row := batchOpensUptoRow, standIns := [], harness := (true, "cec31d70e81bb7b02ee8602f9a3c7aeeea482d7b28caed499688775e148d21bb"), looks := true }, kinds := [], alts := [], laidByText := true, laidKinds := [.handle], laidTests := true, laidLooks := .later }
def BatchOpensUptoCardSaid : Prop := Claim7.holds Tryd.pinned (.plain (OpenSpec.upto batchOpensSpec)) batchOpensUptoCard

/-- THE SECOND FORM's CARD OF 'gristmillkeep.BatchNone'. -/
def batchNoneUptoCard : Claim7 := { stood := { row := batchNoneUptoRow, standIns := [], harness := (true, "cec31d70e81bb7b02ee8602f9a3c7aeeea482d7b28caed499688775e148d21bb"), looks := true }, kinds := [], alts := [], laidByText := true, laidKinds := [.handle], laidTests := true, laidLooks := .later }
def BatchNoneUptoCardSaid : Prop := Claim7.holds Tryd.pinned (.plain (OpenSpec.upto batchNoneSpec)) batchNoneUptoCard
end Rows
end Go.Proofs.YteogbpaaacmllaaDoor
