/-
  DERIVED. GIVEN WITH THE SEED: THE CARDS: each row of YtbmgjpdfmgcigabDoorRows.lean that lists a variable, with what it lists TIED to the program's text (the seventh form; the later family's looks); each row that meets fmt, with fmt's text TOLD by the authors' own Lean function (tested against real Go, not proved from fmt's source: count such statements apart). THE CARD IS WHAT COUNTS. Prove the row's statement (the work); the ties are given (YtbmgjpdfmgcigabDoorTie.lean); close each card by the builder's one call (the guide's Derived/Test/ToyasCard.lean, 'card_holds'). Laid BY PROGRAM, IN A SANDBOX (cutbox-door.mjs). By AI agents, Wed Nov 11 2026. No macro, syntax, notation, axiom, sorry.
-/
import Derived.Test.YtbmgjpdfmgcigabDoorRows
import GoSem.ClaimSeven
namespace Go.Proofs.YtbmgjpdfmgcigabDoor
namespace Rows

/-- THE TIED CARD OF 'gristmilllaw.ObjectDoes'. -/
def objectDoesCard : Claim7 := { stood := { row := objectDoesRow, standIns := [], harness := (true, "83a4d323e7a196c91980795f288793d1439b4dc05817bfb4ba4a0158b449086e"), looks := true }, kinds := [], alts := [], laidByText := true, laidKinds := [.handle], laidTests := true, laidLooks := .later }
def ObjectDoesCardSaid : Prop := Claim7.holds Tryd.pinned (.plain (OpenSpec.ofChange objectDoesSpec)) objectDoesCard

/-- THE TIED CARD OF 'gristmilllaw.ObjectSizes'. -/
def objectSizesCard : Claim7 := { stood := { row := objectSizesRow, standIns := [], harness := (true, "83a4d323e7a196c91980795f288793d1439b4dc05817bfb4ba4a0158b449086e"), looks := true }, kinds := [], alts := [], laidByText := true, laidKinds := [.handle], laidTests := true, laidLooks := .later }
def ObjectSizesCardSaid : Prop := Claim7.holds Tryd.pinned (.plain (OpenSpec.ofChange objectSizesSpec)) objectSizesCard

/-- THE SECOND FORM's CARD OF 'gristmilllaw.ObjectDoes'. -/
def objectDoesUptoCard : Claim7 := { stood := { row := objectDoesUptoRow, standIns := [], harness := (true, "83a4d323e7a196c91980795f288793d1439b4dc05817bfb4ba4a0158b449086e"), looks := true }, kinds := [], alts := [], laidByText := true, laidKinds := [.handle], laidTests := true, laidLooks := .later }
def ObjectDoesUptoCardSaid : Prop := Claim7.holds Tryd.pinned (.plain (OpenSpec.upto objectDoesSpec)) objectDoesUptoCard

/-- THE SECOND FORM's CARD OF 'gristmilllaw.ObjectSizes'. -/
def objectSizesUptoCard : Claim7 := { stood := { row := objectSizesUptoRow, standIns := [], harness := (true, "83a4d323e7a196c91980795f288793d1439b4dc05817bfb4ba4a0158b449086e"), looks := true }, kinds := [], alts := [], laidByText := true, laidKinds := [.handle], laidTests := true, laidLooks := .later }
def ObjectSizesUptoCardSaid : Prop := Claim7.holds Tryd.pinned (.plain (OpenSpec.upto objectSizesSpec)) objectSizesUptoCard
end Rows
end Go.Proofs.YtbmgjpdfmgcigabDoor
