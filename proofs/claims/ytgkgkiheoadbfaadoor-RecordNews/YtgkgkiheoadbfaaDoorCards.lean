/-
  DERIVED. GIVEN WITH THE SEED: THE CARDS: each row of YtgkgkiheoadbfaaDoorRows.lean that lists a variable, with what it lists TIED to the program's text (the seventh form; the later family's looks); each row that meets fmt, with fmt's text TOLD by the authors' own Lean function (tested against real Go, not proved from fmt's source: count such statements apart). THE CARD IS WHAT COUNTS. Prove the row's statement (the work); the ties are given (YtgkgkiheoadbfaaDoorTie.lean); close each card by the builder's one call (the guide's Derived/Test/ToyasCard.lean, 'card_holds'). Laid BY PROGRAM, IN A SANDBOX (cutbox-door.mjs). By AI agents, Wed Nov 11 2026. No macro, syntax, notation, axiom, sorry.
-/
import Derived.Test.YtgkgkiheoadbfaaDoorRows
import GoSem.ClaimSeven
namespace Go.Proofs.YtgkgkiheoadbfaaDoor
namespace Rows

/-- THE TIED CARD OF 'gristmilllaw.RecordNews'. -/
def recordNewsCard : Claim7 := { stood := { row := recordNewsRow, standIns := [], harness := (true, "4ed31867d08273cb7b3b7cee76a4884ae3dd3c860adb1d58270af9fc687709c5"), looks := true }, kinds := [], alts := [], laidByText := true, laidKinds := [.handle, .listed, .data], laidTests := true, laidLooks := .later }
def RecordNewsCardSaid : Prop := Claim7.holds Tryd.pinned (.plain (OpenSpec.ofChange recordNewsSpec)) recordNewsCard

/-- THE TIED CARD OF 'gristmilllaw.RecordAnswers'. -/
def recordAnswersCard : Claim7 := { stood := { row := recordAnswersRow, standIns := [], harness := (true, "4ed31867d08273cb7b3b7cee76a4884ae3dd3c860adb1d58270af9fc687709c5"), looks := true }, kinds := [], alts := [], laidByText := true, laidKinds := [.handle], laidTests := true, laidLooks := .later }
def RecordAnswersCardSaid : Prop := Claim7.holds Tryd.pinned (.plain (OpenSpec.ofChange recordAnswersSpec)) recordAnswersCard

/-- THE SECOND FORM's CARD OF 'gristmilllaw.RecordNews'. -/
def recordNewsUptoCard : Claim7 := { stood := { row := recordNewsUptoRow, standIns := [], harness := (true, "4ed31867d08273cb7b3b7cee76a4884ae3dd3c860adb1d58270af9fc687709c5"), looks := true }, kinds := [], alts := [], laidByText := true, laidKinds := [.handle, .listed, .data], laidTests := true, laidLooks := .later }
def RecordNewsUptoCardSaid : Prop := Claim7.holds Tryd.pinned (.plain (OpenSpec.upto recordNewsSpec)) recordNewsUptoCard

/-- THE SECOND FORM's CARD OF 'gristmilllaw.RecordAnswers'. -/
def recordAnswersUptoCard : Claim7 := { stood := { row := recordAnswersUptoRow, standIns := [], harness := (true, "4ed31867d08273cb7b3b7cee76a4884ae3dd3c860adb1d58270af9fc687709c5"), looks := true }, kinds := [], alts := [], laidByText := true, laidKinds := [.handle], laidTests := true, laidLooks := .later }
def RecordAnswersUptoCardSaid : Prop := Claim7.holds Tryd.pinned (.plain (OpenSpec.upto recordAnswersSpec)) recordAnswersUptoCard
end Rows
end Go.Proofs.YtgkgkiheoadbfaaDoor
