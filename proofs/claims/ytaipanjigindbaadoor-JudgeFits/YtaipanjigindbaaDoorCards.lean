/-
  DERIVED. GIVEN WITH THE SEED: THE CARDS: each row of YtaipanjigindbaaDoorRows.lean that lists a variable, with what it lists TIED to the program's text (the seventh form; the later family's looks); each row that meets fmt, with fmt's text TOLD by the authors' own Lean function (tested against real Go, not proved from fmt's source: count such statements apart). THE CARD IS WHAT COUNTS. Prove the row's statement (the work); the ties are given (YtaipanjigindbaaDoorTie.lean); close each card by the builder's one call (the guide's Derived/Test/ToyasCard.lean, 'card_holds'). Laid BY PROGRAM, IN A SANDBOX (cutbox-door.mjs). By AI agents, Wed Nov 11 2026. No macro, syntax, notation, axiom, sorry.
-/
import Derived.Test.YtaipanjigindbaaDoorRows
import GoSem.ClaimSeven
namespace Go.Proofs.YtaipanjigindbaaDoor
namespace Rows

/-- THE TIED CARD OF 'gristmilllaw.JudgeLegal'. -/
def judgeLegalCard : Claim7 := { stood := { row := judgeLegalRow, standIns := [], harness := (true, "393dd0ee3179eace80c24e7cab550b860e25d86ef87c5343551562d36c5e0fff"), looks := true }, kinds := [], alts := [], laidByText := true, laidKinds := [.handle], laidTests := true, laidLooks := .later }
def JudgeLegalCardSaid : Prop := Claim7.holds Tryd.pinned (.plain (OpenSpec.ofChange judgeLegalSpec)) judgeLegalCard

/-- THE TIED CARD OF 'gristmilllaw.JudgeFits'. -/
def judgeFitsCard : Claim7 := { stood := { row := judgeFitsRow, standIns := [], harness := (true, "393dd0ee3179eace80c24e7cab550b860e25d86ef87c5343551562d36c5e0fff"), looks := true }, kinds := [], alts := [], laidByText := true, laidKinds := [.handle], laidTests := true, laidLooks := .later }
def JudgeFitsCardSaid : Prop := Claim7.holds Tryd.pinned (.plain (OpenSpec.ofChange judgeFitsSpec)) judgeFitsCard

/-- THE TIED CARD OF 'gristmillkeep.JudgeJoins'. -/
def judgeJoinsCard : Claim7 := { stood := { row := judgeJoinsRow, standIns := [], harness := (true, "393dd0ee3179eace80c24e7cab550b860e25d86ef87c5343551562d36c5e0fff"), looks := true }, kinds := [], alts := [], laidByText := true, laidKinds := [.handle], laidTests := true, laidLooks := .later }
def JudgeJoinsCardSaid : Prop := Claim7.holds Tryd.pinned (.plain (OpenSpec.ofChange judgeJoinsSpec)) judgeJoinsCard

/-- THE SECOND FORM's CARD OF 'gristmilllaw.JudgeLegal'. -/
def judgeLegalUptoCard : Claim7 := { stood := { row := judgeLegalUptoRow, standIns := [], harness := (true, "393dd0ee3179eace80c24e7cab550b860e25d86ef87c5343551562d36c5e0fff"), looks := true }, kinds := [], alts := [], laidByText := true, laidKinds := [.handle], laidTests := true, laidLooks := .later }
def JudgeLegalUptoCardSaid : Prop := Claim7.holds Tryd.pinned (.plain (OpenSpec.upto judgeLegalSpec)) judgeLegalUptoCard

/-- THE SECOND FORM's CARD OF 'gristmilllaw.JudgeFits'. -/
def judgeFitsUptoCard : Claim7 := { stood := { row := judgeFitsUptoRow, standIns := [], harness := (true, "393dd0ee3179eace80c24e7cab550b860e25d86ef87c5343551562d36c5e0fff"), looks := true }, kinds := [], alts := [], laidByText := true, laidKinds := [.handle], laidTests := true, laidLooks := .later }
def JudgeFitsUptoCardSaid : Prop := Claim7.holds Tryd.pinned (.plain (OpenSpec.upto judgeFitsSpec)) judgeFitsUptoCard

/-- THE SECOND FORM's CARD OF 'gristmillkeep.JudgeJoins'. -/
def judgeJoinsUptoCard : Claim7 := { stood := { row := judgeJoinsUptoRow, standIns := [], harness := (true, "393dd0ee3179eace80c24e7cab550b860e25d86ef87c5343551562d36c5e0fff"), looks := true }, kinds := [], alts := [], laidByText := true, laidKinds := [.handle], laidTests := true, laidLooks := .later }
def JudgeJoinsUptoCardSaid : Prop := Claim7.holds Tryd.pinned (.plain (OpenSpec.upto judgeJoinsSpec)) judgeJoinsUptoCard
end Rows
end Go.Proofs.YtaipanjigindbaaDoor
