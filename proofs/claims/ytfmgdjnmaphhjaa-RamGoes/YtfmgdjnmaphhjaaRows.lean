/-
  No cell of these rows narrows 'for every input' (looked for: loops, veiled, ifaces, maps, wideKeys, modest, calm, conditions, laid).
  DERIVED. THE GIVEN ROWS OF THIS SEAT. 2 by the template 'for every input the law returns true; each argument reads behind the call as it read before'; 0 by the template 'total and deterministic' (their statements: YtfmgdjnmaphhjaaTotals.lean).
  GIVEN WITH THE SEED: the statements are not yours to turn. If you find one false, say at which input.
  Laid BY PROGRAM, IN A SANDBOX (cutbox-rows.mjs): the forced cells as the released guide's own fill.sh prints them over the translation 6dfaf3674424206c… (all of the seat's roots in one cut). By AI agents, Wed Nov 11 2026. No macro, syntax, notation, axiom, sorry.
-/
import Derived.Test.YtfmgdjnmaphhjaaChecked
import GoSem.Claim
import GoSem.ClaimJoined
import GoSem.ClaimMapViews
import Derived.JoinedTies
import Derived.KernelRfl
namespace Go.Proofs.Ytfmgdjnmaphhjaa
/- THE CELL 'sum', in the pinned program and in every row, IS THE sha256 OF THE DUMP (.gsa) THAT YtfmgdjnmaphhjaaProg.lean LOADS. Nothing in Lean hashes anything: it is a label: what it is worth is what the hold of that sum in a sandbox is worth. -/
noncomputable def Try.pinned : Pinned := { name := "ytfmgdjnmaphhjaa", sum := "6dfaf3674424206c251c4551aaab320271222f703f4d9d474efe44ca6a592db8", checked := Try.checked }
namespace Rows
def none {H : Type} : Left H := { results := [], args := [] }

/-- 'gristmillkeep.RamSwaps': WHATEVER THE INPUT: true; the input reads as it did. -/
def ramSwapsSpec : ChangeSpec := { name := "ramSwaps", fn := fun _ => fun
  | [d1, d2, d3, d4, d5] => { results := [.lit (.bool true)], args := [d1, d2, d3, d4, d5] }
  | _ => none }
def ramSwapsRow : OpenClaim := { program := "ytfmgdjnmaphhjaa", sum := "6dfaf3674424206c251c4551aaab320271222f703f4d9d474efe44ca6a592db8", func := "gristmill/gristmillkeep.RamSwaps", spec := "ramSwaps", apart := false }
def RamSwapsSaid : Prop := ramSwapsRow.holds Try.pinned (OpenSpec.ofChange ramSwapsSpec)

/-- ITS FALSE NEIGHBOUR: 'it returns false'. Refute it at one input. -/
def ramSwapsWrong : ChangeSpec := { name := "ramSwaps", fn := fun _ => fun
  | [d1, d2, d3, d4, d5] => { results := [.lit (.bool false)], args := [d1, d2, d3, d4, d5] }
  | _ => none }
def RamSwapsWrongFalsely : Prop := ramSwapsRow.holds Try.pinned (OpenSpec.ofChange ramSwapsWrong)

/-- 'gristmillkeep.RamGoes': WHATEVER THE INPUT: true; the input reads as it did. -/
def ramGoesSpec : ChangeSpec := { name := "ramGoes", fn := fun _ => fun
  | [d1, d2] => { results := [.lit (.bool true)], args := [d1, d2] }
  | _ => none }
def ramGoesRow : OpenClaim := { program := "ytfmgdjnmaphhjaa", sum := "6dfaf3674424206c251c4551aaab320271222f703f4d9d474efe44ca6a592db8", func := "gristmill/gristmillkeep.RamGoes", spec := "ramGoes", apart := false }
def RamGoesSaid : Prop := ramGoesRow.holds Try.pinned (OpenSpec.ofChange ramGoesSpec)

/-- ITS FALSE NEIGHBOUR: 'it returns false'. Refute it at one input. -/
def ramGoesWrong : ChangeSpec := { name := "ramGoes", fn := fun _ => fun
  | [d1, d2] => { results := [.lit (.bool false)], args := [d1, d2] }
  | _ => none }
def RamGoesWrongFalsely : Prop := ramGoesRow.holds Try.pinned (OpenSpec.ofChange ramGoesWrong)

/- THE SECOND FORM. 'bulk': how many values and letters a reading holds, each counted each time it is reached (what is shared counts as often as it is met; a slice's spare places count too). A statement '..UptoSaid' is the law's where the arguments, and the package variables that the reading takes, are together of bulk at most 1048576: NARROWER than '..Said'. Prove '..Said' where nothing that the law and all that it calls make is longer than what came in: it says more and counts as full. Else prove '..UptoSaid'. A law counts once. -/
mutual
def uptoBulk {H : Type} : DataW H → Nat
  | .lit (.string bytes) => bytes.length + 1
  | .lit _ => 1
  | .nil => 1
  | .ptr d => uptoBulk d + 1
  | .slice elems spare => uptoBulkAll elems + uptoBulkAll spare + 1
  | .agg parts => uptoBulkAll parts + 1
  | .iface _ d => uptoBulk d + 1
  | .map entries => uptoBulkEntries entries + 1
  | .held _ => 1
def uptoBulkAll {H : Type} : List (DataW H) → Nat
  | [] => 0
  | d :: r => uptoBulk d + uptoBulkAll r
def uptoBulkEntries {H : Type} : List (Lit × DataW H) → Nat
  | [] => 0
  | x :: r => uptoBulkEntry x + uptoBulkEntries r
def uptoBulkEntry {H : Type} : Lit × DataW H → Nat
  | (.string bytes, d) => bytes.length + uptoBulk d + 1
  | (_, d) => uptoBulk d + 1
 end
def uptoSmall : (H : Type) → List (DataW H) → Bool := fun _ ds => decide (uptoBulkAll ds ≤ 1048576)
def OpenSpec.upto (s : _root_.Go.ChangeSpec) : _root_.Go.OpenSpec := { _root_.Go.OpenSpec.ofChange s with cond := some uptoSmall }

/-- 'gristmillkeep.RamSwaps', WHERE WHAT IT READS IS OF BULK AT MOST 1048576: true; the input reads as it did. -/
def ramSwapsUptoRow : OpenClaim := { program := "ytfmgdjnmaphhjaa", sum := "6dfaf3674424206c251c4551aaab320271222f703f4d9d474efe44ca6a592db8", func := "gristmill/gristmillkeep.RamSwaps", spec := "ramSwaps", apart := false, narrowed := true }
def RamSwapsUptoSaid : Prop := ramSwapsUptoRow.holds Try.pinned (OpenSpec.upto ramSwapsSpec)

/-- 'gristmillkeep.RamGoes', WHERE WHAT IT READS IS OF BULK AT MOST 1048576: true; the input reads as it did. -/
def ramGoesUptoRow : OpenClaim := { program := "ytfmgdjnmaphhjaa", sum := "6dfaf3674424206c251c4551aaab320271222f703f4d9d474efe44ca6a592db8", func := "gristmill/gristmillkeep.RamGoes", spec := "ramGoes", apart := false, narrowed := true }
def RamGoesUptoSaid : Prop := ramGoesUptoRow.holds Try.pinned (OpenSpec.upto ramGoesSpec)

end Rows
end Go.Proofs.Ytfmgdjnmaphhjaa
