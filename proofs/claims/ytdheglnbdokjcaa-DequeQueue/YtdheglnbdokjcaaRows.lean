/-
  No cell of these rows narrows 'for every input' (looked for: loops, veiled, ifaces, maps, wideKeys, modest, calm, conditions, laid).
  DERIVED. THE GIVEN ROWS OF THIS SEAT. 5 by the template 'for every input the law returns true; each argument reads behind the call as it read before'; 0 by the template 'total and deterministic' (their statements: YtdheglnbdokjcaaTotals.lean).
  GIVEN WITH THE SEED: the statements are not yours to turn. If you find one false, say at which input.
  Laid BY PROGRAM, IN A SANDBOX (cutbox-rows.mjs): the forced cells as the released guide's own fill.sh prints them over the translation 68285e2e94fdf981… (all of the seat's roots in one cut). By AI agents, Wed Nov 11 2026. No macro, syntax, notation, axiom, sorry.
-/
import Derived.Test.YtdheglnbdokjcaaChecked
import GoSem.Claim
import GoSem.ClaimJoined
import GoSem.ClaimMapViews
import Derived.JoinedTies
import Derived.KernelRfl
namespace Go.Proofs.Ytdheglnbdokjcaa
/- THE CELL 'sum', in the pinned program and in every row, IS THE sha256 OF THE DUMP (.gsa) THAT YtdheglnbdokjcaaProg.lean LOADS. Nothing in Lean hashes anything: it is a label: what it is worth is what the hold of that sum in a sandbox is worth. -/
noncomputable def Try.pinned : Pinned := { name := "ytdheglnbdokjcaa", sum := "68285e2e94fdf9819d516f580dcfb87543ea9559b90509add3b38569023a2af6", checked := Try.checked }
namespace Rows
def none {H : Type} : Left H := { results := [], args := [] }

/-- 'gristmilllaw.DequeDoes': WHATEVER THE INPUT: true; the input reads as it did. -/
def dequeDoesSpec : ChangeSpec := { name := "dequeDoes", fn := fun _ => fun
  | [d1, d2] => { results := [.lit (.bool true)], args := [d1, d2] }
  | _ => none }
def dequeDoesRow : OpenClaim := { program := "ytdheglnbdokjcaa", sum := "68285e2e94fdf9819d516f580dcfb87543ea9559b90509add3b38569023a2af6", func := "gristmill/gristmilllaw.DequeDoes", spec := "dequeDoes", apart := false }
def DequeDoesSaid : Prop := dequeDoesRow.holds Try.pinned (OpenSpec.ofChange dequeDoesSpec)

/-- ITS FALSE NEIGHBOUR: 'it returns false'. Refute it at one input. -/
def dequeDoesWrong : ChangeSpec := { name := "dequeDoes", fn := fun _ => fun
  | [d1, d2] => { results := [.lit (.bool false)], args := [d1, d2] }
  | _ => none }
def DequeDoesWrongFalsely : Prop := dequeDoesRow.holds Try.pinned (OpenSpec.ofChange dequeDoesWrong)

/-- 'gristmillkeep.DequeTurns': WHATEVER THE INPUT: true; the input reads as it did. -/
def dequeTurnsSpec : ChangeSpec := { name := "dequeTurns", fn := fun _ => fun
  | [d1, d2, d3, d4] => { results := [.lit (.bool true)], args := [d1, d2, d3, d4] }
  | _ => none }
def dequeTurnsRow : OpenClaim := { program := "ytdheglnbdokjcaa", sum := "68285e2e94fdf9819d516f580dcfb87543ea9559b90509add3b38569023a2af6", func := "gristmill/gristmillkeep.DequeTurns", spec := "dequeTurns", apart := false }
def DequeTurnsSaid : Prop := dequeTurnsRow.holds Try.pinned (OpenSpec.ofChange dequeTurnsSpec)

/-- ITS FALSE NEIGHBOUR: 'it returns false'. Refute it at one input. -/
def dequeTurnsWrong : ChangeSpec := { name := "dequeTurns", fn := fun _ => fun
  | [d1, d2, d3, d4] => { results := [.lit (.bool false)], args := [d1, d2, d3, d4] }
  | _ => none }
def DequeTurnsWrongFalsely : Prop := dequeTurnsRow.holds Try.pinned (OpenSpec.ofChange dequeTurnsWrong)

/-- 'gristmillkeep.DequeQueue': WHATEVER THE INPUT: true; the input reads as it did. -/
def dequeQueueSpec : ChangeSpec := { name := "dequeQueue", fn := fun _ => fun
  | [d1, d2] => { results := [.lit (.bool true)], args := [d1, d2] }
  | _ => none }
def dequeQueueRow : OpenClaim := { program := "ytdheglnbdokjcaa", sum := "68285e2e94fdf9819d516f580dcfb87543ea9559b90509add3b38569023a2af6", func := "gristmill/gristmillkeep.DequeQueue", spec := "dequeQueue", apart := false }
def DequeQueueSaid : Prop := dequeQueueRow.holds Try.pinned (OpenSpec.ofChange dequeQueueSpec)

/-- ITS FALSE NEIGHBOUR: 'it returns false'. Refute it at one input. -/
def dequeQueueWrong : ChangeSpec := { name := "dequeQueue", fn := fun _ => fun
  | [d1, d2] => { results := [.lit (.bool false)], args := [d1, d2] }
  | _ => none }
def DequeQueueWrongFalsely : Prop := dequeQueueRow.holds Try.pinned (OpenSpec.ofChange dequeQueueWrong)

/-- 'gristmillkeep.DequeStack': WHATEVER THE INPUT: true; the input reads as it did. -/
def dequeStackSpec : ChangeSpec := { name := "dequeStack", fn := fun _ => fun
  | [d1, d2] => { results := [.lit (.bool true)], args := [d1, d2] }
  | _ => none }
def dequeStackRow : OpenClaim := { program := "ytdheglnbdokjcaa", sum := "68285e2e94fdf9819d516f580dcfb87543ea9559b90509add3b38569023a2af6", func := "gristmill/gristmillkeep.DequeStack", spec := "dequeStack", apart := false }
def DequeStackSaid : Prop := dequeStackRow.holds Try.pinned (OpenSpec.ofChange dequeStackSpec)

/-- ITS FALSE NEIGHBOUR: 'it returns false'. Refute it at one input. -/
def dequeStackWrong : ChangeSpec := { name := "dequeStack", fn := fun _ => fun
  | [d1, d2] => { results := [.lit (.bool false)], args := [d1, d2] }
  | _ => none }
def DequeStackWrongFalsely : Prop := dequeStackRow.holds Try.pinned (OpenSpec.ofChange dequeStackWrong)

/-- 'gristmillkeep.DequeBack': WHATEVER THE INPUT: true; the input reads as it did. -/
def dequeBackSpec : ChangeSpec := { name := "dequeBack", fn := fun _ => fun
  | [d1, d2, d3] => { results := [.lit (.bool true)], args := [d1, d2, d3] }
  | _ => none }
def dequeBackRow : OpenClaim := { program := "ytdheglnbdokjcaa", sum := "68285e2e94fdf9819d516f580dcfb87543ea9559b90509add3b38569023a2af6", func := "gristmill/gristmillkeep.DequeBack", spec := "dequeBack", apart := false }
def DequeBackSaid : Prop := dequeBackRow.holds Try.pinned (OpenSpec.ofChange dequeBackSpec)

/-- ITS FALSE NEIGHBOUR: 'it returns false'. Refute it at one input. -/
def dequeBackWrong : ChangeSpec := { name := "dequeBack", fn := fun _ => fun
  | [d1, d2, d3] => { results := [.lit (.bool false)], args := [d1, d2, d3] }
  | _ => none }
def DequeBackWrongFalsely : Prop := dequeBackRow.holds Try.pinned (OpenSpec.ofChange dequeBackWrong)

/- THE SECOND FORM. 'bulk': how many values and letters a reading holds, each counted each time it is reached (what is shared counts as often as it is met; a slice's spare places count too). A statement '..UptoSaid' is the law's where the arguments, and the package variables that the reading takes, are together of bulk at most 1048576: NARROWER than '..Said'. Prove '..Said' where nothing that the law and all that it calls make is longer than what came in: it says more and counts as full. Else prove '..UptoSaid'. A law counts once. -/
mutual
def uptoBulk {H : Type} : DataW H → Nat
  | .lit (.string bytes) => bytes.length + 1
  | .lit _ => 1
  | .nil => 1
  | .ptr d => uptoBulk d + 1
  | .slice elems spare => uptoBulkAll elems + uptoBulkAll spare + 1
  | .agg parts => uptoBulkAll parts + 1
  | .iface _ d => uptoBulk d + 1
  | .map entries => uptoBulkEntries entries + 1
  | .held _ => 1
def uptoBulkAll {H : Type} : List (DataW H) → Nat
  | [] => 0
  | d :: r => uptoBulk d + uptoBulkAll r
def uptoBulkEntries {H : Type} : List (Lit × DataW H) → Nat
  | [] => 0
  | x :: r => uptoBulkEntry x + uptoBulkEntries r
def uptoBulkEntry {H : Type} : Lit × DataW H → Nat
  | (.string bytes, d) => bytes.length + uptoBulk d + 1
  | (_, d) => uptoBulk d + 1
 end
def uptoSmall : (H : Type) → List (DataW H) → Bool := fun _ ds => decide (uptoBulkAll ds ≤ 1048576)
def OpenSpec.upto (s : _root_.Go.ChangeSpec) : _root_.Go.OpenSpec := { _root_.Go.OpenSpec.ofChange s with cond := some uptoSmall }

/-- 'gristmilllaw.DequeDoes', WHERE WHAT IT READS IS OF BULK AT MOST 1048576: true; the input reads as it did. -/
def dequeDoesUptoRow : OpenClaim := { program := "ytdheglnbdokjcaa", sum := "68285e2e94fdf9819d516f580dcfb87543ea9559b90509add3b38569023a2af6", func := "gristmill/gristmilllaw.DequeDoes", spec := "dequeDoes", apart := false, narrowed := true }
def DequeDoesUptoSaid : Prop := dequeDoesUptoRow.holds Try.pinned (OpenSpec.upto dequeDoesSpec)

/-- 'gristmillkeep.DequeTurns', WHERE WHAT IT READS IS OF BULK AT MOST 1048576: true; the input reads as it did. -/
def dequeTurnsUptoRow : OpenClaim := { program := "ytdheglnbdokjcaa", sum := "68285e2e94fdf9819d516f580dcfb87543ea9559b90509add3b38569023a2af6", func := "gristmill/gristmillkeep.DequeTurns", spec := "dequeTurns", apart := false, narrowed := true }
def DequeTurnsUptoSaid : Prop := dequeTurnsUptoRow.holds Try.pinned (OpenSpec.upto dequeTurnsSpec)

/-- 'gristmillkeep.DequeQueue', WHERE WHAT IT READS IS OF BULK AT MOST 1048576: true; the input reads as it did. -/
def dequeQueueUptoRow : OpenClaim := { program := "ytdheglnbdokjcaa", sum := "68285e2e94fdf9819d516f580dcfb87543ea9559b90509add3b38569023a2af6", func := "gristmill/gristmillkeep.DequeQueue", spec := "dequeQueue", apart := false, narrowed := true }
def DequeQueueUptoSaid : Prop := dequeQueueUptoRow.holds Try.pinned (OpenSpec.upto dequeQueueSpec)

/-- 'gristmillkeep.DequeStack', WHERE WHAT IT READS IS OF BULK AT MOST 1048576: true; the input reads as it did. -/
def dequeStackUptoRow : OpenClaim := { program := "ytdheglnbdokjcaa", sum := "68285e2e94fdf9819d516f580dcfb87543ea9559b90509add3b38569023a2af6", func := "gristmill/gristmillkeep.DequeStack", spec := "dequeStack", apart := false, narrowed := true }
def DequeStackUptoSaid : Prop := dequeStackUptoRow.holds Try.pinned (OpenSpec.upto dequeStackSpec)

/-- 'gristmillkeep.DequeBack', WHERE WHAT IT READS IS OF BULK AT MOST 1048576: true; the input reads as it did. -/
def dequeBackUptoRow : OpenClaim := { program := "ytdheglnbdokjcaa", sum := "68285e2e94fdf9819d516f580dcfb87543ea9559b90509add3b38569023a2af6", func := "gristmill/gristmillkeep.DequeBack", spec := "dequeBack", apart := false, narrowed := true }
def DequeBackUptoSaid : Prop := dequeBackUptoRow.holds Try.pinned (OpenSpec.upto dequeBackSpec)

end Rows
end Go.Proofs.Ytdheglnbdokjcaa
