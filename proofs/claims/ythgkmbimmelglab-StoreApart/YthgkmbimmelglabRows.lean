/-
  No cell of these rows narrows 'for every input' (looked for: loops, veiled, ifaces, maps, wideKeys, modest, calm, conditions, laid).
  DERIVED. THE GIVEN ROWS OF THIS SEAT. 6 by the template 'for every input the law returns true; each argument reads behind the call as it read before'; 0 by the template 'total and deterministic' (their statements: YthgkmbimmelglabTotals.lean).
  GIVEN WITH THE SEED: the statements are not yours to turn. If you find one false, say at which input.
  Laid BY PROGRAM, IN A SANDBOX (cutbox-rows.mjs): the forced cells as the released guide's own fill.sh prints them over the translation 4c71033203f59264… (all of the seat's roots in one cut). By AI agents, Wed Nov 11 2026. No macro, syntax, notation, axiom, sorry.
-/
import Derived.Test.YthgkmbimmelglabChecked
import GoSem.Claim
import GoSem.ClaimJoined
import GoSem.ClaimMapViews
import Derived.JoinedTies
import Derived.KernelRfl
namespace Go.Proofs.Ythgkmbimmelglab
/- THE CELL 'sum', in the pinned program and in every row, IS THE sha256 OF THE DUMP (.gsa) THAT YthgkmbimmelglabProg.lean LOADS. Nothing in Lean hashes anything: it is a label: what it is worth is what the hold of that sum in a sandbox is worth. -/
noncomputable def Try.pinned : Pinned := { name := "ythgkmbimmelglab", sum := "4c71033203f59264f59e03eb933e9decebe5523d6840f2767e1a7889766ef288", checked := Try.checked }
namespace Rows
def none {H : Type} : Left H := { results := [], args := [] }

/-- 'gristmillkeep.StoreEither': WHATEVER THE INPUT: true; the input reads as it did. -/
def storeEitherSpec : ChangeSpec := { name := "storeEither", fn := fun _ => fun
  | [d1, d2, d3, d4] => { results := [.lit (.bool true)], args := [d1, d2, d3, d4] }
  | _ => none }
def storeEitherRow : OpenClaim := { program := "ythgkmbimmelglab", sum := "4c71033203f59264f59e03eb933e9decebe5523d6840f2767e1a7889766ef288", func := "gristmill/gristmillkeep.StoreEither", spec := "storeEither", apart := false }
def StoreEitherSaid : Prop := storeEitherRow.holds Try.pinned (OpenSpec.ofChange storeEitherSpec)

/-- ITS FALSE NEIGHBOUR: 'it returns false'. Refute it at one input. -/
def storeEitherWrong : ChangeSpec := { name := "storeEither", fn := fun _ => fun
  | [d1, d2, d3, d4] => { results := [.lit (.bool false)], args := [d1, d2, d3, d4] }
  | _ => none }
def StoreEitherWrongFalsely : Prop := storeEitherRow.holds Try.pinned (OpenSpec.ofChange storeEitherWrong)

/-- 'gristmillkeep.StoreWishes': WHATEVER THE INPUT: true; the input reads as it did. -/
def storeWishesSpec : ChangeSpec := { name := "storeWishes", fn := fun _ => fun
  | [d1, d2, d3, d4, d5, d6] => { results := [.lit (.bool true)], args := [d1, d2, d3, d4, d5, d6] }
  | _ => none }
def storeWishesRow : OpenClaim := { program := "ythgkmbimmelglab", sum := "4c71033203f59264f59e03eb933e9decebe5523d6840f2767e1a7889766ef288", func := "gristmill/gristmillkeep.StoreWishes", spec := "storeWishes", apart := false }
def StoreWishesSaid : Prop := storeWishesRow.holds Try.pinned (OpenSpec.ofChange storeWishesSpec)

/-- ITS FALSE NEIGHBOUR: 'it returns false'. Refute it at one input. -/
def storeWishesWrong : ChangeSpec := { name := "storeWishes", fn := fun _ => fun
  | [d1, d2, d3, d4, d5, d6] => { results := [.lit (.bool false)], args := [d1, d2, d3, d4, d5, d6] }
  | _ => none }
def StoreWishesWrongFalsely : Prop := storeWishesRow.holds Try.pinned (OpenSpec.ofChange storeWishesWrong)

/-- 'gristmillkeep.StoreLater': WHATEVER THE INPUT: true; the input reads as it did. -/
def storeLaterSpec : ChangeSpec := { name := "storeLater", fn := fun _ => fun
  | [d1, d2, d3, d4, d5] => { results := [.lit (.bool true)], args := [d1, d2, d3, d4, d5] }
  | _ => none }
def storeLaterRow : OpenClaim := { program := "ythgkmbimmelglab", sum := "4c71033203f59264f59e03eb933e9decebe5523d6840f2767e1a7889766ef288", func := "gristmill/gristmillkeep.StoreLater", spec := "storeLater", apart := false }
def StoreLaterSaid : Prop := storeLaterRow.holds Try.pinned (OpenSpec.ofChange storeLaterSpec)

/-- ITS FALSE NEIGHBOUR: 'it returns false'. Refute it at one input. -/
def storeLaterWrong : ChangeSpec := { name := "storeLater", fn := fun _ => fun
  | [d1, d2, d3, d4, d5] => { results := [.lit (.bool false)], args := [d1, d2, d3, d4, d5] }
  | _ => none }
def StoreLaterWrongFalsely : Prop := storeLaterRow.holds Try.pinned (OpenSpec.ofChange storeLaterWrong)

/-- 'gristmillkeep.StoreApart': WHATEVER THE INPUT: true; the input reads as it did. -/
def storeApartSpec : ChangeSpec := { name := "storeApart", fn := fun _ => fun
  | [d1, d2, d3] => { results := [.lit (.bool true)], args := [d1, d2, d3] }
  | _ => none }
def storeApartRow : OpenClaim := { program := "ythgkmbimmelglab", sum := "4c71033203f59264f59e03eb933e9decebe5523d6840f2767e1a7889766ef288", func := "gristmill/gristmillkeep.StoreApart", spec := "storeApart", apart := false }
def StoreApartSaid : Prop := storeApartRow.holds Try.pinned (OpenSpec.ofChange storeApartSpec)

/-- ITS FALSE NEIGHBOUR: 'it returns false'. Refute it at one input. -/
def storeApartWrong : ChangeSpec := { name := "storeApart", fn := fun _ => fun
  | [d1, d2, d3] => { results := [.lit (.bool false)], args := [d1, d2, d3] }
  | _ => none }
def StoreApartWrongFalsely : Prop := storeApartRow.holds Try.pinned (OpenSpec.ofChange storeApartWrong)

/-- 'gristmillkeep.StoreEvicts': WHATEVER THE INPUT: true; the input reads as it did. -/
def storeEvictsSpec : ChangeSpec := { name := "storeEvicts", fn := fun _ => fun
  | [d1, d2, d3] => { results := [.lit (.bool true)], args := [d1, d2, d3] }
  | _ => none }
def storeEvictsRow : OpenClaim := { program := "ythgkmbimmelglab", sum := "4c71033203f59264f59e03eb933e9decebe5523d6840f2767e1a7889766ef288", func := "gristmill/gristmillkeep.StoreEvicts", spec := "storeEvicts", apart := false }
def StoreEvictsSaid : Prop := storeEvictsRow.holds Try.pinned (OpenSpec.ofChange storeEvictsSpec)

/-- ITS FALSE NEIGHBOUR: 'it returns false'. Refute it at one input. -/
def storeEvictsWrong : ChangeSpec := { name := "storeEvicts", fn := fun _ => fun
  | [d1, d2, d3] => { results := [.lit (.bool false)], args := [d1, d2, d3] }
  | _ => none }
def StoreEvictsWrongFalsely : Prop := storeEvictsRow.holds Try.pinned (OpenSpec.ofChange storeEvictsWrong)

/-- 'gristmillkeep.StoreIdle': WHATEVER THE INPUT: true; the input reads as it did. -/
def storeIdleSpec : ChangeSpec := { name := "storeIdle", fn := fun _ => fun
  | [d1, d2] => { results := [.lit (.bool true)], args := [d1, d2] }
  | _ => none }
def storeIdleRow : OpenClaim := { program := "ythgkmbimmelglab", sum := "4c71033203f59264f59e03eb933e9decebe5523d6840f2767e1a7889766ef288", func := "gristmill/gristmillkeep.StoreIdle", spec := "storeIdle", apart := false }
def StoreIdleSaid : Prop := storeIdleRow.holds Try.pinned (OpenSpec.ofChange storeIdleSpec)

/-- ITS FALSE NEIGHBOUR: 'it returns false'. Refute it at one input. -/
def storeIdleWrong : ChangeSpec := { name := "storeIdle", fn := fun _ => fun
  | [d1, d2] => { results := [.lit (.bool false)], args := [d1, d2] }
  | _ => none }
def StoreIdleWrongFalsely : Prop := storeIdleRow.holds Try.pinned (OpenSpec.ofChange storeIdleWrong)

/- THE SECOND FORM. 'bulk': how many values and letters a reading holds, each counted each time it is reached (what is shared counts as often as it is met; a slice's spare places count too). A statement '..UptoSaid' is the law's where the arguments, and the package variables that the reading takes, are together of bulk at most 1048576: NARROWER than '..Said'. Prove '..Said' where nothing that the law and all that it calls make is longer than what came in: it says more and counts as full. Else prove '..UptoSaid'. A law counts once. -/
mutual
def uptoBulk {H : Type} : DataW H → Nat
  | .lit (.string bytes) => bytes.length + 1
  | .lit _ => 1
  | .nil => 1
  | .ptr d => uptoBulk d + 1
  | .slice elems spare => uptoBulkAll elems + uptoBulkAll spare + 1
  | .agg parts => uptoBulkAll parts + 1
  | .iface _ d => uptoBulk d + 1
  | .map entries => uptoBulkEntries entries + 1
  | .held _ => 1
def uptoBulkAll {H : Type} : List (DataW H) → Nat
  | [] => 0
  | d :: r => uptoBulk d + uptoBulkAll r
def uptoBulkEntries {H : Type} : List (Lit × DataW H) → Nat
  | [] => 0
  | x :: r => uptoBulkEntry x + uptoBulkEntries r
def uptoBulkEntry {H : Type} : Lit × DataW H → Nat
  | (.string bytes, d) => bytes.length + uptoBulk d + 1
  | (_, d) => uptoBulk d + 1
 end
def uptoSmall : (H : Type) → List (DataW H) → Bool := fun _ ds => decide (uptoBulkAll ds ≤ 1048576)
def OpenSpec.upto (s : _root_.Go.ChangeSpec) : _root_.Go.OpenSpec := { _root_.Go.OpenSpec.ofChange s with cond := some uptoSmall }

/-- 'gristmillkeep.StoreEither', WHERE WHAT IT READS IS OF BULK AT MOST 1048576: true; the input reads as it did. -/
def storeEitherUptoRow : OpenClaim := { program := "ythgkmbimmelglab", sum := "4c71033203f59264f59e03eb933e9decebe5523d6840f2767e1a7889766ef288", func := "gristmill/gristmillkeep.StoreEither", spec := "storeEither", apart := false, narrowed := true }
def StoreEitherUptoSaid : Prop := storeEitherUptoRow.holds Try.pinned (OpenSpec.upto storeEitherSpec)

/-- 'gristmillkeep.StoreWishes', WHERE WHAT IT READS IS OF BULK AT MOST 1048576: true; the input reads as it did. -/
def storeWishesUptoRow : OpenClaim := { program := "ythgkmbimmelglab", sum := "4c71033203f59264f59e03eb933e9decebe5523d6840f2767e1a7889766ef288", func := "gristmill/gristmillkeep.StoreWishes", spec := "storeWishes", apart := false, narrowed := true }
def StoreWishesUptoSaid : Prop := storeWishesUptoRow.holds Try.pinned (OpenSpec.upto storeWishesSpec)

/-- 'gristmillkeep.StoreLater', WHERE WHAT IT READS IS OF BULK AT MOST 1048576: true; the input reads as it did. -/
def storeLaterUptoRow : OpenClaim := { program := "ythgkmbimmelglab", sum := "4c71033203f59264f59e03eb933e9decebe5523d6840f2767e1a7889766ef288", func := "gristmill/gristmillkeep.StoreLater", spec := "storeLater", apart := false, narrowed := true }
def StoreLaterUptoSaid : Prop := storeLaterUptoRow.holds Try.pinned (OpenSpec.upto storeLaterSpec)

/-- 'gristmillkeep.StoreApart', WHERE WHAT IT READS IS OF BULK AT MOST 1048576: true; the input reads as it did. -/
def storeApartUptoRow : OpenClaim := { program := "ythgkmbimmelglab", sum := "4c71033203f59264f59e03eb933e9decebe5523d6840f2767e1a7889766ef288", func := "gristmill/gristmillkeep.StoreApart", spec := "storeApart", apart := false, narrowed := true }
def StoreApartUptoSaid : Prop := storeApartUptoRow.holds Try.pinned (OpenSpec.upto storeApartSpec)

/-- 'gristmillkeep.StoreEvicts', WHERE WHAT IT READS IS OF BULK AT MOST 1048576: true; the input reads as it did. -/
def storeEvictsUptoRow : OpenClaim := { program := "ythgkmbimmelglab", sum := "4c71033203f59264f59e03eb933e9decebe5523d6840f2767e1a7889766ef288", func := "gristmill/gristmillkeep.StoreEvicts", spec := "storeEvicts", apart := false, narrowed := true }
def StoreEvictsUptoSaid : Prop := storeEvictsUptoRow.holds Try.pinned (OpenSpec.upto storeEvictsSpec)

/-- 'gristmillkeep.StoreIdle', WHERE WHAT IT READS IS OF BULK AT MOST 1048576: true; the input reads as it did. -/
def storeIdleUptoRow : OpenClaim := { program := "ythgkmbimmelglab", sum := "4c71033203f59264f59e03eb933e9decebe5523d6840f2767e1a7889766ef288", func := "gristmill/gristmillkeep.StoreIdle", spec := "storeIdle", apart := false, narrowed := true }
def StoreIdleUptoSaid : Prop := storeIdleUptoRow.holds Try.pinned (OpenSpec.upto storeIdleSpec)

end Rows
end Go.Proofs.Ythgkmbimmelglab
