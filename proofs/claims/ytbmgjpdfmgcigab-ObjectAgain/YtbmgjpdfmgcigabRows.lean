/-
  No cell of these rows narrows 'for every input' (looked for: loops, veiled, ifaces, maps, wideKeys, modest, calm, conditions, laid).
  DERIVED. THE GIVEN ROWS OF THIS SEAT. 4 by the template 'for every input the law returns true; each argument reads behind the call as it read before'; 0 by the template 'total and deterministic' (their statements: YtbmgjpdfmgcigabTotals.lean).
  GIVEN WITH THE SEED: the statements are not yours to turn. If you find one false, say at which input.
  Laid BY PROGRAM, IN A SANDBOX (cutbox-rows.mjs): the forced cells as the released guide's own fill.sh prints them over the translation 01da233bd61e2d50… (all of the seat's roots in one cut). By AI agents, Wed Nov 11 2026. No macro, syntax, notation, axiom, sorry.
-/
import Derived.Test.YtbmgjpdfmgcigabChecked
import GoSem.Claim
import GoSem.ClaimJoined
import GoSem.ClaimMapViews
import Derived.JoinedTies
import Derived.KernelRfl
namespace Go.Proofs.Ytbmgjpdfmgcigab
/- THE CELL 'sum', in the pinned program and in every row, IS THE sha256 OF THE DUMP (.gsa) THAT YtbmgjpdfmgcigabProg.lean LOADS. Nothing in Lean hashes anything: it is a label: what it is worth is what the hold of that sum in a sandbox is worth. -/
noncomputable def Try.pinned : Pinned := { name := "ytbmgjpdfmgcigab", sum := "01da233bd61e2d5094549688dec30615ac296ee338a1874676e13f801c2fdf85", checked := Try.checked }
namespace Rows
def none {H : Type} : Left H := { results := [], args := [] }

/-- 'gristmillkeep.ObjectStays': WHATEVER THE INPUT: true; the input reads as it did. -/
def objectStaysSpec : ChangeSpec := { name := "objectStays", fn := fun _ => fun
  | [d1, d2, d3] => { results := [.lit (.bool true)], args := [d1, d2, d3] }
  | _ => none }
def objectStaysRow : OpenClaim := { program := "ytbmgjpdfmgcigab", sum := "01da233bd61e2d5094549688dec30615ac296ee338a1874676e13f801c2fdf85", func := "gristmill/gristmillkeep.ObjectStays", spec := "objectStays", unfollowed := true, recurses := true, apart := false }
def ObjectStaysSaid : Prop := objectStaysRow.holds Try.pinned (OpenSpec.ofChange objectStaysSpec)

/-- ITS FALSE NEIGHBOUR: 'it returns false'. Refute it at one input. -/
def objectStaysWrong : ChangeSpec := { name := "objectStays", fn := fun _ => fun
  | [d1, d2, d3] => { results := [.lit (.bool false)], args := [d1, d2, d3] }
  | _ => none }
def ObjectStaysWrongFalsely : Prop := objectStaysRow.holds Try.pinned (OpenSpec.ofChange objectStaysWrong)

/-- 'gristmillkeep.ObjectSize': WHATEVER THE INPUT: true; the input reads as it did. -/
def objectSizeSpec : ChangeSpec := { name := "objectSize", fn := fun _ => fun
  | [d1, d2, d3] => { results := [.lit (.bool true)], args := [d1, d2, d3] }
  | _ => none }
def objectSizeRow : OpenClaim := { program := "ytbmgjpdfmgcigab", sum := "01da233bd61e2d5094549688dec30615ac296ee338a1874676e13f801c2fdf85", func := "gristmill/gristmillkeep.ObjectSize", spec := "objectSize", unfollowed := true, recurses := true, apart := false }
def ObjectSizeSaid : Prop := objectSizeRow.holds Try.pinned (OpenSpec.ofChange objectSizeSpec)

/-- ITS FALSE NEIGHBOUR: 'it returns false'. Refute it at one input. -/
def objectSizeWrong : ChangeSpec := { name := "objectSize", fn := fun _ => fun
  | [d1, d2, d3] => { results := [.lit (.bool false)], args := [d1, d2, d3] }
  | _ => none }
def ObjectSizeWrongFalsely : Prop := objectSizeRow.holds Try.pinned (OpenSpec.ofChange objectSizeWrong)

/-- 'gristmillkeep.ObjectAgain': WHATEVER THE INPUT: true; the input reads as it did. -/
def objectAgainSpec : ChangeSpec := { name := "objectAgain", fn := fun _ => fun
  | [d1, d2, d3] => { results := [.lit (.bool true)], args := [d1, d2, d3] }
  | _ => none }
def objectAgainRow : OpenClaim := { program := "ytbmgjpdfmgcigab", sum := "01da233bd61e2d5094549688dec30615ac296ee338a1874676e13f801c2fdf85", func := "gristmill/gristmillkeep.ObjectAgain", spec := "objectAgain", unfollowed := true, recurses := true, apart := false }
def ObjectAgainSaid : Prop := objectAgainRow.holds Try.pinned (OpenSpec.ofChange objectAgainSpec)

/-- ITS FALSE NEIGHBOUR: 'it returns false'. Refute it at one input. -/
def objectAgainWrong : ChangeSpec := { name := "objectAgain", fn := fun _ => fun
  | [d1, d2, d3] => { results := [.lit (.bool false)], args := [d1, d2, d3] }
  | _ => none }
def ObjectAgainWrongFalsely : Prop := objectAgainRow.holds Try.pinned (OpenSpec.ofChange objectAgainWrong)

/-- 'gristmillkeep.ObjectWrong': WHATEVER THE INPUT: true; the input reads as it did. -/
def objectWrongSpec : ChangeSpec := { name := "objectWrong", fn := fun _ => fun
  | [d1, d2, d3] => { results := [.lit (.bool true)], args := [d1, d2, d3] }
  | _ => none }
def objectWrongRow : OpenClaim := { program := "ytbmgjpdfmgcigab", sum := "01da233bd61e2d5094549688dec30615ac296ee338a1874676e13f801c2fdf85", func := "gristmill/gristmillkeep.ObjectWrong", spec := "objectWrong", unfollowed := true, recurses := true, apart := false }
def ObjectWrongSaid : Prop := objectWrongRow.holds Try.pinned (OpenSpec.ofChange objectWrongSpec)

/-- ITS FALSE NEIGHBOUR: 'it returns false'. Refute it at one input. -/
def objectWrongWrong : ChangeSpec := { name := "objectWrong", fn := fun _ => fun
  | [d1, d2, d3] => { results := [.lit (.bool false)], args := [d1, d2, d3] }
  | _ => none }
def ObjectWrongWrongFalsely : Prop := objectWrongRow.holds Try.pinned (OpenSpec.ofChange objectWrongWrong)

/- THE SECOND FORM. 'bulk': how many values and letters a reading holds, each counted each time it is reached (what is shared counts as often as it is met; a slice's spare places count too). A statement '..UptoSaid' is the law's where the arguments, and the package variables that the reading takes, are together of bulk at most 1048576: NARROWER than '..Said'. Prove '..Said' where nothing that the law and all that it calls make is longer than what came in: it says more and counts as full. Else prove '..UptoSaid'. A law counts once. -/
mutual
def uptoBulk {H : Type} : DataW H → Nat
  | .lit (.string bytes) => bytes.length + 1
  | .lit _ => 1
  | .nil => 1
  | .ptr d => uptoBulk d + 1
  | .slice elems spare => uptoBulkAll elems + uptoBulkAll spare + 1
  | .agg parts => uptoBulkAll parts + 1
  | .iface _ d => uptoBulk d + 1
  | .map entries => uptoBulkEntries entries + 1
  | .held _ => 1
def uptoBulkAll {H : Type} : List (DataW H) → Nat
  | [] => 0
  | d :: r => uptoBulk d + uptoBulkAll r
def uptoBulkEntries {H : Type} : List (Lit × DataW H) → Nat
  | [] => 0
  | x :: r => uptoBulkEntry x + uptoBulkEntries r
def uptoBulkEntry {H : Type} : Lit × DataW H → Nat
  | (.string bytes, d) => bytes.length + uptoBulk d + 1
  | (_, d) => uptoBulk d + 1
 end
def uptoSmall : (H : Type) → List (DataW H) → Bool := fun _ ds => decide (uptoBulkAll ds ≤ 1048576)
def OpenSpec.upto (s : _root_.Go.ChangeSpec) : _root_.Go.OpenSpec := { _root_.Go.OpenSpec.ofChange s with cond := some uptoSmall }

/-- 'gristmillkeep.ObjectStays', WHERE WHAT IT READS IS OF BULK AT MOST 1048576: true; the input reads as it did. -/
def objectStaysUptoRow : OpenClaim := { program := "ytbmgjpdfmgcigab", sum := "01da233bd61e2d5094549688dec30615ac296ee338a1874676e13f801c2fdf85", func := "gristmill/gristmillkeep.ObjectStays", spec := "objectStays", unfollowed := true, recurses := true, apart := false, narrowed := true }
def ObjectStaysUptoSaid : Prop := objectStaysUptoRow.holds Try.pinned (OpenSpec.upto objectStaysSpec)

/-- 'gristmillkeep.ObjectSize', WHERE WHAT IT READS IS OF BULK AT MOST 1048576: true; the input reads as it did. -/
def objectSizeUptoRow : OpenClaim := { program := "ytbmgjpdfmgcigab", sum := "01da233bd61e2d5094549688dec30615ac296ee338a1874676e13f801c2fdf85", func := "gristmill/gristmillkeep.ObjectSize", spec := "objectSize", unfollowed := true, recurses := true, apart := false, narrowed := true }
def ObjectSizeUptoSaid : Prop := objectSizeUptoRow.holds Try.pinned (OpenSpec.upto objectSizeSpec)

/-- 'gristmillkeep.ObjectAgain', WHERE WHAT IT READS IS OF BULK AT MOST 1048576: true; the input reads as it did. -/
def objectAgainUptoRow : OpenClaim := { program := "ytbmgjpdfmgcigab", sum := "01da233bd61e2d5094549688dec30615ac296ee338a1874676e13f801c2fdf85", func := "gristmill/gristmillkeep.ObjectAgain", spec := "objectAgain", unfollowed := true, recurses := true, apart := false, narrowed := true }
def ObjectAgainUptoSaid : Prop := objectAgainUptoRow.holds Try.pinned (OpenSpec.upto objectAgainSpec)

/-- 'gristmillkeep.ObjectWrong', WHERE WHAT IT READS IS OF BULK AT MOST 1048576: true; the input reads as it did. -/
def objectWrongUptoRow : OpenClaim := { program := "ytbmgjpdfmgcigab", sum := "01da233bd61e2d5094549688dec30615ac296ee338a1874676e13f801c2fdf85", func := "gristmill/gristmillkeep.ObjectWrong", spec := "objectWrong", unfollowed := true, recurses := true, apart := false, narrowed := true }
def ObjectWrongUptoSaid : Prop := objectWrongUptoRow.holds Try.pinned (OpenSpec.upto objectWrongSpec)

end Rows
end Go.Proofs.Ytbmgjpdfmgcigab
