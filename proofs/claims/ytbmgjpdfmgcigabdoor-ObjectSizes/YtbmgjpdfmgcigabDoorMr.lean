/- What the reference's queue, stack, deque and heap hand back. -/
import Derived.Test.YtbmgjpdfmgcigabDoorKf
namespace Go.Proofs.YtbmgjpdfmgcigabDoor
set_option maxRecDepth 20000
open Go.RowKit

/-- What the reference has made: the slice (what came in, or a new one) and the answer. -/
def MadeR (w : World) (v : Value) (xs ys : List Int) (c y : Int) (e : Ending) (w' : World) : Prop :=
  ∃ v', e = .returned (.tuple #[v', .agg #[.int .i64 c, .int .i64 y]]) ∧ ((v' = v ∧ ys = xs) ∨ IsL w.heap.size w' v' ys) ∧ Below w.heap.size w w'
/-- The same, the slice a new one. -/
def MadeN (w : World) (ys : List Int) (c y : Int) (e : Ending) (w' : World) : Prop :=
  ∃ v', e = .returned (.tuple #[v', .agg #[.int .i64 c, .int .i64 y]]) ∧ IsL w.heap.size w' v' ys ∧ Below w.heap.size w w'
end Go.Proofs.YtbmgjpdfmgcigabDoor
