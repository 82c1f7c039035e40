/- The names of what is done, in their variable. -/
import Derived.Test.YtdohomdhgkhebabFmtEnv
namespace Go.Proofs.YtdohomdhgkhebabFmt
open Go.RowKit

def Wh (w : World) : Prop := ∀ o : Nat, o ≤ 6 → w.cell? ⟨2, o, none⟩ = some (.string ⟨(nm o).toArray⟩)
theorem Wh.later {w w' : World} (h : Wh w) (hb : Below w.heap.size w w') : Wh w' := fun o ho => by
  have := h o ho
  rw [hb.cell (p := ⟨2, o, none⟩) (World.block_lt_of_cell? w _ this)]
  exact this
end Go.Proofs.YtdohomdhgkhebabFmt
