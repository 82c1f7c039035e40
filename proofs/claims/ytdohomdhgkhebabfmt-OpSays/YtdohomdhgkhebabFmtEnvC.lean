/- The names of what comes of it, in their variable. -/
import Derived.Test.YtdohomdhgkhebabFmtEnv
namespace Go.Proofs.YtdohomdhgkhebabFmt
open Go.RowKit

def Cd (w : World) : Prop := ∀ o : Nat, o ≤ 5 → w.cell? ⟨0, o, none⟩ = some (.string ⟨(cnm o).toArray⟩)
theorem Cd.later {w w' : World} (h : Cd w) (hb : Below w.heap.size w w') : Cd w' := fun o ho => by
  have := h o ho
  rw [hb.cell (p := ⟨0, o, none⟩) (World.block_lt_of_cell? w _ this)]
  exact this
end Go.Proofs.YtdohomdhgkhebabFmt
