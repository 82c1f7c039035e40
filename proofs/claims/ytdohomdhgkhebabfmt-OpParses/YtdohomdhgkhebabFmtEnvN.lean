/- The library's two errors of numbers, in their variables. -/
import Derived.Test.YtdohomdhgkhebabFmtEnv
namespace Go.Proofs.YtdohomdhgkhebabFmt
open Go.RowKit

def Sy (w : World) : Prop := ∃ tp p, w.var? Tryf.prog "strconv.ErrSyntax" = some #[.iface tp p]
def Rg (w : World) : Prop := ∃ tp p, w.var? Tryf.prog "strconv.ErrRange" = some #[.iface tp p]
theorem Sy.later {w w' : World} (h : Sy w) (hb : Below w.heap.size w w') : Sy w' := by
  obtain ⟨tp, p, h⟩ := h
  have hg : Tryf.prog.globalNamed "strconv.ErrSyntax" = some 6 := by kernel_rfl
  exact ⟨tp, p, var?_below hb hg (var_lt hg h) h⟩
theorem Rg.later {w w' : World} (h : Rg w) (hb : Below w.heap.size w w') : Rg w' := by
  obtain ⟨tp, p, h⟩ := h
  have hg : Tryf.prog.globalNamed "strconv.ErrRange" = some 7 := by kernel_rfl
  exact ⟨tp, p, var?_below hb hg (var_lt hg h) h⟩
end Go.Proofs.YtdohomdhgkhebabFmt
