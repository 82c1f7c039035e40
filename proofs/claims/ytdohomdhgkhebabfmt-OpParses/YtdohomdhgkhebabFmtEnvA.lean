/- The library's table of blanks, in its variable. -/
import Derived.Test.YtdohomdhgkhebabFmtEnv
import Derived.Lib.Space
namespace Go.Proofs.YtdohomdhgkhebabFmt
open Go.RowKit

def As (w : World) : Prop := Lib.TabIs Tryf.prog w "strings.asciiSpace" .u8 Lib.asciiSpaceTab
theorem As.later {w w' : World} (h : As w) (hb : Below w.heap.size w w') : As w' := by
  have hg : Tryf.prog.globalNamed "strings.asciiSpace" = some 1 := by kernel_rfl
  exact var?_below hb hg (var_lt hg h) h
end Go.Proofs.YtdohomdhgkhebabFmt
