/- An answer's size. -/
import Derived.Test.YtbmgjpdfmgcigabDoorTr
import Derived.Test.YtbmgjpdfmgcigabDoorRows
namespace Go.Proofs.YtbmgjpdfmgcigabDoor.Tab
set_option maxRecDepth 20000
open Go.RowKit

theorem answer_sz : (Tryd.prog.info? 38).map (·.size) = some 2 := by kernel_rfl
theorem answer_st : ∃ fs, Tryd.prog.underlying 38 = some (.struct fs) := ⟨_, Tryd.underlying38⟩
end Go.Proofs.YtbmgjpdfmgcigabDoor.Tab
