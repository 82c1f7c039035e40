/- What an answer takes in memory. -/
import Derived.Test.YtbmgjpdfmgcigaaRows
import Derived.Test.YtbmgjpdfmgcigaaLs
namespace Go.Proofs.Ytbmgjpdfmgcigaa.Tab
open Go.RowKit
theorem answer_size : (Try.prog.info? 25).map (·.size) = some 2 := by kernel_rfl
theorem answer_struct : ∃ fs, Try.prog.underlying 25 = some (.struct fs) := ⟨_, Try.underlying25⟩
end Go.Proofs.Ytbmgjpdfmgcigaa.Tab
