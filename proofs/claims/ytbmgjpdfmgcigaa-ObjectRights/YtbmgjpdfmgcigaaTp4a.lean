/- What slots take in memory. -/
import Derived.Test.YtbmgjpdfmgcigaaTp3
namespace Go.Proofs.Ytbmgjpdfmgcigaa.Tab
open Go.RowKit
theorem slots_size2 (t : Tb) : (Try.prog.info? 63).map (·.size) = some t.all.toArray.size := by rw [List.size_toArray]; exact slots_size t
end Go.Proofs.Ytbmgjpdfmgcigaa.Tab
