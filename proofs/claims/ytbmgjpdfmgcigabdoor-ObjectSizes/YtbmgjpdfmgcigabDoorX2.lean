/- A key's row, as it lies. -/
import Derived.Test.YtbmgjpdfmgcigabDoorX1
import Derived.Test.YtbmgjpdfmgcigabDoorAsz
namespace Go.Proofs.YtbmgjpdfmgcigabDoor.Tab
set_option maxRecDepth 20000
open Go.RowKit
theorem rowL_isL {B : Nat} {w : World} {v : Value} {k : Int} (h : IsL B w v (rowL k 8)) : ∃ b off c, v = .slice (some ⟨b, off, none⟩) 8 c ∧ ∀ i, i < 8 → w.cell? ⟨b, off + i, none⟩ = some (.int .i64 (rowAt k i : Nat)) := by
  rcases h with ⟨h, _⟩ | ⟨b, off, c, hv, _, _, _, hcell, _⟩
  · have := rowL_len k 8; rw [h] at this; simp at this
  · rw [rowL_len] at hv hcell
    exact ⟨b, off, c, hv, fun i hi => by rw [hcell i hi, rowL_at k hi]⟩
end Go.Proofs.YtbmgjpdfmgcigabDoor.Tab
