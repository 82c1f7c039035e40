/- Package op's Fits, by its contract. -/
import Derived.Test.YtbmgjpdfmgcigabRp
import Derived.Test.YtbmgjpdfmgcigabTm
namespace Go.Proofs.Ytbmgjpdfmgcigab.Tab
open Go.RowKit

theorem Fits_is {c v : Int} (h1 : 1 ≤ c) (h2 : c ≤ 5) (h3 : 0 ≤ v) (h4 : v ≤ 4294967295) (h5 : c ≠ 1 → v = 0) (w : World) :
    Calls Try.prog 13 #[.agg #[.int .i64 c, .int .i64 v]] w fun e w' => e = .returned (.bool true) ∧ Below w.heap.size w w' := by
  by_cases hc : c = 1
  · subst hc
    clear h5
    go_enter Try.func13, Try.ntmps13
    go_wp2_with (go_at_call 17; refine (within_yes _ _ _ _ (by omega) (by omega)).mono ?_; rintro e w' ⟨rfl, rfl⟩)
    go_ret
    exact ⟨rfl, new_below _ _⟩
  · obtain rfl : v = 0 := h5 hc
    clear h5
    go_enter Try.func13, Try.ntmps13
    go_wp2_with (go_at_call 17; refine (within_yes _ _ _ _ (by omega) (by omega)).mono ?_; rintro e w' ⟨rfl, rfl⟩)
    go_ret
    exact ⟨rfl, new_below _ _⟩
end Go.Proofs.Ytbmgjpdfmgcigab.Tab
