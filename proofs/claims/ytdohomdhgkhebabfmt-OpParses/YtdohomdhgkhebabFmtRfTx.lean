/- The reference's OpText at every operation that is Right. -/
import Derived.Test.YtdohomdhgkhebabFmtRfT
namespace Go.Proofs.YtdohomdhgkhebabFmt
open Go.RowKit Go.Kit Go.Extern.Stop Go.Stop Go.Extern

theorem RfText_yes (F : Interp) {o k v : Int} (h : Rt o k v) (w : World) (hF : F.told.answers w.tape) (hA : As w) :
    Calls Tryf.prog 13 #[.agg #[.int .i64 o, .int .i64 k, .int .i64 v]] w fun e w' => e = .returned (.tuple #[.string ⟨(txt o k v).toArray⟩, .int .i64 0]) ∧ Below w.heap.size w w' := by
  obtain ⟨j, hj⟩ := Int.eq_ofNat_of_zero_le (show 0 ≤ o - 1 by have := h.w1; omega)
  obtain rfl : o = (j : Int) + 1 := by omega
  by_cases hk : k = 0
  · subst hk
    by_cases hv : v = 0
    · subst hv
      exact text_00 F h w hF hA
    · exact text_01 F h hv w hF hA
  · by_cases hv : v = 0
    · subst hv
      exact text_10 F h hk w hF hA
    · exact text_11 F h hk hv w hF hA
end Go.Proofs.YtdohomdhgkhebabFmt
