/- Package op's Fits, by their contracts. -/
import Derived.Test.YtdohomdhgkhebabFmtOpR
namespace Go.Proofs.YtdohomdhgkhebabFmt
open Go.RowKit

theorem Fits_is {c v : Int} (h : Ft c v) (w : World) :
    Calls Tryf.prog 19 #[.agg #[.int .i64 c, .int .i64 v]] w fun e w' => e = .returned (.bool true) ∧ w' = w.alloc (.cells #[.int .i64 c, .int .i64 v] 34) := by
  obtain ⟨h1, h2, h3, h4, h5⟩ := h
  by_cases hc : c = 1
  · subst hc
    clear h5
    go_enter Tryf.func19, Tryf.ntmps19
    go_wp2_with (go_at_call 32; refine (within_yes _ _ _ _ (by omega) (by omega)).mono ?_; rintro e w' ⟨rfl, rfl⟩)
    go_ret
    exact ⟨rfl, rfl⟩
  · obtain rfl : v = 0 := by omega
    clear h5
    go_enter Tryf.func19, Tryf.ntmps19
    go_wp2_with (go_at_call 32; refine (within_yes _ _ _ _ (by omega) (by omega)).mono ?_; rintro e w' ⟨rfl, rfl⟩)
    go_ret
    exact ⟨rfl, rfl⟩

theorem not_ft {c v : Int} (h : ¬ Ft c v) : (c < 1 ∨ 5 < c) ∨ (1 ≤ c ∧ c ≤ 5) ∧ ((v < 0 ∨ 4294967295 < v) ∨ (0 ≤ v ∧ v ≤ 4294967295) ∧ c ≠ 1 ∧ v ≠ 0) := by
  have : ¬ (1 ≤ c ∧ c ≤ 5 ∧ 0 ≤ v ∧ v ≤ 4294967295 ∧ (c = 1 ∨ v = 0)) := fun ⟨a, b, c, d, e⟩ => h ⟨a, b, c, d, e⟩
  omega

theorem not_ft' {c v : Int} (h : ¬ Ft c v) : (c = 1 ∧ (v < 0 ∨ 4294967295 < v)) ∨ (c ≠ 1 ∧ (c < 1 ∨ 5 < c)) ∨ (c ≠ 1 ∧ (1 ≤ c ∧ c ≤ 5) ∧ v ≠ 0) := by
  rcases not_ft h with h | ⟨h, h2 | h2⟩ <;> omega

theorem Fits_isnt {c v : Int} (h : ¬ Ft c v) (w : World) :
    Calls Tryf.prog 19 #[.agg #[.int .i64 c, .int .i64 v]] w fun e w' => e = .returned (.bool false) ∧ w' = w.alloc (.cells #[.int .i64 c, .int .i64 v] 34) := by
  rcases not_ft' h with ⟨rfl, hv⟩ | ⟨hc, h1⟩ | ⟨hc, ⟨h1, h2⟩, hv⟩
  · clear h
    go_enter Tryf.func19, Tryf.ntmps19
    go_wp2_with (go_at_call 32; refine (within_no _ _ _ _ hv).mono ?_; rintro e w' ⟨rfl, rfl⟩)
    go_ret
    exact ⟨rfl, rfl⟩
  · clear h
    go_enter Tryf.func19, Tryf.ntmps19
    go_wp2_with (go_at_call 32; refine (within_no _ _ _ _ h1).mono ?_; rintro e w' ⟨rfl, rfl⟩)
    go_ret
    exact ⟨rfl, rfl⟩
  · clear h
    have hv' : (v == 0) = false := beq_eq_false_iff_ne.2 hv
    go_enter Tryf.func19, Tryf.ntmps19
    go_wp2_with (go_at_call 32; refine (within_yes _ _ _ _ (by omega) (by omega)).mono ?_; rintro e w' ⟨rfl, rfl⟩)
    go_ret
    exact ⟨rfl, rfl⟩

theorem Fits_yes {c v : Int} (h : Ft c v) (w : World) :
    Calls Tryf.prog 19 #[.agg #[.int .i64 c, .int .i64 v]] w fun e w' => e = .returned (.bool true) ∧ Gr w w' :=
  (Fits_is h w).mono fun _ _ ⟨he, hw⟩ => ⟨he, hw ▸ (Gr.refl w).alloc _ _⟩
theorem Fits_no {c v : Int} (h : ¬ Ft c v) (w : World) :
    Calls Tryf.prog 19 #[.agg #[.int .i64 c, .int .i64 v]] w fun e w' => e = .returned (.bool false) ∧ Gr w w' :=
  (Fits_isnt h w).mono fun _ _ ⟨he, hw⟩ => ⟨he, hw ▸ (Gr.refl w).alloc _ _⟩

end Go.Proofs.YtdohomdhgkhebabFmt
