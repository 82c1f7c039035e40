/- The reference's within and OpRight, by their contracts. -/
import Derived.Test.YtdohomdhgkhebabFmtOpR
namespace Go.Proofs.YtdohomdhgkhebabFmt
open Go.RowKit

theorem rwithin_yes (n a b : Int) (w : World) (h1 : a ≤ n) (h2 : n ≤ b) :
    Calls Tryf.prog 26 #[.int .i64 n, .int .i64 a, .int .i64 b] w fun e w' => e = .returned (.bool true) ∧ w' = w := by
  go_enter Tryf.func26, Tryf.ntmps26
  go_wp2
  go_ret
  exact ⟨rfl, rfl⟩

theorem rwithin_no (n a b : Int) (w : World) (h : n < a ∨ b < n) :
    Calls Tryf.prog 26 #[.int .i64 n, .int .i64 a, .int .i64 b] w fun e w' => e = .returned (.bool false) ∧ w' = w := by
  by_cases h1 : a ≤ n
  · have h2 : ¬ n ≤ b := by omega
    clear h
    go_enter Tryf.func26, Tryf.ntmps26
    go_wp2
    go_ret
    exact ⟨rfl, rfl⟩
  · clear h
    go_enter Tryf.func26, Tryf.ntmps26
    go_wp2
    go_ret
    exact ⟨rfl, rfl⟩

theorem RfRight_is {o k v : Int} (h : Rt o k v) (w : World) :
    Calls Tryf.prog 27 #[.agg #[.int .i64 o, .int .i64 k, .int .i64 v]] w fun e w' => e = .returned (.bool true) ∧ w' = w.alloc (.cells #[.int .i64 o, .int .i64 k, .int .i64 v] 23) := by
  obtain ⟨h1, h2, h3, h4, h5, h6⟩ := h
  go_enter Tryf.func27, Tryf.ntmps27
  go_wp2_with (go_at_call 26; refine (rwithin_yes _ _ _ _ (by omega) (by omega)).mono ?_; rintro e w' ⟨rfl, rfl⟩)
  go_ret
  exact ⟨rfl, rfl⟩

theorem RfRight_isnt {o k v : Int} (h : ¬ Rt o k v) (w : World) :
    Calls Tryf.prog 27 #[.agg #[.int .i64 o, .int .i64 k, .int .i64 v]] w fun e w' => e = .returned (.bool false) ∧ w' = w.alloc (.cells #[.int .i64 o, .int .i64 k, .int .i64 v] 23) := by
  rcases not_rt h with h1 | ⟨⟨h1, h2⟩, h3 | ⟨⟨h3, h4⟩, h5⟩⟩
  · clear h
    go_enter Tryf.func27, Tryf.ntmps27
    go_wp2_with (go_at_call 26; refine (rwithin_no _ _ _ _ (by omega)).mono ?_; rintro e w' ⟨rfl, rfl⟩)
    go_ret
    exact ⟨rfl, rfl⟩
  · clear h
    go_enter Tryf.func27, Tryf.ntmps27
    go_wp2_with fail
    refine (rwithin_yes _ _ _ _ h1 h2).mono ?_
    rintro e w' ⟨rfl, rfl⟩
    go_wp2_with fail
    refine (rwithin_no _ _ _ _ h3).mono ?_
    rintro e w' ⟨rfl, rfl⟩
    go_wp2
    go_ret
    exact ⟨rfl, rfl⟩
  · clear h
    go_enter Tryf.func27, Tryf.ntmps27
    go_wp2_with fail
    refine (rwithin_yes _ _ _ _ h1 h2).mono ?_
    rintro e w' ⟨rfl, rfl⟩
    go_wp2_with fail
    refine (rwithin_yes _ _ _ _ h3 h4).mono ?_
    rintro e w' ⟨rfl, rfl⟩
    go_wp2_with fail
    refine (rwithin_no _ _ _ _ h5).mono ?_
    rintro e w' ⟨rfl, rfl⟩
    go_wp2
    go_ret
    exact ⟨rfl, rfl⟩

theorem RfRight_yes {o k v : Int} (h : Rt o k v) (w : World) :
    Calls Tryf.prog 27 #[.agg #[.int .i64 o, .int .i64 k, .int .i64 v]] w fun e w' => e = .returned (.bool true) ∧ Gr w w' :=
  (RfRight_is h w).mono fun _ _ ⟨he, hw⟩ => ⟨he, hw ▸ (Gr.refl w).alloc _ _⟩
theorem RfRight_no {o k v : Int} (h : ¬ Rt o k v) (w : World) :
    Calls Tryf.prog 27 #[.agg #[.int .i64 o, .int .i64 k, .int .i64 v]] w fun e w' => e = .returned (.bool false) ∧ Gr w w' :=
  (RfRight_isnt h w).mono fun _ _ ⟨he, hw⟩ => ⟨he, hw ▸ (Gr.refl w).alloc _ _⟩
end Go.Proofs.YtdohomdhgkhebabFmt
