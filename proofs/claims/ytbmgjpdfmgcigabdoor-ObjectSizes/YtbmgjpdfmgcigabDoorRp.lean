/- Package op's within and Right, by their contracts. -/
import Derived.Test.YtbmgjpdfmgcigabDoorRows
import Derived.Test.YtbmgjpdfmgcigabDoorBase
namespace Go.Proofs.YtbmgjpdfmgcigabDoor
set_option maxRecDepth 20000
open Go.RowKit

/-- An operation that is right: 4.1. -/
structure Rt (w k v : Int) : Prop where
  w1 : 1 ≤ w
  w6 : w ≤ 6
  k0 : 0 ≤ k
  k1 : k ≤ 1000
  v0 : 0 ≤ v
  v1 : v ≤ 4294967295

theorem within_yes (n a b : Int) (w : World) (h1 : a ≤ n) (h2 : n ≤ b) :
    Calls Tryd.prog 29 #[.int .i64 n, .int .i64 a, .int .i64 b] w fun e w' => e = .returned (.bool true) ∧ w' = w := by
  go_enter Tryd.func29, Tryd.ntmps29
  go_wp2
  go_ret
  exact ⟨rfl, rfl⟩

theorem within_no (n a b : Int) (w : World) (h : n < a ∨ b < n) :
    Calls Tryd.prog 29 #[.int .i64 n, .int .i64 a, .int .i64 b] w fun e w' => e = .returned (.bool false) ∧ w' = w := by
  by_cases h1 : a ≤ n
  · have h2 : ¬ n ≤ b := by omega
    clear h
    go_enter Tryd.func29, Tryd.ntmps29
    go_wp2
    go_ret
    exact ⟨rfl, rfl⟩
  · clear h
    go_enter Tryd.func29, Tryd.ntmps29
    go_wp2
    go_ret
    exact ⟨rfl, rfl⟩

theorem opRight_is {o k v : Int} (h : Rt o k v) (w : World) :
    Calls Tryd.prog 17 #[.agg #[.int .i64 o, .int .i64 k, .int .i64 v]] w fun e w' => e = .returned (.bool true) ∧ w' = w.alloc (.cells #[.int .i64 o, .int .i64 k, .int .i64 v] 26) := by
  obtain ⟨h1, h2, h3, h4, h5, h6⟩ := h
  go_enter Tryd.func17, Tryd.ntmps17
  go_wp2_with (go_at_call 29; refine (within_yes _ _ _ _ (by omega) (by omega)).mono ?_; rintro e w' ⟨rfl, rfl⟩)
  go_ret
  exact ⟨rfl, rfl⟩

theorem not_rt {o k v : Int} (h : ¬ Rt o k v) : (o < 1 ∨ 6 < o) ∨ (1 ≤ o ∧ o ≤ 6) ∧ ((k < 0 ∨ 1000 < k) ∨ (0 ≤ k ∧ k ≤ 1000) ∧ (v < 0 ∨ 4294967295 < v)) := by
  have : ¬ (1 ≤ o ∧ o ≤ 6 ∧ 0 ≤ k ∧ k ≤ 1000 ∧ 0 ≤ v ∧ v ≤ 4294967295) := fun ⟨a, b, c, d, e, f⟩ => h ⟨a, b, c, d, e, f⟩
  omega

theorem opRight_isnt {o k v : Int} (h : ¬ Rt o k v) (w : World) :
    Calls Tryd.prog 17 #[.agg #[.int .i64 o, .int .i64 k, .int .i64 v]] w fun e w' => e = .returned (.bool false) ∧ w' = w.alloc (.cells #[.int .i64 o, .int .i64 k, .int .i64 v] 26) := by
  rcases not_rt h with h1 | ⟨⟨h1, h2⟩, h3 | ⟨⟨h3, h4⟩, h5⟩⟩
  · clear h
    go_enter Tryd.func17, Tryd.ntmps17
    go_wp2_with (go_at_call 29; refine (within_no _ _ _ _ (by omega)).mono ?_; rintro e w' ⟨rfl, rfl⟩)
    go_ret
    exact ⟨rfl, rfl⟩
  · clear h
    go_enter Tryd.func17, Tryd.ntmps17
    go_wp2_with fail
    refine (within_yes _ _ _ _ h1 h2).mono ?_
    rintro e w' ⟨rfl, rfl⟩
    go_wp2_with fail
    refine (within_no _ _ _ _ h3).mono ?_
    rintro e w' ⟨rfl, rfl⟩
    go_wp2
    go_ret
    exact ⟨rfl, rfl⟩
  · clear h
    go_enter Tryd.func17, Tryd.ntmps17
    go_wp2_with fail
    refine (within_yes _ _ _ _ h1 h2).mono ?_
    rintro e w' ⟨rfl, rfl⟩
    go_wp2_with fail
    refine (within_yes _ _ _ _ h3 h4).mono ?_
    rintro e w' ⟨rfl, rfl⟩
    go_wp2_with fail
    refine (within_no _ _ _ _ h5).mono ?_
    rintro e w' ⟨rfl, rfl⟩
    go_wp2
    go_ret
    exact ⟨rfl, rfl⟩

theorem opRight_yes {o k v : Int} (h : Rt o k v) (w : World) :
    Calls Tryd.prog 17 #[.agg #[.int .i64 o, .int .i64 k, .int .i64 v]] w fun e w' => e = .returned (.bool true) ∧ Gr w w' :=
  (opRight_is h w).mono fun _ _ ⟨he, hw⟩ => ⟨he, hw ▸ (Gr.refl w).alloc _ _⟩
theorem opRight_no {o k v : Int} (h : ¬ Rt o k v) (w : World) :
    Calls Tryd.prog 17 #[.agg #[.int .i64 o, .int .i64 k, .int .i64 v]] w fun e w' => e = .returned (.bool false) ∧ Gr w w' :=
  (opRight_isnt h w).mono fun _ _ ⟨he, hw⟩ => ⟨he, hw ▸ (Gr.refl w).alloc _ _⟩
end Go.Proofs.YtbmgjpdfmgcigabDoor
