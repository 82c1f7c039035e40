/- Package store: what is not there: ErrRange, and nothing is changed; Costs. -/
import Derived.Test.YthgkmbimmelglaaDoorStGood
import Derived.Test.YthgkmbimmelglaaDoorSt3
namespace Go.Proofs.YthgkmbimmelglaaDoor
open Go.RowKit

def rangeErr : Value := .iface 28 (.int .i64 2)

theorem Load_no (a : Int) (p : Value) (w : World) (h : a < 0 ∨ 72 ≤ a) :
    Calls Tryd.prog 9 #[p, .int .i64 a] w fun e w' => e = .returned (.tuple #[.int .u64 0, rangeErr]) ∧ w' = w := by
  go_enter Tryd.func9, Tryd.ntmps9
  go_wp2_with (go_at_call 28; refine (among_no _ _ _ (by omega)).mono ?_; rintro e w' ⟨rfl, rfl⟩)
  go_ret2
  exact ⟨rfl, rfl⟩

theorem Save_no (a : Int) (p v : Value) (w : World) (h : a < 0 ∨ 72 ≤ a) :
    Calls Tryd.prog 16 #[p, .int .i64 a, v] w fun e w' => e = .returned rangeErr ∧ w' = w := by
  go_enter Tryd.func16, Tryd.ntmps16
  go_wp2_with (go_at_call 28; refine (among_no _ _ _ (by omega)).mono ?_; rintro e w' ⟨rfl, rfl⟩)
  go_ret
  exact ⟨rfl, rfl⟩

theorem Flush_no (t l : Int) (p : Value) (w : World) (h : (t < 0 ∨ 4 ≤ t) ∨ l < 0 ∨ 9 ≤ l) :
    Calls Tryd.prog 20 #[p, .int .i64 t, .int .i64 l] w fun e w' => e = .returned rangeErr ∧ w' = w := by
  by_cases h1 : t < 0 ∨ 4 ≤ t
  · clear h
    go_enter Tryd.func20, Tryd.ntmps20
    go_wp2_with fail
    refine (among_no _ _ _ (by omega)).mono ?_
    rintro e ux ⟨rfl, hw⟩
    rw [hw]; clear hw ux
    go_wp2
    go_ret
    exact ⟨rfl, rfl⟩
  · have h2 : l < 0 ∨ 9 ≤ l := h.resolve_left h1
    go_enter Tryd.func20, Tryd.ntmps20
    go_wp2_with fail
    refine (among_yes _ _ _ (by omega) (by omega)).mono ?_
    rintro e ux ⟨rfl, hw⟩
    rw [hw]; clear hw ux
    go_wp2_with fail
    refine (among_no _ _ _ (by omega)).mono ?_
    rintro e ux ⟨rfl, hw⟩
    rw [hw]; clear hw ux
    go_wp2
    go_ret
    exact ⟨rfl, rfl⟩

theorem Fence_no (t : Int) (p : Value) (w : World) (h : t < 0 ∨ 4 ≤ t) :
    Calls Tryd.prog 22 #[p, .int .i64 t] w fun e w' => e = .returned rangeErr ∧ w' = w := by
  go_enter Tryd.func22, Tryd.ntmps22
  go_wp2_with (go_at_call 28; refine (among_no _ _ _ (by omega)).mono ?_; rintro e w' ⟨rfl, rfl⟩)
  go_ret
  exact ⟨rfl, rfl⟩

theorem Evict_no (l : Int) (p : Value) (w : World) (h : l < 0 ∨ 9 ≤ l) :
    Calls Tryd.prog 25 #[p, .int .i64 l] w fun e w' => e = .returned rangeErr ∧ w' = w := by
  go_enter Tryd.func25, Tryd.ntmps25
  go_wp2_with (go_at_call 28; refine (among_no _ _ _ (by omega)).mono ?_; rintro e w' ⟨rfl, rfl⟩)
  go_ret
  exact ⟨rfl, rfl⟩

theorem Costs_any (b : Nat) (s : St) (w : World) (hs : StAt w b s) :
    Calls Tryd.prog 14 #[.pointer (some ⟨b, 0, none⟩)] w fun e w' => e = .returned (.tuple #[.int .i64 s.fl, .int .i64 s.fe]) ∧ ∃ q, w' = w.drewN q := by
  have c1 := hs.flc
  have c2 := hs.fec
  go_enter Tryd.func14, Tryd.ntmps14
  go_wp2_with fail
  go_region_held3 (fun w' => w'.cell? ⟨b, 180, none⟩ = some (.int .i64 s.fl) ∧ w'.cell? ⟨b, 181, none⟩ = some (.int .i64 s.fe)) (go_keep) (fail)
  go_wp2
  go_ret2
  exact ⟨rfl, 1, rfl⟩
end Go.Proofs.YthgkmbimmelglaaDoor
