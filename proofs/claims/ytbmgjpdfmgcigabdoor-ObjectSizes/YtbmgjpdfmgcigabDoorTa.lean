/- A tally: what is done with it, and package tally by its contract. -/
import Derived.Test.YtbmgjpdfmgcigabDoorRows
import Derived.Test.YtbmgjpdfmgcigabDoorFrm
import Derived.RegionTactic
import Derived.BigRegion
namespace Go.Proofs.YtbmgjpdfmgcigabDoor
set_option maxRecDepth 20000
set_option linter.unusedVariables false
open Go.RowKit

/-- What an operation makes of a tally, and its answer: 10.1. -/
def ado (n what value : Int) : Int × Int × Int :=
  if what = 1 then (if 4294967295 < n + value then (n, 3, 0) else (n + value, 1, n))
  else if what = 2 then (if n < value then (n, 2, 0) else (n - value, 1, n))
  else if what = 5 ∨ what = 6 then (n, 1, n) else (n, 5, 0)

theorem aDo_put_full (n k x : Int) (n0 : 0 ≤ n) (n1 : n ≤ 4294967295) (x0 : 0 ≤ x) (x1 : x ≤ 4294967295) (h : 4294967295 < n + x) (w : World) :
    Calls Tryd.prog 60 #[.int .i64 n, .agg #[.int .i64 1, .int .i64 k, .int .i64 x]] w fun e w' => e = .returned (.tuple #[.int .i64 (n), .agg #[.int .i64 3, .int .i64 0]]) ∧ Below w.heap.size w w' := by
  have hs : IntKind.i64.wrap (n + x) = n + x := by rw [IntKind.wrap_i64]; omega
  go_enter Tryd.func60, Tryd.ntmps60
  go_wp2
  try (go_region; all_goals go_wp2)
  all_goals exact bodyPost_ret (v := .tuple #[.int .i64 (n), .agg #[.int .i64 3, .int .i64 0]]) (by simp [results, Tryd.results60, go_sem]) rfl ⟨rfl, by repeat first | with_reducible exact Below.refl _ _ | with_reducible apply Below.drew | (with_reducible refine Below.alloc ?_ ?g _; case g => (simp <;> omega)) | (with_reducible refine Below.setCell ?_ ?g _; case g => (simp <;> omega))⟩
theorem aDo_put (n k x : Int) (n0 : 0 ≤ n) (n1 : n ≤ 4294967295) (x0 : 0 ≤ x) (x1 : x ≤ 4294967295) (h : n + x ≤ 4294967295) (w : World) :
    Calls Tryd.prog 60 #[.int .i64 n, .agg #[.int .i64 1, .int .i64 k, .int .i64 x]] w fun e w' => e = .returned (.tuple #[.int .i64 (n + x), .agg #[.int .i64 1, .int .i64 n]]) ∧ Below w.heap.size w w' := by
  have hs : IntKind.i64.wrap (n + x) = n + x := by rw [IntKind.wrap_i64]; omega
  go_enter Tryd.func60, Tryd.ntmps60
  go_wp2
  try (go_region; all_goals go_wp2)
  all_goals exact bodyPost_ret (v := .tuple #[.int .i64 (n + x), .agg #[.int .i64 1, .int .i64 n]]) (by simp [results, Tryd.results60, go_sem]) rfl ⟨rfl, by repeat first | with_reducible exact Below.refl _ _ | with_reducible apply Below.drew | (with_reducible refine Below.alloc ?_ ?g _; case g => (simp <;> omega)) | (with_reducible refine Below.setCell ?_ ?g _; case g => (simp <;> omega))⟩
theorem aDo_take_none (n k x : Int) (n0 : 0 ≤ n) (n1 : n ≤ 4294967295) (x0 : 0 ≤ x) (x1 : x ≤ 4294967295) (h : n < x) (w : World) :
    Calls Tryd.prog 60 #[.int .i64 n, .agg #[.int .i64 2, .int .i64 k, .int .i64 x]] w fun e w' => e = .returned (.tuple #[.int .i64 (n), .agg #[.int .i64 2, .int .i64 0]]) ∧ Below w.heap.size w w' := by
  have hs : IntKind.i64.wrap (n - x) = n - x := by rw [IntKind.wrap_i64]; omega
  have hd : n - x < 0 := by omega
  go_enter Tryd.func60, Tryd.ntmps60
  go_wp2
  try (go_region; all_goals go_wp2)
  all_goals exact bodyPost_ret (v := .tuple #[.int .i64 (n), .agg #[.int .i64 2, .int .i64 0]]) (by simp [results, Tryd.results60, go_sem]) rfl ⟨rfl, by repeat first | with_reducible exact Below.refl _ _ | with_reducible apply Below.drew | (with_reducible refine Below.alloc ?_ ?g _; case g => (simp <;> omega)) | (with_reducible refine Below.setCell ?_ ?g _; case g => (simp <;> omega))⟩
theorem aDo_take (n k x : Int) (n0 : 0 ≤ n) (n1 : n ≤ 4294967295) (x0 : 0 ≤ x) (x1 : x ≤ 4294967295) (h : x ≤ n) (w : World) :
    Calls Tryd.prog 60 #[.int .i64 n, .agg #[.int .i64 2, .int .i64 k, .int .i64 x]] w fun e w' => e = .returned (.tuple #[.int .i64 (n - x), .agg #[.int .i64 1, .int .i64 n]]) ∧ Below w.heap.size w w' := by
  have hs : IntKind.i64.wrap (n - x) = n - x := by rw [IntKind.wrap_i64]; omega
  have hd : 0 ≤ n - x := by omega
  go_enter Tryd.func60, Tryd.ntmps60
  go_wp2
  try (go_region; all_goals go_wp2)
  all_goals exact bodyPost_ret (v := .tuple #[.int .i64 (n - x), .agg #[.int .i64 1, .int .i64 n]]) (by simp [results, Tryd.results60, go_sem]) rfl ⟨rfl, by repeat first | with_reducible exact Below.refl _ _ | with_reducible apply Below.drew | (with_reducible refine Below.alloc ?_ ?g _; case g => (simp <;> omega)) | (with_reducible refine Below.setCell ?_ ?g _; case g => (simp <;> omega))⟩
theorem aDo_look5 (n k x : Int) (n0 : 0 ≤ n) (n1 : n ≤ 4294967295) (x0 : 0 ≤ x) (x1 : x ≤ 4294967295)  (w : World) :
    Calls Tryd.prog 60 #[.int .i64 n, .agg #[.int .i64 5, .int .i64 k, .int .i64 x]] w fun e w' => e = .returned (.tuple #[.int .i64 (n), .agg #[.int .i64 1, .int .i64 n]]) ∧ Below w.heap.size w w' := by
  go_enter Tryd.func60, Tryd.ntmps60
  go_wp2
  try (go_region; all_goals go_wp2)
  all_goals exact bodyPost_ret (v := .tuple #[.int .i64 (n), .agg #[.int .i64 1, .int .i64 n]]) (by simp [results, Tryd.results60, go_sem]) rfl ⟨rfl, by repeat first | with_reducible exact Below.refl _ _ | with_reducible apply Below.drew | (with_reducible refine Below.alloc ?_ ?g _; case g => (simp <;> omega)) | (with_reducible refine Below.setCell ?_ ?g _; case g => (simp <;> omega))⟩
theorem aDo_look6 (n k x : Int) (n0 : 0 ≤ n) (n1 : n ≤ 4294967295) (x0 : 0 ≤ x) (x1 : x ≤ 4294967295)  (w : World) :
    Calls Tryd.prog 60 #[.int .i64 n, .agg #[.int .i64 6, .int .i64 k, .int .i64 x]] w fun e w' => e = .returned (.tuple #[.int .i64 (n), .agg #[.int .i64 1, .int .i64 n]]) ∧ Below w.heap.size w w' := by
  go_enter Tryd.func60, Tryd.ntmps60
  go_wp2
  try (go_region; all_goals go_wp2)
  all_goals exact bodyPost_ret (v := .tuple #[.int .i64 (n), .agg #[.int .i64 1, .int .i64 n]]) (by simp [results, Tryd.results60, go_sem]) rfl ⟨rfl, by repeat first | with_reducible exact Below.refl _ _ | with_reducible apply Below.drew | (with_reducible refine Below.alloc ?_ ?g _; case g => (simp <;> omega)) | (with_reducible refine Below.setCell ?_ ?g _; case g => (simp <;> omega))⟩
theorem aDo_wrong (o : Int) (n k x : Int) (n0 : 0 ≤ n) (n1 : n ≤ 4294967295) (x0 : 0 ≤ x) (x1 : x ≤ 4294967295) (m1 : (o == 1) = false) (m2 : (o == 2) = false) (m5 : (o == 5) = false) (m6 : (o == 6) = false) (w : World) :
    Calls Tryd.prog 60 #[.int .i64 n, .agg #[.int .i64 o, .int .i64 k, .int .i64 x]] w fun e w' => e = .returned (.tuple #[.int .i64 (n), .agg #[.int .i64 5, .int .i64 0]]) ∧ Below w.heap.size w w' := by
  go_enter Tryd.func60, Tryd.ntmps60
  go_wp2
  try (go_region; all_goals go_wp2)
  all_goals exact bodyPost_ret (v := .tuple #[.int .i64 (n), .agg #[.int .i64 5, .int .i64 0]]) (by simp [results, Tryd.results60, go_sem]) rfl ⟨rfl, by repeat first | with_reducible exact Below.refl _ _ | with_reducible apply Below.drew | (with_reducible refine Below.alloc ?_ ?g _; case g => (simp <;> omega)) | (with_reducible refine Below.setCell ?_ ?g _; case g => (simp <;> omega))⟩
theorem aDo_eq {n o k x m c y : Int} (n0 : 0 ≤ n) (n1 : n ≤ 4294967295) (x0 : 0 ≤ x) (x1 : x ≤ 4294967295) (h : ado n o x = (m, c, y)) (w : World) :
    Calls Tryd.prog 60 #[.int .i64 n, .agg #[.int .i64 o, .int .i64 k, .int .i64 x]] w fun e w' => e = .returned (.tuple #[.int .i64 m, .agg #[.int .i64 c, .int .i64 y]]) ∧ Below w.heap.size w w' := by
  unfold ado at h
  by_cases e1 : o = 1
  · subst e1
    by_cases hf : 4294967295 < n + x
    · simp [hf] at h; obtain ⟨rfl, rfl, rfl⟩ := h; exact aDo_put_full n k x n0 n1 x0 x1 hf w
    · simp [hf] at h; obtain ⟨rfl, rfl, rfl⟩ := h; exact aDo_put n k x n0 n1 x0 x1 (by omega) w
  by_cases e2 : o = 2
  · subst e2
    by_cases hf : n < x
    · simp [hf] at h; obtain ⟨rfl, rfl, rfl⟩ := h; exact aDo_take_none n k x n0 n1 x0 x1 hf w
    · simp [hf] at h; obtain ⟨rfl, rfl, rfl⟩ := h; exact aDo_take n k x n0 n1 x0 x1 (by omega) w
  by_cases e5 : o = 5
  · subst e5
    simp at h; obtain ⟨rfl, rfl, rfl⟩ := h; exact aDo_look5 n k x n0 n1 x0 x1 w
  by_cases e6 : o = 6
  · subst e6
    simp at h; obtain ⟨rfl, rfl, rfl⟩ := h; exact aDo_look6 n k x n0 n1 x0 x1 w
  · simp [e1, e2, e5, e6] at h; obtain ⟨rfl, rfl, rfl⟩ := h
    exact aDo_wrong o n k x n0 n1 x0 x1 (by simp [e1]) (by simp [e2]) (by simp [e5]) (by simp [e6]) w
end Go.Proofs.YtbmgjpdfmgcigabDoor
