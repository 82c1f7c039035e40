/- The library's ContainsFunc of things less than 1, by its contract. -/
import Derived.Test.YtenkjkfnampkiabHr
namespace Go.Proofs.Ytenkjkfnampkiab
open Go.RowKit

theorem less_is (x : Int) (w : World) :
    Calls Try.prog 7 #[.int .i64 x] w fun e w' => e = .returned (.bool (decide (x < 1))) ∧ w' = w := by
  go_enter Try.func7, Try.ntmps7
  go_wp2
  go_ret
  exact ⟨rfl, rfl⟩

set_option maxHeartbeats 1000000 in
theorem Index_no {B : Nat} {v : Value} {xs : List Int} {w : World} (h : IsL B w v xs) (hl : xs.length ≤ 6) (ha : ∀ j, j < xs.length → 1 ≤ gt xs j) :
    Calls Try.prog 14 #[v, .func (.func 7) #[] #[]] w fun e w' => e = .returned (.int .i64 (-1)) ∧ w' = w := by
  rcases gt_isL h with ⟨rfl, a, c, rfl⟩ | ⟨b, off, c, rfl, h0, hc⟩
  · clear h ha
    go_enter Try.func14, Try.ntmps14
    go_wp2_with fail
    go_loopg [8] 0 (fun _ s8 wt => s8 = .int .i64 0 ∧ w = wt)
    case atStart => exact ⟨rfl, rfl⟩
    case round =>
      obtain ⟨rfl, rfl⟩ := hrel
      go_wp2
      go_ret
      exact ⟨rfl, rfl⟩
  · have C : Hid (∀ j, j < xs.length → w.cell? ⟨b, off + j, none⟩ = some (.int .i64 (gt xs j))) := hc
    have A : Hid (∀ j, j < xs.length → 1 ≤ gt xs j) := ha
    clear h hc ha
    go_enter Try.func14, Try.ntmps14
    go_wp2_with fail
    go_loopg [8] xs.length (fun gg s8 wt => ∃ i : Nat, i ≤ xs.length ∧ xs.length - i ≤ gg ∧ s8 = .int .i64 i ∧ w = wt)
    case atStart => exact ⟨0, Nat.zero_le _, by omega, rfl, rfl⟩
    case round =>
      obtain ⟨i, hi, hgg, rfl, rfl⟩ := hrel
      by_cases hlt : i < xs.length
      · have g1 : w.cell? ⟨b, off + i, none⟩ = some (.int .i64 (gt xs i)) := C.out i hlt
        have hx := A.out i hlt
        generalize gt xs i = x at g1 hx
        have hi1 : (i : Int) < (xs.length : Int) := by omega
        have hi2 : (0 : Int) ≤ (i : Int) := by omega
        have hd : decide (x < 1) = false := by simp; omega
        go_wp2_with fail
        refine (less_is _ _).mono ?_
        rintro e W ⟨rfl, hW⟩
        rw [hW, hd]; clear hW W
        go_wp2
        go_roundg (xs.length - (i + 1))
        case measure => omega
        case rel => exact ⟨i + 1, by omega, by omega, by go_num, rfl⟩
      · obtain rfl : i = xs.length := by omega
        go_wp2
        go_ret
        exact ⟨rfl, rfl⟩

set_option maxHeartbeats 1000000 in
theorem Index_yes {B : Nat} {v : Value} {xs : List Int} {w : World} (h : IsL B w v xs) (hl : xs.length ≤ 6) (ha : ∃ j, j < xs.length ∧ gt xs j < 1) :
    Calls Try.prog 14 #[v, .func (.func 7) #[] #[]] w fun e w' => ∃ i : Nat, e = .returned (.int .i64 (i : Int)) ∧ w' = w := by
  rcases gt_isL h with ⟨rfl, a, c, rfl⟩ | ⟨b, off, c, rfl, h0, hc⟩
  · obtain ⟨j, hj, _⟩ := ha
    simp at hj
  · have C : Hid (∀ j, j < xs.length → w.cell? ⟨b, off + j, none⟩ = some (.int .i64 (gt xs j))) := hc
    have A : Hid (∃ j, j < xs.length ∧ gt xs j < 1) := ha
    clear h hc ha
    go_enter Try.func14, Try.ntmps14
    go_wp2_with fail
    go_loopg [8] xs.length (fun gg s8 wt => ∃ i : Nat, i ≤ xs.length ∧ xs.length - i ≤ gg ∧ s8 = .int .i64 i ∧ w = wt ∧ Hid (∀ j, j < i → 1 ≤ gt xs j))
    case atStart => exact ⟨0, Nat.zero_le _, by omega, rfl, rfl, fun j hj => absurd hj (Nat.not_lt_zero _)⟩
    case round =>
      obtain ⟨i, hi, hgg, rfl, rfl, T⟩ := hrel
      by_cases hlt : i < xs.length
      · have g1 : w.cell? ⟨b, off + i, none⟩ = some (.int .i64 (gt xs i)) := C.out i hlt
        obtain ⟨x, hx⟩ : ∃ x, gt xs i = x := ⟨_, rfl⟩
        have X : Hid (gt xs i = x) := hx
        rw [hx] at g1
        clear hx
        have hi1 : (i : Int) < (xs.length : Int) := by omega
        have hi2 : (0 : Int) ≤ (i : Int) := by omega
        by_cases hx1 : x < 1
        · have hd : decide (x < 1) = true := by simpa using hx1
          go_wp2_with fail
          refine (less_is _ _).mono ?_
          rintro e W ⟨rfl, hW⟩
          rw [hW, hd]; clear hW W
          go_wp2
          go_ret
          exact ⟨i, rfl, rfl⟩
        · have hd : decide (x < 1) = false := by simp; omega
          go_wp2_with fail
          refine (less_is _ _).mono ?_
          rintro e W ⟨rfl, hW⟩
          rw [hW, hd]; clear hW W
          go_wp2
          go_roundg (xs.length - (i + 1))
          case measure => omega
          case rel =>
            refine ⟨i + 1, by omega, by omega, by go_num, rfl, fun j hj => ?_⟩
            by_cases e : j = i
            · subst e; rw [X.out]; omega
            · exact T.out j (by omega)
      · obtain rfl : i = xs.length := by omega
        obtain ⟨j, hj, hj1⟩ := A.out
        exact absurd (T.out j hj) (by omega)

theorem Has_no {B : Nat} {v : Value} {xs : List Int} {w : World} (h : IsL B w v xs) (hl : xs.length ≤ 6) (ha : ∀ j, j < xs.length → 1 ≤ gt xs j) :
    Calls Try.prog 6 #[v, .func (.func 7) #[] #[]] w fun e w' => e = .returned (.bool false) ∧ w' = w := by
  have I : Hid (Calls Try.prog 14 #[v, .func (.func 7) #[] #[]] w fun e w' => e = .returned (.int .i64 (-1)) ∧ w' = w) := Index_no h hl ha
  clear h ha
  go_enter Try.func6, Try.ntmps6
  go_wp2_with fail
  refine I.out.mono ?_
  rintro e W ⟨rfl, hW⟩
  rw [hW]; clear hW W
  go_wp2
  go_ret
  exact ⟨rfl, rfl⟩
theorem Has_yes {B : Nat} {v : Value} {xs : List Int} {w : World} (h : IsL B w v xs) (hl : xs.length ≤ 6) (ha : ∃ j, j < xs.length ∧ gt xs j < 1) :
    Calls Try.prog 6 #[v, .func (.func 7) #[] #[]] w fun e w' => e = .returned (.bool true) ∧ w' = w := by
  have I : Hid (Calls Try.prog 14 #[v, .func (.func 7) #[] #[]] w fun e w' => ∃ i : Nat, e = .returned (.int .i64 (i : Int)) ∧ w' = w) := Index_yes h hl ha
  clear h ha
  go_enter Try.func6, Try.ntmps6
  go_wp2_with fail
  refine I.out.mono ?_
  rintro e W ⟨i, rfl, hW⟩
  rw [hW]; clear hW W
  have hi0 : (0 : Int) ≤ (i : Int) := by omega
  go_wp2
  go_ret
  exact ⟨rfl, rfl⟩
end Go.Proofs.Ytenkjkfnampkiab
