/- The reference's Heap, as one. -/
import Derived.Test.YtbmgjpdfmgcigabDoorRx
namespace Go.Proofs.YtbmgjpdfmgcigabDoor
set_option maxRecDepth 20000
open Go.RowKit

theorem hdo_len {xs ys : List Int} {o x c y : Int} (h : hdo xs o x = (ys, c, y)) : ys.length ≤ xs.length + 1 := by
  by_cases n1 : o = 1
  · subst n1
    by_cases h6 : 6 ≤ xs.length
    · rw [hdo_full x h6] at h
      simp only [Prod.mk.injEq] at h
      rw [← h.1]; omega
    · rw [hdo_put x (by omega)] at h
      simp only [Prod.mk.injEq] at h
      rw [← h.1, (rise_perm _).length_eq]; simp
  by_cases n2 : o = 2
  · subst n2
    cases xs with
    | nil => rw [hdo_none] at h; simp only [Prod.mk.injEq] at h; rw [← h.1]; simp
    | cons z r =>
      rcases List.eq_nil_or_concat r with rfl | ⟨r', t, rfl⟩
      · rw [hdo_one] at h; simp only [Prod.mk.injEq] at h; rw [← h.1]; simp
      · rw [List.concat_eq_append, hdo_more] at h
        simp only [Prod.mk.injEq] at h
        rw [← h.1, (sink_perm _).length_eq]; simp
  · obtain ⟨c', y', e⟩ := hdo_keeps xs o x n1 n2
    rw [e] at h
    simp only [Prod.mk.injEq] at h
    rw [← h.1]; omega

theorem RHeap_eq {B : Nat} {v : Value} {xs ys : List Int} {w : World} {o x c y : Int} (k : Int) (h : IsL B w v xs) (hx : xs.length ≤ 6) (hq : hdo xs o x = (ys, c, y)) :
    Calls Tryd.prog 24 #[v, .agg #[.int .i64 o, .int .i64 k, .int .i64 x]] w (MadeN w ys c y) := by
  have hx' : xs.length ≤ 60 := by omega
  by_cases hr : 1 ≤ o ∧ o ≤ 6
  · by_cases n3 : o = 3
    · subst n3
      rw [hdo_else xs 3 x (by decide) (by decide)] at hq
      simp [qdo] at hq
      obtain ⟨rfl, rfl, rfl⟩ := hq
      exact RHeap_three k x h hx'
    by_cases n4 : o = 4
    · subst n4
      rw [hdo_else xs 4 x (by decide) (by decide)] at hq
      simp [qdo] at hq
      obtain ⟨rfl, rfl, rfl⟩ := hq
      exact RHeap_four k x h hx'
    by_cases n1 : o = 1
    · subst n1
      by_cases h6 : 6 ≤ xs.length
      · rw [hdo_full x h6] at hq
        simp only [Prod.mk.injEq] at hq
        obtain ⟨rfl, rfl, rfl⟩ := hq
        exact RHeap_else 1 k x (by decide) (by decide) (by decide) (by decide) (fun _ => h6) (fun e => by simp at e) h hx' fun W u hW => ends_full k x 0 h6 hW hx'
      · rw [hdo_put x (by omega)] at hq
        simp only [Prod.mk.injEq] at hq
        obtain ⟨rfl, rfl, rfl⟩ := hq
        exact RHeap_put k x h (by omega)
    by_cases n2 : o = 2
    · subst n2
      cases xs with
      | nil =>
        rw [hdo_none] at hq
        simp only [Prod.mk.injEq] at hq
        obtain ⟨rfl, rfl, rfl⟩ := hq
        exact RHeap_else 2 k x (by decide) (by decide) (by decide) (by decide) (fun e => by simp at e) (fun _ => rfl) h hx' fun W u hW => ends_none k x 2 0 (by decide) (by decide) (by decide) hW hx'
      | cons z r =>
        rcases List.eq_nil_or_concat r with rfl | ⟨r', t, rfl⟩
        · rw [hdo_one] at hq
          simp only [Prod.mk.injEq] at hq
          obtain ⟨rfl, rfl, rfl⟩ := hq
          exact RHeap_one k x h
        · rw [List.concat_eq_append] at h hx hq
          rw [hdo_more] at hq
          simp only [Prod.mk.injEq] at hq
          obtain ⟨rfl, rfl, rfl⟩ := hq
          exact RHeap_more k x h (by simp at hx; omega)
    rw [hdo_else xs o x n1 n2] at hq
    have : o = 5 ∨ o = 6 := by omega
    refine RHeap_else o k x hr.1 hr.2 n3 n4 (fun e => absurd e n1) (fun e => absurd e n2) h hx' fun W u hW => ?_
    rcases this with rfl | rfl
    · cases xs with
      | nil => simp [qdo] at hq; obtain ⟨rfl, rfl, rfl⟩ := hq; exact ends_none k x 5 0 (by decide) (by decide) (by decide) hW hx'
      | cons z r =>
        simp [qdo] at hq
        obtain ⟨rfl, rfl, rfl⟩ := hq
        exact ends_peek (xs := z :: r) (ou := 0) (z := z) k x (by simp) rfl hW hx'
    · simp [qdo] at hq
      obtain ⟨rfl, rfl, rfl⟩ := hq
      exact ends_count k x 0 hW hx'
  · have e : hdo xs o x = (xs, 5, 0) := by
      rw [hdo_else xs o x (by omega) (by omega)]
      simp [qdo, show o ≠ 1 by omega, show o ≠ 2 by omega, show o ≠ 5 by omega, show o ≠ 6 by omega]
    rw [e] at hq
    simp only [Prod.mk.injEq] at hq
    obtain ⟨rfl, rfl, rfl⟩ := hq
    exact RHeap_out k x o hr h hx'
end Go.Proofs.YtbmgjpdfmgcigabDoor
