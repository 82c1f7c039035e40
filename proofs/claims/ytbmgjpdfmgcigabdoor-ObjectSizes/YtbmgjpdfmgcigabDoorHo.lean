/- What a heap does, as lists: it stays one, and has just the same things. -/
import Derived.Test.YtbmgjpdfmgcigabDoorHd
namespace Go.Proofs.YtbmgjpdfmgcigabDoor
set_option maxRecDepth 20000

theorem hdo_takes {z : Int} {r : List Int} (x : Int) (h : Hp (z :: r)) : ∃ ys, hdo (z :: r) 2 x = (ys, 1, z) ∧ ys.Perm r ∧ Hp ys := by
  rcases List.eq_nil_or_concat r with rfl | ⟨r', t, rfl⟩
  · exact ⟨[], hdo_one z x, .refl _, fun i _ hi => absurd hi (by simp)⟩
  · rw [List.concat_eq_append] at h ⊢
    refine ⟨sink (t :: r'), hdo_more z r' t x, (sink_perm _).trans ?_, sink_heap z t r' (Hp.cut (r := [t]) h)⟩
    exact (List.perm_append_comm (l₁ := [t]) (l₂ := r'))
theorem hdo_puts {xs : List Int} (x : Int) (h : Hp xs) (h6 : xs.length < 6) : ∃ ys, hdo xs 1 x = (ys, 1, 0) ∧ ys.Perm (xs ++ [x]) ∧ Hp ys :=
  ⟨_, hdo_put x h6, rise_perm _, rise_heap xs x h⟩
theorem qdo_keeps (xs : List Int) (o x : Int) (n1 : o ≠ 1) (n2 : o ≠ 2) : ∃ c y, qdo xs o x = (xs, c, y) := by
  by_cases n5 : o = 5
  · subst n5
    cases xs with
    | nil => exact ⟨2, 0, by simp [qdo]⟩
    | cons z r => exact ⟨1, z, by simp [qdo]⟩
  by_cases n6 : o = 6
  · exact ⟨1, xs.length, by simp [qdo, n6]⟩
  · exact ⟨5, 0, by simp [qdo, n1, n2, n5, n6]⟩
theorem hdo_keeps (xs : List Int) (o x : Int) (n1 : o ≠ 1) (n2 : o ≠ 2) : ∃ c y, hdo xs o x = (xs, c, y) := by
  rw [hdo_else xs o x n1 n2]
  exact qdo_keeps xs o x n1 n2
theorem Hp.nil : Hp [] := fun i _ hi => absurd hi (by simp)
theorem hdo_peeks (z : Int) (r : List Int) (x : Int) : hdo (z :: r) 5 x = (z :: r, 1, z) := by simp [hdo, qdo]
/-- What is put in and is less than all comes out. -/
theorem Hp.first {m l : List Int} {z : Int} (h : Hp m) (hm : m.Perm (l ++ [z])) (hz : ∀ y ∈ l, z ≤ y) : ∃ r, m = z :: r ∧ r.Perm l := by
  cases m with
  | nil => exact absurd hm.length_eq (by simp)
  | cons t r =>
    have h1 : t ≤ z := h.head z (hm.mem_iff.2 (by simp))
    have h2 : z ≤ t := by
      have : t ∈ l ++ [z] := hm.mem_iff.1 (by simp)
      rcases List.mem_append.1 this with h | h
      · exact hz t h
      · simp at h; omega
    obtain rfl : t = z := by omega
    refine ⟨r, rfl, ?_⟩
    have := hm.trans (List.perm_append_comm (l₁ := l) (l₂ := [t]))
    exact List.Perm.cons_inv this
/-- Of a heap that has the same things as a list that rises, the first one is the same. -/
theorem Hp.rises {m r : List Int} {z : Int} (h : Hp m) (hm : m.Perm (z :: r)) (hz : (z :: r).Pairwise (· ≤ ·)) : ∃ m', m = z :: m' ∧ m'.Perm r := by
  have h1 : ∀ y ∈ r, z ≤ y := (List.pairwise_cons.1 hz).1
  exact h.first (hm.trans (List.perm_append_comm (l₁ := [z]) (l₂ := r))) h1
end Go.Proofs.YtbmgjpdfmgcigabDoor
