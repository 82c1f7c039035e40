/- The library's Clone and Equal at lists of numbers. -/
import Derived.Test.YtenkjkfnampkiabLs
import Derived.Test.YtenkjkfnampkiabShelf
namespace Go.Proofs.Ytenkjkfnampkiab
open Go.RowKit

theorem Clone_is {B : Nat} {v : Value} {xs : List Int} {w : World} (h : IsL B w v xs) (hx : xs.length ≤ 1000000) :
    Calls Try.prog 10 #[v] w fun e w' => ∃ v', e = .returned v' ∧ Own w.heap.size w' v' xs ∧ Below w.heap.size w w' := by
  rcases h with ⟨rfl, a, c, rfl⟩ | ⟨b, off, c, rfl, _, h0, hc, hcell, _⟩
  · cases a with
    | none => exact (sh_slices_Clone_int_nil 0 c w).mono fun e w' ⟨he, hw⟩ => ⟨_, he, World.ownsRow_nil _ _ _ _, hw ▸ Below.refl _ _⟩
    | some a => exact (sh_slices_Clone_int_zero a c w).mono fun e w' ⟨v', he, ho, _, hb⟩ => ⟨v', he, ho, hb⟩
  · refine (sh_slices_Clone_int b off xs.length c xs w (Nat.le_refl _) (by omega) hcell).mono fun e w' ⟨v', he, ho, _, hb⟩ => ⟨v', he, ?_, hb⟩
    rw [List.take_length] at ho
    exact ho

theorem Equal_same {B C : Nat} {u v : Value} {xs : List Int} {w : World} (h : IsL B w u xs) (k : IsL C w v xs) (hx : xs.length ≤ 1000000) :
    Calls Try.prog 12 #[u, v] w fun e w' => e = .returned (.bool true) ∧ Below w.heap.size w w' := by
  rcases h with ⟨rfl, a, c, rfl⟩ | ⟨b, off, c, rfl, _, h0, hc, hcell, _⟩
  · rcases k with ⟨_, a', c', rfl⟩ | ⟨b', off', c', _, _, h0', _⟩
    · exact (sh_slices_Equal_int_empty a a' c 0 c' w (by omega)).mono fun e w' ⟨he, hw⟩ => ⟨he, hw ▸ Below.refl _ _⟩
    · simp at h0'
  · rcases k with ⟨rfl, _⟩ | ⟨b', off', c', rfl, _, _, hc', hcell', _⟩
    · simp at h0
    · refine (sh_slices_Equal_int b off xs.length c b' off' xs.length c' xs xs w (Nat.le_refl _) (Nat.le_refl _) (by omega) (by omega) hcell hcell').mono fun e w' ⟨he, q, hw⟩ => ⟨?_, hw ▸ below_drewN _ _⟩
      rw [he]; simp

end Go.Proofs.Ytenkjkfnampkiab
