/- Lists of numbers as they lie in memory; the library's Clone and Equal at them. -/
import Derived.Test.YthjfkmalhdfmlaaFrm
import Derived.Test.YthjfkmalhdfmlaaShelf
import Derived.Lib.OwnBridge
namespace Go.Proofs.Ythjfkmalhdfmlaa
open Go.RowKit

/-- The list xs lies in the slice v, in a block from B on (or is empty). -/
def IsL (B : Nat) (w : World) (v : Value) (xs : List Int) : Prop :=
  (xs = [] ∧ ∃ (a : Option Addr) (c : Nat), v = .slice a 0 c) ∨
  ∃ (b off c : Nat), v = .slice (some ⟨b, off, none⟩) xs.length c ∧ B ≤ b ∧ 0 < xs.length ∧ xs.length ≤ c ∧ ∀ j, j < xs.length → w.cell? ⟨b, off + j, none⟩ = some (.int .i64 (xs.getD j 0))

/-- The list xs lies in the slice v, which owns it, among the blocks from B on. -/
def Own (B : Nat) (w : World) (v : Value) (xs : List Int) : Prop := w.ownsRow B 3 1 v xs.length (xs.map (Value.int .i64))

theorem IsL.keep {B C : Nat} {w w' : World} {v : Value} {xs : List Int} (h : IsL B w v xs) (hb : Below C w w') (hC : w.heap.size ≤ C) : IsL B w' v xs := by
  rcases h with h | ⟨b, off, c, h1, hB, h2, h3, h4⟩
  · exact Or.inl h
  · refine Or.inr ⟨b, off, c, h1, hB, h2, h3, fun j hj => ?_⟩
    have hl := World.block_lt_of_cell? _ _ (h4 j hj)
    rw [hb.cell (p := ⟨b, off + j, none⟩) (Nat.lt_of_lt_of_le hl hC)]
    exact h4 j hj
theorem IsL.later {B : Nat} {w w' : World} {v : Value} {xs : List Int} (h : IsL B w v xs) (hb : Below w.heap.size w w') : IsL B w' v xs := h.keep hb (Nat.le_refl _)
theorem IsL.nil (B : Nat) (w : World) (a : Option Addr) (c : Nat) : IsL B w (.slice a 0 c) [] := Or.inl ⟨rfl, a, c, rfl⟩
theorem IsL.mono {B B' : Nat} {w : World} {v : Value} {xs : List Int} (h : IsL B w v xs) (hB : B' ≤ B) : IsL B' w v xs := by
  rcases h with h | ⟨b, off, c, h1, hb, h2⟩
  · exact Or.inl h
  · exact Or.inr ⟨b, off, c, h1, Nat.le_trans hB hb, h2⟩
theorem IsL.setCell {B : Nat} {w : World} {v : Value} {xs : List Int} (h : IsL B w v xs) {p : Addr} (hp : p.block < B) (u : Value) : IsL B (w.setCell p u) v xs := by
  rcases h with h | ⟨b, off, c, h1, hB, h2, h3, h4⟩
  · exact Or.inl h
  · refine Or.inr ⟨b, off, c, h1, hB, h2, h3, fun j hj => ?_⟩
    rw [World.cell?_setCell_other, h4 j hj]
    rintro rfl
    simp at hp
    omega
theorem IsL.form {B : Nat} {w : World} {v : Value} {xs : List Int} (h : IsL B w v xs) : ∃ a c, v = .slice a xs.length c := by
  rcases h with ⟨rfl, a, c, rfl⟩ | ⟨b, off, c, rfl, _⟩
  · exact ⟨a, c, rfl⟩
  · exact ⟨_, _, rfl⟩
theorem Own.form {B : Nat} {w : World} {v : Value} {xs : List Int} (h : Own B w v xs) : ∃ a c, v = .slice a xs.length c := by
  rcases h.2 with ⟨rfl, h0⟩ | ⟨g, cap, cur, rfl, _⟩
  · exact ⟨none, 0, by rw [h0]⟩
  · exact ⟨_, _, rfl⟩

theorem Own.isL {B : Nat} {w : World} {v : Value} {xs : List Int} (h : Own B w v xs) : IsL B w v xs := by
  have h' := h
  unfold Own at h'
  rcases h.2 with ⟨rfl, h0⟩ | ⟨g, cap, cur, rfl, hb, hg, hn, hm, hs, ht⟩
  · have : xs = [] := List.eq_nil_of_length_eq_zero h0
    subst this
    exact IsL.nil _ _ _ _
  · by_cases h0 : xs.length = 0
    · have : xs = [] := List.eq_nil_of_length_eq_zero h0
      subst this
      exact IsL.nil _ _ _ _
    · refine Or.inr ⟨g, 0, cap, rfl, hb, by omega, hn, fun j hj => ?_⟩
      rw [Nat.zero_add, h'.cellAt j (by omega)]
      simp [List.getD, List.getElem?_eq_getElem hj]

theorem below_drewN (w : World) (q : Nat) : Below w.heap.size w (w.drewN q) := ⟨rfl, rfl, rfl, Nat.le_refl _, fun _ _ => rfl⟩

theorem Clone_is {B : Nat} {v : Value} {xs : List Int} {w : World} (h : IsL B w v xs) (hx : xs.length ≤ 1000000) :
    Calls Try.prog 22 #[v] w fun e w' => ∃ v', e = .returned v' ∧ Own w.heap.size w' v' xs ∧ Below w.heap.size w w' := by
  rcases h with ⟨rfl, a, c, rfl⟩ | ⟨b, off, c, rfl, _, h0, hc, hcell⟩
  · cases a with
    | none => exact (sh_slices_Clone_int_nil 0 c w).mono fun e w' ⟨he, hw⟩ => ⟨_, he, World.ownsRow_nil _ _ _ _, hw ▸ Below.refl _ _⟩
    | some a => exact (sh_slices_Clone_int_zero a c w).mono fun e w' ⟨v', he, ho, _, hb⟩ => ⟨v', he, ho, hb⟩
  · refine (sh_slices_Clone_int b off xs.length c xs w (Nat.le_refl _) (by omega) hcell).mono fun e w' ⟨v', he, ho, _, hb⟩ => ⟨v', he, ?_, hb⟩
    rw [List.take_length] at ho
    exact ho

theorem Equal_same {B C : Nat} {u v : Value} {xs : List Int} {w : World} (h : IsL B w u xs) (k : IsL C w v xs) (hx : xs.length ≤ 1000000) :
    Calls Try.prog 16 #[u, v] w fun e w' => e = .returned (.bool true) ∧ Below w.heap.size w w' := by
  rcases h with ⟨rfl, a, c, rfl⟩ | ⟨b, off, c, rfl, _, h0, hc, hcell⟩
  · rcases k with ⟨_, a', c', rfl⟩ | ⟨b', off', c', _, _, h0', _⟩
    · exact (sh_slices_Equal_int_empty a a' c 0 c' w (by omega)).mono fun e w' ⟨he, hw⟩ => ⟨he, hw ▸ Below.refl _ _⟩
    · simp at h0'
  · rcases k with ⟨rfl, _⟩ | ⟨b', off', c', rfl, _, _, hc', hcell'⟩
    · simp at h0
    · refine (sh_slices_Equal_int b off xs.length c b' off' xs.length c' xs xs w (Nat.le_refl _) (Nat.le_refl _) (by omega) (by omega) hcell hcell').mono fun e w' ⟨he, q, hw⟩ => ⟨?_, hw ▸ below_drewN _ _⟩
      rw [he]; simp

theorem getD_eq {xs : List Int} {j : Nat} {x : Int} (h : xs[j]? = some x) : xs.getD j 0 = x := by simp [List.getD, h]
end Go.Proofs.Ythjfkmalhdfmlaa
