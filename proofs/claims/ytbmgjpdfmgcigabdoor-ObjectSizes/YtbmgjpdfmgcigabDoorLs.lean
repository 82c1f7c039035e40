/- Lists of numbers as they lie in memory. -/
import Derived.Test.YtbmgjpdfmgcigabDoorFrm
import Derived.Lib.OwnBridge
namespace Go.Proofs.YtbmgjpdfmgcigabDoor
set_option maxRecDepth 20000
open Go.RowKit

/-- The list xs lies in the slice v, in a block from B on, where it may be written if B is not 0 (or it is empty). -/
def IsL (B : Nat) (w : World) (v : Value) (xs : List Int) : Prop :=
  (xs = [] ∧ ∃ (a : Option Addr) (c : Nat), v = .slice a 0 c) ∨
  ∃ (b off c : Nat), v = .slice (some ⟨b, off, none⟩) xs.length c ∧ B ≤ b ∧ 0 < xs.length ∧ xs.length ≤ c ∧ (∀ j, j < xs.length → w.cell? ⟨b, off + j, none⟩ = some (.int .i64 (xs.getD j 0))) ∧ (0 < B → ∀ j, j < xs.length → w.frozen? ⟨b, off + j, none⟩ = false)

/-- The list xs lies in the slice v, which owns it, among the blocks from B on. -/
def Own (B : Nat) (w : World) (v : Value) (xs : List Int) : Prop := w.ownsRow B 3 1 v xs.length (xs.map (Value.int .i64))

theorem IsL.keep {B C : Nat} {w w' : World} {v : Value} {xs : List Int} (h : IsL B w v xs) (hb : Below C w w') (hC : w.heap.size ≤ C) : IsL B w' v xs := by
  rcases h with h | ⟨b, off, c, h1, hB, h2, h3, h4, h5⟩
  · exact Or.inl h
  · have hl := World.block_lt_of_cell? _ _ (h4 0 h2)
    refine Or.inr ⟨b, off, c, h1, hB, h2, h3, fun j hj => ?_, fun h0 j hj => ?_⟩
    · rw [hb.cell (p := ⟨b, off + j, none⟩) (Nat.lt_of_lt_of_le hl hC)]
      exact h4 j hj
    · rw [World.frozen?_of_block (hb.block b (Nat.lt_of_lt_of_le hl hC))]
      exact h5 h0 j hj
theorem IsL.later {B : Nat} {w w' : World} {v : Value} {xs : List Int} (h : IsL B w v xs) (hb : Below w.heap.size w w') : IsL B w' v xs := h.keep hb (Nat.le_refl _)
theorem IsL.nil (B : Nat) (w : World) (a : Option Addr) (c : Nat) : IsL B w (.slice a 0 c) [] := Or.inl ⟨rfl, a, c, rfl⟩
theorem IsL.mono {B B' : Nat} {w : World} {v : Value} {xs : List Int} (h : IsL B w v xs) (hB : B' ≤ B) : IsL B' w v xs := by
  rcases h with h | ⟨b, off, c, h1, hb, h2, h3, h4, h5⟩
  · exact Or.inl h
  · exact Or.inr ⟨b, off, c, h1, Nat.le_trans hB hb, h2, h3, h4, fun h0 => h5 (by omega)⟩
theorem IsL.setCell {B : Nat} {w : World} {v : Value} {xs : List Int} (h : IsL B w v xs) {p : Addr} (hp : p.block < B) (u : Value) : IsL B (w.setCell p u) v xs := by
  rcases h with h | ⟨b, off, c, h1, hB, h2, h3, h4, h5⟩
  · exact Or.inl h
  · refine Or.inr ⟨b, off, c, h1, hB, h2, h3, fun j hj => ?_, fun h0 j hj => by simpa using h5 h0 j hj⟩
    rw [World.cell?_setCell_other, h4 j hj]
    rintro rfl
    simp at hp
    omega
theorem IsL.form {B : Nat} {w : World} {v : Value} {xs : List Int} (h : IsL B w v xs) : ∃ a c, v = .slice a xs.length c := by
  rcases h with ⟨rfl, a, c, rfl⟩ | ⟨b, off, c, rfl, _⟩
  · exact ⟨a, c, rfl⟩
  · exact ⟨_, _, rfl⟩
theorem Own.form {B : Nat} {w : World} {v : Value} {xs : List Int} (h : Own B w v xs) : ∃ a c, v = .slice a xs.length c := by
  rcases h.2 with ⟨rfl, h0⟩ | ⟨g, cap, cur, rfl, _⟩
  · exact ⟨none, 0, by rw [h0]⟩
  · exact ⟨_, _, rfl⟩

theorem Own.isL {B : Nat} {w : World} {v : Value} {xs : List Int} (h : Own B w v xs) : IsL B w v xs := by
  have h' := h
  unfold Own at h'
  rcases h.2 with ⟨rfl, h0⟩ | ⟨g, cap, cur, rfl, hb, hg, hn, hm, hs, ht⟩
  · have : xs = [] := List.eq_nil_of_length_eq_zero h0
    subst this
    exact IsL.nil _ _ _ _
  · by_cases h0 : xs.length = 0
    · have : xs = [] := List.eq_nil_of_length_eq_zero h0
      subst this
      exact IsL.nil _ _ _ _
    · refine Or.inr ⟨g, 0, cap, rfl, hb, by omega, hn, fun j hj => ?_, fun _ j _ => h'.frozenAt _⟩
      rw [Nat.zero_add, h'.cellAt j (by omega)]
      simp [List.getD, List.getElem?_eq_getElem hj]

theorem below_drewN (w : World) (q : Nat) : Below w.heap.size w (w.drewN q) := ⟨rfl, rfl, rfl, Nat.le_refl _, fun _ _ => rfl⟩

theorem getD_eq {xs : List Int} {j : Nat} {x : Int} (h : xs[j]? = some x) : xs.getD j 0 = x := by simp [List.getD, h]
end Go.Proofs.YtbmgjpdfmgcigabDoor
