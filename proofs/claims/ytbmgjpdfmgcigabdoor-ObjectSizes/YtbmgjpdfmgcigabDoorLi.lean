/- Lists of numbers in memory, between two bounds of blocks: so that what is written beside them leaves them alone. -/
import Derived.Test.YtbmgjpdfmgcigabDoorOw
namespace Go.Proofs.YtbmgjpdfmgcigabDoor.Tab
set_option maxRecDepth 20000
open Go.RowKit

def Li (B E : Nat) (w : World) (v : Value) (xs : List Int) : Prop :=
  E ≤ w.heap.size ∧ ((xs = [] ∧ ∃ (a : Option Addr) (c : Nat), v = .slice a 0 c) ∨
  ∃ (b off c : Nat), v = .slice (some ⟨b, off, none⟩) xs.length c ∧ B ≤ b ∧ b < E ∧ 0 < xs.length ∧ xs.length ≤ c ∧ (∀ j, j < xs.length → w.cell? ⟨b, off + j, none⟩ = some (.int .i64 (xs.getD j 0))) ∧ (0 < B → ∀ j, j < xs.length → w.frozen? ⟨b, off + j, none⟩ = false))
theorem Li.isL {B E : Nat} {w : World} {v : Value} {xs : List Int} (h : Li B E w v xs) : IsL B w v xs := by
  rcases h.2 with h | ⟨b, off, c, h1, h2, h3, h4, h5, h6, h7⟩
  · exact Or.inl h
  · exact Or.inr ⟨b, off, c, h1, h2, h4, h5, h6, h7⟩
theorem Li.of {B : Nat} {w : World} {v : Value} {xs : List Int} (h : IsL B w v xs) : Li B w.heap.size w v xs := by
  refine ⟨Nat.le_refl _, ?_⟩
  rcases h with h | ⟨b, off, c, h1, h2, h4, h5, h6, h7⟩
  · exact Or.inl h
  · exact Or.inr ⟨b, off, c, h1, h2, World.block_lt_of_cell? _ _ (h6 0 h4), h4, h5, h6, h7⟩
theorem Li.le {B E : Nat} {w : World} {v : Value} {xs : List Int} (h : Li B E w v xs) : E ≤ w.heap.size := h.1
theorem Li.keep {B E : Nat} {w w' : World} {v : Value} {xs : List Int} (h : Li B E w v xs) (hs : w.heap.size ≤ w'.heap.size) (hb : ∀ b, B ≤ b → b < E → w'.heap[b]? = w.heap[b]?) : Li B E w' v xs := by
  refine ⟨Nat.le_trans h.1 hs, ?_⟩
  rcases h.2 with h | ⟨b, off, c, h1, h2, h3, h4, h5, h6, h7⟩
  · exact Or.inl h
  · refine Or.inr ⟨b, off, c, h1, h2, h3, h4, h5, fun j hj => ?_, fun h0 j hj => ?_⟩
    · rw [World.cell?_of_block (w := w) (hb b h2 h3)]; exact h6 j hj
    · rw [World.frozen?_of_block (w := w) (hb b h2 h3)]; exact h7 h0 j hj
theorem Li.later {B E : Nat} {w w' : World} {v : Value} {xs : List Int} (h : Li B E w v xs) (hb : Below w.heap.size w w') : Li B E w' v xs := h.keep hb.size fun b _ hE => hb.block b (Nat.lt_of_lt_of_le hE h.1)
theorem Li.new {B E : Nat} {w : World} {v : Value} {xs : List Int} (h : Li B E w v xs) (o : Obj) : Li B E (w.alloc o) v xs := h.later (new_below w o)
theorem Li.drew {B E : Nat} {w : World} {v : Value} {xs : List Int} (h : Li B E w v xs) : Li B E w.drew v xs := h.keep (Nat.le_refl _) fun _ _ _ => rfl
theorem Li.asideL {B E c : Nat} {w : World} {v : Value} {xs : List Int} (h : Li B E w v xs) (hc : c < B ∨ E ≤ c) (o : Nat) (vs : List Value) : Li B E (w.setCells c o vs) v xs :=
  h.keep (by rw [size_setCells]; exact Nat.le_refl _) fun b h1 h2 => heap_setCells (by omega) _ _ _
theorem Li.asideAll {B E c : Nat} {w : World} {v : Value} {xs : List Int} (h : Li B E w v xs) (hc : c < B ∨ E ≤ c) (u : Tb) : Li B E (w.setCells c 0 u.all) v xs := h.asideL hc 0 u.all
end Go.Proofs.YtbmgjpdfmgcigabDoor.Tab
