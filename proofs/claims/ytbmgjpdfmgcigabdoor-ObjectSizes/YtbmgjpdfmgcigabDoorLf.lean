/- Lists in memory that lie ahead of some blocks, or behind them; a thing's row of cells, written in part. -/
import Derived.Test.YtbmgjpdfmgcigabDoorTho
import Derived.Test.YtbmgjpdfmgcigabDoorOd
import Derived.Test.YtbmgjpdfmgcigabDoorMr
namespace Go.Proofs.YtbmgjpdfmgcigabDoor.Tab
set_option maxRecDepth 20000
open Go.RowKit
set_option linter.unusedVariables false

def Lf (n m : Nat) (w : World) (v : Value) (xs : List Int) : Prop :=
  (xs = [] ∧ ∃ (a : Option Addr) (c : Nat), v = .slice a 0 c) ∨
  ∃ (b off c : Nat), v = .slice (some ⟨b, off, none⟩) xs.length c ∧ (b < n ∨ m ≤ b) ∧ b < w.heap.size ∧ 0 < xs.length ∧ xs.length ≤ c ∧ (∀ j, j < xs.length → w.cell? ⟨b, off + j, none⟩ = some (.int .i64 (xs.getD j 0)))
theorem Lf.old {B m : Nat} {w : World} {v : Value} {xs : List Int} (h : IsL B w v xs) : Lf w.heap.size m w v xs := by
  rcases h with h | ⟨b, off, c, h1, h2, h4, h5, h6, h7⟩
  · exact Or.inl h
  · have := World.block_lt_of_cell? _ _ (h6 0 h4)
    exact Or.inr ⟨b, off, c, h1, Or.inl this, this, h4, h5, h6⟩
theorem Lf.made {n m k : Nat} {w : World} {v : Value} {xs : List Int} (h : IsL k w v xs) (hk : m ≤ k) : Lf n m w v xs := by
  rcases h with h | ⟨b, off, c, h1, h2, h4, h5, h6, h7⟩
  · exact Or.inl h
  · exact Or.inr ⟨b, off, c, h1, Or.inr (by omega), World.block_lt_of_cell? _ _ (h6 0 h4), h4, h5, h6⟩
theorem Lf.isL {n m : Nat} {w : World} {v : Value} {xs : List Int} (h : Lf n m w v xs) : IsL 0 w v xs := by
  rcases h with h | ⟨b, off, c, h1, h2, h3, h4, h5, h6⟩
  · exact Or.inl h
  · exact Or.inr ⟨b, off, c, h1, Nat.zero_le _, h4, h5, h6, fun h => absurd h (by decide)⟩
theorem Lf.form {n m : Nat} {w : World} {v : Value} {xs : List Int} (h : Lf n m w v xs) : ∃ a c, v = .slice a xs.length c := h.isL.form
theorem Lf.keep {n m : Nat} {w w' : World} {v : Value} {xs : List Int} (h : Lf n m w v xs) (hs : w.heap.size ≤ w'.heap.size) (hb : ∀ b, (b < n ∨ m ≤ b) → b < w.heap.size → w'.heap[b]? = w.heap[b]?) : Lf n m w' v xs := by
  rcases h with h | ⟨b, off, c, h1, h2, h3, h4, h5, h6⟩
  · exact Or.inl h
  · exact Or.inr ⟨b, off, c, h1, h2, Nat.lt_of_lt_of_le h3 hs, h4, h5, fun j hj => by rw [World.cell?_of_block (w := w) (hb b h2 h3)]; exact h6 j hj⟩
theorem Lf.later {n m : Nat} {w w' : World} {v : Value} {xs : List Int} (h : Lf n m w v xs) (hb : Below w.heap.size w w') : Lf n m w' v xs := h.keep hb.size fun b _ hl => hb.block b hl
theorem Lf.new {n m : Nat} {w : World} {v : Value} {xs : List Int} (h : Lf n m w v xs) (o : Obj) : Lf n m (w.alloc o) v xs := h.later (new_below w o)
theorem Lf.drew {n m : Nat} {w : World} {v : Value} {xs : List Int} (h : Lf n m w v xs) : Lf n m w.drew v xs := h.keep (Nat.le_refl _) fun _ _ _ => rfl
theorem Lf.asideL {n m k : Nat} {w : World} {v : Value} {xs : List Int} (h : Lf n m w v xs) (hk : n ≤ k ∧ k < m) (p : Nat) (vs : List Value) : Lf n m (w.setCells k p vs) v xs :=
  h.keep (by rw [size_setCells]; exact Nat.le_refl _) fun b h1 _ => heap_setCells (by omega) _ _ _
theorem Lf.aside {n m : Nat} {w : World} {v : Value} {xs : List Int} (h : Lf n m w v xs) {p : Addr} (hp : n ≤ p.block ∧ p.block < m) (u : Value) : Lf n m (w.setCell p u) v xs :=
  h.keep (by simp [World.setCell]) fun b h1 _ => Below.heap_setCell _ _ _ _ (by omega)
theorem Lf.of_made {n m : Nat} {w w' : World} {v v' : Value} {xs ys : List Int} (h : Lf n m w' v xs) (hm : m ≤ w.heap.size) (hv : (v' = v ∧ ys = xs) ∨ IsL w.heap.size w' v' ys) : Lf n m w' v' ys := by
  rcases hv with ⟨rfl, rfl⟩ | hv
  · exact h
  · exact Lf.made hv hm
theorem tw_all {u : Tb} (hk : ∀ i, i < 8 → 0 ≤ u.k i) (hv : ∀ i, i < 8 → 0 ≤ u.v i) : u.all = (tbl (tw u)).all := by
  unfold Tb.all
  refine List.map_congr_left fun j hj => ?_
  have hj : j < 16 := by simpa using hj
  have h1 := hk (j / 2) (by omega)
  have h2 := hv (j / 2) (by omega)
  unfold Tb.at tbl tw
  by_cases e : j % 2 = 0
  · simp only [e, if_true]
    rw [if_pos (by omega), if_pos (by omega), show 2 * (j / 2) / 2 = j / 2 by omega]
    congr 1; omega
  · simp only [e, if_false]
    rw [if_pos (by omega), if_neg (by omega), show (2 * (j / 2) + 1) / 2 = j / 2 by omega]
    congr 1; omega
theorem tg_same {k : Int} {v : Value} {t u : Tb} {n : Int} (h : t.all = u.all) : tg k v t n = tg k v u n := by unfold tg; rw [h]
/-- The slots of a thing, written. -/
theorem tg_tab (k : Int) (v : Value) (t u : Tb) (n : Int) {j : Nat} : (tg k v u n)[j]? = if 2 ≤ j ∧ j < 18 then u.all[j - 2]? else (tg k v t n)[j]? := by
  rcases j with _ | _ | j
  · rfl
  · rfl
  · simp only [tg, List.getElem?_cons_succ]
    by_cases h : j < 16
    · rw [if_pos (by omega), List.getElem?_append, if_pos (by rw [Tb.all_length]; exact h)]; rfl
    · rw [if_neg (by omega), List.getElem?_append, List.getElem?_append, if_neg (by rw [Tb.all_length]; exact h), if_neg (by rw [Tb.all_length]; exact h), Tb.all_length, Tb.all_length]
theorem Bo.setTab {w : World} {b : Nat} {k : Int} {v : Value} {t : Tb} {n : Int} (h : Bo w b (tg k v t n)) (u : Tb) : Bo (w.setCells b 2 u.all) b (tg k v u n) where
  cell j y hy := by
    rw [tg_tab k v t u n] at hy
    by_cases hj : 2 ≤ j ∧ j < 18
    · rw [if_pos hj] at hy
      have hl : j - 2 < u.all.length := by rw [Tb.all_length]; omega
      have := World.cell?_setCells_in b u.all 2 w (fun m hm => by
        rw [Tb.all_length] at hm
        rw [h.cell (2 + m) _ (tg_at k v t n hm)]; rfl) (j - 2) hl
      rw [show 2 + (j - 2) = j by omega] at this
      rw [this]
      rw [List.getElem?_eq_getElem hl] at hy
      exact hy
    · rw [if_neg hj] at hy
      rw [World.cell?_setCells_out]
      · exact h.cell j y hy
      · intro _ _
        show j < 2 ∨ 2 + u.all.length ≤ j
        rw [Tb.all_length]
        omega
  froz j := by rw [World.frozen?_setCells]; exact h.froz j
  lt := by rw [size_setCells]; exact h.lt
theorem Bo.thereTab {w : World} {b : Nat} {k : Int} {v : Value} {t : Tb} {n : Int} (h : Bo w b (tg k v t n)) (u : Tb) : w.there b 2 u.all.toArray.size := fun j hj => by
  rw [List.size_toArray, Tb.all_length] at hj
  exact ⟨by rw [h.cell (2 + j) _ (tg_at k v t n hj)]; rfl, h.froz _⟩
end Go.Proofs.YtbmgjpdfmgcigabDoor.Tab
