/- What the keepers' walks carry from world to world: answers in blocks of their own, lists that are written out. -/
import Derived.Test.YtbmgjpdfmgcigabDoorQd
namespace Go.Proofs.YtbmgjpdfmgcigabDoor
set_option maxRecDepth 20000
open Go.RowKit

/-- The answer (c, y) lies in block n. -/
structure Bx (n : Nat) (c y : Int) (w : World) : Prop where
  lt : n < w.heap.size
  c0 : w.cell? ⟨n, 0, none⟩ = some (.int .i64 c)
  c1 : w.cell? ⟨n, 1, none⟩ = some (.int .i64 y)
  f0 : w.frozen? ⟨n, 0, none⟩ = false
  f1 : w.frozen? ⟨n, 1, none⟩ = false
theorem Bx.later {n : Nat} {c y : Int} {w w' : World} (h : Bx n c y w) (hb : Below w.heap.size w w') : Bx n c y w' where
  lt := Nat.lt_of_lt_of_le h.lt hb.size
  c0 := by rw [hb.cell (p := ⟨n, 0, none⟩) h.lt]; exact h.c0
  c1 := by rw [hb.cell (p := ⟨n, 1, none⟩) h.lt]; exact h.c1
  f0 := by rw [World.frozen?_of_block (hb.block n h.lt)]; exact h.f0
  f1 := by rw [World.frozen?_of_block (hb.block n h.lt)]; exact h.f1
theorem Bx.born (w : World) (c y : Int) (t : TypeId) : Bx w.heap.size c y (w.alloc (.cells #[.int .i64 c, .int .i64 y] t)) where
  lt := by simp
  c0 := by simp
  c1 := by simp
  f0 := by simp
  f1 := by simp
theorem Bx.bornAt (w : World) (c y : Int) (t : TypeId) {n : Nat} (h : n = w.heap.size) : Bx n c y (w.alloc (.cells #[.int .i64 c, .int .i64 y] t)) := h ▸ Bx.born w c y t

/-- w' has all that w had. -/
def Gd (w w' : World) : Prop := Below w.heap.size w w'
theorem Gd.refl (w : World) : Gd w w := Below.refl _ _
theorem Gd.later {w a b : World} (h : Gd w a) (hb : Below a.heap.size a b) : Gd w b := Below.trans h (hb.mono (Below.size h))
theorem new_below (w : World) (o : Obj) : Below w.heap.size w (w.alloc o) := (Below.refl _ w).alloc (Nat.le_refl _) o
theorem Gd.new {w a : World} (h : Gd w a) (o : Obj) : Gd w (a.alloc o) := h.later (new_below a o)
theorem IsL.new {B : Nat} {w : World} {v : Value} {xs : List Int} (h : IsL B w v xs) (o : Obj) : IsL B (w.alloc o) v xs := h.later (new_below w o)
theorem Bx.new {n : Nat} {c y : Int} {w : World} (h : Bx n c y w) (o : Obj) : Bx n c y (w.alloc o) := h.later (new_below w o)
theorem IsL.any {B : Nat} {w : World} {v : Value} {xs : List Int} (h : IsL B w v xs) : IsL 0 w v xs := h.mono (Nat.zero_le _)

theorem IsL.lit (w : World) (cs : List Int) (h : 0 < cs.length) : IsL 0 (w.alloc (.cells (cs.map (Value.int .i64)).toArray 3)) (.slice (some ⟨w.heap.size, 0, none⟩) cs.length cs.length) cs :=
  Or.inr ⟨_, 0, _, rfl, Nat.zero_le _, h, Nat.le_refl _, fun j hj => by simp [List.getD, hj], fun h0 => absurd h0 (by decide)⟩
theorem IsL.litAt (w : World) (cs : List Int) (h : 0 < cs.length) {n : Nat} (hn : n = w.heap.size) : IsL 0 (w.alloc (.cells (cs.map (Value.int .i64)).toArray 3)) (.slice (some ⟨n, 0, none⟩) cs.length cs.length) cs := hn ▸ IsL.lit w cs h

theorem IsL.formp {B : Nat} {w : World} {v : Value} {xs : List Int} (h : IsL B w v xs) (h0 : 0 < xs.length) : ∃ b off c, v = .slice (some ⟨b, off, none⟩) xs.length c := by
  rcases h with ⟨rfl, _⟩ | ⟨b, off, c, rfl, _⟩
  · simp at h0
  · exact ⟨b, off, c, rfl⟩
theorem IsL.at {B : Nat} {w : World} {xs : List Int} {b off c i : Nat} (h : IsL B w (.slice (some ⟨b, off, none⟩) xs.length c) xs) (hi : i < xs.length) : w.cell? ⟨b, off + i, none⟩ = some (.int .i64 (xs.getD i 0)) := by
  rcases h with ⟨rfl, _⟩ | ⟨b', off', c', h1, _, _, _, h4, _⟩
  · simp at hi
  · injection h1 with h1 _ h3
    injection h1 with h1
    injection h1 with h1 h2
    subst h1 h2
    exact h4 i hi
theorem IsL.frz {B : Nat} {w : World} {xs : List Int} {b off c i : Nat} (h : IsL B w (.slice (some ⟨b, off, none⟩) xs.length c) xs) (h0 : 0 < B) (hi : i < xs.length) : w.frozen? ⟨b, off + i, none⟩ = false := by
  rcases h with ⟨rfl, _⟩ | ⟨b', off', c', h1, _, _, _, _, h4⟩
  · simp at hi
  · injection h1 with h1 _ h3
    injection h1 with h1
    injection h1 with h1 h2
    subst h1 h2
    exact h4 h0 i hi
theorem take_more (l : List Int) (i : Nat) (h : i < l.length) : l.take i ++ [l.getD i 0] = l.take (i + 1) := by
  rw [List.take_add_one]
  simp [List.getD, h]
theorem drop_one (l : List Int) (i : Nat) (h : i < l.length) : l.drop i = l.getD i 0 :: l.drop (i + 1) := by
  rw [List.drop_eq_getElem_cons h]
  simp [List.getD, h]
/-- An answer that is written into its block. -/
theorem Bx.put {n : Nat} {c y c' y' : Int} {w W : World} (h : Bx n c y W) (hn : w.heap.size ≤ n) (g : Gd w W) : Bx n c' y' ((W.setCell ⟨n, 0, none⟩ (.int .i64 c')).setCell ⟨n, 1, none⟩ (.int .i64 y')) ∧ Gd w ((W.setCell ⟨n, 0, none⟩ (.int .i64 c')).setCell ⟨n, 1, none⟩ (.int .i64 y')) := by
  have d0 := World.cell?_setCell_same W ⟨n, 0, none⟩ (.int .i64 c') h.c0
  have d1 : (W.setCell ⟨n, 0, none⟩ (.int .i64 c')).cell? ⟨n, 1, none⟩ = some (.int .i64 y) := by rw [World.cell?_setCell_other]; exact h.c1; simp
  refine ⟨⟨by simpa using h.lt, ?_, World.cell?_setCell_same _ _ _ d1, ?_, ?_⟩, (Below.setCell g hn _).setCell hn _⟩
  · rw [World.cell?_setCell_other]
    · exact d0
    · simp
  · simpa using h.f0
  · simpa using h.f1

/-- The first things of a list, where it lies. -/
theorem IsL.cut {B : Nat} {w : World} {v : Value} {l r : List Int} (h : IsL B w v (l ++ r)) (hr : 0 < r.length) : ∃ b off c, v = .slice (some ⟨b, off, none⟩) (l.length + r.length) c ∧ l.length + r.length ≤ c ∧ IsL B w (.slice (some ⟨b, off, none⟩) l.length c) l := by
  rcases h with ⟨h, _⟩ | ⟨b, off, c, rfl, hB, h0, hc, hcell, hfz⟩
  · simp at h
    simp [h.2] at hr
  · rw [List.length_append] at h0 hc ⊢
    refine ⟨b, off, c, rfl, hc, ?_⟩
    by_cases hl : l.length = 0
    · have : l = [] := List.eq_nil_of_length_eq_zero hl
      subst this
      exact IsL.nil _ _ _ _
    · refine Or.inr ⟨b, off, c, rfl, hB, by omega, by omega, fun j hj => ?_, fun h0 j hj => hfz h0 j (by simp; omega)⟩
      rw [hcell j (by simp; omega)]
      simp [List.getD, List.getElem?_append_left hj]
end Go.Proofs.YtbmgjpdfmgcigabDoor
