/- Worlds of which one block alone has turned, and rows of words: facts of no program. -/
import Derived.Test.YtfmgdjnmaphhjaaDoorBase
import Derived.Deep.MidRow
import Derived.Deep.Draws
import Derived.Deep.Slices
namespace Go.Proofs.YtfmgdjnmaphhjaaDoor
open Go.RowKit

/-- Of w block b alone has turned; there may be new ones. -/
structure Only (b : Nat) (w w' : World) : Prop where
  os : w'.os = w.os
  tape : w'.tape = w.tape
  output : w'.output = w.output
  size : w.heap.size ≤ w'.heap.size
  block : ∀ k, k < w.heap.size → k ≠ b → w'.heap[k]? = w.heap[k]?
  froz : ∀ a, w'.frozen? a = w.frozen? a

theorem Only.refl (b : Nat) (w : World) : Only b w w := ⟨rfl, rfl, rfl, Nat.le_refl _, fun _ _ _ => rfl, fun _ => rfl⟩
theorem Only.trans {b : Nat} {a c d : World} (h : Only b a c) (k : Only b c d) : Only b a d :=
  ⟨k.os.trans h.os, k.tape.trans h.tape, k.output.trans h.output, Nat.le_trans h.size k.size,
    fun i hi hb => (k.block i (Nat.lt_of_lt_of_le hi h.size) hb).trans (h.block i hi hb), fun x => (k.froz x).trans (h.froz x)⟩
theorem Only.setCell {b : Nat} {a w : World} (h : Only b a w) (o : Nat) (v : Value) : Only b a (w.setCell ⟨b, o, none⟩ v) :=
  h.trans ⟨rfl, rfl, rfl, by simp [World.setCell], fun k _ hb => Below.heap_setCell _ _ _ _ hb, fun x => World.frozen?_setCell _ _ _ _⟩
theorem Only.setCells {b : Nat} : ∀ (vs : List Value) (o : Nat) {a w : World}, Only b a w → Only b a (w.setCells b o vs)
  | [], _, _, _, h => h
  | v :: r, o, _, _, h => by rw [World.setCells]; exact Only.setCells r (o + 1) (h.setCell o v)
theorem Only.drew {b : Nat} {a w : World} (h : Only b a w) : Only b a w.drew := ⟨h.os, h.tape, h.output, h.size, h.block, h.froz⟩
theorem Only.drewN {b : Nat} {a w : World} (h : Only b a w) (q : Nat) : Only b a (w.drewN q) := ⟨h.os, h.tape, h.output, h.size, h.block, h.froz⟩
theorem Only.gr {b : Nat} {a w w' : World} (h : Only b a w) (g : Gr w w') : Only b a w' :=
  h.trans ⟨g.below.os, g.below.tape, g.below.output, g.below.size, fun k hk _ => g.below.block k hk, g.froz⟩
theorem Gr.only {b : Nat} {a w w' : World} (g : Gr a w) (hb : a.heap.size ≤ b) (h : Only b w w') : Gr a w' :=
  ⟨⟨h.os.trans g.below.os, h.tape.trans g.below.tape, h.output.trans g.below.output, Nat.le_trans g.below.size h.size,
    fun k hk => (h.block k (Nat.lt_of_lt_of_le hk g.below.size) (by omega)).trans (g.below.block k hk)⟩, fun x => (h.froz x).trans (g.froz x)⟩

theorem there_new (w : World) (c : Array Value) (t : TypeId) (n : Nat) (h : c.size = n) : (w.alloc (.cells c t)).there w.heap.size 0 n := fun j hj =>
  ⟨by rw [World.cell?_alloc_new]; simp [h, hj], by rw [frozen?_alloc_cells]; exact frozen_past w (Nat.le_refl _)⟩
theorem Gr.setCells {a : World} {b : Nat} (hb : a.heap.size ≤ b) : ∀ (vs : List Value) (o : Nat) {w : World}, Gr a w → Gr a (w.setCells b o vs)
  | [], _, _, h => h
  | v :: r, o, _, h => by rw [World.setCells]; exact Gr.setCells hb r (o + 1) (h.setCell hb v)

theorem there_row (w : World) (c : Array Value) (t : TypeId) (cs : List Value) (h : c.size = cs.length) : (w.alloc (.cells c t)).there w.heap.size 0 cs.toArray.size :=
  there_new w c t _ (by simpa using h)

/-- Block b begins with n words, f's, and may be written. -/
structure RowAt (w : World) (b n : Nat) (f : Nat → Int) : Prop where
  cell : ∀ j, j < n → w.cell? ⟨b, j, none⟩ = some (.int .u64 (f j))
  froz : ∀ j, w.frozen? ⟨b, j, none⟩ = false

theorem RowAt.lt {w : World} {b n : Nat} {f : Nat → Int} (h : RowAt w b n f) (hn : 0 < n) : b < w.heap.size := World.block_lt_of_cell? w ⟨b, 0, none⟩ (h.cell 0 hn)
theorem RowAt.keep {w w' : World} {b n : Nat} {f : Nat → Int} (h : RowAt w b n f) (hb : w'.heap[b]? = w.heap[b]?) : RowAt w' b n f :=
  ⟨fun j hj => by rw [World.cell?_of_block (w := w) hb]; exact h.cell j hj, fun j => by rw [World.frozen?_of_block (w := w) hb]; exact h.froz j⟩
theorem RowAt.gr {w w' : World} {b n : Nat} {f : Nat → Int} (h : RowAt w b n f) (hl : b < w.heap.size) (g : Gr w w') : RowAt w' b n f := h.keep (g.below.block b hl)
theorem RowAt.only {w w' : World} {b c n : Nat} {f : Nat → Int} (h : RowAt w b n f) (hl : b < w.heap.size) (hc : b ≠ c) (o : Only c w w') : RowAt w' b n f := h.keep (o.block b hl hc)
theorem RowAt.drew {w : World} {b n : Nat} {f : Nat → Int} (h : RowAt w b n f) : RowAt w.drew b n f := ⟨h.cell, h.froz⟩
theorem RowAt.drewN {w : World} {b n : Nat} {f : Nat → Int} (h : RowAt w b n f) (q : Nat) : RowAt (w.drewN q) b n f := ⟨h.cell, h.froz⟩
/-- f with x at k. -/
def upd (f : Nat → Int) (k : Nat) (x : Int) : Nat → Int := fun i => if i = k then x else f i
theorem upd_same (f : Nat → Int) (k : Nat) (x : Int) : upd f k x k = x := by simp [upd]
theorem upd_other (f : Nat → Int) (k : Nat) (x : Int) {i : Nat} (h : i ≠ k) : upd f k x i = f i := by simp [upd, h]
theorem RowAt.set {w : World} {b n : Nat} {f : Nat → Int} (h : RowAt w b n f) (k : Nat) (x : Int) : RowAt (w.setCell ⟨b, k, none⟩ (.int .u64 x)) b n (upd f k x) where
  cell j hj := by
    by_cases e : j = k
    · subst e; rw [World.cell?_setCell_same _ _ _ (h.cell j hj), upd_same]
    · rw [World.cell?_setCell_other, h.cell j hj, upd_other _ _ _ e]
      intro h; injection h with h1 h2; exact e h2.symm
  froz j := by rw [World.frozen?_setCell]; exact h.froz j
theorem RowAt.all {w : World} {b n : Nat} {f : Nat → Int} (h : RowAt w b n f) (vs : List Value) (g : Nat → Int) (hl : vs.length = n) (hv : ∀ j, j < n → vs[j]? = some (.int .u64 (g j))) : RowAt (w.setCells b 0 vs) b n g where
  cell j hj := by
    have e := World.cell?_setCells_in b vs 0 w (fun k hk => by rw [Nat.zero_add, h.cell _ (by omega)]; rfl) j (by omega)
    rw [Nat.zero_add] at e
    rw [e, ← hv j hj, List.getElem?_eq_getElem]
  froz j := by rw [World.frozen?_setCells]; exact h.froz j
theorem RowAt.there {w : World} {b n : Nat} {f : Nat → Int} (h : RowAt w b n f) : w.there b 0 n := fun j hj =>
  ⟨by rw [Nat.zero_add, h.cell _ hj]; rfl, h.froz _⟩
theorem RowAt.born (w : World) (c : Array Value) (n : Nat) (f : Nat → Int) (hc : ∀ j, j < n → c[j]? = some (.int .u64 (f j))) (t : TypeId) : RowAt (w.alloc (.cells c t)) w.heap.size n f where
  cell j hj := by rw [World.cell?_alloc_new]; exact hc j hj
  froz j := by rw [frozen?_alloc_cells]; exact frozen_past w (Nat.le_refl _)
/-- The cells of n words. -/
def row (f : Nat → Int) (o n : Nat) : List Value := (List.range n).map fun i => .int .u64 (f (o + i))
@[simp] theorem row_length (f : Nat → Int) (o n : Nat) : (row f o n).length = n := by simp [row]
theorem row_at (f : Nat → Int) (o n i : Nat) (h : i < n) : (row f o n)[i]? = some (.int .u64 (f (o + i))) := by simp [row, h]
theorem row_one (f : Nat → Int) (o n : Nat) : ∀ v ∈ row f o n, v.oneCell' = true := by
  intro v hv; simp only [row, List.mem_map] at hv; obtain ⟨_, _, rfl⟩ := hv; rfl
theorem RowAt.row {w : World} {b n : Nat} {f : Nat → Int} (h : RowAt w b n f) : w.rangeAt b 0 (row f 0 n) := fun j v hv => by
  have hj : j < n := by simpa using (List.getElem?_eq_some_iff.1 hv).1
  rw [row_at _ _ _ _ hj, Nat.zero_add] at hv; cases hv
  rw [Nat.zero_add]; exact h.cell j hj
end Go.Proofs.YtfmgdjnmaphhjaaDoor
