/- A line in a variable of its own: it stays as the store is written. -/
import Derived.Test.YthgkmbimmelglaaSt2
namespace Go.Proofs.Ythgkmbimmelglaa
open Go.RowKit

theorem range_gr {w w' : World} {n o : Nat} {cs : List Value} (h : w.rangeAt n o cs) (g : Gr w w') : w'.rangeAt n o cs := fun j v hv => by
  have c := h j v hv
  rw [g.below.cell (World.block_lt_of_cell? w _ c)]; exact c
theorem range_only {w w' : World} {n o b : Nat} {cs : List Value} (h : w.rangeAt n o cs) (hn : n ≠ b) (k : Only b w w') : w'.rangeAt n o cs := fun j v hv => by
  have c := h j v hv
  rw [World.cell?_of_block (w := w) (k.block n (World.block_lt_of_cell? w _ c) hn)]; exact c
theorem range_drew {w : World} {n o : Nat} {cs : List Value} (h : w.rangeAt n o cs) : w.drew.rangeAt n o cs := fun j v hv => h j v hv
theorem loc_born (u : World) (c : Array Value) (t : TypeId) (f : Nat → Int) (o : Nat) (hc : c.size = 8) :
    Gr u ((u.alloc (.cells c t)).setCells u.heap.size 0 (row f o 8)) ∧ ((u.alloc (.cells c t)).setCells u.heap.size 0 (row f o 8)).rangeAt u.heap.size 0 (row f o 8) :=
  ⟨Gr.setCells (Nat.le_refl _) _ _ ((Gr.refl u).alloc _ _), World.rangeAt_setCells_same _ _ _ _ (there_new _ _ _ _ (by rw [hc, row_length]))⟩
theorem line_size2 (f : Nat → Int) (o : Nat) : (Try.prog.info? 37).map (·.size) = some (row f o 8).toArray.size := by rw [List.size_toArray]; exact line_size f o
theorem row_all (f : Nat → Int) (o : Nat) : (row f o 8).toArray.all (·.oneCell') = true := all_oneCell_toArray (row_one f o 8)
theorem row_there (w : World) (c : Array Value) (t : TypeId) (f : Nat → Int) (o : Nat) (h : c.size = 8) : (w.alloc (.cells c t)).there w.heap.size 0 (row f o 8).toArray.size :=
  there_row w c t _ (by rw [h, row_length])
theorem Gr.lt {w w' : World} (g : Gr w w') {n : Nat} (h : n < w.heap.size) : n < w'.heap.size := Nat.lt_of_lt_of_le h g.below.size

theorem same_now_fence (s : St) (t l i : Nat) (hi : i < 8) : ((s.wish t l).fence t).good (l * 8 + i) = s.now (l * 8 + i) := by
  simp [St.fence, St.wish, show (l * 8 + i) / 8 = l by omega]
theorem same_fence (s : St) (t l : Nat) : same ((s.wish t l).fence t).good (l * 8) s.now (l * 8) 8 = true := same_of _ _ _ _ _ fun i hi => same_now_fence s t l i hi
theorem same_clean (s : St) (t l : Nat) : same ((s.wish t l).fence t).now (l * 8) ((s.wish t l).fence t).good (l * 8) 8 = true := same_of _ _ _ _ _ fun i hi => by
  rw [same_now_fence s t l i hi]; rfl
theorem same_crash (s : St) (t l x : Nat) : same (((s.wish t l).fence t).crash x).now (l * 8) s.now (l * 8) 8 = true := same_of _ _ _ _ _ fun i hi => by
  have h := same_now_fence s t l i hi
  simp only [St.crash, St.landed]
  split
  · rfl
  · exact h
end Go.Proofs.Ythgkmbimmelglaa
