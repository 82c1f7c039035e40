/- A line in a variable of its own: it stays as the store is written. -/
import Derived.Test.YthgkmbimmelglaaDoorSt2
namespace Go.Proofs.YthgkmbimmelglaaDoor
open Go.RowKit

theorem range_gr {w w' : World} {n o : Nat} {cs : List Value} (h : w.rangeAt n o cs) (g : Gr w w') : w'.rangeAt n o cs := fun j v hv => by
  have c := h j v hv
  rw [g.below.cell (World.block_lt_of_cell? w _ c)]; exact c
theorem range_only {w w' : World} {n o b : Nat} {cs : List Value} (h : w.rangeAt n o cs) (hn : n ≠ b) (k : Only b w w') : w'.rangeAt n o cs := fun j v hv => by
  have c := h j v hv
  rw [World.cell?_of_block (w := w) (k.block n (World.block_lt_of_cell? w _ c) hn)]; exact c
theorem range_drew {w : World} {n o : Nat} {cs : List Value} (h : w.rangeAt n o cs) : w.drew.rangeAt n o cs := fun j v hv => h j v hv
theorem Gr.drewN {a b : World} (h : Gr a b) (q : Nat) : Gr a (b.drewN q) := ⟨⟨h.below.os, h.below.tape, h.below.output, h.below.size, h.below.block⟩, h.froz⟩
theorem loc_born (u : World) (c : Array Value) (t : TypeId) (f : Nat → Int) (o : Nat) (hc : c.size = 8) :
    Gr u ((u.alloc (.cells c t)).setCells u.heap.size 0 (row f o 8)) ∧ ((u.alloc (.cells c t)).setCells u.heap.size 0 (row f o 8)).rangeAt u.heap.size 0 (row f o 8) :=
  ⟨Gr.setCells (Nat.le_refl _) _ _ ((Gr.refl u).alloc _ _), World.rangeAt_setCells_same _ _ _ _ (there_new _ _ _ _ (by rw [hc, row_length]))⟩
theorem line_size2 (f : Nat → Int) (o : Nat) : (Tryd.prog.info? 41).map (·.size) = some (row f o 8).toArray.size := by rw [List.size_toArray]; exact line_size f o
theorem row_all (f : Nat → Int) (o : Nat) : (row f o 8).toArray.all (·.oneCell') = true := all_oneCell_toArray (row_one f o 8)
theorem row_there (w : World) (c : Array Value) (t : TypeId) (f : Nat → Int) (o : Nat) (h : c.size = 8) : (w.alloc (.cells c t)).there w.heap.size 0 (row f o 8).toArray.size :=
  there_row w c t _ (by rw [h, row_length])
theorem Gr.lt {w w' : World} (g : Gr w w') {n : Nat} (h : n < w.heap.size) : n < w'.heap.size := Nat.lt_of_lt_of_le h g.below.size

theorem same_now_fence (s : St) (t l i : Nat) (hi : i < 8) : ((s.wish t l).fence t).good (l * 8 + i) = s.now (l * 8 + i) := by
  simp [St.fence, St.wish, show (l * 8 + i) / 8 = l by omega]
theorem same_fence (s : St) (t l : Nat) : same ((s.wish t l).fence t).good (l * 8) s.now (l * 8) 8 = true := same_of _ _ _ _ _ fun i hi => same_now_fence s t l i hi
theorem same_clean (s : St) (t l : Nat) : same ((s.wish t l).fence t).now (l * 8) ((s.wish t l).fence t).good (l * 8) 8 = true := same_of _ _ _ _ _ fun i hi => by
  rw [same_now_fence s t l i hi]; rfl
theorem same_crash (s : St) (t l x : Nat) : same (((s.wish t l).fence t).crash x).now (l * 8) s.now (l * 8) 8 = true := same_of _ _ _ _ _ fun i hi => by
  have h := same_now_fence s t l i hi
  simp only [St.crash, St.landed]
  split
  · rfl
  · exact h

/-- A line behind a crash: as it was now, or for good. -/
theorem crash_now (s : St) (l x i : Nat) (hi : i < 8) : (s.crash x).now (l * 8 + i) = if x.testBit l then s.now (l * 8 + i) else s.good (l * 8 + i) := by
  simp [St.crash, St.landed, show (l * 8 + i) / 8 = l by omega]
theorem crash_good (s : St) (l x i : Nat) (hi : i < 8) : (s.crash x).good (l * 8 + i) = if x.testBit l then s.now (l * 8 + i) else s.good (l * 8 + i) := crash_now s l x i hi
theorem crash_twice (s : St) (l x y i : Nat) (hi : i < 8) : ((s.crash x).crash y).now (l * 8 + i) = if x.testBit l then s.now (l * 8 + i) else s.good (l * 8 + i) := by
  rw [crash_now _ l y i hi, crash_now s l x i hi, crash_good s l x i hi]; simp
theorem crash_clean (s : St) (l x : Nat) : same (s.crash x).now (l * 8) (s.crash x).good (l * 8) 8 = true := same_of _ _ _ _ _ fun _ _ => rfl
theorem same_either (s : St) (l x : Nat) (f : Nat → Int) (hf : f = if x.testBit l then s.now else s.good) : same (s.crash x).now (l * 8) f (l * 8) 8 = true := same_of _ _ _ _ _ fun i hi => by
  rw [crash_now s l x i hi, hf]; split <;> rfl
theorem same_twice (s : St) (l x y : Nat) (f : Nat → Int) (hf : f = if x.testBit l then s.now else s.good) : same ((s.crash x).crash y).now (l * 8) f (l * 8) 8 = true := same_of _ _ _ _ _ fun i hi => by
  rw [crash_twice s l x y i hi, hf]; split <;> rfl

theorem Save_at (z : Int) (a b : Nat) (x : Int) (s : St) (w : World) (hz : z = (a : Nat)) (ha : a < 72) (hs : StAt w b s) :
    Calls Tryd.prog 16 #[.pointer (some ⟨b, 0, none⟩), .int .i64 z, .int .u64 x] w fun e w' => e = .returned .nilIface ∧ StAt w' b (s.save a x) ∧ Only b w w' := by
  subst hz; exact Save_yes a b x s w ha hs

theorem later_now (s : St) (t l k : Nat) (x : Int) (hk : k < 8) : ((((s.wish t l).save (l * 8 + k) x).fence t).crash 0).now (l * 8 + k) = x := by
  simp [St.crash, St.landed, St.fence, St.save, St.wish, show (l * 8 + k) / 8 = l by omega]

/-- What is wanted alone, and what others fence, is for good as it was. -/
theorem wishes_good (s : St) (t o l a i : Nat) (x : Int) (hi : i < 8) (ho : o ≠ t) : ((((s.crash 0).save a x).wish t l).fence o).good (l * 8 + i) = (s.crash 0).good (l * 8 + i) := by
  simp [St.fence, St.wish, St.save, St.crash, show (l * 8 + i) / 8 = l by omega]
  omega
theorem crash0_now (s : St) (i : Nat) : (s.crash 0).now i = s.good i := by simp [St.crash, St.landed]

/-- A line's variable is written anew. -/
theorem loc_again {w u : World} {n : Nat} {f : Nat → Int} {o : Nat} (g : Gr w u) (hn : w.heap.size ≤ n) (h : u.rangeAt n 0 (row f o 8)) (f' : Nat → Int) (o' : Nat) :
    u.there n 0 (row f' o' 8).toArray.size ∧ (u.setCells n 0 (row f' o' 8)).rangeAt n 0 (row f' o' 8) ∧ Only n u (u.setCells n 0 (row f' o' 8)) ∧ Gr w (u.setCells n 0 (row f' o' 8)) := by
  have th : u.there n 0 (row f' o' 8).length := fun j hj => by
    have hj' : j < 8 := by simpa using hj
    exact ⟨by rw [h j _ (row_at f o 8 j hj')]; rfl, (g.froz _).trans (frozen_past w hn)⟩
  exact ⟨by simpa using th, World.rangeAt_setCells_same _ _ _ _ th, (Only.refl n u).setCells _ _, Gr.setCells hn _ _ g⟩
end Go.Proofs.YthgkmbimmelglaaDoor
