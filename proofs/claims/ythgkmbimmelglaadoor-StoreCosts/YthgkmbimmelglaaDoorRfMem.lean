/- The memory of the reference's store: its 147 cells and its map; worlds of which these two blocks alone have turned. -/
import Derived.Test.YthgkmbimmelglaaDoorRfMap
namespace Go.Proofs.YthgkmbimmelglaaDoor
open Go.RowKit

/-- The reference's cells, in order. -/
def St.rat (s : St) (m j : Nat) : Value :=
  if j < 72 then .int .u64 (s.now j) else if j < 144 then .int .u64 (s.good (j - 72)) else if j = 144 then .map (some m) else if j = 145 then .int .i64 s.fl else .int .i64 s.fe

structure RfAt (w : World) (r m : Nat) (s : St) : Prop where
  cell : ∀ j, j < 147 → w.cell? ⟨r, j, none⟩ = some (s.rat m j)
  froz : ∀ j, w.frozen? ⟨r, j, none⟩ = false
  wants : Wants w m s.want

theorem RfAt.lt {w : World} {r m : Nat} {s : St} (h : RfAt w r m s) : r < w.heap.size := World.block_lt_of_cell? w ⟨r, 0, none⟩ (h.cell 0 (by decide))
theorem Wants.lt {w : World} {m : Nat} {f : Nat → Bool} (h : Wants w m f) : m < w.heap.size := by
  obtain ⟨es, c, ks, hm, _⟩ := h
  exact (Array.getElem?_eq_some_iff.1 hm).1
theorem RfAt.ne {w : World} {r m : Nat} {s : St} (h : RfAt w r m s) : r ≠ m := by
  intro e; subst e
  obtain ⟨es, c, ks, hm, _⟩ := h.wants
  have := h.cell 0 (by decide)
  simp [World.cell?, hm] at this
theorem RfAt.nowc {w : World} {r m : Nat} {s : St} (h : RfAt w r m s) {a : Nat} (ha : a < 72) : w.cell? ⟨r, a, none⟩ = some (.int .u64 (s.now a)) := by
  rw [h.cell a (by omega)]; simp [St.rat, ha]
theorem RfAt.goodc {w : World} {r m : Nat} {s : St} (h : RfAt w r m s) {a : Nat} (ha : a < 72) : w.cell? ⟨r, 72 + a, none⟩ = some (.int .u64 (s.good a)) := by
  rw [h.cell _ (by omega)]; simp [St.rat, show ¬ 72 + a < 72 by omega, show 72 + a < 144 by omega]
theorem RfAt.mapc {w : World} {r m : Nat} {s : St} (h : RfAt w r m s) : w.cell? ⟨r, 144, none⟩ = some (.map (some m)) := h.cell 144 (by decide)
theorem RfAt.flc {w : World} {r m : Nat} {s : St} (h : RfAt w r m s) : w.cell? ⟨r, 145, none⟩ = some (.int .i64 s.fl) := h.cell 145 (by decide)
theorem RfAt.fec {w : World} {r m : Nat} {s : St} (h : RfAt w r m s) : w.cell? ⟨r, 146, none⟩ = some (.int .i64 s.fe) := h.cell 146 (by decide)

/-- Of w blocks r and m alone have turned; there may be new ones. -/
structure Two (r m : Nat) (w w' : World) : Prop where
  os : w'.os = w.os
  tape : w'.tape = w.tape
  output : w'.output = w.output
  size : w.heap.size ≤ w'.heap.size
  block : ∀ k, k < w.heap.size → k ≠ r → k ≠ m → w'.heap[k]? = w.heap[k]?
  froz : ∀ a, w'.frozen? a = w.frozen? a

theorem Two.refl (r m : Nat) (w : World) : Two r m w w := ⟨rfl, rfl, rfl, Nat.le_refl _, fun _ _ _ _ => rfl, fun _ => rfl⟩
theorem Two.trans {r m : Nat} {a c d : World} (h : Two r m a c) (k : Two r m c d) : Two r m a d :=
  ⟨k.os.trans h.os, k.tape.trans h.tape, k.output.trans h.output, Nat.le_trans h.size k.size,
    fun i hi h1 h2 => (k.block i (Nat.lt_of_lt_of_le hi h.size) h1 h2).trans (h.block i hi h1 h2), fun x => (k.froz x).trans (h.froz x)⟩
theorem Only.two {r : Nat} {w w' : World} (h : Only r w w') (m : Nat) : Two r m w w' := ⟨h.os, h.tape, h.output, h.size, fun k hk h1 _ => h.block k hk h1, h.froz⟩
theorem frozen_setM {w : World} {m : Nat} {es es' : Array MapEntry} {c c' : Nat} (h : w.heap[m]? = some (.map es c)) (a : Addr) : (setM w m (.map es' c')).frozen? a = w.frozen? a := by
  by_cases e : a.block = m
  · simp [World.frozen?, e, setM_same h, h]
  · simp [World.frozen?, setM_other w _ e]
theorem Two.setM {r m : Nat} {w : World} {es es' : Array MapEntry} {c c' : Nat} (h : w.heap[m]? = some (.map es c)) : Two r m w (setM w m (.map es' c')) :=
  ⟨rfl, rfl, rfl, by simp [Go.Proofs.YthgkmbimmelglaaDoor.setM], fun k _ _ h2 => setM_other w _ h2, frozen_setM h⟩
theorem Two.gr {r m : Nat} {a w w' : World} (h : Two r m a w) (g : Gr w w') : Two r m a w' :=
  h.trans ⟨g.below.os, g.below.tape, g.below.output, g.below.size, fun k hk _ _ => g.below.block k hk, g.froz⟩
theorem Gr.two {r m : Nat} {a w w' : World} (g : Gr a w) (hr : a.heap.size ≤ r) (hm : a.heap.size ≤ m) (h : Two r m w w') : Gr a w' :=
  ⟨⟨h.os.trans g.below.os, h.tape.trans g.below.tape, h.output.trans g.below.output, Nat.le_trans g.below.size h.size,
    fun k hk => (h.block k (Nat.lt_of_lt_of_le hk g.below.size) (by omega) (by omega)).trans (g.below.block k hk)⟩, fun x => (h.froz x).trans (g.froz x)⟩
theorem StAt.two {w w' : World} {b r m : Nat} {s : St} (h : StAt w b s) (hr : b ≠ r) (hm : b ≠ m) (o : Two r m w w') : StAt w' b s := h.keep (o.block b h.lt hr hm)
theorem range_two {w w' : World} {n o r m : Nat} {cs : List Value} (h : w.rangeAt n o cs) (hr : n ≠ r) (hm : n ≠ m) (k : Two r m w w') : w'.rangeAt n o cs := fun j v hv => by
  have c := h j v hv
  rw [World.cell?_of_block (w := w) (k.block n (World.block_lt_of_cell? w _ c) hr hm)]; exact c

theorem Wants.keep {w w' : World} {m : Nat} {f : Nat → Bool} (h : Wants w m f) (e : w'.heap[m]? = w.heap[m]?) : Wants w' m f := by
  obtain ⟨es, c, ks, hm, r⟩ := h
  exact ⟨es, c, ks, e.trans hm, r⟩
theorem RfAt.keep {w w' : World} {r m : Nat} {s : St} (h : RfAt w r m s) (e : w'.heap[r]? = w.heap[r]?) (e' : w'.heap[m]? = w.heap[m]?) : RfAt w' r m s :=
  ⟨fun j hj => by rw [World.cell?_of_block (w := w) e]; exact h.cell j hj, fun j => by rw [World.frozen?_of_block (w := w) e]; exact h.froz j, h.wants.keep e'⟩
theorem RfAt.gr {w w' : World} {r m : Nat} {s : St} (h : RfAt w r m s) (g : Gr w w') : RfAt w' r m s := h.keep (g.below.block r h.lt) (g.below.block m h.wants.lt)
theorem RfAt.only {w w' : World} {r m b : Nat} {s : St} (h : RfAt w r m s) (hr : r ≠ b) (hm : m ≠ b) (o : Only b w w') : RfAt w' r m s := h.keep (o.block r h.lt hr) (o.block m h.wants.lt hm)
theorem RfAt.drew {w : World} {r m : Nat} {s : St} (h : RfAt w r m s) : RfAt w.drew r m s := ⟨h.cell, h.froz, h.wants⟩
theorem RfAt.drewN {w : World} {r m : Nat} {s : St} (h : RfAt w r m s) (q : Nat) : RfAt (w.drewN q) r m s := ⟨h.cell, h.froz, h.wants⟩

theorem RfAt.setCell {w : World} {r m : Nat} {s : St} (h : RfAt w r m s) (o : Nat) (v : Value) (ho : o < 147) (s' : St) (hs : ∀ j, j < 147 → s'.rat m j = if j = o then v else s.rat m j) (hw : s'.want = s.want) :
    RfAt (w.setCell ⟨r, o, none⟩ v) r m s' where
  cell j hj := by
    by_cases e : j = o
    · subst e; rw [World.cell?_setCell_same _ _ _ (h.cell j hj), hs j hj]; simp
    · rw [World.cell?_setCell_other, h.cell j hj, hs j hj]
      · simp [e]
      · intro h; injection h with h1 h2; exact e h2.symm
  froz j := by rw [World.frozen?_setCell]; exact h.froz j
  wants := by rw [hw]; exact h.wants.keep (Below.heap_setCell _ _ _ _ (Ne.symm h.ne))

theorem RfAt.setCells {w : World} {r m : Nat} {s : St} (h : RfAt w r m s) (o : Nat) (vs : List Value) (ho : o + vs.length ≤ 147) (s' : St)
    (h1 : ∀ i (hi : i < vs.length), s'.rat m (o + i) = vs[i]) (h2 : ∀ j, j < 147 → j < o ∨ o + vs.length ≤ j → s'.rat m j = s.rat m j) (hw : s'.want = s.want) :
    RfAt (w.setCells r o vs) r m s' where
  cell j hj := by
    by_cases e : o ≤ j ∧ j < o + vs.length
    · obtain ⟨i, rfl⟩ : ∃ i, j = o + i := ⟨j - o, by omega⟩
      have hi : i < vs.length := by omega
      rw [World.cell?_setCells_in r vs o w (fun k hk => by rw [h.cell _ (by omega)]; rfl) i hi, h1 i hi]
    · rw [World.cell?_setCells_out r vs o w ⟨r, j, none⟩ (fun _ _ => by show j < o ∨ o + vs.length ≤ j; omega), h.cell j hj, h2 j hj (by omega)]
  froz j := by rw [World.frozen?_setCells]; exact h.froz j
  wants := by rw [hw]; exact h.wants.keep (((Only.refl r w).setCells vs o).block m h.wants.lt (Ne.symm h.ne))

/-- Another map, another content of the same. -/
theorem RfAt.setM {w : World} {r m : Nat} {s : St} (h : RfAt w r m s) (o : Obj) (f : Nat → Bool) (hf : Wants (setM w m o) m f) : RfAt (setM w m o) r m { s with want := f } :=
  ⟨fun j hj => by rw [World.cell?_of_block (w := w) (setM_other w o h.ne)]; exact h.cell j hj, fun j => by rw [World.frozen?_of_block (w := w) (setM_other w o h.ne)]; exact h.froz j, hf⟩

/-- Two contents that are alike as far as the cells and the wishes go. -/
theorem RfAt.congr {w : World} {r m : Nat} {s s' : St} (h : RfAt w r m s) (h1 : ∀ i, i < 72 → s'.now i = s.now i) (h2 : ∀ i, i < 72 → s'.good i = s.good i) (h3 : ∀ i, i < 36 → s'.want i = s.want i) (h4 : s'.fl = s.fl) (h5 : s'.fe = s.fe) : RfAt w r m s' where
  cell j hj := by
    rw [h.cell j hj]
    unfold St.rat
    by_cases k1 : j < 72
    · simp [k1, h1 j k1]
    · by_cases k2 : j < 144
      · simp [k1, k2, h2 (j - 72) (by omega)]
      · simp [k1, k2, h4, h5]
  froz := h.froz
  wants := by
    obtain ⟨es, c, ks, hm, hi, hn, hf⟩ := h.wants
    exact ⟨es, c, ks, hm, hi, hn, fun t l ht hl => by rw [hf t l ht hl, h3 _ (by omega)]⟩
theorem RfAt.there {w : World} {r m : Nat} {s : St} (h : RfAt w r m s) (o n : Nat) (ho : o + n ≤ 147) : w.there r o n := fun j hj =>
  ⟨by rw [h.cell _ (by omega)]; rfl, h.froz _⟩
theorem RfAt.good_row {w : World} {r m : Nat} {s : St} (h : RfAt w r m s) : w.rangeAt r 72 (row s.good 0 72) := fun j v hv => by
  have hj : j < 72 := by simpa using (List.getElem?_eq_some_iff.1 hv).1
  rw [row_at _ _ _ _ hj] at hv; cases hv
  rw [Nat.zero_add]; exact h.goodc hj
end Go.Proofs.YthgkmbimmelglaaDoor
