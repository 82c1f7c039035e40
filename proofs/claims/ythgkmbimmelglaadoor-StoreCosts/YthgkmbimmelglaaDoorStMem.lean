/- The memory of a store: what its 182 cells hold, and worlds of which one block alone has turned: facts of no program. -/
import Derived.Test.YthgkmbimmelglaaDoorBase
import Derived.Deep.MidRow
import Derived.Deep.Draws
namespace Go.Proofs.YthgkmbimmelglaaDoor
open Go.RowKit

/-- What a store holds: its words now and for good, what its threads want (nine a thread), its two counts. -/
structure St where
  now : Nat → Int
  good : Nat → Int
  want : Nat → Bool
  fl : Int
  fe : Int

/-- The store's cells, in order. -/
def St.at (s : St) (j : Nat) : Value :=
  if j < 72 then .int .u64 (s.now j) else if j < 144 then .int .u64 (s.good (j - 72)) else if j < 180 then .bool (s.want (j - 144))
  else if j = 180 then .int .i64 s.fl else .int .i64 s.fe

theorem St.at_one (s : St) (j : Nat) : (s.at j).oneCell' = true := by unfold St.at; repeat' split
                                                                      all_goals rfl
theorem St.at_now (s : St) {a : Nat} (h : a < 72) : s.at a = .int .u64 (s.now a) := by simp [St.at, h]
theorem St.at_good (s : St) {a : Nat} (h : a < 72) : s.at (72 + a) = .int .u64 (s.good a) := by
  simp [St.at, show ¬ 72 + a < 72 by omega, show 72 + a < 144 by omega]
theorem St.at_want (s : St) {a : Nat} (h : a < 36) : s.at (144 + a) = .bool (s.want a) := by
  simp [St.at, show ¬ 144 + a < 72 by omega, show 144 + a < 180 by omega]
theorem St.at_fl (s : St) : s.at 180 = .int .i64 s.fl := rfl
theorem St.at_fe (s : St) : s.at 181 = .int .i64 s.fe := rfl

/-- The store lies in block b, and may be written. -/
structure StAt (w : World) (b : Nat) (s : St) : Prop where
  cell : ∀ j, j < 182 → w.cell? ⟨b, j, none⟩ = some (s.at j)
  froz : ∀ j, w.frozen? ⟨b, j, none⟩ = false

theorem StAt.lt {w : World} {b : Nat} {s : St} (h : StAt w b s) : b < w.heap.size := World.block_lt_of_cell? w ⟨b, 0, none⟩ (h.cell 0 (by decide))
theorem StAt.nowc {w : World} {b : Nat} {s : St} (h : StAt w b s) {a : Nat} (ha : a < 72) : w.cell? ⟨b, a, none⟩ = some (.int .u64 (s.now a)) := by
  rw [h.cell a (by omega), s.at_now ha]
theorem StAt.goodc {w : World} {b : Nat} {s : St} (h : StAt w b s) {a : Nat} (ha : a < 72) : w.cell? ⟨b, 72 + a, none⟩ = some (.int .u64 (s.good a)) := by
  rw [h.cell _ (by omega), s.at_good ha]
theorem StAt.wantc {w : World} {b : Nat} {s : St} (h : StAt w b s) {a : Nat} (ha : a < 36) : w.cell? ⟨b, 144 + a, none⟩ = some (.bool (s.want a)) := by
  rw [h.cell _ (by omega), s.at_want ha]
theorem StAt.flc {w : World} {b : Nat} {s : St} (h : StAt w b s) : w.cell? ⟨b, 180, none⟩ = some (.int .i64 s.fl) := h.cell 180 (by decide)
theorem StAt.fec {w : World} {b : Nat} {s : St} (h : StAt w b s) : w.cell? ⟨b, 181, none⟩ = some (.int .i64 s.fe) := h.cell 181 (by decide)

/-- Of w block b alone has turned; there may be new ones. -/
structure Only (b : Nat) (w w' : World) : Prop where
  os : w'.os = w.os
  tape : w'.tape = w.tape
  output : w'.output = w.output
  size : w.heap.size ≤ w'.heap.size
  block : ∀ k, k < w.heap.size → k ≠ b → w'.heap[k]? = w.heap[k]?
  froz : ∀ a, w'.frozen? a = w.frozen? a

theorem Only.refl (b : Nat) (w : World) : Only b w w := ⟨rfl, rfl, rfl, Nat.le_refl _, fun _ _ _ => rfl, fun _ => rfl⟩
theorem Only.trans {b : Nat} {a c d : World} (h : Only b a c) (k : Only b c d) : Only b a d :=
  ⟨k.os.trans h.os, k.tape.trans h.tape, k.output.trans h.output, Nat.le_trans h.size k.size,
    fun i hi hb => (k.block i (Nat.lt_of_lt_of_le hi h.size) hb).trans (h.block i hi hb), fun x => (k.froz x).trans (h.froz x)⟩
theorem Only.setCell {b : Nat} {a w : World} (h : Only b a w) (o : Nat) (v : Value) : Only b a (w.setCell ⟨b, o, none⟩ v) :=
  h.trans ⟨rfl, rfl, rfl, by simp [World.setCell], fun k _ hb => Below.heap_setCell _ _ _ _ hb, fun x => World.frozen?_setCell _ _ _ _⟩
theorem Only.setCells {b : Nat} : ∀ (vs : List Value) (o : Nat) {a w : World}, Only b a w → Only b a (w.setCells b o vs)
  | [], _, _, _, h => h
  | v :: r, o, _, _, h => by rw [World.setCells]; exact Only.setCells r (o + 1) (h.setCell o v)
theorem Only.drew {b : Nat} {a w : World} (h : Only b a w) : Only b a w.drew := ⟨h.os, h.tape, h.output, h.size, h.block, h.froz⟩
theorem Only.drewN {b : Nat} {a w : World} (h : Only b a w) (q : Nat) : Only b a (w.drewN q) := ⟨h.os, h.tape, h.output, h.size, h.block, h.froz⟩
theorem Only.gr {b : Nat} {a w w' : World} (h : Only b a w) (g : Gr w w') : Only b a w' :=
  h.trans ⟨g.below.os, g.below.tape, g.below.output, g.below.size, fun k hk _ => g.below.block k hk, g.froz⟩
theorem Gr.only {b : Nat} {a w w' : World} (g : Gr a w) (hb : a.heap.size ≤ b) (h : Only b w w') : Gr a w' :=
  ⟨⟨h.os.trans g.below.os, h.tape.trans g.below.tape, h.output.trans g.below.output, Nat.le_trans g.below.size h.size,
    fun k hk => (h.block k (Nat.lt_of_lt_of_le hk g.below.size) (by omega)).trans (g.below.block k hk)⟩, fun x => (h.froz x).trans (g.froz x)⟩

theorem StAt.keep {w w' : World} {b : Nat} {s : St} (h : StAt w b s) (hb : w'.heap[b]? = w.heap[b]?) : StAt w' b s :=
  ⟨fun j hj => by rw [World.cell?_of_block (w := w) hb]; exact h.cell j hj, fun j => by rw [World.frozen?_of_block (w := w) hb]; exact h.froz j⟩
theorem StAt.gr {w w' : World} {b : Nat} {s : St} (h : StAt w b s) (g : Gr w w') : StAt w' b s := h.keep (g.below.block b h.lt)
theorem StAt.only {w w' : World} {b c : Nat} {s : St} (h : StAt w b s) (hc : b ≠ c) (o : Only c w w') : StAt w' b s := h.keep (o.block b h.lt hc)
theorem StAt.drew {w : World} {b : Nat} {s : St} (h : StAt w b s) : StAt w.drew b s := ⟨h.cell, h.froz⟩
theorem StAt.drewN {w : World} {b : Nat} {s : St} (h : StAt w b s) (q : Nat) : StAt (w.drewN q) b s := ⟨h.cell, h.froz⟩

theorem StAt.setCell {w : World} {b : Nat} {s : St} (h : StAt w b s) (o : Nat) (v : Value) (ho : o < 182) (s' : St) (hs : ∀ j, j < 182 → s'.at j = if j = o then v else s.at j) :
    StAt (w.setCell ⟨b, o, none⟩ v) b s' where
  cell j hj := by
    by_cases e : j = o
    · subst e; rw [World.cell?_setCell_same _ _ _ (h.cell j hj), hs j hj]; simp
    · rw [World.cell?_setCell_other, h.cell j hj, hs j hj]
      · simp [e]
      · intro h; injection h with h1 h2; exact e h2.symm
  froz j := by rw [World.frozen?_setCell]; exact h.froz j

theorem StAt.setCells {w : World} {b : Nat} {s : St} (h : StAt w b s) (o : Nat) (vs : List Value) (ho : o + vs.length ≤ 182) (s' : St)
    (h1 : ∀ i (hi : i < vs.length), s'.at (o + i) = vs[i]) (h2 : ∀ j, j < 182 → j < o ∨ o + vs.length ≤ j → s'.at j = s.at j) :
    StAt (w.setCells b o vs) b s' where
  cell j hj := by
    by_cases e : o ≤ j ∧ j < o + vs.length
    · obtain ⟨i, rfl⟩ : ∃ i, j = o + i := ⟨j - o, by omega⟩
      have hi : i < vs.length := by omega
      rw [World.cell?_setCells_in b vs o w (fun k hk => by rw [h.cell _ (by omega)]; rfl) i hi, h1 i hi]
    · rw [World.cell?_setCells_out b vs o w ⟨b, j, none⟩ (fun _ _ => by show j < o ∨ o + vs.length ≤ j; omega), h.cell j hj, h2 j hj (by omega)]
  froz j := by rw [World.frozen?_setCells]; exact h.froz j

theorem StAt.there {w : World} {b : Nat} {s : St} (h : StAt w b s) (o n : Nat) (ho : o + n ≤ 182) : w.there b o n := fun j hj =>
  ⟨by rw [h.cell _ (by omega)]; rfl, h.froz _⟩

/-- n cells of words, numbers of f. -/
def row (f : Nat → Int) (o n : Nat) : List Value := (List.range n).map fun i => .int .u64 (f (o + i))
@[simp] theorem row_length (f : Nat → Int) (o n : Nat) : (row f o n).length = n := by simp [row]
theorem row_at (f : Nat → Int) (o n i : Nat) (h : i < n) : (row f o n)[i]? = some (.int .u64 (f (o + i))) := by simp [row, h]
theorem row_get (f : Nat → Int) (o n i : Nat) (h : i < (row f o n).length) : (row f o n)[i] = .int .u64 (f (o + i)) := by simp [row]
theorem row_one (f : Nat → Int) (o n : Nat) : ∀ v ∈ row f o n, v.oneCell' = true := by
  intro v hv; simp only [row, List.mem_map] at hv; obtain ⟨_, _, rfl⟩ := hv; rfl
theorem StAt.now_row {w : World} {b : Nat} {s : St} (h : StAt w b s) (o n : Nat) (ho : o + n ≤ 72) : w.rangeAt b o (row s.now o n) := fun j v hv => by
  have hj : j < n := by simpa using (List.getElem?_eq_some_iff.1 hv).1
  rw [row_at _ _ _ _ hj] at hv; cases hv
  exact h.nowc (by omega)
theorem StAt.good_row {w : World} {b : Nat} {s : St} (h : StAt w b s) (o n : Nat) (ho : o + n ≤ 72) : w.rangeAt b (72 + o) (row s.good o n) := fun j v hv => by
  have hj : j < n := by simpa using (List.getElem?_eq_some_iff.1 hv).1
  rw [row_at _ _ _ _ hj] at hv; cases hv
  rw [Nat.add_assoc]; exact h.goodc (by omega)

/-! What is done with a store. -/
def St.zero : St := ⟨fun _ => 0, fun _ => 0, fun _ => false, 0, 0⟩
def St.save (s : St) (a : Nat) (x : Int) : St := { s with now := fun i => if i = a then x else s.now i }
def St.wish (s : St) (t l : Nat) : St := { s with want := fun i => if i = 9 * t + l then true else s.want i, fl := wrap64 (s.fl + 1) }
def St.stay (s : St) (l : Nat) : St := { s with good := fun i => if i / 8 = l then s.now i else s.good i }
def St.fence (s : St) (t : Nat) : St :=
  { s with good := fun i => if s.want (9 * t + i / 8) then s.now i else s.good i, want := fun i => if i / 9 = t then false else s.want i, fe := wrap64 (s.fe + 1) }
def St.landed (s : St) (x i : Nat) : Int := if x.testBit (i / 8) then s.now i else s.good i
def St.crash (s : St) (x : Nat) : St := { s with good := s.landed x, now := s.landed x, want := fun _ => false }
end Go.Proofs.YthgkmbimmelglaaDoor
