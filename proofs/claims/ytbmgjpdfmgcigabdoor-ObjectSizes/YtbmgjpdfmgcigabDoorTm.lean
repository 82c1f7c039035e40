/- A table as it lies in memory. -/
import Derived.Test.YtbmgjpdfmgcigabDoorFrm
import Derived.Test.YtbmgjpdfmgcigabDoorTb
import Derived.Deep.MidRow
import Derived.Deep.Draws
namespace Go.Proofs.YtbmgjpdfmgcigabDoor.Tab
set_option maxRecDepth 20000
open Go.RowKit

/-- The table's cells, in order: each slot's key, and its value. -/
def Tb.at (t : Tb) (j : Nat) : Value := .int .i64 (if j % 2 = 0 then t.k (j / 2) else t.v (j / 2))
def Tb.all (t : Tb) : List Value := (List.range 16).map t.at
theorem Tb.at_key (t : Tb) (i : Nat) : t.at (i * 2) = .int .i64 (t.k i) := by
  simp [Tb.at]
theorem Tb.at_val (t : Tb) (i : Nat) : t.at (i * 2 + 1) = .int .i64 (t.v i) := by
  have h1 : (i * 2 + 1) % 2 = 1 := by omega
  have h2 : (i * 2 + 1) / 2 = i := by omega
  simp [Tb.at, h1, h2]
theorem Tb.all_length (t : Tb) : t.all.length = 16 := by simp [Tb.all]
theorem Tb.all_at (t : Tb) (j : Nat) (hj : j < 16) : t.all[j]? = some (t.at j) := by simp [Tb.all, hj]
theorem Tb.all_one (t : Tb) : ∀ v ∈ t.all, v.oneCell' = true := by
  intro v hv; simp only [Tb.all, List.mem_map] at hv; obtain ⟨j, _, rfl⟩ := hv; rfl

/-- The table lies in block b, and may be written. -/
structure TAt (w : World) (b : Nat) (t : Tb) : Prop where
  cell : ∀ j, j < 16 → w.cell? ⟨b, j, none⟩ = some (t.at j)
  froz : ∀ j, w.frozen? ⟨b, j, none⟩ = false

theorem TAt.lt {w : World} {b : Nat} {t : Tb} (h : TAt w b t) : b < w.heap.size := World.block_lt_of_cell? w ⟨b, 0, none⟩ (h.cell 0 (by decide))
theorem TAt.key {w : World} {b : Nat} {t : Tb} (h : TAt w b t) {i : Nat} (hi : i < 8) : w.cell? ⟨b, i * 2, none⟩ = some (.int .i64 (t.k i)) := by
  rw [h.cell (i * 2) (by omega), t.at_key]
theorem TAt.val {w : World} {b : Nat} {t : Tb} (h : TAt w b t) {i : Nat} (hi : i < 8) : w.cell? ⟨b, i * 2 + 1, none⟩ = some (.int .i64 (t.v i)) := by
  rw [h.cell (i * 2 + 1) (by omega), t.at_val]
theorem TAt.keep {w w' : World} {b : Nat} {t : Tb} (h : TAt w b t) (hb : w'.heap[b]? = w.heap[b]?) : TAt w' b t :=
  ⟨fun j hj => by rw [World.cell?_of_block (w := w) hb]; exact h.cell j hj, fun j => by rw [World.frozen?_of_block (w := w) hb]; exact h.froz j⟩
theorem TAt.later {w w' : World} {b : Nat} {t : Tb} (h : TAt w b t) (hb : Below w.heap.size w w') : TAt w' b t := h.keep (hb.block b h.lt)
theorem new_below (w : World) (o : Obj) : Below w.heap.size w (w.alloc o) := (Below.refl _ w).alloc (Nat.le_refl _) o
theorem TAt.new {w : World} {b : Nat} {t : Tb} (h : TAt w b t) (o : Obj) : TAt (w.alloc o) b t := h.later (new_below w o)
theorem TAt.drewN {w : World} {b : Nat} {t : Tb} (h : TAt w b t) (q : Nat) : TAt (w.drewN q) b t := ⟨h.cell, h.froz⟩
theorem TAt.drew {w : World} {b : Nat} {t : Tb} (h : TAt w b t) : TAt w.drew b t := ⟨h.cell, h.froz⟩
theorem TAt.aside {w : World} {b : Nat} {t : Tb} (h : TAt w b t) {p : Addr} (hp : b ≠ p.block) (v : Value) : TAt (w.setCell p v) b t :=
  h.keep (Below.heap_setCell _ _ _ _ hp)

theorem TAt.range {w : World} {b : Nat} {t : Tb} (h : TAt w b t) : w.rangeAt b 0 t.all := fun j v hv => by
  have hj : j < 16 := by simpa [Tb.all] using (List.getElem?_eq_some_iff.1 hv).1
  rw [t.all_at j hj] at hv; cases hv
  rw [Nat.zero_add]; exact h.cell j hj
theorem TAt.there {w : World} {b : Nat} {t : Tb} (h : TAt w b t) : w.there b 0 16 := fun j hj =>
  ⟨by rw [h.cell _ (by omega)]; rfl, h.froz _⟩
theorem TAt.thereOf {w : World} {b : Nat} {t : Tb} (h : TAt w b t) (u : Tb) : w.there b 0 u.all.toArray.size := by
  rw [List.size_toArray, u.all_length]; exact h.there
theorem Tb.all_all (t : Tb) : t.all.toArray.all (·.oneCell') = true := all_oneCell_toArray t.all_one
theorem TAt.born (w : World) (t : Tb) (ty : TypeId) : TAt (w.alloc (.cells t.all.toArray ty)) w.heap.size t where
  cell j hj := by rw [World.cell?_alloc_new]; simpa using t.all_at j hj
  froz j := by rw [frozen?_alloc_cells]; exact frozen_past w (Nat.le_refl _)
theorem TAt.bornAt (w : World) (t : Tb) (ty : TypeId) {n : Nat} (hn : n = w.heap.size) : TAt (w.alloc (.cells t.all.toArray ty)) n t := hn ▸ TAt.born w t ty

/-- A slot is written. -/
theorem TAt.setSlot {w : World} {b : Nat} {t : Tb} (h : TAt w b t) {p : Nat} (hp : p < 8) (x y : Int) : TAt ((w.setCell ⟨b, p * 2, none⟩ (.int .i64 x)).setCell ⟨b, p * 2 + 1, none⟩ (.int .i64 y)) b (t.set p x y) where
  cell j hj := by
    have d0 := World.cell?_setCell_same w ⟨b, p * 2, none⟩ (.int .i64 x) (h.key hp)
    have d1 : (w.setCell ⟨b, p * 2, none⟩ (.int .i64 x)).cell? ⟨b, p * 2 + 1, none⟩ = some (.int .i64 (t.v p)) := by
      rw [World.cell?_setCell_other]
      · exact h.val hp
      · simp
    by_cases e0 : j = p * 2
    · subst e0
      rw [World.cell?_setCell_other _ _ _ _ (by simp), d0, Tb.at_key, Tb.set_k, if_pos rfl]
    · by_cases e1 : j = p * 2 + 1
      · subst e1
        rw [World.cell?_setCell_same _ _ _ d1, Tb.at_val, Tb.set_v, if_pos rfl]
      · have n0 : ¬ p * 2 = j := fun e => e0 e.symm
        have n1 : ¬ p * 2 + 1 = j := fun e => e1 e.symm
        rw [World.cell?_setCell_other _ _ _ _ (by intro e; injection e with _ e; exact n1 e), World.cell?_setCell_other _ _ _ _ (by intro e; injection e with _ e; exact n0 e), h.cell j hj]
        have n2 : j / 2 ≠ p := by omega
        simp [Tb.at, Tb.set, n2]
  froz j := by rw [World.frozen?_setCell, World.frozen?_setCell]; exact h.froz j
/-- All of it is written. -/
theorem TAt.setAll {w : World} {b : Nat} {t : Tb} (h : TAt w b t) (u : Tb) : TAt (w.setCells b 0 u.all) b u where
  cell j hj := by
    have hj' : j < u.all.length := by rw [u.all_length]; exact hj
    have := World.cell?_setCells_in b u.all 0 w (fun k hk => by rw [Nat.zero_add, h.cell k (by rw [u.all_length] at hk; exact hk)]; rfl) j hj'
    rw [Nat.zero_add] at this
    rw [this]
    have e := u.all_at j hj
    rw [List.getElem?_eq_getElem hj'] at e
    exact e
  froz j := by rw [World.frozen?_setCells]; exact h.froz j
theorem TAt.asideAll {w : World} {b c : Nat} {t : Tb} (h : TAt w b t) (hc : b ≠ c) (u : Tb) : TAt (w.setCells c 0 u.all) b t where
  cell j hj := by
    rw [World.cell?_setCells_out c u.all 0 w ⟨b, j, none⟩ (fun e _ => absurd e hc)]; exact h.cell j hj
  froz j := by rw [World.frozen?_setCells]; exact h.froz j

/-! What walks carry from world to world: a table (TAt), a small struct in a block of its own (Bo), all that there was (Gd). -/
structure Bo (w : World) (b : Nat) (cs : List Value) : Prop where
  cell : ∀ j v, cs[j]? = some v → w.cell? ⟨b, j, none⟩ = some v
  froz : ∀ j, w.frozen? ⟨b, j, none⟩ = false
  lt : b < w.heap.size
theorem Bo.keep {w w' : World} {b : Nat} {cs : List Value} (h : Bo w b cs) (hb : w'.heap[b]? = w.heap[b]?) (hs : b < w'.heap.size) : Bo w' b cs :=
  ⟨fun j v hv => by rw [World.cell?_of_block (w := w) hb]; exact h.cell j v hv, fun j => by rw [World.frozen?_of_block (w := w) hb]; exact h.froz j, hs⟩
theorem Bo.later {w w' : World} {b : Nat} {cs : List Value} (h : Bo w b cs) (hb : Below w.heap.size w w') : Bo w' b cs := h.keep (hb.block b h.lt) (Nat.lt_of_lt_of_le h.lt hb.size)
theorem Bo.new {w : World} {b : Nat} {cs : List Value} (h : Bo w b cs) (o : Obj) : Bo (w.alloc o) b cs := h.later (new_below w o)
theorem Bo.drew {w : World} {b : Nat} {cs : List Value} (h : Bo w b cs) : Bo w.drew b cs := ⟨h.cell, h.froz, h.lt⟩
theorem Bo.aside {w : World} {b : Nat} {cs : List Value} (h : Bo w b cs) {p : Addr} (hp : b ≠ p.block) (v : Value) : Bo (w.setCell p v) b cs :=
  h.keep (Below.heap_setCell _ _ _ _ hp) (by simpa using h.lt)
theorem heap_setCells {b c : Nat} (hc : b ≠ c) : ∀ (vs : List Value) (o : Nat) (w : World), (w.setCells c o vs).heap[b]? = w.heap[b]?
  | [], _, _ => rfl
  | v :: r, o, w => by
    rw [World.setCells, heap_setCells hc r (o + 1)]
    exact Below.heap_setCell _ _ _ _ hc
theorem size_setCells (c : Nat) : ∀ (vs : List Value) (o : Nat) (w : World), (w.setCells c o vs).heap.size = w.heap.size
  | [], _, _ => rfl
  | v :: r, o, w => by rw [World.setCells, size_setCells c r (o + 1)]; simp [World.setCell]
theorem os_setCells (c : Nat) : ∀ (vs : List Value) (o : Nat) (w : World), (w.setCells c o vs).os = w.os
  | [], _, _ => rfl
  | v :: r, o, w => by rw [World.setCells, os_setCells c r (o + 1)]; rfl
theorem tape_setCells (c : Nat) : ∀ (vs : List Value) (o : Nat) (w : World), (w.setCells c o vs).tape = w.tape
  | [], _, _ => rfl
  | v :: r, o, w => by rw [World.setCells, tape_setCells c r (o + 1)]; rfl
theorem output_setCells (c : Nat) : ∀ (vs : List Value) (o : Nat) (w : World), (w.setCells c o vs).output = w.output
  | [], _, _ => rfl
  | v :: r, o, w => by rw [World.setCells, output_setCells c r (o + 1)]; rfl
theorem Bo.asideAll {w : World} {b c : Nat} {cs : List Value} (h : Bo w b cs) (hc : b ≠ c) (u : Tb) : Bo (w.setCells c 0 u.all) b cs :=
  h.keep (heap_setCells hc _ _ _) (by rw [size_setCells]; exact h.lt)
theorem Bo.at {w : World} {b : Nat} {cs : List Value} (h : Bo w b cs) (j : Nat) {v : Value} (hv : cs[j]? = some v) : w.cell? ⟨b, j, none⟩ = some v := h.cell j v hv
theorem Bo.born (w : World) (cs : List Value) (ty : TypeId) {n : Nat} (hn : n = w.heap.size) : Bo (w.alloc (.cells cs.toArray ty)) n cs := by
  subst hn
  exact ⟨fun j v hv => by rw [World.cell?_alloc_new]; simpa using hv, fun j => by rw [frozen?_alloc_cells]; exact frozen_past w (Nat.le_refl _), by simp⟩
theorem Bo.put2 {w : World} {b : Nat} {x y : Value} (h : Bo w b [x, y]) (x' y' : Value) : Bo ((w.setCell ⟨b, 0, none⟩ x').setCell ⟨b, 1, none⟩ y') b [x', y'] where
  cell j v hv := by
    have d0 := World.cell?_setCell_same w ⟨b, 0, none⟩ x' (h.at 0 rfl)
    have d1 : (w.setCell ⟨b, 0, none⟩ x').cell? ⟨b, 1, none⟩ = some y := by rw [World.cell?_setCell_other]; exact h.at 1 rfl; simp
    match j, hv with
    | 0, hv => cases hv; rw [World.cell?_setCell_other _ _ _ _ (by simp)]; exact d0
    | 1, hv => cases hv; exact World.cell?_setCell_same _ _ _ d1
  froz j := by rw [World.frozen?_setCell, World.frozen?_setCell]; exact h.froz j
  lt := by simpa using h.lt

theorem Bo.asideL {w : World} {b c : Nat} {cs : List Value} (h : Bo w b cs) (hc : b ≠ c) (o : Nat) (vs : List Value) : Bo (w.setCells c o vs) b cs :=
  h.keep (heap_setCells hc _ _ _) (by rw [size_setCells]; exact h.lt)
theorem TAt.asideL {w : World} {b c : Nat} {t : Tb} (h : TAt w b t) (hc : b ≠ c) (o : Nat) (vs : List Value) : TAt (w.setCells c o vs) b t := h.keep (heap_setCells hc _ _ _)
theorem TAt.slot {w : World} {b : Nat} {t : Tb} (h : TAt w b t) {p : Nat} (hp : p < 8) (x y : Int) : TAt (w.setCells b (p * 2) [.int .i64 x, .int .i64 y]) b (t.set p x y) := h.setSlot hp x y
theorem TAt.thereS {w : World} {b : Nat} {t : Tb} (h : TAt w b t) {p : Nat} (hp : p < 8) : w.there b (p * 2) 2 := fun j hj =>
  ⟨by rw [h.cell _ (by omega)]; rfl, h.froz _⟩

theorem Bo.set2 {w : World} {b : Nat} {x y : Value} (h : Bo w b [x, y]) (x' y' : Value) : Bo (w.setCells b 0 [x', y']) b [x', y'] := h.put2 x' y'
theorem Bo.there2 {w : World} {b : Nat} {x y : Value} (h : Bo w b [x, y]) : w.there b 0 2 := fun j hj => by
  refine ⟨?_, h.froz _⟩
  match j, hj with
  | 0, _ => rw [Nat.zero_add, h.at 0 rfl]; rfl
  | 1, _ => rw [Nat.zero_add, h.at 1 rfl]; rfl

/-- W has all that w had, whose n blocks are as they were. -/
def Gd (n : Nat) (w W : World) : Prop := w.heap.size = n ∧ Below w.heap.size w W
theorem Gd.refl (w : World) : Gd w.heap.size w w := ⟨rfl, Below.refl _ _⟩
theorem Gd.later {n : Nat} {w a b : World} (h : Gd n w a) (hb : Below a.heap.size a b) : Gd n w b := ⟨h.1, h.2.trans (hb.mono h.2.size)⟩
theorem Gd.new {n : Nat} {w a : World} (h : Gd n w a) (o : Obj) : Gd n w (a.alloc o) := h.later (new_below a o)
theorem Gd.drew {n : Nat} {w a : World} (h : Gd n w a) : Gd n w a.drew := ⟨h.1, h.2.drew⟩
theorem Gd.aside {n : Nat} {w a : World} (h : Gd n w a) {p : Addr} (hp : n ≤ p.block) (v : Value) : Gd n w (a.setCell p v) := ⟨h.1, h.2.setCell (h.1 ▸ hp) v⟩
theorem Gd.asideAll {n c : Nat} {w a : World} (h : Gd n w a) (hc : n ≤ c) (u : Tb) : Gd n w (a.setCells c 0 u.all) :=
  ⟨h.1, ⟨by rw [← h.2.os]; exact os_setCells c _ _ _, by rw [← h.2.tape]; exact tape_setCells c _ _ _, by rw [← h.2.output]; exact output_setCells c _ _ _, by rw [size_setCells]; exact h.2.size,
    fun k hk => (heap_setCells (by have := h.1; omega) _ _ _).trans (h.2.block k hk)⟩⟩
theorem Gd.asideL {n c : Nat} {w a : World} (h : Gd n w a) (hc : n ≤ c) (o : Nat) (vs : List Value) : Gd n w (a.setCells c o vs) :=
  ⟨h.1, ⟨by rw [← h.2.os]; exact os_setCells c _ _ _, by rw [← h.2.tape]; exact tape_setCells c _ _ _, by rw [← h.2.output]; exact output_setCells c _ _ _, by rw [size_setCells]; exact h.2.size,
    fun k hk => (heap_setCells (by have := h.1; omega) _ _ _).trans (h.2.block k hk)⟩⟩
theorem Gd.low {n : Nat} {w a : World} (h : Gd n w a) : Below n w a := h.1 ▸ h.2
theorem Gd.le {n : Nat} {w a : World} (h : Gd n w a) : n ≤ a.heap.size := h.1 ▸ h.2.size
end Go.Proofs.YtbmgjpdfmgcigabDoor.Tab
