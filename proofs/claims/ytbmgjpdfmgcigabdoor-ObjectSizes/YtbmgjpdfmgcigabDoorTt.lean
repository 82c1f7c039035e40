/- A thing of the reference's as a row of cells; what words are a thing. -/
import Derived.Test.YtbmgjpdfmgcigabDoorTg
import Derived.Test.YtbmgjpdfmgcigabDoorHp
import Derived.Test.YtbmgjpdfmgcigabDoorAp
namespace Go.Proofs.YtbmgjpdfmgcigabDoor.Tab
set_option maxRecDepth 20000
open Go.RowKit
set_option linter.unusedVariables false

theorem thing_struct : ∃ fs, Tryd.prog.underlying 33 = some (.struct fs) := ⟨_, Tryd.underlying33⟩
theorem thing_size (kind : Int) (v : Value) (t : Tb) (n : Int) : (Tryd.prog.info? 33).map (·.size) = some (tg kind v t n).length := by rw [tg_length]; kernel_rfl
theorem thing_size2 (kind : Int) (v : Value) (t : Tb) (n : Int) : (Tryd.prog.info? 33).map (·.size) = some (tg kind v t n).toArray.size := by rw [List.size_toArray, tg_length]; kernel_rfl
theorem thing_size3 : (Tryd.prog.info? 33).map (·.size) = some 19 := by kernel_rfl
theorem tg_all (kind : Int) {v : Value} (hv : v.oneCell' = true) (t : Tb) (n : Int) : (tg kind v t n).toArray.all (·.oneCell') = true := all_oneCell_toArray (tg_one kind hv t n)
theorem results_rowS {P : Program} {fn : Func} {p q : Tmp} {ty : TypeId} (h : fn.results = #[.cell p ty, .tmp q]) (tmps : Array Value) (w : World) (b : Nat) (cs : List Value) (d : TypeDesc) (r : Value) (hp : tmps.getD p undef = .pointer (some ⟨b, 0, none⟩)) (hq : tmps.getD q undef = r)
    (hc : w.rangeAt b 0 cs) (hu : P.underlying ty = some d) (hd : d.isRow = true) (hi : (P.info? ty).map (·.size) = some cs.length) :
    (results fn tmps).run P w = .ok (.tuple #[.agg cs.toArray, r]) w := by
  have hp' : tmps[p]?.getD undef = .pointer (some ⟨b, 0, none⟩) := by simpa using hp
  have hq' : tmps[q]?.getD undef = r := by simpa using hq
  simp [results, h, hp', hq', asAddr, run_loadVar_mid w b 0 ty cs d hc hu hd hi]

theorem Bo.bornTh (w : World) (kind : Int) (ty : TypeId) {n : Nat} (hn : n = w.heap.size) : Bo (w.alloc (.cells #[.int .i64 kind, .slice none 0 0, .int .i64 0, .int .i64 0, .int .i64 0, .int .i64 0, .int .i64 0, .int .i64 0, .int .i64 0, .int .i64 0, .int .i64 0, .int .i64 0, .int .i64 0, .int .i64 0, .int .i64 0, .int .i64 0, .int .i64 0, .int .i64 0, .int .i64 0] ty)) n (tg kind (.slice none 0 0) Tb.zero 0) := by
  rw [← tg_zero]; exact Bo.born w _ ty hn
theorem tg_nil (kind : Int) : tg kind (.slice none 0 0) Tb.zero 0 = [.int .i64 kind, .slice none 0 0, .int .i64 0, .int .i64 0, .int .i64 0, .int .i64 0, .int .i64 0, .int .i64 0, .int .i64 0, .int .i64 0, .int .i64 0, .int .i64 0, .int .i64 0, .int .i64 0, .int .i64 0, .int .i64 0, .int .i64 0, .int .i64 0, .int .i64 0] := congrArg Array.toList (tg_zero kind)
theorem Bo.setZ {w : World} {b : Nat} {k : Int} {v : Value} {t : Tb} {n : Int} (h : Bo w b (tg k v t n)) (kind : Int) : Bo (w.setCells b 0 [.int .i64 kind, .slice none 0 0, .int .i64 0, .int .i64 0, .int .i64 0, .int .i64 0, .int .i64 0, .int .i64 0, .int .i64 0, .int .i64 0, .int .i64 0, .int .i64 0, .int .i64 0, .int .i64 0, .int .i64 0, .int .i64 0, .int .i64 0, .int .i64 0, .int .i64 0]) b (tg kind (.slice none 0 0) Tb.zero 0) := by
  rw [← tg_nil]; exact h.setL (by rw [tg_length, tg_length])
theorem nil_all (kind : Int) : (#[.int .i64 kind, .slice none 0 0, .int .i64 0, .int .i64 0, .int .i64 0, .int .i64 0, .int .i64 0, .int .i64 0, .int .i64 0, .int .i64 0, .int .i64 0, .int .i64 0, .int .i64 0, .int .i64 0, .int .i64 0, .int .i64 0, .int .i64 0, .int .i64 0, .int .i64 0] : Array Value).all (·.oneCell') = true := by
  rw [← tg_zero]; exact all_oneCell_toArray (tg_one kind rfl Tb.zero 0)
theorem Bo.setT {w : World} {b : Nat} {k : Int} {v : Value} {t : Tb} {n : Int} (h : Bo w b (tg k v t n)) (k' : Int) (v' : Value) (t' : Tb) (n' : Int) : Bo (w.setCells b 0 (tg k' v' t' n')) b (tg k' v' t' n') := h.setL (by rw [tg_length, tg_length])
theorem Bo.thereT {w : World} {b : Nat} {k : Int} {v : Value} {t : Tb} {n : Int} (h : Bo w b (tg k v t n)) (k' : Int) (v' : Value) (t' : Tb) (n' : Int) : w.there b 0 (tg k' v' t' n').toArray.size := by
  rw [List.size_toArray, tg_length]; exact h.thereL (tg_length _ _ _ _).symm

/-- Seventeen words lie in block b, from o on. -/
structure Wf (w : World) (b o : Nat) (c : Nat → Nat) : Prop where
  cell : ∀ j, j < 17 → w.cell? ⟨b, o + j, none⟩ = some (.int .u64 (c j : Nat))
theorem Wf.lt {w : World} {b o : Nat} {c : Nat → Nat} (h : Wf w b o c) : b < w.heap.size := World.block_lt_of_cell? w _ (h.cell 0 (by decide))
theorem Wf.later {w w' : World} {b o : Nat} {c : Nat → Nat} (h : Wf w b o c) (hb : Below w.heap.size w w') : Wf w' b o c :=
  ⟨fun j hj => by rw [hb.cell (p := ⟨b, o + j, none⟩) h.lt]; exact h.cell j hj⟩
theorem Wf.keep {w w' : World} {b o : Nat} {c : Nat → Nat} (h : Wf w b o c) (hb : w'.heap[b]? = w.heap[b]?) : Wf w' b o c :=
  ⟨fun j hj => by rw [World.cell?_of_block (w := w) hb]; exact h.cell j hj⟩
theorem Wf.of_bo {w : World} {b : Nat} {c : Nat → Nat} (h : Bo w b (wl c)) : Wf w b 0 c := ⟨fun j hj => by rw [Nat.zero_add]; exact h.word hj⟩

theorem Wf.new {w : World} {b o : Nat} {c : Nat → Nat} (h : Wf w b o c) (x : Obj) : Wf (w.alloc x) b o c := h.later (new_below w x)
theorem Wf.drew {w : World} {b o : Nat} {c : Nat → Nat} (h : Wf w b o c) : Wf w.drew b o c := ⟨h.cell⟩
theorem Wf.asideL {w : World} {b o k : Nat} {c : Nat → Nat} (h : Wf w b o c) (hk : b ≠ k) (p : Nat) (vs : List Value) : Wf (w.setCells k p vs) b o c := h.keep (heap_setCells hk _ _ _)
theorem Wf.aside {w : World} {b o : Nat} {c : Nat → Nat} (h : Wf w b o c) {p : Addr} (hp : b ≠ p.block) (v : Value) : Wf (w.setCell p v) b o c := h.keep (Below.heap_setCell _ _ _ _ hp)
theorem isL_block {B : Nat} {w w' : World} {v : Value} {xs : List Int} (h : IsL B w v xs) (hb : ∀ b, B ≤ b → w'.heap[b]? = w.heap[b]?) : IsL B w' v xs := by
  rcases h with h | ⟨b, off, c, h1, hB, h2, h3, h4, h5⟩
  · exact Or.inl h
  · refine Or.inr ⟨b, off, c, h1, hB, h2, h3, fun j hj => ?_, fun h0 j hj => ?_⟩
    · rw [World.cell?_of_block (w := w) (hb b hB)]; exact h4 j hj
    · rw [World.frozen?_of_block (w := w) (hb b hB)]; exact h5 h0 j hj
end Go.Proofs.YtbmgjpdfmgcigabDoor.Tab
namespace Go.Proofs.YtbmgjpdfmgcigabDoor
set_option maxRecDepth 20000
open Go.RowKit
theorem IsL.drew {B : Nat} {w : World} {v : Value} {xs : List Int} (h : IsL B w v xs) : IsL B w.drew v xs := Tab.isL_block h fun _ _ => rfl
theorem IsL.asideL {B k : Nat} {w : World} {v : Value} {xs : List Int} (h : IsL B w v xs) (hk : k < B) (p : Nat) (vs : List Value) : IsL B (w.setCells k p vs) v xs := Tab.isL_block h fun b hb => Tab.heap_setCells (by omega) _ _ _
theorem IsL.aside {B : Nat} {w : World} {v : Value} {xs : List Int} (h : IsL B w v xs) {p : Addr} (hp : p.block < B) (u : Value) : IsL B (w.setCell p u) v xs := h.setCell hp u
theorem Own.new {B : Nat} {w : World} {v : Value} {xs : List Int} (h : Own B w v xs) (o : Obj) : Own B (w.alloc o) v xs := World.ownsRow.alloc h o
theorem Own.drew {B : Nat} {w : World} {v : Value} {xs : List Int} (h : Own B w v xs) : Own B w.drew v xs := h
theorem Own.aside {B : Nat} {w : World} {v : Value} {xs : List Int} (h : Own B w v xs) {p : Addr} (hp : p.block < B) (u : Value) : Own B (w.setCell p u) v xs := ownsRow_setCell_below h hp u
end Go.Proofs.YtbmgjpdfmgcigabDoor
namespace Go.Proofs.YtbmgjpdfmgcigabDoor.Tab
set_option maxRecDepth 20000
open Go.RowKit
theorem Bo.laterB {B : Nat} {w w' : World} {b : Nat} {cs : List Value} (h : Bo w b cs) (hB : b < B) (hb : Below B w w') : Bo w' b cs := h.keep (hb.block b hB) (Nat.lt_of_lt_of_le h.lt hb.size)
theorem Wf.laterB {B : Nat} {w w' : World} {b o : Nat} {c : Nat → Nat} (h : Wf w b o c) (hB : b < B) (hb : Below B w w') : Wf w' b o c := h.keep (hb.block b hB)
theorem Gd.laterB {B n : Nat} {w a b : World} (h : Gd n w a) (hB : n ≤ B) (hb : Below B a b) : Gd n w b := ⟨h.1, h.2.trans (hb.mono (h.1 ▸ hB))⟩

/-- What words are a thing of a kind. -/
def WT (c : Nat → Nat) : Prop := (∀ j, j < 16 → c j ≤ 4294967295) ∧ c 16 = 0 ∧ RT (tbl c)
def WN (c : Nat → Nat) : Prop := c 0 ≤ 4294967295 ∧ ∀ j, 1 ≤ j → j < 17 → c j = 0
def isTh (kind : Int) (c : Nat → Nat) : Prop :=
  ((kind = 1 ∨ kind = 2 ∨ kind = 3) ∧ WList c) ∨ (kind = 4 ∧ WList c ∧ Hp (lst c)) ∨ (kind = 5 ∧ WT c) ∨ (kind = 6 ∧ WN c)
theorem isTh.kind {k : Int} {c : Nat → Nat} (h : isTh k c) : 1 ≤ k ∧ k ≤ 6 := by
  rcases h with ⟨h, _⟩ | ⟨h, _⟩ | ⟨h, _⟩ | ⟨h, _⟩ <;> omega
theorem WList.le {c : Nat → Nat} (h : WList c) : ∀ j, j < 17 → c j ≤ 4294967295 := fun j hj => by
  have := h.len
  by_cases e : j = 0
  · subst e; omega
  · by_cases e1 : j ≤ c 0
    · exact h.val j (by omega) e1
    · rw [h.rest j (by omega) hj]; omega
theorem isTh.le {k : Int} {c : Nat → Nat} (h : isTh k c) : ∀ j, j < 17 → c j ≤ 4294967295 := fun j hj => by
  rcases h with ⟨_, h⟩ | ⟨_, h, _⟩ | ⟨_, h⟩ | ⟨_, h⟩
  · exact h.le j hj
  · exact h.le j hj
  · by_cases e : j < 16
    · exact h.1 j e
    · rw [show j = 16 by omega, h.2.1]; omega
  · by_cases e : j = 0
    · subst e; exact h.1
    · rw [h.2 j (by omega) hj]; omega
end Go.Proofs.YtbmgjpdfmgcigabDoor.Tab
