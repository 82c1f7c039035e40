/- A store and the reference's side by side; an act in memory. -/
import Derived.Test.YthgkmbimmelglaaDoorRf3
import Derived.Test.YthgkmbimmelglaaDoorStNo
import Derived.Test.YthgkmbimmelglaaDoorErrs
import Derived.Deep.Slices
namespace Go.Proofs.YthgkmbimmelglaaDoor
open Go.RowKit

theorem bare_ok (w : World) : Calls Tryd.prog 10 #[.nilIface, .int .i64 0] w fun e w' => e = .returned (.bool true) ∧ w' = w := bare_nil 0 w
theorem bare_range (w : World) (hH : HandleAt w) : Calls Tryd.prog 10 #[rangeErr, .int .i64 2] w fun e w' => e = .returned (.bool true) ∧ Gr w w' := bare_errno 2 2 w hH

structure Pair (w0 : World) (b r m : Nat) (s : St) (W : World) : Prop where
  gr : Gr w0 W
  st : StAt W b s
  rf : RfAt W r m s
  br : b ≠ r
  bm : b ≠ m
  lb : w0.heap.size ≤ b
  lr : w0.heap.size ≤ r
  lm : w0.heap.size ≤ m

theorem Pair.grow {w0 W W' : World} {b r m : Nat} {s : St} (h : Pair w0 b r m s W) (g : Gr W W') : Pair w0 b r m s W' :=
  ⟨h.gr.trans g, h.st.gr g, h.rf.gr g, h.br, h.bm, h.lb, h.lr, h.lm⟩
theorem Pair.drew {w0 W : World} {b r m : Nat} {s : St} (h : Pair w0 b r m s W) : Pair w0 b r m s W.drew :=
  ⟨h.gr.drew, h.st.drew, h.rf.drew, h.br, h.bm, h.lb, h.lr, h.lm⟩
theorem Pair.drewN {w0 W : World} {b r m : Nat} {s : St} (h : Pair w0 b r m s W) (q : Nat) : Pair w0 b r m s (W.drewN q) :=
  ⟨h.gr.drewN q, h.st.drewN q, h.rf.drewN q, h.br, h.bm, h.lb, h.lr, h.lm⟩
/-- The store's step, then the reference's. -/
theorem Pair.both {w0 W W' W'' : World} {b r m : Nat} {s s' : St} (h : Pair w0 b r m s W) (_ : StAt W' b s') (o : Only b W W') (rf : RfAt W'' r m s') (t : Two r m W' W'') (st : StAt W' b s') : Pair w0 b r m s' W'' :=
  ⟨(h.gr.only h.lb o).two h.lr h.lm t, st.two h.br h.bm t, rf, h.br, h.bm, h.lb, h.lr, h.lm⟩

/-- An act, as it was told. -/
structure Ac where
  what : Int
  addr : Int
  word : Nat
  thread : Int
  line : Int
def Ac.cells (d : Ac) : List Value := [.int .i64 d.what, .int .i64 d.addr, .int .u64 (d.word : Nat), .int .i64 d.thread, .int .i64 d.line]

/-- n acts lie in a slice. -/
def Acts (w : World) (sl : Value) (n : Nat) : Prop :=
  (sl = .slice none 0 0 ∧ n = 0) ∨ ∃ (a : Addr) (cap : Nat), sl = .slice (some a) n cap ∧
    ∀ i, i < n → ∃ d : Ac, d.word < 18446744073709551616 ∧ ∀ j v, d.cells[j]? = some v → w.cell? ((a.add (i * 5)).add j) = some v
theorem Acts.gr {w w' : World} {sl : Value} {n : Nat} (h : Acts w sl n) (g : Gr w w') : Acts w' sl n := by
  rcases h with h | ⟨a, cap, h1, h3⟩
  · exact Or.inl h
  · refine Or.inr ⟨a, cap, h1, fun i hi => ?_⟩
    obtain ⟨d, hd, hc⟩ := h3 i hi
    exact ⟨d, hd, fun j v hv => by rw [g.below.cell (World.block_lt_of_cell? w _ (hc j v hv))]; exact hc j v hv⟩
theorem Acts.open {w : World} {sl : Value} {n : Nat} (h : Acts w sl n) : ∃ (A : Option Addr) (cap : Nat), sl = .slice A n cap ∧
    ∀ w', Gr w w' → ∀ i, i < n → ∃ (a : Addr) (d : Ac), A = some a ∧ d.word < 18446744073709551616 ∧ ∀ j v, d.cells[j]? = some v → w'.cell? ((a.add (i * 5)).add j) = some v := by
  rcases h with ⟨rfl, rfl⟩ | ⟨a, cap, rfl, h3⟩
  · exact ⟨none, 0, rfl, fun _ _ i hi => absurd hi (Nat.not_lt_zero _)⟩
  · refine ⟨some a, cap, rfl, fun w' g i hi => ?_⟩
    obtain ⟨d, hd, hc⟩ := h3 i hi
    exact ⟨a, d, rfl, hd, fun j v hv => by rw [g.below.cell (World.block_lt_of_cell? w _ (hc j v hv))]; exact hc j v hv⟩

/-- An act in block n. -/
structure ActAt (W : World) (n : Nat) (d : Ac) : Prop where
  lt : n < W.heap.size
  c0 : W.cell? ⟨n, 0, none⟩ = some (.int .i64 d.what)
  c1 : W.cell? ⟨n, 1, none⟩ = some (.int .i64 d.addr)
  c2 : W.cell? ⟨n, 2, none⟩ = some (.int .u64 (d.word : Nat))
  c3 : W.cell? ⟨n, 3, none⟩ = some (.int .i64 d.thread)
  c4 : W.cell? ⟨n, 4, none⟩ = some (.int .i64 d.line)
theorem ActAt.keep {W W' : World} {n : Nat} {d : Ac} (h : ActAt W n d) (hl : W.heap.size ≤ W'.heap.size) (e : W'.heap[n]? = W.heap[n]?) : ActAt W' n d := by
  refine ⟨Nat.lt_of_lt_of_le h.lt hl, ?_, ?_, ?_, ?_, ?_⟩
  · rw [World.cell?_of_block (w := W) e]; exact h.c0
  · rw [World.cell?_of_block (w := W) e]; exact h.c1
  · rw [World.cell?_of_block (w := W) e]; exact h.c2
  · rw [World.cell?_of_block (w := W) e]; exact h.c3
  · rw [World.cell?_of_block (w := W) e]; exact h.c4
theorem ActAt.only {W W' : World} {n b : Nat} {d : Ac} (h : ActAt W n d) (hn : n ≠ b) (o : Only b W W') : ActAt W' n d := h.keep o.size (o.block n h.lt hn)
theorem ActAt.two {W W' : World} {n r m : Nat} {d : Ac} (h : ActAt W n d) (hr : n ≠ r) (hm : n ≠ m) (o : Two r m W W') : ActAt W' n d := h.keep o.size (o.block n h.lt hr hm)
theorem ActAt.gr {W W' : World} {n : Nat} {d : Ac} (h : ActAt W n d) (g : Gr W W') : ActAt W' n d := h.keep g.below.size (g.below.block n h.lt)
theorem ActAt.drew {W : World} {n : Nat} {d : Ac} (h : ActAt W n d) : ActAt W.drew n d := ⟨h.lt, h.c0, h.c1, h.c2, h.c3, h.c4⟩

theorem ActAt.born (wr : World) (d : Ac) (c : Array Value) (hc : c.size = 5) (t : TypeId) :
    ActAt ((wr.alloc (.cells c t)).setCells wr.heap.size 0 d.cells) wr.heap.size d ∧ Gr wr ((wr.alloc (.cells c t)).setCells wr.heap.size 0 d.cells) := by
  have th : (wr.alloc (.cells c t)).there wr.heap.size 0 d.cells.length := there_new _ _ _ _ (by rw [hc]; rfl)
  have r := World.rangeAt_setCells_same _ _ _ _ th
  have hl := World.block_lt_of_cell? _ ⟨wr.heap.size, 0, none⟩ (r 0 _ rfl)
  exact ⟨⟨hl, r 0 _ rfl, r 1 _ rfl, r 2 _ rfl, r 3 _ rfl, r 4 _ rfl⟩, Gr.setCells (Nat.le_refl _) _ _ ((Gr.refl wr).alloc _ _)⟩

theorem act_info (d : Ac) : (Tryd.prog.info? 50).map (·.size) = some d.cells.toArray.size := by
  have h : (Tryd.prog.info? 50).map (·.size) = some 5 := by kernel_rfl
  exact h
theorem act_agg (w : World) : (isAgg 50).run Tryd.prog w = .ok true w := by simp
theorem act_size (w : World) (d : Ac) : (sizeOf 50).run Tryd.prog w = .ok d.cells.length w := by simp [Ac.cells]
theorem act_one (d : Ac) : d.cells.toArray.all (·.oneCell') = true := all_oneCell_toArray (by simp [Ac.cells, Value.oneCell'])

/-- A struct or an array is read from wherever it lies. -/
theorem wpList_load_at {P : Program} {ops : Array Oper} {rest : List Oper} {op : Oper} {a : Act} {w : World} {Q : Exit → Act → World → Prop} (hgd : op.guard = none) (ty : TypeId) (x : Operand) (ho : op.op = .load ty x)
    (p : Addr) (hx : a.eval x = .pointer (some p)) (cs : List Value) (hc : ∀ j v, cs[j]? = some v → w.cell? (p.add j) = some v)
    (hag : (isAgg ty).run P w = .ok true w) (hi : (sizeOf ty).run P w = .ok cs.length w)
    (h : wpList P ops Q rest (a.put op.dst (.agg cs.toArray)) w) : wpList P ops Q (op :: rest) a w := by
  have hl := run_loadCells_list (P := P) w p cs hc
  refine wpList_plain hgd fun _ hK => ?_
  unfold Oper.wp execOp
  simp only [ho, hx, Instr.loadAt, Instr.sureAddr, Sem.run_bind, Sem.run_pure, Result.andThen_ok, loadVar, hag, if_true, hi, hl]
  exact hK _ _ h

/-- The reference's word is saved. -/
theorem St.save_rat (s : St) (a : Nat) (x : Int) (m : Nat) (ha : a < 72) (j : Nat) (_ : j < 147) : (s.save a x).rat m j = if j = a then .int .u64 x else s.rat m j := by
  unfold St.rat St.save
  by_cases e : j = a
  · subst e; simp [ha]
  · simp [e]
end Go.Proofs.YthgkmbimmelglaaDoor
