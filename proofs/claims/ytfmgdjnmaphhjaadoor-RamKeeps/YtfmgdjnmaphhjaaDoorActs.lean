/- Acts as they lie in memory. -/
import Derived.Test.YtfmgdjnmaphhjaaDoorMem
import Derived.Test.YtfmgdjnmaphhjaaDoorErrs
import Derived.ProofKit
import Derived.OpenShut
import Derived.Carry
namespace Go.Proofs.YtfmgdjnmaphhjaaDoor
open Go.ChangeShapes Go.WideShapes Go.ChangeAt Go.RowKit

theorem bare_ok (w : World) : Calls Tryd.prog 4 #[.nilIface, .int .i64 0] w fun e w' => e = .returned (.bool true) ∧ w' = w := bare_nil 0 w

/-- An act, as it was told. -/
structure Ac where
  what : Int
  addr : Int
  word : Nat
  thread : Int
  line : Int
def Ac.cells (d : Ac) : List Value := [.int .i64 d.what, .int .i64 d.addr, .int .u64 (d.word : Nat), .int .i64 d.thread, .int .i64 d.line]

/-- n acts lie in a slice. -/
def Acts (w : World) (sl : Value) (n : Nat) : Prop :=
  (sl = .slice none 0 0 ∧ n = 0) ∨ ∃ (a : Addr) (cap : Nat), sl = .slice (some a) n cap ∧
    ∀ i, i < n → ∃ d : Ac, d.word < 18446744073709551616 ∧ ∀ j v, d.cells[j]? = some v → w.cell? ((a.add (i * 5)).add j) = some v
theorem Acts.gr {w w' : World} {sl : Value} {n : Nat} (h : Acts w sl n) (g : Gr w w') : Acts w' sl n := by
  rcases h with h | ⟨a, cap, h1, h3⟩
  · exact Or.inl h
  · refine Or.inr ⟨a, cap, h1, fun i hi => ?_⟩
    obtain ⟨d, hd, hc⟩ := h3 i hi
    exact ⟨d, hd, fun j v hv => by rw [g.below.cell (World.block_lt_of_cell? w _ (hc j v hv))]; exact hc j v hv⟩
theorem Acts.open {w : World} {sl : Value} {n : Nat} (h : Acts w sl n) : ∃ (A : Option Addr) (cap : Nat), sl = .slice A n cap ∧
    ∀ w', Gr w w' → ∀ i, i < n → ∃ (a : Addr) (d : Ac), A = some a ∧ d.word < 18446744073709551616 ∧ ∀ j v, d.cells[j]? = some v → w'.cell? ((a.add (i * 5)).add j) = some v := by
  rcases h with ⟨rfl, rfl⟩ | ⟨a, cap, rfl, h3⟩
  · exact ⟨none, 0, rfl, fun _ _ i hi => absurd hi (Nat.not_lt_zero _)⟩
  · refine ⟨some a, cap, rfl, fun w' g i hi => ?_⟩
    obtain ⟨d, hd, hc⟩ := h3 i hi
    exact ⟨a, d, rfl, hd, fun j v hv => by rw [g.below.cell (World.block_lt_of_cell? w _ (hc j v hv))]; exact hc j v hv⟩

/-- An act in block n. -/
structure ActAt (W : World) (n : Nat) (d : Ac) : Prop where
  lt : n < W.heap.size
  c0 : W.cell? ⟨n, 0, none⟩ = some (.int .i64 d.what)
  c1 : W.cell? ⟨n, 1, none⟩ = some (.int .i64 d.addr)
  c2 : W.cell? ⟨n, 2, none⟩ = some (.int .u64 (d.word : Nat))
  c3 : W.cell? ⟨n, 3, none⟩ = some (.int .i64 d.thread)
  c4 : W.cell? ⟨n, 4, none⟩ = some (.int .i64 d.line)
theorem ActAt.keep {W W' : World} {n : Nat} {d : Ac} (h : ActAt W n d) (hl : W.heap.size ≤ W'.heap.size) (e : W'.heap[n]? = W.heap[n]?) : ActAt W' n d := by
  refine ⟨Nat.lt_of_lt_of_le h.lt hl, ?_, ?_, ?_, ?_, ?_⟩
  · rw [World.cell?_of_block (w := W) e]; exact h.c0
  · rw [World.cell?_of_block (w := W) e]; exact h.c1
  · rw [World.cell?_of_block (w := W) e]; exact h.c2
  · rw [World.cell?_of_block (w := W) e]; exact h.c3
  · rw [World.cell?_of_block (w := W) e]; exact h.c4
theorem ActAt.only {W W' : World} {n b : Nat} {d : Ac} (h : ActAt W n d) (hn : n ≠ b) (o : Only b W W') : ActAt W' n d := h.keep o.size (o.block n h.lt hn)
theorem ActAt.gr {W W' : World} {n : Nat} {d : Ac} (h : ActAt W n d) (g : Gr W W') : ActAt W' n d := h.keep g.below.size (g.below.block n h.lt)
theorem ActAt.drew {W : World} {n : Nat} {d : Ac} (h : ActAt W n d) : ActAt W.drew n d := ⟨h.lt, h.c0, h.c1, h.c2, h.c3, h.c4⟩

theorem ActAt.born (wr : World) (d : Ac) (c : Array Value) (hc : c.size = 5) (t : TypeId) :
    ActAt ((wr.alloc (.cells c t)).setCells wr.heap.size 0 d.cells) wr.heap.size d ∧ Gr wr ((wr.alloc (.cells c t)).setCells wr.heap.size 0 d.cells) := by
  have th : (wr.alloc (.cells c t)).there wr.heap.size 0 d.cells.length := there_new _ _ _ _ (by rw [hc]; rfl)
  have r := World.rangeAt_setCells_same _ _ _ _ th
  have hl := World.block_lt_of_cell? _ ⟨wr.heap.size, 0, none⟩ (r 0 _ rfl)
  exact ⟨⟨hl, r 0 _ rfl, r 1 _ rfl, r 2 _ rfl, r 3 _ rfl, r 4 _ rfl⟩, Gr.setCells (Nat.le_refl _) _ _ ((Gr.refl wr).alloc _ _)⟩

theorem act_info (d : Ac) : (Tryd.prog.info? 29).map (·.size) = some d.cells.toArray.size := by
  have h : (Tryd.prog.info? 29).map (·.size) = some 5 := by kernel_rfl
  exact h
theorem act_agg (w : World) : (isAgg 29).run Tryd.prog w = .ok true w := by simp
theorem act_size (w : World) (d : Ac) : (sizeOf 29).run Tryd.prog w = .ok d.cells.length w := by simp [Ac.cells]
theorem act_one (d : Ac) : d.cells.toArray.all (·.oneCell') = true := all_oneCell_toArray (by simp [Ac.cells, Value.oneCell'])

/-- A struct or an array is read from wherever it lies. -/
theorem wpList_load_at {P : Program} {ops : Array Oper} {rest : List Oper} {op : Oper} {a : Act} {w : World} {Q : Exit → Act → World → Prop} (hgd : op.guard = none) (ty : TypeId) (x : Operand) (ho : op.op = .load ty x)
    (p : Addr) (hx : a.eval x = .pointer (some p)) (cs : List Value) (hc : ∀ j v, cs[j]? = some v → w.cell? (p.add j) = some v)
    (hag : (isAgg ty).run P w = .ok true w) (hi : (sizeOf ty).run P w = .ok cs.length w)
    (h : wpList P ops Q rest (a.put op.dst (.agg cs.toArray)) w) : wpList P ops Q (op :: rest) a w := by
  have hl := run_loadCells_list (P := P) w p cs hc
  refine wpList_plain hgd fun _ hK => ?_
  unfold Oper.wp execOp
  simp only [ho, hx, Instr.loadAt, Instr.sureAddr, Sem.run_bind, Sem.run_pure, Result.andThen_ok, loadVar, hag, if_true, hi, hl]
  exact hK _ _ h

theorem act_fields : ∃ f0 f1 f2 f3 f4 : Field, Tryd.prog.underlying 29 = some (.struct #[f0, f1, f2, f3, f4]) ∧
    (f0.type = 3 ∧ f0.offset = 0) ∧ (f1.type = 3 ∧ f1.offset = 1) ∧ (f2.type = 24 ∧ f2.offset = 2) ∧ (f3.type = 3 ∧ f3.offset = 3) ∧ (f4.type = 3 ∧ f4.offset = 4) :=
  ⟨_, _, _, _, _, Tryd.underlying29, ⟨rfl, rfl⟩, ⟨rfl, rfl⟩, ⟨rfl, rfl⟩, ⟨rfl, rfl⟩, ⟨rfl, rfl⟩⟩

theorem u64_nat {n : Int} (h : (Lit.int .u64 n).wf = true) : ∃ x : Nat, n = (x : Nat) ∧ x < 18446744073709551616 := by
  obtain ⟨h0, h1⟩ := bounds_u64 h
  obtain ⟨x, rfl⟩ := Int.eq_ofNat_of_zero_le h0
  exact ⟨x, rfl, by omega⟩

set_option maxRecDepth 20000 in
theorem acts_of_trod {H : Type} {enc : TypeId × Value → H} {W : World} {r : Reach} {b0 : Nat} {v : Value} {d : DataW H} {p : List MemPlace} (hval : Value.okWide Tryd.prog W r b0 22 v)
    (h : DataW.Trod enc Tryd.prog W 0 (fun _ => true) true 22 v d p) : ∃ n, Acts W v n := by
  obtain ⟨fuel, hf⟩ := h
  obtain ⟨A, l, c, rfl⟩ := okWide_slice Tryd.underlying22 hval
  have hc5 : Tryd.prog.cellsOf 29 = 5 := by kernel_rfl
  have ci : Tryd.prog.cellsOf 3 = 1 := by kernel_rfl
  have cu : Tryd.prog.cellsOf 24 = 1 := by kernel_rfl
  obtain ⟨f0, f1, f2, f3, f4, hu, ⟨t0, o0⟩, ⟨t1, o1⟩, ⟨t2, o2⟩, ⟨t3, o3⟩, ⟨t4, o4⟩⟩ := act_fields
  rcases Deep.open_slice Tryd.underlying22 hf with ⟨hcs, _⟩ | ⟨a, len, cap, m, n, D, Pl, hcs, _, hl, _, hm, _, hx⟩
  · simp [Value.cells] at hcs
    obtain ⟨rfl, rfl, rfl⟩ := hcs
    exact ⟨0, Or.inl ⟨rfl, rfl⟩⟩
  · simp [Value.cells] at hcs
    obtain ⟨rfl, rfl, rfl⟩ := hcs
    refine ⟨l, Or.inr ⟨a, c, rfl, fun i hi => ?_⟩⟩
    obtain ⟨cs', h1, h2⟩ := hx i (by rw [hm]; simp; omega)
    rw [hc5] at h1
    obtain ⟨_, hlen, hcell⟩ := World.cells?_some h1
    obtain ⟨xs, k, _, _, _, hxl, hfl⟩ := DataW.trod_struct hu h2
    match cs', hlen, xs, hxl with
    | [v0, v1, v2, v3, v4], _, [y0, y1, y2, y3, y4], _ =>
      have k0 := hfl 0 f0 rfl
      have k1 := hfl 1 f1 rfl
      have k2 := hfl 2 f2 rfl
      have k3 := hfl 3 f3 rfl
      have k4 := hfl 4 f4 rfl
      rw [t0, o0, ci] at k0
      rw [t1, o1, ci] at k1
      rw [t2, o2, cu] at k2
      rw [t3, o3, ci] at k3
      rw [t4, o4, ci] at k4
      obtain ⟨n0, e0, _, _⟩ := DataW.trod_int Tryd.underlying3 k0
      obtain ⟨n1, e1, _, _⟩ := DataW.trod_int Tryd.underlying3 k1
      obtain ⟨n2, e2, _, w2⟩ := DataW.trod_int Tryd.underlying24 k2
      obtain ⟨n3, e3, _, _⟩ := DataW.trod_int Tryd.underlying3 k3
      obtain ⟨n4, e4, _, _⟩ := DataW.trod_int Tryd.underlying3 k4
      obtain ⟨x, rfl, hx4⟩ := u64_nat w2
      simp at e0 e1 e2 e3 e4
      subst e0 e1 e2 e3 e4
      refine ⟨⟨n0, n1, x, n3, n4⟩, hx4, fun j v hv => ?_⟩
      have hj : j < 5 := by simpa [Ac.cells] using (List.getElem?_eq_some_iff.1 hv).1
      rw [hcell j hj]
      exact hv

theorem laid_out : laidOutB Tryd.prog = true := by kernel_rfl
/-- A slice of deeds reads behind the call as it did. -/
theorem acts_stay {H : Type} {enc : TypeId × Value → H} {W W' : World} {sp : Nat → Bool} {v : Value} {d : DataW H} {p : List MemPlace}
    (h : DataW.Trod enc Tryd.prog W 0 (fun _ => true) true 22 v d p) (hb : Below W.heap.size W W') (hlt : ∀ x ∈ p, x.block < W.heap.size) (hs : ∀ x ∈ p, sp x.block = true) :
    DataW.Trod enc Tryd.prog W' 0 sp true 22 v d p :=
  WideElems.Trod_stays laid_out (by kernel_rfl) (of_decide_eq_true (by kernel_rfl)) h (fun x hx => hb.same (hlt x hx)) hs
end Go.Proofs.YtfmgdjnmaphhjaaDoor
