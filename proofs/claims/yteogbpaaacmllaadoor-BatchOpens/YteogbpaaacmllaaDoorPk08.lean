/- Texts laid together: Arguments that are arrays of words, as it lies in the call; An argument that is a record, as it lies in the call; An argument that is an ask, as it lies in the call. -/
import Derived.Test.YteogbpaaacmllaaDoorPk00
import Derived.Test.YteogbpaaacmllaaDoorRows
import Derived.Carry
import Derived.Test.YteogbpaaacmllaaDoorPk03
import Derived.Deep.Slices
import Derived.Deep.MidRow
namespace Go.Proofs.YteogbpaaacmllaaDoor
set_option maxRecDepth 20000
open Go.ChangeShapes Go.WideShapes Go.ChangeAt Go.RowKit

theorem okWide_arr {P : Program} {w : World} {r : Reach} {base : Nat} {t e : TypeId} {n : Nat} {v : Value} (ht : P.underlying t = some (.array n e)) (h : Value.okWide P w r base t v) : ∃ cs, v = .agg cs ∧ cs.size = P.cellsOf t := by
  simp only [Value.okWide, ht] at h
  obtain ⟨cs, h1, h2, _⟩ := h
  exact ⟨cs, h1, h2⟩
theorem wf_u64 {x : Int} (h : (Lit.int .u64 x).wf = true) : 0 ≤ x ∧ x < 18446744073709551616 := by
  simp [Lit.wf, IntKind.min, IntKind.max] at h
  exact ⟨of_decide_eq_true h.1, by have := of_decide_eq_true h.2; simp [IntKind.signed, IntKind.bits] at this; omega⟩

theorem warr_of_trod {H : Type} {enc : TypeId × Value → H} {W : World} {r : Reach} {b0 n : Nat} {T : TypeId} {v : Value} {d : DataW H} {p : List MemPlace} (hu : Tryd.prog.underlying T = some (.array n 22)) (cn : Tryd.prog.cellsOf T = n) (hval : Value.okWide Tryd.prog W r b0 T v)
    (h : DataW.Trod enc Tryd.prog W 0 (fun _ => true) true T v d p) : ∃ c : Nat → Nat, v = .agg ((List.range n).map fun j => Value.int .u64 (c j : Nat)).toArray ∧ ∀ j, j < n → c j < 18446744073709551616 := by
  have ci : Tryd.prog.cellsOf 22 = 1 := by kernel_rfl
  obtain ⟨cs, rfl, hsz⟩ := okWide_arr hu hval
  rw [cn] at hsz
  obtain ⟨fuel, hf⟩ := h
  obtain ⟨xs, m, _, _, _, hxl, hx⟩ := DataW.trod_array hu hf
  rw [ci] at hx
  have key : ∀ i, i < n → ∃ k : Nat, cs[i]? = some (.int .u64 (k : Nat)) ∧ k < 18446744073709551616 := by
    intro i hi
    have h2 := hx i hi
    rw [List.getElem?_eq_getElem (by omega)] at h2
    obtain ⟨n0, e0, _, hw⟩ := DataW.trod_int Tryd.underlying22 h2
    obtain ⟨b1, b2⟩ := wf_u64 hw
    refine ⟨n0.toNat, ?_, by omega⟩
    have g : (Value.agg cs).cells.toList = cs.toList := rfl
    rw [g] at e0
    have := congrArg (·[0]?) e0
    simp [List.getElem?_drop] at this
    rw [this]; congr 2; omega
  obtain ⟨c, hc⟩ : ∃ c : Nat → Nat, ∀ i, i < n → cs[i]? = some (.int .u64 (c i : Nat)) ∧ c i < 18446744073709551616 := by
    refine ⟨fun i => if h : i < n then Classical.choose (key i h) else 0, fun i hi => ?_⟩
    simp only [hi, dif_pos]
    exact Classical.choose_spec (key i hi)
  refine ⟨c, ?_, fun j hj => (hc j hj).2⟩
  congr 1
  apply Array.ext'
  apply List.ext_getElem?
  intro j
  by_cases hj : j < n
  · have := (hc j hj).1
    simp [hj]
    simpa using this
  · rw [List.getElem?_eq_none (by simpa using (by omega : cs.size ≤ j)), List.getElem?_eq_none (by simpa using hj)]
theorem laid_outc : laidOutB Tryd.prog = true := by kernel_rfl
end Go.Proofs.YteogbpaaacmllaaDoor
namespace Go.Proofs.YteogbpaaacmllaaDoor
set_option maxRecDepth 20000
open Go.ChangeShapes Go.WideShapes Go.ChangeAt Go.RowKit

theorem record_of_trod {H : Type} {enc : TypeId × Value → H} {W : World} {r : Reach} {b0 : Nat} {v : Value} {d : DataW H} {p : List MemPlace} (hval : Value.okWide Tryd.prog W r b0 24 v)
    (h : DataW.Trod enc Tryd.prog W 0 (fun _ => true) true 24 v d p) : ∃ c : Nat → Nat, v = .agg (Tab.rl c).toArray ∧ ∀ j, j < 32 → c j < 18446744073709551616 :=
  warr_of_trod (n := 32) (by kernel_rfl) (by kernel_rfl) hval h
theorem record_stay {H : Type} {enc : TypeId × Value → H} {W W' : World} {sp : Nat → Bool} {v : Value} {d : DataW H} {p : List MemPlace}
    (h : DataW.Trod enc Tryd.prog W 0 (fun _ => true) true 24 v d p) (hb : Below W.heap.size W W') (hlt : ∀ x ∈ p, x.block < W.heap.size) (hs : ∀ x ∈ p, sp x.block = true) :
    DataW.Trod enc Tryd.prog W' 0 sp true 24 v d p :=
  WideElems.Trod_stays laid_outc (by kernel_rfl) (of_decide_eq_true (by kernel_rfl)) h (fun x hx => hb.same (hlt x hx)) hs
end Go.Proofs.YteogbpaaacmllaaDoor
namespace Go.Proofs.YteogbpaaacmllaaDoor
set_option maxRecDepth 20000
open Go.ChangeShapes Go.WideShapes Go.ChangeAt Go.RowKit

theorem ask_fields : ∃ f0 f1 f2 : Field, Tryd.prog.underlying 28 = some (.struct #[f0, f1, f2]) ∧
    (f0.type = 3 ∧ f0.offset = 0) ∧ (f1.type = 3 ∧ f1.offset = 1) ∧ (f2.type = 26 ∧ f2.offset = 2) :=
  ⟨_, _, _, Tryd.underlying28, ⟨rfl, rfl⟩, ⟨rfl, rfl⟩, ⟨rfl, rfl⟩⟩
theorem ask_op_fields : ∃ f0 f1 f2 : Field, Tryd.prog.underlying 26 = some (.struct #[f0, f1, f2]) ∧
    (f0.type = 3 ∧ f0.offset = 0) ∧ (f1.type = 3 ∧ f1.offset = 1) ∧ (f2.type = 3 ∧ f2.offset = 2) :=
  ⟨_, _, _, Tryd.underlying26, ⟨rfl, rfl⟩, ⟨rfl, rfl⟩, ⟨rfl, rfl⟩⟩

set_option maxRecDepth 20000 in
theorem ask_cells {H : Type} {enc : TypeId × Value → H} {W : World} {fuel : Nat} {cs : List Value} {y : DataW H × List MemPlace} (hl : cs.length = 5)
    (h2 : DataW.trod enc Tryd.prog W 0 (fun _ => true) true fuel 28 cs = some y) : ∃ t g o k x : Int, cs = [.int .i64 t, .int .i64 g, .int .i64 o, .int .i64 k, .int .i64 x] := by
  have hc3 : Tryd.prog.cellsOf 26 = 3 := by kernel_rfl
  have ci : Tryd.prog.cellsOf 3 = 1 := by kernel_rfl
  obtain ⟨f0, f1, f2, hu, ⟨t0, o0⟩, ⟨t1, o1⟩, ⟨t2, o2⟩⟩ := ask_fields
  obtain ⟨g0, g1, g2, hg, ⟨tg0, og0⟩, ⟨tg1, og1⟩, ⟨tg2, og2⟩⟩ := ask_op_fields
  obtain ⟨xs, k, _, _, _, hxl, hfl⟩ := DataW.trod_struct hu h2
  match cs, hl, xs, hxl with
  | [v0, v1, v2, v3, v4], _, [y0, y1, y2], _ =>
    have k0 := hfl 0 f0 rfl
    have k1 := hfl 1 f1 rfl
    have k2 := hfl 2 f2 rfl
    rw [t0, o0, ci] at k0
    rw [t1, o1, ci] at k1
    rw [t2, o2, hc3] at k2
    obtain ⟨n0, q0, _, _⟩ := DataW.trod_int Tryd.underlying3 k0
    obtain ⟨n1, q1, _, _⟩ := DataW.trod_int Tryd.underlying3 k1
    obtain ⟨ys, k', _, _, _, hyl, hgl⟩ := DataW.trod_struct hg k2
    match ys, hyl with
    | [z0, z1, z2], _ =>
      have m0 := hgl 0 g0 rfl
      have m1 := hgl 1 g1 rfl
      have m2 := hgl 2 g2 rfl
      rw [tg0, og0, ci] at m0
      rw [tg1, og1, ci] at m1
      rw [tg2, og2, ci] at m2
      obtain ⟨n2, q2, _, _⟩ := DataW.trod_int Tryd.underlying3 m0
      obtain ⟨n3, q3, _, _⟩ := DataW.trod_int Tryd.underlying3 m1
      obtain ⟨n4, q4, _, _⟩ := DataW.trod_int Tryd.underlying3 m2
      simp at q0 q1 q2 q3 q4
      subst q0 q1 q2 q3 q4
      exact ⟨n0, n1, n2, n3, n4, rfl⟩

theorem ask_of_trod {H : Type} {enc : TypeId × Value → H} {W : World} {r : Reach} {b0 : Nat} {v : Value} {d : DataW H} {p : List MemPlace} (hval : Value.okWide Tryd.prog W r b0 28 v)
    (h : DataW.Trod enc Tryd.prog W 0 (fun _ => true) true 28 v d p) : ∃ t g o k x : Int, v = .agg #[.int .i64 t, .int .i64 g, .int .i64 o, .int .i64 k, .int .i64 x] := by
  have hc5 : Tryd.prog.cellsOf 28 = 5 := by kernel_rfl
  obtain ⟨f0, f1, f2, hu, _⟩ := ask_fields
  obtain ⟨cs, rfl, hsz⟩ := okWide_struct hu hval
  obtain ⟨fuel, hf⟩ := h
  obtain ⟨t, g, o, k, x, he⟩ := ask_cells (by rw [← hc5, ← hsz]; simp [Value.cells]) hf
  refine ⟨t, g, o, k, x, ?_⟩
  have : cs.toList = [.int .i64 t, .int .i64 g, .int .i64 o, .int .i64 k, .int .i64 x] := he
  rw [← Array.toArray_toList (xs := cs), this]
theorem ask_stay {H : Type} {enc : TypeId × Value → H} {W W' : World} {sp : Nat → Bool} {v : Value} {d : DataW H} {p : List MemPlace}
    (h : DataW.Trod enc Tryd.prog W 0 (fun _ => true) true 28 v d p) (hb : Below W.heap.size W W') (hlt : ∀ x ∈ p, x.block < W.heap.size) (hs : ∀ x ∈ p, sp x.block = true) :
    DataW.Trod enc Tryd.prog W' 0 sp true 28 v d p :=
  WideElems.Trod_stays laid_out (by kernel_rfl) (of_decide_eq_true (by kernel_rfl)) h (fun x hx => hb.same (hlt x hx)) hs
end Go.Proofs.YteogbpaaacmllaaDoor
