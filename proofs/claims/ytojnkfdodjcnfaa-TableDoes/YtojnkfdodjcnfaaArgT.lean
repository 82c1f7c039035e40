/- An argument that is a table, as it lies in the call. -/
import Derived.Test.YtojnkfdodjcnfaaArgOp
import Derived.Test.YtojnkfdodjcnfaaTm
namespace Go.Proofs.Ytojnkfdodjcnfaa
open Go.ChangeShapes Go.WideShapes Go.ChangeAt Go.RowKit

theorem okWide_rows {P : Program} {w : World} {r : Reach} {base : Nat} {t e : TypeId} {n : Nat} {v : Value} (ht : P.underlying t = some (.array n e)) (h : Value.okWide P w r base t v) : ∃ cs, v = .agg cs ∧ cs.size = P.cellsOf t := by
  simp only [Value.okWide, ht] at h
  obtain ⟨cs, h1, h2, _⟩ := h
  exact ⟨cs, h1, h2⟩
theorem rslot_fields : ∃ f0 f1 : Field, Try.prog.underlying 23 = some (.struct #[f0, f1]) ∧ (f0.type = 3 ∧ f0.offset = 0) ∧ (f1.type = 3 ∧ f1.offset = 1) :=
  ⟨_, _, Try.underlying23, ⟨rfl, rfl⟩, ⟨rfl, rfl⟩⟩

set_option maxRecDepth 20000 in
theorem slots_of_trod {H : Type} {enc : TypeId × Value → H} {W : World} {r : Reach} {b0 : Nat} {v : Value} {d : DataW H} {p : List MemPlace} (hval : Value.okWide Try.prog W r b0 25 v)
    (h : DataW.Trod enc Try.prog W 0 (fun _ => true) true 25 v d p) : ∃ t : Tb, v = .agg t.all.toArray := by
  have hu : Try.prog.underlying 25 = some (.array 8 23) := by kernel_rfl
  have c16 : Try.prog.cellsOf 25 = 16 := by kernel_rfl
  have c2 : Try.prog.cellsOf 23 = 2 := by kernel_rfl
  have ci : Try.prog.cellsOf 3 = 1 := by kernel_rfl
  obtain ⟨cs, rfl, hsz⟩ := okWide_rows hu hval
  rw [c16] at hsz
  obtain ⟨fuel, hf⟩ := h
  obtain ⟨xs, m, _, _, _, hxl, hx⟩ := DataW.trod_array hu hf
  rw [c2] at hx
  obtain ⟨f0, f1, hus, ⟨t0, o0⟩, ⟨t1, o1⟩⟩ := rslot_fields
  have key : ∀ i, i < 8 → ∃ k y : Int, cs[i * 2]? = some (.int .i64 k) ∧ cs[i * 2 + 1]? = some (.int .i64 y) := by
    intro i hi
    have h2 := hx i hi
    rw [List.getElem?_eq_getElem (by omega)] at h2
    obtain ⟨ys, q, _, _, _, hyl, hfl⟩ := DataW.trod_struct hus h2
    have k0 := hfl 0 f0 rfl
    have k1 := hfl 1 f1 rfl
    rw [t0, o0, ci] at k0
    rw [t1, o1, ci] at k1
    match ys, hyl with
    | [y0, y1], _ =>
      obtain ⟨n0, e0, _, _⟩ := DataW.trod_int Try.underlying3 k0
      obtain ⟨n1, e1, _, _⟩ := DataW.trod_int Try.underlying3 k1
      have hl : cs.toList.length = 16 := by simpa using hsz
      refine ⟨n0, n1, ?_, ?_⟩
      · have g : (Value.agg cs).cells.toList = cs.toList := rfl
        rw [g] at e0
        have := congrArg (·[0]?) e0
        simpa [List.getElem?_take, List.getElem?_drop] using this
      · have g : (Value.agg cs).cells.toList = cs.toList := rfl
        rw [g] at e1
        have := congrArg (·[0]?) e1
        simpa [List.getElem?_take, List.getElem?_drop] using this
  obtain ⟨K, V, hKV⟩ : ∃ K V : Nat → Int, ∀ i, i < 8 → cs[i * 2]? = some (.int .i64 (K i)) ∧ cs[i * 2 + 1]? = some (.int .i64 (V i)) := by
    refine ⟨fun i => if h : i < 8 then Classical.choose (key i h) else 0, fun i => if h : i < 8 then Classical.choose (Classical.choose_spec (key i h)) else 0, fun i hi => ?_⟩
    simp only [hi, dif_pos]
    exact Classical.choose_spec (Classical.choose_spec (key i hi))
  refine ⟨⟨K, V⟩, ?_⟩
  congr 1
  apply Array.ext'
  apply List.ext_getElem?
  intro j
  by_cases hj : j < 16
  · obtain ⟨s0, s1⟩ := hKV (j / 2) (by omega)
    rw [show ∀ l : List Value, l.toArray.toList = l from fun _ => rfl, Tb.all_at _ j hj]
    unfold Tb.at
    by_cases e : j % 2 = 0
    · rw [if_pos e]
      rw [show j / 2 * 2 = j by omega] at s0
      simpa using s0
    · rw [if_neg e]
      rw [show j / 2 * 2 + 1 = j by omega] at s1
      simpa using s1
  · rw [List.getElem?_eq_none (by simpa using (by omega : cs.size ≤ j)), List.getElem?_eq_none (by simpa [Tb.all_length] using (by omega : 16 ≤ j))]

theorem slots_stay {H : Type} {enc : TypeId × Value → H} {W W' : World} {sp : Nat → Bool} {v : Value} {d : DataW H} {p : List MemPlace}
    (h : DataW.Trod enc Try.prog W 0 (fun _ => true) true 25 v d p) (hb : Below W.heap.size W W') (hlt : ∀ x ∈ p, x.block < W.heap.size) (hs : ∀ x ∈ p, sp x.block = true) :
    DataW.Trod enc Try.prog W' 0 sp true 25 v d p :=
  WideElems.Trod_stays laid_out (by kernel_rfl) (of_decide_eq_true (by kernel_rfl)) h (fun x hx => hb.same (hlt x hx)) hs
end Go.Proofs.Ytojnkfdodjcnfaa
