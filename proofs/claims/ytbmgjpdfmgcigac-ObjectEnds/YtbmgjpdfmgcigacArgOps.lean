/- An argument that is a list of operations, as it lies in the call. -/
import Derived.Test.YtbmgjpdfmgcigacArgOp
import Derived.Deep.Slices
import Derived.Deep.MidRow
namespace Go.Proofs.Ytbmgjpdfmgcigac
open Go.ChangeShapes Go.WideShapes Go.ChangeAt Go.RowKit

/-- n operations lie in the slice v. -/
def Ops (w : World) (v : Value) (n : Nat) : Prop :=
  (n = 0 ∧ ∃ (a : Option Addr) (c : Nat), v = .slice a 0 c ∧ (a = none → c = 0)) ∨
  ∃ (b off c : Nat), v = .slice (some ⟨b, off, none⟩) n c ∧ 0 < n ∧ n ≤ c ∧ n ≤ 9223372036854775807 ∧
    ∀ i, i < n → ∃ o k x : Int, w.cell? ⟨b, off + i * 3, none⟩ = some (.int .i64 o) ∧ w.cell? ⟨b, off + i * 3 + 1, none⟩ = some (.int .i64 k) ∧ w.cell? ⟨b, off + i * 3 + 2, none⟩ = some (.int .i64 x)
theorem Ops.later {w w' : World} {v : Value} {n : Nat} (h : Ops w v n) (hb : Below w.heap.size w w') : Ops w' v n := by
  rcases h with h | ⟨b, off, c, h1, h2, h3, h4, h5⟩
  · exact Or.inl h
  · refine Or.inr ⟨b, off, c, h1, h2, h3, h4, fun i hi => ?_⟩
    obtain ⟨o, k, x, c0, c1, c2⟩ := h5 i hi
    refine ⟨o, k, x, ?_, ?_, ?_⟩
    · rw [hb.cell (World.block_lt_of_cell? w _ c0)]; exact c0
    · rw [hb.cell (World.block_lt_of_cell? w _ c1)]; exact c1
    · rw [hb.cell (World.block_lt_of_cell? w _ c2)]; exact c2

theorem op_fields : ∃ f0 f1 f2 : Field, Try.prog.underlying 38 = some (.struct #[f0, f1, f2]) ∧
    (f0.type = 3 ∧ f0.offset = 0) ∧ (f1.type = 3 ∧ f1.offset = 1) ∧ (f2.type = 3 ∧ f2.offset = 2) :=
  ⟨_, _, _, Try.underlying38, ⟨rfl, rfl⟩, ⟨rfl, rfl⟩, ⟨rfl, rfl⟩⟩

set_option maxRecDepth 20000 in
theorem ops_of_trod {H : Type} {enc : TypeId × Value → H} {W : World} {r : Reach} {b0 : Nat} {v : Value} {d : DataW H} {p : List MemPlace} (hval : Value.okWide Try.prog W r b0 22 v)
    (h : DataW.Trod enc Try.prog W 0 (fun _ => true) true 22 v d p) : ∃ n, Ops W v n := by
  obtain ⟨fuel, hf⟩ := h
  obtain ⟨A, l, c, rfl⟩ := okWide_slice Try.underlying22 hval
  have hc3 : Try.prog.cellsOf 38 = 3 := by kernel_rfl
  have ci : Try.prog.cellsOf 3 = 1 := by kernel_rfl
  obtain ⟨f0, f1, f2, hu, ⟨t0, o0⟩, ⟨t1, o1⟩, ⟨t2, o2⟩⟩ := op_fields
  rcases Deep.open_slice Try.underlying22 hf with ⟨hcs, _⟩ | ⟨a, len, cap, m, n, D, Pl, hcs, _, hl, hmx, hm, _, hx⟩
  · simp [Value.cells] at hcs
    obtain ⟨rfl, rfl, rfl⟩ := hcs
    exact ⟨0, Or.inl ⟨rfl, none, 0, rfl, fun _ => rfl⟩⟩
  · simp [Value.cells] at hcs
    obtain ⟨rfl, rfl, rfl⟩ := hcs
    by_cases h0 : l = 0
    · subst h0
      exact ⟨0, Or.inl ⟨rfl, some a, c, rfl, fun h => by cases h⟩⟩
    have hcell : ∀ i, i < l → ∃ o k x : Int, W.cell? (a.add (i * 3)) = some (.int .i64 o) ∧ W.cell? ((a.add (i * 3)).add 1) = some (.int .i64 k) ∧ W.cell? ((a.add (i * 3)).add 2) = some (.int .i64 x) := by
      intro i hi
      obtain ⟨cs', h1, h2⟩ := hx i (by rw [hm]; simp; omega)
      rw [hc3] at h1
      obtain ⟨_, hlen, hcell⟩ := World.cells?_some h1
      obtain ⟨xs, k, _, _, _, hxl, hfl⟩ := DataW.trod_struct hu h2
      match cs', hlen, xs, hxl with
      | [v0, v1, v2], _, [y0, y1, y2], _ =>
        have k0 := hfl 0 f0 rfl
        have k1 := hfl 1 f1 rfl
        have k2 := hfl 2 f2 rfl
        rw [t0, o0, ci] at k0
        rw [t1, o1, ci] at k1
        rw [t2, o2, ci] at k2
        obtain ⟨n0, e0, _, _⟩ := DataW.trod_int Try.underlying3 k0
        obtain ⟨n1, e1, _, _⟩ := DataW.trod_int Try.underlying3 k1
        obtain ⟨n2, e2, _, _⟩ := DataW.trod_int Try.underlying3 k2
        simp at e0 e1 e2
        subst e0 e1 e2
        refine ⟨n0, n1, n2, ?_, hcell 1 (by omega), hcell 2 (by omega)⟩
        have := hcell 0 (by omega)
        simpa [Addr.add] using this
    obtain ⟨b, off, spot⟩ := a
    have hspot : spot = none := by
      obtain ⟨o, k, x, h1, _, _⟩ := hcell 0 (by omega)
      simpa [Addr.add] using World.cell?_spot h1
    subst hspot
    refine ⟨l, Or.inr ⟨b, off, c, rfl, by omega, hl, by unfold maxLen at hmx; omega, fun i hi => ?_⟩⟩
    obtain ⟨o, k, x, h1, h2, h3⟩ := hcell i hi
    rw [Addr.add_mid] at h1 h2 h3
    rw [Addr.add_mid] at h2 h3
    exact ⟨o, k, x, h1, h2, h3⟩

theorem ops_stay {H : Type} {enc : TypeId × Value → H} {W W' : World} {sp : Nat → Bool} {v : Value} {d : DataW H} {p : List MemPlace}
    (h : DataW.Trod enc Try.prog W 0 (fun _ => true) true 22 v d p) (hb : Below W.heap.size W W') (hlt : ∀ x ∈ p, x.block < W.heap.size) (hs : ∀ x ∈ p, sp x.block = true) :
    DataW.Trod enc Try.prog W' 0 sp true 22 v d p :=
  WideElems.Trod_stays laid_out (by kernel_rfl) (of_decide_eq_true (by kernel_rfl)) h (fun x hx => hb.same (hlt x hx)) hs
end Go.Proofs.Ytbmgjpdfmgcigac
