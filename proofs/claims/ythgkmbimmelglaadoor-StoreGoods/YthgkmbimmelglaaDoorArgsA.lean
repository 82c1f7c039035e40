/- An argument that is a slice of acts, as it lies in memory. -/
import Derived.Test.YthgkmbimmelglaaDoorSd1
import Derived.ProofKit
import Derived.OpenShut
import Derived.Carry
namespace Go.Proofs.YthgkmbimmelglaaDoor
open Go.ChangeShapes Go.WideShapes Go.ChangeAt Go.RowKit

theorem act_fields : ∃ f0 f1 f2 f3 f4 : Field, Tryd.prog.underlying 50 = some (.struct #[f0, f1, f2, f3, f4]) ∧
    (f0.type = 3 ∧ f0.offset = 0) ∧ (f1.type = 3 ∧ f1.offset = 1) ∧ (f2.type = 27 ∧ f2.offset = 2) ∧ (f3.type = 3 ∧ f3.offset = 3) ∧ (f4.type = 3 ∧ f4.offset = 4) :=
  ⟨_, _, _, _, _, Tryd.underlying50, ⟨rfl, rfl⟩, ⟨rfl, rfl⟩, ⟨rfl, rfl⟩, ⟨rfl, rfl⟩, ⟨rfl, rfl⟩⟩

theorem u64_nat {n : Int} (h : (Lit.int .u64 n).wf = true) : ∃ x : Nat, n = (x : Nat) ∧ x < 18446744073709551616 := by
  obtain ⟨h0, h1⟩ := bounds_u64 h
  obtain ⟨x, rfl⟩ := Int.eq_ofNat_of_zero_le h0
  exact ⟨x, rfl, by omega⟩

set_option maxRecDepth 20000 in
theorem acts_of_trod {H : Type} {enc : TypeId × Value → H} {W : World} {r : Reach} {b0 : Nat} {v : Value} {d : DataW H} {p : List MemPlace} (hval : Value.okWide Tryd.prog W r b0 22 v)
    (h : DataW.Trod enc Tryd.prog W 0 (fun _ => true) true 22 v d p) : ∃ n, Acts W v n := by
  obtain ⟨fuel, hf⟩ := h
  obtain ⟨A, l, c, rfl⟩ := okWide_slice Tryd.underlying22 hval
  have hc5 : Tryd.prog.cellsOf 50 = 5 := by kernel_rfl
  have ci : Tryd.prog.cellsOf 3 = 1 := by kernel_rfl
  have cu : Tryd.prog.cellsOf 27 = 1 := by kernel_rfl
  obtain ⟨f0, f1, f2, f3, f4, hu, ⟨t0, o0⟩, ⟨t1, o1⟩, ⟨t2, o2⟩, ⟨t3, o3⟩, ⟨t4, o4⟩⟩ := act_fields
  rcases Deep.open_slice Tryd.underlying22 hf with ⟨hcs, _⟩ | ⟨a, len, cap, m, n, D, Pl, hcs, _, hl, _, hm, _, hx⟩
  · simp [Value.cells] at hcs
    obtain ⟨rfl, rfl, rfl⟩ := hcs
    exact ⟨0, Or.inl ⟨rfl, rfl⟩⟩
  · simp [Value.cells] at hcs
    obtain ⟨rfl, rfl, rfl⟩ := hcs
    refine ⟨l, Or.inr ⟨a, c, rfl, fun i hi => ?_⟩⟩
    obtain ⟨cs', h1, h2⟩ := hx i (by rw [hm]; simp; omega)
    rw [hc5] at h1
    obtain ⟨_, hlen, hcell⟩ := World.cells?_some h1
    obtain ⟨xs, k, _, _, _, hxl, hfl⟩ := DataW.trod_struct hu h2
    match cs', hlen, xs, hxl with
    | [v0, v1, v2, v3, v4], _, [y0, y1, y2, y3, y4], _ =>
      have k0 := hfl 0 f0 rfl
      have k1 := hfl 1 f1 rfl
      have k2 := hfl 2 f2 rfl
      have k3 := hfl 3 f3 rfl
      have k4 := hfl 4 f4 rfl
      rw [t0, o0, ci] at k0
      rw [t1, o1, ci] at k1
      rw [t2, o2, cu] at k2
      rw [t3, o3, ci] at k3
      rw [t4, o4, ci] at k4
      obtain ⟨n0, e0, _, _⟩ := DataW.trod_int Tryd.underlying3 k0
      obtain ⟨n1, e1, _, _⟩ := DataW.trod_int Tryd.underlying3 k1
      obtain ⟨n2, e2, _, w2⟩ := DataW.trod_int Tryd.underlying27 k2
      obtain ⟨n3, e3, _, _⟩ := DataW.trod_int Tryd.underlying3 k3
      obtain ⟨n4, e4, _, _⟩ := DataW.trod_int Tryd.underlying3 k4
      obtain ⟨x, rfl, hx4⟩ := u64_nat w2
      simp at e0 e1 e2 e3 e4
      subst e0 e1 e2 e3 e4
      refine ⟨⟨n0, n1, x, n3, n4⟩, hx4, fun j v hv => ?_⟩
      have hj : j < 5 := by simpa [Ac.cells] using (List.getElem?_eq_some_iff.1 hv).1
      rw [hcell j hj]
      exact hv

theorem laid_out : laidOutB Tryd.prog = true := by kernel_rfl
/-- A slice of deeds reads behind the call as it did. -/
theorem acts_stay {H : Type} {enc : TypeId × Value → H} {W W' : World} {sp : Nat → Bool} {v : Value} {d : DataW H} {p : List MemPlace}
    (h : DataW.Trod enc Tryd.prog W 0 (fun _ => true) true 22 v d p) (hb : Below W.heap.size W W') (hlt : ∀ x ∈ p, x.block < W.heap.size) (hs : ∀ x ∈ p, sp x.block = true) :
    DataW.Trod enc Tryd.prog W' 0 sp true 22 v d p :=
  WideElems.Trod_stays laid_out (by kernel_rfl) (of_decide_eq_true (by kernel_rfl)) h (fun x hx => hb.same (hlt x hx)) hs
end Go.Proofs.YthgkmbimmelglaaDoor
