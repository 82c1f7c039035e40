/- An argument that is a list of numbers, as it lies in the call. -/
import Derived.Test.YtbmgjpdfmgcigaaArgOp
import Derived.Test.YtbmgjpdfmgcigaaLs
namespace Go.Proofs.Ytbmgjpdfmgcigaa
open Go.ChangeShapes Go.WideShapes Go.ChangeAt Go.RowKit

/-- A list that came in. -/
def In (w : World) (v : Value) (xs : List Int) : Prop := IsL 0 w v xs ∧ xs.length ≤ 9223372036854775807

set_option maxRecDepth 20000 in
theorem ints_of_trod {H : Type} {enc : TypeId × Value → H} {W : World} {r : Reach} {b0 : Nat} {v : Value} {d : DataW H} {p : List MemPlace} (hval : Value.okWide Try.prog W r b0 33 v)
    (h : DataW.Trod enc Try.prog W 0 (fun _ => true) true 33 v d p) : ∃ xs, In W v xs := by
  obtain ⟨fuel, hf⟩ := h
  obtain ⟨A, l, c, rfl⟩ := okWide_slice Try.underlying33 hval
  have ci : Try.prog.cellsOf 3 = 1 := by kernel_rfl
  rcases open_ints Try.underlying33 Try.underlying3 ci hf with ⟨hcs, _⟩ | ⟨a, len, cap, zs, hcs, _, hl, hm, hz, _, hcell, _⟩
  · simp [Value.cells] at hcs
    obtain ⟨rfl, rfl, rfl⟩ := hcs
    exact ⟨[], IsL.nil _ _ _ _, by simp⟩
  · simp [Value.cells] at hcs
    obtain ⟨rfl, rfl, rfl⟩ := hcs
    simp only [if_true] at hz
    have hlz : (zs.take l).length = l := by rw [List.length_take]; omega
    refine ⟨zs.take l, ?_, by unfold maxLen at hm; omega⟩
    by_cases h0 : l = 0
    · subst h0
      exact IsL.nil _ _ _ _
    · obtain ⟨b, off, spot⟩ := a
      have hspot : spot = none := by simpa [Addr.add] using World.cell?_spot (hcell 0 (by omega))
      subst hspot
      refine Or.inr ⟨b, off, c, by rw [hlz], Nat.zero_le _, by omega, by omega, fun j hj => ?_, fun h0 => absurd h0 (by decide)⟩
      have := hcell j (by omega)
      rw [add_plain] at this
      rw [this]
      simp [List.getD, show j < l by omega]

theorem ints_stay {H : Type} {enc : TypeId × Value → H} {W W' : World} {sp : Nat → Bool} {v : Value} {d : DataW H} {p : List MemPlace}
    (h : DataW.Trod enc Try.prog W 0 (fun _ => true) true 33 v d p) (hb : Below W.heap.size W W') (hlt : ∀ x ∈ p, x.block < W.heap.size) (hs : ∀ x ∈ p, sp x.block = true) :
    DataW.Trod enc Try.prog W' 0 sp true 33 v d p :=
  WideElems.Trod_stays laid_out (by kernel_rfl) (of_decide_eq_true (by kernel_rfl)) h (fun x hx => hb.same (hlt x hx)) hs
end Go.Proofs.Ytbmgjpdfmgcigaa
