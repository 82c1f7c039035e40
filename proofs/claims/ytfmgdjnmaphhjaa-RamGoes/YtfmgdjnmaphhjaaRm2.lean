/- The keepers' pick and remembered, by their contracts; an argument that is a slice of words. -/
import Derived.Test.YtfmgdjnmaphhjaaRm1
import Derived.ProofKit
import Derived.OpenShut
import Derived.Carry
namespace Go.Proofs.Ytfmgdjnmaphhjaa
open Go.ChangeShapes Go.WideShapes Go.ChangeAt Go.RowKit

theorem pick_num (a : Int) (n : Nat) (h0 : 0 < n) (h : n < 4611686018427387904) : ∃ r : Nat, r < n ∧ wrap64 ((IntKind.u64.wrap a).tmod (n : Int)) = (r : Int) := by
  have hw : 0 ≤ IntKind.u64.wrap a := wrap_u64_nonneg a
  rw [Int.tmod_eq_emod_of_nonneg hw]
  have h1 : 0 ≤ IntKind.u64.wrap a % (n : Int) := Int.emod_nonneg _ (by omega)
  have h2 : IntKind.u64.wrap a % (n : Int) < n := Int.emod_lt_of_pos _ (by omega)
  refine ⟨(IntKind.u64.wrap a % (n : Int)).toNat, by omega, ?_⟩
  rw [IntWalk.wrap64_in _ (by omega)]
  omega

/-- pick is a function of its arguments, and below n. -/
theorem pick_fun (a : Int) (n : Nat) (h0 : 0 < n) (h : n < 4611686018427387904) : ∃ r : Nat, r < n ∧ ∀ w : World,
    Calls Try.prog 7 #[.int .i64 a, .int .i64 n] w fun e w' => e = .returned (.int .i64 (r : Nat)) ∧ w' = w := by
  obtain ⟨r, hr, he⟩ := pick_num a n h0 h
  refine ⟨r, hr, fun w => ?_⟩
  have HE : Hid _ := he
  clear he
  go_enter Try.func7, Try.ntmps7
  go_wp2
  go_ret
  exact ⟨ret_int HE.out, rfl⟩

/-- n words lie in a slice. -/
def Words (w : World) (sl : Value) (n : Nat) : Prop :=
  (sl = .slice none 0 0 ∧ n = 0) ∨ ∃ (a : Addr) (cap : Nat), sl = .slice (some a) n cap ∧ ∀ i, i < n → ∃ x : Nat, w.cell? (a.add i) = some (.int .u64 (x : Nat))
theorem Words.open {w : World} {sl : Value} {n : Nat} (h : Words w sl n) : ∃ (A : Option Addr) (cap : Nat), sl = .slice A n cap ∧
    ∀ w', Gr w w' → ∀ i, i < n → ∃ (a : Addr) (x : Nat), A = some a ∧ w'.cell? (a.add i) = some (.int .u64 (x : Nat)) := by
  rcases h with ⟨rfl, rfl⟩ | ⟨a, cap, rfl, h3⟩
  · exact ⟨none, 0, rfl, fun _ _ i hi => absurd hi (Nat.not_lt_zero _)⟩
  · refine ⟨some a, cap, rfl, fun w' g i hi => ?_⟩
    obtain ⟨x, hc⟩ := h3 i hi
    exact ⟨a, x, rfl, by rw [g.below.cell (World.block_lt_of_cell? w _ hc)]; exact hc⟩

theorem u64_nat {n : Int} (h : (Lit.int .u64 n).wf = true) : ∃ x : Nat, n = (x : Nat) ∧ x < 18446744073709551616 := by
  obtain ⟨h0, h1⟩ := bounds_u64 h
  obtain ⟨x, rfl⟩ := Int.eq_ofNat_of_zero_le h0
  exact ⟨x, rfl, by omega⟩

theorem words_of_trod {H : Type} {enc : TypeId × Value → H} {W : World} {r : Reach} {b0 : Nat} {v : Value} {d : DataW H} {p : List MemPlace} (hval : Value.okWide Try.prog W r b0 22 v)
    (h : DataW.Trod enc Try.prog W 0 (fun _ => true) true 22 v d p) : ∃ n, Words W v n := by
  obtain ⟨fuel, hf⟩ := h
  obtain ⟨A, l, c, rfl⟩ := okWide_slice Try.underlying22 hval
  have cu : Try.prog.cellsOf 23 = 1 := by kernel_rfl
  rcases Deep.open_slice Try.underlying22 hf with ⟨hcs, _⟩ | ⟨a, len, cap, m, n, D, Pl, hcs, _, hl, _, hm, _, hx⟩
  · simp [Value.cells] at hcs
    obtain ⟨rfl, rfl, rfl⟩ := hcs
    exact ⟨0, Or.inl ⟨rfl, rfl⟩⟩
  · simp [Value.cells] at hcs
    obtain ⟨rfl, rfl, rfl⟩ := hcs
    refine ⟨l, Or.inr ⟨a, c, rfl, fun i hi => ?_⟩⟩
    obtain ⟨cs', h1, h2⟩ := hx i (by rw [hm]; simp; omega)
    rw [cu] at h1
    obtain ⟨_, hlen, hcell⟩ := World.cells?_some h1
    obtain ⟨k, e0, _, w0⟩ := DataW.trod_int Try.underlying23 h2
    obtain ⟨x, rfl, _⟩ := u64_nat w0
    have hc := hcell 0 (by decide)
    rw [e0] at hc
    refine ⟨x, ?_⟩
    simpa [Addr.add] using hc

theorem laid_out : laidOutB Try.prog = true := by kernel_rfl
/-- A slice of words reads behind the call as it did. -/
theorem words_stay {H : Type} {enc : TypeId × Value → H} {W W' : World} {sp : Nat → Bool} {v : Value} {d : DataW H} {p : List MemPlace}
    (h : DataW.Trod enc Try.prog W 0 (fun _ => true) true 22 v d p) (hb : Below W.heap.size W W') (hlt : ∀ x ∈ p, x.block < W.heap.size) (hs : ∀ x ∈ p, sp x.block = true) :
    DataW.Trod enc Try.prog W' 0 sp true 22 v d p :=
  WideElems.Trod_stays laid_out (by kernel_rfl) (of_decide_eq_true (by kernel_rfl)) h (fun x hx => hb.same (hlt x hx)) hs

/-- A new ram. -/
theorem ram_new (w : World) : RowAt (w.alloc (.cells #[.int .u64 0, .int .u64 0, .int .u64 0, .int .u64 0, .int .u64 0, .int .u64 0, .int .u64 0, .int .u64 0, .int .u64 0, .int .u64 0, .int .u64 0, .int .u64 0, .int .u64 0, .int .u64 0, .int .u64 0, .int .u64 0] 28)) w.heap.size 16 (fun _ => 0) := by
  refine RowAt.born w _ 16 (fun _ => 0) (fun j hj => ?_) _
  have e : (#[.int .u64 0, .int .u64 0, .int .u64 0, .int .u64 0, .int .u64 0, .int .u64 0, .int .u64 0, .int .u64 0, .int .u64 0, .int .u64 0, .int .u64 0, .int .u64 0, .int .u64 0, .int .u64 0, .int .u64 0, .int .u64 0] : Array Value) = (List.replicate 16 (Value.int .u64 0)).toArray := rfl
  rw [e, List.getElem?_toArray, List.getElem?_replicate, if_pos hj]

theorem remembered_any (w : World) : Calls Try.prog 5 #[] w fun e w' => e = .returned (.bool true) ∧ Gr w w' := by
  have h0 : Hid _ := ram_new w
  have g0 : Hid _ := (Gr.refl w).alloc #[.int .u64 0, .int .u64 0, .int .u64 0, .int .u64 0, .int .u64 0, .int .u64 0, .int .u64 0, .int .u64 0, .int .u64 0, .int .u64 0, .int .u64 0, .int .u64 0, .int .u64 0, .int .u64 0, .int .u64 0, .int .u64 0] 28
  go_enter Try.func5, Try.ntmps5
  go_wp2_with fail
  refine (Swap_yes 3 _ 7 _ _ (by decide) h0.out).mono ?_
  rintro e u1 ⟨rfl, h1, o1⟩
  have g1 : Hid _ := g0.out.only (Nat.le_refl _) o1
  clear h0 g0 o1
  go_wp2_with fail
  refine (Swap_not 3 _ 0 8 _ _ (by decide) (by decide) h1).mono ?_
  rintro e ux ⟨rfl, hu⟩
  rw [hu]; clear hu ux
  go_wp2_with fail
  refine (Load_yes 3 _ _ _ (by decide) h1).mono ?_
  rintro e ux ⟨rfl, hu⟩
  rw [hu]; clear hu ux
  rw [upd_same]
  go_wp2
  go_ret
  exact ⟨rfl, g1.out⟩
end Go.Proofs.Ytfmgdjnmaphhjaa
