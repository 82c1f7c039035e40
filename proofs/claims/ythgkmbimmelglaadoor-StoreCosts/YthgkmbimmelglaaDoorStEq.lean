/- Two rows of words held against each other: facts of no program. -/
import Derived.Test.YthgkmbimmelglaaDoorStMem
import Derived.ChangeKeysEq
namespace Go.Proofs.YthgkmbimmelglaaDoor
open Go.RowKit

/-- Are n numbers of f, from o on, those of g, from p on? -/
def same (f : Nat → Int) (o : Nat) (g : Nat → Int) (p n : Nat) : Bool := (List.range n).all fun i => f (o + i) == g (p + i)
theorem same_iff (f : Nat → Int) (o : Nat) (g : Nat → Int) (p n : Nat) : same f o g p n = true ↔ ∀ i, i < n → f (o + i) = g (p + i) := by simp [same]
theorem same_of (f : Nat → Int) (o : Nat) (g : Nat → Int) (p n : Nat) (h : ∀ i, i < n → f (o + i) = g (p + i)) : same f o g p n = true := (same_iff f o g p n).2 h

theorem run_eqItems_words {P : Program} (w : World) (d : Nat) {e : TypeId} (he : P.underlying e = some (.int .u64)) (f : Nat → Int) (o : Nat) (g : Nat → Int) (p n : Nat) :
    ∀ is : List Nat, (∀ i ∈ is, i < n) → (Op.eqItems (d + 1) e 1 (row f o n).toArray (row g p n).toArray is).run P w = .ok (is.all fun i => f (o + i) == g (p + i)) w
  | [], _ => by simp [Op.eqItems]
  | i :: is, h => by
    have hi : i < n := h i (by simp)
    have ih := run_eqItems_words w d he f o g p n is (fun j hj => h j (by simp [hj]))
    have px : (part e (row f o n).toArray (i * 1)).run P w = .ok (.int .u64 (f (o + i))) w := by
      simp [part, isAgg, run_underlying he, row_at f o n i hi]
    have py : (part e (row g p n).toArray (i * 1)).run P w = .ok (.int .u64 (g (p + i))) w := by
      simp [part, isAgg, run_underlying he, row_at g p n i hi]
    simp only [Op.eqItems, Sem.run_bind, px, py, run_equalIn_int w d e .u64 .u64 _ _ he, Result.andThen_ok, List.all_cons]
    cases hb : (f (o + i) == g (p + i))
    · simp
    · simpa using ih

theorem run_equalIn_words {P : Program} (w : World) {t e : TypeId} {i : TypeInfo} {n : Nat} (hu : P.underlying t = some (.array n e)) (hi : P.info? e = some i) (hc : P.cellsOf e = 1) (he : P.underlying e = some (.int .u64))
    (f : Nat → Int) (o : Nat) (g : Nat → Int) (p : Nat) :
    (Op.equalIn 10000 t (.agg (row f o n).toArray) (.agg (row g p n).toArray)).run P w = .ok (same f o g p n) w := by
  rw [run_equalIn_array w 9999 (row f o n).toArray (row g p n).toArray hu hi, hc, run_eqItems_words w 9998 he f o g p n (List.range n) (by simp)]
  rfl
end Go.Proofs.YthgkmbimmelglaaDoor
