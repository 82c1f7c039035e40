/- A thing of the reference's, as it lies: its kind, its list, its slots, its number. -/
import Derived.Test.YtbmgjpdfmgcigabDoorRows
import Derived.Test.YtbmgjpdfmgcigabDoorOw
import Derived.Test.YtbmgjpdfmgcigabDoorTm
namespace Go.Proofs.YtbmgjpdfmgcigabDoor.Tab
set_option maxRecDepth 20000
open Go.RowKit

def tg (kind : Int) (v : Value) (t : Tb) (n : Int) : List Value := .int .i64 kind :: v :: (t.all ++ [.int .i64 n])
theorem tg_length (kind : Int) (v : Value) (t : Tb) (n : Int) : (tg kind v t n).length = 19 := by simp [tg, Tb.all_length]
theorem tg_0 (kind : Int) (v : Value) (t : Tb) (n : Int) : (tg kind v t n)[0]? = some (.int .i64 kind) := rfl
theorem tg_1 (kind : Int) (v : Value) (t : Tb) (n : Int) : (tg kind v t n)[1]? = some v := rfl
theorem tg_18 (kind : Int) (v : Value) (t : Tb) (n : Int) : (tg kind v t n)[18]? = some (.int .i64 n) := by
  simp [tg, Tb.all_length]
theorem tg_at (kind : Int) (v : Value) (t : Tb) (n : Int) {j : Nat} (hj : j < 16) : (tg kind v t n)[2 + j]? = some (t.at j) := by
  rw [show 2 + j = j + 1 + 1 by omega, tg, List.getElem?_cons_succ, List.getElem?_cons_succ, List.getElem?_append, if_pos (by rw [Tb.all_length]; exact hj), Tb.all_at t j hj]
theorem tg_one (kind : Int) {v : Value} (hv : v.oneCell' = true) (t : Tb) (n : Int) : ∀ u ∈ tg kind v t n, u.oneCell' = true := by
  intro u hu
  simp only [tg, List.mem_cons, List.mem_append, List.not_mem_nil, or_false] at hu
  rcases hu with rfl | rfl | hu | rfl
  · rfl
  · exact hv
  · exact t.all_one u hu
  · rfl
theorem slice_one (a : Option Addr) (n c : Nat) : (Value.slice a n c).oneCell' = true := rfl
theorem tg_zero (kind : Int) : (tg kind (.slice none 0 0) Tb.zero 0).toArray = #[.int .i64 kind, .slice none 0 0, .int .i64 0, .int .i64 0, .int .i64 0, .int .i64 0, .int .i64 0, .int .i64 0, .int .i64 0, .int .i64 0, .int .i64 0, .int .i64 0, .int .i64 0, .int .i64 0, .int .i64 0, .int .i64 0, .int .i64 0, .int .i64 0, .int .i64 0] := rfl
/-- The slots of a thing, as a row within it. -/
theorem Bo.slots {w : World} {b : Nat} {kind : Int} {v : Value} {t : Tb} {n : Int} (h : Bo w b (tg kind v t n)) : w.rangeAt b 2 t.all := fun j u hu => by
  have hj : j < 16 := by have := (List.getElem?_eq_some_iff.1 hu).1; rwa [Tb.all_length] at this
  rw [Tb.all_at t j hj] at hu
  exact h.cell (2 + j) u (by rw [tg_at _ _ _ _ hj]; exact hu)
theorem Bo.tcell {w : World} {b : Nat} {kind : Int} {v : Value} {t : Tb} {n : Int} (h : Bo w b (tg kind v t n)) : w.cell? ⟨b, 0, none⟩ = some (.int .i64 kind) ∧ w.cell? ⟨b, 1, none⟩ = some v ∧ w.cell? ⟨b, 18, none⟩ = some (.int .i64 n) :=
  ⟨h.cell 0 _ rfl, h.cell 1 _ rfl, h.cell 18 _ (tg_18 _ _ _ _)⟩
/-- Another list, another number, another slot. -/
theorem tg_list (kind : Int) (v u : Value) (t : Tb) (n : Int) : (tg kind v t n).set 1 u = tg kind u t n := rfl
theorem tg_num (kind : Int) (v : Value) (t : Tb) (n m : Int) : (tg kind v t n).set 18 (.int .i64 m) = tg kind v t m := by
  simp [tg, Tb.all_length]
end Go.Proofs.YtbmgjpdfmgcigabDoor.Tab
