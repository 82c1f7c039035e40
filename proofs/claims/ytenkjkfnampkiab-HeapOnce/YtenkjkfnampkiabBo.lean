/- An operation in a block of its own, carried from world to world. -/
import Derived.Test.YtenkjkfnampkiabKf
namespace Go.Proofs.Ytenkjkfnampkiab
open Go.RowKit
structure Bo (n : Nat) (o k x : Int) (w : World) : Prop where
  lt : n < w.heap.size
  c0 : w.cell? ⟨n, 0, none⟩ = some (.int .i64 o)
  c1 : w.cell? ⟨n, 1, none⟩ = some (.int .i64 k)
  c2 : w.cell? ⟨n, 2, none⟩ = some (.int .i64 x)
theorem Bo.later {n : Nat} {o k x : Int} {w w' : World} (h : Bo n o k x w) (hb : Below w.heap.size w w') : Bo n o k x w' where
  lt := Nat.lt_of_lt_of_le h.lt hb.size
  c0 := by rw [hb.cell (p := ⟨n, 0, none⟩) h.lt]; exact h.c0
  c1 := by rw [hb.cell (p := ⟨n, 1, none⟩) h.lt]; exact h.c1
  c2 := by rw [hb.cell (p := ⟨n, 2, none⟩) h.lt]; exact h.c2
theorem Bo.new {n : Nat} {o k x : Int} {w : World} (h : Bo n o k x w) (ob : Obj) : Bo n o k x (w.alloc ob) := h.later (new_below w ob)
theorem Bo.born (w : World) (o k x : Int) (t : TypeId) : Bo w.heap.size o k x (w.alloc (.cells #[.int .i64 o, .int .i64 k, .int .i64 x] t)) where
  lt := by simp
  c0 := by simp
  c1 := by simp
  c2 := by simp
theorem Bo.bornAt (w : World) (o k x : Int) (t : TypeId) {n : Nat} (h : n = w.heap.size) : Bo n o k x (w.alloc (.cells #[.int .i64 o, .int .i64 k, .int .i64 x] t)) := h ▸ Bo.born w o k x t
end Go.Proofs.Ytenkjkfnampkiab
