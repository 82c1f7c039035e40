/- What the reference's OpParse leans on: what lies in memory through its loop; facts of no walk. -/
import Derived.Test.YtdohomdhgkhebabFmtRfTx
import Derived.Test.YtdohomdhgkhebabFmtDig
namespace Go.Proofs.YtdohomdhgkhebabFmt
open Go.RowKit

/-- Through the loop: the result's cells, the names, the table of blanks. -/
structure Cx (w : World) (n fb : Nat) : Prop where
  z : ∀ j : Nat, j < 3 → w.cell? ⟨n, j, none⟩ = some (.int .i64 0)
  zf : ∀ j : Nat, w.frozen? ⟨n, j, none⟩ = false
  fl : ∀ j : Nat, j ≤ 5 → w.cell? ⟨fb, j, none⟩ = some (.string ⟨(nm (j + 1)).toArray⟩)
  asc : As w
theorem Cx.later {w w' : World} {n fb : Nat} (h : Cx w n fb) (hb : Below w.heap.size w w') : Cx w' n fb where
  z j hj := below_cell hb (h.z j hj)
  zf j := (hb.frozen (p := ⟨n, j, none⟩) (show n < w.heap.size from World.block_lt_of_cell? w ⟨n, 0, none⟩ (h.z 0 (by decide)))).trans (h.zf j)
  fl j hj := below_cell hb (h.fl j hj)
  asc := h.asc.later hb

/-- An operation in a block. -/
structure Ob (w : World) (b : Nat) (x y z : Int) : Prop where
  c0 : w.cell? ⟨b, 0, none⟩ = some (.int .i64 x)
  c1 : w.cell? ⟨b, 1, none⟩ = some (.int .i64 y)
  c2 : w.cell? ⟨b, 2, none⟩ = some (.int .i64 z)
  f : ∀ j : Nat, w.frozen? ⟨b, j, none⟩ = false
theorem Ob.later {w w' : World} {b : Nat} {x y z : Int} (h : Ob w b x y z) (hb : Below w.heap.size w w') : Ob w' b x y z where
  c0 := below_cell hb h.c0
  c1 := below_cell hb h.c1
  c2 := below_cell hb h.c2
  f j := (hb.frozen (p := ⟨b, j, none⟩) (show b < w.heap.size from World.block_lt_of_cell? w ⟨b, 0, none⟩ h.c0)).trans (h.f j)
theorem Ob.born (w : World) (x y z : Int) (t : TypeId) : Ob (w.alloc (.cells #[.int .i64 x, .int .i64 y, .int .i64 z] t)) w.heap.size x y z where
  c0 := by simp
  c1 := by simp
  c2 := by simp
  f j := by rw [frozen?_alloc_cells]; exact frozen_past w (Nat.le_refl _)
theorem ad_ne {b i j : Nat} (h : i ≠ j) : (⟨b, i, none⟩ : Addr) ≠ ⟨b, j, none⟩ := fun e => by injection e with _ e2; exact h e2
theorem Ob.key {w : World} {b : Nat} {x y z : Int} (h : Ob w b x y z) (v : Int) : Ob (w.setCell ⟨b, 1, none⟩ (.int .i64 v)) b x v z where
  c0 := (World.cell?_setCell_other _ _ _ _ (ad_ne (by decide))).trans h.c0
  c1 := World.cell?_setCell_same _ _ _ h.c1
  c2 := (World.cell?_setCell_other _ _ _ _ (ad_ne (by decide))).trans h.c2
  f j := (World.frozen?_setCell _ _ _ _).trans (h.f j)
theorem Ob.val {w : World} {b : Nat} {x y z : Int} (h : Ob w b x y z) (v : Int) : Ob (w.setCell ⟨b, 2, none⟩ (.int .i64 v)) b x y v where
  c0 := (World.cell?_setCell_other _ _ _ _ (ad_ne (by decide))).trans h.c0
  c1 := (World.cell?_setCell_other _ _ _ _ (ad_ne (by decide))).trans h.c1
  c2 := World.cell?_setCell_same _ _ _ h.c2
  f j := (World.frozen?_setCell _ _ _ _).trans (h.f j)

theorem pre_one (l : List UInt8) (c : UInt8) : Lib.hasPrefix l [c] = decide (l.head? = some c) := by
  unfold Lib.hasPrefix
  cases l with
  | nil => simp [List.isPrefixOf]
  | cons x r =>
    have e : (c == x) = decide (x = c) := by
      by_cases h : x = c
      · subst h; simp
      · rw [decide_eq_false h]; exact beq_eq_false_iff_ne.2 (fun e => h e.symm)
    simp [List.isPrefixOf, e]
theorem pre_split {l p : List UInt8} (h : Lib.hasPrefix l p = true) : l = p ++ l.drop p.length := by
  unfold Lib.hasPrefix at h
  obtain ⟨t, rfl⟩ := List.isPrefixOf_iff_prefix.1 h
  simp
theorem pre_txt (p t : List UInt8) : Lib.hasPrefix (p ++ t) p = true := by
  unfold Lib.hasPrefix
  exact List.isPrefixOf_iff_prefix.2 ⟨t, rfl⟩
theorem drop_list (s : ByteArray) (k : Nat) : (s.extract k s.size).data.toList = s.data.toList.drop k := by rw [drop_ba]
end Go.Proofs.YtdohomdhgkhebabFmt
