/- The reference's Thing.Do, by its contract: of a queue, a stack, a deque. -/
import Derived.Test.YtbmgjpdfmgcigabDoorLf
import Derived.Test.YtbmgjpdfmgcigabDoorRq
import Derived.Test.YtbmgjpdfmgcigabDoorRd
namespace Go.Proofs.YtbmgjpdfmgcigabDoor.Tab
set_option maxRecDepth 20000
open Go.RowKit
set_option linter.unusedVariables false

set_option maxHeartbeats 4000000 in
theorem TDo_1 {B : Nat} {v : Value} {xs ys : List Int} {o k x cc y : Int} (t : Tb) (n0 : Int) {w : World} (h : IsL B w v xs) (hx : xs.length ≤ 6) (hq : qdo xs o x = (ys, cc, y)) :
    Calls Tryd.prog 9 #[.agg (tg 1 v t n0).toArray, .agg #[.int .i64 o, .int .i64 k, .int .i64 x]] w fun e w' => ∃ v', e = .returned (.tuple #[.agg (tg 1 v' t n0).toArray, .agg #[.int .i64 cc, .int .i64 y]]) ∧ IsL 0 w' v' ys ∧ Below w.heap.size w w' := by
  have HA : Hid ((Tryd.prog.info? 38).map (·.size) = some 2) := answer_size
  obtain ⟨fa, ha⟩ := answer_struct
  have HDA : Hid _ := ha
  clear ha
  obtain ⟨fs, hd⟩ := thing_struct
  have HTD : Hid _ := hd
  clear hd
  have HTS : Hid _ := thing_size
  have HTZ : Hid _ := thing_size2
  have RC : Hid (∀ W, IsL 0 W v xs → Calls Tryd.prog 21 #[v, .agg #[.int .i64 o, .int .i64 k, .int .i64 x]] W _) := fun W hW => RQueue_eq k hW (by omega) hq
  have g0 : Hid (Gd w.heap.size w w) := Gd.refl w
  have h1q : Hid (Lf w.heap.size (w.heap.size + 5) w v xs) := Lf.old h
  clear h hq
  have h2q : Hid (Gd w.heap.size w (w.alloc (.cells (tg 1 v t n0).toArray 33))) := g0.out.new (.cells (tg 1 v t n0).toArray 33)
  have h3q : Hid (Lf w.heap.size (w.heap.size + 5) (w.alloc (.cells (tg 1 v t n0).toArray 33)) v xs) := h1q.out.new (.cells (tg 1 v t n0).toArray 33)
  clear g0 h1q
  have h4q : Hid (Bo (w.alloc (.cells (tg 1 v t n0).toArray 33)) w.heap.size (tg 1 v t n0)) := Bo.born w (tg 1 v t n0) 33 (by simp)
  have h5q : Hid (Gd w.heap.size w ((w.alloc (.cells (tg 1 v t n0).toArray 33)).alloc (.cells #[.int .i64 o, .int .i64 k, .int .i64 x] 26))) := h2q.out.new (.cells #[.int .i64 o, .int .i64 k, .int .i64 x] 26)
  have h6q : Hid (Lf w.heap.size (w.heap.size + 5) ((w.alloc (.cells (tg 1 v t n0).toArray 33)).alloc (.cells #[.int .i64 o, .int .i64 k, .int .i64 x] 26)) v xs) := h3q.out.new (.cells #[.int .i64 o, .int .i64 k, .int .i64 x] 26)
  have h7q : Hid (Bo ((w.alloc (.cells (tg 1 v t n0).toArray 33)).alloc (.cells #[.int .i64 o, .int .i64 k, .int .i64 x] 26)) w.heap.size (tg 1 v t n0)) := h4q.out.new (.cells #[.int .i64 o, .int .i64 k, .int .i64 x] 26)
  clear h2q h3q h4q
  have h8q : Hid (Bo ((w.alloc (.cells (tg 1 v t n0).toArray 33)).alloc (.cells #[.int .i64 o, .int .i64 k, .int .i64 x] 26)) (w.heap.size + 1) [.int .i64 o, .int .i64 k, .int .i64 x]) := Bo.born (w.alloc (.cells (tg 1 v t n0).toArray 33)) [.int .i64 o, .int .i64 k, .int .i64 x] 26 (by simp)
  have h9q : Hid (Gd w.heap.size w (((w.alloc (.cells (tg 1 v t n0).toArray 33)).alloc (.cells #[.int .i64 o, .int .i64 k, .int .i64 x] 26)).alloc (.cells #[.int .i64 0, .slice none 0 0, .int .i64 0, .int .i64 0, .int .i64 0, .int .i64 0, .int .i64 0, .int .i64 0, .int .i64 0, .int .i64 0, .int .i64 0, .int .i64 0, .int .i64 0, .int .i64 0, .int .i64 0, .int .i64 0, .int .i64 0, .int .i64 0, .int .i64 0] 33))) := h5q.out.new (.cells #[.int .i64 0, .slice none 0 0, .int .i64 0, .int .i64 0, .int .i64 0, .int .i64 0, .int .i64 0, .int .i64 0, .int .i64 0, .int .i64 0, .int .i64 0, .int .i64 0, .int .i64 0, .int .i64 0, .int .i64 0, .int .i64 0, .int .i64 0, .int .i64 0, .int .i64 0] 33)
  have h10q : Hid (Lf w.heap.size (w.heap.size + 5) (((w.alloc (.cells (tg 1 v t n0).toArray 33)).alloc (.cells #[.int .i64 o, .int .i64 k, .int .i64 x] 26)).alloc (.cells #[.int .i64 0, .slice none 0 0, .int .i64 0, .int .i64 0, .int .i64 0, .int .i64 0, .int .i64 0, .int .i64 0, .int .i64 0, .int .i64 0, .int .i64 0, .int .i64 0, .int .i64 0, .int .i64 0, .int .i64 0, .int .i64 0, .int .i64 0, .int .i64 0, .int .i64 0] 33)) v xs) := h6q.out.new (.cells #[.int .i64 0, .slice none 0 0, .int .i64 0, .int .i64 0, .int .i64 0, .int .i64 0, .int .i64 0, .int .i64 0, .int .i64 0, .int .i64 0, .int .i64 0, .int .i64 0, .int .i64 0, .int .i64 0, .int .i64 0, .int .i64 0, .int .i64 0, .int .i64 0, .int .i64 0] 33)
  have h11q : Hid (Bo (((w.alloc (.cells (tg 1 v t n0).toArray 33)).alloc (.cells #[.int .i64 o, .int .i64 k, .int .i64 x] 26)).alloc (.cells #[.int .i64 0, .slice none 0 0, .int .i64 0, .int .i64 0, .int .i64 0, .int .i64 0, .int .i64 0, .int .i64 0, .int .i64 0, .int .i64 0, .int .i64 0, .int .i64 0, .int .i64 0, .int .i64 0, .int .i64 0, .int .i64 0, .int .i64 0, .int .i64 0, .int .i64 0] 33)) w.heap.size (tg 1 v t n0)) := h7q.out.new (.cells #[.int .i64 0, .slice none 0 0, .int .i64 0, .int .i64 0, .int .i64 0, .int .i64 0, .int .i64 0, .int .i64 0, .int .i64 0, .int .i64 0, .int .i64 0, .int .i64 0, .int .i64 0, .int .i64 0, .int .i64 0, .int .i64 0, .int .i64 0, .int .i64 0, .int .i64 0] 33)
  have h12q : Hid (Bo (((w.alloc (.cells (tg 1 v t n0).toArray 33)).alloc (.cells #[.int .i64 o, .int .i64 k, .int .i64 x] 26)).alloc (.cells #[.int .i64 0, .slice none 0 0, .int .i64 0, .int .i64 0, .int .i64 0, .int .i64 0, .int .i64 0, .int .i64 0, .int .i64 0, .int .i64 0, .int .i64 0, .int .i64 0, .int .i64 0, .int .i64 0, .int .i64 0, .int .i64 0, .int .i64 0, .int .i64 0, .int .i64 0] 33)) (w.heap.size + 1) [.int .i64 o, .int .i64 k, .int .i64 x]) := h8q.out.new (.cells #[.int .i64 0, .slice none 0 0, .int .i64 0, .int .i64 0, .int .i64 0, .int .i64 0, .int .i64 0, .int .i64 0, .int .i64 0, .int .i64 0, .int .i64 0, .int .i64 0, .int .i64 0, .int .i64 0, .int .i64 0, .int .i64 0, .int .i64 0, .int .i64 0, .int .i64 0] 33)
  clear h5q h6q h7q h8q
  have h13q : Hid (Bo (((w.alloc (.cells (tg 1 v t n0).toArray 33)).alloc (.cells #[.int .i64 o, .int .i64 k, .int .i64 x] 26)).alloc (.cells #[.int .i64 0, .slice none 0 0, .int .i64 0, .int .i64 0, .int .i64 0, .int .i64 0, .int .i64 0, .int .i64 0, .int .i64 0, .int .i64 0, .int .i64 0, .int .i64 0, .int .i64 0, .int .i64 0, .int .i64 0, .int .i64 0, .int .i64 0, .int .i64 0, .int .i64 0] 33)) (w.heap.size + 2) (tg 0 (.slice none 0 0) Tb.zero 0)) := Bo.bornTh ((w.alloc (.cells (tg 1 v t n0).toArray 33)).alloc (.cells #[.int .i64 o, .int .i64 k, .int .i64 x] 26)) 0 33 (by simp)
  have h14q : Hid (Gd w.heap.size w ((((w.alloc (.cells (tg 1 v t n0).toArray 33)).alloc (.cells #[.int .i64 o, .int .i64 k, .int .i64 x] 26)).alloc (.cells #[.int .i64 0, .slice none 0 0, .int .i64 0, .int .i64 0, .int .i64 0, .int .i64 0, .int .i64 0, .int .i64 0, .int .i64 0, .int .i64 0, .int .i64 0, .int .i64 0, .int .i64 0, .int .i64 0, .int .i64 0, .int .i64 0, .int .i64 0, .int .i64 0, .int .i64 0] 33)).alloc (.cells #[.int .i64 0, .int .i64 0] 38))) := h9q.out.new (.cells #[.int .i64 0, .int .i64 0] 38)
  have h15q : Hid (Lf w.heap.size (w.heap.size + 5) ((((w.alloc (.cells (tg 1 v t n0).toArray 33)).alloc (.cells #[.int .i64 o, .int .i64 k, .int .i64 x] 26)).alloc (.cells #[.int .i64 0, .slice none 0 0, .int .i64 0, .int .i64 0, .int .i64 0, .int .i64 0, .int .i64 0, .int .i64 0, .int .i64 0, .int .i64 0, .int .i64 0, .int .i64 0, .int .i64 0, .int .i64 0, .int .i64 0, .int .i64 0, .int .i64 0, .int .i64 0, .int .i64 0] 33)).alloc (.cells #[.int .i64 0, .int .i64 0] 38)) v xs) := h10q.out.new (.cells #[.int .i64 0, .int .i64 0] 38)
  have h16q : Hid (Bo ((((w.alloc (.cells (tg 1 v t n0).toArray 33)).alloc (.cells #[.int .i64 o, .int .i64 k, .int .i64 x] 26)).alloc (.cells #[.int .i64 0, .slice none 0 0, .int .i64 0, .int .i64 0, .int .i64 0, .int .i64 0, .int .i64 0, .int .i64 0, .int .i64 0, .int .i64 0, .int .i64 0, .int .i64 0, .int .i64 0, .int .i64 0, .int .i64 0, .int .i64 0, .int .i64 0, .int .i64 0, .int .i64 0] 33)).alloc (.cells #[.int .i64 0, .int .i64 0] 38)) w.heap.size (tg 1 v t n0)) := h11q.out.new (.cells #[.int .i64 0, .int .i64 0] 38)
  have h17q : Hid (Bo ((((w.alloc (.cells (tg 1 v t n0).toArray 33)).alloc (.cells #[.int .i64 o, .int .i64 k, .int .i64 x] 26)).alloc (.cells #[.int .i64 0, .slice none 0 0, .int .i64 0, .int .i64 0, .int .i64 0, .int .i64 0, .int .i64 0, .int .i64 0, .int .i64 0, .int .i64 0, .int .i64 0, .int .i64 0, .int .i64 0, .int .i64 0, .int .i64 0, .int .i64 0, .int .i64 0, .int .i64 0, .int .i64 0] 33)).alloc (.cells #[.int .i64 0, .int .i64 0] 38)) (w.heap.size + 1) [.int .i64 o, .int .i64 k, .int .i64 x]) := h12q.out.new (.cells #[.int .i64 0, .int .i64 0] 38)
  have h18q : Hid (Bo ((((w.alloc (.cells (tg 1 v t n0).toArray 33)).alloc (.cells #[.int .i64 o, .int .i64 k, .int .i64 x] 26)).alloc (.cells #[.int .i64 0, .slice none 0 0, .int .i64 0, .int .i64 0, .int .i64 0, .int .i64 0, .int .i64 0, .int .i64 0, .int .i64 0, .int .i64 0, .int .i64 0, .int .i64 0, .int .i64 0, .int .i64 0, .int .i64 0, .int .i64 0, .int .i64 0, .int .i64 0, .int .i64 0] 33)).alloc (.cells #[.int .i64 0, .int .i64 0] 38)) (w.heap.size + 2) (tg 0 (.slice none 0 0) Tb.zero 0)) := h13q.out.new (.cells #[.int .i64 0, .int .i64 0] 38)
  clear h9q h10q h11q h12q h13q
  have h19q : Hid (Bo ((((w.alloc (.cells (tg 1 v t n0).toArray 33)).alloc (.cells #[.int .i64 o, .int .i64 k, .int .i64 x] 26)).alloc (.cells #[.int .i64 0, .slice none 0 0, .int .i64 0, .int .i64 0, .int .i64 0, .int .i64 0, .int .i64 0, .int .i64 0, .int .i64 0, .int .i64 0, .int .i64 0, .int .i64 0, .int .i64 0, .int .i64 0, .int .i64 0, .int .i64 0, .int .i64 0, .int .i64 0, .int .i64 0] 33)).alloc (.cells #[.int .i64 0, .int .i64 0] 38)) (w.heap.size + 3) [.int .i64 0, .int .i64 0]) := Bo.born (((w.alloc (.cells (tg 1 v t n0).toArray 33)).alloc (.cells #[.int .i64 o, .int .i64 k, .int .i64 x] 26)).alloc (.cells #[.int .i64 0, .slice none 0 0, .int .i64 0, .int .i64 0, .int .i64 0, .int .i64 0, .int .i64 0, .int .i64 0, .int .i64 0, .int .i64 0, .int .i64 0, .int .i64 0, .int .i64 0, .int .i64 0, .int .i64 0, .int .i64 0, .int .i64 0, .int .i64 0, .int .i64 0] 33)) [.int .i64 0, .int .i64 0] 38 (by simp)
  have h20q : Hid (Gd w.heap.size w (((((w.alloc (.cells (tg 1 v t n0).toArray 33)).alloc (.cells #[.int .i64 o, .int .i64 k, .int .i64 x] 26)).alloc (.cells #[.int .i64 0, .slice none 0 0, .int .i64 0, .int .i64 0, .int .i64 0, .int .i64 0, .int .i64 0, .int .i64 0, .int .i64 0, .int .i64 0, .int .i64 0, .int .i64 0, .int .i64 0, .int .i64 0, .int .i64 0, .int .i64 0, .int .i64 0, .int .i64 0, .int .i64 0] 33)).alloc (.cells #[.int .i64 0, .int .i64 0] 38)).alloc (.cells #[.int .i64 0, .int .i64 0] 38))) := h14q.out.new (.cells #[.int .i64 0, .int .i64 0] 38)
  have h21q : Hid (Lf w.heap.size (w.heap.size + 5) (((((w.alloc (.cells (tg 1 v t n0).toArray 33)).alloc (.cells #[.int .i64 o, .int .i64 k, .int .i64 x] 26)).alloc (.cells #[.int .i64 0, .slice none 0 0, .int .i64 0, .int .i64 0, .int .i64 0, .int .i64 0, .int .i64 0, .int .i64 0, .int .i64 0, .int .i64 0, .int .i64 0, .int .i64 0, .int .i64 0, .int .i64 0, .int .i64 0, .int .i64 0, .int .i64 0, .int .i64 0, .int .i64 0] 33)).alloc (.cells #[.int .i64 0, .int .i64 0] 38)).alloc (.cells #[.int .i64 0, .int .i64 0] 38)) v xs) := h15q.out.new (.cells #[.int .i64 0, .int .i64 0] 38)
  have h22q : Hid (Bo (((((w.alloc (.cells (tg 1 v t n0).toArray 33)).alloc (.cells #[.int .i64 o, .int .i64 k, .int .i64 x] 26)).alloc (.cells #[.int .i64 0, .slice none 0 0, .int .i64 0, .int .i64 0, .int .i64 0, .int .i64 0, .int .i64 0, .int .i64 0, .int .i64 0, .int .i64 0, .int .i64 0, .int .i64 0, .int .i64 0, .int .i64 0, .int .i64 0, .int .i64 0, .int .i64 0, .int .i64 0, .int .i64 0] 33)).alloc (.cells #[.int .i64 0, .int .i64 0] 38)).alloc (.cells #[.int .i64 0, .int .i64 0] 38)) w.heap.size (tg 1 v t n0)) := h16q.out.new (.cells #[.int .i64 0, .int .i64 0] 38)
  have h23q : Hid (Bo (((((w.alloc (.cells (tg 1 v t n0).toArray 33)).alloc (.cells #[.int .i64 o, .int .i64 k, .int .i64 x] 26)).alloc (.cells #[.int .i64 0, .slice none 0 0, .int .i64 0, .int .i64 0, .int .i64 0, .int .i64 0, .int .i64 0, .int .i64 0, .int .i64 0, .int .i64 0, .int .i64 0, .int .i64 0, .int .i64 0, .int .i64 0, .int .i64 0, .int .i64 0, .int .i64 0, .int .i64 0, .int .i64 0] 33)).alloc (.cells #[.int .i64 0, .int .i64 0] 38)).alloc (.cells #[.int .i64 0, .int .i64 0] 38)) (w.heap.size + 1) [.int .i64 o, .int .i64 k, .int .i64 x]) := h17q.out.new (.cells #[.int .i64 0, .int .i64 0] 38)
  have h24q : Hid (Bo (((((w.alloc (.cells (tg 1 v t n0).toArray 33)).alloc (.cells #[.int .i64 o, .int .i64 k, .int .i64 x] 26)).alloc (.cells #[.int .i64 0, .slice none 0 0, .int .i64 0, .int .i64 0, .int .i64 0, .int .i64 0, .int .i64 0, .int .i64 0, .int .i64 0, .int .i64 0, .int .i64 0, .int .i64 0, .int .i64 0, .int .i64 0, .int .i64 0, .int .i64 0, .int .i64 0, .int .i64 0, .int .i64 0] 33)).alloc (.cells #[.int .i64 0, .int .i64 0] 38)).alloc (.cells #[.int .i64 0, .int .i64 0] 38)) (w.heap.size + 2) (tg 0 (.slice none 0 0) Tb.zero 0)) := h18q.out.new (.cells #[.int .i64 0, .int .i64 0] 38)
  have h25q : Hid (Bo (((((w.alloc (.cells (tg 1 v t n0).toArray 33)).alloc (.cells #[.int .i64 o, .int .i64 k, .int .i64 x] 26)).alloc (.cells #[.int .i64 0, .slice none 0 0, .int .i64 0, .int .i64 0, .int .i64 0, .int .i64 0, .int .i64 0, .int .i64 0, .int .i64 0, .int .i64 0, .int .i64 0, .int .i64 0, .int .i64 0, .int .i64 0, .int .i64 0, .int .i64 0, .int .i64 0, .int .i64 0, .int .i64 0] 33)).alloc (.cells #[.int .i64 0, .int .i64 0] 38)).alloc (.cells #[.int .i64 0, .int .i64 0] 38)) (w.heap.size + 3) [.int .i64 0, .int .i64 0]) := h19q.out.new (.cells #[.int .i64 0, .int .i64 0] 38)
  clear h14q h15q h16q h17q h18q h19q
  have h26q : Hid (Bo (((((w.alloc (.cells (tg 1 v t n0).toArray 33)).alloc (.cells #[.int .i64 o, .int .i64 k, .int .i64 x] 26)).alloc (.cells #[.int .i64 0, .slice none 0 0, .int .i64 0, .int .i64 0, .int .i64 0, .int .i64 0, .int .i64 0, .int .i64 0, .int .i64 0, .int .i64 0, .int .i64 0, .int .i64 0, .int .i64 0, .int .i64 0, .int .i64 0, .int .i64 0, .int .i64 0, .int .i64 0, .int .i64 0] 33)).alloc (.cells #[.int .i64 0, .int .i64 0] 38)).alloc (.cells #[.int .i64 0, .int .i64 0] 38)) (w.heap.size + 4) [.int .i64 0, .int .i64 0]) := Bo.born ((((w.alloc (.cells (tg 1 v t n0).toArray 33)).alloc (.cells #[.int .i64 o, .int .i64 k, .int .i64 x] 26)).alloc (.cells #[.int .i64 0, .slice none 0 0, .int .i64 0, .int .i64 0, .int .i64 0, .int .i64 0, .int .i64 0, .int .i64 0, .int .i64 0, .int .i64 0, .int .i64 0, .int .i64 0, .int .i64 0, .int .i64 0, .int .i64 0, .int .i64 0, .int .i64 0, .int .i64 0, .int .i64 0] 33)).alloc (.cells #[.int .i64 0, .int .i64 0] 38)) [.int .i64 0, .int .i64 0] 38 (by simp)
  have c1 := h22q.out.tcell.1
  have c2 := h22q.out.tcell.2.1
  have c27q := h23q.out.at 0 rfl
  have c28q := h23q.out.at 1 rfl
  have c29q := h23q.out.at 2 rfl
  go_enter Tryd.func9, Tryd.ntmps9
  go_wp2_with fail
  clear c1 c2
  generalize (((((w.alloc (.cells (tg 1 v t n0).toArray 33)).alloc (.cells #[.int .i64 o, .int .i64 k, .int .i64 x] 26)).alloc (.cells #[.int .i64 0, .slice none 0 0, .int .i64 0, .int .i64 0, .int .i64 0, .int .i64 0, .int .i64 0, .int .i64 0, .int .i64 0, .int .i64 0, .int .i64 0, .int .i64 0, .int .i64 0, .int .i64 0, .int .i64 0, .int .i64 0, .int .i64 0, .int .i64 0, .int .i64 0] 33)).alloc (.cells #[.int .i64 0, .int .i64 0] 38)).alloc (.cells #[.int .i64 0, .int .i64 0] 38)) = W at h20q h21q h22q h23q h24q h25q h26q  ⊢
  generalize hsz : w.heap.size = n at h20q h21q h22q h23q h24q h25q h26q  ⊢
  have HSZ : Hid (w.heap.size = n) := hsz
  clear hsz
  have hsW : n + 5 ≤ W.heap.size := by have := h26q.out.lt; omega
  refine (RC.out _ h21q.out.isL).mono ?_
  rintro e u30q ⟨v2, rfl, hv2, hb⟩
  have h31q : Hid (Gd n w u30q) := h20q.out.later hb
  have h32q : Hid (Lf n (n + 5) u30q v xs) := h21q.out.later hb
  have h33q : Hid (Bo u30q n (tg 1 v t n0)) := h22q.out.later hb
  have h34q : Hid (Bo u30q (n + 1) [.int .i64 o, .int .i64 k, .int .i64 x]) := h23q.out.later hb
  have h35q : Hid (Bo u30q (n + 2) (tg 0 (.slice none 0 0) Tb.zero 0)) := h24q.out.later hb
  have h36q : Hid (Bo u30q (n + 3) [.int .i64 0, .int .i64 0]) := h25q.out.later hb
  have h37q : Hid (Bo u30q (n + 4) [.int .i64 0, .int .i64 0]) := h26q.out.later hb
  clear h20q h21q h22q h23q h24q h25q h26q
  clear hb
  have l38q : n ≤ u30q.heap.size := h31q.out.le
  have l39q : n < u30q.heap.size := h33q.out.lt
  have l40q : (n + 1) < u30q.heap.size := h34q.out.lt
  have l41q : (n + 2) < u30q.heap.size := h35q.out.lt
  have l42q : (n + 3) < u30q.heap.size := h36q.out.lt
  have l43q : (n + 4) < u30q.heap.size := h37q.out.lt
  have Q2 : Hid (Lf n (n + 5) u30q v2 ys) := Lf.of_made h32q.out hsW hv2
  clear h32q hv2
  obtain ⟨a2, c2, hv2⟩ := Q2.out.form
  generalize ys.length = l2 at hv2
  subst hv2
  have d1 := h33q.out.tcell.2.1
  have d2 := h33q.out.froz 1
  have h44q : Hid (Gd n w (u30q.setCell ⟨n, 1, none⟩ (.slice a2 l2 c2))) := h31q.out.aside (by simp; try omega) _
  have h45q : Hid (Lf n (n + 5) (u30q.setCell ⟨n, 1, none⟩ (.slice a2 l2 c2)) (.slice a2 l2 c2) ys) := Q2.out.aside (by simp; try omega) _
  have h46q : Hid (Bo (u30q.setCell ⟨n, 1, none⟩ (.slice a2 l2 c2)) n (tg 1 (.slice a2 l2 c2) t n0)) := h33q.out.set1 (j := 1) (x := (.slice a2 l2 c2)) (by rw [tg_length]; decide) (tg_list _ _ (.slice a2 l2 c2) _ _)
  have h47q : Hid (Bo (u30q.setCell ⟨n, 1, none⟩ (.slice a2 l2 c2)) (n + 1) [.int .i64 o, .int .i64 k, .int .i64 x]) := h34q.out.aside (by simp; try omega) _
  have h48q : Hid (Bo (u30q.setCell ⟨n, 1, none⟩ (.slice a2 l2 c2)) (n + 2) (tg 0 (.slice none 0 0) Tb.zero 0)) := h35q.out.aside (by simp; try omega) _
  have h49q : Hid (Bo (u30q.setCell ⟨n, 1, none⟩ (.slice a2 l2 c2)) (n + 3) [.int .i64 0, .int .i64 0]) := h36q.out.aside (by simp; try omega) _
  have h50q : Hid (Bo (u30q.setCell ⟨n, 1, none⟩ (.slice a2 l2 c2)) (n + 4) [.int .i64 0, .int .i64 0]) := h37q.out.aside (by simp; try omega) _
  clear h31q Q2 h33q h34q h35q h36q h37q
  go_wp2_with (first
    | (refine wpList_store_mid rfl 38 _ _ rfl (n + 4) _ #[.int .i64 (cc), .int .i64 (y)] rfl rfl h50q.out.there2 HA.out (two_one _ _) ?_
       have h51q : Hid (Gd n w ((u30q.setCell ⟨n, 1, none⟩ (.slice a2 l2 c2)).setCells (n + 4) 0 [.int .i64 (cc), .int .i64 (y)])) := h44q.out.asideL (by omega) 0 [.int .i64 (cc), .int .i64 (y)]
       have h52q : Hid (Lf n (n + 5) ((u30q.setCell ⟨n, 1, none⟩ (.slice a2 l2 c2)).setCells (n + 4) 0 [.int .i64 (cc), .int .i64 (y)]) (.slice a2 l2 c2) ys) := h45q.out.asideL (by omega) 0 [.int .i64 (cc), .int .i64 (y)]
       have h53q : Hid (Bo ((u30q.setCell ⟨n, 1, none⟩ (.slice a2 l2 c2)).setCells (n + 4) 0 [.int .i64 (cc), .int .i64 (y)]) n (tg 1 (.slice a2 l2 c2) t n0)) := h46q.out.asideL (by omega) 0 [.int .i64 (cc), .int .i64 (y)]
       have h54q : Hid (Bo ((u30q.setCell ⟨n, 1, none⟩ (.slice a2 l2 c2)).setCells (n + 4) 0 [.int .i64 (cc), .int .i64 (y)]) (n + 1) [.int .i64 o, .int .i64 k, .int .i64 x]) := h47q.out.asideL (by omega) 0 [.int .i64 (cc), .int .i64 (y)]
       have h55q : Hid (Bo ((u30q.setCell ⟨n, 1, none⟩ (.slice a2 l2 c2)).setCells (n + 4) 0 [.int .i64 (cc), .int .i64 (y)]) (n + 2) (tg 0 (.slice none 0 0) Tb.zero 0)) := h48q.out.asideL (by omega) 0 [.int .i64 (cc), .int .i64 (y)]
       have h56q : Hid (Bo ((u30q.setCell ⟨n, 1, none⟩ (.slice a2 l2 c2)).setCells (n + 4) 0 [.int .i64 (cc), .int .i64 (y)]) (n + 3) [.int .i64 0, .int .i64 0]) := h49q.out.asideL (by omega) 0 [.int .i64 (cc), .int .i64 (y)]
       have h57q : Hid (Bo ((u30q.setCell ⟨n, 1, none⟩ (.slice a2 l2 c2)).setCells (n + 4) 0 [.int .i64 (cc), .int .i64 (y)]) (n + 4) [.int .i64 (cc), .int .i64 (y)]) := h50q.out.set2 (.int .i64 (cc)) (.int .i64 (y))
       clear h44q h45q h46q h47q h48q h49q h50q
       generalize ((u30q.setCell ⟨n, 1, none⟩ (.slice a2 l2 c2)).setCells (n + 4) 0 [.int .i64 (cc), .int .i64 (y)]) = u58q at h51q h52q h53q h54q h55q h56q h57q  ⊢))
  have l59q : n ≤ u58q.heap.size := h51q.out.le
  have l60q : n < u58q.heap.size := h53q.out.lt
  have l61q : (n + 1) < u58q.heap.size := h54q.out.lt
  have l62q : (n + 2) < u58q.heap.size := h55q.out.lt
  have l63q : (n + 3) < u58q.heap.size := h56q.out.lt
  have l64q : (n + 4) < u58q.heap.size := h57q.out.lt
  have h65q : Hid (Gd n w u58q.drew) := h51q.out.drew
  have h66q : Hid (Lf n (n + 5) u58q.drew (.slice a2 l2 c2) ys) := h52q.out.drew
  have h67q : Hid (Bo u58q.drew n (tg 1 (.slice a2 l2 c2) t n0)) := h53q.out.drew
  have h68q : Hid (Bo u58q.drew (n + 1) [.int .i64 o, .int .i64 k, .int .i64 x]) := h54q.out.drew
  have h69q : Hid (Bo u58q.drew (n + 2) (tg 0 (.slice none 0 0) Tb.zero 0)) := h55q.out.drew
  have h70q : Hid (Bo u58q.drew (n + 3) [.int .i64 0, .int .i64 0]) := h56q.out.drew
  have h71q : Hid (Bo u58q.drew (n + 4) [.int .i64 (cc), .int .i64 (y)]) := h57q.out.drew
  clear h51q h52q h53q h54q h55q h56q h57q
  refine wp_region_held_drew (S := fun w' => Bo w' n (tg 1 (.slice a2 l2 c2) t n0) ∧ Bo w' (n + 4) [.int .i64 (cc), .int .i64 (y)]) (by kernel_rfl) ⟨h67q.out, h71q.out⟩ (fun hH => ?_)
  generalize u58q.drew = u72q at h65q h66q h67q h68q h69q h70q h71q hH ⊢
  refine wpAnyH_take (i := 0) (oi := { dst := some 67, op := .load _ (.tmp 2), type := _, pos := _, after := _, guard := _ }) (v := _) rfl (by kernel_rfl) (by kernel_rfl) (by kernel_rfl) (fun _ _ _ h => h) (yieldsIf_load_mid (by rfl) _ _ rfl n _ rfl (tg 1 (.slice a2 l2 c2) t n0) _ (fun _ h => (h.1).range) HTD.out rfl (HTS.out _ _ _ _)) hH ?_
  simp only [Act.put, List.setIfInBounds_toArray, List.set_cons_zero, List.set_cons_succ]
  refine wpAnyH_take (i := 1) (oi := { dst := some 68, op := .load _ (.tmp 6), type := _, pos := _, after := _, guard := _ }) (v := ?_) rfl (by kernel_rfl) (by kernel_rfl) (by kernel_rfl) (fun _ _ _ h => h) (Or.inl ⟨by rfl, ?_⟩) hH ?_
  rotate_left
  · intro w hSw
    have c73q := (hSw.2).at 0 rfl
    have c74q := (hSw.2).at 1 rfl
    clear hSw
    go_simp
    try with_reducible rfl
  simp only [Act.put, List.setIfInBounds_toArray, List.set_cons_zero, List.set_cons_succ]
  refine wpAnyH_ready (rs := [2]) (by kernel_rfl) (by simp) ?_
  refine AllReadyH.cons (o := { dst := none, op := .store _ (.tmp 4) (.tmp 67), type := _, pos := _, after := _, guard := _ }) rfl (fun K hK => ?_) AllReadyH.nil
  rw [if_pos (by rfl)]
  refine wp_store_mid _ _ _ rfl (n + 2) _ (tg 1 (.slice a2 l2 c2) t n0).toArray rfl rfl (h69q.out.thereT 1 (.slice a2 l2 c2) t n0) (HTZ.out _ _ _ _) (tg_all _ rfl _ _) ?_
  simp only [Act.put]
  have h75q : Hid (Gd n w (u72q.setCells (n + 2) 0 (tg 1 (.slice a2 l2 c2) t n0))) := h65q.out.asideL (by omega) 0 (tg 1 (.slice a2 l2 c2) t n0)
  have h76q : Hid (Lf n (n + 5) (u72q.setCells (n + 2) 0 (tg 1 (.slice a2 l2 c2) t n0)) (.slice a2 l2 c2) ys) := h66q.out.asideL (by omega) 0 (tg 1 (.slice a2 l2 c2) t n0)
  have h77q : Hid (Bo (u72q.setCells (n + 2) 0 (tg 1 (.slice a2 l2 c2) t n0)) n (tg 1 (.slice a2 l2 c2) t n0)) := h67q.out.asideL (by omega) 0 (tg 1 (.slice a2 l2 c2) t n0)
  have h78q : Hid (Bo (u72q.setCells (n + 2) 0 (tg 1 (.slice a2 l2 c2) t n0)) (n + 1) [.int .i64 o, .int .i64 k, .int .i64 x]) := h68q.out.asideL (by omega) 0 (tg 1 (.slice a2 l2 c2) t n0)
  have h79q : Hid (Bo (u72q.setCells (n + 2) 0 (tg 1 (.slice a2 l2 c2) t n0)) (n + 2) (tg 1 (.slice a2 l2 c2) t n0)) := h69q.out.setT 1 (.slice a2 l2 c2) t n0
  have h80q : Hid (Bo (u72q.setCells (n + 2) 0 (tg 1 (.slice a2 l2 c2) t n0)) (n + 3) [.int .i64 0, .int .i64 0]) := h70q.out.asideL (by omega) 0 (tg 1 (.slice a2 l2 c2) t n0)
  have h81q : Hid (Bo (u72q.setCells (n + 2) 0 (tg 1 (.slice a2 l2 c2) t n0)) (n + 4) [.int .i64 (cc), .int .i64 (y)]) := h71q.out.asideL (by omega) 0 (tg 1 (.slice a2 l2 c2) t n0)
  clear h65q h66q h67q h68q h69q h70q h71q
  refine hK.out _ _ ⟨h77q.out, h81q.out⟩ (fun hH => ?_)
  clear hK K
  generalize (u72q.setCells (n + 2) 0 (tg 1 (.slice a2 l2 c2) t n0)) = u82q at h75q h76q h77q h78q h79q h80q h81q hH ⊢
  try simp only [Act.put, List.setIfInBounds_toArray, List.set_cons_zero, List.set_cons_succ]
  refine wpAnyH_ready (rs := [3]) (by kernel_rfl) (by simp) ?_
  refine AllReadyH.cons (o := { dst := none, op := .store _ (.tmp 5) (.tmp 68), type := _, pos := _, after := _, guard := _ }) rfl (fun K hK => ?_) AllReadyH.nil
  rw [if_pos (by rfl)]
  refine wp_store_mid _ _ _ rfl (n + 3) _ #[.int .i64 (cc), .int .i64 (y)] rfl rfl h80q.out.there2 HA.out (two_one _ _) ?_
  simp only [Act.put]
  have h83q : Hid (Gd n w (u82q.setCells (n + 3) 0 [.int .i64 (cc), .int .i64 (y)])) := h75q.out.asideL (by omega) 0 [.int .i64 (cc), .int .i64 (y)]
  have h84q : Hid (Lf n (n + 5) (u82q.setCells (n + 3) 0 [.int .i64 (cc), .int .i64 (y)]) (.slice a2 l2 c2) ys) := h76q.out.asideL (by omega) 0 [.int .i64 (cc), .int .i64 (y)]
  have h85q : Hid (Bo (u82q.setCells (n + 3) 0 [.int .i64 (cc), .int .i64 (y)]) n (tg 1 (.slice a2 l2 c2) t n0)) := h77q.out.asideL (by omega) 0 [.int .i64 (cc), .int .i64 (y)]
  have h86q : Hid (Bo (u82q.setCells (n + 3) 0 [.int .i64 (cc), .int .i64 (y)]) (n + 1) [.int .i64 o, .int .i64 k, .int .i64 x]) := h78q.out.asideL (by omega) 0 [.int .i64 (cc), .int .i64 (y)]
  have h87q : Hid (Bo (u82q.setCells (n + 3) 0 [.int .i64 (cc), .int .i64 (y)]) (n + 2) (tg 1 (.slice a2 l2 c2) t n0)) := h79q.out.asideL (by omega) 0 [.int .i64 (cc), .int .i64 (y)]
  have h88q : Hid (Bo (u82q.setCells (n + 3) 0 [.int .i64 (cc), .int .i64 (y)]) (n + 3) [.int .i64 (cc), .int .i64 (y)]) := h80q.out.set2 (.int .i64 (cc)) (.int .i64 (y))
  have h89q : Hid (Bo (u82q.setCells (n + 3) 0 [.int .i64 (cc), .int .i64 (y)]) (n + 4) [.int .i64 (cc), .int .i64 (y)]) := h81q.out.asideL (by omega) 0 [.int .i64 (cc), .int .i64 (y)]
  clear h75q h76q h77q h78q h79q h80q h81q
  refine hK.out _ _ ⟨h85q.out, h89q.out⟩ (fun hH => ?_)
  clear hK K
  generalize (u82q.setCells (n + 3) 0 [.int .i64 (cc), .int .i64 (y)]) = u90q at h83q h84q h85q h86q h87q h88q h89q hH ⊢
  try simp only [Act.put, List.setIfInBounds_toArray, List.set_cons_zero, List.set_cons_succ]
  refine wpAnyH_done (by kernel_rfl) ?_ _
  go_wp2
  exact bodyPost_ret (results_row2 Tryd.results9 _ _ (n + 2) (n + 3) (tg 1 (.slice a2 l2 c2) t n0) [.int .i64 (cc), .int .i64 (y)] _ _ rfl rfl h87q.out.range HTD.out rfl (HTS.out _ _ _ _) h88q.out.range HDA.out rfl HA.out) rfl ⟨_, rfl, h84q.out.isL, h83q.out.2⟩
set_option maxHeartbeats 4000000 in
theorem TDo_2 {B : Nat} {v : Value} {xs ys : List Int} {o k x cc y : Int} (t : Tb) (n0 : Int) {w : World} (h : IsL B w v xs) (hx : xs.length ≤ 6) (hq : sdo xs o x = (ys, cc, y)) :
    Calls Tryd.prog 9 #[.agg (tg 2 v t n0).toArray, .agg #[.int .i64 o, .int .i64 k, .int .i64 x]] w fun e w' => ∃ v', e = .returned (.tuple #[.agg (tg 2 v' t n0).toArray, .agg #[.int .i64 cc, .int .i64 y]]) ∧ IsL 0 w' v' ys ∧ Below w.heap.size w w' := by
  have HA : Hid ((Tryd.prog.info? 38).map (·.size) = some 2) := answer_size
  obtain ⟨fa, ha⟩ := answer_struct
  have HDA : Hid _ := ha
  clear ha
  obtain ⟨fs, hd⟩ := thing_struct
  have HTD : Hid _ := hd
  clear hd
  have HTS : Hid _ := thing_size
  have HTZ : Hid _ := thing_size2
  have RC : Hid (∀ W, IsL 0 W v xs → Calls Tryd.prog 22 #[v, .agg #[.int .i64 o, .int .i64 k, .int .i64 x]] W _) := fun W hW => RStack_eq k hW (by omega) hq
  have g0 : Hid (Gd w.heap.size w w) := Gd.refl w
  have h1q : Hid (Lf w.heap.size (w.heap.size + 5) w v xs) := Lf.old h
  clear h hq
  have h2q : Hid (Gd w.heap.size w (w.alloc (.cells (tg 2 v t n0).toArray 33))) := g0.out.new (.cells (tg 2 v t n0).toArray 33)
  have h3q : Hid (Lf w.heap.size (w.heap.size + 5) (w.alloc (.cells (tg 2 v t n0).toArray 33)) v xs) := h1q.out.new (.cells (tg 2 v t n0).toArray 33)
  clear g0 h1q
  have h4q : Hid (Bo (w.alloc (.cells (tg 2 v t n0).toArray 33)) w.heap.size (tg 2 v t n0)) := Bo.born w (tg 2 v t n0) 33 (by simp)
  have h5q : Hid (Gd w.heap.size w ((w.alloc (.cells (tg 2 v t n0).toArray 33)).alloc (.cells #[.int .i64 o, .int .i64 k, .int .i64 x] 26))) := h2q.out.new (.cells #[.int .i64 o, .int .i64 k, .int .i64 x] 26)
  have h6q : Hid (Lf w.heap.size (w.heap.size + 5) ((w.alloc (.cells (tg 2 v t n0).toArray 33)).alloc (.cells #[.int .i64 o, .int .i64 k, .int .i64 x] 26)) v xs) := h3q.out.new (.cells #[.int .i64 o, .int .i64 k, .int .i64 x] 26)
  have h7q : Hid (Bo ((w.alloc (.cells (tg 2 v t n0).toArray 33)).alloc (.cells #[.int .i64 o, .int .i64 k, .int .i64 x] 26)) w.heap.size (tg 2 v t n0)) := h4q.out.new (.cells #[.int .i64 o, .int .i64 k, .int .i64 x] 26)
  clear h2q h3q h4q
  have h8q : Hid (Bo ((w.alloc (.cells (tg 2 v t n0).toArray 33)).alloc (.cells #[.int .i64 o, .int .i64 k, .int .i64 x] 26)) (w.heap.size + 1) [.int .i64 o, .int .i64 k, .int .i64 x]) := Bo.born (w.alloc (.cells (tg 2 v t n0).toArray 33)) [.int .i64 o, .int .i64 k, .int .i64 x] 26 (by simp)
  have h9q : Hid (Gd w.heap.size w (((w.alloc (.cells (tg 2 v t n0).toArray 33)).alloc (.cells #[.int .i64 o, .int .i64 k, .int .i64 x] 26)).alloc (.cells #[.int .i64 0, .slice none 0 0, .int .i64 0, .int .i64 0, .int .i64 0, .int .i64 0, .int .i64 0, .int .i64 0, .int .i64 0, .int .i64 0, .int .i64 0, .int .i64 0, .int .i64 0, .int .i64 0, .int .i64 0, .int .i64 0, .int .i64 0, .int .i64 0, .int .i64 0] 33))) := h5q.out.new (.cells #[.int .i64 0, .slice none 0 0, .int .i64 0, .int .i64 0, .int .i64 0, .int .i64 0, .int .i64 0, .int .i64 0, .int .i64 0, .int .i64 0, .int .i64 0, .int .i64 0, .int .i64 0, .int .i64 0, .int .i64 0, .int .i64 0, .int .i64 0, .int .i64 0, .int .i64 0] 33)
  have h10q : Hid (Lf w.heap.size (w.heap.size + 5) (((w.alloc (.cells (tg 2 v t n0).toArray 33)).alloc (.cells #[.int .i64 o, .int .i64 k, .int .i64 x] 26)).alloc (.cells #[.int .i64 0, .slice none 0 0, .int .i64 0, .int .i64 0, .int .i64 0, .int .i64 0, .int .i64 0, .int .i64 0, .int .i64 0, .int .i64 0, .int .i64 0, .int .i64 0, .int .i64 0, .int .i64 0, .int .i64 0, .int .i64 0, .int .i64 0, .int .i64 0, .int .i64 0] 33)) v xs) := h6q.out.new (.cells #[.int .i64 0, .slice none 0 0, .int .i64 0, .int .i64 0, .int .i64 0, .int .i64 0, .int .i64 0, .int .i64 0, .int .i64 0, .int .i64 0, .int .i64 0, .int .i64 0, .int .i64 0, .int .i64 0, .int .i64 0, .int .i64 0, .int .i64 0, .int .i64 0, .int .i64 0] 33)
  have h11q : Hid (Bo (((w.alloc (.cells (tg 2 v t n0).toArray 33)).alloc (.cells #[.int .i64 o, .int .i64 k, .int .i64 x] 26)).alloc (.cells #[.int .i64 0, .slice none 0 0, .int .i64 0, .int .i64 0, .int .i64 0, .int .i64 0, .int .i64 0, .int .i64 0, .int .i64 0, .int .i64 0, .int .i64 0, .int .i64 0, .int .i64 0, .int .i64 0, .int .i64 0, .int .i64 0, .int .i64 0, .int .i64 0, .int .i64 0] 33)) w.heap.size (tg 2 v t n0)) := h7q.out.new (.cells #[.int .i64 0, .slice none 0 0, .int .i64 0, .int .i64 0, .int .i64 0, .int .i64 0, .int .i64 0, .int .i64 0, .int .i64 0, .int .i64 0, .int .i64 0, .int .i64 0, .int .i64 0, .int .i64 0, .int .i64 0, .int .i64 0, .int .i64 0, .int .i64 0, .int .i64 0] 33)
  have h12q : Hid (Bo (((w.alloc (.cells (tg 2 v t n0).toArray 33)).alloc (.cells #[.int .i64 o, .int .i64 k, .int .i64 x] 26)).alloc (.cells #[.int .i64 0, .slice none 0 0, .int .i64 0, .int .i64 0, .int .i64 0, .int .i64 0, .int .i64 0, .int .i64 0, .int .i64 0, .int .i64 0, .int .i64 0, .int .i64 0, .int .i64 0, .int .i64 0, .int .i64 0, .int .i64 0, .int .i64 0, .int .i64 0, .int .i64 0] 33)) (w.heap.size + 1) [.int .i64 o, .int .i64 k, .int .i64 x]) := h8q.out.new (.cells #[.int .i64 0, .slice none 0 0, .int .i64 0, .int .i64 0, .int .i64 0, .int .i64 0, .int .i64 0, .int .i64 0, .int .i64 0, .int .i64 0, .int .i64 0, .int .i64 0, .int .i64 0, .int .i64 0, .int .i64 0, .int .i64 0, .int .i64 0, .int .i64 0, .int .i64 0] 33)
  clear h5q h6q h7q h8q
  have h13q : Hid (Bo (((w.alloc (.cells (tg 2 v t n0).toArray 33)).alloc (.cells #[.int .i64 o, .int .i64 k, .int .i64 x] 26)).alloc (.cells #[.int .i64 0, .slice none 0 0, .int .i64 0, .int .i64 0, .int .i64 0, .int .i64 0, .int .i64 0, .int .i64 0, .int .i64 0, .int .i64 0, .int .i64 0, .int .i64 0, .int .i64 0, .int .i64 0, .int .i64 0, .int .i64 0, .int .i64 0, .int .i64 0, .int .i64 0] 33)) (w.heap.size + 2) (tg 0 (.slice none 0 0) Tb.zero 0)) := Bo.bornTh ((w.alloc (.cells (tg 2 v t n0).toArray 33)).alloc (.cells #[.int .i64 o, .int .i64 k, .int .i64 x] 26)) 0 33 (by simp)
  have h14q : Hid (Gd w.heap.size w ((((w.alloc (.cells (tg 2 v t n0).toArray 33)).alloc (.cells #[.int .i64 o, .int .i64 k, .int .i64 x] 26)).alloc (.cells #[.int .i64 0, .slice none 0 0, .int .i64 0, .int .i64 0, .int .i64 0, .int .i64 0, .int .i64 0, .int .i64 0, .int .i64 0, .int .i64 0, .int .i64 0, .int .i64 0, .int .i64 0, .int .i64 0, .int .i64 0, .int .i64 0, .int .i64 0, .int .i64 0, .int .i64 0] 33)).alloc (.cells #[.int .i64 0, .int .i64 0] 38))) := h9q.out.new (.cells #[.int .i64 0, .int .i64 0] 38)
  have h15q : Hid (Lf w.heap.size (w.heap.size + 5) ((((w.alloc (.cells (tg 2 v t n0).toArray 33)).alloc (.cells #[.int .i64 o, .int .i64 k, .int .i64 x] 26)).alloc (.cells #[.int .i64 0, .slice none 0 0, .int .i64 0, .int .i64 0, .int .i64 0, .int .i64 0, .int .i64 0, .int .i64 0, .int .i64 0, .int .i64 0, .int .i64 0, .int .i64 0, .int .i64 0, .int .i64 0, .int .i64 0, .int .i64 0, .int .i64 0, .int .i64 0, .int .i64 0] 33)).alloc (.cells #[.int .i64 0, .int .i64 0] 38)) v xs) := h10q.out.new (.cells #[.int .i64 0, .int .i64 0] 38)
  have h16q : Hid (Bo ((((w.alloc (.cells (tg 2 v t n0).toArray 33)).alloc (.cells #[.int .i64 o, .int .i64 k, .int .i64 x] 26)).alloc (.cells #[.int .i64 0, .slice none 0 0, .int .i64 0, .int .i64 0, .int .i64 0, .int .i64 0, .int .i64 0, .int .i64 0, .int .i64 0, .int .i64 0, .int .i64 0, .int .i64 0, .int .i64 0, .int .i64 0, .int .i64 0, .int .i64 0, .int .i64 0, .int .i64 0, .int .i64 0] 33)).alloc (.cells #[.int .i64 0, .int .i64 0] 38)) w.heap.size (tg 2 v t n0)) := h11q.out.new (.cells #[.int .i64 0, .int .i64 0] 38)
  have h17q : Hid (Bo ((((w.alloc (.cells (tg 2 v t n0).toArray 33)).alloc (.cells #[.int .i64 o, .int .i64 k, .int .i64 x] 26)).alloc (.cells #[.int .i64 0, .slice none 0 0, .int .i64 0, .int .i64 0, .int .i64 0, .int .i64 0, .int .i64 0, .int .i64 0, .int .i64 0, .int .i64 0, .int .i64 0, .int .i64 0, .int .i64 0, .int .i64 0, .int .i64 0, .int .i64 0, .int .i64 0, .int .i64 0, .int .i64 0] 33)).alloc (.cells #[.int .i64 0, .int .i64 0] 38)) (w.heap.size + 1) [.int .i64 o, .int .i64 k, .int .i64 x]) := h12q.out.new (.cells #[.int .i64 0, .int .i64 0] 38)
  have h18q : Hid (Bo ((((w.alloc (.cells (tg 2 v t n0).toArray 33)).alloc (.cells #[.int .i64 o, .int .i64 k, .int .i64 x] 26)).alloc (.cells #[.int .i64 0, .slice none 0 0, .int .i64 0, .int .i64 0, .int .i64 0, .int .i64 0, .int .i64 0, .int .i64 0, .int .i64 0, .int .i64 0, .int .i64 0, .int .i64 0, .int .i64 0, .int .i64 0, .int .i64 0, .int .i64 0, .int .i64 0, .int .i64 0, .int .i64 0] 33)).alloc (.cells #[.int .i64 0, .int .i64 0] 38)) (w.heap.size + 2) (tg 0 (.slice none 0 0) Tb.zero 0)) := h13q.out.new (.cells #[.int .i64 0, .int .i64 0] 38)
  clear h9q h10q h11q h12q h13q
  have h19q : Hid (Bo ((((w.alloc (.cells (tg 2 v t n0).toArray 33)).alloc (.cells #[.int .i64 o, .int .i64 k, .int .i64 x] 26)).alloc (.cells #[.int .i64 0, .slice none 0 0, .int .i64 0, .int .i64 0, .int .i64 0, .int .i64 0, .int .i64 0, .int .i64 0, .int .i64 0, .int .i64 0, .int .i64 0, .int .i64 0, .int .i64 0, .int .i64 0, .int .i64 0, .int .i64 0, .int .i64 0, .int .i64 0, .int .i64 0] 33)).alloc (.cells #[.int .i64 0, .int .i64 0] 38)) (w.heap.size + 3) [.int .i64 0, .int .i64 0]) := Bo.born (((w.alloc (.cells (tg 2 v t n0).toArray 33)).alloc (.cells #[.int .i64 o, .int .i64 k, .int .i64 x] 26)).alloc (.cells #[.int .i64 0, .slice none 0 0, .int .i64 0, .int .i64 0, .int .i64 0, .int .i64 0, .int .i64 0, .int .i64 0, .int .i64 0, .int .i64 0, .int .i64 0, .int .i64 0, .int .i64 0, .int .i64 0, .int .i64 0, .int .i64 0, .int .i64 0, .int .i64 0, .int .i64 0] 33)) [.int .i64 0, .int .i64 0] 38 (by simp)
  have h20q : Hid (Gd w.heap.size w (((((w.alloc (.cells (tg 2 v t n0).toArray 33)).alloc (.cells #[.int .i64 o, .int .i64 k, .int .i64 x] 26)).alloc (.cells #[.int .i64 0, .slice none 0 0, .int .i64 0, .int .i64 0, .int .i64 0, .int .i64 0, .int .i64 0, .int .i64 0, .int .i64 0, .int .i64 0, .int .i64 0, .int .i64 0, .int .i64 0, .int .i64 0, .int .i64 0, .int .i64 0, .int .i64 0, .int .i64 0, .int .i64 0] 33)).alloc (.cells #[.int .i64 0, .int .i64 0] 38)).alloc (.cells #[.int .i64 0, .int .i64 0] 38))) := h14q.out.new (.cells #[.int .i64 0, .int .i64 0] 38)
  have h21q : Hid (Lf w.heap.size (w.heap.size + 5) (((((w.alloc (.cells (tg 2 v t n0).toArray 33)).alloc (.cells #[.int .i64 o, .int .i64 k, .int .i64 x] 26)).alloc (.cells #[.int .i64 0, .slice none 0 0, .int .i64 0, .int .i64 0, .int .i64 0, .int .i64 0, .int .i64 0, .int .i64 0, .int .i64 0, .int .i64 0, .int .i64 0, .int .i64 0, .int .i64 0, .int .i64 0, .int .i64 0, .int .i64 0, .int .i64 0, .int .i64 0, .int .i64 0] 33)).alloc (.cells #[.int .i64 0, .int .i64 0] 38)).alloc (.cells #[.int .i64 0, .int .i64 0] 38)) v xs) := h15q.out.new (.cells #[.int .i64 0, .int .i64 0] 38)
  have h22q : Hid (Bo (((((w.alloc (.cells (tg 2 v t n0).toArray 33)).alloc (.cells #[.int .i64 o, .int .i64 k, .int .i64 x] 26)).alloc (.cells #[.int .i64 0, .slice none 0 0, .int .i64 0, .int .i64 0, .int .i64 0, .int .i64 0, .int .i64 0, .int .i64 0, .int .i64 0, .int .i64 0, .int .i64 0, .int .i64 0, .int .i64 0, .int .i64 0, .int .i64 0, .int .i64 0, .int .i64 0, .int .i64 0, .int .i64 0] 33)).alloc (.cells #[.int .i64 0, .int .i64 0] 38)).alloc (.cells #[.int .i64 0, .int .i64 0] 38)) w.heap.size (tg 2 v t n0)) := h16q.out.new (.cells #[.int .i64 0, .int .i64 0] 38)
  have h23q : Hid (Bo (((((w.alloc (.cells (tg 2 v t n0).toArray 33)).alloc (.cells #[.int .i64 o, .int .i64 k, .int .i64 x] 26)).alloc (.cells #[.int .i64 0, .slice none 0 0, .int .i64 0, .int .i64 0, .int .i64 0, .int .i64 0, .int .i64 0, .int .i64 0, .int .i64 0, .int .i64 0, .int .i64 0, .int .i64 0, .int .i64 0, .int .i64 0, .int .i64 0, .int .i64 0, .int .i64 0, .int .i64 0, .int .i64 0] 33)).alloc (.cells #[.int .i64 0, .int .i64 0] 38)).alloc (.cells #[.int .i64 0, .int .i64 0] 38)) (w.heap.size + 1) [.int .i64 o, .int .i64 k, .int .i64 x]) := h17q.out.new (.cells #[.int .i64 0, .int .i64 0] 38)
  have h24q : Hid (Bo (((((w.alloc (.cells (tg 2 v t n0).toArray 33)).alloc (.cells #[.int .i64 o, .int .i64 k, .int .i64 x] 26)).alloc (.cells #[.int .i64 0, .slice none 0 0, .int .i64 0, .int .i64 0, .int .i64 0, .int .i64 0, .int .i64 0, .int .i64 0, .int .i64 0, .int .i64 0, .int .i64 0, .int .i64 0, .int .i64 0, .int .i64 0, .int .i64 0, .int .i64 0, .int .i64 0, .int .i64 0, .int .i64 0] 33)).alloc (.cells #[.int .i64 0, .int .i64 0] 38)).alloc (.cells #[.int .i64 0, .int .i64 0] 38)) (w.heap.size + 2) (tg 0 (.slice none 0 0) Tb.zero 0)) := h18q.out.new (.cells #[.int .i64 0, .int .i64 0] 38)
  have h25q : Hid (Bo (((((w.alloc (.cells (tg 2 v t n0).toArray 33)).alloc (.cells #[.int .i64 o, .int .i64 k, .int .i64 x] 26)).alloc (.cells #[.int .i64 0, .slice none 0 0, .int .i64 0, .int .i64 0, .int .i64 0, .int .i64 0, .int .i64 0, .int .i64 0, .int .i64 0, .int .i64 0, .int .i64 0, .int .i64 0, .int .i64 0, .int .i64 0, .int .i64 0, .int .i64 0, .int .i64 0, .int .i64 0, .int .i64 0] 33)).alloc (.cells #[.int .i64 0, .int .i64 0] 38)).alloc (.cells #[.int .i64 0, .int .i64 0] 38)) (w.heap.size + 3) [.int .i64 0, .int .i64 0]) := h19q.out.new (.cells #[.int .i64 0, .int .i64 0] 38)
  clear h14q h15q h16q h17q h18q h19q
  have h26q : Hid (Bo (((((w.alloc (.cells (tg 2 v t n0).toArray 33)).alloc (.cells #[.int .i64 o, .int .i64 k, .int .i64 x] 26)).alloc (.cells #[.int .i64 0, .slice none 0 0, .int .i64 0, .int .i64 0, .int .i64 0, .int .i64 0, .int .i64 0, .int .i64 0, .int .i64 0, .int .i64 0, .int .i64 0, .int .i64 0, .int .i64 0, .int .i64 0, .int .i64 0, .int .i64 0, .int .i64 0, .int .i64 0, .int .i64 0] 33)).alloc (.cells #[.int .i64 0, .int .i64 0] 38)).alloc (.cells #[.int .i64 0, .int .i64 0] 38)) (w.heap.size + 4) [.int .i64 0, .int .i64 0]) := Bo.born ((((w.alloc (.cells (tg 2 v t n0).toArray 33)).alloc (.cells #[.int .i64 o, .int .i64 k, .int .i64 x] 26)).alloc (.cells #[.int .i64 0, .slice none 0 0, .int .i64 0, .int .i64 0, .int .i64 0, .int .i64 0, .int .i64 0, .int .i64 0, .int .i64 0, .int .i64 0, .int .i64 0, .int .i64 0, .int .i64 0, .int .i64 0, .int .i64 0, .int .i64 0, .int .i64 0, .int .i64 0, .int .i64 0] 33)).alloc (.cells #[.int .i64 0, .int .i64 0] 38)) [.int .i64 0, .int .i64 0] 38 (by simp)
  have c1 := h22q.out.tcell.1
  have c2 := h22q.out.tcell.2.1
  have c27q := h23q.out.at 0 rfl
  have c28q := h23q.out.at 1 rfl
  have c29q := h23q.out.at 2 rfl
  go_enter Tryd.func9, Tryd.ntmps9
  go_wp2_with fail
  clear c1 c2
  generalize (((((w.alloc (.cells (tg 2 v t n0).toArray 33)).alloc (.cells #[.int .i64 o, .int .i64 k, .int .i64 x] 26)).alloc (.cells #[.int .i64 0, .slice none 0 0, .int .i64 0, .int .i64 0, .int .i64 0, .int .i64 0, .int .i64 0, .int .i64 0, .int .i64 0, .int .i64 0, .int .i64 0, .int .i64 0, .int .i64 0, .int .i64 0, .int .i64 0, .int .i64 0, .int .i64 0, .int .i64 0, .int .i64 0] 33)).alloc (.cells #[.int .i64 0, .int .i64 0] 38)).alloc (.cells #[.int .i64 0, .int .i64 0] 38)) = W at h20q h21q h22q h23q h24q h25q h26q  ⊢
  generalize hsz : w.heap.size = n at h20q h21q h22q h23q h24q h25q h26q  ⊢
  have HSZ : Hid (w.heap.size = n) := hsz
  clear hsz
  have hsW : n + 5 ≤ W.heap.size := by have := h26q.out.lt; omega
  refine (RC.out _ h21q.out.isL).mono ?_
  rintro e u30q ⟨v2, rfl, hv2, hb⟩
  have h31q : Hid (Gd n w u30q) := h20q.out.later hb
  have h32q : Hid (Lf n (n + 5) u30q v xs) := h21q.out.later hb
  have h33q : Hid (Bo u30q n (tg 2 v t n0)) := h22q.out.later hb
  have h34q : Hid (Bo u30q (n + 1) [.int .i64 o, .int .i64 k, .int .i64 x]) := h23q.out.later hb
  have h35q : Hid (Bo u30q (n + 2) (tg 0 (.slice none 0 0) Tb.zero 0)) := h24q.out.later hb
  have h36q : Hid (Bo u30q (n + 3) [.int .i64 0, .int .i64 0]) := h25q.out.later hb
  have h37q : Hid (Bo u30q (n + 4) [.int .i64 0, .int .i64 0]) := h26q.out.later hb
  clear h20q h21q h22q h23q h24q h25q h26q
  clear hb
  have l38q : n ≤ u30q.heap.size := h31q.out.le
  have l39q : n < u30q.heap.size := h33q.out.lt
  have l40q : (n + 1) < u30q.heap.size := h34q.out.lt
  have l41q : (n + 2) < u30q.heap.size := h35q.out.lt
  have l42q : (n + 3) < u30q.heap.size := h36q.out.lt
  have l43q : (n + 4) < u30q.heap.size := h37q.out.lt
  have Q2 : Hid (Lf n (n + 5) u30q v2 ys) := Lf.of_made h32q.out hsW hv2
  clear h32q hv2
  obtain ⟨a2, c2, hv2⟩ := Q2.out.form
  generalize ys.length = l2 at hv2
  subst hv2
  have d1 := h33q.out.tcell.2.1
  have d2 := h33q.out.froz 1
  have h44q : Hid (Gd n w (u30q.setCell ⟨n, 1, none⟩ (.slice a2 l2 c2))) := h31q.out.aside (by simp; try omega) _
  have h45q : Hid (Lf n (n + 5) (u30q.setCell ⟨n, 1, none⟩ (.slice a2 l2 c2)) (.slice a2 l2 c2) ys) := Q2.out.aside (by simp; try omega) _
  have h46q : Hid (Bo (u30q.setCell ⟨n, 1, none⟩ (.slice a2 l2 c2)) n (tg 2 (.slice a2 l2 c2) t n0)) := h33q.out.set1 (j := 1) (x := (.slice a2 l2 c2)) (by rw [tg_length]; decide) (tg_list _ _ (.slice a2 l2 c2) _ _)
  have h47q : Hid (Bo (u30q.setCell ⟨n, 1, none⟩ (.slice a2 l2 c2)) (n + 1) [.int .i64 o, .int .i64 k, .int .i64 x]) := h34q.out.aside (by simp; try omega) _
  have h48q : Hid (Bo (u30q.setCell ⟨n, 1, none⟩ (.slice a2 l2 c2)) (n + 2) (tg 0 (.slice none 0 0) Tb.zero 0)) := h35q.out.aside (by simp; try omega) _
  have h49q : Hid (Bo (u30q.setCell ⟨n, 1, none⟩ (.slice a2 l2 c2)) (n + 3) [.int .i64 0, .int .i64 0]) := h36q.out.aside (by simp; try omega) _
  have h50q : Hid (Bo (u30q.setCell ⟨n, 1, none⟩ (.slice a2 l2 c2)) (n + 4) [.int .i64 0, .int .i64 0]) := h37q.out.aside (by simp; try omega) _
  clear h31q Q2 h33q h34q h35q h36q h37q
  go_wp2_with (first
    | (refine wpList_store_mid rfl 38 _ _ rfl (n + 4) _ #[.int .i64 (cc), .int .i64 (y)] rfl rfl h50q.out.there2 HA.out (two_one _ _) ?_
       have h51q : Hid (Gd n w ((u30q.setCell ⟨n, 1, none⟩ (.slice a2 l2 c2)).setCells (n + 4) 0 [.int .i64 (cc), .int .i64 (y)])) := h44q.out.asideL (by omega) 0 [.int .i64 (cc), .int .i64 (y)]
       have h52q : Hid (Lf n (n + 5) ((u30q.setCell ⟨n, 1, none⟩ (.slice a2 l2 c2)).setCells (n + 4) 0 [.int .i64 (cc), .int .i64 (y)]) (.slice a2 l2 c2) ys) := h45q.out.asideL (by omega) 0 [.int .i64 (cc), .int .i64 (y)]
       have h53q : Hid (Bo ((u30q.setCell ⟨n, 1, none⟩ (.slice a2 l2 c2)).setCells (n + 4) 0 [.int .i64 (cc), .int .i64 (y)]) n (tg 2 (.slice a2 l2 c2) t n0)) := h46q.out.asideL (by omega) 0 [.int .i64 (cc), .int .i64 (y)]
       have h54q : Hid (Bo ((u30q.setCell ⟨n, 1, none⟩ (.slice a2 l2 c2)).setCells (n + 4) 0 [.int .i64 (cc), .int .i64 (y)]) (n + 1) [.int .i64 o, .int .i64 k, .int .i64 x]) := h47q.out.asideL (by omega) 0 [.int .i64 (cc), .int .i64 (y)]
       have h55q : Hid (Bo ((u30q.setCell ⟨n, 1, none⟩ (.slice a2 l2 c2)).setCells (n + 4) 0 [.int .i64 (cc), .int .i64 (y)]) (n + 2) (tg 0 (.slice none 0 0) Tb.zero 0)) := h48q.out.asideL (by omega) 0 [.int .i64 (cc), .int .i64 (y)]
       have h56q : Hid (Bo ((u30q.setCell ⟨n, 1, none⟩ (.slice a2 l2 c2)).setCells (n + 4) 0 [.int .i64 (cc), .int .i64 (y)]) (n + 3) [.int .i64 0, .int .i64 0]) := h49q.out.asideL (by omega) 0 [.int .i64 (cc), .int .i64 (y)]
       have h57q : Hid (Bo ((u30q.setCell ⟨n, 1, none⟩ (.slice a2 l2 c2)).setCells (n + 4) 0 [.int .i64 (cc), .int .i64 (y)]) (n + 4) [.int .i64 (cc), .int .i64 (y)]) := h50q.out.set2 (.int .i64 (cc)) (.int .i64 (y))
       clear h44q h45q h46q h47q h48q h49q h50q
       generalize ((u30q.setCell ⟨n, 1, none⟩ (.slice a2 l2 c2)).setCells (n + 4) 0 [.int .i64 (cc), .int .i64 (y)]) = u58q at h51q h52q h53q h54q h55q h56q h57q  ⊢))
  have l59q : n ≤ u58q.heap.size := h51q.out.le
  have l60q : n < u58q.heap.size := h53q.out.lt
  have l61q : (n + 1) < u58q.heap.size := h54q.out.lt
  have l62q : (n + 2) < u58q.heap.size := h55q.out.lt
  have l63q : (n + 3) < u58q.heap.size := h56q.out.lt
  have l64q : (n + 4) < u58q.heap.size := h57q.out.lt
  have h65q : Hid (Gd n w u58q.drew) := h51q.out.drew
  have h66q : Hid (Lf n (n + 5) u58q.drew (.slice a2 l2 c2) ys) := h52q.out.drew
  have h67q : Hid (Bo u58q.drew n (tg 2 (.slice a2 l2 c2) t n0)) := h53q.out.drew
  have h68q : Hid (Bo u58q.drew (n + 1) [.int .i64 o, .int .i64 k, .int .i64 x]) := h54q.out.drew
  have h69q : Hid (Bo u58q.drew (n + 2) (tg 0 (.slice none 0 0) Tb.zero 0)) := h55q.out.drew
  have h70q : Hid (Bo u58q.drew (n + 3) [.int .i64 0, .int .i64 0]) := h56q.out.drew
  have h71q : Hid (Bo u58q.drew (n + 4) [.int .i64 (cc), .int .i64 (y)]) := h57q.out.drew
  clear h51q h52q h53q h54q h55q h56q h57q
  refine wp_region_held_drew (S := fun w' => Bo w' n (tg 2 (.slice a2 l2 c2) t n0) ∧ Bo w' (n + 4) [.int .i64 (cc), .int .i64 (y)]) (by kernel_rfl) ⟨h67q.out, h71q.out⟩ (fun hH => ?_)
  generalize u58q.drew = u72q at h65q h66q h67q h68q h69q h70q h71q hH ⊢
  refine wpAnyH_take (i := 0) (oi := { dst := some 67, op := .load _ (.tmp 2), type := _, pos := _, after := _, guard := _ }) (v := _) rfl (by kernel_rfl) (by kernel_rfl) (by kernel_rfl) (fun _ _ _ h => h) (yieldsIf_load_mid (by rfl) _ _ rfl n _ rfl (tg 2 (.slice a2 l2 c2) t n0) _ (fun _ h => (h.1).range) HTD.out rfl (HTS.out _ _ _ _)) hH ?_
  simp only [Act.put, List.setIfInBounds_toArray, List.set_cons_zero, List.set_cons_succ]
  refine wpAnyH_take (i := 1) (oi := { dst := some 68, op := .load _ (.tmp 6), type := _, pos := _, after := _, guard := _ }) (v := ?_) rfl (by kernel_rfl) (by kernel_rfl) (by kernel_rfl) (fun _ _ _ h => h) (Or.inl ⟨by rfl, ?_⟩) hH ?_
  rotate_left
  · intro w hSw
    have c73q := (hSw.2).at 0 rfl
    have c74q := (hSw.2).at 1 rfl
    clear hSw
    go_simp
    try with_reducible rfl
  simp only [Act.put, List.setIfInBounds_toArray, List.set_cons_zero, List.set_cons_succ]
  refine wpAnyH_ready (rs := [2]) (by kernel_rfl) (by simp) ?_
  refine AllReadyH.cons (o := { dst := none, op := .store _ (.tmp 4) (.tmp 67), type := _, pos := _, after := _, guard := _ }) rfl (fun K hK => ?_) AllReadyH.nil
  rw [if_pos (by rfl)]
  refine wp_store_mid _ _ _ rfl (n + 2) _ (tg 2 (.slice a2 l2 c2) t n0).toArray rfl rfl (h69q.out.thereT 2 (.slice a2 l2 c2) t n0) (HTZ.out _ _ _ _) (tg_all _ rfl _ _) ?_
  simp only [Act.put]
  have h75q : Hid (Gd n w (u72q.setCells (n + 2) 0 (tg 2 (.slice a2 l2 c2) t n0))) := h65q.out.asideL (by omega) 0 (tg 2 (.slice a2 l2 c2) t n0)
  have h76q : Hid (Lf n (n + 5) (u72q.setCells (n + 2) 0 (tg 2 (.slice a2 l2 c2) t n0)) (.slice a2 l2 c2) ys) := h66q.out.asideL (by omega) 0 (tg 2 (.slice a2 l2 c2) t n0)
  have h77q : Hid (Bo (u72q.setCells (n + 2) 0 (tg 2 (.slice a2 l2 c2) t n0)) n (tg 2 (.slice a2 l2 c2) t n0)) := h67q.out.asideL (by omega) 0 (tg 2 (.slice a2 l2 c2) t n0)
  have h78q : Hid (Bo (u72q.setCells (n + 2) 0 (tg 2 (.slice a2 l2 c2) t n0)) (n + 1) [.int .i64 o, .int .i64 k, .int .i64 x]) := h68q.out.asideL (by omega) 0 (tg 2 (.slice a2 l2 c2) t n0)
  have h79q : Hid (Bo (u72q.setCells (n + 2) 0 (tg 2 (.slice a2 l2 c2) t n0)) (n + 2) (tg 2 (.slice a2 l2 c2) t n0)) := h69q.out.setT 2 (.slice a2 l2 c2) t n0
  have h80q : Hid (Bo (u72q.setCells (n + 2) 0 (tg 2 (.slice a2 l2 c2) t n0)) (n + 3) [.int .i64 0, .int .i64 0]) := h70q.out.asideL (by omega) 0 (tg 2 (.slice a2 l2 c2) t n0)
  have h81q : Hid (Bo (u72q.setCells (n + 2) 0 (tg 2 (.slice a2 l2 c2) t n0)) (n + 4) [.int .i64 (cc), .int .i64 (y)]) := h71q.out.asideL (by omega) 0 (tg 2 (.slice a2 l2 c2) t n0)
  clear h65q h66q h67q h68q h69q h70q h71q
  refine hK.out _ _ ⟨h77q.out, h81q.out⟩ (fun hH => ?_)
  clear hK K
  generalize (u72q.setCells (n + 2) 0 (tg 2 (.slice a2 l2 c2) t n0)) = u82q at h75q h76q h77q h78q h79q h80q h81q hH ⊢
  try simp only [Act.put, List.setIfInBounds_toArray, List.set_cons_zero, List.set_cons_succ]
  refine wpAnyH_ready (rs := [3]) (by kernel_rfl) (by simp) ?_
  refine AllReadyH.cons (o := { dst := none, op := .store _ (.tmp 5) (.tmp 68), type := _, pos := _, after := _, guard := _ }) rfl (fun K hK => ?_) AllReadyH.nil
  rw [if_pos (by rfl)]
  refine wp_store_mid _ _ _ rfl (n + 3) _ #[.int .i64 (cc), .int .i64 (y)] rfl rfl h80q.out.there2 HA.out (two_one _ _) ?_
  simp only [Act.put]
  have h83q : Hid (Gd n w (u82q.setCells (n + 3) 0 [.int .i64 (cc), .int .i64 (y)])) := h75q.out.asideL (by omega) 0 [.int .i64 (cc), .int .i64 (y)]
  have h84q : Hid (Lf n (n + 5) (u82q.setCells (n + 3) 0 [.int .i64 (cc), .int .i64 (y)]) (.slice a2 l2 c2) ys) := h76q.out.asideL (by omega) 0 [.int .i64 (cc), .int .i64 (y)]
  have h85q : Hid (Bo (u82q.setCells (n + 3) 0 [.int .i64 (cc), .int .i64 (y)]) n (tg 2 (.slice a2 l2 c2) t n0)) := h77q.out.asideL (by omega) 0 [.int .i64 (cc), .int .i64 (y)]
  have h86q : Hid (Bo (u82q.setCells (n + 3) 0 [.int .i64 (cc), .int .i64 (y)]) (n + 1) [.int .i64 o, .int .i64 k, .int .i64 x]) := h78q.out.asideL (by omega) 0 [.int .i64 (cc), .int .i64 (y)]
  have h87q : Hid (Bo (u82q.setCells (n + 3) 0 [.int .i64 (cc), .int .i64 (y)]) (n + 2) (tg 2 (.slice a2 l2 c2) t n0)) := h79q.out.asideL (by omega) 0 [.int .i64 (cc), .int .i64 (y)]
  have h88q : Hid (Bo (u82q.setCells (n + 3) 0 [.int .i64 (cc), .int .i64 (y)]) (n + 3) [.int .i64 (cc), .int .i64 (y)]) := h80q.out.set2 (.int .i64 (cc)) (.int .i64 (y))
  have h89q : Hid (Bo (u82q.setCells (n + 3) 0 [.int .i64 (cc), .int .i64 (y)]) (n + 4) [.int .i64 (cc), .int .i64 (y)]) := h81q.out.asideL (by omega) 0 [.int .i64 (cc), .int .i64 (y)]
  clear h75q h76q h77q h78q h79q h80q h81q
  refine hK.out _ _ ⟨h85q.out, h89q.out⟩ (fun hH => ?_)
  clear hK K
  generalize (u82q.setCells (n + 3) 0 [.int .i64 (cc), .int .i64 (y)]) = u90q at h83q h84q h85q h86q h87q h88q h89q hH ⊢
  try simp only [Act.put, List.setIfInBounds_toArray, List.set_cons_zero, List.set_cons_succ]
  refine wpAnyH_done (by kernel_rfl) ?_ _
  go_wp2
  exact bodyPost_ret (results_row2 Tryd.results9 _ _ (n + 2) (n + 3) (tg 2 (.slice a2 l2 c2) t n0) [.int .i64 (cc), .int .i64 (y)] _ _ rfl rfl h87q.out.range HTD.out rfl (HTS.out _ _ _ _) h88q.out.range HDA.out rfl HA.out) rfl ⟨_, rfl, h84q.out.isL, h83q.out.2⟩
set_option maxHeartbeats 4000000 in
theorem TDo_3 {B : Nat} {v : Value} {xs ys : List Int} {o k x cc y : Int} (t : Tb) (n0 : Int) {w : World} (h : IsL B w v xs) (hx : xs.length ≤ 6) (hq : ddo xs o x = (ys, cc, y)) :
    Calls Tryd.prog 9 #[.agg (tg 3 v t n0).toArray, .agg #[.int .i64 o, .int .i64 k, .int .i64 x]] w fun e w' => ∃ v', e = .returned (.tuple #[.agg (tg 3 v' t n0).toArray, .agg #[.int .i64 cc, .int .i64 y]]) ∧ IsL 0 w' v' ys ∧ Below w.heap.size w w' := by
  have HA : Hid ((Tryd.prog.info? 38).map (·.size) = some 2) := answer_size
  obtain ⟨fa, ha⟩ := answer_struct
  have HDA : Hid _ := ha
  clear ha
  obtain ⟨fs, hd⟩ := thing_struct
  have HTD : Hid _ := hd
  clear hd
  have HTS : Hid _ := thing_size
  have HTZ : Hid _ := thing_size2
  have RC : Hid (∀ W, IsL 0 W v xs → Calls Tryd.prog 23 #[v, .agg #[.int .i64 o, .int .i64 k, .int .i64 x]] W _) := fun W hW => RDeque_eq k hW (by omega) hq
  have g0 : Hid (Gd w.heap.size w w) := Gd.refl w
  have h1q : Hid (Lf w.heap.size (w.heap.size + 5) w v xs) := Lf.old h
  clear h hq
  have h2q : Hid (Gd w.heap.size w (w.alloc (.cells (tg 3 v t n0).toArray 33))) := g0.out.new (.cells (tg 3 v t n0).toArray 33)
  have h3q : Hid (Lf w.heap.size (w.heap.size + 5) (w.alloc (.cells (tg 3 v t n0).toArray 33)) v xs) := h1q.out.new (.cells (tg 3 v t n0).toArray 33)
  clear g0 h1q
  have h4q : Hid (Bo (w.alloc (.cells (tg 3 v t n0).toArray 33)) w.heap.size (tg 3 v t n0)) := Bo.born w (tg 3 v t n0) 33 (by simp)
  have h5q : Hid (Gd w.heap.size w ((w.alloc (.cells (tg 3 v t n0).toArray 33)).alloc (.cells #[.int .i64 o, .int .i64 k, .int .i64 x] 26))) := h2q.out.new (.cells #[.int .i64 o, .int .i64 k, .int .i64 x] 26)
  have h6q : Hid (Lf w.heap.size (w.heap.size + 5) ((w.alloc (.cells (tg 3 v t n0).toArray 33)).alloc (.cells #[.int .i64 o, .int .i64 k, .int .i64 x] 26)) v xs) := h3q.out.new (.cells #[.int .i64 o, .int .i64 k, .int .i64 x] 26)
  have h7q : Hid (Bo ((w.alloc (.cells (tg 3 v t n0).toArray 33)).alloc (.cells #[.int .i64 o, .int .i64 k, .int .i64 x] 26)) w.heap.size (tg 3 v t n0)) := h4q.out.new (.cells #[.int .i64 o, .int .i64 k, .int .i64 x] 26)
  clear h2q h3q h4q
  have h8q : Hid (Bo ((w.alloc (.cells (tg 3 v t n0).toArray 33)).alloc (.cells #[.int .i64 o, .int .i64 k, .int .i64 x] 26)) (w.heap.size + 1) [.int .i64 o, .int .i64 k, .int .i64 x]) := Bo.born (w.alloc (.cells (tg 3 v t n0).toArray 33)) [.int .i64 o, .int .i64 k, .int .i64 x] 26 (by simp)
  have h9q : Hid (Gd w.heap.size w (((w.alloc (.cells (tg 3 v t n0).toArray 33)).alloc (.cells #[.int .i64 o, .int .i64 k, .int .i64 x] 26)).alloc (.cells #[.int .i64 0, .slice none 0 0, .int .i64 0, .int .i64 0, .int .i64 0, .int .i64 0, .int .i64 0, .int .i64 0, .int .i64 0, .int .i64 0, .int .i64 0, .int .i64 0, .int .i64 0, .int .i64 0, .int .i64 0, .int .i64 0, .int .i64 0, .int .i64 0, .int .i64 0] 33))) := h5q.out.new (.cells #[.int .i64 0, .slice none 0 0, .int .i64 0, .int .i64 0, .int .i64 0, .int .i64 0, .int .i64 0, .int .i64 0, .int .i64 0, .int .i64 0, .int .i64 0, .int .i64 0, .int .i64 0, .int .i64 0, .int .i64 0, .int .i64 0, .int .i64 0, .int .i64 0, .int .i64 0] 33)
  have h10q : Hid (Lf w.heap.size (w.heap.size + 5) (((w.alloc (.cells (tg 3 v t n0).toArray 33)).alloc (.cells #[.int .i64 o, .int .i64 k, .int .i64 x] 26)).alloc (.cells #[.int .i64 0, .slice none 0 0, .int .i64 0, .int .i64 0, .int .i64 0, .int .i64 0, .int .i64 0, .int .i64 0, .int .i64 0, .int .i64 0, .int .i64 0, .int .i64 0, .int .i64 0, .int .i64 0, .int .i64 0, .int .i64 0, .int .i64 0, .int .i64 0, .int .i64 0] 33)) v xs) := h6q.out.new (.cells #[.int .i64 0, .slice none 0 0, .int .i64 0, .int .i64 0, .int .i64 0, .int .i64 0, .int .i64 0, .int .i64 0, .int .i64 0, .int .i64 0, .int .i64 0, .int .i64 0, .int .i64 0, .int .i64 0, .int .i64 0, .int .i64 0, .int .i64 0, .int .i64 0, .int .i64 0] 33)
  have h11q : Hid (Bo (((w.alloc (.cells (tg 3 v t n0).toArray 33)).alloc (.cells #[.int .i64 o, .int .i64 k, .int .i64 x] 26)).alloc (.cells #[.int .i64 0, .slice none 0 0, .int .i64 0, .int .i64 0, .int .i64 0, .int .i64 0, .int .i64 0, .int .i64 0, .int .i64 0, .int .i64 0, .int .i64 0, .int .i64 0, .int .i64 0, .int .i64 0, .int .i64 0, .int .i64 0, .int .i64 0, .int .i64 0, .int .i64 0] 33)) w.heap.size (tg 3 v t n0)) := h7q.out.new (.cells #[.int .i64 0, .slice none 0 0, .int .i64 0, .int .i64 0, .int .i64 0, .int .i64 0, .int .i64 0, .int .i64 0, .int .i64 0, .int .i64 0, .int .i64 0, .int .i64 0, .int .i64 0, .int .i64 0, .int .i64 0, .int .i64 0, .int .i64 0, .int .i64 0, .int .i64 0] 33)
  have h12q : Hid (Bo (((w.alloc (.cells (tg 3 v t n0).toArray 33)).alloc (.cells #[.int .i64 o, .int .i64 k, .int .i64 x] 26)).alloc (.cells #[.int .i64 0, .slice none 0 0, .int .i64 0, .int .i64 0, .int .i64 0, .int .i64 0, .int .i64 0, .int .i64 0, .int .i64 0, .int .i64 0, .int .i64 0, .int .i64 0, .int .i64 0, .int .i64 0, .int .i64 0, .int .i64 0, .int .i64 0, .int .i64 0, .int .i64 0] 33)) (w.heap.size + 1) [.int .i64 o, .int .i64 k, .int .i64 x]) := h8q.out.new (.cells #[.int .i64 0, .slice none 0 0, .int .i64 0, .int .i64 0, .int .i64 0, .int .i64 0, .int .i64 0, .int .i64 0, .int .i64 0, .int .i64 0, .int .i64 0, .int .i64 0, .int .i64 0, .int .i64 0, .int .i64 0, .int .i64 0, .int .i64 0, .int .i64 0, .int .i64 0] 33)
  clear h5q h6q h7q h8q
  have h13q : Hid (Bo (((w.alloc (.cells (tg 3 v t n0).toArray 33)).alloc (.cells #[.int .i64 o, .int .i64 k, .int .i64 x] 26)).alloc (.cells #[.int .i64 0, .slice none 0 0, .int .i64 0, .int .i64 0, .int .i64 0, .int .i64 0, .int .i64 0, .int .i64 0, .int .i64 0, .int .i64 0, .int .i64 0, .int .i64 0, .int .i64 0, .int .i64 0, .int .i64 0, .int .i64 0, .int .i64 0, .int .i64 0, .int .i64 0] 33)) (w.heap.size + 2) (tg 0 (.slice none 0 0) Tb.zero 0)) := Bo.bornTh ((w.alloc (.cells (tg 3 v t n0).toArray 33)).alloc (.cells #[.int .i64 o, .int .i64 k, .int .i64 x] 26)) 0 33 (by simp)
  have h14q : Hid (Gd w.heap.size w ((((w.alloc (.cells (tg 3 v t n0).toArray 33)).alloc (.cells #[.int .i64 o, .int .i64 k, .int .i64 x] 26)).alloc (.cells #[.int .i64 0, .slice none 0 0, .int .i64 0, .int .i64 0, .int .i64 0, .int .i64 0, .int .i64 0, .int .i64 0, .int .i64 0, .int .i64 0, .int .i64 0, .int .i64 0, .int .i64 0, .int .i64 0, .int .i64 0, .int .i64 0, .int .i64 0, .int .i64 0, .int .i64 0] 33)).alloc (.cells #[.int .i64 0, .int .i64 0] 38))) := h9q.out.new (.cells #[.int .i64 0, .int .i64 0] 38)
  have h15q : Hid (Lf w.heap.size (w.heap.size + 5) ((((w.alloc (.cells (tg 3 v t n0).toArray 33)).alloc (.cells #[.int .i64 o, .int .i64 k, .int .i64 x] 26)).alloc (.cells #[.int .i64 0, .slice none 0 0, .int .i64 0, .int .i64 0, .int .i64 0, .int .i64 0, .int .i64 0, .int .i64 0, .int .i64 0, .int .i64 0, .int .i64 0, .int .i64 0, .int .i64 0, .int .i64 0, .int .i64 0, .int .i64 0, .int .i64 0, .int .i64 0, .int .i64 0] 33)).alloc (.cells #[.int .i64 0, .int .i64 0] 38)) v xs) := h10q.out.new (.cells #[.int .i64 0, .int .i64 0] 38)
  have h16q : Hid (Bo ((((w.alloc (.cells (tg 3 v t n0).toArray 33)).alloc (.cells #[.int .i64 o, .int .i64 k, .int .i64 x] 26)).alloc (.cells #[.int .i64 0, .slice none 0 0, .int .i64 0, .int .i64 0, .int .i64 0, .int .i64 0, .int .i64 0, .int .i64 0, .int .i64 0, .int .i64 0, .int .i64 0, .int .i64 0, .int .i64 0, .int .i64 0, .int .i64 0, .int .i64 0, .int .i64 0, .int .i64 0, .int .i64 0] 33)).alloc (.cells #[.int .i64 0, .int .i64 0] 38)) w.heap.size (tg 3 v t n0)) := h11q.out.new (.cells #[.int .i64 0, .int .i64 0] 38)
  have h17q : Hid (Bo ((((w.alloc (.cells (tg 3 v t n0).toArray 33)).alloc (.cells #[.int .i64 o, .int .i64 k, .int .i64 x] 26)).alloc (.cells #[.int .i64 0, .slice none 0 0, .int .i64 0, .int .i64 0, .int .i64 0, .int .i64 0, .int .i64 0, .int .i64 0, .int .i64 0, .int .i64 0, .int .i64 0, .int .i64 0, .int .i64 0, .int .i64 0, .int .i64 0, .int .i64 0, .int .i64 0, .int .i64 0, .int .i64 0] 33)).alloc (.cells #[.int .i64 0, .int .i64 0] 38)) (w.heap.size + 1) [.int .i64 o, .int .i64 k, .int .i64 x]) := h12q.out.new (.cells #[.int .i64 0, .int .i64 0] 38)
  have h18q : Hid (Bo ((((w.alloc (.cells (tg 3 v t n0).toArray 33)).alloc (.cells #[.int .i64 o, .int .i64 k, .int .i64 x] 26)).alloc (.cells #[.int .i64 0, .slice none 0 0, .int .i64 0, .int .i64 0, .int .i64 0, .int .i64 0, .int .i64 0, .int .i64 0, .int .i64 0, .int .i64 0, .int .i64 0, .int .i64 0, .int .i64 0, .int .i64 0, .int .i64 0, .int .i64 0, .int .i64 0, .int .i64 0, .int .i64 0] 33)).alloc (.cells #[.int .i64 0, .int .i64 0] 38)) (w.heap.size + 2) (tg 0 (.slice none 0 0) Tb.zero 0)) := h13q.out.new (.cells #[.int .i64 0, .int .i64 0] 38)
  clear h9q h10q h11q h12q h13q
  have h19q : Hid (Bo ((((w.alloc (.cells (tg 3 v t n0).toArray 33)).alloc (.cells #[.int .i64 o, .int .i64 k, .int .i64 x] 26)).alloc (.cells #[.int .i64 0, .slice none 0 0, .int .i64 0, .int .i64 0, .int .i64 0, .int .i64 0, .int .i64 0, .int .i64 0, .int .i64 0, .int .i64 0, .int .i64 0, .int .i64 0, .int .i64 0, .int .i64 0, .int .i64 0, .int .i64 0, .int .i64 0, .int .i64 0, .int .i64 0] 33)).alloc (.cells #[.int .i64 0, .int .i64 0] 38)) (w.heap.size + 3) [.int .i64 0, .int .i64 0]) := Bo.born (((w.alloc (.cells (tg 3 v t n0).toArray 33)).alloc (.cells #[.int .i64 o, .int .i64 k, .int .i64 x] 26)).alloc (.cells #[.int .i64 0, .slice none 0 0, .int .i64 0, .int .i64 0, .int .i64 0, .int .i64 0, .int .i64 0, .int .i64 0, .int .i64 0, .int .i64 0, .int .i64 0, .int .i64 0, .int .i64 0, .int .i64 0, .int .i64 0, .int .i64 0, .int .i64 0, .int .i64 0, .int .i64 0] 33)) [.int .i64 0, .int .i64 0] 38 (by simp)
  have h20q : Hid (Gd w.heap.size w (((((w.alloc (.cells (tg 3 v t n0).toArray 33)).alloc (.cells #[.int .i64 o, .int .i64 k, .int .i64 x] 26)).alloc (.cells #[.int .i64 0, .slice none 0 0, .int .i64 0, .int .i64 0, .int .i64 0, .int .i64 0, .int .i64 0, .int .i64 0, .int .i64 0, .int .i64 0, .int .i64 0, .int .i64 0, .int .i64 0, .int .i64 0, .int .i64 0, .int .i64 0, .int .i64 0, .int .i64 0, .int .i64 0] 33)).alloc (.cells #[.int .i64 0, .int .i64 0] 38)).alloc (.cells #[.int .i64 0, .int .i64 0] 38))) := h14q.out.new (.cells #[.int .i64 0, .int .i64 0] 38)
  have h21q : Hid (Lf w.heap.size (w.heap.size + 5) (((((w.alloc (.cells (tg 3 v t n0).toArray 33)).alloc (.cells #[.int .i64 o, .int .i64 k, .int .i64 x] 26)).alloc (.cells #[.int .i64 0, .slice none 0 0, .int .i64 0, .int .i64 0, .int .i64 0, .int .i64 0, .int .i64 0, .int .i64 0, .int .i64 0, .int .i64 0, .int .i64 0, .int .i64 0, .int .i64 0, .int .i64 0, .int .i64 0, .int .i64 0, .int .i64 0, .int .i64 0, .int .i64 0] 33)).alloc (.cells #[.int .i64 0, .int .i64 0] 38)).alloc (.cells #[.int .i64 0, .int .i64 0] 38)) v xs) := h15q.out.new (.cells #[.int .i64 0, .int .i64 0] 38)
  have h22q : Hid (Bo (((((w.alloc (.cells (tg 3 v t n0).toArray 33)).alloc (.cells #[.int .i64 o, .int .i64 k, .int .i64 x] 26)).alloc (.cells #[.int .i64 0, .slice none 0 0, .int .i64 0, .int .i64 0, .int .i64 0, .int .i64 0, .int .i64 0, .int .i64 0, .int .i64 0, .int .i64 0, .int .i64 0, .int .i64 0, .int .i64 0, .int .i64 0, .int .i64 0, .int .i64 0, .int .i64 0, .int .i64 0, .int .i64 0] 33)).alloc (.cells #[.int .i64 0, .int .i64 0] 38)).alloc (.cells #[.int .i64 0, .int .i64 0] 38)) w.heap.size (tg 3 v t n0)) := h16q.out.new (.cells #[.int .i64 0, .int .i64 0] 38)
  have h23q : Hid (Bo (((((w.alloc (.cells (tg 3 v t n0).toArray 33)).alloc (.cells #[.int .i64 o, .int .i64 k, .int .i64 x] 26)).alloc (.cells #[.int .i64 0, .slice none 0 0, .int .i64 0, .int .i64 0, .int .i64 0, .int .i64 0, .int .i64 0, .int .i64 0, .int .i64 0, .int .i64 0, .int .i64 0, .int .i64 0, .int .i64 0, .int .i64 0, .int .i64 0, .int .i64 0, .int .i64 0, .int .i64 0, .int .i64 0] 33)).alloc (.cells #[.int .i64 0, .int .i64 0] 38)).alloc (.cells #[.int .i64 0, .int .i64 0] 38)) (w.heap.size + 1) [.int .i64 o, .int .i64 k, .int .i64 x]) := h17q.out.new (.cells #[.int .i64 0, .int .i64 0] 38)
  have h24q : Hid (Bo (((((w.alloc (.cells (tg 3 v t n0).toArray 33)).alloc (.cells #[.int .i64 o, .int .i64 k, .int .i64 x] 26)).alloc (.cells #[.int .i64 0, .slice none 0 0, .int .i64 0, .int .i64 0, .int .i64 0, .int .i64 0, .int .i64 0, .int .i64 0, .int .i64 0, .int .i64 0, .int .i64 0, .int .i64 0, .int .i64 0, .int .i64 0, .int .i64 0, .int .i64 0, .int .i64 0, .int .i64 0, .int .i64 0] 33)).alloc (.cells #[.int .i64 0, .int .i64 0] 38)).alloc (.cells #[.int .i64 0, .int .i64 0] 38)) (w.heap.size + 2) (tg 0 (.slice none 0 0) Tb.zero 0)) := h18q.out.new (.cells #[.int .i64 0, .int .i64 0] 38)
  have h25q : Hid (Bo (((((w.alloc (.cells (tg 3 v t n0).toArray 33)).alloc (.cells #[.int .i64 o, .int .i64 k, .int .i64 x] 26)).alloc (.cells #[.int .i64 0, .slice none 0 0, .int .i64 0, .int .i64 0, .int .i64 0, .int .i64 0, .int .i64 0, .int .i64 0, .int .i64 0, .int .i64 0, .int .i64 0, .int .i64 0, .int .i64 0, .int .i64 0, .int .i64 0, .int .i64 0, .int .i64 0, .int .i64 0, .int .i64 0] 33)).alloc (.cells #[.int .i64 0, .int .i64 0] 38)).alloc (.cells #[.int .i64 0, .int .i64 0] 38)) (w.heap.size + 3) [.int .i64 0, .int .i64 0]) := h19q.out.new (.cells #[.int .i64 0, .int .i64 0] 38)
  clear h14q h15q h16q h17q h18q h19q
  have h26q : Hid (Bo (((((w.alloc (.cells (tg 3 v t n0).toArray 33)).alloc (.cells #[.int .i64 o, .int .i64 k, .int .i64 x] 26)).alloc (.cells #[.int .i64 0, .slice none 0 0, .int .i64 0, .int .i64 0, .int .i64 0, .int .i64 0, .int .i64 0, .int .i64 0, .int .i64 0, .int .i64 0, .int .i64 0, .int .i64 0, .int .i64 0, .int .i64 0, .int .i64 0, .int .i64 0, .int .i64 0, .int .i64 0, .int .i64 0] 33)).alloc (.cells #[.int .i64 0, .int .i64 0] 38)).alloc (.cells #[.int .i64 0, .int .i64 0] 38)) (w.heap.size + 4) [.int .i64 0, .int .i64 0]) := Bo.born ((((w.alloc (.cells (tg 3 v t n0).toArray 33)).alloc (.cells #[.int .i64 o, .int .i64 k, .int .i64 x] 26)).alloc (.cells #[.int .i64 0, .slice none 0 0, .int .i64 0, .int .i64 0, .int .i64 0, .int .i64 0, .int .i64 0, .int .i64 0, .int .i64 0, .int .i64 0, .int .i64 0, .int .i64 0, .int .i64 0, .int .i64 0, .int .i64 0, .int .i64 0, .int .i64 0, .int .i64 0, .int .i64 0] 33)).alloc (.cells #[.int .i64 0, .int .i64 0] 38)) [.int .i64 0, .int .i64 0] 38 (by simp)
  have c1 := h22q.out.tcell.1
  have c2 := h22q.out.tcell.2.1
  have c27q := h23q.out.at 0 rfl
  have c28q := h23q.out.at 1 rfl
  have c29q := h23q.out.at 2 rfl
  go_enter Tryd.func9, Tryd.ntmps9
  go_wp2_with fail
  clear c1 c2
  generalize (((((w.alloc (.cells (tg 3 v t n0).toArray 33)).alloc (.cells #[.int .i64 o, .int .i64 k, .int .i64 x] 26)).alloc (.cells #[.int .i64 0, .slice none 0 0, .int .i64 0, .int .i64 0, .int .i64 0, .int .i64 0, .int .i64 0, .int .i64 0, .int .i64 0, .int .i64 0, .int .i64 0, .int .i64 0, .int .i64 0, .int .i64 0, .int .i64 0, .int .i64 0, .int .i64 0, .int .i64 0, .int .i64 0] 33)).alloc (.cells #[.int .i64 0, .int .i64 0] 38)).alloc (.cells #[.int .i64 0, .int .i64 0] 38)) = W at h20q h21q h22q h23q h24q h25q h26q  ⊢
  generalize hsz : w.heap.size = n at h20q h21q h22q h23q h24q h25q h26q  ⊢
  have HSZ : Hid (w.heap.size = n) := hsz
  clear hsz
  have hsW : n + 5 ≤ W.heap.size := by have := h26q.out.lt; omega
  refine (RC.out _ h21q.out.isL).mono ?_
  rintro e u30q ⟨v2, rfl, hv2, hb⟩
  have h31q : Hid (Gd n w u30q) := h20q.out.later hb
  have h32q : Hid (Lf n (n + 5) u30q v xs) := h21q.out.later hb
  have h33q : Hid (Bo u30q n (tg 3 v t n0)) := h22q.out.later hb
  have h34q : Hid (Bo u30q (n + 1) [.int .i64 o, .int .i64 k, .int .i64 x]) := h23q.out.later hb
  have h35q : Hid (Bo u30q (n + 2) (tg 0 (.slice none 0 0) Tb.zero 0)) := h24q.out.later hb
  have h36q : Hid (Bo u30q (n + 3) [.int .i64 0, .int .i64 0]) := h25q.out.later hb
  have h37q : Hid (Bo u30q (n + 4) [.int .i64 0, .int .i64 0]) := h26q.out.later hb
  clear h20q h21q h22q h23q h24q h25q h26q
  clear hb
  have l38q : n ≤ u30q.heap.size := h31q.out.le
  have l39q : n < u30q.heap.size := h33q.out.lt
  have l40q : (n + 1) < u30q.heap.size := h34q.out.lt
  have l41q : (n + 2) < u30q.heap.size := h35q.out.lt
  have l42q : (n + 3) < u30q.heap.size := h36q.out.lt
  have l43q : (n + 4) < u30q.heap.size := h37q.out.lt
  have Q2 : Hid (Lf n (n + 5) u30q v2 ys) := Lf.of_made h32q.out hsW hv2
  clear h32q hv2
  obtain ⟨a2, c2, hv2⟩ := Q2.out.form
  generalize ys.length = l2 at hv2
  subst hv2
  have d1 := h33q.out.tcell.2.1
  have d2 := h33q.out.froz 1
  have h44q : Hid (Gd n w (u30q.setCell ⟨n, 1, none⟩ (.slice a2 l2 c2))) := h31q.out.aside (by simp; try omega) _
  have h45q : Hid (Lf n (n + 5) (u30q.setCell ⟨n, 1, none⟩ (.slice a2 l2 c2)) (.slice a2 l2 c2) ys) := Q2.out.aside (by simp; try omega) _
  have h46q : Hid (Bo (u30q.setCell ⟨n, 1, none⟩ (.slice a2 l2 c2)) n (tg 3 (.slice a2 l2 c2) t n0)) := h33q.out.set1 (j := 1) (x := (.slice a2 l2 c2)) (by rw [tg_length]; decide) (tg_list _ _ (.slice a2 l2 c2) _ _)
  have h47q : Hid (Bo (u30q.setCell ⟨n, 1, none⟩ (.slice a2 l2 c2)) (n + 1) [.int .i64 o, .int .i64 k, .int .i64 x]) := h34q.out.aside (by simp; try omega) _
  have h48q : Hid (Bo (u30q.setCell ⟨n, 1, none⟩ (.slice a2 l2 c2)) (n + 2) (tg 0 (.slice none 0 0) Tb.zero 0)) := h35q.out.aside (by simp; try omega) _
  have h49q : Hid (Bo (u30q.setCell ⟨n, 1, none⟩ (.slice a2 l2 c2)) (n + 3) [.int .i64 0, .int .i64 0]) := h36q.out.aside (by simp; try omega) _
  have h50q : Hid (Bo (u30q.setCell ⟨n, 1, none⟩ (.slice a2 l2 c2)) (n + 4) [.int .i64 0, .int .i64 0]) := h37q.out.aside (by simp; try omega) _
  clear h31q Q2 h33q h34q h35q h36q h37q
  go_wp2_with (first
    | (refine wpList_store_mid rfl 38 _ _ rfl (n + 4) _ #[.int .i64 (cc), .int .i64 (y)] rfl rfl h50q.out.there2 HA.out (two_one _ _) ?_
       have h51q : Hid (Gd n w ((u30q.setCell ⟨n, 1, none⟩ (.slice a2 l2 c2)).setCells (n + 4) 0 [.int .i64 (cc), .int .i64 (y)])) := h44q.out.asideL (by omega) 0 [.int .i64 (cc), .int .i64 (y)]
       have h52q : Hid (Lf n (n + 5) ((u30q.setCell ⟨n, 1, none⟩ (.slice a2 l2 c2)).setCells (n + 4) 0 [.int .i64 (cc), .int .i64 (y)]) (.slice a2 l2 c2) ys) := h45q.out.asideL (by omega) 0 [.int .i64 (cc), .int .i64 (y)]
       have h53q : Hid (Bo ((u30q.setCell ⟨n, 1, none⟩ (.slice a2 l2 c2)).setCells (n + 4) 0 [.int .i64 (cc), .int .i64 (y)]) n (tg 3 (.slice a2 l2 c2) t n0)) := h46q.out.asideL (by omega) 0 [.int .i64 (cc), .int .i64 (y)]
       have h54q : Hid (Bo ((u30q.setCell ⟨n, 1, none⟩ (.slice a2 l2 c2)).setCells (n + 4) 0 [.int .i64 (cc), .int .i64 (y)]) (n + 1) [.int .i64 o, .int .i64 k, .int .i64 x]) := h47q.out.asideL (by omega) 0 [.int .i64 (cc), .int .i64 (y)]
       have h55q : Hid (Bo ((u30q.setCell ⟨n, 1, none⟩ (.slice a2 l2 c2)).setCells (n + 4) 0 [.int .i64 (cc), .int .i64 (y)]) (n + 2) (tg 0 (.slice none 0 0) Tb.zero 0)) := h48q.out.asideL (by omega) 0 [.int .i64 (cc), .int .i64 (y)]
       have h56q : Hid (Bo ((u30q.setCell ⟨n, 1, none⟩ (.slice a2 l2 c2)).setCells (n + 4) 0 [.int .i64 (cc), .int .i64 (y)]) (n + 3) [.int .i64 0, .int .i64 0]) := h49q.out.asideL (by omega) 0 [.int .i64 (cc), .int .i64 (y)]
       have h57q : Hid (Bo ((u30q.setCell ⟨n, 1, none⟩ (.slice a2 l2 c2)).setCells (n + 4) 0 [.int .i64 (cc), .int .i64 (y)]) (n + 4) [.int .i64 (cc), .int .i64 (y)]) := h50q.out.set2 (.int .i64 (cc)) (.int .i64 (y))
       clear h44q h45q h46q h47q h48q h49q h50q
       generalize ((u30q.setCell ⟨n, 1, none⟩ (.slice a2 l2 c2)).setCells (n + 4) 0 [.int .i64 (cc), .int .i64 (y)]) = u58q at h51q h52q h53q h54q h55q h56q h57q  ⊢))
  have l59q : n ≤ u58q.heap.size := h51q.out.le
  have l60q : n < u58q.heap.size := h53q.out.lt
  have l61q : (n + 1) < u58q.heap.size := h54q.out.lt
  have l62q : (n + 2) < u58q.heap.size := h55q.out.lt
  have l63q : (n + 3) < u58q.heap.size := h56q.out.lt
  have l64q : (n + 4) < u58q.heap.size := h57q.out.lt
  have h65q : Hid (Gd n w u58q.drew) := h51q.out.drew
  have h66q : Hid (Lf n (n + 5) u58q.drew (.slice a2 l2 c2) ys) := h52q.out.drew
  have h67q : Hid (Bo u58q.drew n (tg 3 (.slice a2 l2 c2) t n0)) := h53q.out.drew
  have h68q : Hid (Bo u58q.drew (n + 1) [.int .i64 o, .int .i64 k, .int .i64 x]) := h54q.out.drew
  have h69q : Hid (Bo u58q.drew (n + 2) (tg 0 (.slice none 0 0) Tb.zero 0)) := h55q.out.drew
  have h70q : Hid (Bo u58q.drew (n + 3) [.int .i64 0, .int .i64 0]) := h56q.out.drew
  have h71q : Hid (Bo u58q.drew (n + 4) [.int .i64 (cc), .int .i64 (y)]) := h57q.out.drew
  clear h51q h52q h53q h54q h55q h56q h57q
  refine wp_region_held_drew (S := fun w' => Bo w' n (tg 3 (.slice a2 l2 c2) t n0) ∧ Bo w' (n + 4) [.int .i64 (cc), .int .i64 (y)]) (by kernel_rfl) ⟨h67q.out, h71q.out⟩ (fun hH => ?_)
  generalize u58q.drew = u72q at h65q h66q h67q h68q h69q h70q h71q hH ⊢
  refine wpAnyH_take (i := 0) (oi := { dst := some 67, op := .load _ (.tmp 2), type := _, pos := _, after := _, guard := _ }) (v := _) rfl (by kernel_rfl) (by kernel_rfl) (by kernel_rfl) (fun _ _ _ h => h) (yieldsIf_load_mid (by rfl) _ _ rfl n _ rfl (tg 3 (.slice a2 l2 c2) t n0) _ (fun _ h => (h.1).range) HTD.out rfl (HTS.out _ _ _ _)) hH ?_
  simp only [Act.put, List.setIfInBounds_toArray, List.set_cons_zero, List.set_cons_succ]
  refine wpAnyH_take (i := 1) (oi := { dst := some 68, op := .load _ (.tmp 6), type := _, pos := _, after := _, guard := _ }) (v := ?_) rfl (by kernel_rfl) (by kernel_rfl) (by kernel_rfl) (fun _ _ _ h => h) (Or.inl ⟨by rfl, ?_⟩) hH ?_
  rotate_left
  · intro w hSw
    have c73q := (hSw.2).at 0 rfl
    have c74q := (hSw.2).at 1 rfl
    clear hSw
    go_simp
    try with_reducible rfl
  simp only [Act.put, List.setIfInBounds_toArray, List.set_cons_zero, List.set_cons_succ]
  refine wpAnyH_ready (rs := [2]) (by kernel_rfl) (by simp) ?_
  refine AllReadyH.cons (o := { dst := none, op := .store _ (.tmp 4) (.tmp 67), type := _, pos := _, after := _, guard := _ }) rfl (fun K hK => ?_) AllReadyH.nil
  rw [if_pos (by rfl)]
  refine wp_store_mid _ _ _ rfl (n + 2) _ (tg 3 (.slice a2 l2 c2) t n0).toArray rfl rfl (h69q.out.thereT 3 (.slice a2 l2 c2) t n0) (HTZ.out _ _ _ _) (tg_all _ rfl _ _) ?_
  simp only [Act.put]
  have h75q : Hid (Gd n w (u72q.setCells (n + 2) 0 (tg 3 (.slice a2 l2 c2) t n0))) := h65q.out.asideL (by omega) 0 (tg 3 (.slice a2 l2 c2) t n0)
  have h76q : Hid (Lf n (n + 5) (u72q.setCells (n + 2) 0 (tg 3 (.slice a2 l2 c2) t n0)) (.slice a2 l2 c2) ys) := h66q.out.asideL (by omega) 0 (tg 3 (.slice a2 l2 c2) t n0)
  have h77q : Hid (Bo (u72q.setCells (n + 2) 0 (tg 3 (.slice a2 l2 c2) t n0)) n (tg 3 (.slice a2 l2 c2) t n0)) := h67q.out.asideL (by omega) 0 (tg 3 (.slice a2 l2 c2) t n0)
  have h78q : Hid (Bo (u72q.setCells (n + 2) 0 (tg 3 (.slice a2 l2 c2) t n0)) (n + 1) [.int .i64 o, .int .i64 k, .int .i64 x]) := h68q.out.asideL (by omega) 0 (tg 3 (.slice a2 l2 c2) t n0)
  have h79q : Hid (Bo (u72q.setCells (n + 2) 0 (tg 3 (.slice a2 l2 c2) t n0)) (n + 2) (tg 3 (.slice a2 l2 c2) t n0)) := h69q.out.setT 3 (.slice a2 l2 c2) t n0
  have h80q : Hid (Bo (u72q.setCells (n + 2) 0 (tg 3 (.slice a2 l2 c2) t n0)) (n + 3) [.int .i64 0, .int .i64 0]) := h70q.out.asideL (by omega) 0 (tg 3 (.slice a2 l2 c2) t n0)
  have h81q : Hid (Bo (u72q.setCells (n + 2) 0 (tg 3 (.slice a2 l2 c2) t n0)) (n + 4) [.int .i64 (cc), .int .i64 (y)]) := h71q.out.asideL (by omega) 0 (tg 3 (.slice a2 l2 c2) t n0)
  clear h65q h66q h67q h68q h69q h70q h71q
  refine hK.out _ _ ⟨h77q.out, h81q.out⟩ (fun hH => ?_)
  clear hK K
  generalize (u72q.setCells (n + 2) 0 (tg 3 (.slice a2 l2 c2) t n0)) = u82q at h75q h76q h77q h78q h79q h80q h81q hH ⊢
  try simp only [Act.put, List.setIfInBounds_toArray, List.set_cons_zero, List.set_cons_succ]
  refine wpAnyH_ready (rs := [3]) (by kernel_rfl) (by simp) ?_
  refine AllReadyH.cons (o := { dst := none, op := .store _ (.tmp 5) (.tmp 68), type := _, pos := _, after := _, guard := _ }) rfl (fun K hK => ?_) AllReadyH.nil
  rw [if_pos (by rfl)]
  refine wp_store_mid _ _ _ rfl (n + 3) _ #[.int .i64 (cc), .int .i64 (y)] rfl rfl h80q.out.there2 HA.out (two_one _ _) ?_
  simp only [Act.put]
  have h83q : Hid (Gd n w (u82q.setCells (n + 3) 0 [.int .i64 (cc), .int .i64 (y)])) := h75q.out.asideL (by omega) 0 [.int .i64 (cc), .int .i64 (y)]
  have h84q : Hid (Lf n (n + 5) (u82q.setCells (n + 3) 0 [.int .i64 (cc), .int .i64 (y)]) (.slice a2 l2 c2) ys) := h76q.out.asideL (by omega) 0 [.int .i64 (cc), .int .i64 (y)]
  have h85q : Hid (Bo (u82q.setCells (n + 3) 0 [.int .i64 (cc), .int .i64 (y)]) n (tg 3 (.slice a2 l2 c2) t n0)) := h77q.out.asideL (by omega) 0 [.int .i64 (cc), .int .i64 (y)]
  have h86q : Hid (Bo (u82q.setCells (n + 3) 0 [.int .i64 (cc), .int .i64 (y)]) (n + 1) [.int .i64 o, .int .i64 k, .int .i64 x]) := h78q.out.asideL (by omega) 0 [.int .i64 (cc), .int .i64 (y)]
  have h87q : Hid (Bo (u82q.setCells (n + 3) 0 [.int .i64 (cc), .int .i64 (y)]) (n + 2) (tg 3 (.slice a2 l2 c2) t n0)) := h79q.out.asideL (by omega) 0 [.int .i64 (cc), .int .i64 (y)]
  have h88q : Hid (Bo (u82q.setCells (n + 3) 0 [.int .i64 (cc), .int .i64 (y)]) (n + 3) [.int .i64 (cc), .int .i64 (y)]) := h80q.out.set2 (.int .i64 (cc)) (.int .i64 (y))
  have h89q : Hid (Bo (u82q.setCells (n + 3) 0 [.int .i64 (cc), .int .i64 (y)]) (n + 4) [.int .i64 (cc), .int .i64 (y)]) := h81q.out.asideL (by omega) 0 [.int .i64 (cc), .int .i64 (y)]
  clear h75q h76q h77q h78q h79q h80q h81q
  refine hK.out _ _ ⟨h85q.out, h89q.out⟩ (fun hH => ?_)
  clear hK K
  generalize (u82q.setCells (n + 3) 0 [.int .i64 (cc), .int .i64 (y)]) = u90q at h83q h84q h85q h86q h87q h88q h89q hH ⊢
  try simp only [Act.put, List.setIfInBounds_toArray, List.set_cons_zero, List.set_cons_succ]
  refine wpAnyH_done (by kernel_rfl) ?_ _
  go_wp2
  exact bodyPost_ret (results_row2 Tryd.results9 _ _ (n + 2) (n + 3) (tg 3 (.slice a2 l2 c2) t n0) [.int .i64 (cc), .int .i64 (y)] _ _ rfl rfl h87q.out.range HTD.out rfl (HTS.out _ _ _ _) h88q.out.range HDA.out rfl HA.out) rfl ⟨_, rfl, h84q.out.isL, h83q.out.2⟩
end Go.Proofs.YtbmgjpdfmgcigabDoor.Tab
