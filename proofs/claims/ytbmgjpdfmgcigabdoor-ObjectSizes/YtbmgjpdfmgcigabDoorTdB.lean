/- The reference's Thing.Do, by its contract: of a table. -/
import Derived.Test.YtbmgjpdfmgcigabDoorLf
import Derived.Test.YtbmgjpdfmgcigabDoorRf4
namespace Go.Proofs.YtbmgjpdfmgcigabDoor.Tab
set_option maxRecDepth 20000
open Go.RowKit
set_option linter.unusedVariables false

set_option maxHeartbeats 4000000 in
theorem TDo_5 {v : Value} (hv : v.oneCell' = true) {t u : Tb} {o k x cc y : Int} (n0 : Int) {w : World} (hr : RT t) (hq : tdo t o k x = (u, cc, y)) :
    Calls Tryd.prog 9 #[.agg (tg 5 v t n0).toArray, .agg #[.int .i64 o, .int .i64 k, .int .i64 x]] w fun e w' => e = .returned (.tuple #[.agg (tg 5 v u n0).toArray, .agg #[.int .i64 cc, .int .i64 y]]) ∧ Below w.heap.size w w' := by
  have HA : Hid ((Tryd.prog.info? 38).map (·.size) = some 2) := answer_size
  obtain ⟨fa, ha⟩ := answer_struct
  have HDA : Hid _ := ha
  clear ha
  obtain ⟨fs, hd⟩ := thing_struct
  have HTD : Hid _ := hd
  clear hd
  have HTS : Hid _ := thing_size
  have HTZ : Hid _ := thing_size2
  obtain ⟨na, ea, hd⟩ := rslots_array
  have HD : Hid _ := hd
  clear hd
  have HS : Hid (∀ t : Tb, (Tryd.prog.info? 31).map (·.size) = some t.all.length) := rslots_size
  have HZ : Hid (∀ t : Tb, (Tryd.prog.info? 31).map (·.size) = some t.all.toArray.size) := rslots_size2
  have HV : Hid _ := hv
  have RC : Hid (∀ W, Calls Tryd.prog 25 #[.agg t.all.toArray, .agg #[.int .i64 o, .int .i64 k, .int .i64 x]] W fun e w' => e = .returned (.tuple #[.agg u.all.toArray, .agg #[.int .i64 cc, .int .i64 y]]) ∧ Below W.heap.size W w') := fun W => by have := RTable_eq hr o k x W; rw [hq] at this; exact this
  have g0 : Hid (Gd w.heap.size w w) := Gd.refl w
  clear hr hq hv
  have h1q : Hid (Gd w.heap.size w (w.alloc (.cells (tg 5 v t n0).toArray 33))) := g0.out.new (.cells (tg 5 v t n0).toArray 33)
  clear g0
  have h2q : Hid (Bo (w.alloc (.cells (tg 5 v t n0).toArray 33)) w.heap.size (tg 5 v t n0)) := Bo.born w (tg 5 v t n0) 33 (by simp)
  have h3q : Hid (Gd w.heap.size w ((w.alloc (.cells (tg 5 v t n0).toArray 33)).alloc (.cells #[.int .i64 o, .int .i64 k, .int .i64 x] 26))) := h1q.out.new (.cells #[.int .i64 o, .int .i64 k, .int .i64 x] 26)
  have h4q : Hid (Bo ((w.alloc (.cells (tg 5 v t n0).toArray 33)).alloc (.cells #[.int .i64 o, .int .i64 k, .int .i64 x] 26)) w.heap.size (tg 5 v t n0)) := h2q.out.new (.cells #[.int .i64 o, .int .i64 k, .int .i64 x] 26)
  clear h1q h2q
  have h5q : Hid (Bo ((w.alloc (.cells (tg 5 v t n0).toArray 33)).alloc (.cells #[.int .i64 o, .int .i64 k, .int .i64 x] 26)) (w.heap.size + 1) [.int .i64 o, .int .i64 k, .int .i64 x]) := Bo.born (w.alloc (.cells (tg 5 v t n0).toArray 33)) [.int .i64 o, .int .i64 k, .int .i64 x] 26 (by simp)
  have h6q : Hid (Gd w.heap.size w (((w.alloc (.cells (tg 5 v t n0).toArray 33)).alloc (.cells #[.int .i64 o, .int .i64 k, .int .i64 x] 26)).alloc (.cells #[.int .i64 0, .slice none 0 0, .int .i64 0, .int .i64 0, .int .i64 0, .int .i64 0, .int .i64 0, .int .i64 0, .int .i64 0, .int .i64 0, .int .i64 0, .int .i64 0, .int .i64 0, .int .i64 0, .int .i64 0, .int .i64 0, .int .i64 0, .int .i64 0, .int .i64 0] 33))) := h3q.out.new (.cells #[.int .i64 0, .slice none 0 0, .int .i64 0, .int .i64 0, .int .i64 0, .int .i64 0, .int .i64 0, .int .i64 0, .int .i64 0, .int .i64 0, .int .i64 0, .int .i64 0, .int .i64 0, .int .i64 0, .int .i64 0, .int .i64 0, .int .i64 0, .int .i64 0, .int .i64 0] 33)
  have h7q : Hid (Bo (((w.alloc (.cells (tg 5 v t n0).toArray 33)).alloc (.cells #[.int .i64 o, .int .i64 k, .int .i64 x] 26)).alloc (.cells #[.int .i64 0, .slice none 0 0, .int .i64 0, .int .i64 0, .int .i64 0, .int .i64 0, .int .i64 0, .int .i64 0, .int .i64 0, .int .i64 0, .int .i64 0, .int .i64 0, .int .i64 0, .int .i64 0, .int .i64 0, .int .i64 0, .int .i64 0, .int .i64 0, .int .i64 0] 33)) w.heap.size (tg 5 v t n0)) := h4q.out.new (.cells #[.int .i64 0, .slice none 0 0, .int .i64 0, .int .i64 0, .int .i64 0, .int .i64 0, .int .i64 0, .int .i64 0, .int .i64 0, .int .i64 0, .int .i64 0, .int .i64 0, .int .i64 0, .int .i64 0, .int .i64 0, .int .i64 0, .int .i64 0, .int .i64 0, .int .i64 0] 33)
  have h8q : Hid (Bo (((w.alloc (.cells (tg 5 v t n0).toArray 33)).alloc (.cells #[.int .i64 o, .int .i64 k, .int .i64 x] 26)).alloc (.cells #[.int .i64 0, .slice none 0 0, .int .i64 0, .int .i64 0, .int .i64 0, .int .i64 0, .int .i64 0, .int .i64 0, .int .i64 0, .int .i64 0, .int .i64 0, .int .i64 0, .int .i64 0, .int .i64 0, .int .i64 0, .int .i64 0, .int .i64 0, .int .i64 0, .int .i64 0] 33)) (w.heap.size + 1) [.int .i64 o, .int .i64 k, .int .i64 x]) := h5q.out.new (.cells #[.int .i64 0, .slice none 0 0, .int .i64 0, .int .i64 0, .int .i64 0, .int .i64 0, .int .i64 0, .int .i64 0, .int .i64 0, .int .i64 0, .int .i64 0, .int .i64 0, .int .i64 0, .int .i64 0, .int .i64 0, .int .i64 0, .int .i64 0, .int .i64 0, .int .i64 0] 33)
  clear h3q h4q h5q
  have h9q : Hid (Bo (((w.alloc (.cells (tg 5 v t n0).toArray 33)).alloc (.cells #[.int .i64 o, .int .i64 k, .int .i64 x] 26)).alloc (.cells #[.int .i64 0, .slice none 0 0, .int .i64 0, .int .i64 0, .int .i64 0, .int .i64 0, .int .i64 0, .int .i64 0, .int .i64 0, .int .i64 0, .int .i64 0, .int .i64 0, .int .i64 0, .int .i64 0, .int .i64 0, .int .i64 0, .int .i64 0, .int .i64 0, .int .i64 0] 33)) (w.heap.size + 2) (tg 0 (.slice none 0 0) Tb.zero 0)) := Bo.bornTh ((w.alloc (.cells (tg 5 v t n0).toArray 33)).alloc (.cells #[.int .i64 o, .int .i64 k, .int .i64 x] 26)) 0 33 (by simp)
  have h10q : Hid (Gd w.heap.size w ((((w.alloc (.cells (tg 5 v t n0).toArray 33)).alloc (.cells #[.int .i64 o, .int .i64 k, .int .i64 x] 26)).alloc (.cells #[.int .i64 0, .slice none 0 0, .int .i64 0, .int .i64 0, .int .i64 0, .int .i64 0, .int .i64 0, .int .i64 0, .int .i64 0, .int .i64 0, .int .i64 0, .int .i64 0, .int .i64 0, .int .i64 0, .int .i64 0, .int .i64 0, .int .i64 0, .int .i64 0, .int .i64 0] 33)).alloc (.cells #[.int .i64 0, .int .i64 0] 38))) := h6q.out.new (.cells #[.int .i64 0, .int .i64 0] 38)
  have h11q : Hid (Bo ((((w.alloc (.cells (tg 5 v t n0).toArray 33)).alloc (.cells #[.int .i64 o, .int .i64 k, .int .i64 x] 26)).alloc (.cells #[.int .i64 0, .slice none 0 0, .int .i64 0, .int .i64 0, .int .i64 0, .int .i64 0, .int .i64 0, .int .i64 0, .int .i64 0, .int .i64 0, .int .i64 0, .int .i64 0, .int .i64 0, .int .i64 0, .int .i64 0, .int .i64 0, .int .i64 0, .int .i64 0, .int .i64 0] 33)).alloc (.cells #[.int .i64 0, .int .i64 0] 38)) w.heap.size (tg 5 v t n0)) := h7q.out.new (.cells #[.int .i64 0, .int .i64 0] 38)
  have h12q : Hid (Bo ((((w.alloc (.cells (tg 5 v t n0).toArray 33)).alloc (.cells #[.int .i64 o, .int .i64 k, .int .i64 x] 26)).alloc (.cells #[.int .i64 0, .slice none 0 0, .int .i64 0, .int .i64 0, .int .i64 0, .int .i64 0, .int .i64 0, .int .i64 0, .int .i64 0, .int .i64 0, .int .i64 0, .int .i64 0, .int .i64 0, .int .i64 0, .int .i64 0, .int .i64 0, .int .i64 0, .int .i64 0, .int .i64 0] 33)).alloc (.cells #[.int .i64 0, .int .i64 0] 38)) (w.heap.size + 1) [.int .i64 o, .int .i64 k, .int .i64 x]) := h8q.out.new (.cells #[.int .i64 0, .int .i64 0] 38)
  have h13q : Hid (Bo ((((w.alloc (.cells (tg 5 v t n0).toArray 33)).alloc (.cells #[.int .i64 o, .int .i64 k, .int .i64 x] 26)).alloc (.cells #[.int .i64 0, .slice none 0 0, .int .i64 0, .int .i64 0, .int .i64 0, .int .i64 0, .int .i64 0, .int .i64 0, .int .i64 0, .int .i64 0, .int .i64 0, .int .i64 0, .int .i64 0, .int .i64 0, .int .i64 0, .int .i64 0, .int .i64 0, .int .i64 0, .int .i64 0] 33)).alloc (.cells #[.int .i64 0, .int .i64 0] 38)) (w.heap.size + 2) (tg 0 (.slice none 0 0) Tb.zero 0)) := h9q.out.new (.cells #[.int .i64 0, .int .i64 0] 38)
  clear h6q h7q h8q h9q
  have h14q : Hid (Bo ((((w.alloc (.cells (tg 5 v t n0).toArray 33)).alloc (.cells #[.int .i64 o, .int .i64 k, .int .i64 x] 26)).alloc (.cells #[.int .i64 0, .slice none 0 0, .int .i64 0, .int .i64 0, .int .i64 0, .int .i64 0, .int .i64 0, .int .i64 0, .int .i64 0, .int .i64 0, .int .i64 0, .int .i64 0, .int .i64 0, .int .i64 0, .int .i64 0, .int .i64 0, .int .i64 0, .int .i64 0, .int .i64 0] 33)).alloc (.cells #[.int .i64 0, .int .i64 0] 38)) (w.heap.size + 3) [.int .i64 0, .int .i64 0]) := Bo.born (((w.alloc (.cells (tg 5 v t n0).toArray 33)).alloc (.cells #[.int .i64 o, .int .i64 k, .int .i64 x] 26)).alloc (.cells #[.int .i64 0, .slice none 0 0, .int .i64 0, .int .i64 0, .int .i64 0, .int .i64 0, .int .i64 0, .int .i64 0, .int .i64 0, .int .i64 0, .int .i64 0, .int .i64 0, .int .i64 0, .int .i64 0, .int .i64 0, .int .i64 0, .int .i64 0, .int .i64 0, .int .i64 0] 33)) [.int .i64 0, .int .i64 0] 38 (by simp)
  have h15q : Hid (Gd w.heap.size w (((((w.alloc (.cells (tg 5 v t n0).toArray 33)).alloc (.cells #[.int .i64 o, .int .i64 k, .int .i64 x] 26)).alloc (.cells #[.int .i64 0, .slice none 0 0, .int .i64 0, .int .i64 0, .int .i64 0, .int .i64 0, .int .i64 0, .int .i64 0, .int .i64 0, .int .i64 0, .int .i64 0, .int .i64 0, .int .i64 0, .int .i64 0, .int .i64 0, .int .i64 0, .int .i64 0, .int .i64 0, .int .i64 0] 33)).alloc (.cells #[.int .i64 0, .int .i64 0] 38)).alloc (.cells #[.int .i64 0, .int .i64 0] 38))) := h10q.out.new (.cells #[.int .i64 0, .int .i64 0] 38)
  have h16q : Hid (Bo (((((w.alloc (.cells (tg 5 v t n0).toArray 33)).alloc (.cells #[.int .i64 o, .int .i64 k, .int .i64 x] 26)).alloc (.cells #[.int .i64 0, .slice none 0 0, .int .i64 0, .int .i64 0, .int .i64 0, .int .i64 0, .int .i64 0, .int .i64 0, .int .i64 0, .int .i64 0, .int .i64 0, .int .i64 0, .int .i64 0, .int .i64 0, .int .i64 0, .int .i64 0, .int .i64 0, .int .i64 0, .int .i64 0] 33)).alloc (.cells #[.int .i64 0, .int .i64 0] 38)).alloc (.cells #[.int .i64 0, .int .i64 0] 38)) w.heap.size (tg 5 v t n0)) := h11q.out.new (.cells #[.int .i64 0, .int .i64 0] 38)
  have h17q : Hid (Bo (((((w.alloc (.cells (tg 5 v t n0).toArray 33)).alloc (.cells #[.int .i64 o, .int .i64 k, .int .i64 x] 26)).alloc (.cells #[.int .i64 0, .slice none 0 0, .int .i64 0, .int .i64 0, .int .i64 0, .int .i64 0, .int .i64 0, .int .i64 0, .int .i64 0, .int .i64 0, .int .i64 0, .int .i64 0, .int .i64 0, .int .i64 0, .int .i64 0, .int .i64 0, .int .i64 0, .int .i64 0, .int .i64 0] 33)).alloc (.cells #[.int .i64 0, .int .i64 0] 38)).alloc (.cells #[.int .i64 0, .int .i64 0] 38)) (w.heap.size + 1) [.int .i64 o, .int .i64 k, .int .i64 x]) := h12q.out.new (.cells #[.int .i64 0, .int .i64 0] 38)
  have h18q : Hid (Bo (((((w.alloc (.cells (tg 5 v t n0).toArray 33)).alloc (.cells #[.int .i64 o, .int .i64 k, .int .i64 x] 26)).alloc (.cells #[.int .i64 0, .slice none 0 0, .int .i64 0, .int .i64 0, .int .i64 0, .int .i64 0, .int .i64 0, .int .i64 0, .int .i64 0, .int .i64 0, .int .i64 0, .int .i64 0, .int .i64 0, .int .i64 0, .int .i64 0, .int .i64 0, .int .i64 0, .int .i64 0, .int .i64 0] 33)).alloc (.cells #[.int .i64 0, .int .i64 0] 38)).alloc (.cells #[.int .i64 0, .int .i64 0] 38)) (w.heap.size + 2) (tg 0 (.slice none 0 0) Tb.zero 0)) := h13q.out.new (.cells #[.int .i64 0, .int .i64 0] 38)
  have h19q : Hid (Bo (((((w.alloc (.cells (tg 5 v t n0).toArray 33)).alloc (.cells #[.int .i64 o, .int .i64 k, .int .i64 x] 26)).alloc (.cells #[.int .i64 0, .slice none 0 0, .int .i64 0, .int .i64 0, .int .i64 0, .int .i64 0, .int .i64 0, .int .i64 0, .int .i64 0, .int .i64 0, .int .i64 0, .int .i64 0, .int .i64 0, .int .i64 0, .int .i64 0, .int .i64 0, .int .i64 0, .int .i64 0, .int .i64 0] 33)).alloc (.cells #[.int .i64 0, .int .i64 0] 38)).alloc (.cells #[.int .i64 0, .int .i64 0] 38)) (w.heap.size + 3) [.int .i64 0, .int .i64 0]) := h14q.out.new (.cells #[.int .i64 0, .int .i64 0] 38)
  clear h10q h11q h12q h13q h14q
  have h20q : Hid (Bo (((((w.alloc (.cells (tg 5 v t n0).toArray 33)).alloc (.cells #[.int .i64 o, .int .i64 k, .int .i64 x] 26)).alloc (.cells #[.int .i64 0, .slice none 0 0, .int .i64 0, .int .i64 0, .int .i64 0, .int .i64 0, .int .i64 0, .int .i64 0, .int .i64 0, .int .i64 0, .int .i64 0, .int .i64 0, .int .i64 0, .int .i64 0, .int .i64 0, .int .i64 0, .int .i64 0, .int .i64 0, .int .i64 0] 33)).alloc (.cells #[.int .i64 0, .int .i64 0] 38)).alloc (.cells #[.int .i64 0, .int .i64 0] 38)) (w.heap.size + 4) [.int .i64 0, .int .i64 0]) := Bo.born ((((w.alloc (.cells (tg 5 v t n0).toArray 33)).alloc (.cells #[.int .i64 o, .int .i64 k, .int .i64 x] 26)).alloc (.cells #[.int .i64 0, .slice none 0 0, .int .i64 0, .int .i64 0, .int .i64 0, .int .i64 0, .int .i64 0, .int .i64 0, .int .i64 0, .int .i64 0, .int .i64 0, .int .i64 0, .int .i64 0, .int .i64 0, .int .i64 0, .int .i64 0, .int .i64 0, .int .i64 0, .int .i64 0] 33)).alloc (.cells #[.int .i64 0, .int .i64 0] 38)) [.int .i64 0, .int .i64 0] 38 (by simp)
  have c1 := h16q.out.tcell.1
  have RG : Hid _ := h16q.out.slots
  have c21q := h17q.out.at 0 rfl
  have c22q := h17q.out.at 1 rfl
  have c23q := h17q.out.at 2 rfl
  go_enter Tryd.func9, Tryd.ntmps9
  go_wp2_with (refine wpList_load_mid rfl 31 _ rfl w.heap.size _ rfl t.all _ RG.out HD.out rfl (HS.out t) ?_)
  clear c1 RG
  generalize (((((w.alloc (.cells (tg 5 v t n0).toArray 33)).alloc (.cells #[.int .i64 o, .int .i64 k, .int .i64 x] 26)).alloc (.cells #[.int .i64 0, .slice none 0 0, .int .i64 0, .int .i64 0, .int .i64 0, .int .i64 0, .int .i64 0, .int .i64 0, .int .i64 0, .int .i64 0, .int .i64 0, .int .i64 0, .int .i64 0, .int .i64 0, .int .i64 0, .int .i64 0, .int .i64 0, .int .i64 0, .int .i64 0] 33)).alloc (.cells #[.int .i64 0, .int .i64 0] 38)).alloc (.cells #[.int .i64 0, .int .i64 0] 38)) = W at h15q h16q h17q h18q h19q h20q  ⊢
  generalize hsz : w.heap.size = n at h15q h16q h17q h18q h19q h20q  ⊢
  have HSZ : Hid (w.heap.size = n) := hsz
  clear hsz
  refine (RC.out _).mono ?_
  rintro e u24q ⟨rfl, hb⟩
  have h25q : Hid (Gd n w u24q) := h15q.out.later hb
  have h26q : Hid (Bo u24q n (tg 5 v t n0)) := h16q.out.later hb
  have h27q : Hid (Bo u24q (n + 1) [.int .i64 o, .int .i64 k, .int .i64 x]) := h17q.out.later hb
  have h28q : Hid (Bo u24q (n + 2) (tg 0 (.slice none 0 0) Tb.zero 0)) := h18q.out.later hb
  have h29q : Hid (Bo u24q (n + 3) [.int .i64 0, .int .i64 0]) := h19q.out.later hb
  have h30q : Hid (Bo u24q (n + 4) [.int .i64 0, .int .i64 0]) := h20q.out.later hb
  clear h15q h16q h17q h18q h19q h20q
  clear hb
  have l31q : n ≤ u24q.heap.size := h25q.out.le
  have l32q : n < u24q.heap.size := h26q.out.lt
  have l33q : (n + 1) < u24q.heap.size := h27q.out.lt
  have l34q : (n + 2) < u24q.heap.size := h28q.out.lt
  have l35q : (n + 3) < u24q.heap.size := h29q.out.lt
  have l36q : (n + 4) < u24q.heap.size := h30q.out.lt
  go_wp2_with (first
    | (refine wpList_store_mid rfl 31 _ _ rfl n _ u.all.toArray rfl rfl (h26q.out.thereTab u) (HZ.out u) (u.all_all) ?_
       have h37q : Hid (Gd n w (u24q.setCells n 2 u.all)) := h25q.out.asideL (by omega) 2 u.all
       have h38q : Hid (Bo (u24q.setCells n 2 u.all) n (tg 5 v u n0)) := h26q.out.setTab u
       have h39q : Hid (Bo (u24q.setCells n 2 u.all) (n + 1) [.int .i64 o, .int .i64 k, .int .i64 x]) := h27q.out.asideL (by omega) 2 u.all
       have h40q : Hid (Bo (u24q.setCells n 2 u.all) (n + 2) (tg 0 (.slice none 0 0) Tb.zero 0)) := h28q.out.asideL (by omega) 2 u.all
       have h41q : Hid (Bo (u24q.setCells n 2 u.all) (n + 3) [.int .i64 0, .int .i64 0]) := h29q.out.asideL (by omega) 2 u.all
       have h42q : Hid (Bo (u24q.setCells n 2 u.all) (n + 4) [.int .i64 0, .int .i64 0]) := h30q.out.asideL (by omega) 2 u.all
       clear h25q h26q h27q h28q h29q h30q
       generalize (u24q.setCells n 2 u.all) = u43q at h37q h38q h39q h40q h41q h42q  ⊢)
    | (refine wpList_store_mid rfl 38 _ _ rfl (n + 4) _ #[.int .i64 (cc), .int .i64 (y)] rfl rfl h42q.out.there2 HA.out (two_one _ _) ?_
       have h44q : Hid (Gd n w (u43q.setCells (n + 4) 0 [.int .i64 (cc), .int .i64 (y)])) := h37q.out.asideL (by omega) 0 [.int .i64 (cc), .int .i64 (y)]
       have h45q : Hid (Bo (u43q.setCells (n + 4) 0 [.int .i64 (cc), .int .i64 (y)]) n (tg 5 v u n0)) := h38q.out.asideL (by omega) 0 [.int .i64 (cc), .int .i64 (y)]
       have h46q : Hid (Bo (u43q.setCells (n + 4) 0 [.int .i64 (cc), .int .i64 (y)]) (n + 1) [.int .i64 o, .int .i64 k, .int .i64 x]) := h39q.out.asideL (by omega) 0 [.int .i64 (cc), .int .i64 (y)]
       have h47q : Hid (Bo (u43q.setCells (n + 4) 0 [.int .i64 (cc), .int .i64 (y)]) (n + 2) (tg 0 (.slice none 0 0) Tb.zero 0)) := h40q.out.asideL (by omega) 0 [.int .i64 (cc), .int .i64 (y)]
       have h48q : Hid (Bo (u43q.setCells (n + 4) 0 [.int .i64 (cc), .int .i64 (y)]) (n + 3) [.int .i64 0, .int .i64 0]) := h41q.out.asideL (by omega) 0 [.int .i64 (cc), .int .i64 (y)]
       have h49q : Hid (Bo (u43q.setCells (n + 4) 0 [.int .i64 (cc), .int .i64 (y)]) (n + 4) [.int .i64 (cc), .int .i64 (y)]) := h42q.out.set2 (.int .i64 (cc)) (.int .i64 (y))
       clear h37q h38q h39q h40q h41q h42q
       generalize (u43q.setCells (n + 4) 0 [.int .i64 (cc), .int .i64 (y)]) = u50q at h44q h45q h46q h47q h48q h49q  ⊢))
  have l51q : n ≤ u50q.heap.size := h44q.out.le
  have l52q : n < u50q.heap.size := h45q.out.lt
  have l53q : (n + 1) < u50q.heap.size := h46q.out.lt
  have l54q : (n + 2) < u50q.heap.size := h47q.out.lt
  have l55q : (n + 3) < u50q.heap.size := h48q.out.lt
  have l56q : (n + 4) < u50q.heap.size := h49q.out.lt
  have h57q : Hid (Gd n w u50q.drew) := h44q.out.drew
  have h58q : Hid (Bo u50q.drew n (tg 5 v u n0)) := h45q.out.drew
  have h59q : Hid (Bo u50q.drew (n + 1) [.int .i64 o, .int .i64 k, .int .i64 x]) := h46q.out.drew
  have h60q : Hid (Bo u50q.drew (n + 2) (tg 0 (.slice none 0 0) Tb.zero 0)) := h47q.out.drew
  have h61q : Hid (Bo u50q.drew (n + 3) [.int .i64 0, .int .i64 0]) := h48q.out.drew
  have h62q : Hid (Bo u50q.drew (n + 4) [.int .i64 (cc), .int .i64 (y)]) := h49q.out.drew
  clear h44q h45q h46q h47q h48q h49q
  refine wp_region_held_drew (S := fun w' => Bo w' n (tg 5 v u n0) ∧ Bo w' (n + 4) [.int .i64 (cc), .int .i64 (y)]) (by kernel_rfl) ⟨h58q.out, h62q.out⟩ (fun hH => ?_)
  generalize u50q.drew = u63q at h57q h58q h59q h60q h61q h62q hH ⊢
  refine wpAnyH_take (i := 0) (oi := { dst := some 67, op := .load _ (.tmp 2), type := _, pos := _, after := _, guard := _ }) (v := _) rfl (by kernel_rfl) (by kernel_rfl) (by kernel_rfl) (fun _ _ _ h => h) (yieldsIf_load_mid (by rfl) _ _ rfl n _ rfl (tg 5 v u n0) _ (fun _ h => (h.1).range) HTD.out rfl (HTS.out _ _ _ _)) hH ?_
  simp only [Act.put, List.setIfInBounds_toArray, List.set_cons_zero, List.set_cons_succ]
  refine wpAnyH_take (i := 1) (oi := { dst := some 68, op := .load _ (.tmp 6), type := _, pos := _, after := _, guard := _ }) (v := ?_) rfl (by kernel_rfl) (by kernel_rfl) (by kernel_rfl) (fun _ _ _ h => h) (Or.inl ⟨by rfl, ?_⟩) hH ?_
  rotate_left
  · intro w hSw
    have c64q := (hSw.2).at 0 rfl
    have c65q := (hSw.2).at 1 rfl
    clear hSw
    go_simp
    try with_reducible rfl
  simp only [Act.put, List.setIfInBounds_toArray, List.set_cons_zero, List.set_cons_succ]
  refine wpAnyH_ready (rs := [2]) (by kernel_rfl) (by simp) ?_
  refine AllReadyH.cons (o := { dst := none, op := .store _ (.tmp 4) (.tmp 67), type := _, pos := _, after := _, guard := _ }) rfl (fun K hK => ?_) AllReadyH.nil
  rw [if_pos (by rfl)]
  refine wp_store_mid _ _ _ rfl (n + 2) _ (tg 5 v u n0).toArray rfl rfl (h60q.out.thereT 5 v u n0) (HTZ.out _ _ _ _) (tg_all _ HV.out _ _) ?_
  simp only [Act.put]
  have h66q : Hid (Gd n w (u63q.setCells (n + 2) 0 (tg 5 v u n0))) := h57q.out.asideL (by omega) 0 (tg 5 v u n0)
  have h67q : Hid (Bo (u63q.setCells (n + 2) 0 (tg 5 v u n0)) n (tg 5 v u n0)) := h58q.out.asideL (by omega) 0 (tg 5 v u n0)
  have h68q : Hid (Bo (u63q.setCells (n + 2) 0 (tg 5 v u n0)) (n + 1) [.int .i64 o, .int .i64 k, .int .i64 x]) := h59q.out.asideL (by omega) 0 (tg 5 v u n0)
  have h69q : Hid (Bo (u63q.setCells (n + 2) 0 (tg 5 v u n0)) (n + 2) (tg 5 v u n0)) := h60q.out.setT 5 v u n0
  have h70q : Hid (Bo (u63q.setCells (n + 2) 0 (tg 5 v u n0)) (n + 3) [.int .i64 0, .int .i64 0]) := h61q.out.asideL (by omega) 0 (tg 5 v u n0)
  have h71q : Hid (Bo (u63q.setCells (n + 2) 0 (tg 5 v u n0)) (n + 4) [.int .i64 (cc), .int .i64 (y)]) := h62q.out.asideL (by omega) 0 (tg 5 v u n0)
  clear h57q h58q h59q h60q h61q h62q
  refine hK.out _ _ ⟨h67q.out, h71q.out⟩ (fun hH => ?_)
  clear hK K
  generalize (u63q.setCells (n + 2) 0 (tg 5 v u n0)) = u72q at h66q h67q h68q h69q h70q h71q hH ⊢
  try simp only [Act.put, List.setIfInBounds_toArray, List.set_cons_zero, List.set_cons_succ]
  refine wpAnyH_ready (rs := [3]) (by kernel_rfl) (by simp) ?_
  refine AllReadyH.cons (o := { dst := none, op := .store _ (.tmp 5) (.tmp 68), type := _, pos := _, after := _, guard := _ }) rfl (fun K hK => ?_) AllReadyH.nil
  rw [if_pos (by rfl)]
  refine wp_store_mid _ _ _ rfl (n + 3) _ #[.int .i64 (cc), .int .i64 (y)] rfl rfl h70q.out.there2 HA.out (two_one _ _) ?_
  simp only [Act.put]
  have h73q : Hid (Gd n w (u72q.setCells (n + 3) 0 [.int .i64 (cc), .int .i64 (y)])) := h66q.out.asideL (by omega) 0 [.int .i64 (cc), .int .i64 (y)]
  have h74q : Hid (Bo (u72q.setCells (n + 3) 0 [.int .i64 (cc), .int .i64 (y)]) n (tg 5 v u n0)) := h67q.out.asideL (by omega) 0 [.int .i64 (cc), .int .i64 (y)]
  have h75q : Hid (Bo (u72q.setCells (n + 3) 0 [.int .i64 (cc), .int .i64 (y)]) (n + 1) [.int .i64 o, .int .i64 k, .int .i64 x]) := h68q.out.asideL (by omega) 0 [.int .i64 (cc), .int .i64 (y)]
  have h76q : Hid (Bo (u72q.setCells (n + 3) 0 [.int .i64 (cc), .int .i64 (y)]) (n + 2) (tg 5 v u n0)) := h69q.out.asideL (by omega) 0 [.int .i64 (cc), .int .i64 (y)]
  have h77q : Hid (Bo (u72q.setCells (n + 3) 0 [.int .i64 (cc), .int .i64 (y)]) (n + 3) [.int .i64 (cc), .int .i64 (y)]) := h70q.out.set2 (.int .i64 (cc)) (.int .i64 (y))
  have h78q : Hid (Bo (u72q.setCells (n + 3) 0 [.int .i64 (cc), .int .i64 (y)]) (n + 4) [.int .i64 (cc), .int .i64 (y)]) := h71q.out.asideL (by omega) 0 [.int .i64 (cc), .int .i64 (y)]
  clear h66q h67q h68q h69q h70q h71q
  refine hK.out _ _ ⟨h74q.out, h78q.out⟩ (fun hH => ?_)
  clear hK K
  generalize (u72q.setCells (n + 3) 0 [.int .i64 (cc), .int .i64 (y)]) = u79q at h73q h74q h75q h76q h77q h78q hH ⊢
  try simp only [Act.put, List.setIfInBounds_toArray, List.set_cons_zero, List.set_cons_succ]
  refine wpAnyH_done (by kernel_rfl) ?_ _
  go_wp2
  exact bodyPost_ret (results_row2 Tryd.results9 _ _ (n + 2) (n + 3) (tg 5 v u n0) [.int .i64 (cc), .int .i64 (y)] _ _ rfl rfl h76q.out.range HTD.out rfl (HTS.out _ _ _ _) h77q.out.range HDA.out rfl HA.out) rfl ⟨rfl, h73q.out.2⟩
end Go.Proofs.YtbmgjpdfmgcigabDoor.Tab
