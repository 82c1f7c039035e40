/- ObjectAgain is proved: for every number of a kind and every two lists of operations the call returns true (what is done with the same object is answered the same, and its words tell it whole). -/
import Derived.Test.YtbmgjpdfmgcigabRows
import Derived.Test.YtbmgjpdfmgcigabKm
import Derived.Test.YtbmgjpdfmgcigabKs
import Derived.Test.YtbmgjpdfmgcigabFt
import Derived.Test.YtbmgjpdfmgcigabArgOps
import Derived.Test.YtbmgjpdfmgcigabArgOp
import Derived.Deep.DeepCutAuto
import Derived.Deep.RegionHeld3

namespace Go.Proofs.Ytbmgjpdfmgcigab.Tab.objectAgain
open Go.ChangeShapes Go.WideShapes Go.ChangeAt Go.RowKit
set_option linter.unusedVariables false

theorem own : ownKnob Try.prog.godebug = none := by kernel_rfl

set_option maxHeartbeats 8000000 in
set_option maxRecDepth 20000 in
theorem again_nil (a0 : Int) (v1 : Value) (n1 : Nat)  (w : World) (D : Ops w v1 n1) :
    Calls Try.prog 5 #[.int .i64 a0, v1, .slice none 0 0] w (fun e w' => e = .returned (.bool true) ∧ Below w.heap.size w w') := by
  have HA : Hid ((Try.prog.info? 32).map (·.size) = some 2) := answer_sz
  obtain ⟨fs, ha⟩ := answer_st
  have HDA : Hid _ := ha
  clear ha
  obtain ⟨nb, eb, hd⟩ := cells_array
  have HC : Hid _ := hd
  clear hd
  have HCS : Hid _ := cells_size
  have HCZ : Hid _ := cells_size2
  have g0 : Hid (Gd w.heap.size w w) := Gd.refl w
  have D1 : Hid (Ops w v1 n1) := D
  clear D
  have TH : Hid (∀ w : World, _) := fun w => things_is w
  obtain ⟨r, hr1, hr6, hko⟩ := kindOf_is a0
  have KO : Hid _ := hko
  clear hko
  go_enter Try.func5, Try.ntmps5
  go_wp2_with fail
  refine (TH.out _).mono ?_
  rintro e u1q ⟨rfl, hb⟩
  have h2q : Hid (Gd w.heap.size w u1q) := g0.out.later hb
  clear g0
  clear hb
  go_wp2_with fail
  refine (KO.out _).mono ?_
  rintro e u3q ⟨rfl, hw⟩
  rw [hw]; clear hw u3q
  go_wp2_with fail
  refine (made_is (kind := (r : Nat)) (by omega) (by omega) (Ops.later (v := v1) (n := n1) D1.out h2q.out.2)).mono ?_
  rintro e u4q ⟨c, hO, rfl, hb⟩
  have h5q : Hid (Gd w.heap.size w u4q) := h2q.out.later hb
  clear h2q
  clear hb
  have HO : Hid _ := hO
  clear hO
  generalize hsz : w.heap.size = n at h5q  ⊢
  have HSZ : Hid (w.heap.size = n) := hsz
  clear hsz
  have l6q : n ≤ u4q.heap.size := h5q.out.le
  have h7q : Hid (Gd n w (u4q.alloc (.cells #[.int .u64 0, .int .u64 0, .int .u64 0, .int .u64 0, .int .u64 0, .int .u64 0, .int .u64 0, .int .u64 0, .int .u64 0, .int .u64 0, .int .u64 0, .int .u64 0, .int .u64 0, .int .u64 0, .int .u64 0, .int .u64 0, .int .u64 0] 29))) := h5q.out.new (.cells #[.int .u64 0, .int .u64 0, .int .u64 0, .int .u64 0, .int .u64 0, .int .u64 0, .int .u64 0, .int .u64 0, .int .u64 0, .int .u64 0, .int .u64 0, .int .u64 0, .int .u64 0, .int .u64 0, .int .u64 0, .int .u64 0, .int .u64 0] 29)
  clear h5q
  have h8q : Hid (Bo (u4q.alloc (.cells #[.int .u64 0, .int .u64 0, .int .u64 0, .int .u64 0, .int .u64 0, .int .u64 0, .int .u64 0, .int .u64 0, .int .u64 0, .int .u64 0, .int .u64 0, .int .u64 0, .int .u64 0, .int .u64 0, .int .u64 0, .int .u64 0, .int .u64 0] 29)) u4q.heap.size (wl wz)) := Bo.born u4q (wl wz) 29 (by simp)
  go_wp2_with (first
    | (refine wpList_store_mid rfl 29 _ _ rfl u4q.heap.size _ (wl c).toArray rfl rfl (h8q.out.thereW c) (HCZ.out c) (wl_all c) ?_
       have h9q : Hid (Gd n w ((u4q.alloc (.cells #[.int .u64 0, .int .u64 0, .int .u64 0, .int .u64 0, .int .u64 0, .int .u64 0, .int .u64 0, .int .u64 0, .int .u64 0, .int .u64 0, .int .u64 0, .int .u64 0, .int .u64 0, .int .u64 0, .int .u64 0, .int .u64 0, .int .u64 0] 29)).setCells u4q.heap.size 0 (wl c))) := h7q.out.asideL (by omega) 0 (wl c)
       have h10q : Hid (Bo ((u4q.alloc (.cells #[.int .u64 0, .int .u64 0, .int .u64 0, .int .u64 0, .int .u64 0, .int .u64 0, .int .u64 0, .int .u64 0, .int .u64 0, .int .u64 0, .int .u64 0, .int .u64 0, .int .u64 0, .int .u64 0, .int .u64 0, .int .u64 0, .int .u64 0] 29)).setCells u4q.heap.size 0 (wl c)) u4q.heap.size (wl c)) := h8q.out.setW c
       clear h7q h8q
       generalize ((u4q.alloc (.cells #[.int .u64 0, .int .u64 0, .int .u64 0, .int .u64 0, .int .u64 0, .int .u64 0, .int .u64 0, .int .u64 0, .int .u64 0, .int .u64 0, .int .u64 0, .int .u64 0, .int .u64 0, .int .u64 0, .int .u64 0, .int .u64 0, .int .u64 0] 29)).setCells u4q.heap.size 0 (wl c)) = u11q at h9q h10q  ⊢
       have cz : Hid _ := h10q
       have l12q : n ≤ u11q.heap.size := h9q.out.le
       have l13q : u4q.heap.size < u11q.heap.size := h10q.out.lt
       have h14q : Hid (Gd n w (u11q.alloc (.cells #[.int .u64 0, .int .u64 0, .int .u64 0, .int .u64 0, .int .u64 0, .int .u64 0, .int .u64 0, .int .u64 0, .int .u64 0, .int .u64 0, .int .u64 0, .int .u64 0, .int .u64 0, .int .u64 0, .int .u64 0, .int .u64 0, .int .u64 0] 29))) := h9q.out.new (.cells #[.int .u64 0, .int .u64 0, .int .u64 0, .int .u64 0, .int .u64 0, .int .u64 0, .int .u64 0, .int .u64 0, .int .u64 0, .int .u64 0, .int .u64 0, .int .u64 0, .int .u64 0, .int .u64 0, .int .u64 0, .int .u64 0, .int .u64 0] 29)
       have h15q : Hid (Bo (u11q.alloc (.cells #[.int .u64 0, .int .u64 0, .int .u64 0, .int .u64 0, .int .u64 0, .int .u64 0, .int .u64 0, .int .u64 0, .int .u64 0, .int .u64 0, .int .u64 0, .int .u64 0, .int .u64 0, .int .u64 0, .int .u64 0, .int .u64 0, .int .u64 0] 29)) u4q.heap.size (wl c)) := h10q.out.new (.cells #[.int .u64 0, .int .u64 0, .int .u64 0, .int .u64 0, .int .u64 0, .int .u64 0, .int .u64 0, .int .u64 0, .int .u64 0, .int .u64 0, .int .u64 0, .int .u64 0, .int .u64 0, .int .u64 0, .int .u64 0, .int .u64 0, .int .u64 0] 29)
       clear h9q h10q
       have h16q : Hid (Bo (u11q.alloc (.cells #[.int .u64 0, .int .u64 0, .int .u64 0, .int .u64 0, .int .u64 0, .int .u64 0, .int .u64 0, .int .u64 0, .int .u64 0, .int .u64 0, .int .u64 0, .int .u64 0, .int .u64 0, .int .u64 0, .int .u64 0, .int .u64 0, .int .u64 0] 29)) u11q.heap.size (wl wz)) := Bo.born u11q (wl wz) 29 (by simp))
    | (refine wpList_load_mid rfl 29 _ rfl u4q.heap.size _ rfl (wl c) _ cz.out.range HC.out rfl (HCS.out c) ?_)
    | (refine wpList_store_mid rfl 29 _ _ rfl u11q.heap.size _ (wl c).toArray rfl rfl (h16q.out.thereW c) (HCZ.out c) (wl_all c) ?_
       have h17q : Hid (Gd n w ((u11q.alloc (.cells #[.int .u64 0, .int .u64 0, .int .u64 0, .int .u64 0, .int .u64 0, .int .u64 0, .int .u64 0, .int .u64 0, .int .u64 0, .int .u64 0, .int .u64 0, .int .u64 0, .int .u64 0, .int .u64 0, .int .u64 0, .int .u64 0, .int .u64 0] 29)).setCells u11q.heap.size 0 (wl c))) := h14q.out.asideL (by omega) 0 (wl c)
       have h18q : Hid (Bo ((u11q.alloc (.cells #[.int .u64 0, .int .u64 0, .int .u64 0, .int .u64 0, .int .u64 0, .int .u64 0, .int .u64 0, .int .u64 0, .int .u64 0, .int .u64 0, .int .u64 0, .int .u64 0, .int .u64 0, .int .u64 0, .int .u64 0, .int .u64 0, .int .u64 0] 29)).setCells u11q.heap.size 0 (wl c)) u4q.heap.size (wl c)) := h15q.out.asideL (by omega) 0 (wl c)
       have h19q : Hid (Bo ((u11q.alloc (.cells #[.int .u64 0, .int .u64 0, .int .u64 0, .int .u64 0, .int .u64 0, .int .u64 0, .int .u64 0, .int .u64 0, .int .u64 0, .int .u64 0, .int .u64 0, .int .u64 0, .int .u64 0, .int .u64 0, .int .u64 0, .int .u64 0, .int .u64 0] 29)).setCells u11q.heap.size 0 (wl c)) u11q.heap.size (wl c)) := h16q.out.setW c
       clear h14q h15q h16q
       generalize ((u11q.alloc (.cells #[.int .u64 0, .int .u64 0, .int .u64 0, .int .u64 0, .int .u64 0, .int .u64 0, .int .u64 0, .int .u64 0, .int .u64 0, .int .u64 0, .int .u64 0, .int .u64 0, .int .u64 0, .int .u64 0, .int .u64 0, .int .u64 0, .int .u64 0] 29)).setCells u11q.heap.size 0 (wl c)) = u20q at h17q h18q h19q  ⊢))
  clear cz
  go_loopg [31] 0 (fun gg s31 wt => wt = u20q ∧ s31 = .int .i64 0)
  case atStart => exact ⟨rfl, rfl⟩
  case round =>
    obtain ⟨hw, rfl⟩ := hrel
    rw [hw]
    clear hw wr
    go_wp2
    go_ret
    exact ⟨rfl, by first | exact h17q.out.low | exact h17q.out.2⟩

set_option maxHeartbeats 8000000 in
set_option maxRecDepth 20000 in
theorem again_none (a0 : Int) (v1 : Value) (n1 : Nat) (a : Addr) (cp : Nat) (w : World) (D : Ops w v1 n1) :
    Calls Try.prog 5 #[.int .i64 a0, v1, .slice (some a) 0 cp] w (fun e w' => e = .returned (.bool true) ∧ Below w.heap.size w w') := by
  have HA : Hid ((Try.prog.info? 32).map (·.size) = some 2) := answer_sz
  obtain ⟨fs, ha⟩ := answer_st
  have HDA : Hid _ := ha
  clear ha
  obtain ⟨nb, eb, hd⟩ := cells_array
  have HC : Hid _ := hd
  clear hd
  have HCS : Hid _ := cells_size
  have HCZ : Hid _ := cells_size2
  have g0 : Hid (Gd w.heap.size w w) := Gd.refl w
  have D1 : Hid (Ops w v1 n1) := D
  clear D
  have TH : Hid (∀ w : World, _) := fun w => things_is w
  obtain ⟨r, hr1, hr6, hko⟩ := kindOf_is a0
  have KO : Hid _ := hko
  clear hko
  go_enter Try.func5, Try.ntmps5
  go_wp2_with fail
  refine (TH.out _).mono ?_
  rintro e u21q ⟨rfl, hb⟩
  have h22q : Hid (Gd w.heap.size w u21q) := g0.out.later hb
  clear g0
  clear hb
  go_wp2_with fail
  refine (KO.out _).mono ?_
  rintro e u23q ⟨rfl, hw⟩
  rw [hw]; clear hw u23q
  go_wp2_with fail
  refine (made_is (kind := (r : Nat)) (by omega) (by omega) (Ops.later (v := v1) (n := n1) D1.out h22q.out.2)).mono ?_
  rintro e u24q ⟨c, hO, rfl, hb⟩
  have h25q : Hid (Gd w.heap.size w u24q) := h22q.out.later hb
  clear h22q
  clear hb
  have HO : Hid _ := hO
  clear hO
  generalize hsz : w.heap.size = n at h25q  ⊢
  have HSZ : Hid (w.heap.size = n) := hsz
  clear hsz
  have l26q : n ≤ u24q.heap.size := h25q.out.le
  have h27q : Hid (Gd n w (u24q.alloc (.cells #[.int .u64 0, .int .u64 0, .int .u64 0, .int .u64 0, .int .u64 0, .int .u64 0, .int .u64 0, .int .u64 0, .int .u64 0, .int .u64 0, .int .u64 0, .int .u64 0, .int .u64 0, .int .u64 0, .int .u64 0, .int .u64 0, .int .u64 0] 29))) := h25q.out.new (.cells #[.int .u64 0, .int .u64 0, .int .u64 0, .int .u64 0, .int .u64 0, .int .u64 0, .int .u64 0, .int .u64 0, .int .u64 0, .int .u64 0, .int .u64 0, .int .u64 0, .int .u64 0, .int .u64 0, .int .u64 0, .int .u64 0, .int .u64 0] 29)
  clear h25q
  have h28q : Hid (Bo (u24q.alloc (.cells #[.int .u64 0, .int .u64 0, .int .u64 0, .int .u64 0, .int .u64 0, .int .u64 0, .int .u64 0, .int .u64 0, .int .u64 0, .int .u64 0, .int .u64 0, .int .u64 0, .int .u64 0, .int .u64 0, .int .u64 0, .int .u64 0, .int .u64 0] 29)) u24q.heap.size (wl wz)) := Bo.born u24q (wl wz) 29 (by simp)
  go_wp2_with (first
    | (refine wpList_store_mid rfl 29 _ _ rfl u24q.heap.size _ (wl c).toArray rfl rfl (h28q.out.thereW c) (HCZ.out c) (wl_all c) ?_
       have h29q : Hid (Gd n w ((u24q.alloc (.cells #[.int .u64 0, .int .u64 0, .int .u64 0, .int .u64 0, .int .u64 0, .int .u64 0, .int .u64 0, .int .u64 0, .int .u64 0, .int .u64 0, .int .u64 0, .int .u64 0, .int .u64 0, .int .u64 0, .int .u64 0, .int .u64 0, .int .u64 0] 29)).setCells u24q.heap.size 0 (wl c))) := h27q.out.asideL (by omega) 0 (wl c)
       have h30q : Hid (Bo ((u24q.alloc (.cells #[.int .u64 0, .int .u64 0, .int .u64 0, .int .u64 0, .int .u64 0, .int .u64 0, .int .u64 0, .int .u64 0, .int .u64 0, .int .u64 0, .int .u64 0, .int .u64 0, .int .u64 0, .int .u64 0, .int .u64 0, .int .u64 0, .int .u64 0] 29)).setCells u24q.heap.size 0 (wl c)) u24q.heap.size (wl c)) := h28q.out.setW c
       clear h27q h28q
       generalize ((u24q.alloc (.cells #[.int .u64 0, .int .u64 0, .int .u64 0, .int .u64 0, .int .u64 0, .int .u64 0, .int .u64 0, .int .u64 0, .int .u64 0, .int .u64 0, .int .u64 0, .int .u64 0, .int .u64 0, .int .u64 0, .int .u64 0, .int .u64 0, .int .u64 0] 29)).setCells u24q.heap.size 0 (wl c)) = u31q at h29q h30q  ⊢
       have cz : Hid _ := h30q
       have l32q : n ≤ u31q.heap.size := h29q.out.le
       have l33q : u24q.heap.size < u31q.heap.size := h30q.out.lt
       have h34q : Hid (Gd n w (u31q.alloc (.cells #[.int .u64 0, .int .u64 0, .int .u64 0, .int .u64 0, .int .u64 0, .int .u64 0, .int .u64 0, .int .u64 0, .int .u64 0, .int .u64 0, .int .u64 0, .int .u64 0, .int .u64 0, .int .u64 0, .int .u64 0, .int .u64 0, .int .u64 0] 29))) := h29q.out.new (.cells #[.int .u64 0, .int .u64 0, .int .u64 0, .int .u64 0, .int .u64 0, .int .u64 0, .int .u64 0, .int .u64 0, .int .u64 0, .int .u64 0, .int .u64 0, .int .u64 0, .int .u64 0, .int .u64 0, .int .u64 0, .int .u64 0, .int .u64 0] 29)
       have h35q : Hid (Bo (u31q.alloc (.cells #[.int .u64 0, .int .u64 0, .int .u64 0, .int .u64 0, .int .u64 0, .int .u64 0, .int .u64 0, .int .u64 0, .int .u64 0, .int .u64 0, .int .u64 0, .int .u64 0, .int .u64 0, .int .u64 0, .int .u64 0, .int .u64 0, .int .u64 0] 29)) u24q.heap.size (wl c)) := h30q.out.new (.cells #[.int .u64 0, .int .u64 0, .int .u64 0, .int .u64 0, .int .u64 0, .int .u64 0, .int .u64 0, .int .u64 0, .int .u64 0, .int .u64 0, .int .u64 0, .int .u64 0, .int .u64 0, .int .u64 0, .int .u64 0, .int .u64 0, .int .u64 0] 29)
       clear h29q h30q
       have h36q : Hid (Bo (u31q.alloc (.cells #[.int .u64 0, .int .u64 0, .int .u64 0, .int .u64 0, .int .u64 0, .int .u64 0, .int .u64 0, .int .u64 0, .int .u64 0, .int .u64 0, .int .u64 0, .int .u64 0, .int .u64 0, .int .u64 0, .int .u64 0, .int .u64 0, .int .u64 0] 29)) u31q.heap.size (wl wz)) := Bo.born u31q (wl wz) 29 (by simp))
    | (refine wpList_load_mid rfl 29 _ rfl u24q.heap.size _ rfl (wl c) _ cz.out.range HC.out rfl (HCS.out c) ?_)
    | (refine wpList_store_mid rfl 29 _ _ rfl u31q.heap.size _ (wl c).toArray rfl rfl (h36q.out.thereW c) (HCZ.out c) (wl_all c) ?_
       have h37q : Hid (Gd n w ((u31q.alloc (.cells #[.int .u64 0, .int .u64 0, .int .u64 0, .int .u64 0, .int .u64 0, .int .u64 0, .int .u64 0, .int .u64 0, .int .u64 0, .int .u64 0, .int .u64 0, .int .u64 0, .int .u64 0, .int .u64 0, .int .u64 0, .int .u64 0, .int .u64 0] 29)).setCells u31q.heap.size 0 (wl c))) := h34q.out.asideL (by omega) 0 (wl c)
       have h38q : Hid (Bo ((u31q.alloc (.cells #[.int .u64 0, .int .u64 0, .int .u64 0, .int .u64 0, .int .u64 0, .int .u64 0, .int .u64 0, .int .u64 0, .int .u64 0, .int .u64 0, .int .u64 0, .int .u64 0, .int .u64 0, .int .u64 0, .int .u64 0, .int .u64 0, .int .u64 0] 29)).setCells u31q.heap.size 0 (wl c)) u24q.heap.size (wl c)) := h35q.out.asideL (by omega) 0 (wl c)
       have h39q : Hid (Bo ((u31q.alloc (.cells #[.int .u64 0, .int .u64 0, .int .u64 0, .int .u64 0, .int .u64 0, .int .u64 0, .int .u64 0, .int .u64 0, .int .u64 0, .int .u64 0, .int .u64 0, .int .u64 0, .int .u64 0, .int .u64 0, .int .u64 0, .int .u64 0, .int .u64 0] 29)).setCells u31q.heap.size 0 (wl c)) u31q.heap.size (wl c)) := h36q.out.setW c
       clear h34q h35q h36q
       generalize ((u31q.alloc (.cells #[.int .u64 0, .int .u64 0, .int .u64 0, .int .u64 0, .int .u64 0, .int .u64 0, .int .u64 0, .int .u64 0, .int .u64 0, .int .u64 0, .int .u64 0, .int .u64 0, .int .u64 0, .int .u64 0, .int .u64 0, .int .u64 0, .int .u64 0] 29)).setCells u31q.heap.size 0 (wl c)) = u40q at h37q h38q h39q  ⊢))
  clear cz
  go_loopg [31] 0 (fun gg s31 wt => wt = u40q ∧ s31 = .int .i64 0)
  case atStart => exact ⟨rfl, rfl⟩
  case round =>
    obtain ⟨hw, rfl⟩ := hrel
    rw [hw]
    clear hw wr
    go_wp2
    go_ret
    exact ⟨rfl, by first | exact h37q.out.low | exact h37q.out.2⟩

set_option maxHeartbeats 8000000 in
set_option maxRecDepth 20000 in
theorem again_some (a0 : Int) (v1 : Value) (n1 : Nat) {v2 : Value} {b off cp m : Nat} (hv : v2 = .slice (some ⟨b, off, none⟩) m cp) (h0 : 0 < m) (hc : m ≤ cp) (hm : m ≤ 9223372036854775807) (w : World) (D : Ops w v1 n1) (D2 : Ops w v2 m) :
    Calls Try.prog 5 #[.int .i64 a0, v1, v2] w (fun e w' => e = .returned (.bool true) ∧ Below w.heap.size w w') := by
  have HA : Hid ((Try.prog.info? 32).map (·.size) = some 2) := answer_sz
  obtain ⟨fs, ha⟩ := answer_st
  have HDA : Hid _ := ha
  clear ha
  obtain ⟨nb, eb, hd⟩ := cells_array
  have HC : Hid _ := hd
  clear hd
  have HCS : Hid _ := cells_size
  have HCZ : Hid _ := cells_size2
  have g0 : Hid (Gd w.heap.size w w) := Gd.refl w
  have D1 : Hid (Ops w v1 n1) := D
  clear D
  have TH : Hid (∀ w : World, _) := fun w => things_is w
  obtain ⟨r, hr1, hr6, hko⟩ := kindOf_is a0
  have KO : Hid _ := hko
  clear hko
  have HE : Hid (∀ w', Below w.heap.size w w' → ∀ i, i < m → ∃ o k x : Int, w'.cell? ⟨b, off + i * 3, none⟩ = some (.int .i64 o) ∧ w'.cell? ⟨b, off + i * 3 + 1, none⟩ = some (.int .i64 k) ∧ w'.cell? ⟨b, off + i * 3 + 2, none⟩ = some (.int .i64 x)) := by
    intro w' hb i hi
    rcases D2.later hb with ⟨h, _⟩ | ⟨b2, off2, c2, hv2, _, _, _, hh⟩
    · omega
    · rw [hv] at hv2
      injection hv2 with e1 _ _
      injection e1 with e1
      injection e1 with e1 e2
      subst e1 e2
      exact hh i hi
  clear D2
  subst hv
  obtain ⟨q, hq⟩ : ∃ q, q = min m 20 := ⟨_, rfl⟩
  have eq : min (m : Int) 20 = (q : Int) := by omega
  have eq2 : (if (20 : Int) < (m : Int) then (20 : Int) else (m : Int)) = (q : Int) := by split <;> omega
  have hqc : (q : Int) ≤ (cp : Int) := by omega
  have hq0 : (0 : Int) ≤ (q : Int) := by omega
  have HQ : Hid (q ≤ m ∧ q ≤ 20) := (by omega : q ≤ m ∧ q ≤ 20)
  clear hq h0 hc hm
  have EE := cells_equal
  go_enter Try.func5, Try.ntmps5
  go_wp2_with fail
  refine (TH.out _).mono ?_
  rintro e u41q ⟨rfl, hb⟩
  have h42q : Hid (Gd w.heap.size w u41q) := g0.out.later hb
  clear g0
  clear hb
  go_wp2_with fail
  refine (KO.out _).mono ?_
  rintro e u43q ⟨rfl, hw⟩
  rw [hw]; clear hw u43q
  go_wp2_with fail
  refine (made_is (kind := (r : Nat)) (by omega) (by omega) (Ops.later (v := v1) (n := n1) D1.out h42q.out.2)).mono ?_
  rintro e u44q ⟨c, hO, rfl, hb⟩
  have h45q : Hid (Gd w.heap.size w u44q) := h42q.out.later hb
  clear h42q
  clear hb
  have HO : Hid _ := hO
  clear hO
  generalize hsz : w.heap.size = n at h45q  ⊢
  have HSZ : Hid (w.heap.size = n) := hsz
  clear hsz
  have l46q : n ≤ u44q.heap.size := h45q.out.le
  have h47q : Hid (Gd n w (u44q.alloc (.cells #[.int .u64 0, .int .u64 0, .int .u64 0, .int .u64 0, .int .u64 0, .int .u64 0, .int .u64 0, .int .u64 0, .int .u64 0, .int .u64 0, .int .u64 0, .int .u64 0, .int .u64 0, .int .u64 0, .int .u64 0, .int .u64 0, .int .u64 0] 29))) := h45q.out.new (.cells #[.int .u64 0, .int .u64 0, .int .u64 0, .int .u64 0, .int .u64 0, .int .u64 0, .int .u64 0, .int .u64 0, .int .u64 0, .int .u64 0, .int .u64 0, .int .u64 0, .int .u64 0, .int .u64 0, .int .u64 0, .int .u64 0, .int .u64 0] 29)
  clear h45q
  have h48q : Hid (Bo (u44q.alloc (.cells #[.int .u64 0, .int .u64 0, .int .u64 0, .int .u64 0, .int .u64 0, .int .u64 0, .int .u64 0, .int .u64 0, .int .u64 0, .int .u64 0, .int .u64 0, .int .u64 0, .int .u64 0, .int .u64 0, .int .u64 0, .int .u64 0, .int .u64 0] 29)) u44q.heap.size (wl wz)) := Bo.born u44q (wl wz) 29 (by simp)
  go_wp2_with (first
    | (refine wpList_store_mid rfl 29 _ _ rfl u44q.heap.size _ (wl c).toArray rfl rfl (h48q.out.thereW c) (HCZ.out c) (wl_all c) ?_
       have h49q : Hid (Gd n w ((u44q.alloc (.cells #[.int .u64 0, .int .u64 0, .int .u64 0, .int .u64 0, .int .u64 0, .int .u64 0, .int .u64 0, .int .u64 0, .int .u64 0, .int .u64 0, .int .u64 0, .int .u64 0, .int .u64 0, .int .u64 0, .int .u64 0, .int .u64 0, .int .u64 0] 29)).setCells u44q.heap.size 0 (wl c))) := h47q.out.asideL (by omega) 0 (wl c)
       have h50q : Hid (Bo ((u44q.alloc (.cells #[.int .u64 0, .int .u64 0, .int .u64 0, .int .u64 0, .int .u64 0, .int .u64 0, .int .u64 0, .int .u64 0, .int .u64 0, .int .u64 0, .int .u64 0, .int .u64 0, .int .u64 0, .int .u64 0, .int .u64 0, .int .u64 0, .int .u64 0] 29)).setCells u44q.heap.size 0 (wl c)) u44q.heap.size (wl c)) := h48q.out.setW c
       clear h47q h48q
       generalize ((u44q.alloc (.cells #[.int .u64 0, .int .u64 0, .int .u64 0, .int .u64 0, .int .u64 0, .int .u64 0, .int .u64 0, .int .u64 0, .int .u64 0, .int .u64 0, .int .u64 0, .int .u64 0, .int .u64 0, .int .u64 0, .int .u64 0, .int .u64 0, .int .u64 0] 29)).setCells u44q.heap.size 0 (wl c)) = u51q at h49q h50q  ⊢
       have cz : Hid _ := h50q
       have l52q : n ≤ u51q.heap.size := h49q.out.le
       have l53q : u44q.heap.size < u51q.heap.size := h50q.out.lt
       have h54q : Hid (Gd n w (u51q.alloc (.cells #[.int .u64 0, .int .u64 0, .int .u64 0, .int .u64 0, .int .u64 0, .int .u64 0, .int .u64 0, .int .u64 0, .int .u64 0, .int .u64 0, .int .u64 0, .int .u64 0, .int .u64 0, .int .u64 0, .int .u64 0, .int .u64 0, .int .u64 0] 29))) := h49q.out.new (.cells #[.int .u64 0, .int .u64 0, .int .u64 0, .int .u64 0, .int .u64 0, .int .u64 0, .int .u64 0, .int .u64 0, .int .u64 0, .int .u64 0, .int .u64 0, .int .u64 0, .int .u64 0, .int .u64 0, .int .u64 0, .int .u64 0, .int .u64 0] 29)
       have h55q : Hid (Bo (u51q.alloc (.cells #[.int .u64 0, .int .u64 0, .int .u64 0, .int .u64 0, .int .u64 0, .int .u64 0, .int .u64 0, .int .u64 0, .int .u64 0, .int .u64 0, .int .u64 0, .int .u64 0, .int .u64 0, .int .u64 0, .int .u64 0, .int .u64 0, .int .u64 0] 29)) u44q.heap.size (wl c)) := h50q.out.new (.cells #[.int .u64 0, .int .u64 0, .int .u64 0, .int .u64 0, .int .u64 0, .int .u64 0, .int .u64 0, .int .u64 0, .int .u64 0, .int .u64 0, .int .u64 0, .int .u64 0, .int .u64 0, .int .u64 0, .int .u64 0, .int .u64 0, .int .u64 0] 29)
       clear h49q h50q
       have h56q : Hid (Bo (u51q.alloc (.cells #[.int .u64 0, .int .u64 0, .int .u64 0, .int .u64 0, .int .u64 0, .int .u64 0, .int .u64 0, .int .u64 0, .int .u64 0, .int .u64 0, .int .u64 0, .int .u64 0, .int .u64 0, .int .u64 0, .int .u64 0, .int .u64 0, .int .u64 0] 29)) u51q.heap.size (wl wz)) := Bo.born u51q (wl wz) 29 (by simp))
    | (refine wpList_load_mid rfl 29 _ rfl u44q.heap.size _ rfl (wl c) _ cz.out.range HC.out rfl (HCS.out c) ?_)
    | (refine wpList_store_mid rfl 29 _ _ rfl u51q.heap.size _ (wl c).toArray rfl rfl (h56q.out.thereW c) (HCZ.out c) (wl_all c) ?_
       have h57q : Hid (Gd n w ((u51q.alloc (.cells #[.int .u64 0, .int .u64 0, .int .u64 0, .int .u64 0, .int .u64 0, .int .u64 0, .int .u64 0, .int .u64 0, .int .u64 0, .int .u64 0, .int .u64 0, .int .u64 0, .int .u64 0, .int .u64 0, .int .u64 0, .int .u64 0, .int .u64 0] 29)).setCells u51q.heap.size 0 (wl c))) := h54q.out.asideL (by omega) 0 (wl c)
       have h58q : Hid (Bo ((u51q.alloc (.cells #[.int .u64 0, .int .u64 0, .int .u64 0, .int .u64 0, .int .u64 0, .int .u64 0, .int .u64 0, .int .u64 0, .int .u64 0, .int .u64 0, .int .u64 0, .int .u64 0, .int .u64 0, .int .u64 0, .int .u64 0, .int .u64 0, .int .u64 0] 29)).setCells u51q.heap.size 0 (wl c)) u44q.heap.size (wl c)) := h55q.out.asideL (by omega) 0 (wl c)
       have h59q : Hid (Bo ((u51q.alloc (.cells #[.int .u64 0, .int .u64 0, .int .u64 0, .int .u64 0, .int .u64 0, .int .u64 0, .int .u64 0, .int .u64 0, .int .u64 0, .int .u64 0, .int .u64 0, .int .u64 0, .int .u64 0, .int .u64 0, .int .u64 0, .int .u64 0, .int .u64 0] 29)).setCells u51q.heap.size 0 (wl c)) u51q.heap.size (wl c)) := h56q.out.setW c
       clear h54q h55q h56q
       generalize ((u51q.alloc (.cells #[.int .u64 0, .int .u64 0, .int .u64 0, .int .u64 0, .int .u64 0, .int .u64 0, .int .u64 0, .int .u64 0, .int .u64 0, .int .u64 0, .int .u64 0, .int .u64 0, .int .u64 0, .int .u64 0, .int .u64 0, .int .u64 0, .int .u64 0] 29)).setCells u51q.heap.size 0 (wl c)) = u60q at h57q h58q h59q  ⊢))
  clear cz
  have lne : u44q.heap.size < u51q.heap.size := by omega
  go_loopg [31] q (fun gg s31 wt => ∃ i : Nat, i ≤ q ∧ q - i ≤ gg ∧ s31 = .int .i64 i ∧ Hid (Gd n w wt) ∧ ∃ e : Nat → Nat, Hid (isOb (r : Nat) e) ∧ Hid (Bo wt u44q.heap.size (wl e)) ∧ Hid (Bo wt u51q.heap.size (wl e)))
  case atStart => exact ⟨0, by omega, by omega, rfl, h57q, c, HO, h58q, h59q⟩
  case round =>
    obtain ⟨i, hi, hgg, rfl, G, e, R, C1, C2⟩ := hrel
    clear h57q h58q h59q HO
    by_cases hlt : i < q
    · obtain ⟨o, k, x, c0, c1, c2⟩ := HE.out wr G.out.2 i (by have := HQ.out; omega)
      have hi1 : (i : Int) < (q : Int) := by omega
      have hi0 : (0 : Int) ≤ (i : Int) := by omega
      by_cases hR : Rt o k x
      · have HO : Hid _ := R
        obtain ⟨⟨u, cc, yy⟩, hu⟩ : ∃ r9, odo (r : Nat) e o k x = r9 := ⟨_, rfl⟩
        have DO : Hid (∀ w, Calls Try.prog 10 #[.int .i64 (r : Nat), .agg (wl e).toArray, .agg #[.int .i64 o, .int .i64 k, .int .i64 x]] w (DidD w u cc yy)) := fun w => by have := obDo_is HO.out hR w; rw [hu] at this; exact this
        have f : OF (r : Nat) e o k x (u, cc, yy) := by have := odo_facts HO.out hR.w1 hR.w6 hR.k0 hR.k1 hR.v0 hR.v1; rw [hu] at this; exact this
        clear hu
        have RU : Hid (isOb (r : Nat) u) := f.ob
        clear f
        clear hR HO
        have l61q : n ≤ wr.heap.size := G.out.le
        have l62q : u44q.heap.size < wr.heap.size := C1.out.lt
        have l63q : u51q.heap.size < wr.heap.size := C2.out.lt
        have h64q : Hid (Gd n w (wr.alloc (.cells #[.int .i64 o, .int .i64 k, .int .i64 x] 24))) := G.out.new (.cells #[.int .i64 o, .int .i64 k, .int .i64 x] 24)
        have h65q : Hid (Bo (wr.alloc (.cells #[.int .i64 o, .int .i64 k, .int .i64 x] 24)) u44q.heap.size (wl e)) := C1.out.new (.cells #[.int .i64 o, .int .i64 k, .int .i64 x] 24)
        have h66q : Hid (Bo (wr.alloc (.cells #[.int .i64 o, .int .i64 k, .int .i64 x] 24)) u51q.heap.size (wl e)) := C2.out.new (.cells #[.int .i64 o, .int .i64 k, .int .i64 x] 24)
        clear G C1 C2
        have h67q : Hid (Bo (wr.alloc (.cells #[.int .i64 o, .int .i64 k, .int .i64 x] 24)) wr.heap.size [.int .i64 o, .int .i64 k, .int .i64 x]) := Bo.born wr [.int .i64 o, .int .i64 k, .int .i64 x] 24 (by simp)
        have e0 := h67q.out.at 0 rfl
        have e1 := h67q.out.at 1 rfl
        have e2 := h67q.out.at 2 rfl
        go_wp2_with (first
          | (refine wpList_load_mid rfl 29 _ rfl u44q.heap.size _ rfl (wl e) _ h65q.out.range HC.out rfl (HCS.out e) ?_))
        clear e0 e1 e2 c0 c1 c2
        refine (DO.out _).mono ?_
        rintro e u68q ⟨rfl, hb⟩
        have h69q : Hid (Gd n w u68q) := h64q.out.later hb
        have h70q : Hid (Bo u68q u44q.heap.size (wl e)) := h65q.out.later hb
        have h71q : Hid (Bo u68q u51q.heap.size (wl e)) := h66q.out.later hb
        have h72q : Hid (Bo u68q wr.heap.size [.int .i64 o, .int .i64 k, .int .i64 x]) := h67q.out.later hb
        clear h64q h65q h66q h67q
        clear hb
        have l73q : n ≤ u68q.heap.size := h69q.out.le
        have l74q : u44q.heap.size < u68q.heap.size := h70q.out.lt
        have l75q : u51q.heap.size < u68q.heap.size := h71q.out.lt
        have l76q : wr.heap.size < u68q.heap.size := h72q.out.lt
        have h77q : Hid (Gd n w (u68q.alloc (.cells #[.int .u64 0, .int .u64 0, .int .u64 0, .int .u64 0, .int .u64 0, .int .u64 0, .int .u64 0, .int .u64 0, .int .u64 0, .int .u64 0, .int .u64 0, .int .u64 0, .int .u64 0, .int .u64 0, .int .u64 0, .int .u64 0, .int .u64 0] 29))) := h69q.out.new (.cells #[.int .u64 0, .int .u64 0, .int .u64 0, .int .u64 0, .int .u64 0, .int .u64 0, .int .u64 0, .int .u64 0, .int .u64 0, .int .u64 0, .int .u64 0, .int .u64 0, .int .u64 0, .int .u64 0, .int .u64 0, .int .u64 0, .int .u64 0] 29)
        have h78q : Hid (Bo (u68q.alloc (.cells #[.int .u64 0, .int .u64 0, .int .u64 0, .int .u64 0, .int .u64 0, .int .u64 0, .int .u64 0, .int .u64 0, .int .u64 0, .int .u64 0, .int .u64 0, .int .u64 0, .int .u64 0, .int .u64 0, .int .u64 0, .int .u64 0, .int .u64 0] 29)) u44q.heap.size (wl e)) := h70q.out.new (.cells #[.int .u64 0, .int .u64 0, .int .u64 0, .int .u64 0, .int .u64 0, .int .u64 0, .int .u64 0, .int .u64 0, .int .u64 0, .int .u64 0, .int .u64 0, .int .u64 0, .int .u64 0, .int .u64 0, .int .u64 0, .int .u64 0, .int .u64 0] 29)
        have h79q : Hid (Bo (u68q.alloc (.cells #[.int .u64 0, .int .u64 0, .int .u64 0, .int .u64 0, .int .u64 0, .int .u64 0, .int .u64 0, .int .u64 0, .int .u64 0, .int .u64 0, .int .u64 0, .int .u64 0, .int .u64 0, .int .u64 0, .int .u64 0, .int .u64 0, .int .u64 0] 29)) u51q.heap.size (wl e)) := h71q.out.new (.cells #[.int .u64 0, .int .u64 0, .int .u64 0, .int .u64 0, .int .u64 0, .int .u64 0, .int .u64 0, .int .u64 0, .int .u64 0, .int .u64 0, .int .u64 0, .int .u64 0, .int .u64 0, .int .u64 0, .int .u64 0, .int .u64 0, .int .u64 0] 29)
        have h80q : Hid (Bo (u68q.alloc (.cells #[.int .u64 0, .int .u64 0, .int .u64 0, .int .u64 0, .int .u64 0, .int .u64 0, .int .u64 0, .int .u64 0, .int .u64 0, .int .u64 0, .int .u64 0, .int .u64 0, .int .u64 0, .int .u64 0, .int .u64 0, .int .u64 0, .int .u64 0] 29)) wr.heap.size [.int .i64 o, .int .i64 k, .int .i64 x]) := h72q.out.new (.cells #[.int .u64 0, .int .u64 0, .int .u64 0, .int .u64 0, .int .u64 0, .int .u64 0, .int .u64 0, .int .u64 0, .int .u64 0, .int .u64 0, .int .u64 0, .int .u64 0, .int .u64 0, .int .u64 0, .int .u64 0, .int .u64 0, .int .u64 0] 29)
        clear h69q h70q h71q h72q
        have h81q : Hid (Bo (u68q.alloc (.cells #[.int .u64 0, .int .u64 0, .int .u64 0, .int .u64 0, .int .u64 0, .int .u64 0, .int .u64 0, .int .u64 0, .int .u64 0, .int .u64 0, .int .u64 0, .int .u64 0, .int .u64 0, .int .u64 0, .int .u64 0, .int .u64 0, .int .u64 0] 29)) u68q.heap.size (wl wz)) := Bo.born u68q (wl wz) 29 (by simp)
        have h82q : Hid (Gd n w ((u68q.alloc (.cells #[.int .u64 0, .int .u64 0, .int .u64 0, .int .u64 0, .int .u64 0, .int .u64 0, .int .u64 0, .int .u64 0, .int .u64 0, .int .u64 0, .int .u64 0, .int .u64 0, .int .u64 0, .int .u64 0, .int .u64 0, .int .u64 0, .int .u64 0] 29)).alloc (.cells #[.int .i64 0, .int .i64 0] 32))) := h77q.out.new (.cells #[.int .i64 0, .int .i64 0] 32)
        have h83q : Hid (Bo ((u68q.alloc (.cells #[.int .u64 0, .int .u64 0, .int .u64 0, .int .u64 0, .int .u64 0, .int .u64 0, .int .u64 0, .int .u64 0, .int .u64 0, .int .u64 0, .int .u64 0, .int .u64 0, .int .u64 0, .int .u64 0, .int .u64 0, .int .u64 0, .int .u64 0] 29)).alloc (.cells #[.int .i64 0, .int .i64 0] 32)) u44q.heap.size (wl e)) := h78q.out.new (.cells #[.int .i64 0, .int .i64 0] 32)
        have h84q : Hid (Bo ((u68q.alloc (.cells #[.int .u64 0, .int .u64 0, .int .u64 0, .int .u64 0, .int .u64 0, .int .u64 0, .int .u64 0, .int .u64 0, .int .u64 0, .int .u64 0, .int .u64 0, .int .u64 0, .int .u64 0, .int .u64 0, .int .u64 0, .int .u64 0, .int .u64 0] 29)).alloc (.cells #[.int .i64 0, .int .i64 0] 32)) u51q.heap.size (wl e)) := h79q.out.new (.cells #[.int .i64 0, .int .i64 0] 32)
        have h85q : Hid (Bo ((u68q.alloc (.cells #[.int .u64 0, .int .u64 0, .int .u64 0, .int .u64 0, .int .u64 0, .int .u64 0, .int .u64 0, .int .u64 0, .int .u64 0, .int .u64 0, .int .u64 0, .int .u64 0, .int .u64 0, .int .u64 0, .int .u64 0, .int .u64 0, .int .u64 0] 29)).alloc (.cells #[.int .i64 0, .int .i64 0] 32)) wr.heap.size [.int .i64 o, .int .i64 k, .int .i64 x]) := h80q.out.new (.cells #[.int .i64 0, .int .i64 0] 32)
        have h86q : Hid (Bo ((u68q.alloc (.cells #[.int .u64 0, .int .u64 0, .int .u64 0, .int .u64 0, .int .u64 0, .int .u64 0, .int .u64 0, .int .u64 0, .int .u64 0, .int .u64 0, .int .u64 0, .int .u64 0, .int .u64 0, .int .u64 0, .int .u64 0, .int .u64 0, .int .u64 0] 29)).alloc (.cells #[.int .i64 0, .int .i64 0] 32)) u68q.heap.size (wl wz)) := h81q.out.new (.cells #[.int .i64 0, .int .i64 0] 32)
        clear h77q h78q h79q h80q h81q
        have h87q : Hid (Bo ((u68q.alloc (.cells #[.int .u64 0, .int .u64 0, .int .u64 0, .int .u64 0, .int .u64 0, .int .u64 0, .int .u64 0, .int .u64 0, .int .u64 0, .int .u64 0, .int .u64 0, .int .u64 0, .int .u64 0, .int .u64 0, .int .u64 0, .int .u64 0, .int .u64 0] 29)).alloc (.cells #[.int .i64 0, .int .i64 0] 32)) (u68q.heap.size + 1) [.int .i64 0, .int .i64 0]) := Bo.born (u68q.alloc (.cells #[.int .u64 0, .int .u64 0, .int .u64 0, .int .u64 0, .int .u64 0, .int .u64 0, .int .u64 0, .int .u64 0, .int .u64 0, .int .u64 0, .int .u64 0, .int .u64 0, .int .u64 0, .int .u64 0, .int .u64 0, .int .u64 0, .int .u64 0] 29)) [.int .i64 0, .int .i64 0] 32 (by simp)
        go_wp2_with (first
          | (refine wpList_store_mid rfl 29 _ _ rfl u68q.heap.size _ (wl u).toArray rfl rfl (h86q.out.thereW u) (HCZ.out u) (wl_all u) ?_
             have h88q : Hid (Gd n w (((u68q.alloc (.cells #[.int .u64 0, .int .u64 0, .int .u64 0, .int .u64 0, .int .u64 0, .int .u64 0, .int .u64 0, .int .u64 0, .int .u64 0, .int .u64 0, .int .u64 0, .int .u64 0, .int .u64 0, .int .u64 0, .int .u64 0, .int .u64 0, .int .u64 0] 29)).alloc (.cells #[.int .i64 0, .int .i64 0] 32)).setCells u68q.heap.size 0 (wl u))) := h82q.out.asideL (by omega) 0 (wl u)
             have h89q : Hid (Bo (((u68q.alloc (.cells #[.int .u64 0, .int .u64 0, .int .u64 0, .int .u64 0, .int .u64 0, .int .u64 0, .int .u64 0, .int .u64 0, .int .u64 0, .int .u64 0, .int .u64 0, .int .u64 0, .int .u64 0, .int .u64 0, .int .u64 0, .int .u64 0, .int .u64 0] 29)).alloc (.cells #[.int .i64 0, .int .i64 0] 32)).setCells u68q.heap.size 0 (wl u)) u44q.heap.size (wl e)) := h83q.out.asideL (by omega) 0 (wl u)
             have h90q : Hid (Bo (((u68q.alloc (.cells #[.int .u64 0, .int .u64 0, .int .u64 0, .int .u64 0, .int .u64 0, .int .u64 0, .int .u64 0, .int .u64 0, .int .u64 0, .int .u64 0, .int .u64 0, .int .u64 0, .int .u64 0, .int .u64 0, .int .u64 0, .int .u64 0, .int .u64 0] 29)).alloc (.cells #[.int .i64 0, .int .i64 0] 32)).setCells u68q.heap.size 0 (wl u)) u51q.heap.size (wl e)) := h84q.out.asideL (by omega) 0 (wl u)
             have h91q : Hid (Bo (((u68q.alloc (.cells #[.int .u64 0, .int .u64 0, .int .u64 0, .int .u64 0, .int .u64 0, .int .u64 0, .int .u64 0, .int .u64 0, .int .u64 0, .int .u64 0, .int .u64 0, .int .u64 0, .int .u64 0, .int .u64 0, .int .u64 0, .int .u64 0, .int .u64 0] 29)).alloc (.cells #[.int .i64 0, .int .i64 0] 32)).setCells u68q.heap.size 0 (wl u)) wr.heap.size [.int .i64 o, .int .i64 k, .int .i64 x]) := h85q.out.asideL (by omega) 0 (wl u)
             have h92q : Hid (Bo (((u68q.alloc (.cells #[.int .u64 0, .int .u64 0, .int .u64 0, .int .u64 0, .int .u64 0, .int .u64 0, .int .u64 0, .int .u64 0, .int .u64 0, .int .u64 0, .int .u64 0, .int .u64 0, .int .u64 0, .int .u64 0, .int .u64 0, .int .u64 0, .int .u64 0] 29)).alloc (.cells #[.int .i64 0, .int .i64 0] 32)).setCells u68q.heap.size 0 (wl u)) u68q.heap.size (wl u)) := h86q.out.setW u
             have h93q : Hid (Bo (((u68q.alloc (.cells #[.int .u64 0, .int .u64 0, .int .u64 0, .int .u64 0, .int .u64 0, .int .u64 0, .int .u64 0, .int .u64 0, .int .u64 0, .int .u64 0, .int .u64 0, .int .u64 0, .int .u64 0, .int .u64 0, .int .u64 0, .int .u64 0, .int .u64 0] 29)).alloc (.cells #[.int .i64 0, .int .i64 0] 32)).setCells u68q.heap.size 0 (wl u)) (u68q.heap.size + 1) [.int .i64 0, .int .i64 0]) := h87q.out.asideL (by omega) 0 (wl u)
             clear h82q h83q h84q h85q h86q h87q
             generalize (((u68q.alloc (.cells #[.int .u64 0, .int .u64 0, .int .u64 0, .int .u64 0, .int .u64 0, .int .u64 0, .int .u64 0, .int .u64 0, .int .u64 0, .int .u64 0, .int .u64 0, .int .u64 0, .int .u64 0, .int .u64 0, .int .u64 0, .int .u64 0, .int .u64 0] 29)).alloc (.cells #[.int .i64 0, .int .i64 0] 32)).setCells u68q.heap.size 0 (wl u)) = u94q at h88q h89q h90q h91q h92q h93q  ⊢)
          | (refine wpList_store_mid rfl 32 _ _ rfl (u68q.heap.size + 1) _ #[.int .i64 (cc), .int .i64 (yy)] rfl rfl h93q.out.there2 HA.out (two_one _ _) ?_
             have h95q : Hid (Gd n w (u94q.setCells (u68q.heap.size + 1) 0 [.int .i64 (cc), .int .i64 (yy)])) := h88q.out.asideL (by omega) 0 [.int .i64 (cc), .int .i64 (yy)]
             have h96q : Hid (Bo (u94q.setCells (u68q.heap.size + 1) 0 [.int .i64 (cc), .int .i64 (yy)]) u44q.heap.size (wl e)) := h89q.out.asideL (by omega) 0 [.int .i64 (cc), .int .i64 (yy)]
             have h97q : Hid (Bo (u94q.setCells (u68q.heap.size + 1) 0 [.int .i64 (cc), .int .i64 (yy)]) u51q.heap.size (wl e)) := h90q.out.asideL (by omega) 0 [.int .i64 (cc), .int .i64 (yy)]
             have h98q : Hid (Bo (u94q.setCells (u68q.heap.size + 1) 0 [.int .i64 (cc), .int .i64 (yy)]) wr.heap.size [.int .i64 o, .int .i64 k, .int .i64 x]) := h91q.out.asideL (by omega) 0 [.int .i64 (cc), .int .i64 (yy)]
             have h99q : Hid (Bo (u94q.setCells (u68q.heap.size + 1) 0 [.int .i64 (cc), .int .i64 (yy)]) u68q.heap.size (wl u)) := h92q.out.asideL (by omega) 0 [.int .i64 (cc), .int .i64 (yy)]
             have h100q : Hid (Bo (u94q.setCells (u68q.heap.size + 1) 0 [.int .i64 (cc), .int .i64 (yy)]) (u68q.heap.size + 1) [.int .i64 (cc), .int .i64 (yy)]) := h93q.out.set2 (.int .i64 (cc)) (.int .i64 (yy))
             clear h88q h89q h90q h91q h92q h93q
             generalize (u94q.setCells (u68q.heap.size + 1) 0 [.int .i64 (cc), .int .i64 (yy)]) = u101q at h95q h96q h97q h98q h99q h100q  ⊢
             have c102q := h98q.out.at 0 rfl
             have c103q := h98q.out.at 1 rfl
             have c104q := h98q.out.at 2 rfl)
          | (refine wpList_load_mid rfl 29 _ rfl u51q.heap.size _ rfl (wl e) _ h97q.out.range HC.out rfl (HCS.out e) ?_))
        refine (DO.out _).mono ?_
        rintro e u105q ⟨rfl, hb⟩
        have h106q : Hid (Gd n w u105q) := h95q.out.later hb
        have h107q : Hid (Bo u105q u44q.heap.size (wl e)) := h96q.out.later hb
        have h108q : Hid (Bo u105q u51q.heap.size (wl e)) := h97q.out.later hb
        have h109q : Hid (Bo u105q wr.heap.size [.int .i64 o, .int .i64 k, .int .i64 x]) := h98q.out.later hb
        have h110q : Hid (Bo u105q u68q.heap.size (wl u)) := h99q.out.later hb
        have h111q : Hid (Bo u105q (u68q.heap.size + 1) [.int .i64 (cc), .int .i64 (yy)]) := h100q.out.later hb
        clear h95q h96q h97q h98q h99q h100q
        clear hb
        have l112q : n ≤ u105q.heap.size := h106q.out.le
        have l113q : u44q.heap.size < u105q.heap.size := h107q.out.lt
        have l114q : u51q.heap.size < u105q.heap.size := h108q.out.lt
        have l115q : wr.heap.size < u105q.heap.size := h109q.out.lt
        have l116q : u68q.heap.size < u105q.heap.size := h110q.out.lt
        have l117q : (u68q.heap.size + 1) < u105q.heap.size := h111q.out.lt
        have h118q : Hid (Gd n w (u105q.alloc (.cells #[.int .u64 0, .int .u64 0, .int .u64 0, .int .u64 0, .int .u64 0, .int .u64 0, .int .u64 0, .int .u64 0, .int .u64 0, .int .u64 0, .int .u64 0, .int .u64 0, .int .u64 0, .int .u64 0, .int .u64 0, .int .u64 0, .int .u64 0] 29))) := h106q.out.new (.cells #[.int .u64 0, .int .u64 0, .int .u64 0, .int .u64 0, .int .u64 0, .int .u64 0, .int .u64 0, .int .u64 0, .int .u64 0, .int .u64 0, .int .u64 0, .int .u64 0, .int .u64 0, .int .u64 0, .int .u64 0, .int .u64 0, .int .u64 0] 29)
        have h119q : Hid (Bo (u105q.alloc (.cells #[.int .u64 0, .int .u64 0, .int .u64 0, .int .u64 0, .int .u64 0, .int .u64 0, .int .u64 0, .int .u64 0, .int .u64 0, .int .u64 0, .int .u64 0, .int .u64 0, .int .u64 0, .int .u64 0, .int .u64 0, .int .u64 0, .int .u64 0] 29)) u44q.heap.size (wl e)) := h107q.out.new (.cells #[.int .u64 0, .int .u64 0, .int .u64 0, .int .u64 0, .int .u64 0, .int .u64 0, .int .u64 0, .int .u64 0, .int .u64 0, .int .u64 0, .int .u64 0, .int .u64 0, .int .u64 0, .int .u64 0, .int .u64 0, .int .u64 0, .int .u64 0] 29)
        have h120q : Hid (Bo (u105q.alloc (.cells #[.int .u64 0, .int .u64 0, .int .u64 0, .int .u64 0, .int .u64 0, .int .u64 0, .int .u64 0, .int .u64 0, .int .u64 0, .int .u64 0, .int .u64 0, .int .u64 0, .int .u64 0, .int .u64 0, .int .u64 0, .int .u64 0, .int .u64 0] 29)) u51q.heap.size (wl e)) := h108q.out.new (.cells #[.int .u64 0, .int .u64 0, .int .u64 0, .int .u64 0, .int .u64 0, .int .u64 0, .int .u64 0, .int .u64 0, .int .u64 0, .int .u64 0, .int .u64 0, .int .u64 0, .int .u64 0, .int .u64 0, .int .u64 0, .int .u64 0, .int .u64 0] 29)
        have h121q : Hid (Bo (u105q.alloc (.cells #[.int .u64 0, .int .u64 0, .int .u64 0, .int .u64 0, .int .u64 0, .int .u64 0, .int .u64 0, .int .u64 0, .int .u64 0, .int .u64 0, .int .u64 0, .int .u64 0, .int .u64 0, .int .u64 0, .int .u64 0, .int .u64 0, .int .u64 0] 29)) wr.heap.size [.int .i64 o, .int .i64 k, .int .i64 x]) := h109q.out.new (.cells #[.int .u64 0, .int .u64 0, .int .u64 0, .int .u64 0, .int .u64 0, .int .u64 0, .int .u64 0, .int .u64 0, .int .u64 0, .int .u64 0, .int .u64 0, .int .u64 0, .int .u64 0, .int .u64 0, .int .u64 0, .int .u64 0, .int .u64 0] 29)
        have h122q : Hid (Bo (u105q.alloc (.cells #[.int .u64 0, .int .u64 0, .int .u64 0, .int .u64 0, .int .u64 0, .int .u64 0, .int .u64 0, .int .u64 0, .int .u64 0, .int .u64 0, .int .u64 0, .int .u64 0, .int .u64 0, .int .u64 0, .int .u64 0, .int .u64 0, .int .u64 0] 29)) u68q.heap.size (wl u)) := h110q.out.new (.cells #[.int .u64 0, .int .u64 0, .int .u64 0, .int .u64 0, .int .u64 0, .int .u64 0, .int .u64 0, .int .u64 0, .int .u64 0, .int .u64 0, .int .u64 0, .int .u64 0, .int .u64 0, .int .u64 0, .int .u64 0, .int .u64 0, .int .u64 0] 29)
        have h123q : Hid (Bo (u105q.alloc (.cells #[.int .u64 0, .int .u64 0, .int .u64 0, .int .u64 0, .int .u64 0, .int .u64 0, .int .u64 0, .int .u64 0, .int .u64 0, .int .u64 0, .int .u64 0, .int .u64 0, .int .u64 0, .int .u64 0, .int .u64 0, .int .u64 0, .int .u64 0] 29)) (u68q.heap.size + 1) [.int .i64 (cc), .int .i64 (yy)]) := h111q.out.new (.cells #[.int .u64 0, .int .u64 0, .int .u64 0, .int .u64 0, .int .u64 0, .int .u64 0, .int .u64 0, .int .u64 0, .int .u64 0, .int .u64 0, .int .u64 0, .int .u64 0, .int .u64 0, .int .u64 0, .int .u64 0, .int .u64 0, .int .u64 0] 29)
        clear h106q h107q h108q h109q h110q h111q
        have h124q : Hid (Bo (u105q.alloc (.cells #[.int .u64 0, .int .u64 0, .int .u64 0, .int .u64 0, .int .u64 0, .int .u64 0, .int .u64 0, .int .u64 0, .int .u64 0, .int .u64 0, .int .u64 0, .int .u64 0, .int .u64 0, .int .u64 0, .int .u64 0, .int .u64 0, .int .u64 0] 29)) u105q.heap.size (wl wz)) := Bo.born u105q (wl wz) 29 (by simp)
        have h125q : Hid (Gd n w ((u105q.alloc (.cells #[.int .u64 0, .int .u64 0, .int .u64 0, .int .u64 0, .int .u64 0, .int .u64 0, .int .u64 0, .int .u64 0, .int .u64 0, .int .u64 0, .int .u64 0, .int .u64 0, .int .u64 0, .int .u64 0, .int .u64 0, .int .u64 0, .int .u64 0] 29)).alloc (.cells #[.int .i64 0, .int .i64 0] 32))) := h118q.out.new (.cells #[.int .i64 0, .int .i64 0] 32)
        have h126q : Hid (Bo ((u105q.alloc (.cells #[.int .u64 0, .int .u64 0, .int .u64 0, .int .u64 0, .int .u64 0, .int .u64 0, .int .u64 0, .int .u64 0, .int .u64 0, .int .u64 0, .int .u64 0, .int .u64 0, .int .u64 0, .int .u64 0, .int .u64 0, .int .u64 0, .int .u64 0] 29)).alloc (.cells #[.int .i64 0, .int .i64 0] 32)) u44q.heap.size (wl e)) := h119q.out.new (.cells #[.int .i64 0, .int .i64 0] 32)
        have h127q : Hid (Bo ((u105q.alloc (.cells #[.int .u64 0, .int .u64 0, .int .u64 0, .int .u64 0, .int .u64 0, .int .u64 0, .int .u64 0, .int .u64 0, .int .u64 0, .int .u64 0, .int .u64 0, .int .u64 0, .int .u64 0, .int .u64 0, .int .u64 0, .int .u64 0, .int .u64 0] 29)).alloc (.cells #[.int .i64 0, .int .i64 0] 32)) u51q.heap.size (wl e)) := h120q.out.new (.cells #[.int .i64 0, .int .i64 0] 32)
        have h128q : Hid (Bo ((u105q.alloc (.cells #[.int .u64 0, .int .u64 0, .int .u64 0, .int .u64 0, .int .u64 0, .int .u64 0, .int .u64 0, .int .u64 0, .int .u64 0, .int .u64 0, .int .u64 0, .int .u64 0, .int .u64 0, .int .u64 0, .int .u64 0, .int .u64 0, .int .u64 0] 29)).alloc (.cells #[.int .i64 0, .int .i64 0] 32)) wr.heap.size [.int .i64 o, .int .i64 k, .int .i64 x]) := h121q.out.new (.cells #[.int .i64 0, .int .i64 0] 32)
        have h129q : Hid (Bo ((u105q.alloc (.cells #[.int .u64 0, .int .u64 0, .int .u64 0, .int .u64 0, .int .u64 0, .int .u64 0, .int .u64 0, .int .u64 0, .int .u64 0, .int .u64 0, .int .u64 0, .int .u64 0, .int .u64 0, .int .u64 0, .int .u64 0, .int .u64 0, .int .u64 0] 29)).alloc (.cells #[.int .i64 0, .int .i64 0] 32)) u68q.heap.size (wl u)) := h122q.out.new (.cells #[.int .i64 0, .int .i64 0] 32)
        have h130q : Hid (Bo ((u105q.alloc (.cells #[.int .u64 0, .int .u64 0, .int .u64 0, .int .u64 0, .int .u64 0, .int .u64 0, .int .u64 0, .int .u64 0, .int .u64 0, .int .u64 0, .int .u64 0, .int .u64 0, .int .u64 0, .int .u64 0, .int .u64 0, .int .u64 0, .int .u64 0] 29)).alloc (.cells #[.int .i64 0, .int .i64 0] 32)) (u68q.heap.size + 1) [.int .i64 (cc), .int .i64 (yy)]) := h123q.out.new (.cells #[.int .i64 0, .int .i64 0] 32)
        have h131q : Hid (Bo ((u105q.alloc (.cells #[.int .u64 0, .int .u64 0, .int .u64 0, .int .u64 0, .int .u64 0, .int .u64 0, .int .u64 0, .int .u64 0, .int .u64 0, .int .u64 0, .int .u64 0, .int .u64 0, .int .u64 0, .int .u64 0, .int .u64 0, .int .u64 0, .int .u64 0] 29)).alloc (.cells #[.int .i64 0, .int .i64 0] 32)) u105q.heap.size (wl wz)) := h124q.out.new (.cells #[.int .i64 0, .int .i64 0] 32)
        clear h118q h119q h120q h121q h122q h123q h124q
        have h132q : Hid (Bo ((u105q.alloc (.cells #[.int .u64 0, .int .u64 0, .int .u64 0, .int .u64 0, .int .u64 0, .int .u64 0, .int .u64 0, .int .u64 0, .int .u64 0, .int .u64 0, .int .u64 0, .int .u64 0, .int .u64 0, .int .u64 0, .int .u64 0, .int .u64 0, .int .u64 0] 29)).alloc (.cells #[.int .i64 0, .int .i64 0] 32)) (u105q.heap.size + 1) [.int .i64 0, .int .i64 0]) := Bo.born (u105q.alloc (.cells #[.int .u64 0, .int .u64 0, .int .u64 0, .int .u64 0, .int .u64 0, .int .u64 0, .int .u64 0, .int .u64 0, .int .u64 0, .int .u64 0, .int .u64 0, .int .u64 0, .int .u64 0, .int .u64 0, .int .u64 0, .int .u64 0, .int .u64 0] 29)) [.int .i64 0, .int .i64 0] 32 (by simp)
        go_wp2_with (first
          | (refine wpList_store_mid rfl 29 _ _ rfl u105q.heap.size _ (wl u).toArray rfl rfl (h131q.out.thereW u) (HCZ.out u) (wl_all u) ?_
             have h133q : Hid (Gd n w (((u105q.alloc (.cells #[.int .u64 0, .int .u64 0, .int .u64 0, .int .u64 0, .int .u64 0, .int .u64 0, .int .u64 0, .int .u64 0, .int .u64 0, .int .u64 0, .int .u64 0, .int .u64 0, .int .u64 0, .int .u64 0, .int .u64 0, .int .u64 0, .int .u64 0] 29)).alloc (.cells #[.int .i64 0, .int .i64 0] 32)).setCells u105q.heap.size 0 (wl u))) := h125q.out.asideL (by omega) 0 (wl u)
             have h134q : Hid (Bo (((u105q.alloc (.cells #[.int .u64 0, .int .u64 0, .int .u64 0, .int .u64 0, .int .u64 0, .int .u64 0, .int .u64 0, .int .u64 0, .int .u64 0, .int .u64 0, .int .u64 0, .int .u64 0, .int .u64 0, .int .u64 0, .int .u64 0, .int .u64 0, .int .u64 0] 29)).alloc (.cells #[.int .i64 0, .int .i64 0] 32)).setCells u105q.heap.size 0 (wl u)) u44q.heap.size (wl e)) := h126q.out.asideL (by omega) 0 (wl u)
             have h135q : Hid (Bo (((u105q.alloc (.cells #[.int .u64 0, .int .u64 0, .int .u64 0, .int .u64 0, .int .u64 0, .int .u64 0, .int .u64 0, .int .u64 0, .int .u64 0, .int .u64 0, .int .u64 0, .int .u64 0, .int .u64 0, .int .u64 0, .int .u64 0, .int .u64 0, .int .u64 0] 29)).alloc (.cells #[.int .i64 0, .int .i64 0] 32)).setCells u105q.heap.size 0 (wl u)) u51q.heap.size (wl e)) := h127q.out.asideL (by omega) 0 (wl u)
             have h136q : Hid (Bo (((u105q.alloc (.cells #[.int .u64 0, .int .u64 0, .int .u64 0, .int .u64 0, .int .u64 0, .int .u64 0, .int .u64 0, .int .u64 0, .int .u64 0, .int .u64 0, .int .u64 0, .int .u64 0, .int .u64 0, .int .u64 0, .int .u64 0, .int .u64 0, .int .u64 0] 29)).alloc (.cells #[.int .i64 0, .int .i64 0] 32)).setCells u105q.heap.size 0 (wl u)) wr.heap.size [.int .i64 o, .int .i64 k, .int .i64 x]) := h128q.out.asideL (by omega) 0 (wl u)
             have h137q : Hid (Bo (((u105q.alloc (.cells #[.int .u64 0, .int .u64 0, .int .u64 0, .int .u64 0, .int .u64 0, .int .u64 0, .int .u64 0, .int .u64 0, .int .u64 0, .int .u64 0, .int .u64 0, .int .u64 0, .int .u64 0, .int .u64 0, .int .u64 0, .int .u64 0, .int .u64 0] 29)).alloc (.cells #[.int .i64 0, .int .i64 0] 32)).setCells u105q.heap.size 0 (wl u)) u68q.heap.size (wl u)) := h129q.out.asideL (by omega) 0 (wl u)
             have h138q : Hid (Bo (((u105q.alloc (.cells #[.int .u64 0, .int .u64 0, .int .u64 0, .int .u64 0, .int .u64 0, .int .u64 0, .int .u64 0, .int .u64 0, .int .u64 0, .int .u64 0, .int .u64 0, .int .u64 0, .int .u64 0, .int .u64 0, .int .u64 0, .int .u64 0, .int .u64 0] 29)).alloc (.cells #[.int .i64 0, .int .i64 0] 32)).setCells u105q.heap.size 0 (wl u)) (u68q.heap.size + 1) [.int .i64 (cc), .int .i64 (yy)]) := h130q.out.asideL (by omega) 0 (wl u)
             have h139q : Hid (Bo (((u105q.alloc (.cells #[.int .u64 0, .int .u64 0, .int .u64 0, .int .u64 0, .int .u64 0, .int .u64 0, .int .u64 0, .int .u64 0, .int .u64 0, .int .u64 0, .int .u64 0, .int .u64 0, .int .u64 0, .int .u64 0, .int .u64 0, .int .u64 0, .int .u64 0] 29)).alloc (.cells #[.int .i64 0, .int .i64 0] 32)).setCells u105q.heap.size 0 (wl u)) u105q.heap.size (wl u)) := h131q.out.setW u
             have h140q : Hid (Bo (((u105q.alloc (.cells #[.int .u64 0, .int .u64 0, .int .u64 0, .int .u64 0, .int .u64 0, .int .u64 0, .int .u64 0, .int .u64 0, .int .u64 0, .int .u64 0, .int .u64 0, .int .u64 0, .int .u64 0, .int .u64 0, .int .u64 0, .int .u64 0, .int .u64 0] 29)).alloc (.cells #[.int .i64 0, .int .i64 0] 32)).setCells u105q.heap.size 0 (wl u)) (u105q.heap.size + 1) [.int .i64 0, .int .i64 0]) := h132q.out.asideL (by omega) 0 (wl u)
             clear h125q h126q h127q h128q h129q h130q h131q h132q
             generalize (((u105q.alloc (.cells #[.int .u64 0, .int .u64 0, .int .u64 0, .int .u64 0, .int .u64 0, .int .u64 0, .int .u64 0, .int .u64 0, .int .u64 0, .int .u64 0, .int .u64 0, .int .u64 0, .int .u64 0, .int .u64 0, .int .u64 0, .int .u64 0, .int .u64 0] 29)).alloc (.cells #[.int .i64 0, .int .i64 0] 32)).setCells u105q.heap.size 0 (wl u)) = u141q at h133q h134q h135q h136q h137q h138q h139q h140q  ⊢)
          | (refine wpList_store_mid rfl 32 _ _ rfl (u105q.heap.size + 1) _ #[.int .i64 (cc), .int .i64 (yy)] rfl rfl h140q.out.there2 HA.out (two_one _ _) ?_
             have h142q : Hid (Gd n w (u141q.setCells (u105q.heap.size + 1) 0 [.int .i64 (cc), .int .i64 (yy)])) := h133q.out.asideL (by omega) 0 [.int .i64 (cc), .int .i64 (yy)]
             have h143q : Hid (Bo (u141q.setCells (u105q.heap.size + 1) 0 [.int .i64 (cc), .int .i64 (yy)]) u44q.heap.size (wl e)) := h134q.out.asideL (by omega) 0 [.int .i64 (cc), .int .i64 (yy)]
             have h144q : Hid (Bo (u141q.setCells (u105q.heap.size + 1) 0 [.int .i64 (cc), .int .i64 (yy)]) u51q.heap.size (wl e)) := h135q.out.asideL (by omega) 0 [.int .i64 (cc), .int .i64 (yy)]
             have h145q : Hid (Bo (u141q.setCells (u105q.heap.size + 1) 0 [.int .i64 (cc), .int .i64 (yy)]) wr.heap.size [.int .i64 o, .int .i64 k, .int .i64 x]) := h136q.out.asideL (by omega) 0 [.int .i64 (cc), .int .i64 (yy)]
             have h146q : Hid (Bo (u141q.setCells (u105q.heap.size + 1) 0 [.int .i64 (cc), .int .i64 (yy)]) u68q.heap.size (wl u)) := h137q.out.asideL (by omega) 0 [.int .i64 (cc), .int .i64 (yy)]
             have h147q : Hid (Bo (u141q.setCells (u105q.heap.size + 1) 0 [.int .i64 (cc), .int .i64 (yy)]) (u68q.heap.size + 1) [.int .i64 (cc), .int .i64 (yy)]) := h138q.out.asideL (by omega) 0 [.int .i64 (cc), .int .i64 (yy)]
             have h148q : Hid (Bo (u141q.setCells (u105q.heap.size + 1) 0 [.int .i64 (cc), .int .i64 (yy)]) u105q.heap.size (wl u)) := h139q.out.asideL (by omega) 0 [.int .i64 (cc), .int .i64 (yy)]
             have h149q : Hid (Bo (u141q.setCells (u105q.heap.size + 1) 0 [.int .i64 (cc), .int .i64 (yy)]) (u105q.heap.size + 1) [.int .i64 (cc), .int .i64 (yy)]) := h140q.out.set2 (.int .i64 (cc)) (.int .i64 (yy))
             clear h133q h134q h135q h136q h137q h138q h139q h140q
             generalize (u141q.setCells (u105q.heap.size + 1) 0 [.int .i64 (cc), .int .i64 (yy)]) = u150q at h142q h143q h144q h145q h146q h147q h148q h149q  ⊢))
        have h151q : Hid (Gd n w u150q.drew) := h142q.out.drew
        have h152q : Hid (Bo u150q.drew u44q.heap.size (wl e)) := h143q.out.drew
        have h153q : Hid (Bo u150q.drew u51q.heap.size (wl e)) := h144q.out.drew
        have h154q : Hid (Bo u150q.drew wr.heap.size [.int .i64 o, .int .i64 k, .int .i64 x]) := h145q.out.drew
        have h155q : Hid (Bo u150q.drew u68q.heap.size (wl u)) := h146q.out.drew
        have h156q : Hid (Bo u150q.drew (u68q.heap.size + 1) [.int .i64 (cc), .int .i64 (yy)]) := h147q.out.drew
        have h157q : Hid (Bo u150q.drew u105q.heap.size (wl u)) := h148q.out.drew
        have h158q : Hid (Bo u150q.drew (u105q.heap.size + 1) [.int .i64 (cc), .int .i64 (yy)]) := h149q.out.drew
        clear h142q h143q h144q h145q h146q h147q h148q h149q
        refine wp_region_held_drew (S := fun w' => Bo w' u68q.heap.size (wl u) ∧ Bo w' (u68q.heap.size + 1) [.int .i64 (cc), .int .i64 (yy)] ∧ Bo w' u105q.heap.size (wl u) ∧ Bo w' (u105q.heap.size + 1) [.int .i64 (cc), .int .i64 (yy)]) (by kernel_rfl) ⟨h155q.out, h156q.out, h157q.out, h158q.out⟩ (fun hH => ?_)
        generalize u150q.drew = u159q at h151q h152q h153q h154q h155q h156q h157q h158q hH ⊢
        refine wpAnyH_take (i := 0) (oi := { dst := some 51, op := .move (.tmp 13), type := _, pos := _, after := _, guard := _ }) (v := ?_) rfl (by kernel_rfl) (by kernel_rfl) (by kernel_rfl) (fun _ _ _ h => h) (Or.inl ⟨by rfl, ?_⟩) hH ?_
        rotate_left
        · intro w hSw
          clear hSw
          go_simp
          try with_reducible rfl
        simp only [Act.put, List.setIfInBounds_toArray, List.set_cons_zero, List.set_cons_succ]
        refine wpAnyH_take (i := 1) (oi := { dst := some 52, op := .binOp .eql _ (.tmp 51) (.const .nilIface) _, type := _, pos := _, after := _, guard := _ }) (v := ?_) rfl (by kernel_rfl) (by kernel_rfl) (by kernel_rfl) (fun _ _ _ h => h) (Or.inl ⟨by rfl, ?_⟩) hH ?_
        rotate_left
        · intro w hSw
          clear hSw
          go_simp
          try with_reducible rfl
        simp only [Act.put, List.setIfInBounds_toArray, List.set_cons_zero, List.set_cons_succ]
        refine wpAnyH_take (i := 2) (oi := { dst := some 53, op := .move (.tmp 16), type := _, pos := _, after := _, guard := _ }) (v := ?_) rfl (by kernel_rfl) (by kernel_rfl) (by kernel_rfl) (fun _ _ _ h => h) (Or.inl ⟨by rfl, ?_⟩) hH ?_
        rotate_left
        · intro w hSw
          clear hSw
          go_simp
          try with_reducible rfl
        simp only [Act.put, List.setIfInBounds_toArray, List.set_cons_zero, List.set_cons_succ]
        refine wpAnyH_take (i := 3) (oi := { dst := some 54, op := .binOp .eql _ (.tmp 53) (.const .nilIface) _, type := _, pos := _, after := _, guard := _ }) (v := ?_) rfl (by kernel_rfl) (by kernel_rfl) (by kernel_rfl) (fun _ _ _ h => h) (Or.inl ⟨by rfl, ?_⟩) hH ?_
        rotate_left
        · intro w hSw
          clear hSw
          go_simp
          try with_reducible rfl
        simp only [Act.put, List.setIfInBounds_toArray, List.set_cons_zero, List.set_cons_succ]
        refine wpAnyH_take (i := 4) (oi := { dst := some 55, op := .binOp .neq _ (.tmp 52) (.tmp 54) _, type := _, pos := _, after := _, guard := _ }) (v := ?_) rfl (by kernel_rfl) (by kernel_rfl) (by kernel_rfl) (fun _ _ _ h => h) (Or.inl ⟨by rfl, ?_⟩) hH ?_
        rotate_left
        · intro w hSw
          clear hSw
          go_simp
          try with_reducible rfl
        simp only [Act.put, List.setIfInBounds_toArray, List.set_cons_zero, List.set_cons_succ]
        refine wpAnyH_take (i := 5) (oi := { dst := some 56, op := .move (.tmp 55), type := _, pos := _, after := _, guard := _ }) (v := ?_) rfl (by kernel_rfl) (by kernel_rfl) (by kernel_rfl) (fun _ _ _ h => h) (Or.inl ⟨by rfl, ?_⟩) hH ?_
        rotate_left
        · intro w hSw
          clear hSw
          go_simp
          try with_reducible rfl
        simp only [Act.put, List.setIfInBounds_toArray, List.set_cons_zero, List.set_cons_succ]
        refine wpAnyH_take (i := 6) (oi := { dst := some 57, op := .load _ (.tmp 12), type := _, pos := _, after := _, guard := _ }) (v := ?_) rfl (by kernel_rfl) (by kernel_rfl) (by kernel_rfl) (fun _ _ _ h => h) (Or.inl ⟨by rfl, ?_⟩) hH ?_
        rotate_left
        · intro w hSw
          have c160q := (hSw.2.1).at 0 rfl
          have c161q := (hSw.2.1).at 1 rfl
          clear hSw
          go_simp
          try with_reducible rfl
        simp only [Act.put, List.setIfInBounds_toArray, List.set_cons_zero, List.set_cons_succ]
        refine wpAnyH_take (i := 7) (oi := { dst := some 58, op := .load _ (.tmp 15), type := _, pos := _, after := _, guard := _ }) (v := ?_) rfl (by kernel_rfl) (by kernel_rfl) (by kernel_rfl) (fun _ _ _ h => h) (Or.inl ⟨by rfl, ?_⟩) hH ?_
        rotate_left
        · intro w hSw
          have c162q := (hSw.2.2.2).at 0 rfl
          have c163q := (hSw.2.2.2).at 1 rfl
          clear hSw
          go_simp
          try with_reducible rfl
        simp only [Act.put, List.setIfInBounds_toArray, List.set_cons_zero, List.set_cons_succ]
        refine wpAnyH_take (i := 8) (oi := { dst := some 59, op := .binOp .neq _ (.tmp 57) (.tmp 58) _, type := _, pos := _, after := _, guard := _ }) (v := ?_) rfl (by kernel_rfl) (by kernel_rfl) (by kernel_rfl) (fun _ _ _ h => h) (Or.inl ⟨by rfl, ?_⟩) hH ?_
        rotate_left
        · intro w hSw
          clear hSw
          go_simp
          try with_reducible rfl
        simp only [Act.put, List.setIfInBounds_toArray, List.set_cons_zero, List.set_cons_succ]
        refine wpAnyH_take (i := 9) (oi := { dst := some 60, op := .pick (.tmp 56) (.const (.bool true)) (.tmp 59), type := _, pos := _, after := _, guard := _ }) (v := ?_) rfl (by kernel_rfl) (by kernel_rfl) (by kernel_rfl) (fun _ _ _ h => h) (Or.inl ⟨by rfl, ?_⟩) hH ?_
        rotate_left
        · intro w hSw
          clear hSw
          go_simp
          try with_reducible rfl
        simp only [Act.put, List.setIfInBounds_toArray, List.set_cons_zero, List.set_cons_succ]
        refine wpAnyH_take (i := 10) (oi := { dst := some 61, op := .move (.tmp 60), type := _, pos := _, after := _, guard := _ }) (v := ?_) rfl (by kernel_rfl) (by kernel_rfl) (by kernel_rfl) (fun _ _ _ h => h) (Or.inl ⟨by rfl, ?_⟩) hH ?_
        rotate_left
        · intro w hSw
          clear hSw
          go_simp
          try with_reducible rfl
        simp only [Act.put, List.setIfInBounds_toArray, List.set_cons_zero, List.set_cons_succ]
        refine wpAnyH_take (i := 11) (oi := { dst := some 62, op := .load _ (.tmp 11), type := _, pos := _, after := _, guard := _ }) (v := _) rfl (by kernel_rfl) (by kernel_rfl) (by kernel_rfl) (fun _ _ _ h => h) (yieldsIf_load_mid (by rfl) _ _ rfl u68q.heap.size _ rfl (wl u) _ (fun _ h => (h.1).range) HC.out rfl (HCS.out u)) hH ?_
        simp only [Act.put, List.setIfInBounds_toArray, List.set_cons_zero, List.set_cons_succ]
        refine wpAnyH_take (i := 12) (oi := { dst := some 63, op := .load _ (.tmp 14), type := _, pos := _, after := _, guard := _ }) (v := _) rfl (by kernel_rfl) (by kernel_rfl) (by kernel_rfl) (fun _ _ _ h => h) (yieldsIf_load_mid (by rfl) _ _ rfl u105q.heap.size _ rfl (wl u) _ (fun _ h => (h.2.2.1).range) HC.out rfl (HCS.out u)) hH ?_
        simp only [Act.put, List.setIfInBounds_toArray, List.set_cons_zero, List.set_cons_succ]
        refine wpAnyH_take (i := 13) (oi := { dst := some 64, op := .binOp .neq _ (.tmp 62) (.tmp 63) _, type := _, pos := _, after := _, guard := _ }) (v := ?_) rfl (by kernel_rfl) (by kernel_rfl) (by kernel_rfl) (fun _ _ _ h => h) (Or.inl ⟨by rfl, ?_⟩) hH ?_
        rotate_left
        · intro w hSw
          clear hSw
          go_simp
          try with_reducible rfl
        simp only [Act.put, List.setIfInBounds_toArray, List.set_cons_zero, List.set_cons_succ]
        refine wpAnyH_take (i := 14) (oi := { dst := some 65, op := .pick (.tmp 61) (.const (.bool true)) (.tmp 64), type := _, pos := _, after := _, guard := _ }) (v := ?_) rfl (by kernel_rfl) (by kernel_rfl) (by kernel_rfl) (fun _ _ _ h => h) (Or.inl ⟨by rfl, ?_⟩) hH ?_
        rotate_left
        · intro w hSw
          clear hSw
          go_simp
          try with_reducible rfl
        simp only [Act.put, List.setIfInBounds_toArray, List.set_cons_zero, List.set_cons_succ]
        refine wpAnyH_done (by kernel_rfl) ?_ _
        go_wp2_with fail
        have h164q : Hid (Gd n w u159q.drew) := h151q.out.drew
        have h165q : Hid (Bo u159q.drew u44q.heap.size (wl e)) := h152q.out.drew
        have h166q : Hid (Bo u159q.drew u51q.heap.size (wl e)) := h153q.out.drew
        have h167q : Hid (Bo u159q.drew wr.heap.size [.int .i64 o, .int .i64 k, .int .i64 x]) := h154q.out.drew
        have h168q : Hid (Bo u159q.drew u68q.heap.size (wl u)) := h155q.out.drew
        have h169q : Hid (Bo u159q.drew (u68q.heap.size + 1) [.int .i64 (cc), .int .i64 (yy)]) := h156q.out.drew
        have h170q : Hid (Bo u159q.drew u105q.heap.size (wl u)) := h157q.out.drew
        have h171q : Hid (Bo u159q.drew (u105q.heap.size + 1) [.int .i64 (cc), .int .i64 (yy)]) := h158q.out.drew
        clear h151q h152q h153q h154q h155q h156q h157q h158q
        refine wp_region_held_drew (S := fun w' => Bo w' u68q.heap.size (wl u) ∧ Bo w' u105q.heap.size (wl u)) (by kernel_rfl) ⟨h168q.out, h170q.out⟩ (fun hH => ?_)
        generalize u159q.drew = u172q at h164q h165q h166q h167q h168q h169q h170q h171q hH ⊢
        refine wpAnyH_take (i := 0) (oi := { dst := some 68, op := .load _ (.tmp 11), type := _, pos := _, after := _, guard := _ }) (v := _) rfl (by kernel_rfl) (by kernel_rfl) (by kernel_rfl) (fun _ _ _ h => h) (yieldsIf_load_mid (by rfl) _ _ rfl u68q.heap.size _ rfl (wl u) _ (fun _ h => (h.1).range) HC.out rfl (HCS.out u)) hH ?_
        simp only [Act.put, List.setIfInBounds_toArray, List.set_cons_zero, List.set_cons_succ]
        refine wpAnyH_take (i := 1) (oi := { dst := some 69, op := .load _ (.tmp 14), type := _, pos := _, after := _, guard := _ }) (v := _) rfl (by kernel_rfl) (by kernel_rfl) (by kernel_rfl) (fun _ _ _ h => h) (yieldsIf_load_mid (by rfl) _ _ rfl u105q.heap.size _ rfl (wl u) _ (fun _ h => (h.2).range) HC.out rfl (HCS.out u)) hH ?_
        simp only [Act.put, List.setIfInBounds_toArray, List.set_cons_zero, List.set_cons_succ]
        refine wpAnyH_ready (rs := [2]) (by kernel_rfl) (by simp) ?_
        refine AllReadyH.cons (o := { dst := none, op := .store _ (.tmp 7) (.tmp 68), type := _, pos := _, after := _, guard := _ }) rfl (fun K hK => ?_) AllReadyH.nil
        rw [if_pos (by rfl)]
        refine wp_store_mid _ _ _ rfl u44q.heap.size _ (wl u).toArray rfl rfl (h165q.out.thereW u) (HCZ.out u) (wl_all u) ?_
        simp only [Act.put]
        have h173q : Hid (Gd n w (u172q.setCells u44q.heap.size 0 (wl u))) := h164q.out.asideL (by omega) 0 (wl u)
        have h174q : Hid (Bo (u172q.setCells u44q.heap.size 0 (wl u)) u44q.heap.size (wl u)) := h165q.out.setW u
        have h175q : Hid (Bo (u172q.setCells u44q.heap.size 0 (wl u)) u51q.heap.size (wl e)) := h166q.out.asideL (by omega) 0 (wl u)
        have h176q : Hid (Bo (u172q.setCells u44q.heap.size 0 (wl u)) wr.heap.size [.int .i64 o, .int .i64 k, .int .i64 x]) := h167q.out.asideL (by omega) 0 (wl u)
        have h177q : Hid (Bo (u172q.setCells u44q.heap.size 0 (wl u)) u68q.heap.size (wl u)) := h168q.out.asideL (by omega) 0 (wl u)
        have h178q : Hid (Bo (u172q.setCells u44q.heap.size 0 (wl u)) (u68q.heap.size + 1) [.int .i64 (cc), .int .i64 (yy)]) := h169q.out.asideL (by omega) 0 (wl u)
        have h179q : Hid (Bo (u172q.setCells u44q.heap.size 0 (wl u)) u105q.heap.size (wl u)) := h170q.out.asideL (by omega) 0 (wl u)
        have h180q : Hid (Bo (u172q.setCells u44q.heap.size 0 (wl u)) (u105q.heap.size + 1) [.int .i64 (cc), .int .i64 (yy)]) := h171q.out.asideL (by omega) 0 (wl u)
        clear h164q h165q h166q h167q h168q h169q h170q h171q
        refine hK.out _ _ ⟨h177q.out, h179q.out⟩ (fun hH => ?_)
        clear hK K
        generalize (u172q.setCells u44q.heap.size 0 (wl u)) = u181q at h173q h174q h175q h176q h177q h178q h179q h180q hH ⊢
        try simp only [Act.put, List.setIfInBounds_toArray, List.set_cons_zero, List.set_cons_succ]
        refine wpAnyH_ready (rs := [3]) (by kernel_rfl) (by simp) ?_
        refine AllReadyH.cons (o := { dst := none, op := .store _ (.tmp 8) (.tmp 69), type := _, pos := _, after := _, guard := _ }) rfl (fun K hK => ?_) AllReadyH.nil
        rw [if_pos (by rfl)]
        refine wp_store_mid _ _ _ rfl u51q.heap.size _ (wl u).toArray rfl rfl (h175q.out.thereW u) (HCZ.out u) (wl_all u) ?_
        simp only [Act.put]
        have h182q : Hid (Gd n w (u181q.setCells u51q.heap.size 0 (wl u))) := h173q.out.asideL (by omega) 0 (wl u)
        have h183q : Hid (Bo (u181q.setCells u51q.heap.size 0 (wl u)) u44q.heap.size (wl u)) := h174q.out.asideL (by omega) 0 (wl u)
        have h184q : Hid (Bo (u181q.setCells u51q.heap.size 0 (wl u)) u51q.heap.size (wl u)) := h175q.out.setW u
        have h185q : Hid (Bo (u181q.setCells u51q.heap.size 0 (wl u)) wr.heap.size [.int .i64 o, .int .i64 k, .int .i64 x]) := h176q.out.asideL (by omega) 0 (wl u)
        have h186q : Hid (Bo (u181q.setCells u51q.heap.size 0 (wl u)) u68q.heap.size (wl u)) := h177q.out.asideL (by omega) 0 (wl u)
        have h187q : Hid (Bo (u181q.setCells u51q.heap.size 0 (wl u)) (u68q.heap.size + 1) [.int .i64 (cc), .int .i64 (yy)]) := h178q.out.asideL (by omega) 0 (wl u)
        have h188q : Hid (Bo (u181q.setCells u51q.heap.size 0 (wl u)) u105q.heap.size (wl u)) := h179q.out.asideL (by omega) 0 (wl u)
        have h189q : Hid (Bo (u181q.setCells u51q.heap.size 0 (wl u)) (u105q.heap.size + 1) [.int .i64 (cc), .int .i64 (yy)]) := h180q.out.asideL (by omega) 0 (wl u)
        clear h173q h174q h175q h176q h177q h178q h179q h180q
        refine hK.out _ _ ⟨h186q.out, h188q.out⟩ (fun hH => ?_)
        clear hK K
        generalize (u181q.setCells u51q.heap.size 0 (wl u)) = u190q at h182q h183q h184q h185q h186q h187q h188q h189q hH ⊢
        try simp only [Act.put, List.setIfInBounds_toArray, List.set_cons_zero, List.set_cons_succ]
        refine wpAnyH_done (by kernel_rfl) ?_ _
        go_wp2
        go_roundg (q - (i + 1))
        case measure => omega
        case rel => exact ⟨i + 1, by omega, by omega, by go_num, h182q, u, RU, h183q, h184q⟩
      · have HO : Hid _ := R
        have DO : Hid (∀ w, Calls Try.prog 10 #[.int .i64 (r : Nat), .agg (wl e).toArray, .agg #[.int .i64 o, .int .i64 k, .int .i64 x]] w (Refd w)) := fun w => obDo_no (fun h => hR h.1) w
        clear hR HO
        have l191q : n ≤ wr.heap.size := G.out.le
        have l192q : u44q.heap.size < wr.heap.size := C1.out.lt
        have l193q : u51q.heap.size < wr.heap.size := C2.out.lt
        have h194q : Hid (Gd n w (wr.alloc (.cells #[.int .i64 o, .int .i64 k, .int .i64 x] 24))) := G.out.new (.cells #[.int .i64 o, .int .i64 k, .int .i64 x] 24)
        have h195q : Hid (Bo (wr.alloc (.cells #[.int .i64 o, .int .i64 k, .int .i64 x] 24)) u44q.heap.size (wl e)) := C1.out.new (.cells #[.int .i64 o, .int .i64 k, .int .i64 x] 24)
        have h196q : Hid (Bo (wr.alloc (.cells #[.int .i64 o, .int .i64 k, .int .i64 x] 24)) u51q.heap.size (wl e)) := C2.out.new (.cells #[.int .i64 o, .int .i64 k, .int .i64 x] 24)
        clear G C1 C2
        have h197q : Hid (Bo (wr.alloc (.cells #[.int .i64 o, .int .i64 k, .int .i64 x] 24)) wr.heap.size [.int .i64 o, .int .i64 k, .int .i64 x]) := Bo.born wr [.int .i64 o, .int .i64 k, .int .i64 x] 24 (by simp)
        have e0 := h197q.out.at 0 rfl
        have e1 := h197q.out.at 1 rfl
        have e2 := h197q.out.at 2 rfl
        go_wp2_with (first
          | (refine wpList_load_mid rfl 29 _ rfl u44q.heap.size _ rfl (wl e) _ h195q.out.range HC.out rfl (HCS.out e) ?_))
        clear e0 e1 e2 c0 c1 c2
        refine (DO.out _).mono ?_
        rintro e u198q ⟨rfl, hb⟩
        have h199q : Hid (Gd n w u198q) := h194q.out.later hb
        have h200q : Hid (Bo u198q u44q.heap.size (wl e)) := h195q.out.later hb
        have h201q : Hid (Bo u198q u51q.heap.size (wl e)) := h196q.out.later hb
        have h202q : Hid (Bo u198q wr.heap.size [.int .i64 o, .int .i64 k, .int .i64 x]) := h197q.out.later hb
        clear h194q h195q h196q h197q
        clear hb
        have l203q : n ≤ u198q.heap.size := h199q.out.le
        have l204q : u44q.heap.size < u198q.heap.size := h200q.out.lt
        have l205q : u51q.heap.size < u198q.heap.size := h201q.out.lt
        have l206q : wr.heap.size < u198q.heap.size := h202q.out.lt
        have h207q : Hid (Gd n w (u198q.alloc (.cells #[.int .u64 0, .int .u64 0, .int .u64 0, .int .u64 0, .int .u64 0, .int .u64 0, .int .u64 0, .int .u64 0, .int .u64 0, .int .u64 0, .int .u64 0, .int .u64 0, .int .u64 0, .int .u64 0, .int .u64 0, .int .u64 0, .int .u64 0] 29))) := h199q.out.new (.cells #[.int .u64 0, .int .u64 0, .int .u64 0, .int .u64 0, .int .u64 0, .int .u64 0, .int .u64 0, .int .u64 0, .int .u64 0, .int .u64 0, .int .u64 0, .int .u64 0, .int .u64 0, .int .u64 0, .int .u64 0, .int .u64 0, .int .u64 0] 29)
        have h208q : Hid (Bo (u198q.alloc (.cells #[.int .u64 0, .int .u64 0, .int .u64 0, .int .u64 0, .int .u64 0, .int .u64 0, .int .u64 0, .int .u64 0, .int .u64 0, .int .u64 0, .int .u64 0, .int .u64 0, .int .u64 0, .int .u64 0, .int .u64 0, .int .u64 0, .int .u64 0] 29)) u44q.heap.size (wl e)) := h200q.out.new (.cells #[.int .u64 0, .int .u64 0, .int .u64 0, .int .u64 0, .int .u64 0, .int .u64 0, .int .u64 0, .int .u64 0, .int .u64 0, .int .u64 0, .int .u64 0, .int .u64 0, .int .u64 0, .int .u64 0, .int .u64 0, .int .u64 0, .int .u64 0] 29)
        have h209q : Hid (Bo (u198q.alloc (.cells #[.int .u64 0, .int .u64 0, .int .u64 0, .int .u64 0, .int .u64 0, .int .u64 0, .int .u64 0, .int .u64 0, .int .u64 0, .int .u64 0, .int .u64 0, .int .u64 0, .int .u64 0, .int .u64 0, .int .u64 0, .int .u64 0, .int .u64 0] 29)) u51q.heap.size (wl e)) := h201q.out.new (.cells #[.int .u64 0, .int .u64 0, .int .u64 0, .int .u64 0, .int .u64 0, .int .u64 0, .int .u64 0, .int .u64 0, .int .u64 0, .int .u64 0, .int .u64 0, .int .u64 0, .int .u64 0, .int .u64 0, .int .u64 0, .int .u64 0, .int .u64 0] 29)
        have h210q : Hid (Bo (u198q.alloc (.cells #[.int .u64 0, .int .u64 0, .int .u64 0, .int .u64 0, .int .u64 0, .int .u64 0, .int .u64 0, .int .u64 0, .int .u64 0, .int .u64 0, .int .u64 0, .int .u64 0, .int .u64 0, .int .u64 0, .int .u64 0, .int .u64 0, .int .u64 0] 29)) wr.heap.size [.int .i64 o, .int .i64 k, .int .i64 x]) := h202q.out.new (.cells #[.int .u64 0, .int .u64 0, .int .u64 0, .int .u64 0, .int .u64 0, .int .u64 0, .int .u64 0, .int .u64 0, .int .u64 0, .int .u64 0, .int .u64 0, .int .u64 0, .int .u64 0, .int .u64 0, .int .u64 0, .int .u64 0, .int .u64 0] 29)
        clear h199q h200q h201q h202q
        have h211q : Hid (Bo (u198q.alloc (.cells #[.int .u64 0, .int .u64 0, .int .u64 0, .int .u64 0, .int .u64 0, .int .u64 0, .int .u64 0, .int .u64 0, .int .u64 0, .int .u64 0, .int .u64 0, .int .u64 0, .int .u64 0, .int .u64 0, .int .u64 0, .int .u64 0, .int .u64 0] 29)) u198q.heap.size (wl wz)) := Bo.born u198q (wl wz) 29 (by simp)
        have h212q : Hid (Gd n w ((u198q.alloc (.cells #[.int .u64 0, .int .u64 0, .int .u64 0, .int .u64 0, .int .u64 0, .int .u64 0, .int .u64 0, .int .u64 0, .int .u64 0, .int .u64 0, .int .u64 0, .int .u64 0, .int .u64 0, .int .u64 0, .int .u64 0, .int .u64 0, .int .u64 0] 29)).alloc (.cells #[.int .i64 0, .int .i64 0] 32))) := h207q.out.new (.cells #[.int .i64 0, .int .i64 0] 32)
        have h213q : Hid (Bo ((u198q.alloc (.cells #[.int .u64 0, .int .u64 0, .int .u64 0, .int .u64 0, .int .u64 0, .int .u64 0, .int .u64 0, .int .u64 0, .int .u64 0, .int .u64 0, .int .u64 0, .int .u64 0, .int .u64 0, .int .u64 0, .int .u64 0, .int .u64 0, .int .u64 0] 29)).alloc (.cells #[.int .i64 0, .int .i64 0] 32)) u44q.heap.size (wl e)) := h208q.out.new (.cells #[.int .i64 0, .int .i64 0] 32)
        have h214q : Hid (Bo ((u198q.alloc (.cells #[.int .u64 0, .int .u64 0, .int .u64 0, .int .u64 0, .int .u64 0, .int .u64 0, .int .u64 0, .int .u64 0, .int .u64 0, .int .u64 0, .int .u64 0, .int .u64 0, .int .u64 0, .int .u64 0, .int .u64 0, .int .u64 0, .int .u64 0] 29)).alloc (.cells #[.int .i64 0, .int .i64 0] 32)) u51q.heap.size (wl e)) := h209q.out.new (.cells #[.int .i64 0, .int .i64 0] 32)
        have h215q : Hid (Bo ((u198q.alloc (.cells #[.int .u64 0, .int .u64 0, .int .u64 0, .int .u64 0, .int .u64 0, .int .u64 0, .int .u64 0, .int .u64 0, .int .u64 0, .int .u64 0, .int .u64 0, .int .u64 0, .int .u64 0, .int .u64 0, .int .u64 0, .int .u64 0, .int .u64 0] 29)).alloc (.cells #[.int .i64 0, .int .i64 0] 32)) wr.heap.size [.int .i64 o, .int .i64 k, .int .i64 x]) := h210q.out.new (.cells #[.int .i64 0, .int .i64 0] 32)
        have h216q : Hid (Bo ((u198q.alloc (.cells #[.int .u64 0, .int .u64 0, .int .u64 0, .int .u64 0, .int .u64 0, .int .u64 0, .int .u64 0, .int .u64 0, .int .u64 0, .int .u64 0, .int .u64 0, .int .u64 0, .int .u64 0, .int .u64 0, .int .u64 0, .int .u64 0, .int .u64 0] 29)).alloc (.cells #[.int .i64 0, .int .i64 0] 32)) u198q.heap.size (wl wz)) := h211q.out.new (.cells #[.int .i64 0, .int .i64 0] 32)
        clear h207q h208q h209q h210q h211q
        have h217q : Hid (Bo ((u198q.alloc (.cells #[.int .u64 0, .int .u64 0, .int .u64 0, .int .u64 0, .int .u64 0, .int .u64 0, .int .u64 0, .int .u64 0, .int .u64 0, .int .u64 0, .int .u64 0, .int .u64 0, .int .u64 0, .int .u64 0, .int .u64 0, .int .u64 0, .int .u64 0] 29)).alloc (.cells #[.int .i64 0, .int .i64 0] 32)) (u198q.heap.size + 1) [.int .i64 0, .int .i64 0]) := Bo.born (u198q.alloc (.cells #[.int .u64 0, .int .u64 0, .int .u64 0, .int .u64 0, .int .u64 0, .int .u64 0, .int .u64 0, .int .u64 0, .int .u64 0, .int .u64 0, .int .u64 0, .int .u64 0, .int .u64 0, .int .u64 0, .int .u64 0, .int .u64 0, .int .u64 0] 29)) [.int .i64 0, .int .i64 0] 32 (by simp)
        go_wp2_with (first
          | (refine wpList_store_mid rfl 29 _ _ rfl u198q.heap.size _ (wl wz).toArray rfl rfl (h216q.out.thereW wz) (HCZ.out wz) (wl_all wz) ?_
             have h218q : Hid (Gd n w (((u198q.alloc (.cells #[.int .u64 0, .int .u64 0, .int .u64 0, .int .u64 0, .int .u64 0, .int .u64 0, .int .u64 0, .int .u64 0, .int .u64 0, .int .u64 0, .int .u64 0, .int .u64 0, .int .u64 0, .int .u64 0, .int .u64 0, .int .u64 0, .int .u64 0] 29)).alloc (.cells #[.int .i64 0, .int .i64 0] 32)).setCells u198q.heap.size 0 (wl wz))) := h212q.out.asideL (by omega) 0 (wl wz)
             have h219q : Hid (Bo (((u198q.alloc (.cells #[.int .u64 0, .int .u64 0, .int .u64 0, .int .u64 0, .int .u64 0, .int .u64 0, .int .u64 0, .int .u64 0, .int .u64 0, .int .u64 0, .int .u64 0, .int .u64 0, .int .u64 0, .int .u64 0, .int .u64 0, .int .u64 0, .int .u64 0] 29)).alloc (.cells #[.int .i64 0, .int .i64 0] 32)).setCells u198q.heap.size 0 (wl wz)) u44q.heap.size (wl e)) := h213q.out.asideL (by omega) 0 (wl wz)
             have h220q : Hid (Bo (((u198q.alloc (.cells #[.int .u64 0, .int .u64 0, .int .u64 0, .int .u64 0, .int .u64 0, .int .u64 0, .int .u64 0, .int .u64 0, .int .u64 0, .int .u64 0, .int .u64 0, .int .u64 0, .int .u64 0, .int .u64 0, .int .u64 0, .int .u64 0, .int .u64 0] 29)).alloc (.cells #[.int .i64 0, .int .i64 0] 32)).setCells u198q.heap.size 0 (wl wz)) u51q.heap.size (wl e)) := h214q.out.asideL (by omega) 0 (wl wz)
             have h221q : Hid (Bo (((u198q.alloc (.cells #[.int .u64 0, .int .u64 0, .int .u64 0, .int .u64 0, .int .u64 0, .int .u64 0, .int .u64 0, .int .u64 0, .int .u64 0, .int .u64 0, .int .u64 0, .int .u64 0, .int .u64 0, .int .u64 0, .int .u64 0, .int .u64 0, .int .u64 0] 29)).alloc (.cells #[.int .i64 0, .int .i64 0] 32)).setCells u198q.heap.size 0 (wl wz)) wr.heap.size [.int .i64 o, .int .i64 k, .int .i64 x]) := h215q.out.asideL (by omega) 0 (wl wz)
             have h222q : Hid (Bo (((u198q.alloc (.cells #[.int .u64 0, .int .u64 0, .int .u64 0, .int .u64 0, .int .u64 0, .int .u64 0, .int .u64 0, .int .u64 0, .int .u64 0, .int .u64 0, .int .u64 0, .int .u64 0, .int .u64 0, .int .u64 0, .int .u64 0, .int .u64 0, .int .u64 0] 29)).alloc (.cells #[.int .i64 0, .int .i64 0] 32)).setCells u198q.heap.size 0 (wl wz)) u198q.heap.size (wl wz)) := h216q.out.setW wz
             have h223q : Hid (Bo (((u198q.alloc (.cells #[.int .u64 0, .int .u64 0, .int .u64 0, .int .u64 0, .int .u64 0, .int .u64 0, .int .u64 0, .int .u64 0, .int .u64 0, .int .u64 0, .int .u64 0, .int .u64 0, .int .u64 0, .int .u64 0, .int .u64 0, .int .u64 0, .int .u64 0] 29)).alloc (.cells #[.int .i64 0, .int .i64 0] 32)).setCells u198q.heap.size 0 (wl wz)) (u198q.heap.size + 1) [.int .i64 0, .int .i64 0]) := h217q.out.asideL (by omega) 0 (wl wz)
             clear h212q h213q h214q h215q h216q h217q
             generalize (((u198q.alloc (.cells #[.int .u64 0, .int .u64 0, .int .u64 0, .int .u64 0, .int .u64 0, .int .u64 0, .int .u64 0, .int .u64 0, .int .u64 0, .int .u64 0, .int .u64 0, .int .u64 0, .int .u64 0, .int .u64 0, .int .u64 0, .int .u64 0, .int .u64 0] 29)).alloc (.cells #[.int .i64 0, .int .i64 0] 32)).setCells u198q.heap.size 0 (wl wz)) = u224q at h218q h219q h220q h221q h222q h223q  ⊢)
          | (refine wpList_store_mid rfl 32 _ _ rfl (u198q.heap.size + 1) _ #[.int .i64 (0), .int .i64 (0)] rfl rfl h223q.out.there2 HA.out (two_one _ _) ?_
             have h225q : Hid (Gd n w (u224q.setCells (u198q.heap.size + 1) 0 [.int .i64 (0), .int .i64 (0)])) := h218q.out.asideL (by omega) 0 [.int .i64 (0), .int .i64 (0)]
             have h226q : Hid (Bo (u224q.setCells (u198q.heap.size + 1) 0 [.int .i64 (0), .int .i64 (0)]) u44q.heap.size (wl e)) := h219q.out.asideL (by omega) 0 [.int .i64 (0), .int .i64 (0)]
             have h227q : Hid (Bo (u224q.setCells (u198q.heap.size + 1) 0 [.int .i64 (0), .int .i64 (0)]) u51q.heap.size (wl e)) := h220q.out.asideL (by omega) 0 [.int .i64 (0), .int .i64 (0)]
             have h228q : Hid (Bo (u224q.setCells (u198q.heap.size + 1) 0 [.int .i64 (0), .int .i64 (0)]) wr.heap.size [.int .i64 o, .int .i64 k, .int .i64 x]) := h221q.out.asideL (by omega) 0 [.int .i64 (0), .int .i64 (0)]
             have h229q : Hid (Bo (u224q.setCells (u198q.heap.size + 1) 0 [.int .i64 (0), .int .i64 (0)]) u198q.heap.size (wl wz)) := h222q.out.asideL (by omega) 0 [.int .i64 (0), .int .i64 (0)]
             have h230q : Hid (Bo (u224q.setCells (u198q.heap.size + 1) 0 [.int .i64 (0), .int .i64 (0)]) (u198q.heap.size + 1) [.int .i64 (0), .int .i64 (0)]) := h223q.out.set2 (.int .i64 (0)) (.int .i64 (0))
             clear h218q h219q h220q h221q h222q h223q
             generalize (u224q.setCells (u198q.heap.size + 1) 0 [.int .i64 (0), .int .i64 (0)]) = u231q at h225q h226q h227q h228q h229q h230q  ⊢
             have c232q := h228q.out.at 0 rfl
             have c233q := h228q.out.at 1 rfl
             have c234q := h228q.out.at 2 rfl)
          | (refine wpList_load_mid rfl 29 _ rfl u51q.heap.size _ rfl (wl e) _ h227q.out.range HC.out rfl (HCS.out e) ?_))
        refine (DO.out _).mono ?_
        rintro e u235q ⟨rfl, hb⟩
        have h236q : Hid (Gd n w u235q) := h225q.out.later hb
        have h237q : Hid (Bo u235q u44q.heap.size (wl e)) := h226q.out.later hb
        have h238q : Hid (Bo u235q u51q.heap.size (wl e)) := h227q.out.later hb
        have h239q : Hid (Bo u235q wr.heap.size [.int .i64 o, .int .i64 k, .int .i64 x]) := h228q.out.later hb
        have h240q : Hid (Bo u235q u198q.heap.size (wl wz)) := h229q.out.later hb
        have h241q : Hid (Bo u235q (u198q.heap.size + 1) [.int .i64 (0), .int .i64 (0)]) := h230q.out.later hb
        clear h225q h226q h227q h228q h229q h230q
        clear hb
        have l242q : n ≤ u235q.heap.size := h236q.out.le
        have l243q : u44q.heap.size < u235q.heap.size := h237q.out.lt
        have l244q : u51q.heap.size < u235q.heap.size := h238q.out.lt
        have l245q : wr.heap.size < u235q.heap.size := h239q.out.lt
        have l246q : u198q.heap.size < u235q.heap.size := h240q.out.lt
        have l247q : (u198q.heap.size + 1) < u235q.heap.size := h241q.out.lt
        have h248q : Hid (Gd n w (u235q.alloc (.cells #[.int .u64 0, .int .u64 0, .int .u64 0, .int .u64 0, .int .u64 0, .int .u64 0, .int .u64 0, .int .u64 0, .int .u64 0, .int .u64 0, .int .u64 0, .int .u64 0, .int .u64 0, .int .u64 0, .int .u64 0, .int .u64 0, .int .u64 0] 29))) := h236q.out.new (.cells #[.int .u64 0, .int .u64 0, .int .u64 0, .int .u64 0, .int .u64 0, .int .u64 0, .int .u64 0, .int .u64 0, .int .u64 0, .int .u64 0, .int .u64 0, .int .u64 0, .int .u64 0, .int .u64 0, .int .u64 0, .int .u64 0, .int .u64 0] 29)
        have h249q : Hid (Bo (u235q.alloc (.cells #[.int .u64 0, .int .u64 0, .int .u64 0, .int .u64 0, .int .u64 0, .int .u64 0, .int .u64 0, .int .u64 0, .int .u64 0, .int .u64 0, .int .u64 0, .int .u64 0, .int .u64 0, .int .u64 0, .int .u64 0, .int .u64 0, .int .u64 0] 29)) u44q.heap.size (wl e)) := h237q.out.new (.cells #[.int .u64 0, .int .u64 0, .int .u64 0, .int .u64 0, .int .u64 0, .int .u64 0, .int .u64 0, .int .u64 0, .int .u64 0, .int .u64 0, .int .u64 0, .int .u64 0, .int .u64 0, .int .u64 0, .int .u64 0, .int .u64 0, .int .u64 0] 29)
        have h250q : Hid (Bo (u235q.alloc (.cells #[.int .u64 0, .int .u64 0, .int .u64 0, .int .u64 0, .int .u64 0, .int .u64 0, .int .u64 0, .int .u64 0, .int .u64 0, .int .u64 0, .int .u64 0, .int .u64 0, .int .u64 0, .int .u64 0, .int .u64 0, .int .u64 0, .int .u64 0] 29)) u51q.heap.size (wl e)) := h238q.out.new (.cells #[.int .u64 0, .int .u64 0, .int .u64 0, .int .u64 0, .int .u64 0, .int .u64 0, .int .u64 0, .int .u64 0, .int .u64 0, .int .u64 0, .int .u64 0, .int .u64 0, .int .u64 0, .int .u64 0, .int .u64 0, .int .u64 0, .int .u64 0] 29)
        have h251q : Hid (Bo (u235q.alloc (.cells #[.int .u64 0, .int .u64 0, .int .u64 0, .int .u64 0, .int .u64 0, .int .u64 0, .int .u64 0, .int .u64 0, .int .u64 0, .int .u64 0, .int .u64 0, .int .u64 0, .int .u64 0, .int .u64 0, .int .u64 0, .int .u64 0, .int .u64 0] 29)) wr.heap.size [.int .i64 o, .int .i64 k, .int .i64 x]) := h239q.out.new (.cells #[.int .u64 0, .int .u64 0, .int .u64 0, .int .u64 0, .int .u64 0, .int .u64 0, .int .u64 0, .int .u64 0, .int .u64 0, .int .u64 0, .int .u64 0, .int .u64 0, .int .u64 0, .int .u64 0, .int .u64 0, .int .u64 0, .int .u64 0] 29)
        have h252q : Hid (Bo (u235q.alloc (.cells #[.int .u64 0, .int .u64 0, .int .u64 0, .int .u64 0, .int .u64 0, .int .u64 0, .int .u64 0, .int .u64 0, .int .u64 0, .int .u64 0, .int .u64 0, .int .u64 0, .int .u64 0, .int .u64 0, .int .u64 0, .int .u64 0, .int .u64 0] 29)) u198q.heap.size (wl wz)) := h240q.out.new (.cells #[.int .u64 0, .int .u64 0, .int .u64 0, .int .u64 0, .int .u64 0, .int .u64 0, .int .u64 0, .int .u64 0, .int .u64 0, .int .u64 0, .int .u64 0, .int .u64 0, .int .u64 0, .int .u64 0, .int .u64 0, .int .u64 0, .int .u64 0] 29)
        have h253q : Hid (Bo (u235q.alloc (.cells #[.int .u64 0, .int .u64 0, .int .u64 0, .int .u64 0, .int .u64 0, .int .u64 0, .int .u64 0, .int .u64 0, .int .u64 0, .int .u64 0, .int .u64 0, .int .u64 0, .int .u64 0, .int .u64 0, .int .u64 0, .int .u64 0, .int .u64 0] 29)) (u198q.heap.size + 1) [.int .i64 (0), .int .i64 (0)]) := h241q.out.new (.cells #[.int .u64 0, .int .u64 0, .int .u64 0, .int .u64 0, .int .u64 0, .int .u64 0, .int .u64 0, .int .u64 0, .int .u64 0, .int .u64 0, .int .u64 0, .int .u64 0, .int .u64 0, .int .u64 0, .int .u64 0, .int .u64 0, .int .u64 0] 29)
        clear h236q h237q h238q h239q h240q h241q
        have h254q : Hid (Bo (u235q.alloc (.cells #[.int .u64 0, .int .u64 0, .int .u64 0, .int .u64 0, .int .u64 0, .int .u64 0, .int .u64 0, .int .u64 0, .int .u64 0, .int .u64 0, .int .u64 0, .int .u64 0, .int .u64 0, .int .u64 0, .int .u64 0, .int .u64 0, .int .u64 0] 29)) u235q.heap.size (wl wz)) := Bo.born u235q (wl wz) 29 (by simp)
        have h255q : Hid (Gd n w ((u235q.alloc (.cells #[.int .u64 0, .int .u64 0, .int .u64 0, .int .u64 0, .int .u64 0, .int .u64 0, .int .u64 0, .int .u64 0, .int .u64 0, .int .u64 0, .int .u64 0, .int .u64 0, .int .u64 0, .int .u64 0, .int .u64 0, .int .u64 0, .int .u64 0] 29)).alloc (.cells #[.int .i64 0, .int .i64 0] 32))) := h248q.out.new (.cells #[.int .i64 0, .int .i64 0] 32)
        have h256q : Hid (Bo ((u235q.alloc (.cells #[.int .u64 0, .int .u64 0, .int .u64 0, .int .u64 0, .int .u64 0, .int .u64 0, .int .u64 0, .int .u64 0, .int .u64 0, .int .u64 0, .int .u64 0, .int .u64 0, .int .u64 0, .int .u64 0, .int .u64 0, .int .u64 0, .int .u64 0] 29)).alloc (.cells #[.int .i64 0, .int .i64 0] 32)) u44q.heap.size (wl e)) := h249q.out.new (.cells #[.int .i64 0, .int .i64 0] 32)
        have h257q : Hid (Bo ((u235q.alloc (.cells #[.int .u64 0, .int .u64 0, .int .u64 0, .int .u64 0, .int .u64 0, .int .u64 0, .int .u64 0, .int .u64 0, .int .u64 0, .int .u64 0, .int .u64 0, .int .u64 0, .int .u64 0, .int .u64 0, .int .u64 0, .int .u64 0, .int .u64 0] 29)).alloc (.cells #[.int .i64 0, .int .i64 0] 32)) u51q.heap.size (wl e)) := h250q.out.new (.cells #[.int .i64 0, .int .i64 0] 32)
        have h258q : Hid (Bo ((u235q.alloc (.cells #[.int .u64 0, .int .u64 0, .int .u64 0, .int .u64 0, .int .u64 0, .int .u64 0, .int .u64 0, .int .u64 0, .int .u64 0, .int .u64 0, .int .u64 0, .int .u64 0, .int .u64 0, .int .u64 0, .int .u64 0, .int .u64 0, .int .u64 0] 29)).alloc (.cells #[.int .i64 0, .int .i64 0] 32)) wr.heap.size [.int .i64 o, .int .i64 k, .int .i64 x]) := h251q.out.new (.cells #[.int .i64 0, .int .i64 0] 32)
        have h259q : Hid (Bo ((u235q.alloc (.cells #[.int .u64 0, .int .u64 0, .int .u64 0, .int .u64 0, .int .u64 0, .int .u64 0, .int .u64 0, .int .u64 0, .int .u64 0, .int .u64 0, .int .u64 0, .int .u64 0, .int .u64 0, .int .u64 0, .int .u64 0, .int .u64 0, .int .u64 0] 29)).alloc (.cells #[.int .i64 0, .int .i64 0] 32)) u198q.heap.size (wl wz)) := h252q.out.new (.cells #[.int .i64 0, .int .i64 0] 32)
        have h260q : Hid (Bo ((u235q.alloc (.cells #[.int .u64 0, .int .u64 0, .int .u64 0, .int .u64 0, .int .u64 0, .int .u64 0, .int .u64 0, .int .u64 0, .int .u64 0, .int .u64 0, .int .u64 0, .int .u64 0, .int .u64 0, .int .u64 0, .int .u64 0, .int .u64 0, .int .u64 0] 29)).alloc (.cells #[.int .i64 0, .int .i64 0] 32)) (u198q.heap.size + 1) [.int .i64 (0), .int .i64 (0)]) := h253q.out.new (.cells #[.int .i64 0, .int .i64 0] 32)
        have h261q : Hid (Bo ((u235q.alloc (.cells #[.int .u64 0, .int .u64 0, .int .u64 0, .int .u64 0, .int .u64 0, .int .u64 0, .int .u64 0, .int .u64 0, .int .u64 0, .int .u64 0, .int .u64 0, .int .u64 0, .int .u64 0, .int .u64 0, .int .u64 0, .int .u64 0, .int .u64 0] 29)).alloc (.cells #[.int .i64 0, .int .i64 0] 32)) u235q.heap.size (wl wz)) := h254q.out.new (.cells #[.int .i64 0, .int .i64 0] 32)
        clear h248q h249q h250q h251q h252q h253q h254q
        have h262q : Hid (Bo ((u235q.alloc (.cells #[.int .u64 0, .int .u64 0, .int .u64 0, .int .u64 0, .int .u64 0, .int .u64 0, .int .u64 0, .int .u64 0, .int .u64 0, .int .u64 0, .int .u64 0, .int .u64 0, .int .u64 0, .int .u64 0, .int .u64 0, .int .u64 0, .int .u64 0] 29)).alloc (.cells #[.int .i64 0, .int .i64 0] 32)) (u235q.heap.size + 1) [.int .i64 0, .int .i64 0]) := Bo.born (u235q.alloc (.cells #[.int .u64 0, .int .u64 0, .int .u64 0, .int .u64 0, .int .u64 0, .int .u64 0, .int .u64 0, .int .u64 0, .int .u64 0, .int .u64 0, .int .u64 0, .int .u64 0, .int .u64 0, .int .u64 0, .int .u64 0, .int .u64 0, .int .u64 0] 29)) [.int .i64 0, .int .i64 0] 32 (by simp)
        go_wp2_with (first
          | (refine wpList_store_mid rfl 29 _ _ rfl u235q.heap.size _ (wl wz).toArray rfl rfl (h261q.out.thereW wz) (HCZ.out wz) (wl_all wz) ?_
             have h263q : Hid (Gd n w (((u235q.alloc (.cells #[.int .u64 0, .int .u64 0, .int .u64 0, .int .u64 0, .int .u64 0, .int .u64 0, .int .u64 0, .int .u64 0, .int .u64 0, .int .u64 0, .int .u64 0, .int .u64 0, .int .u64 0, .int .u64 0, .int .u64 0, .int .u64 0, .int .u64 0] 29)).alloc (.cells #[.int .i64 0, .int .i64 0] 32)).setCells u235q.heap.size 0 (wl wz))) := h255q.out.asideL (by omega) 0 (wl wz)
             have h264q : Hid (Bo (((u235q.alloc (.cells #[.int .u64 0, .int .u64 0, .int .u64 0, .int .u64 0, .int .u64 0, .int .u64 0, .int .u64 0, .int .u64 0, .int .u64 0, .int .u64 0, .int .u64 0, .int .u64 0, .int .u64 0, .int .u64 0, .int .u64 0, .int .u64 0, .int .u64 0] 29)).alloc (.cells #[.int .i64 0, .int .i64 0] 32)).setCells u235q.heap.size 0 (wl wz)) u44q.heap.size (wl e)) := h256q.out.asideL (by omega) 0 (wl wz)
             have h265q : Hid (Bo (((u235q.alloc (.cells #[.int .u64 0, .int .u64 0, .int .u64 0, .int .u64 0, .int .u64 0, .int .u64 0, .int .u64 0, .int .u64 0, .int .u64 0, .int .u64 0, .int .u64 0, .int .u64 0, .int .u64 0, .int .u64 0, .int .u64 0, .int .u64 0, .int .u64 0] 29)).alloc (.cells #[.int .i64 0, .int .i64 0] 32)).setCells u235q.heap.size 0 (wl wz)) u51q.heap.size (wl e)) := h257q.out.asideL (by omega) 0 (wl wz)
             have h266q : Hid (Bo (((u235q.alloc (.cells #[.int .u64 0, .int .u64 0, .int .u64 0, .int .u64 0, .int .u64 0, .int .u64 0, .int .u64 0, .int .u64 0, .int .u64 0, .int .u64 0, .int .u64 0, .int .u64 0, .int .u64 0, .int .u64 0, .int .u64 0, .int .u64 0, .int .u64 0] 29)).alloc (.cells #[.int .i64 0, .int .i64 0] 32)).setCells u235q.heap.size 0 (wl wz)) wr.heap.size [.int .i64 o, .int .i64 k, .int .i64 x]) := h258q.out.asideL (by omega) 0 (wl wz)
             have h267q : Hid (Bo (((u235q.alloc (.cells #[.int .u64 0, .int .u64 0, .int .u64 0, .int .u64 0, .int .u64 0, .int .u64 0, .int .u64 0, .int .u64 0, .int .u64 0, .int .u64 0, .int .u64 0, .int .u64 0, .int .u64 0, .int .u64 0, .int .u64 0, .int .u64 0, .int .u64 0] 29)).alloc (.cells #[.int .i64 0, .int .i64 0] 32)).setCells u235q.heap.size 0 (wl wz)) u198q.heap.size (wl wz)) := h259q.out.asideL (by omega) 0 (wl wz)
             have h268q : Hid (Bo (((u235q.alloc (.cells #[.int .u64 0, .int .u64 0, .int .u64 0, .int .u64 0, .int .u64 0, .int .u64 0, .int .u64 0, .int .u64 0, .int .u64 0, .int .u64 0, .int .u64 0, .int .u64 0, .int .u64 0, .int .u64 0, .int .u64 0, .int .u64 0, .int .u64 0] 29)).alloc (.cells #[.int .i64 0, .int .i64 0] 32)).setCells u235q.heap.size 0 (wl wz)) (u198q.heap.size + 1) [.int .i64 (0), .int .i64 (0)]) := h260q.out.asideL (by omega) 0 (wl wz)
             have h269q : Hid (Bo (((u235q.alloc (.cells #[.int .u64 0, .int .u64 0, .int .u64 0, .int .u64 0, .int .u64 0, .int .u64 0, .int .u64 0, .int .u64 0, .int .u64 0, .int .u64 0, .int .u64 0, .int .u64 0, .int .u64 0, .int .u64 0, .int .u64 0, .int .u64 0, .int .u64 0] 29)).alloc (.cells #[.int .i64 0, .int .i64 0] 32)).setCells u235q.heap.size 0 (wl wz)) u235q.heap.size (wl wz)) := h261q.out.setW wz
             have h270q : Hid (Bo (((u235q.alloc (.cells #[.int .u64 0, .int .u64 0, .int .u64 0, .int .u64 0, .int .u64 0, .int .u64 0, .int .u64 0, .int .u64 0, .int .u64 0, .int .u64 0, .int .u64 0, .int .u64 0, .int .u64 0, .int .u64 0, .int .u64 0, .int .u64 0, .int .u64 0] 29)).alloc (.cells #[.int .i64 0, .int .i64 0] 32)).setCells u235q.heap.size 0 (wl wz)) (u235q.heap.size + 1) [.int .i64 0, .int .i64 0]) := h262q.out.asideL (by omega) 0 (wl wz)
             clear h255q h256q h257q h258q h259q h260q h261q h262q
             generalize (((u235q.alloc (.cells #[.int .u64 0, .int .u64 0, .int .u64 0, .int .u64 0, .int .u64 0, .int .u64 0, .int .u64 0, .int .u64 0, .int .u64 0, .int .u64 0, .int .u64 0, .int .u64 0, .int .u64 0, .int .u64 0, .int .u64 0, .int .u64 0, .int .u64 0] 29)).alloc (.cells #[.int .i64 0, .int .i64 0] 32)).setCells u235q.heap.size 0 (wl wz)) = u271q at h263q h264q h265q h266q h267q h268q h269q h270q  ⊢)
          | (refine wpList_store_mid rfl 32 _ _ rfl (u235q.heap.size + 1) _ #[.int .i64 (0), .int .i64 (0)] rfl rfl h270q.out.there2 HA.out (two_one _ _) ?_
             have h272q : Hid (Gd n w (u271q.setCells (u235q.heap.size + 1) 0 [.int .i64 (0), .int .i64 (0)])) := h263q.out.asideL (by omega) 0 [.int .i64 (0), .int .i64 (0)]
             have h273q : Hid (Bo (u271q.setCells (u235q.heap.size + 1) 0 [.int .i64 (0), .int .i64 (0)]) u44q.heap.size (wl e)) := h264q.out.asideL (by omega) 0 [.int .i64 (0), .int .i64 (0)]
             have h274q : Hid (Bo (u271q.setCells (u235q.heap.size + 1) 0 [.int .i64 (0), .int .i64 (0)]) u51q.heap.size (wl e)) := h265q.out.asideL (by omega) 0 [.int .i64 (0), .int .i64 (0)]
             have h275q : Hid (Bo (u271q.setCells (u235q.heap.size + 1) 0 [.int .i64 (0), .int .i64 (0)]) wr.heap.size [.int .i64 o, .int .i64 k, .int .i64 x]) := h266q.out.asideL (by omega) 0 [.int .i64 (0), .int .i64 (0)]
             have h276q : Hid (Bo (u271q.setCells (u235q.heap.size + 1) 0 [.int .i64 (0), .int .i64 (0)]) u198q.heap.size (wl wz)) := h267q.out.asideL (by omega) 0 [.int .i64 (0), .int .i64 (0)]
             have h277q : Hid (Bo (u271q.setCells (u235q.heap.size + 1) 0 [.int .i64 (0), .int .i64 (0)]) (u198q.heap.size + 1) [.int .i64 (0), .int .i64 (0)]) := h268q.out.asideL (by omega) 0 [.int .i64 (0), .int .i64 (0)]
             have h278q : Hid (Bo (u271q.setCells (u235q.heap.size + 1) 0 [.int .i64 (0), .int .i64 (0)]) u235q.heap.size (wl wz)) := h269q.out.asideL (by omega) 0 [.int .i64 (0), .int .i64 (0)]
             have h279q : Hid (Bo (u271q.setCells (u235q.heap.size + 1) 0 [.int .i64 (0), .int .i64 (0)]) (u235q.heap.size + 1) [.int .i64 (0), .int .i64 (0)]) := h270q.out.set2 (.int .i64 (0)) (.int .i64 (0))
             clear h263q h264q h265q h266q h267q h268q h269q h270q
             generalize (u271q.setCells (u235q.heap.size + 1) 0 [.int .i64 (0), .int .i64 (0)]) = u280q at h272q h273q h274q h275q h276q h277q h278q h279q  ⊢))
        have h281q : Hid (Gd n w u280q.drew) := h272q.out.drew
        have h282q : Hid (Bo u280q.drew u44q.heap.size (wl e)) := h273q.out.drew
        have h283q : Hid (Bo u280q.drew u51q.heap.size (wl e)) := h274q.out.drew
        have h284q : Hid (Bo u280q.drew wr.heap.size [.int .i64 o, .int .i64 k, .int .i64 x]) := h275q.out.drew
        have h285q : Hid (Bo u280q.drew u198q.heap.size (wl wz)) := h276q.out.drew
        have h286q : Hid (Bo u280q.drew (u198q.heap.size + 1) [.int .i64 (0), .int .i64 (0)]) := h277q.out.drew
        have h287q : Hid (Bo u280q.drew u235q.heap.size (wl wz)) := h278q.out.drew
        have h288q : Hid (Bo u280q.drew (u235q.heap.size + 1) [.int .i64 (0), .int .i64 (0)]) := h279q.out.drew
        clear h272q h273q h274q h275q h276q h277q h278q h279q
        refine wp_region_held_drew (S := fun w' => Bo w' u198q.heap.size (wl wz) ∧ Bo w' (u198q.heap.size + 1) [.int .i64 (0), .int .i64 (0)] ∧ Bo w' u235q.heap.size (wl wz) ∧ Bo w' (u235q.heap.size + 1) [.int .i64 (0), .int .i64 (0)]) (by kernel_rfl) ⟨h285q.out, h286q.out, h287q.out, h288q.out⟩ (fun hH => ?_)
        generalize u280q.drew = u289q at h281q h282q h283q h284q h285q h286q h287q h288q hH ⊢
        refine wpAnyH_take (i := 0) (oi := { dst := some 51, op := .move (.tmp 13), type := _, pos := _, after := _, guard := _ }) (v := ?_) rfl (by kernel_rfl) (by kernel_rfl) (by kernel_rfl) (fun _ _ _ h => h) (Or.inl ⟨by rfl, ?_⟩) hH ?_
        rotate_left
        · intro w hSw
          clear hSw
          go_simp
          try with_reducible rfl
        simp only [Act.put, List.setIfInBounds_toArray, List.set_cons_zero, List.set_cons_succ]
        refine wpAnyH_take (i := 1) (oi := { dst := some 52, op := .binOp .eql _ (.tmp 51) (.const .nilIface) _, type := _, pos := _, after := _, guard := _ }) (v := ?_) rfl (by kernel_rfl) (by kernel_rfl) (by kernel_rfl) (fun _ _ _ h => h) (Or.inl ⟨by rfl, ?_⟩) hH ?_
        rotate_left
        · intro w hSw
          clear hSw
          go_simp
          try with_reducible rfl
        simp only [Act.put, List.setIfInBounds_toArray, List.set_cons_zero, List.set_cons_succ]
        refine wpAnyH_take (i := 2) (oi := { dst := some 53, op := .move (.tmp 16), type := _, pos := _, after := _, guard := _ }) (v := ?_) rfl (by kernel_rfl) (by kernel_rfl) (by kernel_rfl) (fun _ _ _ h => h) (Or.inl ⟨by rfl, ?_⟩) hH ?_
        rotate_left
        · intro w hSw
          clear hSw
          go_simp
          try with_reducible rfl
        simp only [Act.put, List.setIfInBounds_toArray, List.set_cons_zero, List.set_cons_succ]
        refine wpAnyH_take (i := 3) (oi := { dst := some 54, op := .binOp .eql _ (.tmp 53) (.const .nilIface) _, type := _, pos := _, after := _, guard := _ }) (v := ?_) rfl (by kernel_rfl) (by kernel_rfl) (by kernel_rfl) (fun _ _ _ h => h) (Or.inl ⟨by rfl, ?_⟩) hH ?_
        rotate_left
        · intro w hSw
          clear hSw
          go_simp
          try with_reducible rfl
        simp only [Act.put, List.setIfInBounds_toArray, List.set_cons_zero, List.set_cons_succ]
        refine wpAnyH_take (i := 4) (oi := { dst := some 55, op := .binOp .neq _ (.tmp 52) (.tmp 54) _, type := _, pos := _, after := _, guard := _ }) (v := ?_) rfl (by kernel_rfl) (by kernel_rfl) (by kernel_rfl) (fun _ _ _ h => h) (Or.inl ⟨by rfl, ?_⟩) hH ?_
        rotate_left
        · intro w hSw
          clear hSw
          go_simp
          try with_reducible rfl
        simp only [Act.put, List.setIfInBounds_toArray, List.set_cons_zero, List.set_cons_succ]
        refine wpAnyH_take (i := 5) (oi := { dst := some 56, op := .move (.tmp 55), type := _, pos := _, after := _, guard := _ }) (v := ?_) rfl (by kernel_rfl) (by kernel_rfl) (by kernel_rfl) (fun _ _ _ h => h) (Or.inl ⟨by rfl, ?_⟩) hH ?_
        rotate_left
        · intro w hSw
          clear hSw
          go_simp
          try with_reducible rfl
        simp only [Act.put, List.setIfInBounds_toArray, List.set_cons_zero, List.set_cons_succ]
        refine wpAnyH_take (i := 6) (oi := { dst := some 57, op := .load _ (.tmp 12), type := _, pos := _, after := _, guard := _ }) (v := ?_) rfl (by kernel_rfl) (by kernel_rfl) (by kernel_rfl) (fun _ _ _ h => h) (Or.inl ⟨by rfl, ?_⟩) hH ?_
        rotate_left
        · intro w hSw
          have c290q := (hSw.2.1).at 0 rfl
          have c291q := (hSw.2.1).at 1 rfl
          clear hSw
          go_simp
          try with_reducible rfl
        simp only [Act.put, List.setIfInBounds_toArray, List.set_cons_zero, List.set_cons_succ]
        refine wpAnyH_take (i := 7) (oi := { dst := some 58, op := .load _ (.tmp 15), type := _, pos := _, after := _, guard := _ }) (v := ?_) rfl (by kernel_rfl) (by kernel_rfl) (by kernel_rfl) (fun _ _ _ h => h) (Or.inl ⟨by rfl, ?_⟩) hH ?_
        rotate_left
        · intro w hSw
          have c292q := (hSw.2.2.2).at 0 rfl
          have c293q := (hSw.2.2.2).at 1 rfl
          clear hSw
          go_simp
          try with_reducible rfl
        simp only [Act.put, List.setIfInBounds_toArray, List.set_cons_zero, List.set_cons_succ]
        refine wpAnyH_take (i := 8) (oi := { dst := some 59, op := .binOp .neq _ (.tmp 57) (.tmp 58) _, type := _, pos := _, after := _, guard := _ }) (v := ?_) rfl (by kernel_rfl) (by kernel_rfl) (by kernel_rfl) (fun _ _ _ h => h) (Or.inl ⟨by rfl, ?_⟩) hH ?_
        rotate_left
        · intro w hSw
          clear hSw
          go_simp
          try with_reducible rfl
        simp only [Act.put, List.setIfInBounds_toArray, List.set_cons_zero, List.set_cons_succ]
        refine wpAnyH_take (i := 9) (oi := { dst := some 60, op := .pick (.tmp 56) (.const (.bool true)) (.tmp 59), type := _, pos := _, after := _, guard := _ }) (v := ?_) rfl (by kernel_rfl) (by kernel_rfl) (by kernel_rfl) (fun _ _ _ h => h) (Or.inl ⟨by rfl, ?_⟩) hH ?_
        rotate_left
        · intro w hSw
          clear hSw
          go_simp
          try with_reducible rfl
        simp only [Act.put, List.setIfInBounds_toArray, List.set_cons_zero, List.set_cons_succ]
        refine wpAnyH_take (i := 10) (oi := { dst := some 61, op := .move (.tmp 60), type := _, pos := _, after := _, guard := _ }) (v := ?_) rfl (by kernel_rfl) (by kernel_rfl) (by kernel_rfl) (fun _ _ _ h => h) (Or.inl ⟨by rfl, ?_⟩) hH ?_
        rotate_left
        · intro w hSw
          clear hSw
          go_simp
          try with_reducible rfl
        simp only [Act.put, List.setIfInBounds_toArray, List.set_cons_zero, List.set_cons_succ]
        refine wpAnyH_take (i := 11) (oi := { dst := some 62, op := .load _ (.tmp 11), type := _, pos := _, after := _, guard := _ }) (v := _) rfl (by kernel_rfl) (by kernel_rfl) (by kernel_rfl) (fun _ _ _ h => h) (yieldsIf_load_mid (by rfl) _ _ rfl u198q.heap.size _ rfl (wl wz) _ (fun _ h => (h.1).range) HC.out rfl (HCS.out wz)) hH ?_
        simp only [Act.put, List.setIfInBounds_toArray, List.set_cons_zero, List.set_cons_succ]
        refine wpAnyH_take (i := 12) (oi := { dst := some 63, op := .load _ (.tmp 14), type := _, pos := _, after := _, guard := _ }) (v := _) rfl (by kernel_rfl) (by kernel_rfl) (by kernel_rfl) (fun _ _ _ h => h) (yieldsIf_load_mid (by rfl) _ _ rfl u235q.heap.size _ rfl (wl wz) _ (fun _ h => (h.2.2.1).range) HC.out rfl (HCS.out wz)) hH ?_
        simp only [Act.put, List.setIfInBounds_toArray, List.set_cons_zero, List.set_cons_succ]
        refine wpAnyH_take (i := 13) (oi := { dst := some 64, op := .binOp .neq _ (.tmp 62) (.tmp 63) _, type := _, pos := _, after := _, guard := _ }) (v := ?_) rfl (by kernel_rfl) (by kernel_rfl) (by kernel_rfl) (fun _ _ _ h => h) (Or.inl ⟨by rfl, ?_⟩) hH ?_
        rotate_left
        · intro w hSw
          clear hSw
          go_simp
          try with_reducible rfl
        simp only [Act.put, List.setIfInBounds_toArray, List.set_cons_zero, List.set_cons_succ]
        refine wpAnyH_take (i := 14) (oi := { dst := some 65, op := .pick (.tmp 61) (.const (.bool true)) (.tmp 64), type := _, pos := _, after := _, guard := _ }) (v := ?_) rfl (by kernel_rfl) (by kernel_rfl) (by kernel_rfl) (fun _ _ _ h => h) (Or.inl ⟨by rfl, ?_⟩) hH ?_
        rotate_left
        · intro w hSw
          clear hSw
          go_simp
          try with_reducible rfl
        simp only [Act.put, List.setIfInBounds_toArray, List.set_cons_zero, List.set_cons_succ]
        refine wpAnyH_done (by kernel_rfl) ?_ _
        go_wp2
        go_roundg (q - (i + 1))
        case measure => omega
        case rel => exact ⟨i + 1, by omega, by omega, by go_num, h281q, e, R, h282q, h283q⟩
    · obtain rfl : i = q := by omega
      go_wp2
      go_ret
      exact ⟨rfl, by first | exact G.out.low | exact G.out.2⟩

theorem walk (a0 : Int) (v1 : Value) (n1 : Nat) (v2 : Value) (n2 : Nat) (w0 : (Lit.int .i64 a0).wf = true) (w : World) (D1 : Ops w v1 n1) (D2 : Ops w v2 n2) :
    Calls Try.prog 5 #[.int .i64 a0, v1, v2] w fun e w' => e = .returned (.bool true) ∧ Below w.heap.size w w' := by
  rcases id D2 with ⟨_, a, c, rfl, hc⟩ | ⟨b, off, c, hv, h0, hc, hm, _⟩
  · cases a with
    | none => obtain rfl := hc rfl; exact again_nil a0 v1 n1 w D1
    | some a => exact again_none a0 v1 n1 a c w D1
  · exact again_some a0 v1 n1 hv h0 hc hm w D1 D2


set_option maxRecDepth 100000 in
theorem lifted (os : Os) (started : os.Started) (H : Type) (enc : TypeId × Value → H) :
    ReturnsInHanded {} Try.checked os 5 .any (Rows.objectAgainSpec.pre6 enc Try.prog Try.f5 Rows.objectAgainRow.domain false) (Rows.objectAgainSpec.post enc Try.prog Try.f5 false true false false) := by
  refine returnsInHanded_of_change (C := Try.checked) own started (by kernel_rfl) Try.func5
    (ChangeSpec.witness6 (enc := enc) (C := Try.checked) false ⟨#[], #[.int .i64 0, .slice none 0 0, .slice none 0 0], []⟩ 8 (by kernel_rfl) (by kernel_rfl) (by kernel_rfl) (by kernel_rfl)) ?_
  intro W base args ds gs before hval0 hW hcnd _
  have hval : ∀ (j : Nat) t v, Try.f5.params[j]? = some t → args[j]? = some v → Value.okWide Try.prog W .any base t v := hval0
  have hW' := hW
  obtain ⟨p, q, hA0, hV, rfl, hfz, hnd⟩ := hW
  have hA : DataW.TrodAll enc Try.prog W 0 (fun _ => true) true Try.f5.params.toList args.toList ds p := hA0
  rw [Try.params5] at hA hval
  obtain ⟨v0, vs0, d0, ds0, p0, q0, hargs, rfl, rfl, h0, r0⟩ := trodAll_cons hA
  obtain ⟨v1, vs1, d1, ds1, p1, q1, rfl, rfl, rfl, h1, r1⟩ := trodAll_cons r0
  obtain ⟨v2, vs2, d2, ds2, p2, q2, rfl, rfl, rfl, h2, r2⟩ := trodAll_cons r1
  obtain ⟨rfl, rfl, rfl⟩ := trodAll_nil r2
  obtain rfl : args = #[v0, v1, v2] := by cases args; simp_all
  obtain ⟨rfl, rfl⟩ := trodVars_none hV
  obtain ⟨a0, rfl, rfl, rfl, w0⟩ := open_int Try.underlying3 (hval 0 3 v0 rfl rfl) h0
  obtain ⟨n1, D1⟩ := ops_of_trod (hval 1 22 v1 rfl rfl) h1
  obtain ⟨n2, D2⟩ := ops_of_trod (hval 2 22 v2 rfl rfl) h2
  have hlt := hW'.lt
  clear hA0 hval0
  refine (walk a0 v1 n1 v2 n2 w0 W  D1 D2).mono fun e W' ⟨he, hg⟩ => ?_
  subst he
  exact ⟨_, rfl, post_below (pv := []) hW' (fun _ _ _ => (trodAll_cons_mk (shut_bool Try.underlying4 _) trodAll_mk0)) (fun sp hsp => (trodAll_cons_mk (shut_int Try.underlying3 w0) (trodAll_cons_mk (ops_stay h1 hg (fun x hx => hlt x (by simp [hx])) (fun x hx => hsp x (by simp [hx]))) (trodAll_cons_mk (ops_stay h2 hg (fun x hx => hlt x (by simp [hx])) (fun x hx => hsp x (by simp [hx]))) trodAll_mk0)))) (fun _ _ => rfl) (by simp) (hg.frame _)⟩

theorem over : Rows.objectAgainRow.holds Try.pinned (OpenSpec.ofChange Rows.objectAgainSpec) :=
  OpenClaim.holds_of_wide 5 Try.f5 rfl rfl rfl rfl rfl rfl rfl ⟨rfl, rfl, rfl, rfl, rfl⟩ rfl rfl rfl rfl rfl (by kernel_rfl) Try.func5 (by kernel_rfl)
    (of_decide_eq_true (by kernel_rfl)) (by unfold Func.isWrapper; first | (rw [if_pos (by decide +kernel)]; kernel_rfl) | (rw [if_neg (by decide +kernel)]; exact ⟨rfl, rfl⟩))
    (fun os started H enc _ => lifted os started H enc)

theorem proved : Rows.ObjectAgainSaid :=
  over
#print axioms proved
end Go.Proofs.Ytbmgjpdfmgcigab.Tab.objectAgain
