/- Package object: Size, by its contract. -/
import Derived.Test.YtbmgjpdfmgcigabDoorObP
import Derived.Deep.DeepCutAuto
import Derived.Deep.RegionHeld3
namespace Go.Proofs.YtbmgjpdfmgcigabDoor.Tab
set_option maxRecDepth 20000
open Go.RowKit
set_option linter.unusedVariables false

set_option maxHeartbeats 2000000 in
theorem obSize_is {kind : Int} {c : Nat → Nat} (hO : isOb kind c) (w : World) :
    Calls Tryd.prog 12 #[.int .i64 kind, .agg (wl c).toArray] w (fun e w' => e = .returned (.tuple #[.int .i64 (osz kind c), .nilIface]) ∧ Below w.heap.size w w') := by
  have HA : Hid ((Tryd.prog.info? 38).map (·.size) = some 2) := answer_sz
  obtain ⟨fs, ha⟩ := answer_st
  have HDA : Hid _ := ha
  clear ha
  obtain ⟨nb, eb, hd⟩ := cells_array
  have HC : Hid _ := hd
  clear hd
  have HCS : Hid _ := cells_size
  have HCZ : Hid _ := cells_size2
  have g0 : Hid (Gd w.heap.size w w) := Gd.refl w
  have hR : Rt 6 0 0 := ⟨by decide, by decide, by decide, by decide, by decide, by decide⟩
  have f := odo_facts hO hR.w1 hR.w6 hR.k0 hR.k1 hR.v0 hR.v1
  obtain ⟨d, DO⟩ : ∃ d, Hid (∀ w, Calls Tryd.prog 6 #[.int .i64 kind, .agg (wl c).toArray, .agg #[.int .i64 6, .int .i64 0, .int .i64 0]] w (DidD w d 1 (osz kind c))) := ⟨_, fun w => by have := obDo_is hO hR w; rw [(f.count rfl).1, (f.count rfl).2] at this; exact this⟩
  clear f
  generalize osz kind c = sz at *
  clear hR hO
  have h1q : Hid (Gd w.heap.size w (w.alloc (.cells (wl c).toArray 24))) := g0.out.new (.cells (wl c).toArray 24)
  clear g0
  have h2q : Hid (Bo (w.alloc (.cells (wl c).toArray 24)) w.heap.size (wl c)) := Bo.born w (wl c) 24 (by simp)
  go_enter Tryd.func12, Tryd.ntmps12
  go_wp2_with (first
    | (refine wpList_load_mid rfl 24 _ rfl w.heap.size _ rfl (wl c) _ h2q.out.range HC.out rfl (HCS.out c) ?_))
  refine (DO.out _).mono ?_
  rintro e u3q ⟨rfl, hb⟩
  have h4q : Hid (Gd w.heap.size w u3q) := h1q.out.later hb
  have h5q : Hid (Bo u3q w.heap.size (wl c)) := h2q.out.later hb
  clear h1q h2q
  clear hb
  generalize hsz : w.heap.size = n at h4q h5q  ⊢
  have HSZ : Hid (w.heap.size = n) := hsz
  clear hsz
  have l6q : n ≤ u3q.heap.size := h4q.out.le
  have l7q : n < u3q.heap.size := h5q.out.lt
  have h8q : Hid (Gd n w (u3q.alloc (.cells #[.int .u64 0, .int .u64 0, .int .u64 0, .int .u64 0, .int .u64 0, .int .u64 0, .int .u64 0, .int .u64 0, .int .u64 0, .int .u64 0, .int .u64 0, .int .u64 0, .int .u64 0, .int .u64 0, .int .u64 0, .int .u64 0, .int .u64 0] 24))) := h4q.out.new (.cells #[.int .u64 0, .int .u64 0, .int .u64 0, .int .u64 0, .int .u64 0, .int .u64 0, .int .u64 0, .int .u64 0, .int .u64 0, .int .u64 0, .int .u64 0, .int .u64 0, .int .u64 0, .int .u64 0, .int .u64 0, .int .u64 0, .int .u64 0] 24)
  have h9q : Hid (Bo (u3q.alloc (.cells #[.int .u64 0, .int .u64 0, .int .u64 0, .int .u64 0, .int .u64 0, .int .u64 0, .int .u64 0, .int .u64 0, .int .u64 0, .int .u64 0, .int .u64 0, .int .u64 0, .int .u64 0, .int .u64 0, .int .u64 0, .int .u64 0, .int .u64 0] 24)) n (wl c)) := h5q.out.new (.cells #[.int .u64 0, .int .u64 0, .int .u64 0, .int .u64 0, .int .u64 0, .int .u64 0, .int .u64 0, .int .u64 0, .int .u64 0, .int .u64 0, .int .u64 0, .int .u64 0, .int .u64 0, .int .u64 0, .int .u64 0, .int .u64 0, .int .u64 0] 24)
  clear h4q h5q
  have h10q : Hid (Bo (u3q.alloc (.cells #[.int .u64 0, .int .u64 0, .int .u64 0, .int .u64 0, .int .u64 0, .int .u64 0, .int .u64 0, .int .u64 0, .int .u64 0, .int .u64 0, .int .u64 0, .int .u64 0, .int .u64 0, .int .u64 0, .int .u64 0, .int .u64 0, .int .u64 0] 24)) u3q.heap.size (wl wz)) := Bo.born u3q (wl wz) 24 (by simp)
  have h11q : Hid (Gd n w ((u3q.alloc (.cells #[.int .u64 0, .int .u64 0, .int .u64 0, .int .u64 0, .int .u64 0, .int .u64 0, .int .u64 0, .int .u64 0, .int .u64 0, .int .u64 0, .int .u64 0, .int .u64 0, .int .u64 0, .int .u64 0, .int .u64 0, .int .u64 0, .int .u64 0] 24)).alloc (.cells #[.int .i64 0, .int .i64 0] 38))) := h8q.out.new (.cells #[.int .i64 0, .int .i64 0] 38)
  have h12q : Hid (Bo ((u3q.alloc (.cells #[.int .u64 0, .int .u64 0, .int .u64 0, .int .u64 0, .int .u64 0, .int .u64 0, .int .u64 0, .int .u64 0, .int .u64 0, .int .u64 0, .int .u64 0, .int .u64 0, .int .u64 0, .int .u64 0, .int .u64 0, .int .u64 0, .int .u64 0] 24)).alloc (.cells #[.int .i64 0, .int .i64 0] 38)) n (wl c)) := h9q.out.new (.cells #[.int .i64 0, .int .i64 0] 38)
  have h13q : Hid (Bo ((u3q.alloc (.cells #[.int .u64 0, .int .u64 0, .int .u64 0, .int .u64 0, .int .u64 0, .int .u64 0, .int .u64 0, .int .u64 0, .int .u64 0, .int .u64 0, .int .u64 0, .int .u64 0, .int .u64 0, .int .u64 0, .int .u64 0, .int .u64 0, .int .u64 0] 24)).alloc (.cells #[.int .i64 0, .int .i64 0] 38)) u3q.heap.size (wl wz)) := h10q.out.new (.cells #[.int .i64 0, .int .i64 0] 38)
  clear h8q h9q h10q
  have h14q : Hid (Bo ((u3q.alloc (.cells #[.int .u64 0, .int .u64 0, .int .u64 0, .int .u64 0, .int .u64 0, .int .u64 0, .int .u64 0, .int .u64 0, .int .u64 0, .int .u64 0, .int .u64 0, .int .u64 0, .int .u64 0, .int .u64 0, .int .u64 0, .int .u64 0, .int .u64 0] 24)).alloc (.cells #[.int .i64 0, .int .i64 0] 38)) (u3q.heap.size + 1) [.int .i64 0, .int .i64 0]) := Bo.born (u3q.alloc (.cells #[.int .u64 0, .int .u64 0, .int .u64 0, .int .u64 0, .int .u64 0, .int .u64 0, .int .u64 0, .int .u64 0, .int .u64 0, .int .u64 0, .int .u64 0, .int .u64 0, .int .u64 0, .int .u64 0, .int .u64 0, .int .u64 0, .int .u64 0] 24)) [.int .i64 0, .int .i64 0] 38 (by simp)
  go_wp2_with (first
    | (refine wpList_store_mid rfl 24 _ _ rfl u3q.heap.size _ (wl d).toArray rfl rfl (h13q.out.thereW d) (HCZ.out d) (wl_all d) ?_
       have h15q : Hid (Gd n w (((u3q.alloc (.cells #[.int .u64 0, .int .u64 0, .int .u64 0, .int .u64 0, .int .u64 0, .int .u64 0, .int .u64 0, .int .u64 0, .int .u64 0, .int .u64 0, .int .u64 0, .int .u64 0, .int .u64 0, .int .u64 0, .int .u64 0, .int .u64 0, .int .u64 0] 24)).alloc (.cells #[.int .i64 0, .int .i64 0] 38)).setCells u3q.heap.size 0 (wl d))) := h11q.out.asideL (by omega) 0 (wl d)
       have h16q : Hid (Bo (((u3q.alloc (.cells #[.int .u64 0, .int .u64 0, .int .u64 0, .int .u64 0, .int .u64 0, .int .u64 0, .int .u64 0, .int .u64 0, .int .u64 0, .int .u64 0, .int .u64 0, .int .u64 0, .int .u64 0, .int .u64 0, .int .u64 0, .int .u64 0, .int .u64 0] 24)).alloc (.cells #[.int .i64 0, .int .i64 0] 38)).setCells u3q.heap.size 0 (wl d)) n (wl c)) := h12q.out.asideL (by omega) 0 (wl d)
       have h17q : Hid (Bo (((u3q.alloc (.cells #[.int .u64 0, .int .u64 0, .int .u64 0, .int .u64 0, .int .u64 0, .int .u64 0, .int .u64 0, .int .u64 0, .int .u64 0, .int .u64 0, .int .u64 0, .int .u64 0, .int .u64 0, .int .u64 0, .int .u64 0, .int .u64 0, .int .u64 0] 24)).alloc (.cells #[.int .i64 0, .int .i64 0] 38)).setCells u3q.heap.size 0 (wl d)) u3q.heap.size (wl d)) := h13q.out.setW d
       have h18q : Hid (Bo (((u3q.alloc (.cells #[.int .u64 0, .int .u64 0, .int .u64 0, .int .u64 0, .int .u64 0, .int .u64 0, .int .u64 0, .int .u64 0, .int .u64 0, .int .u64 0, .int .u64 0, .int .u64 0, .int .u64 0, .int .u64 0, .int .u64 0, .int .u64 0, .int .u64 0] 24)).alloc (.cells #[.int .i64 0, .int .i64 0] 38)).setCells u3q.heap.size 0 (wl d)) (u3q.heap.size + 1) [.int .i64 0, .int .i64 0]) := h14q.out.asideL (by omega) 0 (wl d)
       clear h11q h12q h13q h14q
       generalize (((u3q.alloc (.cells #[.int .u64 0, .int .u64 0, .int .u64 0, .int .u64 0, .int .u64 0, .int .u64 0, .int .u64 0, .int .u64 0, .int .u64 0, .int .u64 0, .int .u64 0, .int .u64 0, .int .u64 0, .int .u64 0, .int .u64 0, .int .u64 0, .int .u64 0] 24)).alloc (.cells #[.int .i64 0, .int .i64 0] 38)).setCells u3q.heap.size 0 (wl d)) = u19q at h15q h16q h17q h18q  ⊢)
    | (refine wpList_store_mid rfl 38 _ _ rfl (u3q.heap.size + 1) _ #[.int .i64 (1), .int .i64 (sz)] rfl rfl h18q.out.there2 HA.out (two_one _ _) ?_
       have h20q : Hid (Gd n w (u19q.setCells (u3q.heap.size + 1) 0 [.int .i64 (1), .int .i64 (sz)])) := h15q.out.asideL (by omega) 0 [.int .i64 (1), .int .i64 (sz)]
       have h21q : Hid (Bo (u19q.setCells (u3q.heap.size + 1) 0 [.int .i64 (1), .int .i64 (sz)]) n (wl c)) := h16q.out.asideL (by omega) 0 [.int .i64 (1), .int .i64 (sz)]
       have h22q : Hid (Bo (u19q.setCells (u3q.heap.size + 1) 0 [.int .i64 (1), .int .i64 (sz)]) u3q.heap.size (wl d)) := h17q.out.asideL (by omega) 0 [.int .i64 (1), .int .i64 (sz)]
       have h23q : Hid (Bo (u19q.setCells (u3q.heap.size + 1) 0 [.int .i64 (1), .int .i64 (sz)]) (u3q.heap.size + 1) [.int .i64 (1), .int .i64 (sz)]) := h18q.out.set2 (.int .i64 (1)) (.int .i64 (sz))
       clear h15q h16q h17q h18q
       generalize (u19q.setCells (u3q.heap.size + 1) 0 [.int .i64 (1), .int .i64 (sz)]) = u24q at h20q h21q h22q h23q  ⊢
       have cy := h23q.out.at 1 rfl))
  go_ret2
  exact ⟨rfl, by first | exact h20q.out.low | exact h20q.out.2⟩
set_option maxHeartbeats 2000000 in
theorem obSize_no {kind : Int} {c : Nat → Nat} (hO : ¬ isOb kind c) (w : World) :
    Calls Tryd.prog 12 #[.int .i64 kind, .agg (wl c).toArray] w (fun e w' => e = .returned (.tuple #[.int .i64 0, .iface 45 (.int .i64 1)]) ∧ Below w.heap.size w w') := by
  have HA : Hid ((Tryd.prog.info? 38).map (·.size) = some 2) := answer_sz
  obtain ⟨fs, ha⟩ := answer_st
  have HDA : Hid _ := ha
  clear ha
  obtain ⟨nb, eb, hd⟩ := cells_array
  have HC : Hid _ := hd
  clear hd
  have HCS : Hid _ := cells_size
  have HCZ : Hid _ := cells_size2
  have g0 : Hid (Gd w.heap.size w w) := Gd.refl w
  have hR : Rt 6 0 0 := ⟨by decide, by decide, by decide, by decide, by decide, by decide⟩
  have DO : Hid (∀ w, Calls Tryd.prog 6 #[.int .i64 kind, .agg (wl c).toArray, .agg #[.int .i64 6, .int .i64 0, .int .i64 0]] w (Refd w)) := fun w => obDo_no (fun h => hO h.2) w
  skip
  clear hR hO
  have h25q : Hid (Gd w.heap.size w (w.alloc (.cells (wl c).toArray 24))) := g0.out.new (.cells (wl c).toArray 24)
  clear g0
  have h26q : Hid (Bo (w.alloc (.cells (wl c).toArray 24)) w.heap.size (wl c)) := Bo.born w (wl c) 24 (by simp)
  go_enter Tryd.func12, Tryd.ntmps12
  go_wp2_with (first
    | (refine wpList_load_mid rfl 24 _ rfl w.heap.size _ rfl (wl c) _ h26q.out.range HC.out rfl (HCS.out c) ?_))
  refine (DO.out _).mono ?_
  rintro e u27q ⟨rfl, hb⟩
  have h28q : Hid (Gd w.heap.size w u27q) := h25q.out.later hb
  have h29q : Hid (Bo u27q w.heap.size (wl c)) := h26q.out.later hb
  clear h25q h26q
  clear hb
  generalize hsz : w.heap.size = n at h28q h29q  ⊢
  have HSZ : Hid (w.heap.size = n) := hsz
  clear hsz
  have l30q : n ≤ u27q.heap.size := h28q.out.le
  have l31q : n < u27q.heap.size := h29q.out.lt
  have h32q : Hid (Gd n w (u27q.alloc (.cells #[.int .u64 0, .int .u64 0, .int .u64 0, .int .u64 0, .int .u64 0, .int .u64 0, .int .u64 0, .int .u64 0, .int .u64 0, .int .u64 0, .int .u64 0, .int .u64 0, .int .u64 0, .int .u64 0, .int .u64 0, .int .u64 0, .int .u64 0] 24))) := h28q.out.new (.cells #[.int .u64 0, .int .u64 0, .int .u64 0, .int .u64 0, .int .u64 0, .int .u64 0, .int .u64 0, .int .u64 0, .int .u64 0, .int .u64 0, .int .u64 0, .int .u64 0, .int .u64 0, .int .u64 0, .int .u64 0, .int .u64 0, .int .u64 0] 24)
  have h33q : Hid (Bo (u27q.alloc (.cells #[.int .u64 0, .int .u64 0, .int .u64 0, .int .u64 0, .int .u64 0, .int .u64 0, .int .u64 0, .int .u64 0, .int .u64 0, .int .u64 0, .int .u64 0, .int .u64 0, .int .u64 0, .int .u64 0, .int .u64 0, .int .u64 0, .int .u64 0] 24)) n (wl c)) := h29q.out.new (.cells #[.int .u64 0, .int .u64 0, .int .u64 0, .int .u64 0, .int .u64 0, .int .u64 0, .int .u64 0, .int .u64 0, .int .u64 0, .int .u64 0, .int .u64 0, .int .u64 0, .int .u64 0, .int .u64 0, .int .u64 0, .int .u64 0, .int .u64 0] 24)
  clear h28q h29q
  have h34q : Hid (Bo (u27q.alloc (.cells #[.int .u64 0, .int .u64 0, .int .u64 0, .int .u64 0, .int .u64 0, .int .u64 0, .int .u64 0, .int .u64 0, .int .u64 0, .int .u64 0, .int .u64 0, .int .u64 0, .int .u64 0, .int .u64 0, .int .u64 0, .int .u64 0, .int .u64 0] 24)) u27q.heap.size (wl wz)) := Bo.born u27q (wl wz) 24 (by simp)
  have h35q : Hid (Gd n w ((u27q.alloc (.cells #[.int .u64 0, .int .u64 0, .int .u64 0, .int .u64 0, .int .u64 0, .int .u64 0, .int .u64 0, .int .u64 0, .int .u64 0, .int .u64 0, .int .u64 0, .int .u64 0, .int .u64 0, .int .u64 0, .int .u64 0, .int .u64 0, .int .u64 0] 24)).alloc (.cells #[.int .i64 0, .int .i64 0] 38))) := h32q.out.new (.cells #[.int .i64 0, .int .i64 0] 38)
  have h36q : Hid (Bo ((u27q.alloc (.cells #[.int .u64 0, .int .u64 0, .int .u64 0, .int .u64 0, .int .u64 0, .int .u64 0, .int .u64 0, .int .u64 0, .int .u64 0, .int .u64 0, .int .u64 0, .int .u64 0, .int .u64 0, .int .u64 0, .int .u64 0, .int .u64 0, .int .u64 0] 24)).alloc (.cells #[.int .i64 0, .int .i64 0] 38)) n (wl c)) := h33q.out.new (.cells #[.int .i64 0, .int .i64 0] 38)
  have h37q : Hid (Bo ((u27q.alloc (.cells #[.int .u64 0, .int .u64 0, .int .u64 0, .int .u64 0, .int .u64 0, .int .u64 0, .int .u64 0, .int .u64 0, .int .u64 0, .int .u64 0, .int .u64 0, .int .u64 0, .int .u64 0, .int .u64 0, .int .u64 0, .int .u64 0, .int .u64 0] 24)).alloc (.cells #[.int .i64 0, .int .i64 0] 38)) u27q.heap.size (wl wz)) := h34q.out.new (.cells #[.int .i64 0, .int .i64 0] 38)
  clear h32q h33q h34q
  have h38q : Hid (Bo ((u27q.alloc (.cells #[.int .u64 0, .int .u64 0, .int .u64 0, .int .u64 0, .int .u64 0, .int .u64 0, .int .u64 0, .int .u64 0, .int .u64 0, .int .u64 0, .int .u64 0, .int .u64 0, .int .u64 0, .int .u64 0, .int .u64 0, .int .u64 0, .int .u64 0] 24)).alloc (.cells #[.int .i64 0, .int .i64 0] 38)) (u27q.heap.size + 1) [.int .i64 0, .int .i64 0]) := Bo.born (u27q.alloc (.cells #[.int .u64 0, .int .u64 0, .int .u64 0, .int .u64 0, .int .u64 0, .int .u64 0, .int .u64 0, .int .u64 0, .int .u64 0, .int .u64 0, .int .u64 0, .int .u64 0, .int .u64 0, .int .u64 0, .int .u64 0, .int .u64 0, .int .u64 0] 24)) [.int .i64 0, .int .i64 0] 38 (by simp)
  go_wp2_with (first
    | (refine wpList_store_mid rfl 24 _ _ rfl u27q.heap.size _ (wl wz).toArray rfl rfl (h37q.out.thereW wz) (HCZ.out wz) (wl_all wz) ?_
       have h39q : Hid (Gd n w (((u27q.alloc (.cells #[.int .u64 0, .int .u64 0, .int .u64 0, .int .u64 0, .int .u64 0, .int .u64 0, .int .u64 0, .int .u64 0, .int .u64 0, .int .u64 0, .int .u64 0, .int .u64 0, .int .u64 0, .int .u64 0, .int .u64 0, .int .u64 0, .int .u64 0] 24)).alloc (.cells #[.int .i64 0, .int .i64 0] 38)).setCells u27q.heap.size 0 (wl wz))) := h35q.out.asideL (by omega) 0 (wl wz)
       have h40q : Hid (Bo (((u27q.alloc (.cells #[.int .u64 0, .int .u64 0, .int .u64 0, .int .u64 0, .int .u64 0, .int .u64 0, .int .u64 0, .int .u64 0, .int .u64 0, .int .u64 0, .int .u64 0, .int .u64 0, .int .u64 0, .int .u64 0, .int .u64 0, .int .u64 0, .int .u64 0] 24)).alloc (.cells #[.int .i64 0, .int .i64 0] 38)).setCells u27q.heap.size 0 (wl wz)) n (wl c)) := h36q.out.asideL (by omega) 0 (wl wz)
       have h41q : Hid (Bo (((u27q.alloc (.cells #[.int .u64 0, .int .u64 0, .int .u64 0, .int .u64 0, .int .u64 0, .int .u64 0, .int .u64 0, .int .u64 0, .int .u64 0, .int .u64 0, .int .u64 0, .int .u64 0, .int .u64 0, .int .u64 0, .int .u64 0, .int .u64 0, .int .u64 0] 24)).alloc (.cells #[.int .i64 0, .int .i64 0] 38)).setCells u27q.heap.size 0 (wl wz)) u27q.heap.size (wl wz)) := h37q.out.setW wz
       have h42q : Hid (Bo (((u27q.alloc (.cells #[.int .u64 0, .int .u64 0, .int .u64 0, .int .u64 0, .int .u64 0, .int .u64 0, .int .u64 0, .int .u64 0, .int .u64 0, .int .u64 0, .int .u64 0, .int .u64 0, .int .u64 0, .int .u64 0, .int .u64 0, .int .u64 0, .int .u64 0] 24)).alloc (.cells #[.int .i64 0, .int .i64 0] 38)).setCells u27q.heap.size 0 (wl wz)) (u27q.heap.size + 1) [.int .i64 0, .int .i64 0]) := h38q.out.asideL (by omega) 0 (wl wz)
       clear h35q h36q h37q h38q
       generalize (((u27q.alloc (.cells #[.int .u64 0, .int .u64 0, .int .u64 0, .int .u64 0, .int .u64 0, .int .u64 0, .int .u64 0, .int .u64 0, .int .u64 0, .int .u64 0, .int .u64 0, .int .u64 0, .int .u64 0, .int .u64 0, .int .u64 0, .int .u64 0, .int .u64 0] 24)).alloc (.cells #[.int .i64 0, .int .i64 0] 38)).setCells u27q.heap.size 0 (wl wz)) = u43q at h39q h40q h41q h42q  ⊢)
    | (refine wpList_store_mid rfl 38 _ _ rfl (u27q.heap.size + 1) _ #[.int .i64 (0), .int .i64 (0)] rfl rfl h42q.out.there2 HA.out (two_one _ _) ?_
       have h44q : Hid (Gd n w (u43q.setCells (u27q.heap.size + 1) 0 [.int .i64 (0), .int .i64 (0)])) := h39q.out.asideL (by omega) 0 [.int .i64 (0), .int .i64 (0)]
       have h45q : Hid (Bo (u43q.setCells (u27q.heap.size + 1) 0 [.int .i64 (0), .int .i64 (0)]) n (wl c)) := h40q.out.asideL (by omega) 0 [.int .i64 (0), .int .i64 (0)]
       have h46q : Hid (Bo (u43q.setCells (u27q.heap.size + 1) 0 [.int .i64 (0), .int .i64 (0)]) u27q.heap.size (wl wz)) := h41q.out.asideL (by omega) 0 [.int .i64 (0), .int .i64 (0)]
       have h47q : Hid (Bo (u43q.setCells (u27q.heap.size + 1) 0 [.int .i64 (0), .int .i64 (0)]) (u27q.heap.size + 1) [.int .i64 (0), .int .i64 (0)]) := h42q.out.set2 (.int .i64 (0)) (.int .i64 (0))
       clear h39q h40q h41q h42q
       generalize (u43q.setCells (u27q.heap.size + 1) 0 [.int .i64 (0), .int .i64 (0)]) = u48q at h44q h45q h46q h47q  ⊢
       have cy := h47q.out.at 1 rfl))
  go_ret2
  exact ⟨rfl, by first | exact h44q.out.low | exact h44q.out.2⟩
end Go.Proofs.YtbmgjpdfmgcigabDoor.Tab
