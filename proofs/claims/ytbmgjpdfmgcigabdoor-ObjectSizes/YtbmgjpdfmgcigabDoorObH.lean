/- Package object: withTally, by its contract. -/
import Derived.Test.YtbmgjpdfmgcigabDoorObA
import Derived.Test.YtbmgjpdfmgcigabDoorTa
import Derived.Test.YtbmgjpdfmgcigabDoorPk
namespace Go.Proofs.YtbmgjpdfmgcigabDoor.Tab
set_option maxRecDepth 20000
open Go.RowKit
set_option linter.unusedVariables false

set_option maxHeartbeats 2000000 in
theorem withTally_is {c : Nat → Nat} {m r : Nat} {o k x cc y : Int} (h0 : c 0 = m) (hm : m ≤ 4294967295) (x0 : 0 ≤ x) (x1 : x ≤ 4294967295) (hr : r ≤ 4294967295) (hu : ado m o x = (((r : Nat) : Int), cc, y)) (w : World) :
    Calls Tryd.prog 41 #[.agg (wl c).toArray, .agg #[.int .i64 o, .int .i64 k, .int .i64 x]] w (fun e w' => e = .returned (.tuple #[.agg (wl (upw wz 0 r)).toArray, .agg #[.int .i64 cc, .int .i64 y]]) ∧ Below w.heap.size w w') := by
  have HA : Hid ((Tryd.prog.info? 38).map (·.size) = some 2) := answer_sz
  obtain ⟨fs, ha⟩ := answer_st
  have HDA : Hid _ := ha
  clear ha
  obtain ⟨nb, eb, hd⟩ := cells_array
  have HC : Hid _ := hd
  clear hd
  have HCS : Hid _ := cells_size
  have HCZ : Hid _ := cells_size2
  have g0 : Hid (Gd w.heap.size w w) := Gd.refl w
  have D : Hid (∀ w : World, _) := fun w => aDo_eq (n := ((m : Nat) : Int)) (o := o) (k := k) (x := x) (by omega) (by omega) (by omega) (by omega) hu w
  have em1 : IntKind.i64.wrap (m : Int) = m := by rw [IntKind.wrap_i64]; omega
  have em2 : wrap64 (m : Int) = m := by unfold wrap64; omega
  have er : IntKind.u64.wrap (r : Int) = r := by rw [IntKind.wrap_u64]; omega
  have H0 : Hid _ := h0
  clear h0 hm x0 x1 hr hu
  have h1q : Hid (Gd w.heap.size w (w.alloc (.cells (wl c).toArray 24))) := g0.out.new (.cells (wl c).toArray 24)
  clear g0
  have h2q : Hid (Bo (w.alloc (.cells (wl c).toArray 24)) w.heap.size (wl c)) := Bo.born w (wl c) 24 (by simp)
  have h3q : Hid (Gd w.heap.size w ((w.alloc (.cells (wl c).toArray 24)).alloc (.cells #[.int .i64 o, .int .i64 k, .int .i64 x] 26))) := h1q.out.new (.cells #[.int .i64 o, .int .i64 k, .int .i64 x] 26)
  have h4q : Hid (Bo ((w.alloc (.cells (wl c).toArray 24)).alloc (.cells #[.int .i64 o, .int .i64 k, .int .i64 x] 26)) w.heap.size (wl c)) := h2q.out.new (.cells #[.int .i64 o, .int .i64 k, .int .i64 x] 26)
  clear h1q h2q
  have h5q : Hid (Bo ((w.alloc (.cells (wl c).toArray 24)).alloc (.cells #[.int .i64 o, .int .i64 k, .int .i64 x] 26)) (w.heap.size + 1) [.int .i64 o, .int .i64 k, .int .i64 x]) := Bo.born (w.alloc (.cells (wl c).toArray 24)) [.int .i64 o, .int .i64 k, .int .i64 x] 26 (by simp)
  have h6q : Hid (Gd w.heap.size w (((w.alloc (.cells (wl c).toArray 24)).alloc (.cells #[.int .i64 o, .int .i64 k, .int .i64 x] 26)).alloc (.cells #[.int .u64 0, .int .u64 0, .int .u64 0, .int .u64 0, .int .u64 0, .int .u64 0, .int .u64 0, .int .u64 0, .int .u64 0, .int .u64 0, .int .u64 0, .int .u64 0, .int .u64 0, .int .u64 0, .int .u64 0, .int .u64 0, .int .u64 0] 24))) := h3q.out.new (.cells #[.int .u64 0, .int .u64 0, .int .u64 0, .int .u64 0, .int .u64 0, .int .u64 0, .int .u64 0, .int .u64 0, .int .u64 0, .int .u64 0, .int .u64 0, .int .u64 0, .int .u64 0, .int .u64 0, .int .u64 0, .int .u64 0, .int .u64 0] 24)
  have h7q : Hid (Bo (((w.alloc (.cells (wl c).toArray 24)).alloc (.cells #[.int .i64 o, .int .i64 k, .int .i64 x] 26)).alloc (.cells #[.int .u64 0, .int .u64 0, .int .u64 0, .int .u64 0, .int .u64 0, .int .u64 0, .int .u64 0, .int .u64 0, .int .u64 0, .int .u64 0, .int .u64 0, .int .u64 0, .int .u64 0, .int .u64 0, .int .u64 0, .int .u64 0, .int .u64 0] 24)) w.heap.size (wl c)) := h4q.out.new (.cells #[.int .u64 0, .int .u64 0, .int .u64 0, .int .u64 0, .int .u64 0, .int .u64 0, .int .u64 0, .int .u64 0, .int .u64 0, .int .u64 0, .int .u64 0, .int .u64 0, .int .u64 0, .int .u64 0, .int .u64 0, .int .u64 0, .int .u64 0] 24)
  have h8q : Hid (Bo (((w.alloc (.cells (wl c).toArray 24)).alloc (.cells #[.int .i64 o, .int .i64 k, .int .i64 x] 26)).alloc (.cells #[.int .u64 0, .int .u64 0, .int .u64 0, .int .u64 0, .int .u64 0, .int .u64 0, .int .u64 0, .int .u64 0, .int .u64 0, .int .u64 0, .int .u64 0, .int .u64 0, .int .u64 0, .int .u64 0, .int .u64 0, .int .u64 0, .int .u64 0] 24)) (w.heap.size + 1) [.int .i64 o, .int .i64 k, .int .i64 x]) := h5q.out.new (.cells #[.int .u64 0, .int .u64 0, .int .u64 0, .int .u64 0, .int .u64 0, .int .u64 0, .int .u64 0, .int .u64 0, .int .u64 0, .int .u64 0, .int .u64 0, .int .u64 0, .int .u64 0, .int .u64 0, .int .u64 0, .int .u64 0, .int .u64 0] 24)
  clear h3q h4q h5q
  have h9q : Hid (Bo (((w.alloc (.cells (wl c).toArray 24)).alloc (.cells #[.int .i64 o, .int .i64 k, .int .i64 x] 26)).alloc (.cells #[.int .u64 0, .int .u64 0, .int .u64 0, .int .u64 0, .int .u64 0, .int .u64 0, .int .u64 0, .int .u64 0, .int .u64 0, .int .u64 0, .int .u64 0, .int .u64 0, .int .u64 0, .int .u64 0, .int .u64 0, .int .u64 0, .int .u64 0] 24)) (w.heap.size + 2) (wl wz)) := Bo.born ((w.alloc (.cells (wl c).toArray 24)).alloc (.cells #[.int .i64 o, .int .i64 k, .int .i64 x] 26)) (wl wz) 24 (by simp)
  have h10q : Hid (Gd w.heap.size w ((((w.alloc (.cells (wl c).toArray 24)).alloc (.cells #[.int .i64 o, .int .i64 k, .int .i64 x] 26)).alloc (.cells #[.int .u64 0, .int .u64 0, .int .u64 0, .int .u64 0, .int .u64 0, .int .u64 0, .int .u64 0, .int .u64 0, .int .u64 0, .int .u64 0, .int .u64 0, .int .u64 0, .int .u64 0, .int .u64 0, .int .u64 0, .int .u64 0, .int .u64 0] 24)).alloc (.cells #[.int .i64 0, .int .i64 0] 38))) := h6q.out.new (.cells #[.int .i64 0, .int .i64 0] 38)
  have h11q : Hid (Bo ((((w.alloc (.cells (wl c).toArray 24)).alloc (.cells #[.int .i64 o, .int .i64 k, .int .i64 x] 26)).alloc (.cells #[.int .u64 0, .int .u64 0, .int .u64 0, .int .u64 0, .int .u64 0, .int .u64 0, .int .u64 0, .int .u64 0, .int .u64 0, .int .u64 0, .int .u64 0, .int .u64 0, .int .u64 0, .int .u64 0, .int .u64 0, .int .u64 0, .int .u64 0] 24)).alloc (.cells #[.int .i64 0, .int .i64 0] 38)) w.heap.size (wl c)) := h7q.out.new (.cells #[.int .i64 0, .int .i64 0] 38)
  have h12q : Hid (Bo ((((w.alloc (.cells (wl c).toArray 24)).alloc (.cells #[.int .i64 o, .int .i64 k, .int .i64 x] 26)).alloc (.cells #[.int .u64 0, .int .u64 0, .int .u64 0, .int .u64 0, .int .u64 0, .int .u64 0, .int .u64 0, .int .u64 0, .int .u64 0, .int .u64 0, .int .u64 0, .int .u64 0, .int .u64 0, .int .u64 0, .int .u64 0, .int .u64 0, .int .u64 0] 24)).alloc (.cells #[.int .i64 0, .int .i64 0] 38)) (w.heap.size + 1) [.int .i64 o, .int .i64 k, .int .i64 x]) := h8q.out.new (.cells #[.int .i64 0, .int .i64 0] 38)
  have h13q : Hid (Bo ((((w.alloc (.cells (wl c).toArray 24)).alloc (.cells #[.int .i64 o, .int .i64 k, .int .i64 x] 26)).alloc (.cells #[.int .u64 0, .int .u64 0, .int .u64 0, .int .u64 0, .int .u64 0, .int .u64 0, .int .u64 0, .int .u64 0, .int .u64 0, .int .u64 0, .int .u64 0, .int .u64 0, .int .u64 0, .int .u64 0, .int .u64 0, .int .u64 0, .int .u64 0] 24)).alloc (.cells #[.int .i64 0, .int .i64 0] 38)) (w.heap.size + 2) (wl wz)) := h9q.out.new (.cells #[.int .i64 0, .int .i64 0] 38)
  clear h6q h7q h8q h9q
  have h14q : Hid (Bo ((((w.alloc (.cells (wl c).toArray 24)).alloc (.cells #[.int .i64 o, .int .i64 k, .int .i64 x] 26)).alloc (.cells #[.int .u64 0, .int .u64 0, .int .u64 0, .int .u64 0, .int .u64 0, .int .u64 0, .int .u64 0, .int .u64 0, .int .u64 0, .int .u64 0, .int .u64 0, .int .u64 0, .int .u64 0, .int .u64 0, .int .u64 0, .int .u64 0, .int .u64 0] 24)).alloc (.cells #[.int .i64 0, .int .i64 0] 38)) (w.heap.size + 3) [.int .i64 0, .int .i64 0]) := Bo.born (((w.alloc (.cells (wl c).toArray 24)).alloc (.cells #[.int .i64 o, .int .i64 k, .int .i64 x] 26)).alloc (.cells #[.int .u64 0, .int .u64 0, .int .u64 0, .int .u64 0, .int .u64 0, .int .u64 0, .int .u64 0, .int .u64 0, .int .u64 0, .int .u64 0, .int .u64 0, .int .u64 0, .int .u64 0, .int .u64 0, .int .u64 0, .int .u64 0, .int .u64 0] 24)) [.int .i64 0, .int .i64 0] 38 (by simp)
  have cw := h11q.out.word (show 0 < 17 by decide)
  rw [H0.out] at cw
  have c15q := h12q.out.at 0 rfl
  have c16q := h12q.out.at 1 rfl
  have c17q := h12q.out.at 2 rfl
  go_enter Tryd.func41, Tryd.ntmps41
  go_wp2_with fail
  refine (D.out _).mono ?_
  rintro e u18q ⟨rfl, hb⟩
  have h19q : Hid (Gd w.heap.size w u18q) := h10q.out.later hb
  have h20q : Hid (Bo u18q w.heap.size (wl c)) := h11q.out.later hb
  have h21q : Hid (Bo u18q (w.heap.size + 1) [.int .i64 o, .int .i64 k, .int .i64 x]) := h12q.out.later hb
  have h22q : Hid (Bo u18q (w.heap.size + 2) (wl wz)) := h13q.out.later hb
  have h23q : Hid (Bo u18q (w.heap.size + 3) [.int .i64 0, .int .i64 0]) := h14q.out.later hb
  clear h10q h11q h12q h13q h14q
  clear hb
  generalize hsz : w.heap.size = n at h19q h20q h21q h22q h23q ⊢
  have HSZ : Hid (w.heap.size = n) := hsz
  clear hsz
  have l24q : n ≤ u18q.heap.size := h19q.out.le
  have l25q : n < u18q.heap.size := h20q.out.lt
  have l26q : (n + 1) < u18q.heap.size := h21q.out.lt
  have l27q : (n + 2) < u18q.heap.size := h22q.out.lt
  have l28q : (n + 3) < u18q.heap.size := h23q.out.lt
  have h29q : Hid (Gd n w (u18q.alloc (.cells #[.int .i64 0, .int .i64 0] 38))) := h19q.out.new (.cells #[.int .i64 0, .int .i64 0] 38)
  have h30q : Hid (Bo (u18q.alloc (.cells #[.int .i64 0, .int .i64 0] 38)) n (wl c)) := h20q.out.new (.cells #[.int .i64 0, .int .i64 0] 38)
  have h31q : Hid (Bo (u18q.alloc (.cells #[.int .i64 0, .int .i64 0] 38)) (n + 1) [.int .i64 o, .int .i64 k, .int .i64 x]) := h21q.out.new (.cells #[.int .i64 0, .int .i64 0] 38)
  have h32q : Hid (Bo (u18q.alloc (.cells #[.int .i64 0, .int .i64 0] 38)) (n + 2) (wl wz)) := h22q.out.new (.cells #[.int .i64 0, .int .i64 0] 38)
  have h33q : Hid (Bo (u18q.alloc (.cells #[.int .i64 0, .int .i64 0] 38)) (n + 3) [.int .i64 0, .int .i64 0]) := h23q.out.new (.cells #[.int .i64 0, .int .i64 0] 38)
  clear h19q h20q h21q h22q h23q
  have h34q : Hid (Bo (u18q.alloc (.cells #[.int .i64 0, .int .i64 0] 38)) u18q.heap.size [.int .i64 0, .int .i64 0]) := Bo.born u18q [.int .i64 0, .int .i64 0] 38 (by simp)
  go_wp2_with (first
    | (refine wpList_store_mid rfl 38 _ _ rfl u18q.heap.size _ #[.int .i64 (cc), .int .i64 (y)] rfl rfl h34q.out.there2 HA.out (two_one _ _) ?_
       have h35q : Hid (Gd n w ((u18q.alloc (.cells #[.int .i64 0, .int .i64 0] 38)).setCells u18q.heap.size 0 [.int .i64 (cc), .int .i64 (y)])) := h29q.out.asideL (by omega) 0 [.int .i64 (cc), .int .i64 (y)]
       have h36q : Hid (Bo ((u18q.alloc (.cells #[.int .i64 0, .int .i64 0] 38)).setCells u18q.heap.size 0 [.int .i64 (cc), .int .i64 (y)]) n (wl c)) := h30q.out.asideL (by omega) 0 [.int .i64 (cc), .int .i64 (y)]
       have h37q : Hid (Bo ((u18q.alloc (.cells #[.int .i64 0, .int .i64 0] 38)).setCells u18q.heap.size 0 [.int .i64 (cc), .int .i64 (y)]) (n + 1) [.int .i64 o, .int .i64 k, .int .i64 x]) := h31q.out.asideL (by omega) 0 [.int .i64 (cc), .int .i64 (y)]
       have h38q : Hid (Bo ((u18q.alloc (.cells #[.int .i64 0, .int .i64 0] 38)).setCells u18q.heap.size 0 [.int .i64 (cc), .int .i64 (y)]) (n + 2) (wl wz)) := h32q.out.asideL (by omega) 0 [.int .i64 (cc), .int .i64 (y)]
       have h39q : Hid (Bo ((u18q.alloc (.cells #[.int .i64 0, .int .i64 0] 38)).setCells u18q.heap.size 0 [.int .i64 (cc), .int .i64 (y)]) (n + 3) [.int .i64 0, .int .i64 0]) := h33q.out.asideL (by omega) 0 [.int .i64 (cc), .int .i64 (y)]
       have h40q : Hid (Bo ((u18q.alloc (.cells #[.int .i64 0, .int .i64 0] 38)).setCells u18q.heap.size 0 [.int .i64 (cc), .int .i64 (y)]) u18q.heap.size [.int .i64 (cc), .int .i64 (y)]) := h34q.out.set2 (.int .i64 (cc)) (.int .i64 (y))
       clear h29q h30q h31q h32q h33q h34q
       generalize ((u18q.alloc (.cells #[.int .i64 0, .int .i64 0] 38)).setCells u18q.heap.size 0 [.int .i64 (cc), .int .i64 (y)]) = u41q at h35q h36q h37q h38q h39q h40q  ⊢))
  have h42q : Hid (Gd n w u41q.drew) := h35q.out.drew
  have h43q : Hid (Bo u41q.drew n (wl c)) := h36q.out.drew
  have h44q : Hid (Bo u41q.drew (n + 1) [.int .i64 o, .int .i64 k, .int .i64 x]) := h37q.out.drew
  have h45q : Hid (Bo u41q.drew (n + 2) (wl wz)) := h38q.out.drew
  have h46q : Hid (Bo u41q.drew (n + 3) [.int .i64 0, .int .i64 0]) := h39q.out.drew
  have h47q : Hid (Bo u41q.drew u18q.heap.size [.int .i64 (cc), .int .i64 (y)]) := h40q.out.drew
  clear h35q h36q h37q h38q h39q h40q
  refine wp_region_held_drew (S := fun w' => Bo w' u18q.heap.size [.int .i64 (cc), .int .i64 (y)]) (by kernel_rfl) h47q.out (fun hH => ?_)
  generalize u41q.drew = u48q at h42q h43q h44q h45q h46q h47q hH ⊢
  refine wpAnyH_take (i := 0) (oi := { dst := some 16, op := .move (.tmp 6), type := _, pos := _, after := _, guard := _ }) (v := ?_) rfl (by kernel_rfl) (by kernel_rfl) (by kernel_rfl) (fun _ _ _ h => h) (Or.inl ⟨by rfl, ?_⟩) hH ?_
  rotate_left
  · intro w hSw
    clear hSw
    go_simp
    try with_reducible rfl
  simp only [Act.put, List.setIfInBounds_toArray, List.set_cons_zero, List.set_cons_succ]
  refine wpAnyH_take (i := 1) (oi := { dst := some 17, op := .convert _ _ (.tmp 16), type := _, pos := _, after := _, guard := _ }) (v := ?_) rfl (by kernel_rfl) (by kernel_rfl) (by kernel_rfl) (fun _ _ _ h => h) (Or.inl ⟨by rfl, ?_⟩) hH ?_
  rotate_left
  · intro w hSw
    clear hSw
    go_simp
    try with_reducible rfl
  simp only [Act.put, List.setIfInBounds_toArray, List.set_cons_zero, List.set_cons_succ]
  refine wpAnyH_take (i := 2) (oi := { dst := some 18, op := .build _ #[(0, .tmp 17)], type := _, pos := _, after := _, guard := _ }) (v := ?_) rfl (by kernel_rfl) (by kernel_rfl) (by kernel_rfl) (fun _ _ _ h => h) (Or.inl ⟨by rfl, ?_⟩) hH ?_
  rotate_left
  · intro w hSw
    clear hSw
    go_simp
    try with_reducible rfl
  simp only [Act.put, List.setIfInBounds_toArray, List.set_cons_zero, List.set_cons_succ]
  refine wpAnyH_take (i := 3) (oi := { dst := some 19, op := .load _ (.tmp 7), type := _, pos := _, after := _, guard := _ }) (v := ?_) rfl (by kernel_rfl) (by kernel_rfl) (by kernel_rfl) (fun _ _ _ h => h) (Or.inl ⟨by rfl, ?_⟩) hH ?_
  rotate_left
  · intro w hSw
    have c49q := (hSw).at 0 rfl
    have c50q := (hSw).at 1 rfl
    clear hSw
    go_simp
    try with_reducible rfl
  simp only [Act.put, List.setIfInBounds_toArray, List.set_cons_zero, List.set_cons_succ]
  refine wpAnyH_ready (rs := [4]) (by kernel_rfl) (by simp) ?_
  refine AllReadyH.cons (o := { dst := none, op := .store _ (.tmp 4) (.tmp 18), type := _, pos := _, after := _, guard := _ }) rfl (fun K hK => ?_) AllReadyH.nil
  rw [if_pos (by rfl)]
  refine wp_store_mid _ _ _ rfl (n + 2) _ (wl (upw wz 0 r)).toArray rfl rfl (h45q.out.thereW (upw wz 0 r)) (HCZ.out (upw wz 0 r)) (wl_all (upw wz 0 r)) ?_
  simp only [Act.put]
  have h51q : Hid (Gd n w (u48q.setCells (n + 2) 0 (wl (upw wz 0 r)))) := h42q.out.asideL (by omega) 0 (wl (upw wz 0 r))
  have h52q : Hid (Bo (u48q.setCells (n + 2) 0 (wl (upw wz 0 r))) n (wl c)) := h43q.out.asideL (by omega) 0 (wl (upw wz 0 r))
  have h53q : Hid (Bo (u48q.setCells (n + 2) 0 (wl (upw wz 0 r))) (n + 1) [.int .i64 o, .int .i64 k, .int .i64 x]) := h44q.out.asideL (by omega) 0 (wl (upw wz 0 r))
  have h54q : Hid (Bo (u48q.setCells (n + 2) 0 (wl (upw wz 0 r))) (n + 2) (wl (upw wz 0 r))) := h45q.out.setW (upw wz 0 r)
  have h55q : Hid (Bo (u48q.setCells (n + 2) 0 (wl (upw wz 0 r))) (n + 3) [.int .i64 0, .int .i64 0]) := h46q.out.asideL (by omega) 0 (wl (upw wz 0 r))
  have h56q : Hid (Bo (u48q.setCells (n + 2) 0 (wl (upw wz 0 r))) u18q.heap.size [.int .i64 (cc), .int .i64 (y)]) := h47q.out.asideL (by omega) 0 (wl (upw wz 0 r))
  clear h42q h43q h44q h45q h46q h47q
  refine hK.out _ _ h56q.out (fun hH => ?_)
  clear hK K
  generalize (u48q.setCells (n + 2) 0 (wl (upw wz 0 r))) = u57q at h51q h52q h53q h54q h55q h56q hH ⊢
  try simp only [Act.put, List.setIfInBounds_toArray, List.set_cons_zero, List.set_cons_succ]
  refine wpAnyH_ready (rs := [5]) (by kernel_rfl) (by simp) ?_
  refine AllReadyH.cons (o := { dst := none, op := .store _ (.tmp 5) (.tmp 19), type := _, pos := _, after := _, guard := _ }) rfl (fun K hK => ?_) AllReadyH.nil
  rw [if_pos (by rfl)]
  refine wp_store_mid _ _ _ rfl (n + 3) _ #[.int .i64 (cc), .int .i64 (y)] rfl rfl h55q.out.there2 HA.out (two_one _ _) ?_
  simp only [Act.put]
  have h58q : Hid (Gd n w (u57q.setCells (n + 3) 0 [.int .i64 (cc), .int .i64 (y)])) := h51q.out.asideL (by omega) 0 [.int .i64 (cc), .int .i64 (y)]
  have h59q : Hid (Bo (u57q.setCells (n + 3) 0 [.int .i64 (cc), .int .i64 (y)]) n (wl c)) := h52q.out.asideL (by omega) 0 [.int .i64 (cc), .int .i64 (y)]
  have h60q : Hid (Bo (u57q.setCells (n + 3) 0 [.int .i64 (cc), .int .i64 (y)]) (n + 1) [.int .i64 o, .int .i64 k, .int .i64 x]) := h53q.out.asideL (by omega) 0 [.int .i64 (cc), .int .i64 (y)]
  have h61q : Hid (Bo (u57q.setCells (n + 3) 0 [.int .i64 (cc), .int .i64 (y)]) (n + 2) (wl (upw wz 0 r))) := h54q.out.asideL (by omega) 0 [.int .i64 (cc), .int .i64 (y)]
  have h62q : Hid (Bo (u57q.setCells (n + 3) 0 [.int .i64 (cc), .int .i64 (y)]) (n + 3) [.int .i64 (cc), .int .i64 (y)]) := h55q.out.set2 (.int .i64 (cc)) (.int .i64 (y))
  have h63q : Hid (Bo (u57q.setCells (n + 3) 0 [.int .i64 (cc), .int .i64 (y)]) u18q.heap.size [.int .i64 (cc), .int .i64 (y)]) := h56q.out.asideL (by omega) 0 [.int .i64 (cc), .int .i64 (y)]
  clear h51q h52q h53q h54q h55q h56q
  refine hK.out _ _ h63q.out (fun hH => ?_)
  clear hK K
  generalize (u57q.setCells (n + 3) 0 [.int .i64 (cc), .int .i64 (y)]) = u64q at h58q h59q h60q h61q h62q h63q hH ⊢
  try simp only [Act.put, List.setIfInBounds_toArray, List.set_cons_zero, List.set_cons_succ]
  refine wpAnyH_done (by kernel_rfl) ?_ _
  go_wp2
  exact bodyPost_ret (results_row2 Tryd.results41 _ _ (n + 2) (n + 3) (wl (upw wz 0 r)) [.int .i64 (cc), .int .i64 (y)] _ _ rfl rfl h61q.out.range HC.out rfl (HCS.out (upw wz 0 r)) h62q.out.range HDA.out rfl HA.out) rfl ⟨rfl, by first | exact h58q.out.low | exact h58q.out.2⟩
end Go.Proofs.YtbmgjpdfmgcigabDoor.Tab
