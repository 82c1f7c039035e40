/- Package table: Do, by its contract. -/
import Derived.Test.YtbmgjpdfmgcigabDoorTp4
namespace Go.Proofs.YtbmgjpdfmgcigabDoor.Tab
set_option maxRecDepth 20000
open Go.RowKit

theorem answer_size : (Tryd.prog.info? 38).map (·.size) = some 2 := by kernel_rfl
theorem answer_struct : ∃ fs, Tryd.prog.underlying 38 = some (.struct fs) := ⟨_, Tryd.underlying38⟩
/-- What Do hands back. -/
def Told (w : World) (r : Tb × Int × Int) (e : Ending) (w' : World) : Prop := e = .returned (.tuple #[.agg r.1.all.toArray, .agg #[.int .i64 r.2.1, .int .i64 r.2.2]]) ∧ Below w.heap.size w w'

set_option maxHeartbeats 2000000 in
theorem tDo_count (t : Tb) (k x : Int) (w : World) :
    Calls Tryd.prog 58 #[.agg t.all.toArray, .agg #[.int .i64 6, .int .i64 k, .int .i64 x]] w (Told w (t, 1, (len t : Int))) := by
  obtain ⟨na, ea, hd⟩ := slots_array
  have HD : Hid _ := hd
  clear hd
  have HS : Hid (∀ t : Tb, (Tryd.prog.info? 92).map (·.size) = some t.all.length) := slots_size
  have HZ : Hid (∀ t : Tb, (Tryd.prog.info? 92).map (·.size) = some t.all.toArray.size) := slots_size2
  have HT : Hid ((Tryd.prog.info? 90).map (·.size) = some 2) := slot_size
  have HA : Hid ((Tryd.prog.info? 38).map (·.size) = some 2) := answer_size
  obtain ⟨fs, ha⟩ := answer_struct
  have HDA : Hid _ := ha
  clear ha
  have g0 : Hid (Gd w.heap.size w ((((w.alloc (.cells t.all.toArray 92)).alloc (.cells #[.int .i64 6, .int .i64 k, .int .i64 x] 26)).alloc (.cells #[.int .i64 0, .int .i64 0, .int .i64 0, .int .i64 0, .int .i64 0, .int .i64 0, .int .i64 0, .int .i64 0, .int .i64 0, .int .i64 0, .int .i64 0, .int .i64 0, .int .i64 0, .int .i64 0, .int .i64 0, .int .i64 0] 92)).alloc (.cells #[.int .i64 0, .int .i64 0] 38))) := ((((Gd.refl w).new _).new _).new _).new _
  have t0 : Hid (TAt ((((w.alloc (.cells t.all.toArray 92)).alloc (.cells #[.int .i64 6, .int .i64 k, .int .i64 x] 26)).alloc (.cells #[.int .i64 0, .int .i64 0, .int .i64 0, .int .i64 0, .int .i64 0, .int .i64 0, .int .i64 0, .int .i64 0, .int .i64 0, .int .i64 0, .int .i64 0, .int .i64 0, .int .i64 0, .int .i64 0, .int .i64 0, .int .i64 0] 92)).alloc (.cells #[.int .i64 0, .int .i64 0] 38)) w.heap.size t) := (((TAt.born w t _).new _).new _).new _
  have o0 : Hid (Bo ((((w.alloc (.cells t.all.toArray 92)).alloc (.cells #[.int .i64 6, .int .i64 k, .int .i64 x] 26)).alloc (.cells #[.int .i64 0, .int .i64 0, .int .i64 0, .int .i64 0, .int .i64 0, .int .i64 0, .int .i64 0, .int .i64 0, .int .i64 0, .int .i64 0, .int .i64 0, .int .i64 0, .int .i64 0, .int .i64 0, .int .i64 0, .int .i64 0] 92)).alloc (.cells #[.int .i64 0, .int .i64 0] 38)) (w.heap.size + 1) [.int .i64 6, .int .i64 k, .int .i64 x]) := ((Bo.born _ [.int .i64 6, .int .i64 k, .int .i64 x] _ (by simp)).new _).new _
  have z0 : Hid (TAt ((((w.alloc (.cells t.all.toArray 92)).alloc (.cells #[.int .i64 6, .int .i64 k, .int .i64 x] 26)).alloc (.cells #[.int .i64 0, .int .i64 0, .int .i64 0, .int .i64 0, .int .i64 0, .int .i64 0, .int .i64 0, .int .i64 0, .int .i64 0, .int .i64 0, .int .i64 0, .int .i64 0, .int .i64 0, .int .i64 0, .int .i64 0, .int .i64 0] 92)).alloc (.cells #[.int .i64 0, .int .i64 0] 38)) (w.heap.size + 2) Tb.zero) := (TAt.bornZero _ _ (by simp)).new _
  have r0 : Hid (Bo ((((w.alloc (.cells t.all.toArray 92)).alloc (.cells #[.int .i64 6, .int .i64 k, .int .i64 x] 26)).alloc (.cells #[.int .i64 0, .int .i64 0, .int .i64 0, .int .i64 0, .int .i64 0, .int .i64 0, .int .i64 0, .int .i64 0, .int .i64 0, .int .i64 0, .int .i64 0, .int .i64 0, .int .i64 0, .int .i64 0, .int .i64 0, .int .i64 0] 92)).alloc (.cells #[.int .i64 0, .int .i64 0] 38)) (w.heap.size + 3) [.int .i64 0, .int .i64 0]) := Bo.born _ [.int .i64 0, .int .i64 0] _ (by simp)
  have HN : Hid (w.heap.size = w.heap.size) := rfl
  go_enter Tryd.func58, Tryd.ntmps58
  have L := Len_is t
  go_wp2_with fail
  generalize ((((w.alloc (.cells t.all.toArray 92)).alloc (.cells #[.int .i64 6, .int .i64 k, .int .i64 x] 26)).alloc (.cells #[.int .i64 0, .int .i64 0, .int .i64 0, .int .i64 0, .int .i64 0, .int .i64 0, .int .i64 0, .int .i64 0, .int .i64 0, .int .i64 0, .int .i64 0, .int .i64 0, .int .i64 0, .int .i64 0, .int .i64 0, .int .i64 0] 92)).alloc (.cells #[.int .i64 0, .int .i64 0] 38)) = W at g0 t0 o0 z0 r0 ⊢
  generalize w.heap.size = n at g0 t0 o0 z0 r0 HN ⊢
  have h1q : Hid (Gd n w W.drew) := g0.out.drew
  have h2q : Hid (TAt W.drew n t) := t0.out.drew
  have h3q : Hid (Bo W.drew (n + 1) [.int .i64 6, .int .i64 k, .int .i64 x]) := o0.out.drew
  have h4q : Hid (TAt W.drew (n + 2) Tb.zero) := z0.out.drew
  have h5q : Hid (Bo W.drew (n + 3) [.int .i64 0, .int .i64 0]) := r0.out.drew
  clear g0 t0 o0 z0 r0
  refine wp_region_held_drew (S := fun w' => TAt w' n t) (by kernel_rfl) h2q.out (fun hH => ?_)
  generalize W.drew = u6q at h1q h2q h3q h4q h5q hH ⊢
  refine wpAnyH_take (i := 0) (oi := { dst := some 12, op := .load _ (.tmp 2), type := _, pos := _, after := _, guard := _ }) (v := _) rfl (by kernel_rfl) (by kernel_rfl) (by kernel_rfl) (fun _ _ _ h => h) (yieldsIf_load_mid (by rfl) _ _ rfl n _ rfl t.all _ (fun _ h => (h).range) HD.out rfl (HS.out t)) hH ?_
  simp only [Act.put, List.setIfInBounds_toArray, List.set_cons_zero, List.set_cons_succ]
  refine wpAnyH_take (i := 1) (oi := { dst := some 13, op := .load _ (.tmp 2), type := _, pos := _, after := _, guard := _ }) (v := _) rfl (by kernel_rfl) (by kernel_rfl) (by kernel_rfl) (fun _ _ _ h => h) (yieldsIf_load_mid (by rfl) _ _ rfl n _ rfl t.all _ (fun _ h => (h).range) HD.out rfl (HS.out t)) hH ?_
  simp only [Act.put, List.setIfInBounds_toArray, List.set_cons_zero, List.set_cons_succ]
  refine wpAnyH_ready (rs := [2]) (by kernel_rfl) (by simp) ?_
  refine AllReadyH.cons (o := { dst := some 14, op := _, type := _, pos := _, after := _, guard := _ }) rfl (fun K hK => ?_) AllReadyH.nil
  go_simp
  refine (L _).mono ?_
  rintro e u7q ⟨rfl, hb⟩
  have h8q : Hid (Gd n w u7q) := h1q.out.later hb
  have h9q : Hid (TAt u7q n t) := h2q.out.later hb
  have h10q : Hid (Bo u7q (n + 1) [.int .i64 6, .int .i64 k, .int .i64 x]) := h3q.out.later hb
  have h11q : Hid (TAt u7q (n + 2) Tb.zero) := h4q.out.later hb
  have h12q : Hid (Bo u7q (n + 3) [.int .i64 0, .int .i64 0]) := h5q.out.later hb
  clear h1q h2q h3q h4q h5q
  clear hb
  go_wp2_with fail
  refine hK.out _ _ h9q.out (fun hH => ?_)
  clear hK K
  try simp only [Act.put, List.setIfInBounds_toArray, List.set_cons_zero, List.set_cons_succ]
  refine wpAnyH_take (i := 3) (oi := { dst := some 15, op := .build _ #[(0, .const (.int .i64 1)), (1, .tmp 14)], type := _, pos := _, after := _, guard := _ }) (v := ?_) rfl (by kernel_rfl) (by kernel_rfl) (by kernel_rfl) (fun _ _ _ h => h) (Or.inl ⟨by rfl, ?_⟩) hH ?_
  rotate_left
  · intro w hSw
    clear hSw
    go_simp
    try with_reducible rfl
  simp only [Act.put, List.setIfInBounds_toArray, List.set_cons_zero, List.set_cons_succ]
  refine wpAnyH_ready (rs := [4]) (by kernel_rfl) (by simp) ?_
  refine AllReadyH.cons (o := { dst := none, op := .store _ (.tmp 4) (.tmp 12), type := _, pos := _, after := _, guard := _ }) rfl (fun K hK => ?_) AllReadyH.nil
  rw [if_pos (by rfl)]
  refine wp_store_mid _ _ _ rfl (n + 2) _ t.all.toArray rfl rfl (h11q.out.thereOf t) (HZ.out t) (t.all_all) ?_
  simp only [Act.put]
  have h13q : Hid (Gd n w (u7q.setCells (n + 2) 0 t.all)) := h8q.out.asideAll (by omega) t
  have h14q : Hid (TAt (u7q.setCells (n + 2) 0 t.all) n t) := h9q.out.asideAll (by omega) t
  have h15q : Hid (Bo (u7q.setCells (n + 2) 0 t.all) (n + 1) [.int .i64 6, .int .i64 k, .int .i64 x]) := h10q.out.asideAll (by omega) t
  have h16q : Hid (TAt (u7q.setCells (n + 2) 0 t.all) (n + 2) t) := h11q.out.setAll t
  have h17q : Hid (Bo (u7q.setCells (n + 2) 0 t.all) (n + 3) [.int .i64 0, .int .i64 0]) := h12q.out.asideAll (by omega) t
  clear h8q h9q h10q h11q h12q
  refine hK.out _ _ h14q.out (fun hH => ?_)
  clear hK K
  generalize (u7q.setCells (n + 2) 0 t.all) = u18q at h13q h14q h15q h16q h17q hH ⊢
  try simp only [Act.put, List.setIfInBounds_toArray, List.set_cons_zero, List.set_cons_succ]
  refine wpAnyH_ready (rs := [5]) (by kernel_rfl) (by simp) ?_
  refine AllReadyH.cons (o := { dst := none, op := .store _ (.tmp 5) (.tmp 15), type := _, pos := _, after := _, guard := _ }) rfl (fun K hK => ?_) AllReadyH.nil
  rw [if_pos (by rfl)]
  refine wp_store_mid _ _ _ rfl (n + 3) _ #[.int .i64 (1), .int .i64 ((len t : Nat))] rfl rfl h17q.out.there2 HA.out (two_one _ _) ?_
  simp only [Act.put]
  have h19q : Hid (Gd n w (u18q.setCells (n + 3) 0 [.int .i64 (1), .int .i64 ((len t : Nat))])) := h13q.out.asideL (by omega) 0 [.int .i64 (1), .int .i64 ((len t : Nat))]
  have h20q : Hid (TAt (u18q.setCells (n + 3) 0 [.int .i64 (1), .int .i64 ((len t : Nat))]) n t) := h14q.out.asideL (by omega) 0 [.int .i64 (1), .int .i64 ((len t : Nat))]
  have h21q : Hid (Bo (u18q.setCells (n + 3) 0 [.int .i64 (1), .int .i64 ((len t : Nat))]) (n + 1) [.int .i64 6, .int .i64 k, .int .i64 x]) := h15q.out.asideL (by omega) 0 [.int .i64 (1), .int .i64 ((len t : Nat))]
  have h22q : Hid (TAt (u18q.setCells (n + 3) 0 [.int .i64 (1), .int .i64 ((len t : Nat))]) (n + 2) t) := h16q.out.asideL (by omega) 0 [.int .i64 (1), .int .i64 ((len t : Nat))]
  have h23q : Hid (Bo (u18q.setCells (n + 3) 0 [.int .i64 (1), .int .i64 ((len t : Nat))]) (n + 3) [.int .i64 (1), .int .i64 ((len t : Nat))]) := h17q.out.set2 (.int .i64 (1)) (.int .i64 ((len t : Nat)))
  clear h13q h14q h15q h16q h17q
  refine hK.out _ _ h20q.out (fun hH => ?_)
  clear hK K
  generalize (u18q.setCells (n + 3) 0 [.int .i64 (1), .int .i64 ((len t : Nat))]) = u24q at h19q h20q h21q h22q h23q hH ⊢
  try simp only [Act.put, List.setIfInBounds_toArray, List.set_cons_zero, List.set_cons_succ]
  refine wpAnyH_done (by kernel_rfl) ?_ _
  go_wp2
  exact bodyPost_ret (results_row2 Tryd.results58 _ _ (n + 2) (n + 3) t.all [.int .i64 (1), .int .i64 ((len t : Nat))] _ _ rfl rfl h22q.out.range HD.out rfl (HS.out t) h23q.out.range HDA.out rfl HA.out) rfl ⟨rfl, h19q.out.2⟩

set_option maxHeartbeats 2000000 in
theorem tDo_wrong (t : Tb) (o k x : Int) (h6 : o ≠ 6) (hb : ¬ byKey o k) (w : World) :
    Calls Tryd.prog 58 #[.agg t.all.toArray, .agg #[.int .i64 o, .int .i64 k, .int .i64 x]] w (Told w (t, 5, 0)) := by
  obtain ⟨na, ea, hd⟩ := slots_array
  have HD : Hid _ := hd
  clear hd
  have HS : Hid (∀ t : Tb, (Tryd.prog.info? 92).map (·.size) = some t.all.length) := slots_size
  have HZ : Hid (∀ t : Tb, (Tryd.prog.info? 92).map (·.size) = some t.all.toArray.size) := slots_size2
  have HT : Hid ((Tryd.prog.info? 90).map (·.size) = some 2) := slot_size
  have HA : Hid ((Tryd.prog.info? 38).map (·.size) = some 2) := answer_size
  obtain ⟨fs, ha⟩ := answer_struct
  have HDA : Hid _ := ha
  clear ha
  have g0 : Hid (Gd w.heap.size w ((((w.alloc (.cells t.all.toArray 92)).alloc (.cells #[.int .i64 o, .int .i64 k, .int .i64 x] 26)).alloc (.cells #[.int .i64 0, .int .i64 0, .int .i64 0, .int .i64 0, .int .i64 0, .int .i64 0, .int .i64 0, .int .i64 0, .int .i64 0, .int .i64 0, .int .i64 0, .int .i64 0, .int .i64 0, .int .i64 0, .int .i64 0, .int .i64 0] 92)).alloc (.cells #[.int .i64 0, .int .i64 0] 38))) := ((((Gd.refl w).new _).new _).new _).new _
  have t0 : Hid (TAt ((((w.alloc (.cells t.all.toArray 92)).alloc (.cells #[.int .i64 o, .int .i64 k, .int .i64 x] 26)).alloc (.cells #[.int .i64 0, .int .i64 0, .int .i64 0, .int .i64 0, .int .i64 0, .int .i64 0, .int .i64 0, .int .i64 0, .int .i64 0, .int .i64 0, .int .i64 0, .int .i64 0, .int .i64 0, .int .i64 0, .int .i64 0, .int .i64 0] 92)).alloc (.cells #[.int .i64 0, .int .i64 0] 38)) w.heap.size t) := (((TAt.born w t _).new _).new _).new _
  have o0 : Hid (Bo ((((w.alloc (.cells t.all.toArray 92)).alloc (.cells #[.int .i64 o, .int .i64 k, .int .i64 x] 26)).alloc (.cells #[.int .i64 0, .int .i64 0, .int .i64 0, .int .i64 0, .int .i64 0, .int .i64 0, .int .i64 0, .int .i64 0, .int .i64 0, .int .i64 0, .int .i64 0, .int .i64 0, .int .i64 0, .int .i64 0, .int .i64 0, .int .i64 0] 92)).alloc (.cells #[.int .i64 0, .int .i64 0] 38)) (w.heap.size + 1) [.int .i64 o, .int .i64 k, .int .i64 x]) := ((Bo.born _ [.int .i64 o, .int .i64 k, .int .i64 x] _ (by simp)).new _).new _
  have z0 : Hid (TAt ((((w.alloc (.cells t.all.toArray 92)).alloc (.cells #[.int .i64 o, .int .i64 k, .int .i64 x] 26)).alloc (.cells #[.int .i64 0, .int .i64 0, .int .i64 0, .int .i64 0, .int .i64 0, .int .i64 0, .int .i64 0, .int .i64 0, .int .i64 0, .int .i64 0, .int .i64 0, .int .i64 0, .int .i64 0, .int .i64 0, .int .i64 0, .int .i64 0] 92)).alloc (.cells #[.int .i64 0, .int .i64 0] 38)) (w.heap.size + 2) Tb.zero) := (TAt.bornZero _ _ (by simp)).new _
  have r0 : Hid (Bo ((((w.alloc (.cells t.all.toArray 92)).alloc (.cells #[.int .i64 o, .int .i64 k, .int .i64 x] 26)).alloc (.cells #[.int .i64 0, .int .i64 0, .int .i64 0, .int .i64 0, .int .i64 0, .int .i64 0, .int .i64 0, .int .i64 0, .int .i64 0, .int .i64 0, .int .i64 0, .int .i64 0, .int .i64 0, .int .i64 0, .int .i64 0, .int .i64 0] 92)).alloc (.cells #[.int .i64 0, .int .i64 0] 38)) (w.heap.size + 3) [.int .i64 0, .int .i64 0]) := Bo.born _ [.int .i64 0, .int .i64 0] _ (by simp)
  have HN : Hid (w.heap.size = w.heap.size) := rfl
  go_enter Tryd.func58, Tryd.ntmps58
  have m6 : (o == 6) = false := by simp [h6]
  have L := byKey_is o k x
  rw [decide_eq_false hb] at L
  clear h6 hb
  go_wp2_with fail
  generalize ((((w.alloc (.cells t.all.toArray 92)).alloc (.cells #[.int .i64 o, .int .i64 k, .int .i64 x] 26)).alloc (.cells #[.int .i64 0, .int .i64 0, .int .i64 0, .int .i64 0, .int .i64 0, .int .i64 0, .int .i64 0, .int .i64 0, .int .i64 0, .int .i64 0, .int .i64 0, .int .i64 0, .int .i64 0, .int .i64 0, .int .i64 0, .int .i64 0] 92)).alloc (.cells #[.int .i64 0, .int .i64 0] 38)) = W at g0 t0 o0 z0 r0 ⊢
  generalize w.heap.size = n at g0 t0 o0 z0 r0 HN ⊢
  refine (L _).mono ?_
  rintro e u25q ⟨rfl, hb⟩
  have h26q : Hid (Gd n w u25q) := g0.out.later hb
  have h27q : Hid (TAt u25q n t) := t0.out.later hb
  have h28q : Hid (Bo u25q (n + 1) [.int .i64 o, .int .i64 k, .int .i64 x]) := o0.out.later hb
  have h29q : Hid (TAt u25q (n + 2) Tb.zero) := z0.out.later hb
  have h30q : Hid (Bo u25q (n + 3) [.int .i64 0, .int .i64 0]) := r0.out.later hb
  clear g0 t0 o0 z0 r0
  clear hb
  go_wp2_with (first
    | (refine wpList_load_mid rfl 92 _ rfl n _ rfl t.all _ h27q.out.range HD.out rfl (HS.out t) ?_)
    | (refine wpList_store_mid rfl 92 _ _ rfl (n + 2) _ t.all.toArray rfl rfl (h29q.out.thereOf t) (HZ.out t) (t.all_all) ?_
       have h31q : Hid (Gd n w (u25q.setCells (n + 2) 0 t.all)) := h26q.out.asideAll (by omega) t
       have h32q : Hid (TAt (u25q.setCells (n + 2) 0 t.all) n t) := h27q.out.asideAll (by omega) t
       have h33q : Hid (Bo (u25q.setCells (n + 2) 0 t.all) (n + 1) [.int .i64 o, .int .i64 k, .int .i64 x]) := h28q.out.asideAll (by omega) t
       have h34q : Hid (TAt (u25q.setCells (n + 2) 0 t.all) (n + 2) t) := h29q.out.setAll t
       have h35q : Hid (Bo (u25q.setCells (n + 2) 0 t.all) (n + 3) [.int .i64 0, .int .i64 0]) := h30q.out.asideAll (by omega) t
       clear h26q h27q h28q h29q h30q
       generalize (u25q.setCells (n + 2) 0 t.all) = u36q at h31q h32q h33q h34q h35q  ⊢)
    | (refine wpList_store_mid rfl 38 _ _ rfl (n + 3) _ #[.int .i64 (5), .int .i64 (0)] rfl rfl h35q.out.there2 HA.out (two_one _ _) ?_
       have h37q : Hid (Gd n w (u36q.setCells (n + 3) 0 [.int .i64 (5), .int .i64 (0)])) := h31q.out.asideL (by omega) 0 [.int .i64 (5), .int .i64 (0)]
       have h38q : Hid (TAt (u36q.setCells (n + 3) 0 [.int .i64 (5), .int .i64 (0)]) n t) := h32q.out.asideL (by omega) 0 [.int .i64 (5), .int .i64 (0)]
       have h39q : Hid (Bo (u36q.setCells (n + 3) 0 [.int .i64 (5), .int .i64 (0)]) (n + 1) [.int .i64 o, .int .i64 k, .int .i64 x]) := h33q.out.asideL (by omega) 0 [.int .i64 (5), .int .i64 (0)]
       have h40q : Hid (TAt (u36q.setCells (n + 3) 0 [.int .i64 (5), .int .i64 (0)]) (n + 2) t) := h34q.out.asideL (by omega) 0 [.int .i64 (5), .int .i64 (0)]
       have h41q : Hid (Bo (u36q.setCells (n + 3) 0 [.int .i64 (5), .int .i64 (0)]) (n + 3) [.int .i64 (5), .int .i64 (0)]) := h35q.out.set2 (.int .i64 (5)) (.int .i64 (0))
       clear h31q h32q h33q h34q h35q
       generalize (u36q.setCells (n + 3) 0 [.int .i64 (5), .int .i64 (0)]) = u42q at h37q h38q h39q h40q h41q  ⊢))
  exact bodyPost_ret (results_row2 Tryd.results58 _ _ (n + 2) (n + 3) t.all [.int .i64 (5), .int .i64 (0)] _ _ rfl rfl h40q.out.range HD.out rfl (HS.out t) h41q.out.range HDA.out rfl HA.out) rfl ⟨rfl, h37q.out.2⟩

set_option maxHeartbeats 2000000 in
theorem tDo_full (t : Tb) (k x : Int) (hn : t.k (place t k) ≠ k) (hl : 6 ≤ len t) (hk1 : 1 ≤ k) (hk2 : k ≤ 1000) (w : World) :
    Calls Tryd.prog 58 #[.agg t.all.toArray, .agg #[.int .i64 1, .int .i64 k, .int .i64 x]] w (Told w (t, 3, 0)) := by
  obtain ⟨na, ea, hd⟩ := slots_array
  have HD : Hid _ := hd
  clear hd
  have HS : Hid (∀ t : Tb, (Tryd.prog.info? 92).map (·.size) = some t.all.length) := slots_size
  have HZ : Hid (∀ t : Tb, (Tryd.prog.info? 92).map (·.size) = some t.all.toArray.size) := slots_size2
  have HT : Hid ((Tryd.prog.info? 90).map (·.size) = some 2) := slot_size
  have HA : Hid ((Tryd.prog.info? 38).map (·.size) = some 2) := answer_size
  obtain ⟨fs, ha⟩ := answer_struct
  have HDA : Hid _ := ha
  clear ha
  have g0 : Hid (Gd w.heap.size w ((((w.alloc (.cells t.all.toArray 92)).alloc (.cells #[.int .i64 1, .int .i64 k, .int .i64 x] 26)).alloc (.cells #[.int .i64 0, .int .i64 0, .int .i64 0, .int .i64 0, .int .i64 0, .int .i64 0, .int .i64 0, .int .i64 0, .int .i64 0, .int .i64 0, .int .i64 0, .int .i64 0, .int .i64 0, .int .i64 0, .int .i64 0, .int .i64 0] 92)).alloc (.cells #[.int .i64 0, .int .i64 0] 38))) := ((((Gd.refl w).new _).new _).new _).new _
  have t0 : Hid (TAt ((((w.alloc (.cells t.all.toArray 92)).alloc (.cells #[.int .i64 1, .int .i64 k, .int .i64 x] 26)).alloc (.cells #[.int .i64 0, .int .i64 0, .int .i64 0, .int .i64 0, .int .i64 0, .int .i64 0, .int .i64 0, .int .i64 0, .int .i64 0, .int .i64 0, .int .i64 0, .int .i64 0, .int .i64 0, .int .i64 0, .int .i64 0, .int .i64 0] 92)).alloc (.cells #[.int .i64 0, .int .i64 0] 38)) w.heap.size t) := (((TAt.born w t _).new _).new _).new _
  have o0 : Hid (Bo ((((w.alloc (.cells t.all.toArray 92)).alloc (.cells #[.int .i64 1, .int .i64 k, .int .i64 x] 26)).alloc (.cells #[.int .i64 0, .int .i64 0, .int .i64 0, .int .i64 0, .int .i64 0, .int .i64 0, .int .i64 0, .int .i64 0, .int .i64 0, .int .i64 0, .int .i64 0, .int .i64 0, .int .i64 0, .int .i64 0, .int .i64 0, .int .i64 0] 92)).alloc (.cells #[.int .i64 0, .int .i64 0] 38)) (w.heap.size + 1) [.int .i64 1, .int .i64 k, .int .i64 x]) := ((Bo.born _ [.int .i64 1, .int .i64 k, .int .i64 x] _ (by simp)).new _).new _
  have z0 : Hid (TAt ((((w.alloc (.cells t.all.toArray 92)).alloc (.cells #[.int .i64 1, .int .i64 k, .int .i64 x] 26)).alloc (.cells #[.int .i64 0, .int .i64 0, .int .i64 0, .int .i64 0, .int .i64 0, .int .i64 0, .int .i64 0, .int .i64 0, .int .i64 0, .int .i64 0, .int .i64 0, .int .i64 0, .int .i64 0, .int .i64 0, .int .i64 0, .int .i64 0] 92)).alloc (.cells #[.int .i64 0, .int .i64 0] 38)) (w.heap.size + 2) Tb.zero) := (TAt.bornZero _ _ (by simp)).new _
  have r0 : Hid (Bo ((((w.alloc (.cells t.all.toArray 92)).alloc (.cells #[.int .i64 1, .int .i64 k, .int .i64 x] 26)).alloc (.cells #[.int .i64 0, .int .i64 0, .int .i64 0, .int .i64 0, .int .i64 0, .int .i64 0, .int .i64 0, .int .i64 0, .int .i64 0, .int .i64 0, .int .i64 0, .int .i64 0, .int .i64 0, .int .i64 0, .int .i64 0, .int .i64 0] 92)).alloc (.cells #[.int .i64 0, .int .i64 0] 38)) (w.heap.size + 3) [.int .i64 0, .int .i64 0]) := Bo.born _ [.int .i64 0, .int .i64 0] _ (by simp)
  have HN : Hid (w.heap.size = w.heap.size) := rfl
  go_enter Tryd.func58, Tryd.ntmps58
  have L := byKey_is 1 k x
  rw [decide_eq_true (show byKey 1 k from ⟨by omega, hk1, hk2⟩)] at L
  have PL := place_eq t k
  unfold Placed at PL
  have hp := place_lt t k
  have LL := Len_is t
  rw [show (t.k (place t k) == k) = false by simp [hn]] at PL
  generalize len t = l at *
  have hl1 : (6 : Int) ≤ (l : Int) := by omega
  clear hn hl
  generalize place t k = p at *
  have hp1 : (p : Int) < 8 := by omega
  have hp0 : (0 : Int) ≤ (p : Int) := by omega
  clear hk1 hk2
  go_wp2_with fail
  generalize ((((w.alloc (.cells t.all.toArray 92)).alloc (.cells #[.int .i64 1, .int .i64 k, .int .i64 x] 26)).alloc (.cells #[.int .i64 0, .int .i64 0, .int .i64 0, .int .i64 0, .int .i64 0, .int .i64 0, .int .i64 0, .int .i64 0, .int .i64 0, .int .i64 0, .int .i64 0, .int .i64 0, .int .i64 0, .int .i64 0, .int .i64 0, .int .i64 0] 92)).alloc (.cells #[.int .i64 0, .int .i64 0] 38)) = W at g0 t0 o0 z0 r0 ⊢
  generalize w.heap.size = n at g0 t0 o0 z0 r0 HN ⊢
  refine (L _).mono ?_
  rintro e u43q ⟨rfl, hb⟩
  have h44q : Hid (Gd n w u43q) := g0.out.later hb
  have h45q : Hid (TAt u43q n t) := t0.out.later hb
  have h46q : Hid (Bo u43q (n + 1) [.int .i64 1, .int .i64 k, .int .i64 x]) := o0.out.later hb
  have h47q : Hid (TAt u43q (n + 2) Tb.zero) := z0.out.later hb
  have h48q : Hid (Bo u43q (n + 3) [.int .i64 0, .int .i64 0]) := r0.out.later hb
  clear g0 t0 o0 z0 r0
  clear hb
  have d1 := h46q.out.at 1 rfl
  go_wp2_with (first
    | (refine wpList_load_mid rfl 92 _ rfl n _ rfl t.all _ h45q.out.range HD.out rfl (HS.out t) ?_))
  refine (PL _).mono ?_
  rintro e u49q ⟨rfl, hb⟩
  have h50q : Hid (Gd n w u49q) := h44q.out.later hb
  have h51q : Hid (TAt u49q n t) := h45q.out.later hb
  have h52q : Hid (Bo u49q (n + 1) [.int .i64 1, .int .i64 k, .int .i64 x]) := h46q.out.later hb
  have h53q : Hid (TAt u49q (n + 2) Tb.zero) := h47q.out.later hb
  have h54q : Hid (Bo u49q (n + 3) [.int .i64 0, .int .i64 0]) := h48q.out.later hb
  clear h44q h45q h46q h47q h48q
  clear hb
  clear d1 PL L
  have d0 := h52q.out.at 0 rfl
  go_wp2_with (first
    | (refine wpList_load_wanted (by rfl) 92 _ rfl n _ rfl t.all _ h51q.out.range HD.out rfl (HS.out t) ?_))
  refine (LL _).mono ?_
  rintro e u55q ⟨rfl, hb⟩
  have h56q : Hid (Gd n w u55q) := h50q.out.later hb
  have h57q : Hid (TAt u55q n t) := h51q.out.later hb
  have h58q : Hid (Bo u55q (n + 1) [.int .i64 1, .int .i64 k, .int .i64 x]) := h52q.out.later hb
  have h59q : Hid (TAt u55q (n + 2) Tb.zero) := h53q.out.later hb
  have h60q : Hid (Bo u55q (n + 3) [.int .i64 0, .int .i64 0]) := h54q.out.later hb
  clear h50q h51q h52q h53q h54q
  clear hb
  clear d0 LL
  go_wp2_with (first
    | (refine wpList_load_mid rfl 92 _ rfl n _ rfl t.all _ h57q.out.range HD.out rfl (HS.out t) ?_)
    | (refine wpList_store_mid rfl 92 _ _ rfl (n + 2) _ t.all.toArray rfl rfl (h59q.out.thereOf t) (HZ.out t) (t.all_all) ?_
       have h61q : Hid (Gd n w (u55q.setCells (n + 2) 0 t.all)) := h56q.out.asideAll (by omega) t
       have h62q : Hid (TAt (u55q.setCells (n + 2) 0 t.all) n t) := h57q.out.asideAll (by omega) t
       have h63q : Hid (Bo (u55q.setCells (n + 2) 0 t.all) (n + 1) [.int .i64 1, .int .i64 k, .int .i64 x]) := h58q.out.asideAll (by omega) t
       have h64q : Hid (TAt (u55q.setCells (n + 2) 0 t.all) (n + 2) t) := h59q.out.setAll t
       have h65q : Hid (Bo (u55q.setCells (n + 2) 0 t.all) (n + 3) [.int .i64 0, .int .i64 0]) := h60q.out.asideAll (by omega) t
       clear h56q h57q h58q h59q h60q
       generalize (u55q.setCells (n + 2) 0 t.all) = u66q at h61q h62q h63q h64q h65q  ⊢)
    | (refine wpList_store_mid rfl 38 _ _ rfl (n + 3) _ #[.int .i64 (3), .int .i64 (0)] rfl rfl h65q.out.there2 HA.out (two_one _ _) ?_
       have h67q : Hid (Gd n w (u66q.setCells (n + 3) 0 [.int .i64 (3), .int .i64 (0)])) := h61q.out.asideL (by omega) 0 [.int .i64 (3), .int .i64 (0)]
       have h68q : Hid (TAt (u66q.setCells (n + 3) 0 [.int .i64 (3), .int .i64 (0)]) n t) := h62q.out.asideL (by omega) 0 [.int .i64 (3), .int .i64 (0)]
       have h69q : Hid (Bo (u66q.setCells (n + 3) 0 [.int .i64 (3), .int .i64 (0)]) (n + 1) [.int .i64 1, .int .i64 k, .int .i64 x]) := h63q.out.asideL (by omega) 0 [.int .i64 (3), .int .i64 (0)]
       have h70q : Hid (TAt (u66q.setCells (n + 3) 0 [.int .i64 (3), .int .i64 (0)]) (n + 2) t) := h64q.out.asideL (by omega) 0 [.int .i64 (3), .int .i64 (0)]
       have h71q : Hid (Bo (u66q.setCells (n + 3) 0 [.int .i64 (3), .int .i64 (0)]) (n + 3) [.int .i64 (3), .int .i64 (0)]) := h65q.out.set2 (.int .i64 (3)) (.int .i64 (0))
       clear h61q h62q h63q h64q h65q
       generalize (u66q.setCells (n + 3) 0 [.int .i64 (3), .int .i64 (0)]) = u72q at h67q h68q h69q h70q h71q  ⊢))
  exact bodyPost_ret (results_row2 Tryd.results58 _ _ (n + 2) (n + 3) t.all [.int .i64 (3), .int .i64 (0)] _ _ rfl rfl h70q.out.range HD.out rfl (HS.out t) h71q.out.range HDA.out rfl HA.out) rfl ⟨rfl, h67q.out.2⟩

set_option maxHeartbeats 2000000 in
theorem tDo_put_has (t : Tb) (k x : Int) (hn : t.k (place t k) = k) (hk1 : 1 ≤ k) (hk2 : k ≤ 1000) (w : World) :
    Calls Tryd.prog 58 #[.agg t.all.toArray, .agg #[.int .i64 1, .int .i64 k, .int .i64 x]] w (Told w (t.set (place t k) k x, 1, 0)) := by
  obtain ⟨na, ea, hd⟩ := slots_array
  have HD : Hid _ := hd
  clear hd
  have HS : Hid (∀ t : Tb, (Tryd.prog.info? 92).map (·.size) = some t.all.length) := slots_size
  have HZ : Hid (∀ t : Tb, (Tryd.prog.info? 92).map (·.size) = some t.all.toArray.size) := slots_size2
  have HT : Hid ((Tryd.prog.info? 90).map (·.size) = some 2) := slot_size
  have HA : Hid ((Tryd.prog.info? 38).map (·.size) = some 2) := answer_size
  obtain ⟨fs, ha⟩ := answer_struct
  have HDA : Hid _ := ha
  clear ha
  have g0 : Hid (Gd w.heap.size w ((((w.alloc (.cells t.all.toArray 92)).alloc (.cells #[.int .i64 1, .int .i64 k, .int .i64 x] 26)).alloc (.cells #[.int .i64 0, .int .i64 0, .int .i64 0, .int .i64 0, .int .i64 0, .int .i64 0, .int .i64 0, .int .i64 0, .int .i64 0, .int .i64 0, .int .i64 0, .int .i64 0, .int .i64 0, .int .i64 0, .int .i64 0, .int .i64 0] 92)).alloc (.cells #[.int .i64 0, .int .i64 0] 38))) := ((((Gd.refl w).new _).new _).new _).new _
  have t0 : Hid (TAt ((((w.alloc (.cells t.all.toArray 92)).alloc (.cells #[.int .i64 1, .int .i64 k, .int .i64 x] 26)).alloc (.cells #[.int .i64 0, .int .i64 0, .int .i64 0, .int .i64 0, .int .i64 0, .int .i64 0, .int .i64 0, .int .i64 0, .int .i64 0, .int .i64 0, .int .i64 0, .int .i64 0, .int .i64 0, .int .i64 0, .int .i64 0, .int .i64 0] 92)).alloc (.cells #[.int .i64 0, .int .i64 0] 38)) w.heap.size t) := (((TAt.born w t _).new _).new _).new _
  have o0 : Hid (Bo ((((w.alloc (.cells t.all.toArray 92)).alloc (.cells #[.int .i64 1, .int .i64 k, .int .i64 x] 26)).alloc (.cells #[.int .i64 0, .int .i64 0, .int .i64 0, .int .i64 0, .int .i64 0, .int .i64 0, .int .i64 0, .int .i64 0, .int .i64 0, .int .i64 0, .int .i64 0, .int .i64 0, .int .i64 0, .int .i64 0, .int .i64 0, .int .i64 0] 92)).alloc (.cells #[.int .i64 0, .int .i64 0] 38)) (w.heap.size + 1) [.int .i64 1, .int .i64 k, .int .i64 x]) := ((Bo.born _ [.int .i64 1, .int .i64 k, .int .i64 x] _ (by simp)).new _).new _
  have z0 : Hid (TAt ((((w.alloc (.cells t.all.toArray 92)).alloc (.cells #[.int .i64 1, .int .i64 k, .int .i64 x] 26)).alloc (.cells #[.int .i64 0, .int .i64 0, .int .i64 0, .int .i64 0, .int .i64 0, .int .i64 0, .int .i64 0, .int .i64 0, .int .i64 0, .int .i64 0, .int .i64 0, .int .i64 0, .int .i64 0, .int .i64 0, .int .i64 0, .int .i64 0] 92)).alloc (.cells #[.int .i64 0, .int .i64 0] 38)) (w.heap.size + 2) Tb.zero) := (TAt.bornZero _ _ (by simp)).new _
  have r0 : Hid (Bo ((((w.alloc (.cells t.all.toArray 92)).alloc (.cells #[.int .i64 1, .int .i64 k, .int .i64 x] 26)).alloc (.cells #[.int .i64 0, .int .i64 0, .int .i64 0, .int .i64 0, .int .i64 0, .int .i64 0, .int .i64 0, .int .i64 0, .int .i64 0, .int .i64 0, .int .i64 0, .int .i64 0, .int .i64 0, .int .i64 0, .int .i64 0, .int .i64 0] 92)).alloc (.cells #[.int .i64 0, .int .i64 0] 38)) (w.heap.size + 3) [.int .i64 0, .int .i64 0]) := Bo.born _ [.int .i64 0, .int .i64 0] _ (by simp)
  have HN : Hid (w.heap.size = w.heap.size) := rfl
  go_enter Tryd.func58, Tryd.ntmps58
  have L := byKey_is 1 k x
  rw [decide_eq_true (show byKey 1 k from ⟨by omega, hk1, hk2⟩)] at L
  have PL := place_eq t k
  unfold Placed at PL
  have hp := place_lt t k
  rw [show (t.k (place t k) == k) = true by simp [hn]] at PL
  clear hn
  generalize place t k = p at *
  have hp1 : (p : Int) < 8 := by omega
  have hp0 : (0 : Int) ≤ (p : Int) := by omega
  clear hk1 hk2
  go_wp2_with fail
  generalize ((((w.alloc (.cells t.all.toArray 92)).alloc (.cells #[.int .i64 1, .int .i64 k, .int .i64 x] 26)).alloc (.cells #[.int .i64 0, .int .i64 0, .int .i64 0, .int .i64 0, .int .i64 0, .int .i64 0, .int .i64 0, .int .i64 0, .int .i64 0, .int .i64 0, .int .i64 0, .int .i64 0, .int .i64 0, .int .i64 0, .int .i64 0, .int .i64 0] 92)).alloc (.cells #[.int .i64 0, .int .i64 0] 38)) = W at g0 t0 o0 z0 r0 ⊢
  generalize w.heap.size = n at g0 t0 o0 z0 r0 HN ⊢
  refine (L _).mono ?_
  rintro e u73q ⟨rfl, hb⟩
  have h74q : Hid (Gd n w u73q) := g0.out.later hb
  have h75q : Hid (TAt u73q n t) := t0.out.later hb
  have h76q : Hid (Bo u73q (n + 1) [.int .i64 1, .int .i64 k, .int .i64 x]) := o0.out.later hb
  have h77q : Hid (TAt u73q (n + 2) Tb.zero) := z0.out.later hb
  have h78q : Hid (Bo u73q (n + 3) [.int .i64 0, .int .i64 0]) := r0.out.later hb
  clear g0 t0 o0 z0 r0
  clear hb
  have d1 := h76q.out.at 1 rfl
  go_wp2_with (first
    | (refine wpList_load_mid rfl 92 _ rfl n _ rfl t.all _ h75q.out.range HD.out rfl (HS.out t) ?_))
  refine (PL _).mono ?_
  rintro e u79q ⟨rfl, hb⟩
  have h80q : Hid (Gd n w u79q) := h74q.out.later hb
  have h81q : Hid (TAt u79q n t) := h75q.out.later hb
  have h82q : Hid (Bo u79q (n + 1) [.int .i64 1, .int .i64 k, .int .i64 x]) := h76q.out.later hb
  have h83q : Hid (TAt u79q (n + 2) Tb.zero) := h77q.out.later hb
  have h84q : Hid (Bo u79q (n + 3) [.int .i64 0, .int .i64 0]) := h78q.out.later hb
  clear h74q h75q h76q h77q h78q
  clear hb
  clear d1 PL L
  have d0 := h82q.out.at 0 rfl
  have d1 := h82q.out.at 1 rfl
  have d2 := h82q.out.at 2 rfl
  go_wp2_with (first
    | (refine wpList_store_mid rfl 90 _ _ rfl n _ #[.int .i64 (k), .int .i64 (x)] rfl rfl (h81q.out.thereS hp) HT.out (two_one _ _) ?_
       have h85q : Hid (Gd n w (u79q.setCells n (p * 2) [.int .i64 (k), .int .i64 (x)])) := h80q.out.asideL (by omega) (p * 2) [.int .i64 (k), .int .i64 (x)]
       have h86q : Hid (TAt (u79q.setCells n (p * 2) [.int .i64 (k), .int .i64 (x)]) n (t.set p k x)) := h81q.out.slot hp (k) (x)
       have h87q : Hid (Bo (u79q.setCells n (p * 2) [.int .i64 (k), .int .i64 (x)]) (n + 1) [.int .i64 1, .int .i64 k, .int .i64 x]) := h82q.out.asideL (by omega) (p * 2) [.int .i64 (k), .int .i64 (x)]
       have h88q : Hid (TAt (u79q.setCells n (p * 2) [.int .i64 (k), .int .i64 (x)]) (n + 2) Tb.zero) := h83q.out.asideL (by omega) (p * 2) [.int .i64 (k), .int .i64 (x)]
       have h89q : Hid (Bo (u79q.setCells n (p * 2) [.int .i64 (k), .int .i64 (x)]) (n + 3) [.int .i64 0, .int .i64 0]) := h84q.out.asideL (by omega) (p * 2) [.int .i64 (k), .int .i64 (x)]
       clear h80q h81q h82q h83q h84q
       generalize (u79q.setCells n (p * 2) [.int .i64 (k), .int .i64 (x)]) = u90q at h85q h86q h87q h88q h89q  ⊢)
    | (refine wpList_load_mid rfl 92 _ rfl n _ rfl (t.set p k x).all _ h86q.out.range HD.out rfl (HS.out (t.set p k x)) ?_)
    | (refine wpList_store_mid rfl 92 _ _ rfl (n + 2) _ (t.set p k x).all.toArray rfl rfl (h88q.out.thereOf (t.set p k x)) (HZ.out (t.set p k x)) ((t.set p k x).all_all) ?_
       have h91q : Hid (Gd n w (u90q.setCells (n + 2) 0 (t.set p k x).all)) := h85q.out.asideAll (by omega) (t.set p k x)
       have h92q : Hid (TAt (u90q.setCells (n + 2) 0 (t.set p k x).all) n (t.set p k x)) := h86q.out.asideAll (by omega) (t.set p k x)
       have h93q : Hid (Bo (u90q.setCells (n + 2) 0 (t.set p k x).all) (n + 1) [.int .i64 1, .int .i64 k, .int .i64 x]) := h87q.out.asideAll (by omega) (t.set p k x)
       have h94q : Hid (TAt (u90q.setCells (n + 2) 0 (t.set p k x).all) (n + 2) (t.set p k x)) := h88q.out.setAll (t.set p k x)
       have h95q : Hid (Bo (u90q.setCells (n + 2) 0 (t.set p k x).all) (n + 3) [.int .i64 0, .int .i64 0]) := h89q.out.asideAll (by omega) (t.set p k x)
       clear h85q h86q h87q h88q h89q
       generalize (u90q.setCells (n + 2) 0 (t.set p k x).all) = u96q at h91q h92q h93q h94q h95q  ⊢)
    | (refine wpList_store_mid rfl 38 _ _ rfl (n + 3) _ #[.int .i64 (1), .int .i64 (0)] rfl rfl h95q.out.there2 HA.out (two_one _ _) ?_
       have h97q : Hid (Gd n w (u96q.setCells (n + 3) 0 [.int .i64 (1), .int .i64 (0)])) := h91q.out.asideL (by omega) 0 [.int .i64 (1), .int .i64 (0)]
       have h98q : Hid (TAt (u96q.setCells (n + 3) 0 [.int .i64 (1), .int .i64 (0)]) n (t.set p k x)) := h92q.out.asideL (by omega) 0 [.int .i64 (1), .int .i64 (0)]
       have h99q : Hid (Bo (u96q.setCells (n + 3) 0 [.int .i64 (1), .int .i64 (0)]) (n + 1) [.int .i64 1, .int .i64 k, .int .i64 x]) := h93q.out.asideL (by omega) 0 [.int .i64 (1), .int .i64 (0)]
       have h100q : Hid (TAt (u96q.setCells (n + 3) 0 [.int .i64 (1), .int .i64 (0)]) (n + 2) (t.set p k x)) := h94q.out.asideL (by omega) 0 [.int .i64 (1), .int .i64 (0)]
       have h101q : Hid (Bo (u96q.setCells (n + 3) 0 [.int .i64 (1), .int .i64 (0)]) (n + 3) [.int .i64 (1), .int .i64 (0)]) := h95q.out.set2 (.int .i64 (1)) (.int .i64 (0))
       clear h91q h92q h93q h94q h95q
       generalize (u96q.setCells (n + 3) 0 [.int .i64 (1), .int .i64 (0)]) = u102q at h97q h98q h99q h100q h101q  ⊢))
  exact bodyPost_ret (results_row2 Tryd.results58 _ _ (n + 2) (n + 3) (t.set p k x).all [.int .i64 (1), .int .i64 (0)] _ _ rfl rfl h100q.out.range HD.out rfl (HS.out (t.set p k x)) h101q.out.range HDA.out rfl HA.out) rfl ⟨rfl, h97q.out.2⟩

set_option maxHeartbeats 2000000 in
theorem tDo_put_new (t : Tb) (k x : Int) (hn : t.k (place t k) ≠ k) (hl : len t < 6) (hk1 : 1 ≤ k) (hk2 : k ≤ 1000) (w : World) :
    Calls Tryd.prog 58 #[.agg t.all.toArray, .agg #[.int .i64 1, .int .i64 k, .int .i64 x]] w (Told w (t.set (place t k) k x, 1, 0)) := by
  obtain ⟨na, ea, hd⟩ := slots_array
  have HD : Hid _ := hd
  clear hd
  have HS : Hid (∀ t : Tb, (Tryd.prog.info? 92).map (·.size) = some t.all.length) := slots_size
  have HZ : Hid (∀ t : Tb, (Tryd.prog.info? 92).map (·.size) = some t.all.toArray.size) := slots_size2
  have HT : Hid ((Tryd.prog.info? 90).map (·.size) = some 2) := slot_size
  have HA : Hid ((Tryd.prog.info? 38).map (·.size) = some 2) := answer_size
  obtain ⟨fs, ha⟩ := answer_struct
  have HDA : Hid _ := ha
  clear ha
  have g0 : Hid (Gd w.heap.size w ((((w.alloc (.cells t.all.toArray 92)).alloc (.cells #[.int .i64 1, .int .i64 k, .int .i64 x] 26)).alloc (.cells #[.int .i64 0, .int .i64 0, .int .i64 0, .int .i64 0, .int .i64 0, .int .i64 0, .int .i64 0, .int .i64 0, .int .i64 0, .int .i64 0, .int .i64 0, .int .i64 0, .int .i64 0, .int .i64 0, .int .i64 0, .int .i64 0] 92)).alloc (.cells #[.int .i64 0, .int .i64 0] 38))) := ((((Gd.refl w).new _).new _).new _).new _
  have t0 : Hid (TAt ((((w.alloc (.cells t.all.toArray 92)).alloc (.cells #[.int .i64 1, .int .i64 k, .int .i64 x] 26)).alloc (.cells #[.int .i64 0, .int .i64 0, .int .i64 0, .int .i64 0, .int .i64 0, .int .i64 0, .int .i64 0, .int .i64 0, .int .i64 0, .int .i64 0, .int .i64 0, .int .i64 0, .int .i64 0, .int .i64 0, .int .i64 0, .int .i64 0] 92)).alloc (.cells #[.int .i64 0, .int .i64 0] 38)) w.heap.size t) := (((TAt.born w t _).new _).new _).new _
  have o0 : Hid (Bo ((((w.alloc (.cells t.all.toArray 92)).alloc (.cells #[.int .i64 1, .int .i64 k, .int .i64 x] 26)).alloc (.cells #[.int .i64 0, .int .i64 0, .int .i64 0, .int .i64 0, .int .i64 0, .int .i64 0, .int .i64 0, .int .i64 0, .int .i64 0, .int .i64 0, .int .i64 0, .int .i64 0, .int .i64 0, .int .i64 0, .int .i64 0, .int .i64 0] 92)).alloc (.cells #[.int .i64 0, .int .i64 0] 38)) (w.heap.size + 1) [.int .i64 1, .int .i64 k, .int .i64 x]) := ((Bo.born _ [.int .i64 1, .int .i64 k, .int .i64 x] _ (by simp)).new _).new _
  have z0 : Hid (TAt ((((w.alloc (.cells t.all.toArray 92)).alloc (.cells #[.int .i64 1, .int .i64 k, .int .i64 x] 26)).alloc (.cells #[.int .i64 0, .int .i64 0, .int .i64 0, .int .i64 0, .int .i64 0, .int .i64 0, .int .i64 0, .int .i64 0, .int .i64 0, .int .i64 0, .int .i64 0, .int .i64 0, .int .i64 0, .int .i64 0, .int .i64 0, .int .i64 0] 92)).alloc (.cells #[.int .i64 0, .int .i64 0] 38)) (w.heap.size + 2) Tb.zero) := (TAt.bornZero _ _ (by simp)).new _
  have r0 : Hid (Bo ((((w.alloc (.cells t.all.toArray 92)).alloc (.cells #[.int .i64 1, .int .i64 k, .int .i64 x] 26)).alloc (.cells #[.int .i64 0, .int .i64 0, .int .i64 0, .int .i64 0, .int .i64 0, .int .i64 0, .int .i64 0, .int .i64 0, .int .i64 0, .int .i64 0, .int .i64 0, .int .i64 0, .int .i64 0, .int .i64 0, .int .i64 0, .int .i64 0] 92)).alloc (.cells #[.int .i64 0, .int .i64 0] 38)) (w.heap.size + 3) [.int .i64 0, .int .i64 0]) := Bo.born _ [.int .i64 0, .int .i64 0] _ (by simp)
  have HN : Hid (w.heap.size = w.heap.size) := rfl
  go_enter Tryd.func58, Tryd.ntmps58
  have L := byKey_is 1 k x
  rw [decide_eq_true (show byKey 1 k from ⟨by omega, hk1, hk2⟩)] at L
  have PL := place_eq t k
  unfold Placed at PL
  have hp := place_lt t k
  have LL := Len_is t
  rw [show (t.k (place t k) == k) = false by simp [hn]] at PL
  generalize len t = l at *
  have hl1 : ¬ (6 : Int) ≤ (l : Int) := by omega
  clear hn hl
  generalize place t k = p at *
  have hp1 : (p : Int) < 8 := by omega
  have hp0 : (0 : Int) ≤ (p : Int) := by omega
  clear hk1 hk2
  go_wp2_with fail
  generalize ((((w.alloc (.cells t.all.toArray 92)).alloc (.cells #[.int .i64 1, .int .i64 k, .int .i64 x] 26)).alloc (.cells #[.int .i64 0, .int .i64 0, .int .i64 0, .int .i64 0, .int .i64 0, .int .i64 0, .int .i64 0, .int .i64 0, .int .i64 0, .int .i64 0, .int .i64 0, .int .i64 0, .int .i64 0, .int .i64 0, .int .i64 0, .int .i64 0] 92)).alloc (.cells #[.int .i64 0, .int .i64 0] 38)) = W at g0 t0 o0 z0 r0 ⊢
  generalize w.heap.size = n at g0 t0 o0 z0 r0 HN ⊢
  refine (L _).mono ?_
  rintro e u103q ⟨rfl, hb⟩
  have h104q : Hid (Gd n w u103q) := g0.out.later hb
  have h105q : Hid (TAt u103q n t) := t0.out.later hb
  have h106q : Hid (Bo u103q (n + 1) [.int .i64 1, .int .i64 k, .int .i64 x]) := o0.out.later hb
  have h107q : Hid (TAt u103q (n + 2) Tb.zero) := z0.out.later hb
  have h108q : Hid (Bo u103q (n + 3) [.int .i64 0, .int .i64 0]) := r0.out.later hb
  clear g0 t0 o0 z0 r0
  clear hb
  have d1 := h106q.out.at 1 rfl
  go_wp2_with (first
    | (refine wpList_load_mid rfl 92 _ rfl n _ rfl t.all _ h105q.out.range HD.out rfl (HS.out t) ?_))
  refine (PL _).mono ?_
  rintro e u109q ⟨rfl, hb⟩
  have h110q : Hid (Gd n w u109q) := h104q.out.later hb
  have h111q : Hid (TAt u109q n t) := h105q.out.later hb
  have h112q : Hid (Bo u109q (n + 1) [.int .i64 1, .int .i64 k, .int .i64 x]) := h106q.out.later hb
  have h113q : Hid (TAt u109q (n + 2) Tb.zero) := h107q.out.later hb
  have h114q : Hid (Bo u109q (n + 3) [.int .i64 0, .int .i64 0]) := h108q.out.later hb
  clear h104q h105q h106q h107q h108q
  clear hb
  clear d1 PL L
  have d0 := h112q.out.at 0 rfl
  go_wp2_with (first
    | (refine wpList_load_wanted (by rfl) 92 _ rfl n _ rfl t.all _ h111q.out.range HD.out rfl (HS.out t) ?_))
  refine (LL _).mono ?_
  rintro e u115q ⟨rfl, hb⟩
  have h116q : Hid (Gd n w u115q) := h110q.out.later hb
  have h117q : Hid (TAt u115q n t) := h111q.out.later hb
  have h118q : Hid (Bo u115q (n + 1) [.int .i64 1, .int .i64 k, .int .i64 x]) := h112q.out.later hb
  have h119q : Hid (TAt u115q (n + 2) Tb.zero) := h113q.out.later hb
  have h120q : Hid (Bo u115q (n + 3) [.int .i64 0, .int .i64 0]) := h114q.out.later hb
  clear h110q h111q h112q h113q h114q
  clear hb
  clear d0 LL
  have d3 := h118q.out.at 0 rfl
  have d1 := h118q.out.at 1 rfl
  have d2 := h118q.out.at 2 rfl
  go_wp2_with (first
    | (refine wpList_store_mid rfl 90 _ _ rfl n _ #[.int .i64 (k), .int .i64 (x)] rfl rfl (h117q.out.thereS hp) HT.out (two_one _ _) ?_
       have h121q : Hid (Gd n w (u115q.setCells n (p * 2) [.int .i64 (k), .int .i64 (x)])) := h116q.out.asideL (by omega) (p * 2) [.int .i64 (k), .int .i64 (x)]
       have h122q : Hid (TAt (u115q.setCells n (p * 2) [.int .i64 (k), .int .i64 (x)]) n (t.set p k x)) := h117q.out.slot hp (k) (x)
       have h123q : Hid (Bo (u115q.setCells n (p * 2) [.int .i64 (k), .int .i64 (x)]) (n + 1) [.int .i64 1, .int .i64 k, .int .i64 x]) := h118q.out.asideL (by omega) (p * 2) [.int .i64 (k), .int .i64 (x)]
       have h124q : Hid (TAt (u115q.setCells n (p * 2) [.int .i64 (k), .int .i64 (x)]) (n + 2) Tb.zero) := h119q.out.asideL (by omega) (p * 2) [.int .i64 (k), .int .i64 (x)]
       have h125q : Hid (Bo (u115q.setCells n (p * 2) [.int .i64 (k), .int .i64 (x)]) (n + 3) [.int .i64 0, .int .i64 0]) := h120q.out.asideL (by omega) (p * 2) [.int .i64 (k), .int .i64 (x)]
       clear h116q h117q h118q h119q h120q
       generalize (u115q.setCells n (p * 2) [.int .i64 (k), .int .i64 (x)]) = u126q at h121q h122q h123q h124q h125q  ⊢)
    | (refine wpList_load_mid rfl 92 _ rfl n _ rfl (t.set p k x).all _ h122q.out.range HD.out rfl (HS.out (t.set p k x)) ?_)
    | (refine wpList_store_mid rfl 92 _ _ rfl (n + 2) _ (t.set p k x).all.toArray rfl rfl (h124q.out.thereOf (t.set p k x)) (HZ.out (t.set p k x)) ((t.set p k x).all_all) ?_
       have h127q : Hid (Gd n w (u126q.setCells (n + 2) 0 (t.set p k x).all)) := h121q.out.asideAll (by omega) (t.set p k x)
       have h128q : Hid (TAt (u126q.setCells (n + 2) 0 (t.set p k x).all) n (t.set p k x)) := h122q.out.asideAll (by omega) (t.set p k x)
       have h129q : Hid (Bo (u126q.setCells (n + 2) 0 (t.set p k x).all) (n + 1) [.int .i64 1, .int .i64 k, .int .i64 x]) := h123q.out.asideAll (by omega) (t.set p k x)
       have h130q : Hid (TAt (u126q.setCells (n + 2) 0 (t.set p k x).all) (n + 2) (t.set p k x)) := h124q.out.setAll (t.set p k x)
       have h131q : Hid (Bo (u126q.setCells (n + 2) 0 (t.set p k x).all) (n + 3) [.int .i64 0, .int .i64 0]) := h125q.out.asideAll (by omega) (t.set p k x)
       clear h121q h122q h123q h124q h125q
       generalize (u126q.setCells (n + 2) 0 (t.set p k x).all) = u132q at h127q h128q h129q h130q h131q  ⊢)
    | (refine wpList_store_mid rfl 38 _ _ rfl (n + 3) _ #[.int .i64 (1), .int .i64 (0)] rfl rfl h131q.out.there2 HA.out (two_one _ _) ?_
       have h133q : Hid (Gd n w (u132q.setCells (n + 3) 0 [.int .i64 (1), .int .i64 (0)])) := h127q.out.asideL (by omega) 0 [.int .i64 (1), .int .i64 (0)]
       have h134q : Hid (TAt (u132q.setCells (n + 3) 0 [.int .i64 (1), .int .i64 (0)]) n (t.set p k x)) := h128q.out.asideL (by omega) 0 [.int .i64 (1), .int .i64 (0)]
       have h135q : Hid (Bo (u132q.setCells (n + 3) 0 [.int .i64 (1), .int .i64 (0)]) (n + 1) [.int .i64 1, .int .i64 k, .int .i64 x]) := h129q.out.asideL (by omega) 0 [.int .i64 (1), .int .i64 (0)]
       have h136q : Hid (TAt (u132q.setCells (n + 3) 0 [.int .i64 (1), .int .i64 (0)]) (n + 2) (t.set p k x)) := h130q.out.asideL (by omega) 0 [.int .i64 (1), .int .i64 (0)]
       have h137q : Hid (Bo (u132q.setCells (n + 3) 0 [.int .i64 (1), .int .i64 (0)]) (n + 3) [.int .i64 (1), .int .i64 (0)]) := h131q.out.set2 (.int .i64 (1)) (.int .i64 (0))
       clear h127q h128q h129q h130q h131q
       generalize (u132q.setCells (n + 3) 0 [.int .i64 (1), .int .i64 (0)]) = u138q at h133q h134q h135q h136q h137q  ⊢))
  exact bodyPost_ret (results_row2 Tryd.results58 _ _ (n + 2) (n + 3) (t.set p k x).all [.int .i64 (1), .int .i64 (0)] _ _ rfl rfl h136q.out.range HD.out rfl (HS.out (t.set p k x)) h137q.out.range HDA.out rfl HA.out) rfl ⟨rfl, h133q.out.2⟩

set_option maxHeartbeats 2000000 in
theorem tDo_absent (t : Tb) (o k x : Int) (ho : o = 2 ∨ o = 5) (hn : t.k (place t k) ≠ k) (hk1 : 1 ≤ k) (hk2 : k ≤ 1000) (w : World) :
    Calls Tryd.prog 58 #[.agg t.all.toArray, .agg #[.int .i64 o, .int .i64 k, .int .i64 x]] w (Told w (t, 4, 0)) := by
  obtain ⟨na, ea, hd⟩ := slots_array
  have HD : Hid _ := hd
  clear hd
  have HS : Hid (∀ t : Tb, (Tryd.prog.info? 92).map (·.size) = some t.all.length) := slots_size
  have HZ : Hid (∀ t : Tb, (Tryd.prog.info? 92).map (·.size) = some t.all.toArray.size) := slots_size2
  have HT : Hid ((Tryd.prog.info? 90).map (·.size) = some 2) := slot_size
  have HA : Hid ((Tryd.prog.info? 38).map (·.size) = some 2) := answer_size
  obtain ⟨fs, ha⟩ := answer_struct
  have HDA : Hid _ := ha
  clear ha
  have g0 : Hid (Gd w.heap.size w ((((w.alloc (.cells t.all.toArray 92)).alloc (.cells #[.int .i64 o, .int .i64 k, .int .i64 x] 26)).alloc (.cells #[.int .i64 0, .int .i64 0, .int .i64 0, .int .i64 0, .int .i64 0, .int .i64 0, .int .i64 0, .int .i64 0, .int .i64 0, .int .i64 0, .int .i64 0, .int .i64 0, .int .i64 0, .int .i64 0, .int .i64 0, .int .i64 0] 92)).alloc (.cells #[.int .i64 0, .int .i64 0] 38))) := ((((Gd.refl w).new _).new _).new _).new _
  have t0 : Hid (TAt ((((w.alloc (.cells t.all.toArray 92)).alloc (.cells #[.int .i64 o, .int .i64 k, .int .i64 x] 26)).alloc (.cells #[.int .i64 0, .int .i64 0, .int .i64 0, .int .i64 0, .int .i64 0, .int .i64 0, .int .i64 0, .int .i64 0, .int .i64 0, .int .i64 0, .int .i64 0, .int .i64 0, .int .i64 0, .int .i64 0, .int .i64 0, .int .i64 0] 92)).alloc (.cells #[.int .i64 0, .int .i64 0] 38)) w.heap.size t) := (((TAt.born w t _).new _).new _).new _
  have o0 : Hid (Bo ((((w.alloc (.cells t.all.toArray 92)).alloc (.cells #[.int .i64 o, .int .i64 k, .int .i64 x] 26)).alloc (.cells #[.int .i64 0, .int .i64 0, .int .i64 0, .int .i64 0, .int .i64 0, .int .i64 0, .int .i64 0, .int .i64 0, .int .i64 0, .int .i64 0, .int .i64 0, .int .i64 0, .int .i64 0, .int .i64 0, .int .i64 0, .int .i64 0] 92)).alloc (.cells #[.int .i64 0, .int .i64 0] 38)) (w.heap.size + 1) [.int .i64 o, .int .i64 k, .int .i64 x]) := ((Bo.born _ [.int .i64 o, .int .i64 k, .int .i64 x] _ (by simp)).new _).new _
  have z0 : Hid (TAt ((((w.alloc (.cells t.all.toArray 92)).alloc (.cells #[.int .i64 o, .int .i64 k, .int .i64 x] 26)).alloc (.cells #[.int .i64 0, .int .i64 0, .int .i64 0, .int .i64 0, .int .i64 0, .int .i64 0, .int .i64 0, .int .i64 0, .int .i64 0, .int .i64 0, .int .i64 0, .int .i64 0, .int .i64 0, .int .i64 0, .int .i64 0, .int .i64 0] 92)).alloc (.cells #[.int .i64 0, .int .i64 0] 38)) (w.heap.size + 2) Tb.zero) := (TAt.bornZero _ _ (by simp)).new _
  have r0 : Hid (Bo ((((w.alloc (.cells t.all.toArray 92)).alloc (.cells #[.int .i64 o, .int .i64 k, .int .i64 x] 26)).alloc (.cells #[.int .i64 0, .int .i64 0, .int .i64 0, .int .i64 0, .int .i64 0, .int .i64 0, .int .i64 0, .int .i64 0, .int .i64 0, .int .i64 0, .int .i64 0, .int .i64 0, .int .i64 0, .int .i64 0, .int .i64 0, .int .i64 0] 92)).alloc (.cells #[.int .i64 0, .int .i64 0] 38)) (w.heap.size + 3) [.int .i64 0, .int .i64 0]) := Bo.born _ [.int .i64 0, .int .i64 0] _ (by simp)
  have HN : Hid (w.heap.size = w.heap.size) := rfl
  go_enter Tryd.func58, Tryd.ntmps58
  have L := byKey_is o k x
  rw [decide_eq_true (show byKey o k from ⟨by omega, hk1, hk2⟩)] at L
  have PL := place_eq t k
  unfold Placed at PL
  have hp := place_lt t k
  rw [show (t.k (place t k) == k) = false by simp [hn]] at PL
  have m1 : (o == 1) = false := by rcases ho with rfl | rfl <;> rfl
  have m6 : (o == 6) = false := by rcases ho with rfl | rfl <;> rfl
  clear hn ho
  generalize place t k = p at *
  have hp1 : (p : Int) < 8 := by omega
  have hp0 : (0 : Int) ≤ (p : Int) := by omega
  clear hk1 hk2
  go_wp2_with fail
  generalize ((((w.alloc (.cells t.all.toArray 92)).alloc (.cells #[.int .i64 o, .int .i64 k, .int .i64 x] 26)).alloc (.cells #[.int .i64 0, .int .i64 0, .int .i64 0, .int .i64 0, .int .i64 0, .int .i64 0, .int .i64 0, .int .i64 0, .int .i64 0, .int .i64 0, .int .i64 0, .int .i64 0, .int .i64 0, .int .i64 0, .int .i64 0, .int .i64 0] 92)).alloc (.cells #[.int .i64 0, .int .i64 0] 38)) = W at g0 t0 o0 z0 r0 ⊢
  generalize w.heap.size = n at g0 t0 o0 z0 r0 HN ⊢
  refine (L _).mono ?_
  rintro e u139q ⟨rfl, hb⟩
  have h140q : Hid (Gd n w u139q) := g0.out.later hb
  have h141q : Hid (TAt u139q n t) := t0.out.later hb
  have h142q : Hid (Bo u139q (n + 1) [.int .i64 o, .int .i64 k, .int .i64 x]) := o0.out.later hb
  have h143q : Hid (TAt u139q (n + 2) Tb.zero) := z0.out.later hb
  have h144q : Hid (Bo u139q (n + 3) [.int .i64 0, .int .i64 0]) := r0.out.later hb
  clear g0 t0 o0 z0 r0
  clear hb
  have d1 := h142q.out.at 1 rfl
  go_wp2_with (first
    | (refine wpList_load_mid rfl 92 _ rfl n _ rfl t.all _ h141q.out.range HD.out rfl (HS.out t) ?_))
  refine (PL _).mono ?_
  rintro e u145q ⟨rfl, hb⟩
  have h146q : Hid (Gd n w u145q) := h140q.out.later hb
  have h147q : Hid (TAt u145q n t) := h141q.out.later hb
  have h148q : Hid (Bo u145q (n + 1) [.int .i64 o, .int .i64 k, .int .i64 x]) := h142q.out.later hb
  have h149q : Hid (TAt u145q (n + 2) Tb.zero) := h143q.out.later hb
  have h150q : Hid (Bo u145q (n + 3) [.int .i64 0, .int .i64 0]) := h144q.out.later hb
  clear h140q h141q h142q h143q h144q
  clear hb
  clear d1 PL L
  have d0 := h148q.out.at 0 rfl
  go_wp2_with (first
    | (refine wpList_load_mid rfl 92 _ rfl n _ rfl t.all _ h147q.out.range HD.out rfl (HS.out t) ?_)
    | (refine wpList_store_mid rfl 92 _ _ rfl (n + 2) _ t.all.toArray rfl rfl (h149q.out.thereOf t) (HZ.out t) (t.all_all) ?_
       have h151q : Hid (Gd n w (u145q.setCells (n + 2) 0 t.all)) := h146q.out.asideAll (by omega) t
       have h152q : Hid (TAt (u145q.setCells (n + 2) 0 t.all) n t) := h147q.out.asideAll (by omega) t
       have h153q : Hid (Bo (u145q.setCells (n + 2) 0 t.all) (n + 1) [.int .i64 o, .int .i64 k, .int .i64 x]) := h148q.out.asideAll (by omega) t
       have h154q : Hid (TAt (u145q.setCells (n + 2) 0 t.all) (n + 2) t) := h149q.out.setAll t
       have h155q : Hid (Bo (u145q.setCells (n + 2) 0 t.all) (n + 3) [.int .i64 0, .int .i64 0]) := h150q.out.asideAll (by omega) t
       clear h146q h147q h148q h149q h150q
       generalize (u145q.setCells (n + 2) 0 t.all) = u156q at h151q h152q h153q h154q h155q  ⊢)
    | (refine wpList_store_mid rfl 38 _ _ rfl (n + 3) _ #[.int .i64 (4), .int .i64 (0)] rfl rfl h155q.out.there2 HA.out (two_one _ _) ?_
       have h157q : Hid (Gd n w (u156q.setCells (n + 3) 0 [.int .i64 (4), .int .i64 (0)])) := h151q.out.asideL (by omega) 0 [.int .i64 (4), .int .i64 (0)]
       have h158q : Hid (TAt (u156q.setCells (n + 3) 0 [.int .i64 (4), .int .i64 (0)]) n t) := h152q.out.asideL (by omega) 0 [.int .i64 (4), .int .i64 (0)]
       have h159q : Hid (Bo (u156q.setCells (n + 3) 0 [.int .i64 (4), .int .i64 (0)]) (n + 1) [.int .i64 o, .int .i64 k, .int .i64 x]) := h153q.out.asideL (by omega) 0 [.int .i64 (4), .int .i64 (0)]
       have h160q : Hid (TAt (u156q.setCells (n + 3) 0 [.int .i64 (4), .int .i64 (0)]) (n + 2) t) := h154q.out.asideL (by omega) 0 [.int .i64 (4), .int .i64 (0)]
       have h161q : Hid (Bo (u156q.setCells (n + 3) 0 [.int .i64 (4), .int .i64 (0)]) (n + 3) [.int .i64 (4), .int .i64 (0)]) := h155q.out.set2 (.int .i64 (4)) (.int .i64 (0))
       clear h151q h152q h153q h154q h155q
       generalize (u156q.setCells (n + 3) 0 [.int .i64 (4), .int .i64 (0)]) = u162q at h157q h158q h159q h160q h161q  ⊢))
  exact bodyPost_ret (results_row2 Tryd.results58 _ _ (n + 2) (n + 3) t.all [.int .i64 (4), .int .i64 (0)] _ _ rfl rfl h160q.out.range HD.out rfl (HS.out t) h161q.out.range HDA.out rfl HA.out) rfl ⟨rfl, h157q.out.2⟩

set_option maxHeartbeats 2000000 in
theorem tDo_peek (t : Tb) (k x : Int) (hn : t.k (place t k) = k) (hk1 : 1 ≤ k) (hk2 : k ≤ 1000) (w : World) :
    Calls Tryd.prog 58 #[.agg t.all.toArray, .agg #[.int .i64 5, .int .i64 k, .int .i64 x]] w (Told w (t, 1, t.v (place t k))) := by
  obtain ⟨na, ea, hd⟩ := slots_array
  have HD : Hid _ := hd
  clear hd
  have HS : Hid (∀ t : Tb, (Tryd.prog.info? 92).map (·.size) = some t.all.length) := slots_size
  have HZ : Hid (∀ t : Tb, (Tryd.prog.info? 92).map (·.size) = some t.all.toArray.size) := slots_size2
  have HT : Hid ((Tryd.prog.info? 90).map (·.size) = some 2) := slot_size
  have HA : Hid ((Tryd.prog.info? 38).map (·.size) = some 2) := answer_size
  obtain ⟨fs, ha⟩ := answer_struct
  have HDA : Hid _ := ha
  clear ha
  have g0 : Hid (Gd w.heap.size w ((((w.alloc (.cells t.all.toArray 92)).alloc (.cells #[.int .i64 5, .int .i64 k, .int .i64 x] 26)).alloc (.cells #[.int .i64 0, .int .i64 0, .int .i64 0, .int .i64 0, .int .i64 0, .int .i64 0, .int .i64 0, .int .i64 0, .int .i64 0, .int .i64 0, .int .i64 0, .int .i64 0, .int .i64 0, .int .i64 0, .int .i64 0, .int .i64 0] 92)).alloc (.cells #[.int .i64 0, .int .i64 0] 38))) := ((((Gd.refl w).new _).new _).new _).new _
  have t0 : Hid (TAt ((((w.alloc (.cells t.all.toArray 92)).alloc (.cells #[.int .i64 5, .int .i64 k, .int .i64 x] 26)).alloc (.cells #[.int .i64 0, .int .i64 0, .int .i64 0, .int .i64 0, .int .i64 0, .int .i64 0, .int .i64 0, .int .i64 0, .int .i64 0, .int .i64 0, .int .i64 0, .int .i64 0, .int .i64 0, .int .i64 0, .int .i64 0, .int .i64 0] 92)).alloc (.cells #[.int .i64 0, .int .i64 0] 38)) w.heap.size t) := (((TAt.born w t _).new _).new _).new _
  have o0 : Hid (Bo ((((w.alloc (.cells t.all.toArray 92)).alloc (.cells #[.int .i64 5, .int .i64 k, .int .i64 x] 26)).alloc (.cells #[.int .i64 0, .int .i64 0, .int .i64 0, .int .i64 0, .int .i64 0, .int .i64 0, .int .i64 0, .int .i64 0, .int .i64 0, .int .i64 0, .int .i64 0, .int .i64 0, .int .i64 0, .int .i64 0, .int .i64 0, .int .i64 0] 92)).alloc (.cells #[.int .i64 0, .int .i64 0] 38)) (w.heap.size + 1) [.int .i64 5, .int .i64 k, .int .i64 x]) := ((Bo.born _ [.int .i64 5, .int .i64 k, .int .i64 x] _ (by simp)).new _).new _
  have z0 : Hid (TAt ((((w.alloc (.cells t.all.toArray 92)).alloc (.cells #[.int .i64 5, .int .i64 k, .int .i64 x] 26)).alloc (.cells #[.int .i64 0, .int .i64 0, .int .i64 0, .int .i64 0, .int .i64 0, .int .i64 0, .int .i64 0, .int .i64 0, .int .i64 0, .int .i64 0, .int .i64 0, .int .i64 0, .int .i64 0, .int .i64 0, .int .i64 0, .int .i64 0] 92)).alloc (.cells #[.int .i64 0, .int .i64 0] 38)) (w.heap.size + 2) Tb.zero) := (TAt.bornZero _ _ (by simp)).new _
  have r0 : Hid (Bo ((((w.alloc (.cells t.all.toArray 92)).alloc (.cells #[.int .i64 5, .int .i64 k, .int .i64 x] 26)).alloc (.cells #[.int .i64 0, .int .i64 0, .int .i64 0, .int .i64 0, .int .i64 0, .int .i64 0, .int .i64 0, .int .i64 0, .int .i64 0, .int .i64 0, .int .i64 0, .int .i64 0, .int .i64 0, .int .i64 0, .int .i64 0, .int .i64 0] 92)).alloc (.cells #[.int .i64 0, .int .i64 0] 38)) (w.heap.size + 3) [.int .i64 0, .int .i64 0]) := Bo.born _ [.int .i64 0, .int .i64 0] _ (by simp)
  have HN : Hid (w.heap.size = w.heap.size) := rfl
  go_enter Tryd.func58, Tryd.ntmps58
  have L := byKey_is 5 k x
  rw [decide_eq_true (show byKey 5 k from ⟨by omega, hk1, hk2⟩)] at L
  have PL := place_eq t k
  unfold Placed at PL
  have hp := place_lt t k
  rw [show (t.k (place t k) == k) = true by simp [hn]] at PL
  clear hn
  generalize place t k = p at *
  have hp1 : (p : Int) < 8 := by omega
  have hp0 : (0 : Int) ≤ (p : Int) := by omega
  clear hk1 hk2
  go_wp2_with fail
  generalize ((((w.alloc (.cells t.all.toArray 92)).alloc (.cells #[.int .i64 5, .int .i64 k, .int .i64 x] 26)).alloc (.cells #[.int .i64 0, .int .i64 0, .int .i64 0, .int .i64 0, .int .i64 0, .int .i64 0, .int .i64 0, .int .i64 0, .int .i64 0, .int .i64 0, .int .i64 0, .int .i64 0, .int .i64 0, .int .i64 0, .int .i64 0, .int .i64 0] 92)).alloc (.cells #[.int .i64 0, .int .i64 0] 38)) = W at g0 t0 o0 z0 r0 ⊢
  generalize w.heap.size = n at g0 t0 o0 z0 r0 HN ⊢
  refine (L _).mono ?_
  rintro e u163q ⟨rfl, hb⟩
  have h164q : Hid (Gd n w u163q) := g0.out.later hb
  have h165q : Hid (TAt u163q n t) := t0.out.later hb
  have h166q : Hid (Bo u163q (n + 1) [.int .i64 5, .int .i64 k, .int .i64 x]) := o0.out.later hb
  have h167q : Hid (TAt u163q (n + 2) Tb.zero) := z0.out.later hb
  have h168q : Hid (Bo u163q (n + 3) [.int .i64 0, .int .i64 0]) := r0.out.later hb
  clear g0 t0 o0 z0 r0
  clear hb
  have d1 := h166q.out.at 1 rfl
  go_wp2_with (first
    | (refine wpList_load_mid rfl 92 _ rfl n _ rfl t.all _ h165q.out.range HD.out rfl (HS.out t) ?_))
  refine (PL _).mono ?_
  rintro e u169q ⟨rfl, hb⟩
  have h170q : Hid (Gd n w u169q) := h164q.out.later hb
  have h171q : Hid (TAt u169q n t) := h165q.out.later hb
  have h172q : Hid (Bo u169q (n + 1) [.int .i64 5, .int .i64 k, .int .i64 x]) := h166q.out.later hb
  have h173q : Hid (TAt u169q (n + 2) Tb.zero) := h167q.out.later hb
  have h174q : Hid (Bo u169q (n + 3) [.int .i64 0, .int .i64 0]) := h168q.out.later hb
  clear h164q h165q h166q h167q h168q
  clear hb
  clear d1 PL L
  have d0 := h172q.out.at 0 rfl
  have d5 := h171q.out.val hp
  have hle : n + 4 ≤ u169q.heap.size := by have := h174q.out.lt; omega
  have hne : n + 1 ≠ u169q.heap.size := by omega
  have h175q : Hid (Gd n w (u169q.alloc (.cells #[.int .i64 1, .int .i64 (t.v p)] 38))) := h170q.out.new (.cells #[.int .i64 1, .int .i64 (t.v p)] 38)
  have h176q : Hid (TAt (u169q.alloc (.cells #[.int .i64 1, .int .i64 (t.v p)] 38)) n t) := h171q.out.new (.cells #[.int .i64 1, .int .i64 (t.v p)] 38)
  have h177q : Hid (Bo (u169q.alloc (.cells #[.int .i64 1, .int .i64 (t.v p)] 38)) (n + 1) [.int .i64 5, .int .i64 k, .int .i64 x]) := h172q.out.new (.cells #[.int .i64 1, .int .i64 (t.v p)] 38)
  have h178q : Hid (TAt (u169q.alloc (.cells #[.int .i64 1, .int .i64 (t.v p)] 38)) (n + 2) Tb.zero) := h173q.out.new (.cells #[.int .i64 1, .int .i64 (t.v p)] 38)
  have h179q : Hid (Bo (u169q.alloc (.cells #[.int .i64 1, .int .i64 (t.v p)] 38)) (n + 3) [.int .i64 0, .int .i64 0]) := h174q.out.new (.cells #[.int .i64 1, .int .i64 (t.v p)] 38)
  clear h170q h171q h172q h173q h174q
  have h180q : Hid (Bo (u169q.alloc (.cells #[.int .i64 1, .int .i64 (t.v p)] 38)) u169q.heap.size [.int .i64 1, .int .i64 (t.v p)]) := Bo.born u169q [.int .i64 1, .int .i64 (t.v p)] _ rfl
  have d6 := h177q.out.at 0 rfl
  go_wp2_with fail
  clear d0 d5 d6
  generalize (u169q.alloc (.cells #[.int .i64 1, .int .i64 (t.v p)] 38)) = u181q at h175q h176q h177q h178q h179q h180q  ⊢
  have h182q : Hid (Gd n w u181q.drew) := h175q.out.drew
  have h183q : Hid (TAt u181q.drew n t) := h176q.out.drew
  have h184q : Hid (Bo u181q.drew (n + 1) [.int .i64 5, .int .i64 k, .int .i64 x]) := h177q.out.drew
  have h185q : Hid (TAt u181q.drew (n + 2) Tb.zero) := h178q.out.drew
  have h186q : Hid (Bo u181q.drew (n + 3) [.int .i64 0, .int .i64 0]) := h179q.out.drew
  have h187q : Hid (Bo u181q.drew u169q.heap.size [.int .i64 1, .int .i64 (t.v p)]) := h180q.out.drew
  clear h175q h176q h177q h178q h179q h180q
  refine wp_region_held_drew (S := fun w' => TAt w' n t ∧ Bo w' u169q.heap.size [.int .i64 1, .int .i64 (t.v p)]) (by kernel_rfl) ⟨h183q.out, h187q.out⟩ (fun hH => ?_)
  generalize u181q.drew = u188q at h182q h183q h184q h185q h186q h187q hH ⊢
  refine wpAnyH_take (i := 0) (oi := { dst := some 72, op := .load _ (.tmp 2), type := _, pos := _, after := _, guard := _ }) (v := _) rfl (by kernel_rfl) (by kernel_rfl) (by kernel_rfl) (fun _ _ _ h => h) (yieldsIf_load_mid (by rfl) _ _ rfl n _ rfl t.all _ (fun _ h => (h.1).range) HD.out rfl (HS.out t)) hH ?_
  simp only [Act.put, List.setIfInBounds_toArray, List.set_cons_zero, List.set_cons_succ]
  refine wpAnyH_take (i := 1) (oi := { dst := some 73, op := .load _ (.tmp 8), type := _, pos := _, after := _, guard := _ }) (v := ?_) rfl (by kernel_rfl) (by kernel_rfl) (by kernel_rfl) (fun _ _ _ h => h) (Or.inl ⟨by rfl, ?_⟩) hH ?_
  rotate_left
  · intro w hSw
    have c189q := (hSw.2).at 0 rfl
    have c190q := (hSw.2).at 1 rfl
    clear hSw
    go_simp
    try with_reducible rfl
  simp only [Act.put, List.setIfInBounds_toArray, List.set_cons_zero, List.set_cons_succ]
  refine wpAnyH_ready (rs := [2]) (by kernel_rfl) (by simp) ?_
  refine AllReadyH.cons (o := { dst := none, op := .store _ (.tmp 4) (.tmp 72), type := _, pos := _, after := _, guard := _ }) rfl (fun K hK => ?_) AllReadyH.nil
  rw [if_pos (by rfl)]
  refine wp_store_mid _ _ _ rfl (n + 2) _ t.all.toArray rfl rfl (h185q.out.thereOf t) (HZ.out t) (t.all_all) ?_
  simp only [Act.put]
  have h191q : Hid (Gd n w (u188q.setCells (n + 2) 0 t.all)) := h182q.out.asideAll (by omega) t
  have h192q : Hid (TAt (u188q.setCells (n + 2) 0 t.all) n t) := h183q.out.asideAll (by omega) t
  have h193q : Hid (Bo (u188q.setCells (n + 2) 0 t.all) (n + 1) [.int .i64 5, .int .i64 k, .int .i64 x]) := h184q.out.asideAll (by omega) t
  have h194q : Hid (TAt (u188q.setCells (n + 2) 0 t.all) (n + 2) t) := h185q.out.setAll t
  have h195q : Hid (Bo (u188q.setCells (n + 2) 0 t.all) (n + 3) [.int .i64 0, .int .i64 0]) := h186q.out.asideAll (by omega) t
  have h196q : Hid (Bo (u188q.setCells (n + 2) 0 t.all) u169q.heap.size [.int .i64 1, .int .i64 (t.v p)]) := h187q.out.asideAll (by omega) t
  clear h182q h183q h184q h185q h186q h187q
  refine hK.out _ _ ⟨h192q.out, h196q.out⟩ (fun hH => ?_)
  clear hK K
  generalize (u188q.setCells (n + 2) 0 t.all) = u197q at h191q h192q h193q h194q h195q h196q hH ⊢
  try simp only [Act.put, List.setIfInBounds_toArray, List.set_cons_zero, List.set_cons_succ]
  refine wpAnyH_ready (rs := [3]) (by kernel_rfl) (by simp) ?_
  refine AllReadyH.cons (o := { dst := none, op := .store _ (.tmp 5) (.tmp 73), type := _, pos := _, after := _, guard := _ }) rfl (fun K hK => ?_) AllReadyH.nil
  rw [if_pos (by rfl)]
  refine wp_store_mid _ _ _ rfl (n + 3) _ #[.int .i64 (1), .int .i64 (t.v p)] rfl rfl h195q.out.there2 HA.out (two_one _ _) ?_
  simp only [Act.put]
  have h198q : Hid (Gd n w (u197q.setCells (n + 3) 0 [.int .i64 (1), .int .i64 (t.v p)])) := h191q.out.asideL (by omega) 0 [.int .i64 (1), .int .i64 (t.v p)]
  have h199q : Hid (TAt (u197q.setCells (n + 3) 0 [.int .i64 (1), .int .i64 (t.v p)]) n t) := h192q.out.asideL (by omega) 0 [.int .i64 (1), .int .i64 (t.v p)]
  have h200q : Hid (Bo (u197q.setCells (n + 3) 0 [.int .i64 (1), .int .i64 (t.v p)]) (n + 1) [.int .i64 5, .int .i64 k, .int .i64 x]) := h193q.out.asideL (by omega) 0 [.int .i64 (1), .int .i64 (t.v p)]
  have h201q : Hid (TAt (u197q.setCells (n + 3) 0 [.int .i64 (1), .int .i64 (t.v p)]) (n + 2) t) := h194q.out.asideL (by omega) 0 [.int .i64 (1), .int .i64 (t.v p)]
  have h202q : Hid (Bo (u197q.setCells (n + 3) 0 [.int .i64 (1), .int .i64 (t.v p)]) (n + 3) [.int .i64 (1), .int .i64 (t.v p)]) := h195q.out.set2 (.int .i64 (1)) (.int .i64 (t.v p))
  have h203q : Hid (Bo (u197q.setCells (n + 3) 0 [.int .i64 (1), .int .i64 (t.v p)]) u169q.heap.size [.int .i64 1, .int .i64 (t.v p)]) := h196q.out.asideL (by omega) 0 [.int .i64 (1), .int .i64 (t.v p)]
  clear h191q h192q h193q h194q h195q h196q
  refine hK.out _ _ ⟨h199q.out, h203q.out⟩ (fun hH => ?_)
  clear hK K
  generalize (u197q.setCells (n + 3) 0 [.int .i64 (1), .int .i64 (t.v p)]) = u204q at h198q h199q h200q h201q h202q h203q hH ⊢
  try simp only [Act.put, List.setIfInBounds_toArray, List.set_cons_zero, List.set_cons_succ]
  refine wpAnyH_done (by kernel_rfl) ?_ _
  go_wp2
  exact bodyPost_ret (results_row2 Tryd.results58 _ _ (n + 2) (n + 3) t.all [.int .i64 (1), .int .i64 (t.v p)] _ _ rfl rfl h201q.out.range HD.out rfl (HS.out t) h202q.out.range HDA.out rfl HA.out) rfl ⟨rfl, h198q.out.2⟩

set_option maxHeartbeats 2000000 in
theorem tDo_take (t : Tb) (k x : Int) (hn : t.k (place t k) = k) (hk1 : 1 ≤ k) (hk2 : k ≤ 1000) (w : World) :
    Calls Tryd.prog 58 #[.agg t.all.toArray, .agg #[.int .i64 2, .int .i64 k, .int .i64 x]] w (Told w (without t (place t k), 1, t.v (place t k))) := by
  obtain ⟨na, ea, hd⟩ := slots_array
  have HD : Hid _ := hd
  clear hd
  have HS : Hid (∀ t : Tb, (Tryd.prog.info? 92).map (·.size) = some t.all.length) := slots_size
  have HZ : Hid (∀ t : Tb, (Tryd.prog.info? 92).map (·.size) = some t.all.toArray.size) := slots_size2
  have HT : Hid ((Tryd.prog.info? 90).map (·.size) = some 2) := slot_size
  have HA : Hid ((Tryd.prog.info? 38).map (·.size) = some 2) := answer_size
  obtain ⟨fs, ha⟩ := answer_struct
  have HDA : Hid _ := ha
  clear ha
  have g0 : Hid (Gd w.heap.size w ((((w.alloc (.cells t.all.toArray 92)).alloc (.cells #[.int .i64 2, .int .i64 k, .int .i64 x] 26)).alloc (.cells #[.int .i64 0, .int .i64 0, .int .i64 0, .int .i64 0, .int .i64 0, .int .i64 0, .int .i64 0, .int .i64 0, .int .i64 0, .int .i64 0, .int .i64 0, .int .i64 0, .int .i64 0, .int .i64 0, .int .i64 0, .int .i64 0] 92)).alloc (.cells #[.int .i64 0, .int .i64 0] 38))) := ((((Gd.refl w).new _).new _).new _).new _
  have t0 : Hid (TAt ((((w.alloc (.cells t.all.toArray 92)).alloc (.cells #[.int .i64 2, .int .i64 k, .int .i64 x] 26)).alloc (.cells #[.int .i64 0, .int .i64 0, .int .i64 0, .int .i64 0, .int .i64 0, .int .i64 0, .int .i64 0, .int .i64 0, .int .i64 0, .int .i64 0, .int .i64 0, .int .i64 0, .int .i64 0, .int .i64 0, .int .i64 0, .int .i64 0] 92)).alloc (.cells #[.int .i64 0, .int .i64 0] 38)) w.heap.size t) := (((TAt.born w t _).new _).new _).new _
  have o0 : Hid (Bo ((((w.alloc (.cells t.all.toArray 92)).alloc (.cells #[.int .i64 2, .int .i64 k, .int .i64 x] 26)).alloc (.cells #[.int .i64 0, .int .i64 0, .int .i64 0, .int .i64 0, .int .i64 0, .int .i64 0, .int .i64 0, .int .i64 0, .int .i64 0, .int .i64 0, .int .i64 0, .int .i64 0, .int .i64 0, .int .i64 0, .int .i64 0, .int .i64 0] 92)).alloc (.cells #[.int .i64 0, .int .i64 0] 38)) (w.heap.size + 1) [.int .i64 2, .int .i64 k, .int .i64 x]) := ((Bo.born _ [.int .i64 2, .int .i64 k, .int .i64 x] _ (by simp)).new _).new _
  have z0 : Hid (TAt ((((w.alloc (.cells t.all.toArray 92)).alloc (.cells #[.int .i64 2, .int .i64 k, .int .i64 x] 26)).alloc (.cells #[.int .i64 0, .int .i64 0, .int .i64 0, .int .i64 0, .int .i64 0, .int .i64 0, .int .i64 0, .int .i64 0, .int .i64 0, .int .i64 0, .int .i64 0, .int .i64 0, .int .i64 0, .int .i64 0, .int .i64 0, .int .i64 0] 92)).alloc (.cells #[.int .i64 0, .int .i64 0] 38)) (w.heap.size + 2) Tb.zero) := (TAt.bornZero _ _ (by simp)).new _
  have r0 : Hid (Bo ((((w.alloc (.cells t.all.toArray 92)).alloc (.cells #[.int .i64 2, .int .i64 k, .int .i64 x] 26)).alloc (.cells #[.int .i64 0, .int .i64 0, .int .i64 0, .int .i64 0, .int .i64 0, .int .i64 0, .int .i64 0, .int .i64 0, .int .i64 0, .int .i64 0, .int .i64 0, .int .i64 0, .int .i64 0, .int .i64 0, .int .i64 0, .int .i64 0] 92)).alloc (.cells #[.int .i64 0, .int .i64 0] 38)) (w.heap.size + 3) [.int .i64 0, .int .i64 0]) := Bo.born _ [.int .i64 0, .int .i64 0] _ (by simp)
  have HN : Hid (w.heap.size = w.heap.size) := rfl
  go_enter Tryd.func58, Tryd.ntmps58
  have L := byKey_is 2 k x
  rw [decide_eq_true (show byKey 2 k from ⟨by omega, hk1, hk2⟩)] at L
  have PL := place_eq t k
  unfold Placed at PL
  have hp := place_lt t k
  rw [show (t.k (place t k) == k) = true by simp [hn]] at PL
  clear hn
  generalize place t k = p at *
  have hp1 : (p : Int) < 8 := by omega
  have hp0 : (0 : Int) ≤ (p : Int) := by omega
  clear hk1 hk2
  go_wp2_with fail
  generalize ((((w.alloc (.cells t.all.toArray 92)).alloc (.cells #[.int .i64 2, .int .i64 k, .int .i64 x] 26)).alloc (.cells #[.int .i64 0, .int .i64 0, .int .i64 0, .int .i64 0, .int .i64 0, .int .i64 0, .int .i64 0, .int .i64 0, .int .i64 0, .int .i64 0, .int .i64 0, .int .i64 0, .int .i64 0, .int .i64 0, .int .i64 0, .int .i64 0] 92)).alloc (.cells #[.int .i64 0, .int .i64 0] 38)) = W at g0 t0 o0 z0 r0 ⊢
  generalize w.heap.size = n at g0 t0 o0 z0 r0 HN ⊢
  refine (L _).mono ?_
  rintro e u205q ⟨rfl, hb⟩
  have h206q : Hid (Gd n w u205q) := g0.out.later hb
  have h207q : Hid (TAt u205q n t) := t0.out.later hb
  have h208q : Hid (Bo u205q (n + 1) [.int .i64 2, .int .i64 k, .int .i64 x]) := o0.out.later hb
  have h209q : Hid (TAt u205q (n + 2) Tb.zero) := z0.out.later hb
  have h210q : Hid (Bo u205q (n + 3) [.int .i64 0, .int .i64 0]) := r0.out.later hb
  clear g0 t0 o0 z0 r0
  clear hb
  have d1 := h208q.out.at 1 rfl
  go_wp2_with (first
    | (refine wpList_load_mid rfl 92 _ rfl n _ rfl t.all _ h207q.out.range HD.out rfl (HS.out t) ?_))
  refine (PL _).mono ?_
  rintro e u211q ⟨rfl, hb⟩
  have h212q : Hid (Gd n w u211q) := h206q.out.later hb
  have h213q : Hid (TAt u211q n t) := h207q.out.later hb
  have h214q : Hid (Bo u211q (n + 1) [.int .i64 2, .int .i64 k, .int .i64 x]) := h208q.out.later hb
  have h215q : Hid (TAt u211q (n + 2) Tb.zero) := h209q.out.later hb
  have h216q : Hid (Bo u211q (n + 3) [.int .i64 0, .int .i64 0]) := h210q.out.later hb
  clear h206q h207q h208q h209q h210q
  clear hb
  clear d1 PL L
  have d0 := h214q.out.at 0 rfl
  have d5 := h213q.out.val hp
  have hle : n + 4 ≤ u211q.heap.size := by have := h216q.out.lt; omega
  have hne : n + 1 ≠ u211q.heap.size := by omega
  have h217q : Hid (Gd n w (u211q.alloc (.cells #[.int .i64 1, .int .i64 (t.v p)] 38))) := h212q.out.new (.cells #[.int .i64 1, .int .i64 (t.v p)] 38)
  have h218q : Hid (TAt (u211q.alloc (.cells #[.int .i64 1, .int .i64 (t.v p)] 38)) n t) := h213q.out.new (.cells #[.int .i64 1, .int .i64 (t.v p)] 38)
  have h219q : Hid (Bo (u211q.alloc (.cells #[.int .i64 1, .int .i64 (t.v p)] 38)) (n + 1) [.int .i64 2, .int .i64 k, .int .i64 x]) := h214q.out.new (.cells #[.int .i64 1, .int .i64 (t.v p)] 38)
  have h220q : Hid (TAt (u211q.alloc (.cells #[.int .i64 1, .int .i64 (t.v p)] 38)) (n + 2) Tb.zero) := h215q.out.new (.cells #[.int .i64 1, .int .i64 (t.v p)] 38)
  have h221q : Hid (Bo (u211q.alloc (.cells #[.int .i64 1, .int .i64 (t.v p)] 38)) (n + 3) [.int .i64 0, .int .i64 0]) := h216q.out.new (.cells #[.int .i64 1, .int .i64 (t.v p)] 38)
  clear h212q h213q h214q h215q h216q
  have h222q : Hid (Bo (u211q.alloc (.cells #[.int .i64 1, .int .i64 (t.v p)] 38)) u211q.heap.size [.int .i64 1, .int .i64 (t.v p)]) := Bo.born u211q [.int .i64 1, .int .i64 (t.v p)] _ rfl
  have d6 := h219q.out.at 0 rfl
  have WO := without_is t p hp
  go_wp2_with (first
    | (refine wpList_load_mid rfl 92 _ rfl n _ rfl t.all _ h218q.out.range HD.out rfl (HS.out t) ?_))
  refine (WO _).mono ?_
  rintro e u223q ⟨rfl, hb⟩
  have h224q : Hid (Gd n w u223q) := h217q.out.later hb
  have h225q : Hid (TAt u223q n t) := h218q.out.later hb
  have h226q : Hid (Bo u223q (n + 1) [.int .i64 2, .int .i64 k, .int .i64 x]) := h219q.out.later hb
  have h227q : Hid (TAt u223q (n + 2) Tb.zero) := h220q.out.later hb
  have h228q : Hid (Bo u223q (n + 3) [.int .i64 0, .int .i64 0]) := h221q.out.later hb
  have h229q : Hid (Bo u223q u211q.heap.size [.int .i64 1, .int .i64 (t.v p)]) := h222q.out.later hb
  clear h217q h218q h219q h220q h221q h222q
  clear hb
  clear d0 d5 d6 WO
  go_wp2_with (first
    | (refine wpList_store_mid rfl 92 _ _ rfl n _ (without t p).all.toArray rfl rfl (h225q.out.thereOf (without t p)) (HZ.out (without t p)) ((without t p).all_all) ?_
       have h230q : Hid (Gd n w (u223q.setCells n 0 (without t p).all)) := h224q.out.asideAll (by omega) (without t p)
       have h231q : Hid (TAt (u223q.setCells n 0 (without t p).all) n (without t p)) := h225q.out.setAll (without t p)
       have h232q : Hid (Bo (u223q.setCells n 0 (without t p).all) (n + 1) [.int .i64 2, .int .i64 k, .int .i64 x]) := h226q.out.asideAll (by omega) (without t p)
       have h233q : Hid (TAt (u223q.setCells n 0 (without t p).all) (n + 2) Tb.zero) := h227q.out.asideAll (by omega) (without t p)
       have h234q : Hid (Bo (u223q.setCells n 0 (without t p).all) (n + 3) [.int .i64 0, .int .i64 0]) := h228q.out.asideAll (by omega) (without t p)
       have h235q : Hid (Bo (u223q.setCells n 0 (without t p).all) u211q.heap.size [.int .i64 1, .int .i64 (t.v p)]) := h229q.out.asideAll (by omega) (without t p)
       clear h224q h225q h226q h227q h228q h229q
       generalize (u223q.setCells n 0 (without t p).all) = u236q at h230q h231q h232q h233q h234q h235q  ⊢))
  have h237q : Hid (Gd n w u236q.drew) := h230q.out.drew
  have h238q : Hid (TAt u236q.drew n (without t p)) := h231q.out.drew
  have h239q : Hid (Bo u236q.drew (n + 1) [.int .i64 2, .int .i64 k, .int .i64 x]) := h232q.out.drew
  have h240q : Hid (TAt u236q.drew (n + 2) Tb.zero) := h233q.out.drew
  have h241q : Hid (Bo u236q.drew (n + 3) [.int .i64 0, .int .i64 0]) := h234q.out.drew
  have h242q : Hid (Bo u236q.drew u211q.heap.size [.int .i64 1, .int .i64 (t.v p)]) := h235q.out.drew
  clear h230q h231q h232q h233q h234q h235q
  refine wp_region_held_drew (S := fun w' => TAt w' n (without t p) ∧ Bo w' u211q.heap.size [.int .i64 1, .int .i64 (t.v p)]) (by kernel_rfl) ⟨h238q.out, h242q.out⟩ (fun hH => ?_)
  generalize u236q.drew = u243q at h237q h238q h239q h240q h241q h242q hH ⊢
  refine wpAnyH_take (i := 0) (oi := { dst := some 72, op := .load _ (.tmp 2), type := _, pos := _, after := _, guard := _ }) (v := _) rfl (by kernel_rfl) (by kernel_rfl) (by kernel_rfl) (fun _ _ _ h => h) (yieldsIf_load_mid (by rfl) _ _ rfl n _ rfl (without t p).all _ (fun _ h => (h.1).range) HD.out rfl (HS.out (without t p))) hH ?_
  simp only [Act.put, List.setIfInBounds_toArray, List.set_cons_zero, List.set_cons_succ]
  refine wpAnyH_take (i := 1) (oi := { dst := some 73, op := .load _ (.tmp 8), type := _, pos := _, after := _, guard := _ }) (v := ?_) rfl (by kernel_rfl) (by kernel_rfl) (by kernel_rfl) (fun _ _ _ h => h) (Or.inl ⟨by rfl, ?_⟩) hH ?_
  rotate_left
  · intro w hSw
    have c244q := (hSw.2).at 0 rfl
    have c245q := (hSw.2).at 1 rfl
    clear hSw
    go_simp
    try with_reducible rfl
  simp only [Act.put, List.setIfInBounds_toArray, List.set_cons_zero, List.set_cons_succ]
  refine wpAnyH_ready (rs := [2]) (by kernel_rfl) (by simp) ?_
  refine AllReadyH.cons (o := { dst := none, op := .store _ (.tmp 4) (.tmp 72), type := _, pos := _, after := _, guard := _ }) rfl (fun K hK => ?_) AllReadyH.nil
  rw [if_pos (by rfl)]
  refine wp_store_mid _ _ _ rfl (n + 2) _ (without t p).all.toArray rfl rfl (h240q.out.thereOf (without t p)) (HZ.out (without t p)) ((without t p).all_all) ?_
  simp only [Act.put]
  have h246q : Hid (Gd n w (u243q.setCells (n + 2) 0 (without t p).all)) := h237q.out.asideAll (by omega) (without t p)
  have h247q : Hid (TAt (u243q.setCells (n + 2) 0 (without t p).all) n (without t p)) := h238q.out.asideAll (by omega) (without t p)
  have h248q : Hid (Bo (u243q.setCells (n + 2) 0 (without t p).all) (n + 1) [.int .i64 2, .int .i64 k, .int .i64 x]) := h239q.out.asideAll (by omega) (without t p)
  have h249q : Hid (TAt (u243q.setCells (n + 2) 0 (without t p).all) (n + 2) (without t p)) := h240q.out.setAll (without t p)
  have h250q : Hid (Bo (u243q.setCells (n + 2) 0 (without t p).all) (n + 3) [.int .i64 0, .int .i64 0]) := h241q.out.asideAll (by omega) (without t p)
  have h251q : Hid (Bo (u243q.setCells (n + 2) 0 (without t p).all) u211q.heap.size [.int .i64 1, .int .i64 (t.v p)]) := h242q.out.asideAll (by omega) (without t p)
  clear h237q h238q h239q h240q h241q h242q
  refine hK.out _ _ ⟨h247q.out, h251q.out⟩ (fun hH => ?_)
  clear hK K
  generalize (u243q.setCells (n + 2) 0 (without t p).all) = u252q at h246q h247q h248q h249q h250q h251q hH ⊢
  try simp only [Act.put, List.setIfInBounds_toArray, List.set_cons_zero, List.set_cons_succ]
  refine wpAnyH_ready (rs := [3]) (by kernel_rfl) (by simp) ?_
  refine AllReadyH.cons (o := { dst := none, op := .store _ (.tmp 5) (.tmp 73), type := _, pos := _, after := _, guard := _ }) rfl (fun K hK => ?_) AllReadyH.nil
  rw [if_pos (by rfl)]
  refine wp_store_mid _ _ _ rfl (n + 3) _ #[.int .i64 (1), .int .i64 (t.v p)] rfl rfl h250q.out.there2 HA.out (two_one _ _) ?_
  simp only [Act.put]
  have h253q : Hid (Gd n w (u252q.setCells (n + 3) 0 [.int .i64 (1), .int .i64 (t.v p)])) := h246q.out.asideL (by omega) 0 [.int .i64 (1), .int .i64 (t.v p)]
  have h254q : Hid (TAt (u252q.setCells (n + 3) 0 [.int .i64 (1), .int .i64 (t.v p)]) n (without t p)) := h247q.out.asideL (by omega) 0 [.int .i64 (1), .int .i64 (t.v p)]
  have h255q : Hid (Bo (u252q.setCells (n + 3) 0 [.int .i64 (1), .int .i64 (t.v p)]) (n + 1) [.int .i64 2, .int .i64 k, .int .i64 x]) := h248q.out.asideL (by omega) 0 [.int .i64 (1), .int .i64 (t.v p)]
  have h256q : Hid (TAt (u252q.setCells (n + 3) 0 [.int .i64 (1), .int .i64 (t.v p)]) (n + 2) (without t p)) := h249q.out.asideL (by omega) 0 [.int .i64 (1), .int .i64 (t.v p)]
  have h257q : Hid (Bo (u252q.setCells (n + 3) 0 [.int .i64 (1), .int .i64 (t.v p)]) (n + 3) [.int .i64 (1), .int .i64 (t.v p)]) := h250q.out.set2 (.int .i64 (1)) (.int .i64 (t.v p))
  have h258q : Hid (Bo (u252q.setCells (n + 3) 0 [.int .i64 (1), .int .i64 (t.v p)]) u211q.heap.size [.int .i64 1, .int .i64 (t.v p)]) := h251q.out.asideL (by omega) 0 [.int .i64 (1), .int .i64 (t.v p)]
  clear h246q h247q h248q h249q h250q h251q
  refine hK.out _ _ ⟨h254q.out, h258q.out⟩ (fun hH => ?_)
  clear hK K
  generalize (u252q.setCells (n + 3) 0 [.int .i64 (1), .int .i64 (t.v p)]) = u259q at h253q h254q h255q h256q h257q h258q hH ⊢
  try simp only [Act.put, List.setIfInBounds_toArray, List.set_cons_zero, List.set_cons_succ]
  refine wpAnyH_done (by kernel_rfl) ?_ _
  go_wp2
  exact bodyPost_ret (results_row2 Tryd.results58 _ _ (n + 2) (n + 3) (without t p).all [.int .i64 (1), .int .i64 (t.v p)] _ _ rfl rfl h256q.out.range HD.out rfl (HS.out (without t p)) h257q.out.range HDA.out rfl HA.out) rfl ⟨rfl, h253q.out.2⟩

theorem tDo_eq (t : Tb) (o k x : Int) (w : World) : Calls Tryd.prog 58 #[.agg t.all.toArray, .agg #[.int .i64 o, .int .i64 k, .int .i64 x]] w (Told w (tdo t o k x)) := by
  by_cases h6 : o = 6
  · subst h6
    exact tDo_count t k x w
  by_cases hb : byKey o k
  · obtain ⟨ho, h1, h2⟩ := hb
    by_cases hh : t.k (place t k) = k
    · rcases ho with rfl | rfl | rfl
      · rw [tdo_put x h1 h2 (Or.inl hh)]; exact tDo_put_has t k x hh h1 h2 w
      · rw [tdo_take x h1 h2 hh]; exact tDo_take t k x hh h1 h2 w
      · rw [tdo_peek x h1 h2, look, if_pos hh]; exact tDo_peek t k x hh h1 h2 w
    · rcases ho with rfl | ho
      · by_cases hl : 6 ≤ len t
        · rw [tdo_full x h1 h2 hh hl]; exact tDo_full t k x hh hl h1 h2 w
        · rw [tdo_put x h1 h2 (Or.inr (by omega))]; exact tDo_put_new t k x hh (by omega) h1 h2 w
      · rw [tdo_absent x ho h1 h2 hh]; exact tDo_absent t o k x ho hh h1 h2 w
  · rw [tdo_wrong t x h6 hb]; exact tDo_wrong t o k x h6 hb w
end Go.Proofs.YtbmgjpdfmgcigabDoor.Tab
