/- Package object: withTable, by its contract. -/
import Derived.Test.YtbmgjpdfmgcigabDoorObD
import Derived.Test.YtbmgjpdfmgcigabDoorObE
import Derived.Test.YtbmgjpdfmgcigabDoorPk
import Derived.Deep.DeepCutAuto
import Derived.Deep.RegionHeld3
namespace Go.Proofs.YtbmgjpdfmgcigabDoor.Tab
set_option maxRecDepth 20000
open Go.RowKit
set_option linter.unusedVariables false

set_option maxHeartbeats 4000000 in
theorem withTable_is {c : Nat → Nat} {u : Tb} {o k x cc y : Int} (hc : ∀ j, j < 16 → c j ≤ 4294967295) (hu : tdo (tbl c) o k x = (u, cc, y)) (hk : ∀ i, i < 8 → 0 ≤ u.k i ∧ u.k i ≤ 4294967295) (hv : ∀ i, i < 8 → 0 ≤ u.v i ∧ u.v i ≤ 4294967295) (w : World) :
    Calls Tryd.prog 40 #[.agg (wl c).toArray, .agg #[.int .i64 o, .int .i64 k, .int .i64 x]] w (fun e w' => e = .returned (.tuple #[.agg (wl (tw u)).toArray, .agg #[.int .i64 cc, .int .i64 y]]) ∧ Below w.heap.size w w') := by
  have HA : Hid ((Tryd.prog.info? 38).map (·.size) = some 2) := answer_sz
  obtain ⟨fs, ha⟩ := answer_st
  have HDA : Hid _ := ha
  clear ha
  obtain ⟨nb, eb, hd⟩ := cells_array
  have HC : Hid _ := hd
  clear hd
  have HCS : Hid _ := cells_size
  have HCZ : Hid _ := cells_size2
  obtain ⟨na, ea, hd⟩ := slots_array
  have HD : Hid _ := hd
  clear hd
  have HS : Hid (∀ t : Tb, (Tryd.prog.info? 92).map (·.size) = some t.all.length) := slots_size
  have HZ : Hid (∀ t : Tb, (Tryd.prog.info? 92).map (·.size) = some t.all.toArray.size) := slots_size2
  have g0 : Hid (Gd w.heap.size w w) := Gd.refl w
  have S : Hid (∀ w : World, _) := fun w => slots_is c hc w
  have D : Hid (∀ w : World, Calls Tryd.prog 58 #[.agg (tbl c).all.toArray, .agg #[.int .i64 o, .int .i64 k, .int .i64 x]] w fun e w' => e = .returned (.tuple #[.agg u.all.toArray, .agg #[.int .i64 cc, .int .i64 y]]) ∧ Below w.heap.size w w') := fun w => by have := tDo_eq (tbl c) o k x w; rw [hu] at this; exact this
  have TW : Hid (∀ w : World, _) := fun w => tableWords_is u hk hv w
  generalize tbl c = t0 at *
  clear hc hu hk hv
  have h1q : Hid (Gd w.heap.size w (w.alloc (.cells (wl c).toArray 24))) := g0.out.new (.cells (wl c).toArray 24)
  clear g0
  have h2q : Hid (Bo (w.alloc (.cells (wl c).toArray 24)) w.heap.size (wl c)) := Bo.born w (wl c) 24 (by simp)
  have h3q : Hid (Gd w.heap.size w ((w.alloc (.cells (wl c).toArray 24)).alloc (.cells #[.int .i64 o, .int .i64 k, .int .i64 x] 26))) := h1q.out.new (.cells #[.int .i64 o, .int .i64 k, .int .i64 x] 26)
  have h4q : Hid (Bo ((w.alloc (.cells (wl c).toArray 24)).alloc (.cells #[.int .i64 o, .int .i64 k, .int .i64 x] 26)) w.heap.size (wl c)) := h2q.out.new (.cells #[.int .i64 o, .int .i64 k, .int .i64 x] 26)
  clear h1q h2q
  have h5q : Hid (Bo ((w.alloc (.cells (wl c).toArray 24)).alloc (.cells #[.int .i64 o, .int .i64 k, .int .i64 x] 26)) (w.heap.size + 1) [.int .i64 o, .int .i64 k, .int .i64 x]) := Bo.born (w.alloc (.cells (wl c).toArray 24)) [.int .i64 o, .int .i64 k, .int .i64 x] 26 (by simp)
  have h6q : Hid (Gd w.heap.size w (((w.alloc (.cells (wl c).toArray 24)).alloc (.cells #[.int .i64 o, .int .i64 k, .int .i64 x] 26)).alloc (.cells #[.int .u64 0, .int .u64 0, .int .u64 0, .int .u64 0, .int .u64 0, .int .u64 0, .int .u64 0, .int .u64 0, .int .u64 0, .int .u64 0, .int .u64 0, .int .u64 0, .int .u64 0, .int .u64 0, .int .u64 0, .int .u64 0, .int .u64 0] 24))) := h3q.out.new (.cells #[.int .u64 0, .int .u64 0, .int .u64 0, .int .u64 0, .int .u64 0, .int .u64 0, .int .u64 0, .int .u64 0, .int .u64 0, .int .u64 0, .int .u64 0, .int .u64 0, .int .u64 0, .int .u64 0, .int .u64 0, .int .u64 0, .int .u64 0] 24)
  have h7q : Hid (Bo (((w.alloc (.cells (wl c).toArray 24)).alloc (.cells #[.int .i64 o, .int .i64 k, .int .i64 x] 26)).alloc (.cells #[.int .u64 0, .int .u64 0, .int .u64 0, .int .u64 0, .int .u64 0, .int .u64 0, .int .u64 0, .int .u64 0, .int .u64 0, .int .u64 0, .int .u64 0, .int .u64 0, .int .u64 0, .int .u64 0, .int .u64 0, .int .u64 0, .int .u64 0] 24)) w.heap.size (wl c)) := h4q.out.new (.cells #[.int .u64 0, .int .u64 0, .int .u64 0, .int .u64 0, .int .u64 0, .int .u64 0, .int .u64 0, .int .u64 0, .int .u64 0, .int .u64 0, .int .u64 0, .int .u64 0, .int .u64 0, .int .u64 0, .int .u64 0, .int .u64 0, .int .u64 0] 24)
  have h8q : Hid (Bo (((w.alloc (.cells (wl c).toArray 24)).alloc (.cells #[.int .i64 o, .int .i64 k, .int .i64 x] 26)).alloc (.cells #[.int .u64 0, .int .u64 0, .int .u64 0, .int .u64 0, .int .u64 0, .int .u64 0, .int .u64 0, .int .u64 0, .int .u64 0, .int .u64 0, .int .u64 0, .int .u64 0, .int .u64 0, .int .u64 0, .int .u64 0, .int .u64 0, .int .u64 0] 24)) (w.heap.size + 1) [.int .i64 o, .int .i64 k, .int .i64 x]) := h5q.out.new (.cells #[.int .u64 0, .int .u64 0, .int .u64 0, .int .u64 0, .int .u64 0, .int .u64 0, .int .u64 0, .int .u64 0, .int .u64 0, .int .u64 0, .int .u64 0, .int .u64 0, .int .u64 0, .int .u64 0, .int .u64 0, .int .u64 0, .int .u64 0] 24)
  clear h3q h4q h5q
  have h9q : Hid (Bo (((w.alloc (.cells (wl c).toArray 24)).alloc (.cells #[.int .i64 o, .int .i64 k, .int .i64 x] 26)).alloc (.cells #[.int .u64 0, .int .u64 0, .int .u64 0, .int .u64 0, .int .u64 0, .int .u64 0, .int .u64 0, .int .u64 0, .int .u64 0, .int .u64 0, .int .u64 0, .int .u64 0, .int .u64 0, .int .u64 0, .int .u64 0, .int .u64 0, .int .u64 0] 24)) (w.heap.size + 2) (wl wz)) := Bo.born ((w.alloc (.cells (wl c).toArray 24)).alloc (.cells #[.int .i64 o, .int .i64 k, .int .i64 x] 26)) (wl wz) 24 (by simp)
  have h10q : Hid (Gd w.heap.size w ((((w.alloc (.cells (wl c).toArray 24)).alloc (.cells #[.int .i64 o, .int .i64 k, .int .i64 x] 26)).alloc (.cells #[.int .u64 0, .int .u64 0, .int .u64 0, .int .u64 0, .int .u64 0, .int .u64 0, .int .u64 0, .int .u64 0, .int .u64 0, .int .u64 0, .int .u64 0, .int .u64 0, .int .u64 0, .int .u64 0, .int .u64 0, .int .u64 0, .int .u64 0] 24)).alloc (.cells #[.int .i64 0, .int .i64 0] 38))) := h6q.out.new (.cells #[.int .i64 0, .int .i64 0] 38)
  have h11q : Hid (Bo ((((w.alloc (.cells (wl c).toArray 24)).alloc (.cells #[.int .i64 o, .int .i64 k, .int .i64 x] 26)).alloc (.cells #[.int .u64 0, .int .u64 0, .int .u64 0, .int .u64 0, .int .u64 0, .int .u64 0, .int .u64 0, .int .u64 0, .int .u64 0, .int .u64 0, .int .u64 0, .int .u64 0, .int .u64 0, .int .u64 0, .int .u64 0, .int .u64 0, .int .u64 0] 24)).alloc (.cells #[.int .i64 0, .int .i64 0] 38)) w.heap.size (wl c)) := h7q.out.new (.cells #[.int .i64 0, .int .i64 0] 38)
  have h12q : Hid (Bo ((((w.alloc (.cells (wl c).toArray 24)).alloc (.cells #[.int .i64 o, .int .i64 k, .int .i64 x] 26)).alloc (.cells #[.int .u64 0, .int .u64 0, .int .u64 0, .int .u64 0, .int .u64 0, .int .u64 0, .int .u64 0, .int .u64 0, .int .u64 0, .int .u64 0, .int .u64 0, .int .u64 0, .int .u64 0, .int .u64 0, .int .u64 0, .int .u64 0, .int .u64 0] 24)).alloc (.cells #[.int .i64 0, .int .i64 0] 38)) (w.heap.size + 1) [.int .i64 o, .int .i64 k, .int .i64 x]) := h8q.out.new (.cells #[.int .i64 0, .int .i64 0] 38)
  have h13q : Hid (Bo ((((w.alloc (.cells (wl c).toArray 24)).alloc (.cells #[.int .i64 o, .int .i64 k, .int .i64 x] 26)).alloc (.cells #[.int .u64 0, .int .u64 0, .int .u64 0, .int .u64 0, .int .u64 0, .int .u64 0, .int .u64 0, .int .u64 0, .int .u64 0, .int .u64 0, .int .u64 0, .int .u64 0, .int .u64 0, .int .u64 0, .int .u64 0, .int .u64 0, .int .u64 0] 24)).alloc (.cells #[.int .i64 0, .int .i64 0] 38)) (w.heap.size + 2) (wl wz)) := h9q.out.new (.cells #[.int .i64 0, .int .i64 0] 38)
  clear h6q h7q h8q h9q
  have h14q : Hid (Bo ((((w.alloc (.cells (wl c).toArray 24)).alloc (.cells #[.int .i64 o, .int .i64 k, .int .i64 x] 26)).alloc (.cells #[.int .u64 0, .int .u64 0, .int .u64 0, .int .u64 0, .int .u64 0, .int .u64 0, .int .u64 0, .int .u64 0, .int .u64 0, .int .u64 0, .int .u64 0, .int .u64 0, .int .u64 0, .int .u64 0, .int .u64 0, .int .u64 0, .int .u64 0] 24)).alloc (.cells #[.int .i64 0, .int .i64 0] 38)) (w.heap.size + 3) [.int .i64 0, .int .i64 0]) := Bo.born (((w.alloc (.cells (wl c).toArray 24)).alloc (.cells #[.int .i64 o, .int .i64 k, .int .i64 x] 26)).alloc (.cells #[.int .u64 0, .int .u64 0, .int .u64 0, .int .u64 0, .int .u64 0, .int .u64 0, .int .u64 0, .int .u64 0, .int .u64 0, .int .u64 0, .int .u64 0, .int .u64 0, .int .u64 0, .int .u64 0, .int .u64 0, .int .u64 0, .int .u64 0] 24)) [.int .i64 0, .int .i64 0] 38 (by simp)
  go_enter Tryd.func40, Tryd.ntmps40
  go_wp2_with fail
  generalize ((((w.alloc (.cells (wl c).toArray 24)).alloc (.cells #[.int .i64 o, .int .i64 k, .int .i64 x] 26)).alloc (.cells #[.int .u64 0, .int .u64 0, .int .u64 0, .int .u64 0, .int .u64 0, .int .u64 0, .int .u64 0, .int .u64 0, .int .u64 0, .int .u64 0, .int .u64 0, .int .u64 0, .int .u64 0, .int .u64 0, .int .u64 0, .int .u64 0, .int .u64 0] 24)).alloc (.cells #[.int .i64 0, .int .i64 0] 38)) = W at h10q h11q h12q h13q h14q ⊢
  generalize hsz : w.heap.size = n at h10q h11q h12q h13q h14q  ⊢
  have HSZ : Hid (w.heap.size = n) := hsz
  clear hsz
  go_cut [6, 7] (fun s6 s7 wx => ∃ b_t b_b : Nat, s6 = .pointer (some ⟨b_t, 0, none⟩) ∧ s7 = .pointer (some ⟨b_b, 0, none⟩) ∧ Hid (Gd n w wx) ∧ Hid (Bo wx (n + 2) (wl wz)) ∧ Hid (Bo wx (n + 3) [.int .i64 0, .int .i64 0]) ∧ Hid (TAt wx b_t u) ∧ Hid (Bo wx b_b [.int .i64 (cc), .int .i64 (y)]) ∧ (n + 3 < b_t ∧ n + 3 < b_b ∧ b_t ≠ b_b))
  case first =>
    have h15q : Hid (Gd n w W.drew) := h10q.out.drew
    have h16q : Hid (Bo W.drew n (wl c)) := h11q.out.drew
    have h17q : Hid (Bo W.drew (n + 1) [.int .i64 o, .int .i64 k, .int .i64 x]) := h12q.out.drew
    have h18q : Hid (Bo W.drew (n + 2) (wl wz)) := h13q.out.drew
    have h19q : Hid (Bo W.drew (n + 3) [.int .i64 0, .int .i64 0]) := h14q.out.drew
    clear h10q h11q h12q h13q h14q
    refine wp_region_held_drew (S := fun w' => Bo w' n (wl c) ∧ Bo w' (n + 1) [.int .i64 o, .int .i64 k, .int .i64 x]) (by kernel_rfl) ⟨h16q.out, h17q.out⟩ (fun hH => ?_)
    generalize W.drew = u20q at h15q h16q h17q h18q h19q hH ⊢
    refine wpAnyH_take (i := 0) (oi := { dst := some 9, op := .load _ (.tmp 2), type := _, pos := _, after := _, guard := _ }) (v := _) rfl (by kernel_rfl) (by kernel_rfl) (by kernel_rfl) (fun _ _ _ h => h) (yieldsIf_load_mid (by rfl) _ _ rfl n _ rfl (wl c) _ (fun _ h => (h.1).range) HC.out rfl (HCS.out c)) hH ?_
    simp only [Act.put, List.setIfInBounds_toArray, List.set_cons_zero, List.set_cons_succ]
    refine wpAnyH_take (i := 2) (oi := { dst := some 11, op := .load _ (.tmp 3), type := _, pos := _, after := _, guard := _ }) (v := ?_) rfl (by kernel_rfl) (by kernel_rfl) (by kernel_rfl) (fun _ _ _ h => h) (Or.inl ⟨by rfl, ?_⟩) hH ?_
    rotate_left
    · intro w hSw
      have c21q := (hSw.2).at 0 rfl
      have c22q := (hSw.2).at 1 rfl
      have c23q := (hSw.2).at 2 rfl
      clear hSw
      go_simp
      try with_reducible rfl
    simp only [Act.put, List.setIfInBounds_toArray, List.set_cons_zero, List.set_cons_succ]
    refine wpAnyH_ready (rs := [1, 7, 8]) (by kernel_rfl) (by simp) ?_
    refine AllReadyH.cons (o := { dst := some 10, op := _, type := _, pos := _, after := _, guard := _ }) rfl (fun K hK => ?_) ?_
    · go_simp
      refine (S.out _).mono ?_
      rintro e u24q ⟨rfl, hb⟩
      have h25q : Hid (Gd n w u24q) := h15q.out.later hb
      have h26q : Hid (Bo u24q n (wl c)) := h16q.out.later hb
      have h27q : Hid (Bo u24q (n + 1) [.int .i64 o, .int .i64 k, .int .i64 x]) := h17q.out.later hb
      have h28q : Hid (Bo u24q (n + 2) (wl wz)) := h18q.out.later hb
      have h29q : Hid (Bo u24q (n + 3) [.int .i64 0, .int .i64 0]) := h19q.out.later hb
      clear h15q h16q h17q h18q h19q
      clear hb
      go_wp2_with fail
      refine hK.out _ _ ⟨h26q.out, h27q.out⟩ (fun hH => ?_)
      clear hK K
      try simp only [Act.put, List.setIfInBounds_toArray, List.set_cons_zero, List.set_cons_succ]
      refine wpAnyH_ready (rs := [3, 7, 8]) (by kernel_rfl) (by simp) ?_
      refine AllReadyH.cons (o := { dst := some 12, op := _, type := _, pos := _, after := _, guard := _ }) rfl (fun K hK => ?_) ?_
      · go_simp
        refine (D.out _).mono ?_
        rintro e u30q ⟨rfl, hb⟩
        have h31q : Hid (Gd n w u30q) := h25q.out.later hb
        have h32q : Hid (Bo u30q n (wl c)) := h26q.out.later hb
        have h33q : Hid (Bo u30q (n + 1) [.int .i64 o, .int .i64 k, .int .i64 x]) := h27q.out.later hb
        have h34q : Hid (Bo u30q (n + 2) (wl wz)) := h28q.out.later hb
        have h35q : Hid (Bo u30q (n + 3) [.int .i64 0, .int .i64 0]) := h29q.out.later hb
        clear h25q h26q h27q h28q h29q
        clear hb
        go_wp2_with fail
        refine hK.out _ _ ⟨h32q.out, h33q.out⟩ (fun hH => ?_)
        clear hK K
        try simp only [Act.put, List.setIfInBounds_toArray, List.set_cons_zero, List.set_cons_succ]
        refine wpAnyH_take (i := 4) (oi := { dst := some 8, op := .move (.tmp 12), type := _, pos := _, after := _, guard := _ }) (v := ?_) rfl (by kernel_rfl) (by kernel_rfl) (by kernel_rfl) (fun _ _ _ h => h) (Or.inl ⟨by rfl, ?_⟩) hH ?_
        rotate_left
        · intro w hSw
          clear hSw
          go_simp
          try with_reducible rfl
        simp only [Act.put, List.setIfInBounds_toArray, List.set_cons_zero, List.set_cons_succ]
        refine wpAnyH_take (i := 5) (oi := { dst := some 13, op := .extract (.tmp 8) 0, type := _, pos := _, after := _, guard := _ }) (v := ?_) rfl (by kernel_rfl) (by kernel_rfl) (by kernel_rfl) (fun _ _ _ h => h) (Or.inl ⟨by rfl, ?_⟩) hH ?_
        rotate_left
        · intro w hSw
          clear hSw
          go_simp
          try with_reducible rfl
        simp only [Act.put, List.setIfInBounds_toArray, List.set_cons_zero, List.set_cons_succ]
        refine wpAnyH_take (i := 6) (oi := { dst := some 14, op := .extract (.tmp 8) 1, type := _, pos := _, after := _, guard := _ }) (v := ?_) rfl (by kernel_rfl) (by kernel_rfl) (by kernel_rfl) (fun _ _ _ h => h) (Or.inl ⟨by rfl, ?_⟩) hH ?_
        rotate_left
        · intro w hSw
          clear hSw
          go_simp
          try with_reducible rfl
        simp only [Act.put, List.setIfInBounds_toArray, List.set_cons_zero, List.set_cons_succ]
        refine wpAnyH_ready (rs := [7, 8]) (by kernel_rfl) (by simp) ?_
        refine AllReadyH.cons (o := { dst := some 6, op := .alloc _, type := _, pos := _, after := _, guard := _ }) rfl (fun K hK => ?_) ?_
        · have l36q : n ≤ u30q.heap.size := h31q.out.le
          have l37q : n < u30q.heap.size := h32q.out.lt
          have l38q : (n + 1) < u30q.heap.size := h33q.out.lt
          have l39q : (n + 2) < u30q.heap.size := h34q.out.lt
          have l40q : (n + 3) < u30q.heap.size := h35q.out.lt
          go_simp
          have h41q : Hid (Gd n w (u30q.alloc (.cells #[.int .i64 0, .int .i64 0, .int .i64 0, .int .i64 0, .int .i64 0, .int .i64 0, .int .i64 0, .int .i64 0, .int .i64 0, .int .i64 0, .int .i64 0, .int .i64 0, .int .i64 0, .int .i64 0, .int .i64 0, .int .i64 0] 92))) := h31q.out.new (.cells #[.int .i64 0, .int .i64 0, .int .i64 0, .int .i64 0, .int .i64 0, .int .i64 0, .int .i64 0, .int .i64 0, .int .i64 0, .int .i64 0, .int .i64 0, .int .i64 0, .int .i64 0, .int .i64 0, .int .i64 0, .int .i64 0] 92)
          have h42q : Hid (Bo (u30q.alloc (.cells #[.int .i64 0, .int .i64 0, .int .i64 0, .int .i64 0, .int .i64 0, .int .i64 0, .int .i64 0, .int .i64 0, .int .i64 0, .int .i64 0, .int .i64 0, .int .i64 0, .int .i64 0, .int .i64 0, .int .i64 0, .int .i64 0] 92)) n (wl c)) := h32q.out.new (.cells #[.int .i64 0, .int .i64 0, .int .i64 0, .int .i64 0, .int .i64 0, .int .i64 0, .int .i64 0, .int .i64 0, .int .i64 0, .int .i64 0, .int .i64 0, .int .i64 0, .int .i64 0, .int .i64 0, .int .i64 0, .int .i64 0] 92)
          have h43q : Hid (Bo (u30q.alloc (.cells #[.int .i64 0, .int .i64 0, .int .i64 0, .int .i64 0, .int .i64 0, .int .i64 0, .int .i64 0, .int .i64 0, .int .i64 0, .int .i64 0, .int .i64 0, .int .i64 0, .int .i64 0, .int .i64 0, .int .i64 0, .int .i64 0] 92)) (n + 1) [.int .i64 o, .int .i64 k, .int .i64 x]) := h33q.out.new (.cells #[.int .i64 0, .int .i64 0, .int .i64 0, .int .i64 0, .int .i64 0, .int .i64 0, .int .i64 0, .int .i64 0, .int .i64 0, .int .i64 0, .int .i64 0, .int .i64 0, .int .i64 0, .int .i64 0, .int .i64 0, .int .i64 0] 92)
          have h44q : Hid (Bo (u30q.alloc (.cells #[.int .i64 0, .int .i64 0, .int .i64 0, .int .i64 0, .int .i64 0, .int .i64 0, .int .i64 0, .int .i64 0, .int .i64 0, .int .i64 0, .int .i64 0, .int .i64 0, .int .i64 0, .int .i64 0, .int .i64 0, .int .i64 0] 92)) (n + 2) (wl wz)) := h34q.out.new (.cells #[.int .i64 0, .int .i64 0, .int .i64 0, .int .i64 0, .int .i64 0, .int .i64 0, .int .i64 0, .int .i64 0, .int .i64 0, .int .i64 0, .int .i64 0, .int .i64 0, .int .i64 0, .int .i64 0, .int .i64 0, .int .i64 0] 92)
          have h45q : Hid (Bo (u30q.alloc (.cells #[.int .i64 0, .int .i64 0, .int .i64 0, .int .i64 0, .int .i64 0, .int .i64 0, .int .i64 0, .int .i64 0, .int .i64 0, .int .i64 0, .int .i64 0, .int .i64 0, .int .i64 0, .int .i64 0, .int .i64 0, .int .i64 0] 92)) (n + 3) [.int .i64 0, .int .i64 0]) := h35q.out.new (.cells #[.int .i64 0, .int .i64 0, .int .i64 0, .int .i64 0, .int .i64 0, .int .i64 0, .int .i64 0, .int .i64 0, .int .i64 0, .int .i64 0, .int .i64 0, .int .i64 0, .int .i64 0, .int .i64 0, .int .i64 0, .int .i64 0] 92)
          clear h31q h32q h33q h34q h35q
          have h46q : Hid (TAt (u30q.alloc (.cells #[.int .i64 0, .int .i64 0, .int .i64 0, .int .i64 0, .int .i64 0, .int .i64 0, .int .i64 0, .int .i64 0, .int .i64 0, .int .i64 0, .int .i64 0, .int .i64 0, .int .i64 0, .int .i64 0, .int .i64 0, .int .i64 0] 92)) u30q.heap.size Tb.zero) := TAt.bornZero u30q 92 (by simp)
          refine hK.out _ _ ⟨h42q.out, h43q.out⟩ (fun hH => ?_)
          clear hK K
          generalize (u30q.alloc (.cells #[.int .i64 0, .int .i64 0, .int .i64 0, .int .i64 0, .int .i64 0, .int .i64 0, .int .i64 0, .int .i64 0, .int .i64 0, .int .i64 0, .int .i64 0, .int .i64 0, .int .i64 0, .int .i64 0, .int .i64 0, .int .i64 0] 92)) = u47q at h41q h42q h43q h44q h45q h46q hH ⊢
          try simp only [Act.put, List.setIfInBounds_toArray, List.set_cons_zero, List.set_cons_succ]
          refine wpAnyH_ready (rs := [8]) (by kernel_rfl) (by simp) ?_
          refine AllReadyH.cons (o := { dst := some 7, op := .alloc _, type := _, pos := _, after := _, guard := _ }) rfl (fun K hK => ?_) AllReadyH.nil
          have l48q : n ≤ u47q.heap.size := h41q.out.le
          have l49q : n < u47q.heap.size := h42q.out.lt
          have l50q : (n + 1) < u47q.heap.size := h43q.out.lt
          have l51q : (n + 2) < u47q.heap.size := h44q.out.lt
          have l52q : (n + 3) < u47q.heap.size := h45q.out.lt
          have l53q : u30q.heap.size < u47q.heap.size := h46q.out.lt
          go_simp
          have h54q : Hid (Gd n w (u47q.alloc (.cells #[.int .i64 0, .int .i64 0] 38))) := h41q.out.new (.cells #[.int .i64 0, .int .i64 0] 38)
          have h55q : Hid (Bo (u47q.alloc (.cells #[.int .i64 0, .int .i64 0] 38)) n (wl c)) := h42q.out.new (.cells #[.int .i64 0, .int .i64 0] 38)
          have h56q : Hid (Bo (u47q.alloc (.cells #[.int .i64 0, .int .i64 0] 38)) (n + 1) [.int .i64 o, .int .i64 k, .int .i64 x]) := h43q.out.new (.cells #[.int .i64 0, .int .i64 0] 38)
          have h57q : Hid (Bo (u47q.alloc (.cells #[.int .i64 0, .int .i64 0] 38)) (n + 2) (wl wz)) := h44q.out.new (.cells #[.int .i64 0, .int .i64 0] 38)
          have h58q : Hid (Bo (u47q.alloc (.cells #[.int .i64 0, .int .i64 0] 38)) (n + 3) [.int .i64 0, .int .i64 0]) := h45q.out.new (.cells #[.int .i64 0, .int .i64 0] 38)
          have h59q : Hid (TAt (u47q.alloc (.cells #[.int .i64 0, .int .i64 0] 38)) u30q.heap.size Tb.zero) := h46q.out.new (.cells #[.int .i64 0, .int .i64 0] 38)
          clear h41q h42q h43q h44q h45q h46q
          have h60q : Hid (Bo (u47q.alloc (.cells #[.int .i64 0, .int .i64 0] 38)) u47q.heap.size [.int .i64 0, .int .i64 0]) := Bo.born u47q [.int .i64 0, .int .i64 0] 38 (by simp)
          refine hK.out _ _ ⟨h55q.out, h56q.out⟩ (fun hH => ?_)
          clear hK K
          generalize (u47q.alloc (.cells #[.int .i64 0, .int .i64 0] 38)) = u61q at h54q h55q h56q h57q h58q h59q h60q hH ⊢
          try simp only [Act.put, List.setIfInBounds_toArray, List.set_cons_zero, List.set_cons_succ]
          refine wpAnyH_ready (rs := [9]) (by kernel_rfl) (by simp) ?_
          refine AllReadyH.cons (o := { dst := none, op := .store _ (.tmp 6) (.tmp 13), type := _, pos := _, after := _, guard := _ }) rfl (fun K hK => ?_) AllReadyH.nil
          rw [if_pos (by rfl)]
          refine wp_store_mid _ _ _ rfl u30q.heap.size _ u.all.toArray rfl rfl (h59q.out.thereOf u) (HZ.out u) (u.all_all) ?_
          simp only [Act.put]
          have h62q : Hid (Gd n w (u61q.setCells u30q.heap.size 0 u.all)) := h54q.out.asideAll (by omega) u
          have h63q : Hid (Bo (u61q.setCells u30q.heap.size 0 u.all) n (wl c)) := h55q.out.asideAll (by omega) u
          have h64q : Hid (Bo (u61q.setCells u30q.heap.size 0 u.all) (n + 1) [.int .i64 o, .int .i64 k, .int .i64 x]) := h56q.out.asideAll (by omega) u
          have h65q : Hid (Bo (u61q.setCells u30q.heap.size 0 u.all) (n + 2) (wl wz)) := h57q.out.asideAll (by omega) u
          have h66q : Hid (Bo (u61q.setCells u30q.heap.size 0 u.all) (n + 3) [.int .i64 0, .int .i64 0]) := h58q.out.asideAll (by omega) u
          have h67q : Hid (TAt (u61q.setCells u30q.heap.size 0 u.all) u30q.heap.size u) := h59q.out.setAll u
          have h68q : Hid (Bo (u61q.setCells u30q.heap.size 0 u.all) u47q.heap.size [.int .i64 0, .int .i64 0]) := h60q.out.asideAll (by omega) u
          clear h54q h55q h56q h57q h58q h59q h60q
          refine hK.out _ _ ⟨h63q.out, h64q.out⟩ (fun hH => ?_)
          clear hK K
          generalize (u61q.setCells u30q.heap.size 0 u.all) = u69q at h62q h63q h64q h65q h66q h67q h68q hH ⊢
          try simp only [Act.put, List.setIfInBounds_toArray, List.set_cons_zero, List.set_cons_succ]
          refine wpAnyH_ready (rs := [10]) (by kernel_rfl) (by simp) ?_
          refine AllReadyH.cons (o := { dst := none, op := .store _ (.tmp 7) (.tmp 14), type := _, pos := _, after := _, guard := _ }) rfl (fun K hK => ?_) AllReadyH.nil
          rw [if_pos (by rfl)]
          refine wp_store_mid _ _ _ rfl u47q.heap.size _ #[.int .i64 (cc), .int .i64 (y)] rfl rfl h68q.out.there2 HA.out (two_one _ _) ?_
          simp only [Act.put]
          have h70q : Hid (Gd n w (u69q.setCells u47q.heap.size 0 [.int .i64 (cc), .int .i64 (y)])) := h62q.out.asideL (by omega) 0 [.int .i64 (cc), .int .i64 (y)]
          have h71q : Hid (Bo (u69q.setCells u47q.heap.size 0 [.int .i64 (cc), .int .i64 (y)]) n (wl c)) := h63q.out.asideL (by omega) 0 [.int .i64 (cc), .int .i64 (y)]
          have h72q : Hid (Bo (u69q.setCells u47q.heap.size 0 [.int .i64 (cc), .int .i64 (y)]) (n + 1) [.int .i64 o, .int .i64 k, .int .i64 x]) := h64q.out.asideL (by omega) 0 [.int .i64 (cc), .int .i64 (y)]
          have h73q : Hid (Bo (u69q.setCells u47q.heap.size 0 [.int .i64 (cc), .int .i64 (y)]) (n + 2) (wl wz)) := h65q.out.asideL (by omega) 0 [.int .i64 (cc), .int .i64 (y)]
          have h74q : Hid (Bo (u69q.setCells u47q.heap.size 0 [.int .i64 (cc), .int .i64 (y)]) (n + 3) [.int .i64 0, .int .i64 0]) := h66q.out.asideL (by omega) 0 [.int .i64 (cc), .int .i64 (y)]
          have h75q : Hid (TAt (u69q.setCells u47q.heap.size 0 [.int .i64 (cc), .int .i64 (y)]) u30q.heap.size u) := h67q.out.asideL (by omega) 0 [.int .i64 (cc), .int .i64 (y)]
          have h76q : Hid (Bo (u69q.setCells u47q.heap.size 0 [.int .i64 (cc), .int .i64 (y)]) u47q.heap.size [.int .i64 (cc), .int .i64 (y)]) := h68q.out.set2 (.int .i64 (cc)) (.int .i64 (y))
          clear h62q h63q h64q h65q h66q h67q h68q
          refine hK.out _ _ ⟨h71q.out, h72q.out⟩ (fun hH => ?_)
          clear hK K
          generalize (u69q.setCells u47q.heap.size 0 [.int .i64 (cc), .int .i64 (y)]) = u77q at h70q h71q h72q h73q h74q h75q h76q hH ⊢
          try simp only [Act.put, List.setIfInBounds_toArray, List.set_cons_zero, List.set_cons_succ]
          refine wpAnyH_done (by kernel_rfl) ?_ _
          go_wp2_with fail
          go_meet
          case rel => exact ⟨u30q.heap.size, u47q.heap.size, rfl, rfl, h70q, h73q, h74q, h75q, h76q, (by omega)⟩
        refine AllReadyH.cons (o := { dst := some 7, op := .alloc _, type := _, pos := _, after := _, guard := _ }) rfl (fun K hK => ?_) AllReadyH.nil
        have l78q : n ≤ u30q.heap.size := h31q.out.le
        have l79q : n < u30q.heap.size := h32q.out.lt
        have l80q : (n + 1) < u30q.heap.size := h33q.out.lt
        have l81q : (n + 2) < u30q.heap.size := h34q.out.lt
        have l82q : (n + 3) < u30q.heap.size := h35q.out.lt
        go_simp
        have h83q : Hid (Gd n w (u30q.alloc (.cells #[.int .i64 0, .int .i64 0] 38))) := h31q.out.new (.cells #[.int .i64 0, .int .i64 0] 38)
        have h84q : Hid (Bo (u30q.alloc (.cells #[.int .i64 0, .int .i64 0] 38)) n (wl c)) := h32q.out.new (.cells #[.int .i64 0, .int .i64 0] 38)
        have h85q : Hid (Bo (u30q.alloc (.cells #[.int .i64 0, .int .i64 0] 38)) (n + 1) [.int .i64 o, .int .i64 k, .int .i64 x]) := h33q.out.new (.cells #[.int .i64 0, .int .i64 0] 38)
        have h86q : Hid (Bo (u30q.alloc (.cells #[.int .i64 0, .int .i64 0] 38)) (n + 2) (wl wz)) := h34q.out.new (.cells #[.int .i64 0, .int .i64 0] 38)
        have h87q : Hid (Bo (u30q.alloc (.cells #[.int .i64 0, .int .i64 0] 38)) (n + 3) [.int .i64 0, .int .i64 0]) := h35q.out.new (.cells #[.int .i64 0, .int .i64 0] 38)
        clear h31q h32q h33q h34q h35q
        have h88q : Hid (Bo (u30q.alloc (.cells #[.int .i64 0, .int .i64 0] 38)) u30q.heap.size [.int .i64 0, .int .i64 0]) := Bo.born u30q [.int .i64 0, .int .i64 0] 38 (by simp)
        refine hK.out _ _ ⟨h84q.out, h85q.out⟩ (fun hH => ?_)
        clear hK K
        generalize (u30q.alloc (.cells #[.int .i64 0, .int .i64 0] 38)) = u89q at h83q h84q h85q h86q h87q h88q hH ⊢
        try simp only [Act.put, List.setIfInBounds_toArray, List.set_cons_zero, List.set_cons_succ]
        refine wpAnyH_ready (rs := [7]) (by kernel_rfl) (by simp) ?_
        refine AllReadyH.cons (o := { dst := some 6, op := .alloc _, type := _, pos := _, after := _, guard := _ }) rfl (fun K hK => ?_) AllReadyH.nil
        have l90q : n ≤ u89q.heap.size := h83q.out.le
        have l91q : n < u89q.heap.size := h84q.out.lt
        have l92q : (n + 1) < u89q.heap.size := h85q.out.lt
        have l93q : (n + 2) < u89q.heap.size := h86q.out.lt
        have l94q : (n + 3) < u89q.heap.size := h87q.out.lt
        have l95q : u30q.heap.size < u89q.heap.size := h88q.out.lt
        go_simp
        have h96q : Hid (Gd n w (u89q.alloc (.cells #[.int .i64 0, .int .i64 0, .int .i64 0, .int .i64 0, .int .i64 0, .int .i64 0, .int .i64 0, .int .i64 0, .int .i64 0, .int .i64 0, .int .i64 0, .int .i64 0, .int .i64 0, .int .i64 0, .int .i64 0, .int .i64 0] 92))) := h83q.out.new (.cells #[.int .i64 0, .int .i64 0, .int .i64 0, .int .i64 0, .int .i64 0, .int .i64 0, .int .i64 0, .int .i64 0, .int .i64 0, .int .i64 0, .int .i64 0, .int .i64 0, .int .i64 0, .int .i64 0, .int .i64 0, .int .i64 0] 92)
        have h97q : Hid (Bo (u89q.alloc (.cells #[.int .i64 0, .int .i64 0, .int .i64 0, .int .i64 0, .int .i64 0, .int .i64 0, .int .i64 0, .int .i64 0, .int .i64 0, .int .i64 0, .int .i64 0, .int .i64 0, .int .i64 0, .int .i64 0, .int .i64 0, .int .i64 0] 92)) n (wl c)) := h84q.out.new (.cells #[.int .i64 0, .int .i64 0, .int .i64 0, .int .i64 0, .int .i64 0, .int .i64 0, .int .i64 0, .int .i64 0, .int .i64 0, .int .i64 0, .int .i64 0, .int .i64 0, .int .i64 0, .int .i64 0, .int .i64 0, .int .i64 0] 92)
        have h98q : Hid (Bo (u89q.alloc (.cells #[.int .i64 0, .int .i64 0, .int .i64 0, .int .i64 0, .int .i64 0, .int .i64 0, .int .i64 0, .int .i64 0, .int .i64 0, .int .i64 0, .int .i64 0, .int .i64 0, .int .i64 0, .int .i64 0, .int .i64 0, .int .i64 0] 92)) (n + 1) [.int .i64 o, .int .i64 k, .int .i64 x]) := h85q.out.new (.cells #[.int .i64 0, .int .i64 0, .int .i64 0, .int .i64 0, .int .i64 0, .int .i64 0, .int .i64 0, .int .i64 0, .int .i64 0, .int .i64 0, .int .i64 0, .int .i64 0, .int .i64 0, .int .i64 0, .int .i64 0, .int .i64 0] 92)
        have h99q : Hid (Bo (u89q.alloc (.cells #[.int .i64 0, .int .i64 0, .int .i64 0, .int .i64 0, .int .i64 0, .int .i64 0, .int .i64 0, .int .i64 0, .int .i64 0, .int .i64 0, .int .i64 0, .int .i64 0, .int .i64 0, .int .i64 0, .int .i64 0, .int .i64 0] 92)) (n + 2) (wl wz)) := h86q.out.new (.cells #[.int .i64 0, .int .i64 0, .int .i64 0, .int .i64 0, .int .i64 0, .int .i64 0, .int .i64 0, .int .i64 0, .int .i64 0, .int .i64 0, .int .i64 0, .int .i64 0, .int .i64 0, .int .i64 0, .int .i64 0, .int .i64 0] 92)
        have h100q : Hid (Bo (u89q.alloc (.cells #[.int .i64 0, .int .i64 0, .int .i64 0, .int .i64 0, .int .i64 0, .int .i64 0, .int .i64 0, .int .i64 0, .int .i64 0, .int .i64 0, .int .i64 0, .int .i64 0, .int .i64 0, .int .i64 0, .int .i64 0, .int .i64 0] 92)) (n + 3) [.int .i64 0, .int .i64 0]) := h87q.out.new (.cells #[.int .i64 0, .int .i64 0, .int .i64 0, .int .i64 0, .int .i64 0, .int .i64 0, .int .i64 0, .int .i64 0, .int .i64 0, .int .i64 0, .int .i64 0, .int .i64 0, .int .i64 0, .int .i64 0, .int .i64 0, .int .i64 0] 92)
        have h101q : Hid (Bo (u89q.alloc (.cells #[.int .i64 0, .int .i64 0, .int .i64 0, .int .i64 0, .int .i64 0, .int .i64 0, .int .i64 0, .int .i64 0, .int .i64 0, .int .i64 0, .int .i64 0, .int .i64 0, .int .i64 0, .int .i64 0, .int .i64 0, .int .i64 0] 92)) u30q.heap.size [.int .i64 0, .int .i64 0]) := h88q.out.new (.cells #[.int .i64 0, .int .i64 0, .int .i64 0, .int .i64 0, .int .i64 0, .int .i64 0, .int .i64 0, .int .i64 0, .int .i64 0, .int .i64 0, .int .i64 0, .int .i64 0, .int .i64 0, .int .i64 0, .int .i64 0, .int .i64 0] 92)
        clear h83q h84q h85q h86q h87q h88q
        have h102q : Hid (TAt (u89q.alloc (.cells #[.int .i64 0, .int .i64 0, .int .i64 0, .int .i64 0, .int .i64 0, .int .i64 0, .int .i64 0, .int .i64 0, .int .i64 0, .int .i64 0, .int .i64 0, .int .i64 0, .int .i64 0, .int .i64 0, .int .i64 0, .int .i64 0] 92)) u89q.heap.size Tb.zero) := TAt.bornZero u89q 92 (by simp)
        refine hK.out _ _ ⟨h97q.out, h98q.out⟩ (fun hH => ?_)
        clear hK K
        generalize (u89q.alloc (.cells #[.int .i64 0, .int .i64 0, .int .i64 0, .int .i64 0, .int .i64 0, .int .i64 0, .int .i64 0, .int .i64 0, .int .i64 0, .int .i64 0, .int .i64 0, .int .i64 0, .int .i64 0, .int .i64 0, .int .i64 0, .int .i64 0] 92)) = u103q at h96q h97q h98q h99q h100q h101q h102q hH ⊢
        try simp only [Act.put, List.setIfInBounds_toArray, List.set_cons_zero, List.set_cons_succ]
        refine wpAnyH_ready (rs := [9]) (by kernel_rfl) (by simp) ?_
        refine AllReadyH.cons (o := { dst := none, op := .store _ (.tmp 6) (.tmp 13), type := _, pos := _, after := _, guard := _ }) rfl (fun K hK => ?_) AllReadyH.nil
        rw [if_pos (by rfl)]
        refine wp_store_mid _ _ _ rfl u89q.heap.size _ u.all.toArray rfl rfl (h102q.out.thereOf u) (HZ.out u) (u.all_all) ?_
        simp only [Act.put]
        have h104q : Hid (Gd n w (u103q.setCells u89q.heap.size 0 u.all)) := h96q.out.asideAll (by omega) u
        have h105q : Hid (Bo (u103q.setCells u89q.heap.size 0 u.all) n (wl c)) := h97q.out.asideAll (by omega) u
        have h106q : Hid (Bo (u103q.setCells u89q.heap.size 0 u.all) (n + 1) [.int .i64 o, .int .i64 k, .int .i64 x]) := h98q.out.asideAll (by omega) u
        have h107q : Hid (Bo (u103q.setCells u89q.heap.size 0 u.all) (n + 2) (wl wz)) := h99q.out.asideAll (by omega) u
        have h108q : Hid (Bo (u103q.setCells u89q.heap.size 0 u.all) (n + 3) [.int .i64 0, .int .i64 0]) := h100q.out.asideAll (by omega) u
        have h109q : Hid (Bo (u103q.setCells u89q.heap.size 0 u.all) u30q.heap.size [.int .i64 0, .int .i64 0]) := h101q.out.asideAll (by omega) u
        have h110q : Hid (TAt (u103q.setCells u89q.heap.size 0 u.all) u89q.heap.size u) := h102q.out.setAll u
        clear h96q h97q h98q h99q h100q h101q h102q
        refine hK.out _ _ ⟨h105q.out, h106q.out⟩ (fun hH => ?_)
        clear hK K
        generalize (u103q.setCells u89q.heap.size 0 u.all) = u111q at h104q h105q h106q h107q h108q h109q h110q hH ⊢
        try simp only [Act.put, List.setIfInBounds_toArray, List.set_cons_zero, List.set_cons_succ]
        refine wpAnyH_ready (rs := [10]) (by kernel_rfl) (by simp) ?_
        refine AllReadyH.cons (o := { dst := none, op := .store _ (.tmp 7) (.tmp 14), type := _, pos := _, after := _, guard := _ }) rfl (fun K hK => ?_) AllReadyH.nil
        rw [if_pos (by rfl)]
        refine wp_store_mid _ _ _ rfl u30q.heap.size _ #[.int .i64 (cc), .int .i64 (y)] rfl rfl h109q.out.there2 HA.out (two_one _ _) ?_
        simp only [Act.put]
        have h112q : Hid (Gd n w (u111q.setCells u30q.heap.size 0 [.int .i64 (cc), .int .i64 (y)])) := h104q.out.asideL (by omega) 0 [.int .i64 (cc), .int .i64 (y)]
        have h113q : Hid (Bo (u111q.setCells u30q.heap.size 0 [.int .i64 (cc), .int .i64 (y)]) n (wl c)) := h105q.out.asideL (by omega) 0 [.int .i64 (cc), .int .i64 (y)]
        have h114q : Hid (Bo (u111q.setCells u30q.heap.size 0 [.int .i64 (cc), .int .i64 (y)]) (n + 1) [.int .i64 o, .int .i64 k, .int .i64 x]) := h106q.out.asideL (by omega) 0 [.int .i64 (cc), .int .i64 (y)]
        have h115q : Hid (Bo (u111q.setCells u30q.heap.size 0 [.int .i64 (cc), .int .i64 (y)]) (n + 2) (wl wz)) := h107q.out.asideL (by omega) 0 [.int .i64 (cc), .int .i64 (y)]
        have h116q : Hid (Bo (u111q.setCells u30q.heap.size 0 [.int .i64 (cc), .int .i64 (y)]) (n + 3) [.int .i64 0, .int .i64 0]) := h108q.out.asideL (by omega) 0 [.int .i64 (cc), .int .i64 (y)]
        have h117q : Hid (Bo (u111q.setCells u30q.heap.size 0 [.int .i64 (cc), .int .i64 (y)]) u30q.heap.size [.int .i64 (cc), .int .i64 (y)]) := h109q.out.set2 (.int .i64 (cc)) (.int .i64 (y))
        have h118q : Hid (TAt (u111q.setCells u30q.heap.size 0 [.int .i64 (cc), .int .i64 (y)]) u89q.heap.size u) := h110q.out.asideL (by omega) 0 [.int .i64 (cc), .int .i64 (y)]
        clear h104q h105q h106q h107q h108q h109q h110q
        refine hK.out _ _ ⟨h113q.out, h114q.out⟩ (fun hH => ?_)
        clear hK K
        generalize (u111q.setCells u30q.heap.size 0 [.int .i64 (cc), .int .i64 (y)]) = u119q at h112q h113q h114q h115q h116q h117q h118q hH ⊢
        try simp only [Act.put, List.setIfInBounds_toArray, List.set_cons_zero, List.set_cons_succ]
        refine wpAnyH_done (by kernel_rfl) ?_ _
        go_wp2_with fail
        go_meet
        case rel => exact ⟨u89q.heap.size, u30q.heap.size, rfl, rfl, h112q, h115q, h116q, h118q, h117q, (by omega)⟩
      refine AllReadyH.cons (o := { dst := some 6, op := .alloc _, type := _, pos := _, after := _, guard := _ }) rfl (fun K hK => ?_) ?_
      · have l120q : n ≤ u24q.heap.size := h25q.out.le
        have l121q : n < u24q.heap.size := h26q.out.lt
        have l122q : (n + 1) < u24q.heap.size := h27q.out.lt
        have l123q : (n + 2) < u24q.heap.size := h28q.out.lt
        have l124q : (n + 3) < u24q.heap.size := h29q.out.lt
        go_simp
        have h125q : Hid (Gd n w (u24q.alloc (.cells #[.int .i64 0, .int .i64 0, .int .i64 0, .int .i64 0, .int .i64 0, .int .i64 0, .int .i64 0, .int .i64 0, .int .i64 0, .int .i64 0, .int .i64 0, .int .i64 0, .int .i64 0, .int .i64 0, .int .i64 0, .int .i64 0] 92))) := h25q.out.new (.cells #[.int .i64 0, .int .i64 0, .int .i64 0, .int .i64 0, .int .i64 0, .int .i64 0, .int .i64 0, .int .i64 0, .int .i64 0, .int .i64 0, .int .i64 0, .int .i64 0, .int .i64 0, .int .i64 0, .int .i64 0, .int .i64 0] 92)
        have h126q : Hid (Bo (u24q.alloc (.cells #[.int .i64 0, .int .i64 0, .int .i64 0, .int .i64 0, .int .i64 0, .int .i64 0, .int .i64 0, .int .i64 0, .int .i64 0, .int .i64 0, .int .i64 0, .int .i64 0, .int .i64 0, .int .i64 0, .int .i64 0, .int .i64 0] 92)) n (wl c)) := h26q.out.new (.cells #[.int .i64 0, .int .i64 0, .int .i64 0, .int .i64 0, .int .i64 0, .int .i64 0, .int .i64 0, .int .i64 0, .int .i64 0, .int .i64 0, .int .i64 0, .int .i64 0, .int .i64 0, .int .i64 0, .int .i64 0, .int .i64 0] 92)
        have h127q : Hid (Bo (u24q.alloc (.cells #[.int .i64 0, .int .i64 0, .int .i64 0, .int .i64 0, .int .i64 0, .int .i64 0, .int .i64 0, .int .i64 0, .int .i64 0, .int .i64 0, .int .i64 0, .int .i64 0, .int .i64 0, .int .i64 0, .int .i64 0, .int .i64 0] 92)) (n + 1) [.int .i64 o, .int .i64 k, .int .i64 x]) := h27q.out.new (.cells #[.int .i64 0, .int .i64 0, .int .i64 0, .int .i64 0, .int .i64 0, .int .i64 0, .int .i64 0, .int .i64 0, .int .i64 0, .int .i64 0, .int .i64 0, .int .i64 0, .int .i64 0, .int .i64 0, .int .i64 0, .int .i64 0] 92)
        have h128q : Hid (Bo (u24q.alloc (.cells #[.int .i64 0, .int .i64 0, .int .i64 0, .int .i64 0, .int .i64 0, .int .i64 0, .int .i64 0, .int .i64 0, .int .i64 0, .int .i64 0, .int .i64 0, .int .i64 0, .int .i64 0, .int .i64 0, .int .i64 0, .int .i64 0] 92)) (n + 2) (wl wz)) := h28q.out.new (.cells #[.int .i64 0, .int .i64 0, .int .i64 0, .int .i64 0, .int .i64 0, .int .i64 0, .int .i64 0, .int .i64 0, .int .i64 0, .int .i64 0, .int .i64 0, .int .i64 0, .int .i64 0, .int .i64 0, .int .i64 0, .int .i64 0] 92)
        have h129q : Hid (Bo (u24q.alloc (.cells #[.int .i64 0, .int .i64 0, .int .i64 0, .int .i64 0, .int .i64 0, .int .i64 0, .int .i64 0, .int .i64 0, .int .i64 0, .int .i64 0, .int .i64 0, .int .i64 0, .int .i64 0, .int .i64 0, .int .i64 0, .int .i64 0] 92)) (n + 3) [.int .i64 0, .int .i64 0]) := h29q.out.new (.cells #[.int .i64 0, .int .i64 0, .int .i64 0, .int .i64 0, .int .i64 0, .int .i64 0, .int .i64 0, .int .i64 0, .int .i64 0, .int .i64 0, .int .i64 0, .int .i64 0, .int .i64 0, .int .i64 0, .int .i64 0, .int .i64 0] 92)
        clear h25q h26q h27q h28q h29q
        have h130q : Hid (TAt (u24q.alloc (.cells #[.int .i64 0, .int .i64 0, .int .i64 0, .int .i64 0, .int .i64 0, .int .i64 0, .int .i64 0, .int .i64 0, .int .i64 0, .int .i64 0, .int .i64 0, .int .i64 0, .int .i64 0, .int .i64 0, .int .i64 0, .int .i64 0] 92)) u24q.heap.size Tb.zero) := TAt.bornZero u24q 92 (by simp)
        refine hK.out _ _ ⟨h126q.out, h127q.out⟩ (fun hH => ?_)
        clear hK K
        generalize (u24q.alloc (.cells #[.int .i64 0, .int .i64 0, .int .i64 0, .int .i64 0, .int .i64 0, .int .i64 0, .int .i64 0, .int .i64 0, .int .i64 0, .int .i64 0, .int .i64 0, .int .i64 0, .int .i64 0, .int .i64 0, .int .i64 0, .int .i64 0] 92)) = u131q at h125q h126q h127q h128q h129q h130q hH ⊢
        try simp only [Act.put, List.setIfInBounds_toArray, List.set_cons_zero, List.set_cons_succ]
        refine wpAnyH_ready (rs := [3, 8]) (by kernel_rfl) (by simp) ?_
        refine AllReadyH.cons (o := { dst := some 12, op := _, type := _, pos := _, after := _, guard := _ }) rfl (fun K hK => ?_) ?_
        · go_simp
          refine (D.out _).mono ?_
          rintro e u132q ⟨rfl, hb⟩
          have h133q : Hid (Gd n w u132q) := h125q.out.later hb
          have h134q : Hid (Bo u132q n (wl c)) := h126q.out.later hb
          have h135q : Hid (Bo u132q (n + 1) [.int .i64 o, .int .i64 k, .int .i64 x]) := h127q.out.later hb
          have h136q : Hid (Bo u132q (n + 2) (wl wz)) := h128q.out.later hb
          have h137q : Hid (Bo u132q (n + 3) [.int .i64 0, .int .i64 0]) := h129q.out.later hb
          have h138q : Hid (TAt u132q u24q.heap.size Tb.zero) := h130q.out.later hb
          clear h125q h126q h127q h128q h129q h130q
          clear hb
          go_wp2_with fail
          refine hK.out _ _ ⟨h134q.out, h135q.out⟩ (fun hH => ?_)
          clear hK K
          try simp only [Act.put, List.setIfInBounds_toArray, List.set_cons_zero, List.set_cons_succ]
          refine wpAnyH_take (i := 4) (oi := { dst := some 8, op := .move (.tmp 12), type := _, pos := _, after := _, guard := _ }) (v := ?_) rfl (by kernel_rfl) (by kernel_rfl) (by kernel_rfl) (fun _ _ _ h => h) (Or.inl ⟨by rfl, ?_⟩) hH ?_
          rotate_left
          · intro w hSw
            clear hSw
            go_simp
            try with_reducible rfl
          simp only [Act.put, List.setIfInBounds_toArray, List.set_cons_zero, List.set_cons_succ]
          refine wpAnyH_take (i := 5) (oi := { dst := some 13, op := .extract (.tmp 8) 0, type := _, pos := _, after := _, guard := _ }) (v := ?_) rfl (by kernel_rfl) (by kernel_rfl) (by kernel_rfl) (fun _ _ _ h => h) (Or.inl ⟨by rfl, ?_⟩) hH ?_
          rotate_left
          · intro w hSw
            clear hSw
            go_simp
            try with_reducible rfl
          simp only [Act.put, List.setIfInBounds_toArray, List.set_cons_zero, List.set_cons_succ]
          refine wpAnyH_take (i := 6) (oi := { dst := some 14, op := .extract (.tmp 8) 1, type := _, pos := _, after := _, guard := _ }) (v := ?_) rfl (by kernel_rfl) (by kernel_rfl) (by kernel_rfl) (fun _ _ _ h => h) (Or.inl ⟨by rfl, ?_⟩) hH ?_
          rotate_left
          · intro w hSw
            clear hSw
            go_simp
            try with_reducible rfl
          simp only [Act.put, List.setIfInBounds_toArray, List.set_cons_zero, List.set_cons_succ]
          refine wpAnyH_ready (rs := [8]) (by kernel_rfl) (by simp) ?_
          refine AllReadyH.cons (o := { dst := some 7, op := .alloc _, type := _, pos := _, after := _, guard := _ }) rfl (fun K hK => ?_) AllReadyH.nil
          have l139q : n ≤ u132q.heap.size := h133q.out.le
          have l140q : n < u132q.heap.size := h134q.out.lt
          have l141q : (n + 1) < u132q.heap.size := h135q.out.lt
          have l142q : (n + 2) < u132q.heap.size := h136q.out.lt
          have l143q : (n + 3) < u132q.heap.size := h137q.out.lt
          have l144q : u24q.heap.size < u132q.heap.size := h138q.out.lt
          go_simp
          have h145q : Hid (Gd n w (u132q.alloc (.cells #[.int .i64 0, .int .i64 0] 38))) := h133q.out.new (.cells #[.int .i64 0, .int .i64 0] 38)
          have h146q : Hid (Bo (u132q.alloc (.cells #[.int .i64 0, .int .i64 0] 38)) n (wl c)) := h134q.out.new (.cells #[.int .i64 0, .int .i64 0] 38)
          have h147q : Hid (Bo (u132q.alloc (.cells #[.int .i64 0, .int .i64 0] 38)) (n + 1) [.int .i64 o, .int .i64 k, .int .i64 x]) := h135q.out.new (.cells #[.int .i64 0, .int .i64 0] 38)
          have h148q : Hid (Bo (u132q.alloc (.cells #[.int .i64 0, .int .i64 0] 38)) (n + 2) (wl wz)) := h136q.out.new (.cells #[.int .i64 0, .int .i64 0] 38)
          have h149q : Hid (Bo (u132q.alloc (.cells #[.int .i64 0, .int .i64 0] 38)) (n + 3) [.int .i64 0, .int .i64 0]) := h137q.out.new (.cells #[.int .i64 0, .int .i64 0] 38)
          have h150q : Hid (TAt (u132q.alloc (.cells #[.int .i64 0, .int .i64 0] 38)) u24q.heap.size Tb.zero) := h138q.out.new (.cells #[.int .i64 0, .int .i64 0] 38)
          clear h133q h134q h135q h136q h137q h138q
          have h151q : Hid (Bo (u132q.alloc (.cells #[.int .i64 0, .int .i64 0] 38)) u132q.heap.size [.int .i64 0, .int .i64 0]) := Bo.born u132q [.int .i64 0, .int .i64 0] 38 (by simp)
          refine hK.out _ _ ⟨h146q.out, h147q.out⟩ (fun hH => ?_)
          clear hK K
          generalize (u132q.alloc (.cells #[.int .i64 0, .int .i64 0] 38)) = u152q at h145q h146q h147q h148q h149q h150q h151q hH ⊢
          try simp only [Act.put, List.setIfInBounds_toArray, List.set_cons_zero, List.set_cons_succ]
          refine wpAnyH_ready (rs := [9]) (by kernel_rfl) (by simp) ?_
          refine AllReadyH.cons (o := { dst := none, op := .store _ (.tmp 6) (.tmp 13), type := _, pos := _, after := _, guard := _ }) rfl (fun K hK => ?_) AllReadyH.nil
          rw [if_pos (by rfl)]
          refine wp_store_mid _ _ _ rfl u24q.heap.size _ u.all.toArray rfl rfl (h150q.out.thereOf u) (HZ.out u) (u.all_all) ?_
          simp only [Act.put]
          have h153q : Hid (Gd n w (u152q.setCells u24q.heap.size 0 u.all)) := h145q.out.asideAll (by omega) u
          have h154q : Hid (Bo (u152q.setCells u24q.heap.size 0 u.all) n (wl c)) := h146q.out.asideAll (by omega) u
          have h155q : Hid (Bo (u152q.setCells u24q.heap.size 0 u.all) (n + 1) [.int .i64 o, .int .i64 k, .int .i64 x]) := h147q.out.asideAll (by omega) u
          have h156q : Hid (Bo (u152q.setCells u24q.heap.size 0 u.all) (n + 2) (wl wz)) := h148q.out.asideAll (by omega) u
          have h157q : Hid (Bo (u152q.setCells u24q.heap.size 0 u.all) (n + 3) [.int .i64 0, .int .i64 0]) := h149q.out.asideAll (by omega) u
          have h158q : Hid (TAt (u152q.setCells u24q.heap.size 0 u.all) u24q.heap.size u) := h150q.out.setAll u
          have h159q : Hid (Bo (u152q.setCells u24q.heap.size 0 u.all) u132q.heap.size [.int .i64 0, .int .i64 0]) := h151q.out.asideAll (by omega) u
          clear h145q h146q h147q h148q h149q h150q h151q
          refine hK.out _ _ ⟨h154q.out, h155q.out⟩ (fun hH => ?_)
          clear hK K
          generalize (u152q.setCells u24q.heap.size 0 u.all) = u160q at h153q h154q h155q h156q h157q h158q h159q hH ⊢
          try simp only [Act.put, List.setIfInBounds_toArray, List.set_cons_zero, List.set_cons_succ]
          refine wpAnyH_ready (rs := [10]) (by kernel_rfl) (by simp) ?_
          refine AllReadyH.cons (o := { dst := none, op := .store _ (.tmp 7) (.tmp 14), type := _, pos := _, after := _, guard := _ }) rfl (fun K hK => ?_) AllReadyH.nil
          rw [if_pos (by rfl)]
          refine wp_store_mid _ _ _ rfl u132q.heap.size _ #[.int .i64 (cc), .int .i64 (y)] rfl rfl h159q.out.there2 HA.out (two_one _ _) ?_
          simp only [Act.put]
          have h161q : Hid (Gd n w (u160q.setCells u132q.heap.size 0 [.int .i64 (cc), .int .i64 (y)])) := h153q.out.asideL (by omega) 0 [.int .i64 (cc), .int .i64 (y)]
          have h162q : Hid (Bo (u160q.setCells u132q.heap.size 0 [.int .i64 (cc), .int .i64 (y)]) n (wl c)) := h154q.out.asideL (by omega) 0 [.int .i64 (cc), .int .i64 (y)]
          have h163q : Hid (Bo (u160q.setCells u132q.heap.size 0 [.int .i64 (cc), .int .i64 (y)]) (n + 1) [.int .i64 o, .int .i64 k, .int .i64 x]) := h155q.out.asideL (by omega) 0 [.int .i64 (cc), .int .i64 (y)]
          have h164q : Hid (Bo (u160q.setCells u132q.heap.size 0 [.int .i64 (cc), .int .i64 (y)]) (n + 2) (wl wz)) := h156q.out.asideL (by omega) 0 [.int .i64 (cc), .int .i64 (y)]
          have h165q : Hid (Bo (u160q.setCells u132q.heap.size 0 [.int .i64 (cc), .int .i64 (y)]) (n + 3) [.int .i64 0, .int .i64 0]) := h157q.out.asideL (by omega) 0 [.int .i64 (cc), .int .i64 (y)]
          have h166q : Hid (TAt (u160q.setCells u132q.heap.size 0 [.int .i64 (cc), .int .i64 (y)]) u24q.heap.size u) := h158q.out.asideL (by omega) 0 [.int .i64 (cc), .int .i64 (y)]
          have h167q : Hid (Bo (u160q.setCells u132q.heap.size 0 [.int .i64 (cc), .int .i64 (y)]) u132q.heap.size [.int .i64 (cc), .int .i64 (y)]) := h159q.out.set2 (.int .i64 (cc)) (.int .i64 (y))
          clear h153q h154q h155q h156q h157q h158q h159q
          refine hK.out _ _ ⟨h162q.out, h163q.out⟩ (fun hH => ?_)
          clear hK K
          generalize (u160q.setCells u132q.heap.size 0 [.int .i64 (cc), .int .i64 (y)]) = u168q at h161q h162q h163q h164q h165q h166q h167q hH ⊢
          try simp only [Act.put, List.setIfInBounds_toArray, List.set_cons_zero, List.set_cons_succ]
          refine wpAnyH_done (by kernel_rfl) ?_ _
          go_wp2_with fail
          go_meet
          case rel => exact ⟨u24q.heap.size, u132q.heap.size, rfl, rfl, h161q, h164q, h165q, h166q, h167q, (by omega)⟩
        refine AllReadyH.cons (o := { dst := some 7, op := .alloc _, type := _, pos := _, after := _, guard := _ }) rfl (fun K hK => ?_) AllReadyH.nil
        have l169q : n ≤ u131q.heap.size := h125q.out.le
        have l170q : n < u131q.heap.size := h126q.out.lt
        have l171q : (n + 1) < u131q.heap.size := h127q.out.lt
        have l172q : (n + 2) < u131q.heap.size := h128q.out.lt
        have l173q : (n + 3) < u131q.heap.size := h129q.out.lt
        have l174q : u24q.heap.size < u131q.heap.size := h130q.out.lt
        go_simp
        have h175q : Hid (Gd n w (u131q.alloc (.cells #[.int .i64 0, .int .i64 0] 38))) := h125q.out.new (.cells #[.int .i64 0, .int .i64 0] 38)
        have h176q : Hid (Bo (u131q.alloc (.cells #[.int .i64 0, .int .i64 0] 38)) n (wl c)) := h126q.out.new (.cells #[.int .i64 0, .int .i64 0] 38)
        have h177q : Hid (Bo (u131q.alloc (.cells #[.int .i64 0, .int .i64 0] 38)) (n + 1) [.int .i64 o, .int .i64 k, .int .i64 x]) := h127q.out.new (.cells #[.int .i64 0, .int .i64 0] 38)
        have h178q : Hid (Bo (u131q.alloc (.cells #[.int .i64 0, .int .i64 0] 38)) (n + 2) (wl wz)) := h128q.out.new (.cells #[.int .i64 0, .int .i64 0] 38)
        have h179q : Hid (Bo (u131q.alloc (.cells #[.int .i64 0, .int .i64 0] 38)) (n + 3) [.int .i64 0, .int .i64 0]) := h129q.out.new (.cells #[.int .i64 0, .int .i64 0] 38)
        have h180q : Hid (TAt (u131q.alloc (.cells #[.int .i64 0, .int .i64 0] 38)) u24q.heap.size Tb.zero) := h130q.out.new (.cells #[.int .i64 0, .int .i64 0] 38)
        clear h125q h126q h127q h128q h129q h130q
        have h181q : Hid (Bo (u131q.alloc (.cells #[.int .i64 0, .int .i64 0] 38)) u131q.heap.size [.int .i64 0, .int .i64 0]) := Bo.born u131q [.int .i64 0, .int .i64 0] 38 (by simp)
        refine hK.out _ _ ⟨h176q.out, h177q.out⟩ (fun hH => ?_)
        clear hK K
        generalize (u131q.alloc (.cells #[.int .i64 0, .int .i64 0] 38)) = u182q at h175q h176q h177q h178q h179q h180q h181q hH ⊢
        try simp only [Act.put, List.setIfInBounds_toArray, List.set_cons_zero, List.set_cons_succ]
        refine wpAnyH_ready (rs := [3]) (by kernel_rfl) (by simp) ?_
        refine AllReadyH.cons (o := { dst := some 12, op := _, type := _, pos := _, after := _, guard := _ }) rfl (fun K hK => ?_) AllReadyH.nil
        go_simp
        refine (D.out _).mono ?_
        rintro e u183q ⟨rfl, hb⟩
        have h184q : Hid (Gd n w u183q) := h175q.out.later hb
        have h185q : Hid (Bo u183q n (wl c)) := h176q.out.later hb
        have h186q : Hid (Bo u183q (n + 1) [.int .i64 o, .int .i64 k, .int .i64 x]) := h177q.out.later hb
        have h187q : Hid (Bo u183q (n + 2) (wl wz)) := h178q.out.later hb
        have h188q : Hid (Bo u183q (n + 3) [.int .i64 0, .int .i64 0]) := h179q.out.later hb
        have h189q : Hid (TAt u183q u24q.heap.size Tb.zero) := h180q.out.later hb
        have h190q : Hid (Bo u183q u131q.heap.size [.int .i64 0, .int .i64 0]) := h181q.out.later hb
        clear h175q h176q h177q h178q h179q h180q h181q
        clear hb
        go_wp2_with fail
        refine hK.out _ _ ⟨h185q.out, h186q.out⟩ (fun hH => ?_)
        clear hK K
        try simp only [Act.put, List.setIfInBounds_toArray, List.set_cons_zero, List.set_cons_succ]
        refine wpAnyH_take (i := 4) (oi := { dst := some 8, op := .move (.tmp 12), type := _, pos := _, after := _, guard := _ }) (v := ?_) rfl (by kernel_rfl) (by kernel_rfl) (by kernel_rfl) (fun _ _ _ h => h) (Or.inl ⟨by rfl, ?_⟩) hH ?_
        rotate_left
        · intro w hSw
          clear hSw
          go_simp
          try with_reducible rfl
        simp only [Act.put, List.setIfInBounds_toArray, List.set_cons_zero, List.set_cons_succ]
        refine wpAnyH_take (i := 5) (oi := { dst := some 13, op := .extract (.tmp 8) 0, type := _, pos := _, after := _, guard := _ }) (v := ?_) rfl (by kernel_rfl) (by kernel_rfl) (by kernel_rfl) (fun _ _ _ h => h) (Or.inl ⟨by rfl, ?_⟩) hH ?_
        rotate_left
        · intro w hSw
          clear hSw
          go_simp
          try with_reducible rfl
        simp only [Act.put, List.setIfInBounds_toArray, List.set_cons_zero, List.set_cons_succ]
        refine wpAnyH_take (i := 6) (oi := { dst := some 14, op := .extract (.tmp 8) 1, type := _, pos := _, after := _, guard := _ }) (v := ?_) rfl (by kernel_rfl) (by kernel_rfl) (by kernel_rfl) (fun _ _ _ h => h) (Or.inl ⟨by rfl, ?_⟩) hH ?_
        rotate_left
        · intro w hSw
          clear hSw
          go_simp
          try with_reducible rfl
        simp only [Act.put, List.setIfInBounds_toArray, List.set_cons_zero, List.set_cons_succ]
        refine wpAnyH_ready (rs := [9]) (by kernel_rfl) (by simp) ?_
        refine AllReadyH.cons (o := { dst := none, op := .store _ (.tmp 6) (.tmp 13), type := _, pos := _, after := _, guard := _ }) rfl (fun K hK => ?_) AllReadyH.nil
        rw [if_pos (by rfl)]
        refine wp_store_mid _ _ _ rfl u24q.heap.size _ u.all.toArray rfl rfl (h189q.out.thereOf u) (HZ.out u) (u.all_all) ?_
        simp only [Act.put]
        have h191q : Hid (Gd n w (u183q.setCells u24q.heap.size 0 u.all)) := h184q.out.asideAll (by omega) u
        have h192q : Hid (Bo (u183q.setCells u24q.heap.size 0 u.all) n (wl c)) := h185q.out.asideAll (by omega) u
        have h193q : Hid (Bo (u183q.setCells u24q.heap.size 0 u.all) (n + 1) [.int .i64 o, .int .i64 k, .int .i64 x]) := h186q.out.asideAll (by omega) u
        have h194q : Hid (Bo (u183q.setCells u24q.heap.size 0 u.all) (n + 2) (wl wz)) := h187q.out.asideAll (by omega) u
        have h195q : Hid (Bo (u183q.setCells u24q.heap.size 0 u.all) (n + 3) [.int .i64 0, .int .i64 0]) := h188q.out.asideAll (by omega) u
        have h196q : Hid (TAt (u183q.setCells u24q.heap.size 0 u.all) u24q.heap.size u) := h189q.out.setAll u
        have h197q : Hid (Bo (u183q.setCells u24q.heap.size 0 u.all) u131q.heap.size [.int .i64 0, .int .i64 0]) := h190q.out.asideAll (by omega) u
        clear h184q h185q h186q h187q h188q h189q h190q
        refine hK.out _ _ ⟨h192q.out, h193q.out⟩ (fun hH => ?_)
        clear hK K
        generalize (u183q.setCells u24q.heap.size 0 u.all) = u198q at h191q h192q h193q h194q h195q h196q h197q hH ⊢
        try simp only [Act.put, List.setIfInBounds_toArray, List.set_cons_zero, List.set_cons_succ]
        refine wpAnyH_ready (rs := [10]) (by kernel_rfl) (by simp) ?_
        refine AllReadyH.cons (o := { dst := none, op := .store _ (.tmp 7) (.tmp 14), type := _, pos := _, after := _, guard := _ }) rfl (fun K hK => ?_) AllReadyH.nil
        rw [if_pos (by rfl)]
        refine wp_store_mid _ _ _ rfl u131q.heap.size _ #[.int .i64 (cc), .int .i64 (y)] rfl rfl h197q.out.there2 HA.out (two_one _ _) ?_
        simp only [Act.put]
        have h199q : Hid (Gd n w (u198q.setCells u131q.heap.size 0 [.int .i64 (cc), .int .i64 (y)])) := h191q.out.asideL (by omega) 0 [.int .i64 (cc), .int .i64 (y)]
        have h200q : Hid (Bo (u198q.setCells u131q.heap.size 0 [.int .i64 (cc), .int .i64 (y)]) n (wl c)) := h192q.out.asideL (by omega) 0 [.int .i64 (cc), .int .i64 (y)]
        have h201q : Hid (Bo (u198q.setCells u131q.heap.size 0 [.int .i64 (cc), .int .i64 (y)]) (n + 1) [.int .i64 o, .int .i64 k, .int .i64 x]) := h193q.out.asideL (by omega) 0 [.int .i64 (cc), .int .i64 (y)]
        have h202q : Hid (Bo (u198q.setCells u131q.heap.size 0 [.int .i64 (cc), .int .i64 (y)]) (n + 2) (wl wz)) := h194q.out.asideL (by omega) 0 [.int .i64 (cc), .int .i64 (y)]
        have h203q : Hid (Bo (u198q.setCells u131q.heap.size 0 [.int .i64 (cc), .int .i64 (y)]) (n + 3) [.int .i64 0, .int .i64 0]) := h195q.out.asideL (by omega) 0 [.int .i64 (cc), .int .i64 (y)]
        have h204q : Hid (TAt (u198q.setCells u131q.heap.size 0 [.int .i64 (cc), .int .i64 (y)]) u24q.heap.size u) := h196q.out.asideL (by omega) 0 [.int .i64 (cc), .int .i64 (y)]
        have h205q : Hid (Bo (u198q.setCells u131q.heap.size 0 [.int .i64 (cc), .int .i64 (y)]) u131q.heap.size [.int .i64 (cc), .int .i64 (y)]) := h197q.out.set2 (.int .i64 (cc)) (.int .i64 (y))
        clear h191q h192q h193q h194q h195q h196q h197q
        refine hK.out _ _ ⟨h200q.out, h201q.out⟩ (fun hH => ?_)
        clear hK K
        generalize (u198q.setCells u131q.heap.size 0 [.int .i64 (cc), .int .i64 (y)]) = u206q at h199q h200q h201q h202q h203q h204q h205q hH ⊢
        try simp only [Act.put, List.setIfInBounds_toArray, List.set_cons_zero, List.set_cons_succ]
        refine wpAnyH_done (by kernel_rfl) ?_ _
        go_wp2_with fail
        go_meet
        case rel => exact ⟨u24q.heap.size, u131q.heap.size, rfl, rfl, h199q, h202q, h203q, h204q, h205q, (by omega)⟩
      refine AllReadyH.cons (o := { dst := some 7, op := .alloc _, type := _, pos := _, after := _, guard := _ }) rfl (fun K hK => ?_) AllReadyH.nil
      have l207q : n ≤ u24q.heap.size := h25q.out.le
      have l208q : n < u24q.heap.size := h26q.out.lt
      have l209q : (n + 1) < u24q.heap.size := h27q.out.lt
      have l210q : (n + 2) < u24q.heap.size := h28q.out.lt
      have l211q : (n + 3) < u24q.heap.size := h29q.out.lt
      go_simp
      have h212q : Hid (Gd n w (u24q.alloc (.cells #[.int .i64 0, .int .i64 0] 38))) := h25q.out.new (.cells #[.int .i64 0, .int .i64 0] 38)
      have h213q : Hid (Bo (u24q.alloc (.cells #[.int .i64 0, .int .i64 0] 38)) n (wl c)) := h26q.out.new (.cells #[.int .i64 0, .int .i64 0] 38)
      have h214q : Hid (Bo (u24q.alloc (.cells #[.int .i64 0, .int .i64 0] 38)) (n + 1) [.int .i64 o, .int .i64 k, .int .i64 x]) := h27q.out.new (.cells #[.int .i64 0, .int .i64 0] 38)
      have h215q : Hid (Bo (u24q.alloc (.cells #[.int .i64 0, .int .i64 0] 38)) (n + 2) (wl wz)) := h28q.out.new (.cells #[.int .i64 0, .int .i64 0] 38)
      have h216q : Hid (Bo (u24q.alloc (.cells #[.int .i64 0, .int .i64 0] 38)) (n + 3) [.int .i64 0, .int .i64 0]) := h29q.out.new (.cells #[.int .i64 0, .int .i64 0] 38)
      clear h25q h26q h27q h28q h29q
      have h217q : Hid (Bo (u24q.alloc (.cells #[.int .i64 0, .int .i64 0] 38)) u24q.heap.size [.int .i64 0, .int .i64 0]) := Bo.born u24q [.int .i64 0, .int .i64 0] 38 (by simp)
      refine hK.out _ _ ⟨h213q.out, h214q.out⟩ (fun hH => ?_)
      clear hK K
      generalize (u24q.alloc (.cells #[.int .i64 0, .int .i64 0] 38)) = u218q at h212q h213q h214q h215q h216q h217q hH ⊢
      try simp only [Act.put, List.setIfInBounds_toArray, List.set_cons_zero, List.set_cons_succ]
      refine wpAnyH_ready (rs := [3, 7]) (by kernel_rfl) (by simp) ?_
      refine AllReadyH.cons (o := { dst := some 12, op := _, type := _, pos := _, after := _, guard := _ }) rfl (fun K hK => ?_) ?_
      · go_simp
        refine (D.out _).mono ?_
        rintro e u219q ⟨rfl, hb⟩
        have h220q : Hid (Gd n w u219q) := h212q.out.later hb
        have h221q : Hid (Bo u219q n (wl c)) := h213q.out.later hb
        have h222q : Hid (Bo u219q (n + 1) [.int .i64 o, .int .i64 k, .int .i64 x]) := h214q.out.later hb
        have h223q : Hid (Bo u219q (n + 2) (wl wz)) := h215q.out.later hb
        have h224q : Hid (Bo u219q (n + 3) [.int .i64 0, .int .i64 0]) := h216q.out.later hb
        have h225q : Hid (Bo u219q u24q.heap.size [.int .i64 0, .int .i64 0]) := h217q.out.later hb
        clear h212q h213q h214q h215q h216q h217q
        clear hb
        go_wp2_with fail
        refine hK.out _ _ ⟨h221q.out, h222q.out⟩ (fun hH => ?_)
        clear hK K
        try simp only [Act.put, List.setIfInBounds_toArray, List.set_cons_zero, List.set_cons_succ]
        refine wpAnyH_take (i := 4) (oi := { dst := some 8, op := .move (.tmp 12), type := _, pos := _, after := _, guard := _ }) (v := ?_) rfl (by kernel_rfl) (by kernel_rfl) (by kernel_rfl) (fun _ _ _ h => h) (Or.inl ⟨by rfl, ?_⟩) hH ?_
        rotate_left
        · intro w hSw
          clear hSw
          go_simp
          try with_reducible rfl
        simp only [Act.put, List.setIfInBounds_toArray, List.set_cons_zero, List.set_cons_succ]
        refine wpAnyH_take (i := 5) (oi := { dst := some 13, op := .extract (.tmp 8) 0, type := _, pos := _, after := _, guard := _ }) (v := ?_) rfl (by kernel_rfl) (by kernel_rfl) (by kernel_rfl) (fun _ _ _ h => h) (Or.inl ⟨by rfl, ?_⟩) hH ?_
        rotate_left
        · intro w hSw
          clear hSw
          go_simp
          try with_reducible rfl
        simp only [Act.put, List.setIfInBounds_toArray, List.set_cons_zero, List.set_cons_succ]
        refine wpAnyH_take (i := 6) (oi := { dst := some 14, op := .extract (.tmp 8) 1, type := _, pos := _, after := _, guard := _ }) (v := ?_) rfl (by kernel_rfl) (by kernel_rfl) (by kernel_rfl) (fun _ _ _ h => h) (Or.inl ⟨by rfl, ?_⟩) hH ?_
        rotate_left
        · intro w hSw
          clear hSw
          go_simp
          try with_reducible rfl
        simp only [Act.put, List.setIfInBounds_toArray, List.set_cons_zero, List.set_cons_succ]
        refine wpAnyH_ready (rs := [7]) (by kernel_rfl) (by simp) ?_
        refine AllReadyH.cons (o := { dst := some 6, op := .alloc _, type := _, pos := _, after := _, guard := _ }) rfl (fun K hK => ?_) AllReadyH.nil
        have l226q : n ≤ u219q.heap.size := h220q.out.le
        have l227q : n < u219q.heap.size := h221q.out.lt
        have l228q : (n + 1) < u219q.heap.size := h222q.out.lt
        have l229q : (n + 2) < u219q.heap.size := h223q.out.lt
        have l230q : (n + 3) < u219q.heap.size := h224q.out.lt
        have l231q : u24q.heap.size < u219q.heap.size := h225q.out.lt
        go_simp
        have h232q : Hid (Gd n w (u219q.alloc (.cells #[.int .i64 0, .int .i64 0, .int .i64 0, .int .i64 0, .int .i64 0, .int .i64 0, .int .i64 0, .int .i64 0, .int .i64 0, .int .i64 0, .int .i64 0, .int .i64 0, .int .i64 0, .int .i64 0, .int .i64 0, .int .i64 0] 92))) := h220q.out.new (.cells #[.int .i64 0, .int .i64 0, .int .i64 0, .int .i64 0, .int .i64 0, .int .i64 0, .int .i64 0, .int .i64 0, .int .i64 0, .int .i64 0, .int .i64 0, .int .i64 0, .int .i64 0, .int .i64 0, .int .i64 0, .int .i64 0] 92)
        have h233q : Hid (Bo (u219q.alloc (.cells #[.int .i64 0, .int .i64 0, .int .i64 0, .int .i64 0, .int .i64 0, .int .i64 0, .int .i64 0, .int .i64 0, .int .i64 0, .int .i64 0, .int .i64 0, .int .i64 0, .int .i64 0, .int .i64 0, .int .i64 0, .int .i64 0] 92)) n (wl c)) := h221q.out.new (.cells #[.int .i64 0, .int .i64 0, .int .i64 0, .int .i64 0, .int .i64 0, .int .i64 0, .int .i64 0, .int .i64 0, .int .i64 0, .int .i64 0, .int .i64 0, .int .i64 0, .int .i64 0, .int .i64 0, .int .i64 0, .int .i64 0] 92)
        have h234q : Hid (Bo (u219q.alloc (.cells #[.int .i64 0, .int .i64 0, .int .i64 0, .int .i64 0, .int .i64 0, .int .i64 0, .int .i64 0, .int .i64 0, .int .i64 0, .int .i64 0, .int .i64 0, .int .i64 0, .int .i64 0, .int .i64 0, .int .i64 0, .int .i64 0] 92)) (n + 1) [.int .i64 o, .int .i64 k, .int .i64 x]) := h222q.out.new (.cells #[.int .i64 0, .int .i64 0, .int .i64 0, .int .i64 0, .int .i64 0, .int .i64 0, .int .i64 0, .int .i64 0, .int .i64 0, .int .i64 0, .int .i64 0, .int .i64 0, .int .i64 0, .int .i64 0, .int .i64 0, .int .i64 0] 92)
        have h235q : Hid (Bo (u219q.alloc (.cells #[.int .i64 0, .int .i64 0, .int .i64 0, .int .i64 0, .int .i64 0, .int .i64 0, .int .i64 0, .int .i64 0, .int .i64 0, .int .i64 0, .int .i64 0, .int .i64 0, .int .i64 0, .int .i64 0, .int .i64 0, .int .i64 0] 92)) (n + 2) (wl wz)) := h223q.out.new (.cells #[.int .i64 0, .int .i64 0, .int .i64 0, .int .i64 0, .int .i64 0, .int .i64 0, .int .i64 0, .int .i64 0, .int .i64 0, .int .i64 0, .int .i64 0, .int .i64 0, .int .i64 0, .int .i64 0, .int .i64 0, .int .i64 0] 92)
        have h236q : Hid (Bo (u219q.alloc (.cells #[.int .i64 0, .int .i64 0, .int .i64 0, .int .i64 0, .int .i64 0, .int .i64 0, .int .i64 0, .int .i64 0, .int .i64 0, .int .i64 0, .int .i64 0, .int .i64 0, .int .i64 0, .int .i64 0, .int .i64 0, .int .i64 0] 92)) (n + 3) [.int .i64 0, .int .i64 0]) := h224q.out.new (.cells #[.int .i64 0, .int .i64 0, .int .i64 0, .int .i64 0, .int .i64 0, .int .i64 0, .int .i64 0, .int .i64 0, .int .i64 0, .int .i64 0, .int .i64 0, .int .i64 0, .int .i64 0, .int .i64 0, .int .i64 0, .int .i64 0] 92)
        have h237q : Hid (Bo (u219q.alloc (.cells #[.int .i64 0, .int .i64 0, .int .i64 0, .int .i64 0, .int .i64 0, .int .i64 0, .int .i64 0, .int .i64 0, .int .i64 0, .int .i64 0, .int .i64 0, .int .i64 0, .int .i64 0, .int .i64 0, .int .i64 0, .int .i64 0] 92)) u24q.heap.size [.int .i64 0, .int .i64 0]) := h225q.out.new (.cells #[.int .i64 0, .int .i64 0, .int .i64 0, .int .i64 0, .int .i64 0, .int .i64 0, .int .i64 0, .int .i64 0, .int .i64 0, .int .i64 0, .int .i64 0, .int .i64 0, .int .i64 0, .int .i64 0, .int .i64 0, .int .i64 0] 92)
        clear h220q h221q h222q h223q h224q h225q
        have h238q : Hid (TAt (u219q.alloc (.cells #[.int .i64 0, .int .i64 0, .int .i64 0, .int .i64 0, .int .i64 0, .int .i64 0, .int .i64 0, .int .i64 0, .int .i64 0, .int .i64 0, .int .i64 0, .int .i64 0, .int .i64 0, .int .i64 0, .int .i64 0, .int .i64 0] 92)) u219q.heap.size Tb.zero) := TAt.bornZero u219q 92 (by simp)
        refine hK.out _ _ ⟨h233q.out, h234q.out⟩ (fun hH => ?_)
        clear hK K
        generalize (u219q.alloc (.cells #[.int .i64 0, .int .i64 0, .int .i64 0, .int .i64 0, .int .i64 0, .int .i64 0, .int .i64 0, .int .i64 0, .int .i64 0, .int .i64 0, .int .i64 0, .int .i64 0, .int .i64 0, .int .i64 0, .int .i64 0, .int .i64 0] 92)) = u239q at h232q h233q h234q h235q h236q h237q h238q hH ⊢
        try simp only [Act.put, List.setIfInBounds_toArray, List.set_cons_zero, List.set_cons_succ]
        refine wpAnyH_ready (rs := [9]) (by kernel_rfl) (by simp) ?_
        refine AllReadyH.cons (o := { dst := none, op := .store _ (.tmp 6) (.tmp 13), type := _, pos := _, after := _, guard := _ }) rfl (fun K hK => ?_) AllReadyH.nil
        rw [if_pos (by rfl)]
        refine wp_store_mid _ _ _ rfl u219q.heap.size _ u.all.toArray rfl rfl (h238q.out.thereOf u) (HZ.out u) (u.all_all) ?_
        simp only [Act.put]
        have h240q : Hid (Gd n w (u239q.setCells u219q.heap.size 0 u.all)) := h232q.out.asideAll (by omega) u
        have h241q : Hid (Bo (u239q.setCells u219q.heap.size 0 u.all) n (wl c)) := h233q.out.asideAll (by omega) u
        have h242q : Hid (Bo (u239q.setCells u219q.heap.size 0 u.all) (n + 1) [.int .i64 o, .int .i64 k, .int .i64 x]) := h234q.out.asideAll (by omega) u
        have h243q : Hid (Bo (u239q.setCells u219q.heap.size 0 u.all) (n + 2) (wl wz)) := h235q.out.asideAll (by omega) u
        have h244q : Hid (Bo (u239q.setCells u219q.heap.size 0 u.all) (n + 3) [.int .i64 0, .int .i64 0]) := h236q.out.asideAll (by omega) u
        have h245q : Hid (Bo (u239q.setCells u219q.heap.size 0 u.all) u24q.heap.size [.int .i64 0, .int .i64 0]) := h237q.out.asideAll (by omega) u
        have h246q : Hid (TAt (u239q.setCells u219q.heap.size 0 u.all) u219q.heap.size u) := h238q.out.setAll u
        clear h232q h233q h234q h235q h236q h237q h238q
        refine hK.out _ _ ⟨h241q.out, h242q.out⟩ (fun hH => ?_)
        clear hK K
        generalize (u239q.setCells u219q.heap.size 0 u.all) = u247q at h240q h241q h242q h243q h244q h245q h246q hH ⊢
        try simp only [Act.put, List.setIfInBounds_toArray, List.set_cons_zero, List.set_cons_succ]
        refine wpAnyH_ready (rs := [10]) (by kernel_rfl) (by simp) ?_
        refine AllReadyH.cons (o := { dst := none, op := .store _ (.tmp 7) (.tmp 14), type := _, pos := _, after := _, guard := _ }) rfl (fun K hK => ?_) AllReadyH.nil
        rw [if_pos (by rfl)]
        refine wp_store_mid _ _ _ rfl u24q.heap.size _ #[.int .i64 (cc), .int .i64 (y)] rfl rfl h245q.out.there2 HA.out (two_one _ _) ?_
        simp only [Act.put]
        have h248q : Hid (Gd n w (u247q.setCells u24q.heap.size 0 [.int .i64 (cc), .int .i64 (y)])) := h240q.out.asideL (by omega) 0 [.int .i64 (cc), .int .i64 (y)]
        have h249q : Hid (Bo (u247q.setCells u24q.heap.size 0 [.int .i64 (cc), .int .i64 (y)]) n (wl c)) := h241q.out.asideL (by omega) 0 [.int .i64 (cc), .int .i64 (y)]
        have h250q : Hid (Bo (u247q.setCells u24q.heap.size 0 [.int .i64 (cc), .int .i64 (y)]) (n + 1) [.int .i64 o, .int .i64 k, .int .i64 x]) := h242q.out.asideL (by omega) 0 [.int .i64 (cc), .int .i64 (y)]
        have h251q : Hid (Bo (u247q.setCells u24q.heap.size 0 [.int .i64 (cc), .int .i64 (y)]) (n + 2) (wl wz)) := h243q.out.asideL (by omega) 0 [.int .i64 (cc), .int .i64 (y)]
        have h252q : Hid (Bo (u247q.setCells u24q.heap.size 0 [.int .i64 (cc), .int .i64 (y)]) (n + 3) [.int .i64 0, .int .i64 0]) := h244q.out.asideL (by omega) 0 [.int .i64 (cc), .int .i64 (y)]
        have h253q : Hid (Bo (u247q.setCells u24q.heap.size 0 [.int .i64 (cc), .int .i64 (y)]) u24q.heap.size [.int .i64 (cc), .int .i64 (y)]) := h245q.out.set2 (.int .i64 (cc)) (.int .i64 (y))
        have h254q : Hid (TAt (u247q.setCells u24q.heap.size 0 [.int .i64 (cc), .int .i64 (y)]) u219q.heap.size u) := h246q.out.asideL (by omega) 0 [.int .i64 (cc), .int .i64 (y)]
        clear h240q h241q h242q h243q h244q h245q h246q
        refine hK.out _ _ ⟨h249q.out, h250q.out⟩ (fun hH => ?_)
        clear hK K
        generalize (u247q.setCells u24q.heap.size 0 [.int .i64 (cc), .int .i64 (y)]) = u255q at h248q h249q h250q h251q h252q h253q h254q hH ⊢
        try simp only [Act.put, List.setIfInBounds_toArray, List.set_cons_zero, List.set_cons_succ]
        refine wpAnyH_done (by kernel_rfl) ?_ _
        go_wp2_with fail
        go_meet
        case rel => exact ⟨u219q.heap.size, u24q.heap.size, rfl, rfl, h248q, h251q, h252q, h254q, h253q, (by omega)⟩
      refine AllReadyH.cons (o := { dst := some 6, op := .alloc _, type := _, pos := _, after := _, guard := _ }) rfl (fun K hK => ?_) AllReadyH.nil
      have l256q : n ≤ u218q.heap.size := h212q.out.le
      have l257q : n < u218q.heap.size := h213q.out.lt
      have l258q : (n + 1) < u218q.heap.size := h214q.out.lt
      have l259q : (n + 2) < u218q.heap.size := h215q.out.lt
      have l260q : (n + 3) < u218q.heap.size := h216q.out.lt
      have l261q : u24q.heap.size < u218q.heap.size := h217q.out.lt
      go_simp
      have h262q : Hid (Gd n w (u218q.alloc (.cells #[.int .i64 0, .int .i64 0, .int .i64 0, .int .i64 0, .int .i64 0, .int .i64 0, .int .i64 0, .int .i64 0, .int .i64 0, .int .i64 0, .int .i64 0, .int .i64 0, .int .i64 0, .int .i64 0, .int .i64 0, .int .i64 0] 92))) := h212q.out.new (.cells #[.int .i64 0, .int .i64 0, .int .i64 0, .int .i64 0, .int .i64 0, .int .i64 0, .int .i64 0, .int .i64 0, .int .i64 0, .int .i64 0, .int .i64 0, .int .i64 0, .int .i64 0, .int .i64 0, .int .i64 0, .int .i64 0] 92)
      have h263q : Hid (Bo (u218q.alloc (.cells #[.int .i64 0, .int .i64 0, .int .i64 0, .int .i64 0, .int .i64 0, .int .i64 0, .int .i64 0, .int .i64 0, .int .i64 0, .int .i64 0, .int .i64 0, .int .i64 0, .int .i64 0, .int .i64 0, .int .i64 0, .int .i64 0] 92)) n (wl c)) := h213q.out.new (.cells #[.int .i64 0, .int .i64 0, .int .i64 0, .int .i64 0, .int .i64 0, .int .i64 0, .int .i64 0, .int .i64 0, .int .i64 0, .int .i64 0, .int .i64 0, .int .i64 0, .int .i64 0, .int .i64 0, .int .i64 0, .int .i64 0] 92)
      have h264q : Hid (Bo (u218q.alloc (.cells #[.int .i64 0, .int .i64 0, .int .i64 0, .int .i64 0, .int .i64 0, .int .i64 0, .int .i64 0, .int .i64 0, .int .i64 0, .int .i64 0, .int .i64 0, .int .i64 0, .int .i64 0, .int .i64 0, .int .i64 0, .int .i64 0] 92)) (n + 1) [.int .i64 o, .int .i64 k, .int .i64 x]) := h214q.out.new (.cells #[.int .i64 0, .int .i64 0, .int .i64 0, .int .i64 0, .int .i64 0, .int .i64 0, .int .i64 0, .int .i64 0, .int .i64 0, .int .i64 0, .int .i64 0, .int .i64 0, .int .i64 0, .int .i64 0, .int .i64 0, .int .i64 0] 92)
      have h265q : Hid (Bo (u218q.alloc (.cells #[.int .i64 0, .int .i64 0, .int .i64 0, .int .i64 0, .int .i64 0, .int .i64 0, .int .i64 0, .int .i64 0, .int .i64 0, .int .i64 0, .int .i64 0, .int .i64 0, .int .i64 0, .int .i64 0, .int .i64 0, .int .i64 0] 92)) (n + 2) (wl wz)) := h215q.out.new (.cells #[.int .i64 0, .int .i64 0, .int .i64 0, .int .i64 0, .int .i64 0, .int .i64 0, .int .i64 0, .int .i64 0, .int .i64 0, .int .i64 0, .int .i64 0, .int .i64 0, .int .i64 0, .int .i64 0, .int .i64 0, .int .i64 0] 92)
      have h266q : Hid (Bo (u218q.alloc (.cells #[.int .i64 0, .int .i64 0, .int .i64 0, .int .i64 0, .int .i64 0, .int .i64 0, .int .i64 0, .int .i64 0, .int .i64 0, .int .i64 0, .int .i64 0, .int .i64 0, .int .i64 0, .int .i64 0, .int .i64 0, .int .i64 0] 92)) (n + 3) [.int .i64 0, .int .i64 0]) := h216q.out.new (.cells #[.int .i64 0, .int .i64 0, .int .i64 0, .int .i64 0, .int .i64 0, .int .i64 0, .int .i64 0, .int .i64 0, .int .i64 0, .int .i64 0, .int .i64 0, .int .i64 0, .int .i64 0, .int .i64 0, .int .i64 0, .int .i64 0] 92)
      have h267q : Hid (Bo (u218q.alloc (.cells #[.int .i64 0, .int .i64 0, .int .i64 0, .int .i64 0, .int .i64 0, .int .i64 0, .int .i64 0, .int .i64 0, .int .i64 0, .int .i64 0, .int .i64 0, .int .i64 0, .int .i64 0, .int .i64 0, .int .i64 0, .int .i64 0] 92)) u24q.heap.size [.int .i64 0, .int .i64 0]) := h217q.out.new (.cells #[.int .i64 0, .int .i64 0, .int .i64 0, .int .i64 0, .int .i64 0, .int .i64 0, .int .i64 0, .int .i64 0, .int .i64 0, .int .i64 0, .int .i64 0, .int .i64 0, .int .i64 0, .int .i64 0, .int .i64 0, .int .i64 0] 92)
      clear h212q h213q h214q h215q h216q h217q
      have h268q : Hid (TAt (u218q.alloc (.cells #[.int .i64 0, .int .i64 0, .int .i64 0, .int .i64 0, .int .i64 0, .int .i64 0, .int .i64 0, .int .i64 0, .int .i64 0, .int .i64 0, .int .i64 0, .int .i64 0, .int .i64 0, .int .i64 0, .int .i64 0, .int .i64 0] 92)) u218q.heap.size Tb.zero) := TAt.bornZero u218q 92 (by simp)
      refine hK.out _ _ ⟨h263q.out, h264q.out⟩ (fun hH => ?_)
      clear hK K
      generalize (u218q.alloc (.cells #[.int .i64 0, .int .i64 0, .int .i64 0, .int .i64 0, .int .i64 0, .int .i64 0, .int .i64 0, .int .i64 0, .int .i64 0, .int .i64 0, .int .i64 0, .int .i64 0, .int .i64 0, .int .i64 0, .int .i64 0, .int .i64 0] 92)) = u269q at h262q h263q h264q h265q h266q h267q h268q hH ⊢
      try simp only [Act.put, List.setIfInBounds_toArray, List.set_cons_zero, List.set_cons_succ]
      refine wpAnyH_ready (rs := [3]) (by kernel_rfl) (by simp) ?_
      refine AllReadyH.cons (o := { dst := some 12, op := _, type := _, pos := _, after := _, guard := _ }) rfl (fun K hK => ?_) AllReadyH.nil
      go_simp
      refine (D.out _).mono ?_
      rintro e u270q ⟨rfl, hb⟩
      have h271q : Hid (Gd n w u270q) := h262q.out.later hb
      have h272q : Hid (Bo u270q n (wl c)) := h263q.out.later hb
      have h273q : Hid (Bo u270q (n + 1) [.int .i64 o, .int .i64 k, .int .i64 x]) := h264q.out.later hb
      have h274q : Hid (Bo u270q (n + 2) (wl wz)) := h265q.out.later hb
      have h275q : Hid (Bo u270q (n + 3) [.int .i64 0, .int .i64 0]) := h266q.out.later hb
      have h276q : Hid (Bo u270q u24q.heap.size [.int .i64 0, .int .i64 0]) := h267q.out.later hb
      have h277q : Hid (TAt u270q u218q.heap.size Tb.zero) := h268q.out.later hb
      clear h262q h263q h264q h265q h266q h267q h268q
      clear hb
      go_wp2_with fail
      refine hK.out _ _ ⟨h272q.out, h273q.out⟩ (fun hH => ?_)
      clear hK K
      try simp only [Act.put, List.setIfInBounds_toArray, List.set_cons_zero, List.set_cons_succ]
      refine wpAnyH_take (i := 4) (oi := { dst := some 8, op := .move (.tmp 12), type := _, pos := _, after := _, guard := _ }) (v := ?_) rfl (by kernel_rfl) (by kernel_rfl) (by kernel_rfl) (fun _ _ _ h => h) (Or.inl ⟨by rfl, ?_⟩) hH ?_
      rotate_left
      · intro w hSw
        clear hSw
        go_simp
        try with_reducible rfl
      simp only [Act.put, List.setIfInBounds_toArray, List.set_cons_zero, List.set_cons_succ]
      refine wpAnyH_take (i := 5) (oi := { dst := some 13, op := .extract (.tmp 8) 0, type := _, pos := _, after := _, guard := _ }) (v := ?_) rfl (by kernel_rfl) (by kernel_rfl) (by kernel_rfl) (fun _ _ _ h => h) (Or.inl ⟨by rfl, ?_⟩) hH ?_
      rotate_left
      · intro w hSw
        clear hSw
        go_simp
        try with_reducible rfl
      simp only [Act.put, List.setIfInBounds_toArray, List.set_cons_zero, List.set_cons_succ]
      refine wpAnyH_take (i := 6) (oi := { dst := some 14, op := .extract (.tmp 8) 1, type := _, pos := _, after := _, guard := _ }) (v := ?_) rfl (by kernel_rfl) (by kernel_rfl) (by kernel_rfl) (fun _ _ _ h => h) (Or.inl ⟨by rfl, ?_⟩) hH ?_
      rotate_left
      · intro w hSw
        clear hSw
        go_simp
        try with_reducible rfl
      simp only [Act.put, List.setIfInBounds_toArray, List.set_cons_zero, List.set_cons_succ]
      refine wpAnyH_ready (rs := [9]) (by kernel_rfl) (by simp) ?_
      refine AllReadyH.cons (o := { dst := none, op := .store _ (.tmp 6) (.tmp 13), type := _, pos := _, after := _, guard := _ }) rfl (fun K hK => ?_) AllReadyH.nil
      rw [if_pos (by rfl)]
      refine wp_store_mid _ _ _ rfl u218q.heap.size _ u.all.toArray rfl rfl (h277q.out.thereOf u) (HZ.out u) (u.all_all) ?_
      simp only [Act.put]
      have h278q : Hid (Gd n w (u270q.setCells u218q.heap.size 0 u.all)) := h271q.out.asideAll (by omega) u
      have h279q : Hid (Bo (u270q.setCells u218q.heap.size 0 u.all) n (wl c)) := h272q.out.asideAll (by omega) u
      have h280q : Hid (Bo (u270q.setCells u218q.heap.size 0 u.all) (n + 1) [.int .i64 o, .int .i64 k, .int .i64 x]) := h273q.out.asideAll (by omega) u
      have h281q : Hid (Bo (u270q.setCells u218q.heap.size 0 u.all) (n + 2) (wl wz)) := h274q.out.asideAll (by omega) u
      have h282q : Hid (Bo (u270q.setCells u218q.heap.size 0 u.all) (n + 3) [.int .i64 0, .int .i64 0]) := h275q.out.asideAll (by omega) u
      have h283q : Hid (Bo (u270q.setCells u218q.heap.size 0 u.all) u24q.heap.size [.int .i64 0, .int .i64 0]) := h276q.out.asideAll (by omega) u
      have h284q : Hid (TAt (u270q.setCells u218q.heap.size 0 u.all) u218q.heap.size u) := h277q.out.setAll u
      clear h271q h272q h273q h274q h275q h276q h277q
      refine hK.out _ _ ⟨h279q.out, h280q.out⟩ (fun hH => ?_)
      clear hK K
      generalize (u270q.setCells u218q.heap.size 0 u.all) = u285q at h278q h279q h280q h281q h282q h283q h284q hH ⊢
      try simp only [Act.put, List.setIfInBounds_toArray, List.set_cons_zero, List.set_cons_succ]
      refine wpAnyH_ready (rs := [10]) (by kernel_rfl) (by simp) ?_
      refine AllReadyH.cons (o := { dst := none, op := .store _ (.tmp 7) (.tmp 14), type := _, pos := _, after := _, guard := _ }) rfl (fun K hK => ?_) AllReadyH.nil
      rw [if_pos (by rfl)]
      refine wp_store_mid _ _ _ rfl u24q.heap.size _ #[.int .i64 (cc), .int .i64 (y)] rfl rfl h283q.out.there2 HA.out (two_one _ _) ?_
      simp only [Act.put]
      have h286q : Hid (Gd n w (u285q.setCells u24q.heap.size 0 [.int .i64 (cc), .int .i64 (y)])) := h278q.out.asideL (by omega) 0 [.int .i64 (cc), .int .i64 (y)]
      have h287q : Hid (Bo (u285q.setCells u24q.heap.size 0 [.int .i64 (cc), .int .i64 (y)]) n (wl c)) := h279q.out.asideL (by omega) 0 [.int .i64 (cc), .int .i64 (y)]
      have h288q : Hid (Bo (u285q.setCells u24q.heap.size 0 [.int .i64 (cc), .int .i64 (y)]) (n + 1) [.int .i64 o, .int .i64 k, .int .i64 x]) := h280q.out.asideL (by omega) 0 [.int .i64 (cc), .int .i64 (y)]
      have h289q : Hid (Bo (u285q.setCells u24q.heap.size 0 [.int .i64 (cc), .int .i64 (y)]) (n + 2) (wl wz)) := h281q.out.asideL (by omega) 0 [.int .i64 (cc), .int .i64 (y)]
      have h290q : Hid (Bo (u285q.setCells u24q.heap.size 0 [.int .i64 (cc), .int .i64 (y)]) (n + 3) [.int .i64 0, .int .i64 0]) := h282q.out.asideL (by omega) 0 [.int .i64 (cc), .int .i64 (y)]
      have h291q : Hid (Bo (u285q.setCells u24q.heap.size 0 [.int .i64 (cc), .int .i64 (y)]) u24q.heap.size [.int .i64 (cc), .int .i64 (y)]) := h283q.out.set2 (.int .i64 (cc)) (.int .i64 (y))
      have h292q : Hid (TAt (u285q.setCells u24q.heap.size 0 [.int .i64 (cc), .int .i64 (y)]) u218q.heap.size u) := h284q.out.asideL (by omega) 0 [.int .i64 (cc), .int .i64 (y)]
      clear h278q h279q h280q h281q h282q h283q h284q
      refine hK.out _ _ ⟨h287q.out, h288q.out⟩ (fun hH => ?_)
      clear hK K
      generalize (u285q.setCells u24q.heap.size 0 [.int .i64 (cc), .int .i64 (y)]) = u293q at h286q h287q h288q h289q h290q h291q h292q hH ⊢
      try simp only [Act.put, List.setIfInBounds_toArray, List.set_cons_zero, List.set_cons_succ]
      refine wpAnyH_done (by kernel_rfl) ?_ _
      go_wp2_with fail
      go_meet
      case rel => exact ⟨u218q.heap.size, u24q.heap.size, rfl, rfl, h286q, h289q, h290q, h292q, h291q, (by omega)⟩
    refine AllReadyH.cons (o := { dst := some 6, op := .alloc _, type := _, pos := _, after := _, guard := _ }) rfl (fun K hK => ?_) ?_
    · have l294q : n ≤ u20q.heap.size := h15q.out.le
      have l295q : n < u20q.heap.size := h16q.out.lt
      have l296q : (n + 1) < u20q.heap.size := h17q.out.lt
      have l297q : (n + 2) < u20q.heap.size := h18q.out.lt
      have l298q : (n + 3) < u20q.heap.size := h19q.out.lt
      go_simp
      have h299q : Hid (Gd n w (u20q.alloc (.cells #[.int .i64 0, .int .i64 0, .int .i64 0, .int .i64 0, .int .i64 0, .int .i64 0, .int .i64 0, .int .i64 0, .int .i64 0, .int .i64 0, .int .i64 0, .int .i64 0, .int .i64 0, .int .i64 0, .int .i64 0, .int .i64 0] 92))) := h15q.out.new (.cells #[.int .i64 0, .int .i64 0, .int .i64 0, .int .i64 0, .int .i64 0, .int .i64 0, .int .i64 0, .int .i64 0, .int .i64 0, .int .i64 0, .int .i64 0, .int .i64 0, .int .i64 0, .int .i64 0, .int .i64 0, .int .i64 0] 92)
      have h300q : Hid (Bo (u20q.alloc (.cells #[.int .i64 0, .int .i64 0, .int .i64 0, .int .i64 0, .int .i64 0, .int .i64 0, .int .i64 0, .int .i64 0, .int .i64 0, .int .i64 0, .int .i64 0, .int .i64 0, .int .i64 0, .int .i64 0, .int .i64 0, .int .i64 0] 92)) n (wl c)) := h16q.out.new (.cells #[.int .i64 0, .int .i64 0, .int .i64 0, .int .i64 0, .int .i64 0, .int .i64 0, .int .i64 0, .int .i64 0, .int .i64 0, .int .i64 0, .int .i64 0, .int .i64 0, .int .i64 0, .int .i64 0, .int .i64 0, .int .i64 0] 92)
      have h301q : Hid (Bo (u20q.alloc (.cells #[.int .i64 0, .int .i64 0, .int .i64 0, .int .i64 0, .int .i64 0, .int .i64 0, .int .i64 0, .int .i64 0, .int .i64 0, .int .i64 0, .int .i64 0, .int .i64 0, .int .i64 0, .int .i64 0, .int .i64 0, .int .i64 0] 92)) (n + 1) [.int .i64 o, .int .i64 k, .int .i64 x]) := h17q.out.new (.cells #[.int .i64 0, .int .i64 0, .int .i64 0, .int .i64 0, .int .i64 0, .int .i64 0, .int .i64 0, .int .i64 0, .int .i64 0, .int .i64 0, .int .i64 0, .int .i64 0, .int .i64 0, .int .i64 0, .int .i64 0, .int .i64 0] 92)
      have h302q : Hid (Bo (u20q.alloc (.cells #[.int .i64 0, .int .i64 0, .int .i64 0, .int .i64 0, .int .i64 0, .int .i64 0, .int .i64 0, .int .i64 0, .int .i64 0, .int .i64 0, .int .i64 0, .int .i64 0, .int .i64 0, .int .i64 0, .int .i64 0, .int .i64 0] 92)) (n + 2) (wl wz)) := h18q.out.new (.cells #[.int .i64 0, .int .i64 0, .int .i64 0, .int .i64 0, .int .i64 0, .int .i64 0, .int .i64 0, .int .i64 0, .int .i64 0, .int .i64 0, .int .i64 0, .int .i64 0, .int .i64 0, .int .i64 0, .int .i64 0, .int .i64 0] 92)
      have h303q : Hid (Bo (u20q.alloc (.cells #[.int .i64 0, .int .i64 0, .int .i64 0, .int .i64 0, .int .i64 0, .int .i64 0, .int .i64 0, .int .i64 0, .int .i64 0, .int .i64 0, .int .i64 0, .int .i64 0, .int .i64 0, .int .i64 0, .int .i64 0, .int .i64 0] 92)) (n + 3) [.int .i64 0, .int .i64 0]) := h19q.out.new (.cells #[.int .i64 0, .int .i64 0, .int .i64 0, .int .i64 0, .int .i64 0, .int .i64 0, .int .i64 0, .int .i64 0, .int .i64 0, .int .i64 0, .int .i64 0, .int .i64 0, .int .i64 0, .int .i64 0, .int .i64 0, .int .i64 0] 92)
      clear h15q h16q h17q h18q h19q
      have h304q : Hid (TAt (u20q.alloc (.cells #[.int .i64 0, .int .i64 0, .int .i64 0, .int .i64 0, .int .i64 0, .int .i64 0, .int .i64 0, .int .i64 0, .int .i64 0, .int .i64 0, .int .i64 0, .int .i64 0, .int .i64 0, .int .i64 0, .int .i64 0, .int .i64 0] 92)) u20q.heap.size Tb.zero) := TAt.bornZero u20q 92 (by simp)
      refine hK.out _ _ ⟨h300q.out, h301q.out⟩ (fun hH => ?_)
      clear hK K
      generalize (u20q.alloc (.cells #[.int .i64 0, .int .i64 0, .int .i64 0, .int .i64 0, .int .i64 0, .int .i64 0, .int .i64 0, .int .i64 0, .int .i64 0, .int .i64 0, .int .i64 0, .int .i64 0, .int .i64 0, .int .i64 0, .int .i64 0, .int .i64 0] 92)) = u305q at h299q h300q h301q h302q h303q h304q hH ⊢
      try simp only [Act.put, List.setIfInBounds_toArray, List.set_cons_zero, List.set_cons_succ]
      refine wpAnyH_ready (rs := [1, 8]) (by kernel_rfl) (by simp) ?_
      refine AllReadyH.cons (o := { dst := some 10, op := _, type := _, pos := _, after := _, guard := _ }) rfl (fun K hK => ?_) ?_
      · go_simp
        refine (S.out _).mono ?_
        rintro e u306q ⟨rfl, hb⟩
        have h307q : Hid (Gd n w u306q) := h299q.out.later hb
        have h308q : Hid (Bo u306q n (wl c)) := h300q.out.later hb
        have h309q : Hid (Bo u306q (n + 1) [.int .i64 o, .int .i64 k, .int .i64 x]) := h301q.out.later hb
        have h310q : Hid (Bo u306q (n + 2) (wl wz)) := h302q.out.later hb
        have h311q : Hid (Bo u306q (n + 3) [.int .i64 0, .int .i64 0]) := h303q.out.later hb
        have h312q : Hid (TAt u306q u20q.heap.size Tb.zero) := h304q.out.later hb
        clear h299q h300q h301q h302q h303q h304q
        clear hb
        go_wp2_with fail
        refine hK.out _ _ ⟨h308q.out, h309q.out⟩ (fun hH => ?_)
        clear hK K
        try simp only [Act.put, List.setIfInBounds_toArray, List.set_cons_zero, List.set_cons_succ]
        refine wpAnyH_ready (rs := [3, 8]) (by kernel_rfl) (by simp) ?_
        refine AllReadyH.cons (o := { dst := some 12, op := _, type := _, pos := _, after := _, guard := _ }) rfl (fun K hK => ?_) ?_
        · go_simp
          refine (D.out _).mono ?_
          rintro e u313q ⟨rfl, hb⟩
          have h314q : Hid (Gd n w u313q) := h307q.out.later hb
          have h315q : Hid (Bo u313q n (wl c)) := h308q.out.later hb
          have h316q : Hid (Bo u313q (n + 1) [.int .i64 o, .int .i64 k, .int .i64 x]) := h309q.out.later hb
          have h317q : Hid (Bo u313q (n + 2) (wl wz)) := h310q.out.later hb
          have h318q : Hid (Bo u313q (n + 3) [.int .i64 0, .int .i64 0]) := h311q.out.later hb
          have h319q : Hid (TAt u313q u20q.heap.size Tb.zero) := h312q.out.later hb
          clear h307q h308q h309q h310q h311q h312q
          clear hb
          go_wp2_with fail
          refine hK.out _ _ ⟨h315q.out, h316q.out⟩ (fun hH => ?_)
          clear hK K
          try simp only [Act.put, List.setIfInBounds_toArray, List.set_cons_zero, List.set_cons_succ]
          refine wpAnyH_take (i := 4) (oi := { dst := some 8, op := .move (.tmp 12), type := _, pos := _, after := _, guard := _ }) (v := ?_) rfl (by kernel_rfl) (by kernel_rfl) (by kernel_rfl) (fun _ _ _ h => h) (Or.inl ⟨by rfl, ?_⟩) hH ?_
          rotate_left
          · intro w hSw
            clear hSw
            go_simp
            try with_reducible rfl
          simp only [Act.put, List.setIfInBounds_toArray, List.set_cons_zero, List.set_cons_succ]
          refine wpAnyH_take (i := 5) (oi := { dst := some 13, op := .extract (.tmp 8) 0, type := _, pos := _, after := _, guard := _ }) (v := ?_) rfl (by kernel_rfl) (by kernel_rfl) (by kernel_rfl) (fun _ _ _ h => h) (Or.inl ⟨by rfl, ?_⟩) hH ?_
          rotate_left
          · intro w hSw
            clear hSw
            go_simp
            try with_reducible rfl
          simp only [Act.put, List.setIfInBounds_toArray, List.set_cons_zero, List.set_cons_succ]
          refine wpAnyH_take (i := 6) (oi := { dst := some 14, op := .extract (.tmp 8) 1, type := _, pos := _, after := _, guard := _ }) (v := ?_) rfl (by kernel_rfl) (by kernel_rfl) (by kernel_rfl) (fun _ _ _ h => h) (Or.inl ⟨by rfl, ?_⟩) hH ?_
          rotate_left
          · intro w hSw
            clear hSw
            go_simp
            try with_reducible rfl
          simp only [Act.put, List.setIfInBounds_toArray, List.set_cons_zero, List.set_cons_succ]
          refine wpAnyH_ready (rs := [8]) (by kernel_rfl) (by simp) ?_
          refine AllReadyH.cons (o := { dst := some 7, op := .alloc _, type := _, pos := _, after := _, guard := _ }) rfl (fun K hK => ?_) AllReadyH.nil
          have l320q : n ≤ u313q.heap.size := h314q.out.le
          have l321q : n < u313q.heap.size := h315q.out.lt
          have l322q : (n + 1) < u313q.heap.size := h316q.out.lt
          have l323q : (n + 2) < u313q.heap.size := h317q.out.lt
          have l324q : (n + 3) < u313q.heap.size := h318q.out.lt
          have l325q : u20q.heap.size < u313q.heap.size := h319q.out.lt
          go_simp
          have h326q : Hid (Gd n w (u313q.alloc (.cells #[.int .i64 0, .int .i64 0] 38))) := h314q.out.new (.cells #[.int .i64 0, .int .i64 0] 38)
          have h327q : Hid (Bo (u313q.alloc (.cells #[.int .i64 0, .int .i64 0] 38)) n (wl c)) := h315q.out.new (.cells #[.int .i64 0, .int .i64 0] 38)
          have h328q : Hid (Bo (u313q.alloc (.cells #[.int .i64 0, .int .i64 0] 38)) (n + 1) [.int .i64 o, .int .i64 k, .int .i64 x]) := h316q.out.new (.cells #[.int .i64 0, .int .i64 0] 38)
          have h329q : Hid (Bo (u313q.alloc (.cells #[.int .i64 0, .int .i64 0] 38)) (n + 2) (wl wz)) := h317q.out.new (.cells #[.int .i64 0, .int .i64 0] 38)
          have h330q : Hid (Bo (u313q.alloc (.cells #[.int .i64 0, .int .i64 0] 38)) (n + 3) [.int .i64 0, .int .i64 0]) := h318q.out.new (.cells #[.int .i64 0, .int .i64 0] 38)
          have h331q : Hid (TAt (u313q.alloc (.cells #[.int .i64 0, .int .i64 0] 38)) u20q.heap.size Tb.zero) := h319q.out.new (.cells #[.int .i64 0, .int .i64 0] 38)
          clear h314q h315q h316q h317q h318q h319q
          have h332q : Hid (Bo (u313q.alloc (.cells #[.int .i64 0, .int .i64 0] 38)) u313q.heap.size [.int .i64 0, .int .i64 0]) := Bo.born u313q [.int .i64 0, .int .i64 0] 38 (by simp)
          refine hK.out _ _ ⟨h327q.out, h328q.out⟩ (fun hH => ?_)
          clear hK K
          generalize (u313q.alloc (.cells #[.int .i64 0, .int .i64 0] 38)) = u333q at h326q h327q h328q h329q h330q h331q h332q hH ⊢
          try simp only [Act.put, List.setIfInBounds_toArray, List.set_cons_zero, List.set_cons_succ]
          refine wpAnyH_ready (rs := [9]) (by kernel_rfl) (by simp) ?_
          refine AllReadyH.cons (o := { dst := none, op := .store _ (.tmp 6) (.tmp 13), type := _, pos := _, after := _, guard := _ }) rfl (fun K hK => ?_) AllReadyH.nil
          rw [if_pos (by rfl)]
          refine wp_store_mid _ _ _ rfl u20q.heap.size _ u.all.toArray rfl rfl (h331q.out.thereOf u) (HZ.out u) (u.all_all) ?_
          simp only [Act.put]
          have h334q : Hid (Gd n w (u333q.setCells u20q.heap.size 0 u.all)) := h326q.out.asideAll (by omega) u
          have h335q : Hid (Bo (u333q.setCells u20q.heap.size 0 u.all) n (wl c)) := h327q.out.asideAll (by omega) u
          have h336q : Hid (Bo (u333q.setCells u20q.heap.size 0 u.all) (n + 1) [.int .i64 o, .int .i64 k, .int .i64 x]) := h328q.out.asideAll (by omega) u
          have h337q : Hid (Bo (u333q.setCells u20q.heap.size 0 u.all) (n + 2) (wl wz)) := h329q.out.asideAll (by omega) u
          have h338q : Hid (Bo (u333q.setCells u20q.heap.size 0 u.all) (n + 3) [.int .i64 0, .int .i64 0]) := h330q.out.asideAll (by omega) u
          have h339q : Hid (TAt (u333q.setCells u20q.heap.size 0 u.all) u20q.heap.size u) := h331q.out.setAll u
          have h340q : Hid (Bo (u333q.setCells u20q.heap.size 0 u.all) u313q.heap.size [.int .i64 0, .int .i64 0]) := h332q.out.asideAll (by omega) u
          clear h326q h327q h328q h329q h330q h331q h332q
          refine hK.out _ _ ⟨h335q.out, h336q.out⟩ (fun hH => ?_)
          clear hK K
          generalize (u333q.setCells u20q.heap.size 0 u.all) = u341q at h334q h335q h336q h337q h338q h339q h340q hH ⊢
          try simp only [Act.put, List.setIfInBounds_toArray, List.set_cons_zero, List.set_cons_succ]
          refine wpAnyH_ready (rs := [10]) (by kernel_rfl) (by simp) ?_
          refine AllReadyH.cons (o := { dst := none, op := .store _ (.tmp 7) (.tmp 14), type := _, pos := _, after := _, guard := _ }) rfl (fun K hK => ?_) AllReadyH.nil
          rw [if_pos (by rfl)]
          refine wp_store_mid _ _ _ rfl u313q.heap.size _ #[.int .i64 (cc), .int .i64 (y)] rfl rfl h340q.out.there2 HA.out (two_one _ _) ?_
          simp only [Act.put]
          have h342q : Hid (Gd n w (u341q.setCells u313q.heap.size 0 [.int .i64 (cc), .int .i64 (y)])) := h334q.out.asideL (by omega) 0 [.int .i64 (cc), .int .i64 (y)]
          have h343q : Hid (Bo (u341q.setCells u313q.heap.size 0 [.int .i64 (cc), .int .i64 (y)]) n (wl c)) := h335q.out.asideL (by omega) 0 [.int .i64 (cc), .int .i64 (y)]
          have h344q : Hid (Bo (u341q.setCells u313q.heap.size 0 [.int .i64 (cc), .int .i64 (y)]) (n + 1) [.int .i64 o, .int .i64 k, .int .i64 x]) := h336q.out.asideL (by omega) 0 [.int .i64 (cc), .int .i64 (y)]
          have h345q : Hid (Bo (u341q.setCells u313q.heap.size 0 [.int .i64 (cc), .int .i64 (y)]) (n + 2) (wl wz)) := h337q.out.asideL (by omega) 0 [.int .i64 (cc), .int .i64 (y)]
          have h346q : Hid (Bo (u341q.setCells u313q.heap.size 0 [.int .i64 (cc), .int .i64 (y)]) (n + 3) [.int .i64 0, .int .i64 0]) := h338q.out.asideL (by omega) 0 [.int .i64 (cc), .int .i64 (y)]
          have h347q : Hid (TAt (u341q.setCells u313q.heap.size 0 [.int .i64 (cc), .int .i64 (y)]) u20q.heap.size u) := h339q.out.asideL (by omega) 0 [.int .i64 (cc), .int .i64 (y)]
          have h348q : Hid (Bo (u341q.setCells u313q.heap.size 0 [.int .i64 (cc), .int .i64 (y)]) u313q.heap.size [.int .i64 (cc), .int .i64 (y)]) := h340q.out.set2 (.int .i64 (cc)) (.int .i64 (y))
          clear h334q h335q h336q h337q h338q h339q h340q
          refine hK.out _ _ ⟨h343q.out, h344q.out⟩ (fun hH => ?_)
          clear hK K
          generalize (u341q.setCells u313q.heap.size 0 [.int .i64 (cc), .int .i64 (y)]) = u349q at h342q h343q h344q h345q h346q h347q h348q hH ⊢
          try simp only [Act.put, List.setIfInBounds_toArray, List.set_cons_zero, List.set_cons_succ]
          refine wpAnyH_done (by kernel_rfl) ?_ _
          go_wp2_with fail
          go_meet
          case rel => exact ⟨u20q.heap.size, u313q.heap.size, rfl, rfl, h342q, h345q, h346q, h347q, h348q, (by omega)⟩
        refine AllReadyH.cons (o := { dst := some 7, op := .alloc _, type := _, pos := _, after := _, guard := _ }) rfl (fun K hK => ?_) AllReadyH.nil
        have l350q : n ≤ u306q.heap.size := h307q.out.le
        have l351q : n < u306q.heap.size := h308q.out.lt
        have l352q : (n + 1) < u306q.heap.size := h309q.out.lt
        have l353q : (n + 2) < u306q.heap.size := h310q.out.lt
        have l354q : (n + 3) < u306q.heap.size := h311q.out.lt
        have l355q : u20q.heap.size < u306q.heap.size := h312q.out.lt
        go_simp
        have h356q : Hid (Gd n w (u306q.alloc (.cells #[.int .i64 0, .int .i64 0] 38))) := h307q.out.new (.cells #[.int .i64 0, .int .i64 0] 38)
        have h357q : Hid (Bo (u306q.alloc (.cells #[.int .i64 0, .int .i64 0] 38)) n (wl c)) := h308q.out.new (.cells #[.int .i64 0, .int .i64 0] 38)
        have h358q : Hid (Bo (u306q.alloc (.cells #[.int .i64 0, .int .i64 0] 38)) (n + 1) [.int .i64 o, .int .i64 k, .int .i64 x]) := h309q.out.new (.cells #[.int .i64 0, .int .i64 0] 38)
        have h359q : Hid (Bo (u306q.alloc (.cells #[.int .i64 0, .int .i64 0] 38)) (n + 2) (wl wz)) := h310q.out.new (.cells #[.int .i64 0, .int .i64 0] 38)
        have h360q : Hid (Bo (u306q.alloc (.cells #[.int .i64 0, .int .i64 0] 38)) (n + 3) [.int .i64 0, .int .i64 0]) := h311q.out.new (.cells #[.int .i64 0, .int .i64 0] 38)
        have h361q : Hid (TAt (u306q.alloc (.cells #[.int .i64 0, .int .i64 0] 38)) u20q.heap.size Tb.zero) := h312q.out.new (.cells #[.int .i64 0, .int .i64 0] 38)
        clear h307q h308q h309q h310q h311q h312q
        have h362q : Hid (Bo (u306q.alloc (.cells #[.int .i64 0, .int .i64 0] 38)) u306q.heap.size [.int .i64 0, .int .i64 0]) := Bo.born u306q [.int .i64 0, .int .i64 0] 38 (by simp)
        refine hK.out _ _ ⟨h357q.out, h358q.out⟩ (fun hH => ?_)
        clear hK K
        generalize (u306q.alloc (.cells #[.int .i64 0, .int .i64 0] 38)) = u363q at h356q h357q h358q h359q h360q h361q h362q hH ⊢
        try simp only [Act.put, List.setIfInBounds_toArray, List.set_cons_zero, List.set_cons_succ]
        refine wpAnyH_ready (rs := [3]) (by kernel_rfl) (by simp) ?_
        refine AllReadyH.cons (o := { dst := some 12, op := _, type := _, pos := _, after := _, guard := _ }) rfl (fun K hK => ?_) AllReadyH.nil
        go_simp
        refine (D.out _).mono ?_
        rintro e u364q ⟨rfl, hb⟩
        have h365q : Hid (Gd n w u364q) := h356q.out.later hb
        have h366q : Hid (Bo u364q n (wl c)) := h357q.out.later hb
        have h367q : Hid (Bo u364q (n + 1) [.int .i64 o, .int .i64 k, .int .i64 x]) := h358q.out.later hb
        have h368q : Hid (Bo u364q (n + 2) (wl wz)) := h359q.out.later hb
        have h369q : Hid (Bo u364q (n + 3) [.int .i64 0, .int .i64 0]) := h360q.out.later hb
        have h370q : Hid (TAt u364q u20q.heap.size Tb.zero) := h361q.out.later hb
        have h371q : Hid (Bo u364q u306q.heap.size [.int .i64 0, .int .i64 0]) := h362q.out.later hb
        clear h356q h357q h358q h359q h360q h361q h362q
        clear hb
        go_wp2_with fail
        refine hK.out _ _ ⟨h366q.out, h367q.out⟩ (fun hH => ?_)
        clear hK K
        try simp only [Act.put, List.setIfInBounds_toArray, List.set_cons_zero, List.set_cons_succ]
        refine wpAnyH_take (i := 4) (oi := { dst := some 8, op := .move (.tmp 12), type := _, pos := _, after := _, guard := _ }) (v := ?_) rfl (by kernel_rfl) (by kernel_rfl) (by kernel_rfl) (fun _ _ _ h => h) (Or.inl ⟨by rfl, ?_⟩) hH ?_
        rotate_left
        · intro w hSw
          clear hSw
          go_simp
          try with_reducible rfl
        simp only [Act.put, List.setIfInBounds_toArray, List.set_cons_zero, List.set_cons_succ]
        refine wpAnyH_take (i := 5) (oi := { dst := some 13, op := .extract (.tmp 8) 0, type := _, pos := _, after := _, guard := _ }) (v := ?_) rfl (by kernel_rfl) (by kernel_rfl) (by kernel_rfl) (fun _ _ _ h => h) (Or.inl ⟨by rfl, ?_⟩) hH ?_
        rotate_left
        · intro w hSw
          clear hSw
          go_simp
          try with_reducible rfl
        simp only [Act.put, List.setIfInBounds_toArray, List.set_cons_zero, List.set_cons_succ]
        refine wpAnyH_take (i := 6) (oi := { dst := some 14, op := .extract (.tmp 8) 1, type := _, pos := _, after := _, guard := _ }) (v := ?_) rfl (by kernel_rfl) (by kernel_rfl) (by kernel_rfl) (fun _ _ _ h => h) (Or.inl ⟨by rfl, ?_⟩) hH ?_
        rotate_left
        · intro w hSw
          clear hSw
          go_simp
          try with_reducible rfl
        simp only [Act.put, List.setIfInBounds_toArray, List.set_cons_zero, List.set_cons_succ]
        refine wpAnyH_ready (rs := [9]) (by kernel_rfl) (by simp) ?_
        refine AllReadyH.cons (o := { dst := none, op := .store _ (.tmp 6) (.tmp 13), type := _, pos := _, after := _, guard := _ }) rfl (fun K hK => ?_) AllReadyH.nil
        rw [if_pos (by rfl)]
        refine wp_store_mid _ _ _ rfl u20q.heap.size _ u.all.toArray rfl rfl (h370q.out.thereOf u) (HZ.out u) (u.all_all) ?_
        simp only [Act.put]
        have h372q : Hid (Gd n w (u364q.setCells u20q.heap.size 0 u.all)) := h365q.out.asideAll (by omega) u
        have h373q : Hid (Bo (u364q.setCells u20q.heap.size 0 u.all) n (wl c)) := h366q.out.asideAll (by omega) u
        have h374q : Hid (Bo (u364q.setCells u20q.heap.size 0 u.all) (n + 1) [.int .i64 o, .int .i64 k, .int .i64 x]) := h367q.out.asideAll (by omega) u
        have h375q : Hid (Bo (u364q.setCells u20q.heap.size 0 u.all) (n + 2) (wl wz)) := h368q.out.asideAll (by omega) u
        have h376q : Hid (Bo (u364q.setCells u20q.heap.size 0 u.all) (n + 3) [.int .i64 0, .int .i64 0]) := h369q.out.asideAll (by omega) u
        have h377q : Hid (TAt (u364q.setCells u20q.heap.size 0 u.all) u20q.heap.size u) := h370q.out.setAll u
        have h378q : Hid (Bo (u364q.setCells u20q.heap.size 0 u.all) u306q.heap.size [.int .i64 0, .int .i64 0]) := h371q.out.asideAll (by omega) u
        clear h365q h366q h367q h368q h369q h370q h371q
        refine hK.out _ _ ⟨h373q.out, h374q.out⟩ (fun hH => ?_)
        clear hK K
        generalize (u364q.setCells u20q.heap.size 0 u.all) = u379q at h372q h373q h374q h375q h376q h377q h378q hH ⊢
        try simp only [Act.put, List.setIfInBounds_toArray, List.set_cons_zero, List.set_cons_succ]
        refine wpAnyH_ready (rs := [10]) (by kernel_rfl) (by simp) ?_
        refine AllReadyH.cons (o := { dst := none, op := .store _ (.tmp 7) (.tmp 14), type := _, pos := _, after := _, guard := _ }) rfl (fun K hK => ?_) AllReadyH.nil
        rw [if_pos (by rfl)]
        refine wp_store_mid _ _ _ rfl u306q.heap.size _ #[.int .i64 (cc), .int .i64 (y)] rfl rfl h378q.out.there2 HA.out (two_one _ _) ?_
        simp only [Act.put]
        have h380q : Hid (Gd n w (u379q.setCells u306q.heap.size 0 [.int .i64 (cc), .int .i64 (y)])) := h372q.out.asideL (by omega) 0 [.int .i64 (cc), .int .i64 (y)]
        have h381q : Hid (Bo (u379q.setCells u306q.heap.size 0 [.int .i64 (cc), .int .i64 (y)]) n (wl c)) := h373q.out.asideL (by omega) 0 [.int .i64 (cc), .int .i64 (y)]
        have h382q : Hid (Bo (u379q.setCells u306q.heap.size 0 [.int .i64 (cc), .int .i64 (y)]) (n + 1) [.int .i64 o, .int .i64 k, .int .i64 x]) := h374q.out.asideL (by omega) 0 [.int .i64 (cc), .int .i64 (y)]
        have h383q : Hid (Bo (u379q.setCells u306q.heap.size 0 [.int .i64 (cc), .int .i64 (y)]) (n + 2) (wl wz)) := h375q.out.asideL (by omega) 0 [.int .i64 (cc), .int .i64 (y)]
        have h384q : Hid (Bo (u379q.setCells u306q.heap.size 0 [.int .i64 (cc), .int .i64 (y)]) (n + 3) [.int .i64 0, .int .i64 0]) := h376q.out.asideL (by omega) 0 [.int .i64 (cc), .int .i64 (y)]
        have h385q : Hid (TAt (u379q.setCells u306q.heap.size 0 [.int .i64 (cc), .int .i64 (y)]) u20q.heap.size u) := h377q.out.asideL (by omega) 0 [.int .i64 (cc), .int .i64 (y)]
        have h386q : Hid (Bo (u379q.setCells u306q.heap.size 0 [.int .i64 (cc), .int .i64 (y)]) u306q.heap.size [.int .i64 (cc), .int .i64 (y)]) := h378q.out.set2 (.int .i64 (cc)) (.int .i64 (y))
        clear h372q h373q h374q h375q h376q h377q h378q
        refine hK.out _ _ ⟨h381q.out, h382q.out⟩ (fun hH => ?_)
        clear hK K
        generalize (u379q.setCells u306q.heap.size 0 [.int .i64 (cc), .int .i64 (y)]) = u387q at h380q h381q h382q h383q h384q h385q h386q hH ⊢
        try simp only [Act.put, List.setIfInBounds_toArray, List.set_cons_zero, List.set_cons_succ]
        refine wpAnyH_done (by kernel_rfl) ?_ _
        go_wp2_with fail
        go_meet
        case rel => exact ⟨u20q.heap.size, u306q.heap.size, rfl, rfl, h380q, h383q, h384q, h385q, h386q, (by omega)⟩
      refine AllReadyH.cons (o := { dst := some 7, op := .alloc _, type := _, pos := _, after := _, guard := _ }) rfl (fun K hK => ?_) AllReadyH.nil
      have l388q : n ≤ u305q.heap.size := h299q.out.le
      have l389q : n < u305q.heap.size := h300q.out.lt
      have l390q : (n + 1) < u305q.heap.size := h301q.out.lt
      have l391q : (n + 2) < u305q.heap.size := h302q.out.lt
      have l392q : (n + 3) < u305q.heap.size := h303q.out.lt
      have l393q : u20q.heap.size < u305q.heap.size := h304q.out.lt
      go_simp
      have h394q : Hid (Gd n w (u305q.alloc (.cells #[.int .i64 0, .int .i64 0] 38))) := h299q.out.new (.cells #[.int .i64 0, .int .i64 0] 38)
      have h395q : Hid (Bo (u305q.alloc (.cells #[.int .i64 0, .int .i64 0] 38)) n (wl c)) := h300q.out.new (.cells #[.int .i64 0, .int .i64 0] 38)
      have h396q : Hid (Bo (u305q.alloc (.cells #[.int .i64 0, .int .i64 0] 38)) (n + 1) [.int .i64 o, .int .i64 k, .int .i64 x]) := h301q.out.new (.cells #[.int .i64 0, .int .i64 0] 38)
      have h397q : Hid (Bo (u305q.alloc (.cells #[.int .i64 0, .int .i64 0] 38)) (n + 2) (wl wz)) := h302q.out.new (.cells #[.int .i64 0, .int .i64 0] 38)
      have h398q : Hid (Bo (u305q.alloc (.cells #[.int .i64 0, .int .i64 0] 38)) (n + 3) [.int .i64 0, .int .i64 0]) := h303q.out.new (.cells #[.int .i64 0, .int .i64 0] 38)
      have h399q : Hid (TAt (u305q.alloc (.cells #[.int .i64 0, .int .i64 0] 38)) u20q.heap.size Tb.zero) := h304q.out.new (.cells #[.int .i64 0, .int .i64 0] 38)
      clear h299q h300q h301q h302q h303q h304q
      have h400q : Hid (Bo (u305q.alloc (.cells #[.int .i64 0, .int .i64 0] 38)) u305q.heap.size [.int .i64 0, .int .i64 0]) := Bo.born u305q [.int .i64 0, .int .i64 0] 38 (by simp)
      refine hK.out _ _ ⟨h395q.out, h396q.out⟩ (fun hH => ?_)
      clear hK K
      generalize (u305q.alloc (.cells #[.int .i64 0, .int .i64 0] 38)) = u401q at h394q h395q h396q h397q h398q h399q h400q hH ⊢
      try simp only [Act.put, List.setIfInBounds_toArray, List.set_cons_zero, List.set_cons_succ]
      refine wpAnyH_ready (rs := [1]) (by kernel_rfl) (by simp) ?_
      refine AllReadyH.cons (o := { dst := some 10, op := _, type := _, pos := _, after := _, guard := _ }) rfl (fun K hK => ?_) AllReadyH.nil
      go_simp
      refine (S.out _).mono ?_
      rintro e u402q ⟨rfl, hb⟩
      have h403q : Hid (Gd n w u402q) := h394q.out.later hb
      have h404q : Hid (Bo u402q n (wl c)) := h395q.out.later hb
      have h405q : Hid (Bo u402q (n + 1) [.int .i64 o, .int .i64 k, .int .i64 x]) := h396q.out.later hb
      have h406q : Hid (Bo u402q (n + 2) (wl wz)) := h397q.out.later hb
      have h407q : Hid (Bo u402q (n + 3) [.int .i64 0, .int .i64 0]) := h398q.out.later hb
      have h408q : Hid (TAt u402q u20q.heap.size Tb.zero) := h399q.out.later hb
      have h409q : Hid (Bo u402q u305q.heap.size [.int .i64 0, .int .i64 0]) := h400q.out.later hb
      clear h394q h395q h396q h397q h398q h399q h400q
      clear hb
      go_wp2_with fail
      refine hK.out _ _ ⟨h404q.out, h405q.out⟩ (fun hH => ?_)
      clear hK K
      try simp only [Act.put, List.setIfInBounds_toArray, List.set_cons_zero, List.set_cons_succ]
      refine wpAnyH_ready (rs := [3]) (by kernel_rfl) (by simp) ?_
      refine AllReadyH.cons (o := { dst := some 12, op := _, type := _, pos := _, after := _, guard := _ }) rfl (fun K hK => ?_) AllReadyH.nil
      go_simp
      refine (D.out _).mono ?_
      rintro e u410q ⟨rfl, hb⟩
      have h411q : Hid (Gd n w u410q) := h403q.out.later hb
      have h412q : Hid (Bo u410q n (wl c)) := h404q.out.later hb
      have h413q : Hid (Bo u410q (n + 1) [.int .i64 o, .int .i64 k, .int .i64 x]) := h405q.out.later hb
      have h414q : Hid (Bo u410q (n + 2) (wl wz)) := h406q.out.later hb
      have h415q : Hid (Bo u410q (n + 3) [.int .i64 0, .int .i64 0]) := h407q.out.later hb
      have h416q : Hid (TAt u410q u20q.heap.size Tb.zero) := h408q.out.later hb
      have h417q : Hid (Bo u410q u305q.heap.size [.int .i64 0, .int .i64 0]) := h409q.out.later hb
      clear h403q h404q h405q h406q h407q h408q h409q
      clear hb
      go_wp2_with fail
      refine hK.out _ _ ⟨h412q.out, h413q.out⟩ (fun hH => ?_)
      clear hK K
      try simp only [Act.put, List.setIfInBounds_toArray, List.set_cons_zero, List.set_cons_succ]
      refine wpAnyH_take (i := 4) (oi := { dst := some 8, op := .move (.tmp 12), type := _, pos := _, after := _, guard := _ }) (v := ?_) rfl (by kernel_rfl) (by kernel_rfl) (by kernel_rfl) (fun _ _ _ h => h) (Or.inl ⟨by rfl, ?_⟩) hH ?_
      rotate_left
      · intro w hSw
        clear hSw
        go_simp
        try with_reducible rfl
      simp only [Act.put, List.setIfInBounds_toArray, List.set_cons_zero, List.set_cons_succ]
      refine wpAnyH_take (i := 5) (oi := { dst := some 13, op := .extract (.tmp 8) 0, type := _, pos := _, after := _, guard := _ }) (v := ?_) rfl (by kernel_rfl) (by kernel_rfl) (by kernel_rfl) (fun _ _ _ h => h) (Or.inl ⟨by rfl, ?_⟩) hH ?_
      rotate_left
      · intro w hSw
        clear hSw
        go_simp
        try with_reducible rfl
      simp only [Act.put, List.setIfInBounds_toArray, List.set_cons_zero, List.set_cons_succ]
      refine wpAnyH_take (i := 6) (oi := { dst := some 14, op := .extract (.tmp 8) 1, type := _, pos := _, after := _, guard := _ }) (v := ?_) rfl (by kernel_rfl) (by kernel_rfl) (by kernel_rfl) (fun _ _ _ h => h) (Or.inl ⟨by rfl, ?_⟩) hH ?_
      rotate_left
      · intro w hSw
        clear hSw
        go_simp
        try with_reducible rfl
      simp only [Act.put, List.setIfInBounds_toArray, List.set_cons_zero, List.set_cons_succ]
      refine wpAnyH_ready (rs := [9]) (by kernel_rfl) (by simp) ?_
      refine AllReadyH.cons (o := { dst := none, op := .store _ (.tmp 6) (.tmp 13), type := _, pos := _, after := _, guard := _ }) rfl (fun K hK => ?_) AllReadyH.nil
      rw [if_pos (by rfl)]
      refine wp_store_mid _ _ _ rfl u20q.heap.size _ u.all.toArray rfl rfl (h416q.out.thereOf u) (HZ.out u) (u.all_all) ?_
      simp only [Act.put]
      have h418q : Hid (Gd n w (u410q.setCells u20q.heap.size 0 u.all)) := h411q.out.asideAll (by omega) u
      have h419q : Hid (Bo (u410q.setCells u20q.heap.size 0 u.all) n (wl c)) := h412q.out.asideAll (by omega) u
      have h420q : Hid (Bo (u410q.setCells u20q.heap.size 0 u.all) (n + 1) [.int .i64 o, .int .i64 k, .int .i64 x]) := h413q.out.asideAll (by omega) u
      have h421q : Hid (Bo (u410q.setCells u20q.heap.size 0 u.all) (n + 2) (wl wz)) := h414q.out.asideAll (by omega) u
      have h422q : Hid (Bo (u410q.setCells u20q.heap.size 0 u.all) (n + 3) [.int .i64 0, .int .i64 0]) := h415q.out.asideAll (by omega) u
      have h423q : Hid (TAt (u410q.setCells u20q.heap.size 0 u.all) u20q.heap.size u) := h416q.out.setAll u
      have h424q : Hid (Bo (u410q.setCells u20q.heap.size 0 u.all) u305q.heap.size [.int .i64 0, .int .i64 0]) := h417q.out.asideAll (by omega) u
      clear h411q h412q h413q h414q h415q h416q h417q
      refine hK.out _ _ ⟨h419q.out, h420q.out⟩ (fun hH => ?_)
      clear hK K
      generalize (u410q.setCells u20q.heap.size 0 u.all) = u425q at h418q h419q h420q h421q h422q h423q h424q hH ⊢
      try simp only [Act.put, List.setIfInBounds_toArray, List.set_cons_zero, List.set_cons_succ]
      refine wpAnyH_ready (rs := [10]) (by kernel_rfl) (by simp) ?_
      refine AllReadyH.cons (o := { dst := none, op := .store _ (.tmp 7) (.tmp 14), type := _, pos := _, after := _, guard := _ }) rfl (fun K hK => ?_) AllReadyH.nil
      rw [if_pos (by rfl)]
      refine wp_store_mid _ _ _ rfl u305q.heap.size _ #[.int .i64 (cc), .int .i64 (y)] rfl rfl h424q.out.there2 HA.out (two_one _ _) ?_
      simp only [Act.put]
      have h426q : Hid (Gd n w (u425q.setCells u305q.heap.size 0 [.int .i64 (cc), .int .i64 (y)])) := h418q.out.asideL (by omega) 0 [.int .i64 (cc), .int .i64 (y)]
      have h427q : Hid (Bo (u425q.setCells u305q.heap.size 0 [.int .i64 (cc), .int .i64 (y)]) n (wl c)) := h419q.out.asideL (by omega) 0 [.int .i64 (cc), .int .i64 (y)]
      have h428q : Hid (Bo (u425q.setCells u305q.heap.size 0 [.int .i64 (cc), .int .i64 (y)]) (n + 1) [.int .i64 o, .int .i64 k, .int .i64 x]) := h420q.out.asideL (by omega) 0 [.int .i64 (cc), .int .i64 (y)]
      have h429q : Hid (Bo (u425q.setCells u305q.heap.size 0 [.int .i64 (cc), .int .i64 (y)]) (n + 2) (wl wz)) := h421q.out.asideL (by omega) 0 [.int .i64 (cc), .int .i64 (y)]
      have h430q : Hid (Bo (u425q.setCells u305q.heap.size 0 [.int .i64 (cc), .int .i64 (y)]) (n + 3) [.int .i64 0, .int .i64 0]) := h422q.out.asideL (by omega) 0 [.int .i64 (cc), .int .i64 (y)]
      have h431q : Hid (TAt (u425q.setCells u305q.heap.size 0 [.int .i64 (cc), .int .i64 (y)]) u20q.heap.size u) := h423q.out.asideL (by omega) 0 [.int .i64 (cc), .int .i64 (y)]
      have h432q : Hid (Bo (u425q.setCells u305q.heap.size 0 [.int .i64 (cc), .int .i64 (y)]) u305q.heap.size [.int .i64 (cc), .int .i64 (y)]) := h424q.out.set2 (.int .i64 (cc)) (.int .i64 (y))
      clear h418q h419q h420q h421q h422q h423q h424q
      refine hK.out _ _ ⟨h427q.out, h428q.out⟩ (fun hH => ?_)
      clear hK K
      generalize (u425q.setCells u305q.heap.size 0 [.int .i64 (cc), .int .i64 (y)]) = u433q at h426q h427q h428q h429q h430q h431q h432q hH ⊢
      try simp only [Act.put, List.setIfInBounds_toArray, List.set_cons_zero, List.set_cons_succ]
      refine wpAnyH_done (by kernel_rfl) ?_ _
      go_wp2_with fail
      go_meet
      case rel => exact ⟨u20q.heap.size, u305q.heap.size, rfl, rfl, h426q, h429q, h430q, h431q, h432q, (by omega)⟩
    refine AllReadyH.cons (o := { dst := some 7, op := .alloc _, type := _, pos := _, after := _, guard := _ }) rfl (fun K hK => ?_) AllReadyH.nil
    have l434q : n ≤ u20q.heap.size := h15q.out.le
    have l435q : n < u20q.heap.size := h16q.out.lt
    have l436q : (n + 1) < u20q.heap.size := h17q.out.lt
    have l437q : (n + 2) < u20q.heap.size := h18q.out.lt
    have l438q : (n + 3) < u20q.heap.size := h19q.out.lt
    go_simp
    have h439q : Hid (Gd n w (u20q.alloc (.cells #[.int .i64 0, .int .i64 0] 38))) := h15q.out.new (.cells #[.int .i64 0, .int .i64 0] 38)
    have h440q : Hid (Bo (u20q.alloc (.cells #[.int .i64 0, .int .i64 0] 38)) n (wl c)) := h16q.out.new (.cells #[.int .i64 0, .int .i64 0] 38)
    have h441q : Hid (Bo (u20q.alloc (.cells #[.int .i64 0, .int .i64 0] 38)) (n + 1) [.int .i64 o, .int .i64 k, .int .i64 x]) := h17q.out.new (.cells #[.int .i64 0, .int .i64 0] 38)
    have h442q : Hid (Bo (u20q.alloc (.cells #[.int .i64 0, .int .i64 0] 38)) (n + 2) (wl wz)) := h18q.out.new (.cells #[.int .i64 0, .int .i64 0] 38)
    have h443q : Hid (Bo (u20q.alloc (.cells #[.int .i64 0, .int .i64 0] 38)) (n + 3) [.int .i64 0, .int .i64 0]) := h19q.out.new (.cells #[.int .i64 0, .int .i64 0] 38)
    clear h15q h16q h17q h18q h19q
    have h444q : Hid (Bo (u20q.alloc (.cells #[.int .i64 0, .int .i64 0] 38)) u20q.heap.size [.int .i64 0, .int .i64 0]) := Bo.born u20q [.int .i64 0, .int .i64 0] 38 (by simp)
    refine hK.out _ _ ⟨h440q.out, h441q.out⟩ (fun hH => ?_)
    clear hK K
    generalize (u20q.alloc (.cells #[.int .i64 0, .int .i64 0] 38)) = u445q at h439q h440q h441q h442q h443q h444q hH ⊢
    try simp only [Act.put, List.setIfInBounds_toArray, List.set_cons_zero, List.set_cons_succ]
    refine wpAnyH_ready (rs := [1, 7]) (by kernel_rfl) (by simp) ?_
    refine AllReadyH.cons (o := { dst := some 10, op := _, type := _, pos := _, after := _, guard := _ }) rfl (fun K hK => ?_) ?_
    · go_simp
      refine (S.out _).mono ?_
      rintro e u446q ⟨rfl, hb⟩
      have h447q : Hid (Gd n w u446q) := h439q.out.later hb
      have h448q : Hid (Bo u446q n (wl c)) := h440q.out.later hb
      have h449q : Hid (Bo u446q (n + 1) [.int .i64 o, .int .i64 k, .int .i64 x]) := h441q.out.later hb
      have h450q : Hid (Bo u446q (n + 2) (wl wz)) := h442q.out.later hb
      have h451q : Hid (Bo u446q (n + 3) [.int .i64 0, .int .i64 0]) := h443q.out.later hb
      have h452q : Hid (Bo u446q u20q.heap.size [.int .i64 0, .int .i64 0]) := h444q.out.later hb
      clear h439q h440q h441q h442q h443q h444q
      clear hb
      go_wp2_with fail
      refine hK.out _ _ ⟨h448q.out, h449q.out⟩ (fun hH => ?_)
      clear hK K
      try simp only [Act.put, List.setIfInBounds_toArray, List.set_cons_zero, List.set_cons_succ]
      refine wpAnyH_ready (rs := [3, 7]) (by kernel_rfl) (by simp) ?_
      refine AllReadyH.cons (o := { dst := some 12, op := _, type := _, pos := _, after := _, guard := _ }) rfl (fun K hK => ?_) ?_
      · go_simp
        refine (D.out _).mono ?_
        rintro e u453q ⟨rfl, hb⟩
        have h454q : Hid (Gd n w u453q) := h447q.out.later hb
        have h455q : Hid (Bo u453q n (wl c)) := h448q.out.later hb
        have h456q : Hid (Bo u453q (n + 1) [.int .i64 o, .int .i64 k, .int .i64 x]) := h449q.out.later hb
        have h457q : Hid (Bo u453q (n + 2) (wl wz)) := h450q.out.later hb
        have h458q : Hid (Bo u453q (n + 3) [.int .i64 0, .int .i64 0]) := h451q.out.later hb
        have h459q : Hid (Bo u453q u20q.heap.size [.int .i64 0, .int .i64 0]) := h452q.out.later hb
        clear h447q h448q h449q h450q h451q h452q
        clear hb
        go_wp2_with fail
        refine hK.out _ _ ⟨h455q.out, h456q.out⟩ (fun hH => ?_)
        clear hK K
        try simp only [Act.put, List.setIfInBounds_toArray, List.set_cons_zero, List.set_cons_succ]
        refine wpAnyH_take (i := 4) (oi := { dst := some 8, op := .move (.tmp 12), type := _, pos := _, after := _, guard := _ }) (v := ?_) rfl (by kernel_rfl) (by kernel_rfl) (by kernel_rfl) (fun _ _ _ h => h) (Or.inl ⟨by rfl, ?_⟩) hH ?_
        rotate_left
        · intro w hSw
          clear hSw
          go_simp
          try with_reducible rfl
        simp only [Act.put, List.setIfInBounds_toArray, List.set_cons_zero, List.set_cons_succ]
        refine wpAnyH_take (i := 5) (oi := { dst := some 13, op := .extract (.tmp 8) 0, type := _, pos := _, after := _, guard := _ }) (v := ?_) rfl (by kernel_rfl) (by kernel_rfl) (by kernel_rfl) (fun _ _ _ h => h) (Or.inl ⟨by rfl, ?_⟩) hH ?_
        rotate_left
        · intro w hSw
          clear hSw
          go_simp
          try with_reducible rfl
        simp only [Act.put, List.setIfInBounds_toArray, List.set_cons_zero, List.set_cons_succ]
        refine wpAnyH_take (i := 6) (oi := { dst := some 14, op := .extract (.tmp 8) 1, type := _, pos := _, after := _, guard := _ }) (v := ?_) rfl (by kernel_rfl) (by kernel_rfl) (by kernel_rfl) (fun _ _ _ h => h) (Or.inl ⟨by rfl, ?_⟩) hH ?_
        rotate_left
        · intro w hSw
          clear hSw
          go_simp
          try with_reducible rfl
        simp only [Act.put, List.setIfInBounds_toArray, List.set_cons_zero, List.set_cons_succ]
        refine wpAnyH_ready (rs := [7]) (by kernel_rfl) (by simp) ?_
        refine AllReadyH.cons (o := { dst := some 6, op := .alloc _, type := _, pos := _, after := _, guard := _ }) rfl (fun K hK => ?_) AllReadyH.nil
        have l460q : n ≤ u453q.heap.size := h454q.out.le
        have l461q : n < u453q.heap.size := h455q.out.lt
        have l462q : (n + 1) < u453q.heap.size := h456q.out.lt
        have l463q : (n + 2) < u453q.heap.size := h457q.out.lt
        have l464q : (n + 3) < u453q.heap.size := h458q.out.lt
        have l465q : u20q.heap.size < u453q.heap.size := h459q.out.lt
        go_simp
        have h466q : Hid (Gd n w (u453q.alloc (.cells #[.int .i64 0, .int .i64 0, .int .i64 0, .int .i64 0, .int .i64 0, .int .i64 0, .int .i64 0, .int .i64 0, .int .i64 0, .int .i64 0, .int .i64 0, .int .i64 0, .int .i64 0, .int .i64 0, .int .i64 0, .int .i64 0] 92))) := h454q.out.new (.cells #[.int .i64 0, .int .i64 0, .int .i64 0, .int .i64 0, .int .i64 0, .int .i64 0, .int .i64 0, .int .i64 0, .int .i64 0, .int .i64 0, .int .i64 0, .int .i64 0, .int .i64 0, .int .i64 0, .int .i64 0, .int .i64 0] 92)
        have h467q : Hid (Bo (u453q.alloc (.cells #[.int .i64 0, .int .i64 0, .int .i64 0, .int .i64 0, .int .i64 0, .int .i64 0, .int .i64 0, .int .i64 0, .int .i64 0, .int .i64 0, .int .i64 0, .int .i64 0, .int .i64 0, .int .i64 0, .int .i64 0, .int .i64 0] 92)) n (wl c)) := h455q.out.new (.cells #[.int .i64 0, .int .i64 0, .int .i64 0, .int .i64 0, .int .i64 0, .int .i64 0, .int .i64 0, .int .i64 0, .int .i64 0, .int .i64 0, .int .i64 0, .int .i64 0, .int .i64 0, .int .i64 0, .int .i64 0, .int .i64 0] 92)
        have h468q : Hid (Bo (u453q.alloc (.cells #[.int .i64 0, .int .i64 0, .int .i64 0, .int .i64 0, .int .i64 0, .int .i64 0, .int .i64 0, .int .i64 0, .int .i64 0, .int .i64 0, .int .i64 0, .int .i64 0, .int .i64 0, .int .i64 0, .int .i64 0, .int .i64 0] 92)) (n + 1) [.int .i64 o, .int .i64 k, .int .i64 x]) := h456q.out.new (.cells #[.int .i64 0, .int .i64 0, .int .i64 0, .int .i64 0, .int .i64 0, .int .i64 0, .int .i64 0, .int .i64 0, .int .i64 0, .int .i64 0, .int .i64 0, .int .i64 0, .int .i64 0, .int .i64 0, .int .i64 0, .int .i64 0] 92)
        have h469q : Hid (Bo (u453q.alloc (.cells #[.int .i64 0, .int .i64 0, .int .i64 0, .int .i64 0, .int .i64 0, .int .i64 0, .int .i64 0, .int .i64 0, .int .i64 0, .int .i64 0, .int .i64 0, .int .i64 0, .int .i64 0, .int .i64 0, .int .i64 0, .int .i64 0] 92)) (n + 2) (wl wz)) := h457q.out.new (.cells #[.int .i64 0, .int .i64 0, .int .i64 0, .int .i64 0, .int .i64 0, .int .i64 0, .int .i64 0, .int .i64 0, .int .i64 0, .int .i64 0, .int .i64 0, .int .i64 0, .int .i64 0, .int .i64 0, .int .i64 0, .int .i64 0] 92)
        have h470q : Hid (Bo (u453q.alloc (.cells #[.int .i64 0, .int .i64 0, .int .i64 0, .int .i64 0, .int .i64 0, .int .i64 0, .int .i64 0, .int .i64 0, .int .i64 0, .int .i64 0, .int .i64 0, .int .i64 0, .int .i64 0, .int .i64 0, .int .i64 0, .int .i64 0] 92)) (n + 3) [.int .i64 0, .int .i64 0]) := h458q.out.new (.cells #[.int .i64 0, .int .i64 0, .int .i64 0, .int .i64 0, .int .i64 0, .int .i64 0, .int .i64 0, .int .i64 0, .int .i64 0, .int .i64 0, .int .i64 0, .int .i64 0, .int .i64 0, .int .i64 0, .int .i64 0, .int .i64 0] 92)
        have h471q : Hid (Bo (u453q.alloc (.cells #[.int .i64 0, .int .i64 0, .int .i64 0, .int .i64 0, .int .i64 0, .int .i64 0, .int .i64 0, .int .i64 0, .int .i64 0, .int .i64 0, .int .i64 0, .int .i64 0, .int .i64 0, .int .i64 0, .int .i64 0, .int .i64 0] 92)) u20q.heap.size [.int .i64 0, .int .i64 0]) := h459q.out.new (.cells #[.int .i64 0, .int .i64 0, .int .i64 0, .int .i64 0, .int .i64 0, .int .i64 0, .int .i64 0, .int .i64 0, .int .i64 0, .int .i64 0, .int .i64 0, .int .i64 0, .int .i64 0, .int .i64 0, .int .i64 0, .int .i64 0] 92)
        clear h454q h455q h456q h457q h458q h459q
        have h472q : Hid (TAt (u453q.alloc (.cells #[.int .i64 0, .int .i64 0, .int .i64 0, .int .i64 0, .int .i64 0, .int .i64 0, .int .i64 0, .int .i64 0, .int .i64 0, .int .i64 0, .int .i64 0, .int .i64 0, .int .i64 0, .int .i64 0, .int .i64 0, .int .i64 0] 92)) u453q.heap.size Tb.zero) := TAt.bornZero u453q 92 (by simp)
        refine hK.out _ _ ⟨h467q.out, h468q.out⟩ (fun hH => ?_)
        clear hK K
        generalize (u453q.alloc (.cells #[.int .i64 0, .int .i64 0, .int .i64 0, .int .i64 0, .int .i64 0, .int .i64 0, .int .i64 0, .int .i64 0, .int .i64 0, .int .i64 0, .int .i64 0, .int .i64 0, .int .i64 0, .int .i64 0, .int .i64 0, .int .i64 0] 92)) = u473q at h466q h467q h468q h469q h470q h471q h472q hH ⊢
        try simp only [Act.put, List.setIfInBounds_toArray, List.set_cons_zero, List.set_cons_succ]
        refine wpAnyH_ready (rs := [9]) (by kernel_rfl) (by simp) ?_
        refine AllReadyH.cons (o := { dst := none, op := .store _ (.tmp 6) (.tmp 13), type := _, pos := _, after := _, guard := _ }) rfl (fun K hK => ?_) AllReadyH.nil
        rw [if_pos (by rfl)]
        refine wp_store_mid _ _ _ rfl u453q.heap.size _ u.all.toArray rfl rfl (h472q.out.thereOf u) (HZ.out u) (u.all_all) ?_
        simp only [Act.put]
        have h474q : Hid (Gd n w (u473q.setCells u453q.heap.size 0 u.all)) := h466q.out.asideAll (by omega) u
        have h475q : Hid (Bo (u473q.setCells u453q.heap.size 0 u.all) n (wl c)) := h467q.out.asideAll (by omega) u
        have h476q : Hid (Bo (u473q.setCells u453q.heap.size 0 u.all) (n + 1) [.int .i64 o, .int .i64 k, .int .i64 x]) := h468q.out.asideAll (by omega) u
        have h477q : Hid (Bo (u473q.setCells u453q.heap.size 0 u.all) (n + 2) (wl wz)) := h469q.out.asideAll (by omega) u
        have h478q : Hid (Bo (u473q.setCells u453q.heap.size 0 u.all) (n + 3) [.int .i64 0, .int .i64 0]) := h470q.out.asideAll (by omega) u
        have h479q : Hid (Bo (u473q.setCells u453q.heap.size 0 u.all) u20q.heap.size [.int .i64 0, .int .i64 0]) := h471q.out.asideAll (by omega) u
        have h480q : Hid (TAt (u473q.setCells u453q.heap.size 0 u.all) u453q.heap.size u) := h472q.out.setAll u
        clear h466q h467q h468q h469q h470q h471q h472q
        refine hK.out _ _ ⟨h475q.out, h476q.out⟩ (fun hH => ?_)
        clear hK K
        generalize (u473q.setCells u453q.heap.size 0 u.all) = u481q at h474q h475q h476q h477q h478q h479q h480q hH ⊢
        try simp only [Act.put, List.setIfInBounds_toArray, List.set_cons_zero, List.set_cons_succ]
        refine wpAnyH_ready (rs := [10]) (by kernel_rfl) (by simp) ?_
        refine AllReadyH.cons (o := { dst := none, op := .store _ (.tmp 7) (.tmp 14), type := _, pos := _, after := _, guard := _ }) rfl (fun K hK => ?_) AllReadyH.nil
        rw [if_pos (by rfl)]
        refine wp_store_mid _ _ _ rfl u20q.heap.size _ #[.int .i64 (cc), .int .i64 (y)] rfl rfl h479q.out.there2 HA.out (two_one _ _) ?_
        simp only [Act.put]
        have h482q : Hid (Gd n w (u481q.setCells u20q.heap.size 0 [.int .i64 (cc), .int .i64 (y)])) := h474q.out.asideL (by omega) 0 [.int .i64 (cc), .int .i64 (y)]
        have h483q : Hid (Bo (u481q.setCells u20q.heap.size 0 [.int .i64 (cc), .int .i64 (y)]) n (wl c)) := h475q.out.asideL (by omega) 0 [.int .i64 (cc), .int .i64 (y)]
        have h484q : Hid (Bo (u481q.setCells u20q.heap.size 0 [.int .i64 (cc), .int .i64 (y)]) (n + 1) [.int .i64 o, .int .i64 k, .int .i64 x]) := h476q.out.asideL (by omega) 0 [.int .i64 (cc), .int .i64 (y)]
        have h485q : Hid (Bo (u481q.setCells u20q.heap.size 0 [.int .i64 (cc), .int .i64 (y)]) (n + 2) (wl wz)) := h477q.out.asideL (by omega) 0 [.int .i64 (cc), .int .i64 (y)]
        have h486q : Hid (Bo (u481q.setCells u20q.heap.size 0 [.int .i64 (cc), .int .i64 (y)]) (n + 3) [.int .i64 0, .int .i64 0]) := h478q.out.asideL (by omega) 0 [.int .i64 (cc), .int .i64 (y)]
        have h487q : Hid (Bo (u481q.setCells u20q.heap.size 0 [.int .i64 (cc), .int .i64 (y)]) u20q.heap.size [.int .i64 (cc), .int .i64 (y)]) := h479q.out.set2 (.int .i64 (cc)) (.int .i64 (y))
        have h488q : Hid (TAt (u481q.setCells u20q.heap.size 0 [.int .i64 (cc), .int .i64 (y)]) u453q.heap.size u) := h480q.out.asideL (by omega) 0 [.int .i64 (cc), .int .i64 (y)]
        clear h474q h475q h476q h477q h478q h479q h480q
        refine hK.out _ _ ⟨h483q.out, h484q.out⟩ (fun hH => ?_)
        clear hK K
        generalize (u481q.setCells u20q.heap.size 0 [.int .i64 (cc), .int .i64 (y)]) = u489q at h482q h483q h484q h485q h486q h487q h488q hH ⊢
        try simp only [Act.put, List.setIfInBounds_toArray, List.set_cons_zero, List.set_cons_succ]
        refine wpAnyH_done (by kernel_rfl) ?_ _
        go_wp2_with fail
        go_meet
        case rel => exact ⟨u453q.heap.size, u20q.heap.size, rfl, rfl, h482q, h485q, h486q, h488q, h487q, (by omega)⟩
      refine AllReadyH.cons (o := { dst := some 6, op := .alloc _, type := _, pos := _, after := _, guard := _ }) rfl (fun K hK => ?_) AllReadyH.nil
      have l490q : n ≤ u446q.heap.size := h447q.out.le
      have l491q : n < u446q.heap.size := h448q.out.lt
      have l492q : (n + 1) < u446q.heap.size := h449q.out.lt
      have l493q : (n + 2) < u446q.heap.size := h450q.out.lt
      have l494q : (n + 3) < u446q.heap.size := h451q.out.lt
      have l495q : u20q.heap.size < u446q.heap.size := h452q.out.lt
      go_simp
      have h496q : Hid (Gd n w (u446q.alloc (.cells #[.int .i64 0, .int .i64 0, .int .i64 0, .int .i64 0, .int .i64 0, .int .i64 0, .int .i64 0, .int .i64 0, .int .i64 0, .int .i64 0, .int .i64 0, .int .i64 0, .int .i64 0, .int .i64 0, .int .i64 0, .int .i64 0] 92))) := h447q.out.new (.cells #[.int .i64 0, .int .i64 0, .int .i64 0, .int .i64 0, .int .i64 0, .int .i64 0, .int .i64 0, .int .i64 0, .int .i64 0, .int .i64 0, .int .i64 0, .int .i64 0, .int .i64 0, .int .i64 0, .int .i64 0, .int .i64 0] 92)
      have h497q : Hid (Bo (u446q.alloc (.cells #[.int .i64 0, .int .i64 0, .int .i64 0, .int .i64 0, .int .i64 0, .int .i64 0, .int .i64 0, .int .i64 0, .int .i64 0, .int .i64 0, .int .i64 0, .int .i64 0, .int .i64 0, .int .i64 0, .int .i64 0, .int .i64 0] 92)) n (wl c)) := h448q.out.new (.cells #[.int .i64 0, .int .i64 0, .int .i64 0, .int .i64 0, .int .i64 0, .int .i64 0, .int .i64 0, .int .i64 0, .int .i64 0, .int .i64 0, .int .i64 0, .int .i64 0, .int .i64 0, .int .i64 0, .int .i64 0, .int .i64 0] 92)
      have h498q : Hid (Bo (u446q.alloc (.cells #[.int .i64 0, .int .i64 0, .int .i64 0, .int .i64 0, .int .i64 0, .int .i64 0, .int .i64 0, .int .i64 0, .int .i64 0, .int .i64 0, .int .i64 0, .int .i64 0, .int .i64 0, .int .i64 0, .int .i64 0, .int .i64 0] 92)) (n + 1) [.int .i64 o, .int .i64 k, .int .i64 x]) := h449q.out.new (.cells #[.int .i64 0, .int .i64 0, .int .i64 0, .int .i64 0, .int .i64 0, .int .i64 0, .int .i64 0, .int .i64 0, .int .i64 0, .int .i64 0, .int .i64 0, .int .i64 0, .int .i64 0, .int .i64 0, .int .i64 0, .int .i64 0] 92)
      have h499q : Hid (Bo (u446q.alloc (.cells #[.int .i64 0, .int .i64 0, .int .i64 0, .int .i64 0, .int .i64 0, .int .i64 0, .int .i64 0, .int .i64 0, .int .i64 0, .int .i64 0, .int .i64 0, .int .i64 0, .int .i64 0, .int .i64 0, .int .i64 0, .int .i64 0] 92)) (n + 2) (wl wz)) := h450q.out.new (.cells #[.int .i64 0, .int .i64 0, .int .i64 0, .int .i64 0, .int .i64 0, .int .i64 0, .int .i64 0, .int .i64 0, .int .i64 0, .int .i64 0, .int .i64 0, .int .i64 0, .int .i64 0, .int .i64 0, .int .i64 0, .int .i64 0] 92)
      have h500q : Hid (Bo (u446q.alloc (.cells #[.int .i64 0, .int .i64 0, .int .i64 0, .int .i64 0, .int .i64 0, .int .i64 0, .int .i64 0, .int .i64 0, .int .i64 0, .int .i64 0, .int .i64 0, .int .i64 0, .int .i64 0, .int .i64 0, .int .i64 0, .int .i64 0] 92)) (n + 3) [.int .i64 0, .int .i64 0]) := h451q.out.new (.cells #[.int .i64 0, .int .i64 0, .int .i64 0, .int .i64 0, .int .i64 0, .int .i64 0, .int .i64 0, .int .i64 0, .int .i64 0, .int .i64 0, .int .i64 0, .int .i64 0, .int .i64 0, .int .i64 0, .int .i64 0, .int .i64 0] 92)
      have h501q : Hid (Bo (u446q.alloc (.cells #[.int .i64 0, .int .i64 0, .int .i64 0, .int .i64 0, .int .i64 0, .int .i64 0, .int .i64 0, .int .i64 0, .int .i64 0, .int .i64 0, .int .i64 0, .int .i64 0, .int .i64 0, .int .i64 0, .int .i64 0, .int .i64 0] 92)) u20q.heap.size [.int .i64 0, .int .i64 0]) := h452q.out.new (.cells #[.int .i64 0, .int .i64 0, .int .i64 0, .int .i64 0, .int .i64 0, .int .i64 0, .int .i64 0, .int .i64 0, .int .i64 0, .int .i64 0, .int .i64 0, .int .i64 0, .int .i64 0, .int .i64 0, .int .i64 0, .int .i64 0] 92)
      clear h447q h448q h449q h450q h451q h452q
      have h502q : Hid (TAt (u446q.alloc (.cells #[.int .i64 0, .int .i64 0, .int .i64 0, .int .i64 0, .int .i64 0, .int .i64 0, .int .i64 0, .int .i64 0, .int .i64 0, .int .i64 0, .int .i64 0, .int .i64 0, .int .i64 0, .int .i64 0, .int .i64 0, .int .i64 0] 92)) u446q.heap.size Tb.zero) := TAt.bornZero u446q 92 (by simp)
      refine hK.out _ _ ⟨h497q.out, h498q.out⟩ (fun hH => ?_)
      clear hK K
      generalize (u446q.alloc (.cells #[.int .i64 0, .int .i64 0, .int .i64 0, .int .i64 0, .int .i64 0, .int .i64 0, .int .i64 0, .int .i64 0, .int .i64 0, .int .i64 0, .int .i64 0, .int .i64 0, .int .i64 0, .int .i64 0, .int .i64 0, .int .i64 0] 92)) = u503q at h496q h497q h498q h499q h500q h501q h502q hH ⊢
      try simp only [Act.put, List.setIfInBounds_toArray, List.set_cons_zero, List.set_cons_succ]
      refine wpAnyH_ready (rs := [3]) (by kernel_rfl) (by simp) ?_
      refine AllReadyH.cons (o := { dst := some 12, op := _, type := _, pos := _, after := _, guard := _ }) rfl (fun K hK => ?_) AllReadyH.nil
      go_simp
      refine (D.out _).mono ?_
      rintro e u504q ⟨rfl, hb⟩
      have h505q : Hid (Gd n w u504q) := h496q.out.later hb
      have h506q : Hid (Bo u504q n (wl c)) := h497q.out.later hb
      have h507q : Hid (Bo u504q (n + 1) [.int .i64 o, .int .i64 k, .int .i64 x]) := h498q.out.later hb
      have h508q : Hid (Bo u504q (n + 2) (wl wz)) := h499q.out.later hb
      have h509q : Hid (Bo u504q (n + 3) [.int .i64 0, .int .i64 0]) := h500q.out.later hb
      have h510q : Hid (Bo u504q u20q.heap.size [.int .i64 0, .int .i64 0]) := h501q.out.later hb
      have h511q : Hid (TAt u504q u446q.heap.size Tb.zero) := h502q.out.later hb
      clear h496q h497q h498q h499q h500q h501q h502q
      clear hb
      go_wp2_with fail
      refine hK.out _ _ ⟨h506q.out, h507q.out⟩ (fun hH => ?_)
      clear hK K
      try simp only [Act.put, List.setIfInBounds_toArray, List.set_cons_zero, List.set_cons_succ]
      refine wpAnyH_take (i := 4) (oi := { dst := some 8, op := .move (.tmp 12), type := _, pos := _, after := _, guard := _ }) (v := ?_) rfl (by kernel_rfl) (by kernel_rfl) (by kernel_rfl) (fun _ _ _ h => h) (Or.inl ⟨by rfl, ?_⟩) hH ?_
      rotate_left
      · intro w hSw
        clear hSw
        go_simp
        try with_reducible rfl
      simp only [Act.put, List.setIfInBounds_toArray, List.set_cons_zero, List.set_cons_succ]
      refine wpAnyH_take (i := 5) (oi := { dst := some 13, op := .extract (.tmp 8) 0, type := _, pos := _, after := _, guard := _ }) (v := ?_) rfl (by kernel_rfl) (by kernel_rfl) (by kernel_rfl) (fun _ _ _ h => h) (Or.inl ⟨by rfl, ?_⟩) hH ?_
      rotate_left
      · intro w hSw
        clear hSw
        go_simp
        try with_reducible rfl
      simp only [Act.put, List.setIfInBounds_toArray, List.set_cons_zero, List.set_cons_succ]
      refine wpAnyH_take (i := 6) (oi := { dst := some 14, op := .extract (.tmp 8) 1, type := _, pos := _, after := _, guard := _ }) (v := ?_) rfl (by kernel_rfl) (by kernel_rfl) (by kernel_rfl) (fun _ _ _ h => h) (Or.inl ⟨by rfl, ?_⟩) hH ?_
      rotate_left
      · intro w hSw
        clear hSw
        go_simp
        try with_reducible rfl
      simp only [Act.put, List.setIfInBounds_toArray, List.set_cons_zero, List.set_cons_succ]
      refine wpAnyH_ready (rs := [9]) (by kernel_rfl) (by simp) ?_
      refine AllReadyH.cons (o := { dst := none, op := .store _ (.tmp 6) (.tmp 13), type := _, pos := _, after := _, guard := _ }) rfl (fun K hK => ?_) AllReadyH.nil
      rw [if_pos (by rfl)]
      refine wp_store_mid _ _ _ rfl u446q.heap.size _ u.all.toArray rfl rfl (h511q.out.thereOf u) (HZ.out u) (u.all_all) ?_
      simp only [Act.put]
      have h512q : Hid (Gd n w (u504q.setCells u446q.heap.size 0 u.all)) := h505q.out.asideAll (by omega) u
      have h513q : Hid (Bo (u504q.setCells u446q.heap.size 0 u.all) n (wl c)) := h506q.out.asideAll (by omega) u
      have h514q : Hid (Bo (u504q.setCells u446q.heap.size 0 u.all) (n + 1) [.int .i64 o, .int .i64 k, .int .i64 x]) := h507q.out.asideAll (by omega) u
      have h515q : Hid (Bo (u504q.setCells u446q.heap.size 0 u.all) (n + 2) (wl wz)) := h508q.out.asideAll (by omega) u
      have h516q : Hid (Bo (u504q.setCells u446q.heap.size 0 u.all) (n + 3) [.int .i64 0, .int .i64 0]) := h509q.out.asideAll (by omega) u
      have h517q : Hid (Bo (u504q.setCells u446q.heap.size 0 u.all) u20q.heap.size [.int .i64 0, .int .i64 0]) := h510q.out.asideAll (by omega) u
      have h518q : Hid (TAt (u504q.setCells u446q.heap.size 0 u.all) u446q.heap.size u) := h511q.out.setAll u
      clear h505q h506q h507q h508q h509q h510q h511q
      refine hK.out _ _ ⟨h513q.out, h514q.out⟩ (fun hH => ?_)
      clear hK K
      generalize (u504q.setCells u446q.heap.size 0 u.all) = u519q at h512q h513q h514q h515q h516q h517q h518q hH ⊢
      try simp only [Act.put, List.setIfInBounds_toArray, List.set_cons_zero, List.set_cons_succ]
      refine wpAnyH_ready (rs := [10]) (by kernel_rfl) (by simp) ?_
      refine AllReadyH.cons (o := { dst := none, op := .store _ (.tmp 7) (.tmp 14), type := _, pos := _, after := _, guard := _ }) rfl (fun K hK => ?_) AllReadyH.nil
      rw [if_pos (by rfl)]
      refine wp_store_mid _ _ _ rfl u20q.heap.size _ #[.int .i64 (cc), .int .i64 (y)] rfl rfl h517q.out.there2 HA.out (two_one _ _) ?_
      simp only [Act.put]
      have h520q : Hid (Gd n w (u519q.setCells u20q.heap.size 0 [.int .i64 (cc), .int .i64 (y)])) := h512q.out.asideL (by omega) 0 [.int .i64 (cc), .int .i64 (y)]
      have h521q : Hid (Bo (u519q.setCells u20q.heap.size 0 [.int .i64 (cc), .int .i64 (y)]) n (wl c)) := h513q.out.asideL (by omega) 0 [.int .i64 (cc), .int .i64 (y)]
      have h522q : Hid (Bo (u519q.setCells u20q.heap.size 0 [.int .i64 (cc), .int .i64 (y)]) (n + 1) [.int .i64 o, .int .i64 k, .int .i64 x]) := h514q.out.asideL (by omega) 0 [.int .i64 (cc), .int .i64 (y)]
      have h523q : Hid (Bo (u519q.setCells u20q.heap.size 0 [.int .i64 (cc), .int .i64 (y)]) (n + 2) (wl wz)) := h515q.out.asideL (by omega) 0 [.int .i64 (cc), .int .i64 (y)]
      have h524q : Hid (Bo (u519q.setCells u20q.heap.size 0 [.int .i64 (cc), .int .i64 (y)]) (n + 3) [.int .i64 0, .int .i64 0]) := h516q.out.asideL (by omega) 0 [.int .i64 (cc), .int .i64 (y)]
      have h525q : Hid (Bo (u519q.setCells u20q.heap.size 0 [.int .i64 (cc), .int .i64 (y)]) u20q.heap.size [.int .i64 (cc), .int .i64 (y)]) := h517q.out.set2 (.int .i64 (cc)) (.int .i64 (y))
      have h526q : Hid (TAt (u519q.setCells u20q.heap.size 0 [.int .i64 (cc), .int .i64 (y)]) u446q.heap.size u) := h518q.out.asideL (by omega) 0 [.int .i64 (cc), .int .i64 (y)]
      clear h512q h513q h514q h515q h516q h517q h518q
      refine hK.out _ _ ⟨h521q.out, h522q.out⟩ (fun hH => ?_)
      clear hK K
      generalize (u519q.setCells u20q.heap.size 0 [.int .i64 (cc), .int .i64 (y)]) = u527q at h520q h521q h522q h523q h524q h525q h526q hH ⊢
      try simp only [Act.put, List.setIfInBounds_toArray, List.set_cons_zero, List.set_cons_succ]
      refine wpAnyH_done (by kernel_rfl) ?_ _
      go_wp2_with fail
      go_meet
      case rel => exact ⟨u446q.heap.size, u20q.heap.size, rfl, rfl, h520q, h523q, h524q, h526q, h525q, (by omega)⟩
    refine AllReadyH.cons (o := { dst := some 6, op := .alloc _, type := _, pos := _, after := _, guard := _ }) rfl (fun K hK => ?_) AllReadyH.nil
    have l528q : n ≤ u445q.heap.size := h439q.out.le
    have l529q : n < u445q.heap.size := h440q.out.lt
    have l530q : (n + 1) < u445q.heap.size := h441q.out.lt
    have l531q : (n + 2) < u445q.heap.size := h442q.out.lt
    have l532q : (n + 3) < u445q.heap.size := h443q.out.lt
    have l533q : u20q.heap.size < u445q.heap.size := h444q.out.lt
    go_simp
    have h534q : Hid (Gd n w (u445q.alloc (.cells #[.int .i64 0, .int .i64 0, .int .i64 0, .int .i64 0, .int .i64 0, .int .i64 0, .int .i64 0, .int .i64 0, .int .i64 0, .int .i64 0, .int .i64 0, .int .i64 0, .int .i64 0, .int .i64 0, .int .i64 0, .int .i64 0] 92))) := h439q.out.new (.cells #[.int .i64 0, .int .i64 0, .int .i64 0, .int .i64 0, .int .i64 0, .int .i64 0, .int .i64 0, .int .i64 0, .int .i64 0, .int .i64 0, .int .i64 0, .int .i64 0, .int .i64 0, .int .i64 0, .int .i64 0, .int .i64 0] 92)
    have h535q : Hid (Bo (u445q.alloc (.cells #[.int .i64 0, .int .i64 0, .int .i64 0, .int .i64 0, .int .i64 0, .int .i64 0, .int .i64 0, .int .i64 0, .int .i64 0, .int .i64 0, .int .i64 0, .int .i64 0, .int .i64 0, .int .i64 0, .int .i64 0, .int .i64 0] 92)) n (wl c)) := h440q.out.new (.cells #[.int .i64 0, .int .i64 0, .int .i64 0, .int .i64 0, .int .i64 0, .int .i64 0, .int .i64 0, .int .i64 0, .int .i64 0, .int .i64 0, .int .i64 0, .int .i64 0, .int .i64 0, .int .i64 0, .int .i64 0, .int .i64 0] 92)
    have h536q : Hid (Bo (u445q.alloc (.cells #[.int .i64 0, .int .i64 0, .int .i64 0, .int .i64 0, .int .i64 0, .int .i64 0, .int .i64 0, .int .i64 0, .int .i64 0, .int .i64 0, .int .i64 0, .int .i64 0, .int .i64 0, .int .i64 0, .int .i64 0, .int .i64 0] 92)) (n + 1) [.int .i64 o, .int .i64 k, .int .i64 x]) := h441q.out.new (.cells #[.int .i64 0, .int .i64 0, .int .i64 0, .int .i64 0, .int .i64 0, .int .i64 0, .int .i64 0, .int .i64 0, .int .i64 0, .int .i64 0, .int .i64 0, .int .i64 0, .int .i64 0, .int .i64 0, .int .i64 0, .int .i64 0] 92)
    have h537q : Hid (Bo (u445q.alloc (.cells #[.int .i64 0, .int .i64 0, .int .i64 0, .int .i64 0, .int .i64 0, .int .i64 0, .int .i64 0, .int .i64 0, .int .i64 0, .int .i64 0, .int .i64 0, .int .i64 0, .int .i64 0, .int .i64 0, .int .i64 0, .int .i64 0] 92)) (n + 2) (wl wz)) := h442q.out.new (.cells #[.int .i64 0, .int .i64 0, .int .i64 0, .int .i64 0, .int .i64 0, .int .i64 0, .int .i64 0, .int .i64 0, .int .i64 0, .int .i64 0, .int .i64 0, .int .i64 0, .int .i64 0, .int .i64 0, .int .i64 0, .int .i64 0] 92)
    have h538q : Hid (Bo (u445q.alloc (.cells #[.int .i64 0, .int .i64 0, .int .i64 0, .int .i64 0, .int .i64 0, .int .i64 0, .int .i64 0, .int .i64 0, .int .i64 0, .int .i64 0, .int .i64 0, .int .i64 0, .int .i64 0, .int .i64 0, .int .i64 0, .int .i64 0] 92)) (n + 3) [.int .i64 0, .int .i64 0]) := h443q.out.new (.cells #[.int .i64 0, .int .i64 0, .int .i64 0, .int .i64 0, .int .i64 0, .int .i64 0, .int .i64 0, .int .i64 0, .int .i64 0, .int .i64 0, .int .i64 0, .int .i64 0, .int .i64 0, .int .i64 0, .int .i64 0, .int .i64 0] 92)
    have h539q : Hid (Bo (u445q.alloc (.cells #[.int .i64 0, .int .i64 0, .int .i64 0, .int .i64 0, .int .i64 0, .int .i64 0, .int .i64 0, .int .i64 0, .int .i64 0, .int .i64 0, .int .i64 0, .int .i64 0, .int .i64 0, .int .i64 0, .int .i64 0, .int .i64 0] 92)) u20q.heap.size [.int .i64 0, .int .i64 0]) := h444q.out.new (.cells #[.int .i64 0, .int .i64 0, .int .i64 0, .int .i64 0, .int .i64 0, .int .i64 0, .int .i64 0, .int .i64 0, .int .i64 0, .int .i64 0, .int .i64 0, .int .i64 0, .int .i64 0, .int .i64 0, .int .i64 0, .int .i64 0] 92)
    clear h439q h440q h441q h442q h443q h444q
    have h540q : Hid (TAt (u445q.alloc (.cells #[.int .i64 0, .int .i64 0, .int .i64 0, .int .i64 0, .int .i64 0, .int .i64 0, .int .i64 0, .int .i64 0, .int .i64 0, .int .i64 0, .int .i64 0, .int .i64 0, .int .i64 0, .int .i64 0, .int .i64 0, .int .i64 0] 92)) u445q.heap.size Tb.zero) := TAt.bornZero u445q 92 (by simp)
    refine hK.out _ _ ⟨h535q.out, h536q.out⟩ (fun hH => ?_)
    clear hK K
    generalize (u445q.alloc (.cells #[.int .i64 0, .int .i64 0, .int .i64 0, .int .i64 0, .int .i64 0, .int .i64 0, .int .i64 0, .int .i64 0, .int .i64 0, .int .i64 0, .int .i64 0, .int .i64 0, .int .i64 0, .int .i64 0, .int .i64 0, .int .i64 0] 92)) = u541q at h534q h535q h536q h537q h538q h539q h540q hH ⊢
    try simp only [Act.put, List.setIfInBounds_toArray, List.set_cons_zero, List.set_cons_succ]
    refine wpAnyH_ready (rs := [1]) (by kernel_rfl) (by simp) ?_
    refine AllReadyH.cons (o := { dst := some 10, op := _, type := _, pos := _, after := _, guard := _ }) rfl (fun K hK => ?_) AllReadyH.nil
    go_simp
    refine (S.out _).mono ?_
    rintro e u542q ⟨rfl, hb⟩
    have h543q : Hid (Gd n w u542q) := h534q.out.later hb
    have h544q : Hid (Bo u542q n (wl c)) := h535q.out.later hb
    have h545q : Hid (Bo u542q (n + 1) [.int .i64 o, .int .i64 k, .int .i64 x]) := h536q.out.later hb
    have h546q : Hid (Bo u542q (n + 2) (wl wz)) := h537q.out.later hb
    have h547q : Hid (Bo u542q (n + 3) [.int .i64 0, .int .i64 0]) := h538q.out.later hb
    have h548q : Hid (Bo u542q u20q.heap.size [.int .i64 0, .int .i64 0]) := h539q.out.later hb
    have h549q : Hid (TAt u542q u445q.heap.size Tb.zero) := h540q.out.later hb
    clear h534q h535q h536q h537q h538q h539q h540q
    clear hb
    go_wp2_with fail
    refine hK.out _ _ ⟨h544q.out, h545q.out⟩ (fun hH => ?_)
    clear hK K
    try simp only [Act.put, List.setIfInBounds_toArray, List.set_cons_zero, List.set_cons_succ]
    refine wpAnyH_ready (rs := [3]) (by kernel_rfl) (by simp) ?_
    refine AllReadyH.cons (o := { dst := some 12, op := _, type := _, pos := _, after := _, guard := _ }) rfl (fun K hK => ?_) AllReadyH.nil
    go_simp
    refine (D.out _).mono ?_
    rintro e u550q ⟨rfl, hb⟩
    have h551q : Hid (Gd n w u550q) := h543q.out.later hb
    have h552q : Hid (Bo u550q n (wl c)) := h544q.out.later hb
    have h553q : Hid (Bo u550q (n + 1) [.int .i64 o, .int .i64 k, .int .i64 x]) := h545q.out.later hb
    have h554q : Hid (Bo u550q (n + 2) (wl wz)) := h546q.out.later hb
    have h555q : Hid (Bo u550q (n + 3) [.int .i64 0, .int .i64 0]) := h547q.out.later hb
    have h556q : Hid (Bo u550q u20q.heap.size [.int .i64 0, .int .i64 0]) := h548q.out.later hb
    have h557q : Hid (TAt u550q u445q.heap.size Tb.zero) := h549q.out.later hb
    clear h543q h544q h545q h546q h547q h548q h549q
    clear hb
    go_wp2_with fail
    refine hK.out _ _ ⟨h552q.out, h553q.out⟩ (fun hH => ?_)
    clear hK K
    try simp only [Act.put, List.setIfInBounds_toArray, List.set_cons_zero, List.set_cons_succ]
    refine wpAnyH_take (i := 4) (oi := { dst := some 8, op := .move (.tmp 12), type := _, pos := _, after := _, guard := _ }) (v := ?_) rfl (by kernel_rfl) (by kernel_rfl) (by kernel_rfl) (fun _ _ _ h => h) (Or.inl ⟨by rfl, ?_⟩) hH ?_
    rotate_left
    · intro w hSw
      clear hSw
      go_simp
      try with_reducible rfl
    simp only [Act.put, List.setIfInBounds_toArray, List.set_cons_zero, List.set_cons_succ]
    refine wpAnyH_take (i := 5) (oi := { dst := some 13, op := .extract (.tmp 8) 0, type := _, pos := _, after := _, guard := _ }) (v := ?_) rfl (by kernel_rfl) (by kernel_rfl) (by kernel_rfl) (fun _ _ _ h => h) (Or.inl ⟨by rfl, ?_⟩) hH ?_
    rotate_left
    · intro w hSw
      clear hSw
      go_simp
      try with_reducible rfl
    simp only [Act.put, List.setIfInBounds_toArray, List.set_cons_zero, List.set_cons_succ]
    refine wpAnyH_take (i := 6) (oi := { dst := some 14, op := .extract (.tmp 8) 1, type := _, pos := _, after := _, guard := _ }) (v := ?_) rfl (by kernel_rfl) (by kernel_rfl) (by kernel_rfl) (fun _ _ _ h => h) (Or.inl ⟨by rfl, ?_⟩) hH ?_
    rotate_left
    · intro w hSw
      clear hSw
      go_simp
      try with_reducible rfl
    simp only [Act.put, List.setIfInBounds_toArray, List.set_cons_zero, List.set_cons_succ]
    refine wpAnyH_ready (rs := [9]) (by kernel_rfl) (by simp) ?_
    refine AllReadyH.cons (o := { dst := none, op := .store _ (.tmp 6) (.tmp 13), type := _, pos := _, after := _, guard := _ }) rfl (fun K hK => ?_) AllReadyH.nil
    rw [if_pos (by rfl)]
    refine wp_store_mid _ _ _ rfl u445q.heap.size _ u.all.toArray rfl rfl (h557q.out.thereOf u) (HZ.out u) (u.all_all) ?_
    simp only [Act.put]
    have h558q : Hid (Gd n w (u550q.setCells u445q.heap.size 0 u.all)) := h551q.out.asideAll (by omega) u
    have h559q : Hid (Bo (u550q.setCells u445q.heap.size 0 u.all) n (wl c)) := h552q.out.asideAll (by omega) u
    have h560q : Hid (Bo (u550q.setCells u445q.heap.size 0 u.all) (n + 1) [.int .i64 o, .int .i64 k, .int .i64 x]) := h553q.out.asideAll (by omega) u
    have h561q : Hid (Bo (u550q.setCells u445q.heap.size 0 u.all) (n + 2) (wl wz)) := h554q.out.asideAll (by omega) u
    have h562q : Hid (Bo (u550q.setCells u445q.heap.size 0 u.all) (n + 3) [.int .i64 0, .int .i64 0]) := h555q.out.asideAll (by omega) u
    have h563q : Hid (Bo (u550q.setCells u445q.heap.size 0 u.all) u20q.heap.size [.int .i64 0, .int .i64 0]) := h556q.out.asideAll (by omega) u
    have h564q : Hid (TAt (u550q.setCells u445q.heap.size 0 u.all) u445q.heap.size u) := h557q.out.setAll u
    clear h551q h552q h553q h554q h555q h556q h557q
    refine hK.out _ _ ⟨h559q.out, h560q.out⟩ (fun hH => ?_)
    clear hK K
    generalize (u550q.setCells u445q.heap.size 0 u.all) = u565q at h558q h559q h560q h561q h562q h563q h564q hH ⊢
    try simp only [Act.put, List.setIfInBounds_toArray, List.set_cons_zero, List.set_cons_succ]
    refine wpAnyH_ready (rs := [10]) (by kernel_rfl) (by simp) ?_
    refine AllReadyH.cons (o := { dst := none, op := .store _ (.tmp 7) (.tmp 14), type := _, pos := _, after := _, guard := _ }) rfl (fun K hK => ?_) AllReadyH.nil
    rw [if_pos (by rfl)]
    refine wp_store_mid _ _ _ rfl u20q.heap.size _ #[.int .i64 (cc), .int .i64 (y)] rfl rfl h563q.out.there2 HA.out (two_one _ _) ?_
    simp only [Act.put]
    have h566q : Hid (Gd n w (u565q.setCells u20q.heap.size 0 [.int .i64 (cc), .int .i64 (y)])) := h558q.out.asideL (by omega) 0 [.int .i64 (cc), .int .i64 (y)]
    have h567q : Hid (Bo (u565q.setCells u20q.heap.size 0 [.int .i64 (cc), .int .i64 (y)]) n (wl c)) := h559q.out.asideL (by omega) 0 [.int .i64 (cc), .int .i64 (y)]
    have h568q : Hid (Bo (u565q.setCells u20q.heap.size 0 [.int .i64 (cc), .int .i64 (y)]) (n + 1) [.int .i64 o, .int .i64 k, .int .i64 x]) := h560q.out.asideL (by omega) 0 [.int .i64 (cc), .int .i64 (y)]
    have h569q : Hid (Bo (u565q.setCells u20q.heap.size 0 [.int .i64 (cc), .int .i64 (y)]) (n + 2) (wl wz)) := h561q.out.asideL (by omega) 0 [.int .i64 (cc), .int .i64 (y)]
    have h570q : Hid (Bo (u565q.setCells u20q.heap.size 0 [.int .i64 (cc), .int .i64 (y)]) (n + 3) [.int .i64 0, .int .i64 0]) := h562q.out.asideL (by omega) 0 [.int .i64 (cc), .int .i64 (y)]
    have h571q : Hid (Bo (u565q.setCells u20q.heap.size 0 [.int .i64 (cc), .int .i64 (y)]) u20q.heap.size [.int .i64 (cc), .int .i64 (y)]) := h563q.out.set2 (.int .i64 (cc)) (.int .i64 (y))
    have h572q : Hid (TAt (u565q.setCells u20q.heap.size 0 [.int .i64 (cc), .int .i64 (y)]) u445q.heap.size u) := h564q.out.asideL (by omega) 0 [.int .i64 (cc), .int .i64 (y)]
    clear h558q h559q h560q h561q h562q h563q h564q
    refine hK.out _ _ ⟨h567q.out, h568q.out⟩ (fun hH => ?_)
    clear hK K
    generalize (u565q.setCells u20q.heap.size 0 [.int .i64 (cc), .int .i64 (y)]) = u573q at h566q h567q h568q h569q h570q h571q h572q hH ⊢
    try simp only [Act.put, List.setIfInBounds_toArray, List.set_cons_zero, List.set_cons_succ]
    refine wpAnyH_done (by kernel_rfl) ?_ _
    go_wp2_with fail
    go_meet
    case rel => exact ⟨u445q.heap.size, u20q.heap.size, rfl, rfl, h566q, h569q, h570q, h572q, h571q, (by omega)⟩
  case rest =>
    obtain ⟨b_t, b_b, rfl, rfl, h574q, h575q, h576q, h577q, h578q, hmore⟩ := hcut
    go_wp2_with fail
    have h579q : Hid (Gd n w wc.drew) := h574q.out.drew
    have h580q : Hid (Bo wc.drew (n + 2) (wl wz)) := h575q.out.drew
    have h581q : Hid (Bo wc.drew (n + 3) [.int .i64 0, .int .i64 0]) := h576q.out.drew
    have h582q : Hid (TAt wc.drew b_t u) := h577q.out.drew
    have h583q : Hid (Bo wc.drew b_b [.int .i64 (cc), .int .i64 (y)]) := h578q.out.drew
    clear h574q h575q h576q h577q h578q
    refine wp_region_held_drew (S := fun w' => TAt w' b_t u ∧ Bo w' b_b [.int .i64 (cc), .int .i64 (y)]) (by kernel_rfl) ⟨h582q.out, h583q.out⟩ (fun hH => ?_)
    generalize wc.drew = u584q at h579q h580q h581q h582q h583q hH ⊢
    refine wpAnyH_take (i := 0) (oi := { dst := some 15, op := .load _ (.tmp 6), type := _, pos := _, after := _, guard := _ }) (v := _) rfl (by kernel_rfl) (by kernel_rfl) (by kernel_rfl) (fun _ _ _ h => h) (yieldsIf_load_mid (by rfl) _ _ rfl b_t _ rfl u.all _ (fun _ h => (h.1).range) HD.out rfl (HS.out u)) hH ?_
    simp only [Act.put, List.setIfInBounds_toArray, List.set_cons_zero, List.set_cons_succ]
    refine wpAnyH_take (i := 2) (oi := { dst := some 17, op := .load _ (.tmp 7), type := _, pos := _, after := _, guard := _ }) (v := ?_) rfl (by kernel_rfl) (by kernel_rfl) (by kernel_rfl) (fun _ _ _ h => h) (Or.inl ⟨by rfl, ?_⟩) hH ?_
    rotate_left
    · intro w hSw
      have c585q := (hSw.2).at 0 rfl
      have c586q := (hSw.2).at 1 rfl
      clear hSw
      go_simp
      try with_reducible rfl
    simp only [Act.put, List.setIfInBounds_toArray, List.set_cons_zero, List.set_cons_succ]
    refine wpAnyH_ready (rs := [1]) (by kernel_rfl) (by simp) ?_
    refine AllReadyH.cons (o := { dst := some 16, op := _, type := _, pos := _, after := _, guard := _ }) rfl (fun K hK => ?_) AllReadyH.nil
    go_simp
    refine (TW.out _).mono ?_
    rintro e u587q ⟨rfl, hb⟩
    have h588q : Hid (Gd n w u587q) := h579q.out.later hb
    have h589q : Hid (Bo u587q (n + 2) (wl wz)) := h580q.out.later hb
    have h590q : Hid (Bo u587q (n + 3) [.int .i64 0, .int .i64 0]) := h581q.out.later hb
    have h591q : Hid (TAt u587q b_t u) := h582q.out.later hb
    have h592q : Hid (Bo u587q b_b [.int .i64 (cc), .int .i64 (y)]) := h583q.out.later hb
    clear h579q h580q h581q h582q h583q
    clear hb
    go_wp2_with fail
    refine hK.out _ _ ⟨h591q.out, h592q.out⟩ (fun hH => ?_)
    clear hK K
    try simp only [Act.put, List.setIfInBounds_toArray, List.set_cons_zero, List.set_cons_succ]
    refine wpAnyH_ready (rs := [3]) (by kernel_rfl) (by simp) ?_
    refine AllReadyH.cons (o := { dst := none, op := .store _ (.tmp 4) (.tmp 16), type := _, pos := _, after := _, guard := _ }) rfl (fun K hK => ?_) AllReadyH.nil
    rw [if_pos (by rfl)]
    refine wp_store_mid _ _ _ rfl (n + 2) _ (wl (tw u)).toArray rfl rfl (h589q.out.thereW (tw u)) (HCZ.out (tw u)) (wl_all (tw u)) ?_
    simp only [Act.put]
    have h593q : Hid (Gd n w (u587q.setCells (n + 2) 0 (wl (tw u)))) := h588q.out.asideL (by omega) 0 (wl (tw u))
    have h594q : Hid (Bo (u587q.setCells (n + 2) 0 (wl (tw u))) (n + 2) (wl (tw u))) := h589q.out.setW (tw u)
    have h595q : Hid (Bo (u587q.setCells (n + 2) 0 (wl (tw u))) (n + 3) [.int .i64 0, .int .i64 0]) := h590q.out.asideL (by omega) 0 (wl (tw u))
    have h596q : Hid (TAt (u587q.setCells (n + 2) 0 (wl (tw u))) b_t u) := h591q.out.asideL (by omega) 0 (wl (tw u))
    have h597q : Hid (Bo (u587q.setCells (n + 2) 0 (wl (tw u))) b_b [.int .i64 (cc), .int .i64 (y)]) := h592q.out.asideL (by omega) 0 (wl (tw u))
    clear h588q h589q h590q h591q h592q
    refine hK.out _ _ ⟨h596q.out, h597q.out⟩ (fun hH => ?_)
    clear hK K
    generalize (u587q.setCells (n + 2) 0 (wl (tw u))) = u598q at h593q h594q h595q h596q h597q hH ⊢
    try simp only [Act.put, List.setIfInBounds_toArray, List.set_cons_zero, List.set_cons_succ]
    refine wpAnyH_ready (rs := [4]) (by kernel_rfl) (by simp) ?_
    refine AllReadyH.cons (o := { dst := none, op := .store _ (.tmp 5) (.tmp 17), type := _, pos := _, after := _, guard := _ }) rfl (fun K hK => ?_) AllReadyH.nil
    rw [if_pos (by rfl)]
    refine wp_store_mid _ _ _ rfl (n + 3) _ #[.int .i64 (cc), .int .i64 (y)] rfl rfl h595q.out.there2 HA.out (two_one _ _) ?_
    simp only [Act.put]
    have h599q : Hid (Gd n w (u598q.setCells (n + 3) 0 [.int .i64 (cc), .int .i64 (y)])) := h593q.out.asideL (by omega) 0 [.int .i64 (cc), .int .i64 (y)]
    have h600q : Hid (Bo (u598q.setCells (n + 3) 0 [.int .i64 (cc), .int .i64 (y)]) (n + 2) (wl (tw u))) := h594q.out.asideL (by omega) 0 [.int .i64 (cc), .int .i64 (y)]
    have h601q : Hid (Bo (u598q.setCells (n + 3) 0 [.int .i64 (cc), .int .i64 (y)]) (n + 3) [.int .i64 (cc), .int .i64 (y)]) := h595q.out.set2 (.int .i64 (cc)) (.int .i64 (y))
    have h602q : Hid (TAt (u598q.setCells (n + 3) 0 [.int .i64 (cc), .int .i64 (y)]) b_t u) := h596q.out.asideL (by omega) 0 [.int .i64 (cc), .int .i64 (y)]
    have h603q : Hid (Bo (u598q.setCells (n + 3) 0 [.int .i64 (cc), .int .i64 (y)]) b_b [.int .i64 (cc), .int .i64 (y)]) := h597q.out.asideL (by omega) 0 [.int .i64 (cc), .int .i64 (y)]
    clear h593q h594q h595q h596q h597q
    refine hK.out _ _ ⟨h602q.out, h603q.out⟩ (fun hH => ?_)
    clear hK K
    generalize (u598q.setCells (n + 3) 0 [.int .i64 (cc), .int .i64 (y)]) = u604q at h599q h600q h601q h602q h603q hH ⊢
    try simp only [Act.put, List.setIfInBounds_toArray, List.set_cons_zero, List.set_cons_succ]
    refine wpAnyH_done (by kernel_rfl) ?_ _
    go_wp2
    exact bodyPost_ret (results_row2 Tryd.results40 _ _ (n + 2) (n + 3) (wl (tw u)) [.int .i64 (cc), .int .i64 (y)] _ _ rfl rfl h600q.out.range HC.out rfl (HCS.out (tw u)) h601q.out.range HDA.out rfl HA.out) rfl ⟨rfl, by first | exact h599q.out.low | exact h599q.out.2⟩
end Go.Proofs.YtbmgjpdfmgcigabDoor.Tab
