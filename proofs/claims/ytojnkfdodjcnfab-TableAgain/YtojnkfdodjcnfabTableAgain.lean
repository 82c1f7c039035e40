/- TableAgain is proved: for every list of operations, key and values the call returns true (a key that is put in twice has what came last, and is one; where there is no room for it, it is refused). -/
import Derived.Test.YtojnkfdodjcnfabRows
import Derived.Test.YtojnkfdodjcnfabKf
import Derived.Test.YtojnkfdodjcnfabTl
import Derived.Test.YtojnkfdodjcnfabArgOps
import Derived.Deep.DeepCutAuto
import Derived.Deep.RegionHeld3

namespace Go.Proofs.Ytojnkfdodjcnfab.tableAgain
open Go.ChangeShapes Go.WideShapes Go.ChangeAt Go.RowKit
set_option linter.unusedVariables false

theorem own : ownKnob Try.prog.godebug = none := by kernel_rfl

set_option maxHeartbeats 4000000 in
theorem walk (v0 : Value) (n0 : Nat) (a1 a2 a3 : Int) (w1 : (Lit.int .i64 a1).wf = true) (w2 : (Lit.int .i64 a2).wf = true) (w3 : (Lit.int .i64 a3).wf = true) (w : World) (D0 : Ops w v0 n0) :
    Calls Try.prog 3 #[v0, .int .i64 a1, .int .i64 a2, .int .i64 a3] w fun e w' => e = .returned (.bool true) ∧ Below w.heap.size w w' := by
  obtain ⟨na, ea, hd⟩ := slots_array
  have HD : Hid _ := hd
  clear hd
  have HS : Hid (∀ t : Tb, (Try.prog.info? 27).map (·.size) = some t.all.length) := slots_size
  have HZ : Hid (∀ t : Tb, (Try.prog.info? 27).map (·.size) = some t.all.toArray.size) := slots_size2
  have HT : Hid ((Try.prog.info? 25).map (·.size) = some 2) := slot_size
  have HA : Hid ((Try.prog.info? 31).map (·.size) = some 2) := answer_size
  obtain ⟨fs, ha⟩ := answer_struct
  have HDA : Hid _ := ha
  clear ha
  have EQ := slots_equal
  have FD0 := field0
  have FD1 := field1
  have g0 : Hid (Gd w.heap.size w w) := Gd.refl w
  have HD0 : Hid (Ops w v0 n0) := D0
  clear D0
  clear w1 w2 w3
  obtain ⟨r1, hr1, pr1⟩ := pick_12 a1
  have Pr1 : Hid _ := pr1
  clear pr1
  obtain ⟨r2, hr2, pr2⟩ := pick_1000 a2
  have Pr2 : Hid _ := pr2
  clear pr2
  obtain ⟨r3, hr3, pr3⟩ := pick_1000 a3
  have Pr3 : Hid _ := pr3
  clear pr3
  obtain ⟨k, ek⟩ : ∃ k : Int, 1 + (r1 : Int) = k := ⟨_, rfl⟩
  have hk1 : 1 ≤ k := by omega
  have hk2 : k ≤ 12 := by omega
  obtain ⟨v, ev⟩ : ∃ v : Int, (r2 : Int) = v := ⟨_, rfl⟩
  have hv0 : 0 ≤ v := by omega
  have hv1 : v ≤ 4294967295 := by omega
  obtain ⟨x, ex⟩ : ∃ x : Int, (r3 : Int) = x := ⟨_, rfl⟩
  have hx0 : 0 ≤ x := by omega
  have hx1 : x ≤ 4294967295 := by omega
  rw [ev] at Pr2
  rw [ex] at Pr3
  clear ev ex hr2 hr3
  go_enter Try.func3, Try.ntmps3
  go_wp2_with fail
  generalize w.heap.size = n at g0 ⊢
  refine (tabled_is _).mono ?_
  rintro e u1q ⟨rfl, hb⟩
  have h2q : Hid (Gd n w u1q) := g0.out.later hb
  clear g0
  clear hb
  go_wp2_with fail
  refine (filled_is (HD0.out.later h2q.out.2)).mono ?_
  rintro e u3q ⟨t, hR, rfl, hb⟩
  have h4q : Hid (Gd n w u3q) := h2q.out.later hb
  clear h2q
  clear hb
  have R : Hid (RT t) := hR
  clear hR HD0
  have l5q : n ≤ u3q.heap.size := h4q.out.le
  have h6q : Hid (Gd n w (u3q.alloc (.cells #[.int .i64 0, .int .i64 0, .int .i64 0, .int .i64 0, .int .i64 0, .int .i64 0, .int .i64 0, .int .i64 0, .int .i64 0, .int .i64 0, .int .i64 0, .int .i64 0, .int .i64 0, .int .i64 0, .int .i64 0, .int .i64 0] 27))) := h4q.out.new (.cells #[.int .i64 0, .int .i64 0, .int .i64 0, .int .i64 0, .int .i64 0, .int .i64 0, .int .i64 0, .int .i64 0, .int .i64 0, .int .i64 0, .int .i64 0, .int .i64 0, .int .i64 0, .int .i64 0, .int .i64 0, .int .i64 0] 27)
  clear h4q
  have h7q : Hid (TAt (u3q.alloc (.cells #[.int .i64 0, .int .i64 0, .int .i64 0, .int .i64 0, .int .i64 0, .int .i64 0, .int .i64 0, .int .i64 0, .int .i64 0, .int .i64 0, .int .i64 0, .int .i64 0, .int .i64 0, .int .i64 0, .int .i64 0, .int .i64 0] 27)) u3q.heap.size Tb.zero) := TAt.bornZero u3q 27 (by simp)
  go_wp2_with (first
    | (refine wpList_store_mid rfl 27 _ _ rfl u3q.heap.size _ t.all.toArray rfl rfl (h7q.out.thereOf t) (HZ.out t) (t.all_all) ?_
       have h8q : Hid (Gd n w ((u3q.alloc (.cells #[.int .i64 0, .int .i64 0, .int .i64 0, .int .i64 0, .int .i64 0, .int .i64 0, .int .i64 0, .int .i64 0, .int .i64 0, .int .i64 0, .int .i64 0, .int .i64 0, .int .i64 0, .int .i64 0, .int .i64 0, .int .i64 0] 27)).setCells u3q.heap.size 0 t.all)) := h6q.out.asideAll (by omega) t
       have h9q : Hid (TAt ((u3q.alloc (.cells #[.int .i64 0, .int .i64 0, .int .i64 0, .int .i64 0, .int .i64 0, .int .i64 0, .int .i64 0, .int .i64 0, .int .i64 0, .int .i64 0, .int .i64 0, .int .i64 0, .int .i64 0, .int .i64 0, .int .i64 0, .int .i64 0] 27)).setCells u3q.heap.size 0 t.all) u3q.heap.size t) := h7q.out.setAll t
       clear h6q h7q
       generalize ((u3q.alloc (.cells #[.int .i64 0, .int .i64 0, .int .i64 0, .int .i64 0, .int .i64 0, .int .i64 0, .int .i64 0, .int .i64 0, .int .i64 0, .int .i64 0, .int .i64 0, .int .i64 0, .int .i64 0, .int .i64 0, .int .i64 0, .int .i64 0] 27)).setCells u3q.heap.size 0 t.all) = u10q at h8q h9q  ⊢))
  refine (Pr1.out _).mono ?_
  rintro e u11q ⟨rfl, hw⟩
  rw [hw]; clear hw u11q
  go_wp2_with fail
  clear ek hr1 Pr1
  rcases puts R.out (k := k) (x := v) hk1 (by omega) hv0 hv1 with ⟨hu, -, -⟩ | ⟨u, hu, hF⟩
  · have DO := tDo_eq t 1 k v
    rw [show tdo t 1 k v = (t, 3, 0) from hu] at DO
    unfold Told at DO
    dsimp only at DO
    clear hu
    go_cut [10] (fun s10 wx => ∃ b_a : Nat, s10 = .pointer (some ⟨b_a, 0, none⟩) ∧ Hid (Gd n w wx) ∧ Hid (TAt wx u3q.heap.size t) ∧ Hid (Bo wx b_a [.int .i64 (3), .int .i64 (0)]))
    case first =>
      have h12q : Hid (Gd n w u10q.drew) := h8q.out.drew
      have h13q : Hid (TAt u10q.drew u3q.heap.size t) := h9q.out.drew
      clear h8q h9q
      refine wp_region_held_drew (S := fun w' => True) (by kernel_rfl) trivial (fun hH => ?_)
      generalize u10q.drew = u14q at h12q h13q hH ⊢
      refine wpAnyH_take (i := 1) (oi := { dst := some 22, op := .move (.tmp 1), type := _, pos := _, after := _, guard := _ }) (v := ?_) rfl (by kernel_rfl) (by kernel_rfl) (by kernel_rfl) (fun _ _ _ h => h) (Or.inl ⟨by rfl, ?_⟩) hH ?_
      rotate_left
      · intro w hSw
        clear hSw
        go_simp
        try with_reducible rfl
      simp only [Act.put, List.setIfInBounds_toArray, List.set_cons_zero, List.set_cons_succ]
      refine wpAnyH_take (i := 2) (oi := { dst := some 23, op := .move (.tmp 2), type := _, pos := _, after := _, guard := _ }) (v := ?_) rfl (by kernel_rfl) (by kernel_rfl) (by kernel_rfl) (fun _ _ _ h => h) (Or.inl ⟨by rfl, ?_⟩) hH ?_
      rotate_left
      · intro w hSw
        clear hSw
        go_simp
        try with_reducible rfl
      simp only [Act.put, List.setIfInBounds_toArray, List.set_cons_zero, List.set_cons_succ]
      refine wpAnyH_ready (rs := [0, 3, 9]) (by kernel_rfl) (by simp) ?_
      refine AllReadyH.cons (o := { dst := some 21, op := .load _ (.tmp 9), type := _, pos := _, after := _, guard := _ }) rfl (fun K hK => ?_) ?_
      · rw [if_pos (by rfl)]
        refine wp_load_mid _ _ rfl u3q.heap.size _ rfl t.all _ h13q.out.range HD.out rfl (HS.out t) ?_
        simp only [Act.put, List.setIfInBounds_toArray, List.set_cons_zero, List.set_cons_succ]
        refine hK.out _ _ trivial (fun hH => ?_)
        clear hK K
        try simp only [Act.put, List.setIfInBounds_toArray, List.set_cons_zero, List.set_cons_succ]
        refine wpAnyH_ready (rs := [3, 9]) (by kernel_rfl) (by simp) ?_
        refine AllReadyH.cons (o := { dst := some 24, op := _, type := _, pos := _, after := _, guard := _ }) rfl (fun K hK => ?_) ?_
        · go_simp
          refine (Pr2.out _).mono ?_
          rintro e u15q ⟨rfl, hw⟩
          rw [hw]; clear hw u15q
          go_wp2_with fail
          refine hK.out _ _ trivial (fun hH => ?_)
          clear hK K
          try simp only [Act.put, List.setIfInBounds_toArray, List.set_cons_zero, List.set_cons_succ]
          refine wpAnyH_take (i := 4) (oi := { dst := some 25, op := .build _ #[(0, .const (.int .i64 1)), (1, .tmp 22), (2, .tmp 24)], type := _, pos := _, after := _, guard := _ }) (v := ?_) rfl (by kernel_rfl) (by kernel_rfl) (by kernel_rfl) (fun _ _ _ h => h) (Or.inl ⟨by rfl, ?_⟩) hH ?_
          rotate_left
          · intro w hSw
            clear hSw
            go_simp
            try with_reducible rfl
          simp only [Act.put, List.setIfInBounds_toArray, List.set_cons_zero, List.set_cons_succ]
          refine wpAnyH_ready (rs := [5, 9]) (by kernel_rfl) (by simp) ?_
          refine AllReadyH.cons (o := { dst := some 26, op := _, type := _, pos := _, after := _, guard := _ }) rfl (fun K hK => ?_) ?_
          · go_simp
            refine (DO _).mono ?_
            rintro e u16q ⟨rfl, hb⟩
            have h17q : Hid (Gd n w u16q) := h12q.out.later hb
            have h18q : Hid (TAt u16q u3q.heap.size t) := h13q.out.later hb
            clear h12q h13q
            clear hb
            go_wp2_with fail
            refine hK.out _ _ trivial (fun hH => ?_)
            clear hK K
            try simp only [Act.put, List.setIfInBounds_toArray, List.set_cons_zero, List.set_cons_succ]
            refine wpAnyH_take (i := 6) (oi := { dst := some 20, op := .move (.tmp 26), type := _, pos := _, after := _, guard := _ }) (v := ?_) rfl (by kernel_rfl) (by kernel_rfl) (by kernel_rfl) (fun _ _ _ h => h) (Or.inl ⟨by rfl, ?_⟩) hH ?_
            rotate_left
            · intro w hSw
              clear hSw
              go_simp
              try with_reducible rfl
            simp only [Act.put, List.setIfInBounds_toArray, List.set_cons_zero, List.set_cons_succ]
            refine wpAnyH_take (i := 7) (oi := { dst := some 27, op := .extract (.tmp 20) 0, type := _, pos := _, after := _, guard := _ }) (v := ?_) rfl (by kernel_rfl) (by kernel_rfl) (by kernel_rfl) (fun _ _ _ h => h) (Or.inl ⟨by rfl, ?_⟩) hH ?_
            rotate_left
            · intro w hSw
              clear hSw
              go_simp
              try with_reducible rfl
            simp only [Act.put, List.setIfInBounds_toArray, List.set_cons_zero, List.set_cons_succ]
            refine wpAnyH_take (i := 8) (oi := { dst := some 28, op := .extract (.tmp 20) 1, type := _, pos := _, after := _, guard := _ }) (v := ?_) rfl (by kernel_rfl) (by kernel_rfl) (by kernel_rfl) (fun _ _ _ h => h) (Or.inl ⟨by rfl, ?_⟩) hH ?_
            rotate_left
            · intro w hSw
              clear hSw
              go_simp
              try with_reducible rfl
            simp only [Act.put, List.setIfInBounds_toArray, List.set_cons_zero, List.set_cons_succ]
            refine wpAnyH_ready (rs := [9]) (by kernel_rfl) (by simp) ?_
            refine AllReadyH.cons (o := { dst := some 10, op := .alloc _, type := _, pos := _, after := _, guard := _ }) rfl (fun K hK => ?_) AllReadyH.nil
            have l19q : n ≤ u16q.heap.size := h17q.out.le
            have l20q : u3q.heap.size < u16q.heap.size := h18q.out.lt
            go_simp
            have h21q : Hid (Gd n w (u16q.alloc (.cells #[.int .i64 0, .int .i64 0] 31))) := h17q.out.new (.cells #[.int .i64 0, .int .i64 0] 31)
            have h22q : Hid (TAt (u16q.alloc (.cells #[.int .i64 0, .int .i64 0] 31)) u3q.heap.size t) := h18q.out.new (.cells #[.int .i64 0, .int .i64 0] 31)
            clear h17q h18q
            have h23q : Hid (Bo (u16q.alloc (.cells #[.int .i64 0, .int .i64 0] 31)) u16q.heap.size [.int .i64 0, .int .i64 0]) := Bo.born u16q [.int .i64 0, .int .i64 0] 31 (by simp)
            refine hK.out _ _ trivial (fun hH => ?_)
            clear hK K
            generalize (u16q.alloc (.cells #[.int .i64 0, .int .i64 0] 31)) = u24q at h21q h22q h23q hH ⊢
            try simp only [Act.put, List.setIfInBounds_toArray, List.set_cons_zero, List.set_cons_succ]
            refine wpAnyH_ready (rs := [10]) (by kernel_rfl) (by simp) ?_
            refine AllReadyH.cons (o := { dst := none, op := .store _ (.tmp 9) (.tmp 27), type := _, pos := _, after := _, guard := _ }) rfl (fun K hK => ?_) AllReadyH.nil
            rw [if_pos (by rfl)]
            refine wp_store_mid _ _ _ rfl u3q.heap.size _ t.all.toArray rfl rfl (h22q.out.thereOf t) (HZ.out t) (t.all_all) ?_
            simp only [Act.put]
            have h25q : Hid (Gd n w (u24q.setCells u3q.heap.size 0 t.all)) := h21q.out.asideAll (by omega) t
            have h26q : Hid (TAt (u24q.setCells u3q.heap.size 0 t.all) u3q.heap.size t) := h22q.out.setAll t
            have h27q : Hid (Bo (u24q.setCells u3q.heap.size 0 t.all) u16q.heap.size [.int .i64 0, .int .i64 0]) := h23q.out.asideAll (by omega) t
            clear h21q h22q h23q
            refine hK.out _ _ trivial (fun hH => ?_)
            clear hK K
            generalize (u24q.setCells u3q.heap.size 0 t.all) = u28q at h25q h26q h27q hH ⊢
            try simp only [Act.put, List.setIfInBounds_toArray, List.set_cons_zero, List.set_cons_succ]
            refine wpAnyH_ready (rs := [11]) (by kernel_rfl) (by simp) ?_
            refine AllReadyH.cons (o := { dst := none, op := .store _ (.tmp 10) (.tmp 28), type := _, pos := _, after := _, guard := _ }) rfl (fun K hK => ?_) AllReadyH.nil
            rw [if_pos (by rfl)]
            refine wp_store_mid _ _ _ rfl u16q.heap.size _ #[.int .i64 (3), .int .i64 (0)] rfl rfl h27q.out.there2 HA.out (two_one _ _) ?_
            simp only [Act.put]
            have h29q : Hid (Gd n w (u28q.setCells u16q.heap.size 0 [.int .i64 (3), .int .i64 (0)])) := h25q.out.asideL (by omega) 0 [.int .i64 (3), .int .i64 (0)]
            have h30q : Hid (TAt (u28q.setCells u16q.heap.size 0 [.int .i64 (3), .int .i64 (0)]) u3q.heap.size t) := h26q.out.asideL (by omega) 0 [.int .i64 (3), .int .i64 (0)]
            have h31q : Hid (Bo (u28q.setCells u16q.heap.size 0 [.int .i64 (3), .int .i64 (0)]) u16q.heap.size [.int .i64 (3), .int .i64 (0)]) := h27q.out.set2 (.int .i64 (3)) (.int .i64 (0))
            clear h25q h26q h27q
            refine hK.out _ _ trivial (fun hH => ?_)
            clear hK K
            generalize (u28q.setCells u16q.heap.size 0 [.int .i64 (3), .int .i64 (0)]) = u32q at h29q h30q h31q hH ⊢
            try simp only [Act.put, List.setIfInBounds_toArray, List.set_cons_zero, List.set_cons_succ]
            refine wpAnyH_done (by kernel_rfl) ?_ _
            go_wp2_with fail
            go_meet
            case rel => exact ⟨u16q.heap.size, rfl, h29q, h30q, h31q⟩
          refine AllReadyH.cons (o := { dst := some 10, op := .alloc _, type := _, pos := _, after := _, guard := _ }) rfl (fun K hK => ?_) AllReadyH.nil
          have l33q : n ≤ u14q.heap.size := h12q.out.le
          have l34q : u3q.heap.size < u14q.heap.size := h13q.out.lt
          go_simp
          have h35q : Hid (Gd n w (u14q.alloc (.cells #[.int .i64 0, .int .i64 0] 31))) := h12q.out.new (.cells #[.int .i64 0, .int .i64 0] 31)
          have h36q : Hid (TAt (u14q.alloc (.cells #[.int .i64 0, .int .i64 0] 31)) u3q.heap.size t) := h13q.out.new (.cells #[.int .i64 0, .int .i64 0] 31)
          clear h12q h13q
          have h37q : Hid (Bo (u14q.alloc (.cells #[.int .i64 0, .int .i64 0] 31)) u14q.heap.size [.int .i64 0, .int .i64 0]) := Bo.born u14q [.int .i64 0, .int .i64 0] 31 (by simp)
          refine hK.out _ _ trivial (fun hH => ?_)
          clear hK K
          generalize (u14q.alloc (.cells #[.int .i64 0, .int .i64 0] 31)) = u38q at h35q h36q h37q hH ⊢
          try simp only [Act.put, List.setIfInBounds_toArray, List.set_cons_zero, List.set_cons_succ]
          refine wpAnyH_ready (rs := [5]) (by kernel_rfl) (by simp) ?_
          refine AllReadyH.cons (o := { dst := some 26, op := _, type := _, pos := _, after := _, guard := _ }) rfl (fun K hK => ?_) AllReadyH.nil
          go_simp
          refine (DO _).mono ?_
          rintro e u39q ⟨rfl, hb⟩
          have h40q : Hid (Gd n w u39q) := h35q.out.later hb
          have h41q : Hid (TAt u39q u3q.heap.size t) := h36q.out.later hb
          have h42q : Hid (Bo u39q u14q.heap.size [.int .i64 0, .int .i64 0]) := h37q.out.later hb
          clear h35q h36q h37q
          clear hb
          go_wp2_with fail
          refine hK.out _ _ trivial (fun hH => ?_)
          clear hK K
          try simp only [Act.put, List.setIfInBounds_toArray, List.set_cons_zero, List.set_cons_succ]
          refine wpAnyH_take (i := 6) (oi := { dst := some 20, op := .move (.tmp 26), type := _, pos := _, after := _, guard := _ }) (v := ?_) rfl (by kernel_rfl) (by kernel_rfl) (by kernel_rfl) (fun _ _ _ h => h) (Or.inl ⟨by rfl, ?_⟩) hH ?_
          rotate_left
          · intro w hSw
            clear hSw
            go_simp
            try with_reducible rfl
          simp only [Act.put, List.setIfInBounds_toArray, List.set_cons_zero, List.set_cons_succ]
          refine wpAnyH_take (i := 7) (oi := { dst := some 27, op := .extract (.tmp 20) 0, type := _, pos := _, after := _, guard := _ }) (v := ?_) rfl (by kernel_rfl) (by kernel_rfl) (by kernel_rfl) (fun _ _ _ h => h) (Or.inl ⟨by rfl, ?_⟩) hH ?_
          rotate_left
          · intro w hSw
            clear hSw
            go_simp
            try with_reducible rfl
          simp only [Act.put, List.setIfInBounds_toArray, List.set_cons_zero, List.set_cons_succ]
          refine wpAnyH_take (i := 8) (oi := { dst := some 28, op := .extract (.tmp 20) 1, type := _, pos := _, after := _, guard := _ }) (v := ?_) rfl (by kernel_rfl) (by kernel_rfl) (by kernel_rfl) (fun _ _ _ h => h) (Or.inl ⟨by rfl, ?_⟩) hH ?_
          rotate_left
          · intro w hSw
            clear hSw
            go_simp
            try with_reducible rfl
          simp only [Act.put, List.setIfInBounds_toArray, List.set_cons_zero, List.set_cons_succ]
          refine wpAnyH_ready (rs := [10]) (by kernel_rfl) (by simp) ?_
          refine AllReadyH.cons (o := { dst := none, op := .store _ (.tmp 9) (.tmp 27), type := _, pos := _, after := _, guard := _ }) rfl (fun K hK => ?_) AllReadyH.nil
          rw [if_pos (by rfl)]
          refine wp_store_mid _ _ _ rfl u3q.heap.size _ t.all.toArray rfl rfl (h41q.out.thereOf t) (HZ.out t) (t.all_all) ?_
          simp only [Act.put]
          have h43q : Hid (Gd n w (u39q.setCells u3q.heap.size 0 t.all)) := h40q.out.asideAll (by omega) t
          have h44q : Hid (TAt (u39q.setCells u3q.heap.size 0 t.all) u3q.heap.size t) := h41q.out.setAll t
          have h45q : Hid (Bo (u39q.setCells u3q.heap.size 0 t.all) u14q.heap.size [.int .i64 0, .int .i64 0]) := h42q.out.asideAll (by omega) t
          clear h40q h41q h42q
          refine hK.out _ _ trivial (fun hH => ?_)
          clear hK K
          generalize (u39q.setCells u3q.heap.size 0 t.all) = u46q at h43q h44q h45q hH ⊢
          try simp only [Act.put, List.setIfInBounds_toArray, List.set_cons_zero, List.set_cons_succ]
          refine wpAnyH_ready (rs := [11]) (by kernel_rfl) (by simp) ?_
          refine AllReadyH.cons (o := { dst := none, op := .store _ (.tmp 10) (.tmp 28), type := _, pos := _, after := _, guard := _ }) rfl (fun K hK => ?_) AllReadyH.nil
          rw [if_pos (by rfl)]
          refine wp_store_mid _ _ _ rfl u14q.heap.size _ #[.int .i64 (3), .int .i64 (0)] rfl rfl h45q.out.there2 HA.out (two_one _ _) ?_
          simp only [Act.put]
          have h47q : Hid (Gd n w (u46q.setCells u14q.heap.size 0 [.int .i64 (3), .int .i64 (0)])) := h43q.out.asideL (by omega) 0 [.int .i64 (3), .int .i64 (0)]
          have h48q : Hid (TAt (u46q.setCells u14q.heap.size 0 [.int .i64 (3), .int .i64 (0)]) u3q.heap.size t) := h44q.out.asideL (by omega) 0 [.int .i64 (3), .int .i64 (0)]
          have h49q : Hid (Bo (u46q.setCells u14q.heap.size 0 [.int .i64 (3), .int .i64 (0)]) u14q.heap.size [.int .i64 (3), .int .i64 (0)]) := h45q.out.set2 (.int .i64 (3)) (.int .i64 (0))
          clear h43q h44q h45q
          refine hK.out _ _ trivial (fun hH => ?_)
          clear hK K
          generalize (u46q.setCells u14q.heap.size 0 [.int .i64 (3), .int .i64 (0)]) = u50q at h47q h48q h49q hH ⊢
          try simp only [Act.put, List.setIfInBounds_toArray, List.set_cons_zero, List.set_cons_succ]
          refine wpAnyH_done (by kernel_rfl) ?_ _
          go_wp2_with fail
          go_meet
          case rel => exact ⟨u14q.heap.size, rfl, h47q, h48q, h49q⟩
        refine AllReadyH.cons (o := { dst := some 10, op := .alloc _, type := _, pos := _, after := _, guard := _ }) rfl (fun K hK => ?_) AllReadyH.nil
        have l51q : n ≤ u14q.heap.size := h12q.out.le
        have l52q : u3q.heap.size < u14q.heap.size := h13q.out.lt
        go_simp
        have h53q : Hid (Gd n w (u14q.alloc (.cells #[.int .i64 0, .int .i64 0] 31))) := h12q.out.new (.cells #[.int .i64 0, .int .i64 0] 31)
        have h54q : Hid (TAt (u14q.alloc (.cells #[.int .i64 0, .int .i64 0] 31)) u3q.heap.size t) := h13q.out.new (.cells #[.int .i64 0, .int .i64 0] 31)
        clear h12q h13q
        have h55q : Hid (Bo (u14q.alloc (.cells #[.int .i64 0, .int .i64 0] 31)) u14q.heap.size [.int .i64 0, .int .i64 0]) := Bo.born u14q [.int .i64 0, .int .i64 0] 31 (by simp)
        refine hK.out _ _ trivial (fun hH => ?_)
        clear hK K
        generalize (u14q.alloc (.cells #[.int .i64 0, .int .i64 0] 31)) = u56q at h53q h54q h55q hH ⊢
        try simp only [Act.put, List.setIfInBounds_toArray, List.set_cons_zero, List.set_cons_succ]
        refine wpAnyH_ready (rs := [3]) (by kernel_rfl) (by simp) ?_
        refine AllReadyH.cons (o := { dst := some 24, op := _, type := _, pos := _, after := _, guard := _ }) rfl (fun K hK => ?_) AllReadyH.nil
        go_simp
        refine (Pr2.out _).mono ?_
        rintro e u57q ⟨rfl, hw⟩
        rw [hw]; clear hw u57q
        go_wp2_with fail
        refine hK.out _ _ trivial (fun hH => ?_)
        clear hK K
        try simp only [Act.put, List.setIfInBounds_toArray, List.set_cons_zero, List.set_cons_succ]
        refine wpAnyH_take (i := 4) (oi := { dst := some 25, op := .build _ #[(0, .const (.int .i64 1)), (1, .tmp 22), (2, .tmp 24)], type := _, pos := _, after := _, guard := _ }) (v := ?_) rfl (by kernel_rfl) (by kernel_rfl) (by kernel_rfl) (fun _ _ _ h => h) (Or.inl ⟨by rfl, ?_⟩) hH ?_
        rotate_left
        · intro w hSw
          clear hSw
          go_simp
          try with_reducible rfl
        simp only [Act.put, List.setIfInBounds_toArray, List.set_cons_zero, List.set_cons_succ]
        refine wpAnyH_ready (rs := [5]) (by kernel_rfl) (by simp) ?_
        refine AllReadyH.cons (o := { dst := some 26, op := _, type := _, pos := _, after := _, guard := _ }) rfl (fun K hK => ?_) AllReadyH.nil
        go_simp
        refine (DO _).mono ?_
        rintro e u58q ⟨rfl, hb⟩
        have h59q : Hid (Gd n w u58q) := h53q.out.later hb
        have h60q : Hid (TAt u58q u3q.heap.size t) := h54q.out.later hb
        have h61q : Hid (Bo u58q u14q.heap.size [.int .i64 0, .int .i64 0]) := h55q.out.later hb
        clear h53q h54q h55q
        clear hb
        go_wp2_with fail
        refine hK.out _ _ trivial (fun hH => ?_)
        clear hK K
        try simp only [Act.put, List.setIfInBounds_toArray, List.set_cons_zero, List.set_cons_succ]
        refine wpAnyH_take (i := 6) (oi := { dst := some 20, op := .move (.tmp 26), type := _, pos := _, after := _, guard := _ }) (v := ?_) rfl (by kernel_rfl) (by kernel_rfl) (by kernel_rfl) (fun _ _ _ h => h) (Or.inl ⟨by rfl, ?_⟩) hH ?_
        rotate_left
        · intro w hSw
          clear hSw
          go_simp
          try with_reducible rfl
        simp only [Act.put, List.setIfInBounds_toArray, List.set_cons_zero, List.set_cons_succ]
        refine wpAnyH_take (i := 7) (oi := { dst := some 27, op := .extract (.tmp 20) 0, type := _, pos := _, after := _, guard := _ }) (v := ?_) rfl (by kernel_rfl) (by kernel_rfl) (by kernel_rfl) (fun _ _ _ h => h) (Or.inl ⟨by rfl, ?_⟩) hH ?_
        rotate_left
        · intro w hSw
          clear hSw
          go_simp
          try with_reducible rfl
        simp only [Act.put, List.setIfInBounds_toArray, List.set_cons_zero, List.set_cons_succ]
        refine wpAnyH_take (i := 8) (oi := { dst := some 28, op := .extract (.tmp 20) 1, type := _, pos := _, after := _, guard := _ }) (v := ?_) rfl (by kernel_rfl) (by kernel_rfl) (by kernel_rfl) (fun _ _ _ h => h) (Or.inl ⟨by rfl, ?_⟩) hH ?_
        rotate_left
        · intro w hSw
          clear hSw
          go_simp
          try with_reducible rfl
        simp only [Act.put, List.setIfInBounds_toArray, List.set_cons_zero, List.set_cons_succ]
        refine wpAnyH_ready (rs := [10]) (by kernel_rfl) (by simp) ?_
        refine AllReadyH.cons (o := { dst := none, op := .store _ (.tmp 9) (.tmp 27), type := _, pos := _, after := _, guard := _ }) rfl (fun K hK => ?_) AllReadyH.nil
        rw [if_pos (by rfl)]
        refine wp_store_mid _ _ _ rfl u3q.heap.size _ t.all.toArray rfl rfl (h60q.out.thereOf t) (HZ.out t) (t.all_all) ?_
        simp only [Act.put]
        have h62q : Hid (Gd n w (u58q.setCells u3q.heap.size 0 t.all)) := h59q.out.asideAll (by omega) t
        have h63q : Hid (TAt (u58q.setCells u3q.heap.size 0 t.all) u3q.heap.size t) := h60q.out.setAll t
        have h64q : Hid (Bo (u58q.setCells u3q.heap.size 0 t.all) u14q.heap.size [.int .i64 0, .int .i64 0]) := h61q.out.asideAll (by omega) t
        clear h59q h60q h61q
        refine hK.out _ _ trivial (fun hH => ?_)
        clear hK K
        generalize (u58q.setCells u3q.heap.size 0 t.all) = u65q at h62q h63q h64q hH ⊢
        try simp only [Act.put, List.setIfInBounds_toArray, List.set_cons_zero, List.set_cons_succ]
        refine wpAnyH_ready (rs := [11]) (by kernel_rfl) (by simp) ?_
        refine AllReadyH.cons (o := { dst := none, op := .store _ (.tmp 10) (.tmp 28), type := _, pos := _, after := _, guard := _ }) rfl (fun K hK => ?_) AllReadyH.nil
        rw [if_pos (by rfl)]
        refine wp_store_mid _ _ _ rfl u14q.heap.size _ #[.int .i64 (3), .int .i64 (0)] rfl rfl h64q.out.there2 HA.out (two_one _ _) ?_
        simp only [Act.put]
        have h66q : Hid (Gd n w (u65q.setCells u14q.heap.size 0 [.int .i64 (3), .int .i64 (0)])) := h62q.out.asideL (by omega) 0 [.int .i64 (3), .int .i64 (0)]
        have h67q : Hid (TAt (u65q.setCells u14q.heap.size 0 [.int .i64 (3), .int .i64 (0)]) u3q.heap.size t) := h63q.out.asideL (by omega) 0 [.int .i64 (3), .int .i64 (0)]
        have h68q : Hid (Bo (u65q.setCells u14q.heap.size 0 [.int .i64 (3), .int .i64 (0)]) u14q.heap.size [.int .i64 (3), .int .i64 (0)]) := h64q.out.set2 (.int .i64 (3)) (.int .i64 (0))
        clear h62q h63q h64q
        refine hK.out _ _ trivial (fun hH => ?_)
        clear hK K
        generalize (u65q.setCells u14q.heap.size 0 [.int .i64 (3), .int .i64 (0)]) = u69q at h66q h67q h68q hH ⊢
        try simp only [Act.put, List.setIfInBounds_toArray, List.set_cons_zero, List.set_cons_succ]
        refine wpAnyH_done (by kernel_rfl) ?_ _
        go_wp2_with fail
        go_meet
        case rel => exact ⟨u14q.heap.size, rfl, h66q, h67q, h68q⟩
      refine AllReadyH.cons (o := { dst := some 24, op := _, type := _, pos := _, after := _, guard := _ }) rfl (fun K hK => ?_) ?_
      · go_simp
        refine (Pr2.out _).mono ?_
        rintro e u70q ⟨rfl, hw⟩
        rw [hw]; clear hw u70q
        go_wp2_with fail
        refine hK.out _ _ trivial (fun hH => ?_)
        clear hK K
        try simp only [Act.put, List.setIfInBounds_toArray, List.set_cons_zero, List.set_cons_succ]
        refine wpAnyH_take (i := 4) (oi := { dst := some 25, op := .build _ #[(0, .const (.int .i64 1)), (1, .tmp 22), (2, .tmp 24)], type := _, pos := _, after := _, guard := _ }) (v := ?_) rfl (by kernel_rfl) (by kernel_rfl) (by kernel_rfl) (fun _ _ _ h => h) (Or.inl ⟨by rfl, ?_⟩) hH ?_
        rotate_left
        · intro w hSw
          clear hSw
          go_simp
          try with_reducible rfl
        simp only [Act.put, List.setIfInBounds_toArray, List.set_cons_zero, List.set_cons_succ]
        refine wpAnyH_ready (rs := [0, 9]) (by kernel_rfl) (by simp) ?_
        refine AllReadyH.cons (o := { dst := some 21, op := .load _ (.tmp 9), type := _, pos := _, after := _, guard := _ }) rfl (fun K hK => ?_) ?_
        · rw [if_pos (by rfl)]
          refine wp_load_mid _ _ rfl u3q.heap.size _ rfl t.all _ h13q.out.range HD.out rfl (HS.out t) ?_
          simp only [Act.put, List.setIfInBounds_toArray, List.set_cons_zero, List.set_cons_succ]
          refine hK.out _ _ trivial (fun hH => ?_)
          clear hK K
          try simp only [Act.put, List.setIfInBounds_toArray, List.set_cons_zero, List.set_cons_succ]
          refine wpAnyH_ready (rs := [5, 9]) (by kernel_rfl) (by simp) ?_
          refine AllReadyH.cons (o := { dst := some 26, op := _, type := _, pos := _, after := _, guard := _ }) rfl (fun K hK => ?_) ?_
          · go_simp
            refine (DO _).mono ?_
            rintro e u71q ⟨rfl, hb⟩
            have h72q : Hid (Gd n w u71q) := h12q.out.later hb
            have h73q : Hid (TAt u71q u3q.heap.size t) := h13q.out.later hb
            clear h12q h13q
            clear hb
            go_wp2_with fail
            refine hK.out _ _ trivial (fun hH => ?_)
            clear hK K
            try simp only [Act.put, List.setIfInBounds_toArray, List.set_cons_zero, List.set_cons_succ]
            refine wpAnyH_take (i := 6) (oi := { dst := some 20, op := .move (.tmp 26), type := _, pos := _, after := _, guard := _ }) (v := ?_) rfl (by kernel_rfl) (by kernel_rfl) (by kernel_rfl) (fun _ _ _ h => h) (Or.inl ⟨by rfl, ?_⟩) hH ?_
            rotate_left
            · intro w hSw
              clear hSw
              go_simp
              try with_reducible rfl
            simp only [Act.put, List.setIfInBounds_toArray, List.set_cons_zero, List.set_cons_succ]
            refine wpAnyH_take (i := 7) (oi := { dst := some 27, op := .extract (.tmp 20) 0, type := _, pos := _, after := _, guard := _ }) (v := ?_) rfl (by kernel_rfl) (by kernel_rfl) (by kernel_rfl) (fun _ _ _ h => h) (Or.inl ⟨by rfl, ?_⟩) hH ?_
            rotate_left
            · intro w hSw
              clear hSw
              go_simp
              try with_reducible rfl
            simp only [Act.put, List.setIfInBounds_toArray, List.set_cons_zero, List.set_cons_succ]
            refine wpAnyH_take (i := 8) (oi := { dst := some 28, op := .extract (.tmp 20) 1, type := _, pos := _, after := _, guard := _ }) (v := ?_) rfl (by kernel_rfl) (by kernel_rfl) (by kernel_rfl) (fun _ _ _ h => h) (Or.inl ⟨by rfl, ?_⟩) hH ?_
            rotate_left
            · intro w hSw
              clear hSw
              go_simp
              try with_reducible rfl
            simp only [Act.put, List.setIfInBounds_toArray, List.set_cons_zero, List.set_cons_succ]
            refine wpAnyH_ready (rs := [9]) (by kernel_rfl) (by simp) ?_
            refine AllReadyH.cons (o := { dst := some 10, op := .alloc _, type := _, pos := _, after := _, guard := _ }) rfl (fun K hK => ?_) AllReadyH.nil
            have l74q : n ≤ u71q.heap.size := h72q.out.le
            have l75q : u3q.heap.size < u71q.heap.size := h73q.out.lt
            go_simp
            have h76q : Hid (Gd n w (u71q.alloc (.cells #[.int .i64 0, .int .i64 0] 31))) := h72q.out.new (.cells #[.int .i64 0, .int .i64 0] 31)
            have h77q : Hid (TAt (u71q.alloc (.cells #[.int .i64 0, .int .i64 0] 31)) u3q.heap.size t) := h73q.out.new (.cells #[.int .i64 0, .int .i64 0] 31)
            clear h72q h73q
            have h78q : Hid (Bo (u71q.alloc (.cells #[.int .i64 0, .int .i64 0] 31)) u71q.heap.size [.int .i64 0, .int .i64 0]) := Bo.born u71q [.int .i64 0, .int .i64 0] 31 (by simp)
            refine hK.out _ _ trivial (fun hH => ?_)
            clear hK K
            generalize (u71q.alloc (.cells #[.int .i64 0, .int .i64 0] 31)) = u79q at h76q h77q h78q hH ⊢
            try simp only [Act.put, List.setIfInBounds_toArray, List.set_cons_zero, List.set_cons_succ]
            refine wpAnyH_ready (rs := [10]) (by kernel_rfl) (by simp) ?_
            refine AllReadyH.cons (o := { dst := none, op := .store _ (.tmp 9) (.tmp 27), type := _, pos := _, after := _, guard := _ }) rfl (fun K hK => ?_) AllReadyH.nil
            rw [if_pos (by rfl)]
            refine wp_store_mid _ _ _ rfl u3q.heap.size _ t.all.toArray rfl rfl (h77q.out.thereOf t) (HZ.out t) (t.all_all) ?_
            simp only [Act.put]
            have h80q : Hid (Gd n w (u79q.setCells u3q.heap.size 0 t.all)) := h76q.out.asideAll (by omega) t
            have h81q : Hid (TAt (u79q.setCells u3q.heap.size 0 t.all) u3q.heap.size t) := h77q.out.setAll t
            have h82q : Hid (Bo (u79q.setCells u3q.heap.size 0 t.all) u71q.heap.size [.int .i64 0, .int .i64 0]) := h78q.out.asideAll (by omega) t
            clear h76q h77q h78q
            refine hK.out _ _ trivial (fun hH => ?_)
            clear hK K
            generalize (u79q.setCells u3q.heap.size 0 t.all) = u83q at h80q h81q h82q hH ⊢
            try simp only [Act.put, List.setIfInBounds_toArray, List.set_cons_zero, List.set_cons_succ]
            refine wpAnyH_ready (rs := [11]) (by kernel_rfl) (by simp) ?_
            refine AllReadyH.cons (o := { dst := none, op := .store _ (.tmp 10) (.tmp 28), type := _, pos := _, after := _, guard := _ }) rfl (fun K hK => ?_) AllReadyH.nil
            rw [if_pos (by rfl)]
            refine wp_store_mid _ _ _ rfl u71q.heap.size _ #[.int .i64 (3), .int .i64 (0)] rfl rfl h82q.out.there2 HA.out (two_one _ _) ?_
            simp only [Act.put]
            have h84q : Hid (Gd n w (u83q.setCells u71q.heap.size 0 [.int .i64 (3), .int .i64 (0)])) := h80q.out.asideL (by omega) 0 [.int .i64 (3), .int .i64 (0)]
            have h85q : Hid (TAt (u83q.setCells u71q.heap.size 0 [.int .i64 (3), .int .i64 (0)]) u3q.heap.size t) := h81q.out.asideL (by omega) 0 [.int .i64 (3), .int .i64 (0)]
            have h86q : Hid (Bo (u83q.setCells u71q.heap.size 0 [.int .i64 (3), .int .i64 (0)]) u71q.heap.size [.int .i64 (3), .int .i64 (0)]) := h82q.out.set2 (.int .i64 (3)) (.int .i64 (0))
            clear h80q h81q h82q
            refine hK.out _ _ trivial (fun hH => ?_)
            clear hK K
            generalize (u83q.setCells u71q.heap.size 0 [.int .i64 (3), .int .i64 (0)]) = u87q at h84q h85q h86q hH ⊢
            try simp only [Act.put, List.setIfInBounds_toArray, List.set_cons_zero, List.set_cons_succ]
            refine wpAnyH_done (by kernel_rfl) ?_ _
            go_wp2_with fail
            go_meet
            case rel => exact ⟨u71q.heap.size, rfl, h84q, h85q, h86q⟩
          refine AllReadyH.cons (o := { dst := some 10, op := .alloc _, type := _, pos := _, after := _, guard := _ }) rfl (fun K hK => ?_) AllReadyH.nil
          have l88q : n ≤ u14q.heap.size := h12q.out.le
          have l89q : u3q.heap.size < u14q.heap.size := h13q.out.lt
          go_simp
          have h90q : Hid (Gd n w (u14q.alloc (.cells #[.int .i64 0, .int .i64 0] 31))) := h12q.out.new (.cells #[.int .i64 0, .int .i64 0] 31)
          have h91q : Hid (TAt (u14q.alloc (.cells #[.int .i64 0, .int .i64 0] 31)) u3q.heap.size t) := h13q.out.new (.cells #[.int .i64 0, .int .i64 0] 31)
          clear h12q h13q
          have h92q : Hid (Bo (u14q.alloc (.cells #[.int .i64 0, .int .i64 0] 31)) u14q.heap.size [.int .i64 0, .int .i64 0]) := Bo.born u14q [.int .i64 0, .int .i64 0] 31 (by simp)
          refine hK.out _ _ trivial (fun hH => ?_)
          clear hK K
          generalize (u14q.alloc (.cells #[.int .i64 0, .int .i64 0] 31)) = u93q at h90q h91q h92q hH ⊢
          try simp only [Act.put, List.setIfInBounds_toArray, List.set_cons_zero, List.set_cons_succ]
          refine wpAnyH_ready (rs := [5]) (by kernel_rfl) (by simp) ?_
          refine AllReadyH.cons (o := { dst := some 26, op := _, type := _, pos := _, after := _, guard := _ }) rfl (fun K hK => ?_) AllReadyH.nil
          go_simp
          refine (DO _).mono ?_
          rintro e u94q ⟨rfl, hb⟩
          have h95q : Hid (Gd n w u94q) := h90q.out.later hb
          have h96q : Hid (TAt u94q u3q.heap.size t) := h91q.out.later hb
          have h97q : Hid (Bo u94q u14q.heap.size [.int .i64 0, .int .i64 0]) := h92q.out.later hb
          clear h90q h91q h92q
          clear hb
          go_wp2_with fail
          refine hK.out _ _ trivial (fun hH => ?_)
          clear hK K
          try simp only [Act.put, List.setIfInBounds_toArray, List.set_cons_zero, List.set_cons_succ]
          refine wpAnyH_take (i := 6) (oi := { dst := some 20, op := .move (.tmp 26), type := _, pos := _, after := _, guard := _ }) (v := ?_) rfl (by kernel_rfl) (by kernel_rfl) (by kernel_rfl) (fun _ _ _ h => h) (Or.inl ⟨by rfl, ?_⟩) hH ?_
          rotate_left
          · intro w hSw
            clear hSw
            go_simp
            try with_reducible rfl
          simp only [Act.put, List.setIfInBounds_toArray, List.set_cons_zero, List.set_cons_succ]
          refine wpAnyH_take (i := 7) (oi := { dst := some 27, op := .extract (.tmp 20) 0, type := _, pos := _, after := _, guard := _ }) (v := ?_) rfl (by kernel_rfl) (by kernel_rfl) (by kernel_rfl) (fun _ _ _ h => h) (Or.inl ⟨by rfl, ?_⟩) hH ?_
          rotate_left
          · intro w hSw
            clear hSw
            go_simp
            try with_reducible rfl
          simp only [Act.put, List.setIfInBounds_toArray, List.set_cons_zero, List.set_cons_succ]
          refine wpAnyH_take (i := 8) (oi := { dst := some 28, op := .extract (.tmp 20) 1, type := _, pos := _, after := _, guard := _ }) (v := ?_) rfl (by kernel_rfl) (by kernel_rfl) (by kernel_rfl) (fun _ _ _ h => h) (Or.inl ⟨by rfl, ?_⟩) hH ?_
          rotate_left
          · intro w hSw
            clear hSw
            go_simp
            try with_reducible rfl
          simp only [Act.put, List.setIfInBounds_toArray, List.set_cons_zero, List.set_cons_succ]
          refine wpAnyH_ready (rs := [10]) (by kernel_rfl) (by simp) ?_
          refine AllReadyH.cons (o := { dst := none, op := .store _ (.tmp 9) (.tmp 27), type := _, pos := _, after := _, guard := _ }) rfl (fun K hK => ?_) AllReadyH.nil
          rw [if_pos (by rfl)]
          refine wp_store_mid _ _ _ rfl u3q.heap.size _ t.all.toArray rfl rfl (h96q.out.thereOf t) (HZ.out t) (t.all_all) ?_
          simp only [Act.put]
          have h98q : Hid (Gd n w (u94q.setCells u3q.heap.size 0 t.all)) := h95q.out.asideAll (by omega) t
          have h99q : Hid (TAt (u94q.setCells u3q.heap.size 0 t.all) u3q.heap.size t) := h96q.out.setAll t
          have h100q : Hid (Bo (u94q.setCells u3q.heap.size 0 t.all) u14q.heap.size [.int .i64 0, .int .i64 0]) := h97q.out.asideAll (by omega) t
          clear h95q h96q h97q
          refine hK.out _ _ trivial (fun hH => ?_)
          clear hK K
          generalize (u94q.setCells u3q.heap.size 0 t.all) = u101q at h98q h99q h100q hH ⊢
          try simp only [Act.put, List.setIfInBounds_toArray, List.set_cons_zero, List.set_cons_succ]
          refine wpAnyH_ready (rs := [11]) (by kernel_rfl) (by simp) ?_
          refine AllReadyH.cons (o := { dst := none, op := .store _ (.tmp 10) (.tmp 28), type := _, pos := _, after := _, guard := _ }) rfl (fun K hK => ?_) AllReadyH.nil
          rw [if_pos (by rfl)]
          refine wp_store_mid _ _ _ rfl u14q.heap.size _ #[.int .i64 (3), .int .i64 (0)] rfl rfl h100q.out.there2 HA.out (two_one _ _) ?_
          simp only [Act.put]
          have h102q : Hid (Gd n w (u101q.setCells u14q.heap.size 0 [.int .i64 (3), .int .i64 (0)])) := h98q.out.asideL (by omega) 0 [.int .i64 (3), .int .i64 (0)]
          have h103q : Hid (TAt (u101q.setCells u14q.heap.size 0 [.int .i64 (3), .int .i64 (0)]) u3q.heap.size t) := h99q.out.asideL (by omega) 0 [.int .i64 (3), .int .i64 (0)]
          have h104q : Hid (Bo (u101q.setCells u14q.heap.size 0 [.int .i64 (3), .int .i64 (0)]) u14q.heap.size [.int .i64 (3), .int .i64 (0)]) := h100q.out.set2 (.int .i64 (3)) (.int .i64 (0))
          clear h98q h99q h100q
          refine hK.out _ _ trivial (fun hH => ?_)
          clear hK K
          generalize (u101q.setCells u14q.heap.size 0 [.int .i64 (3), .int .i64 (0)]) = u105q at h102q h103q h104q hH ⊢
          try simp only [Act.put, List.setIfInBounds_toArray, List.set_cons_zero, List.set_cons_succ]
          refine wpAnyH_done (by kernel_rfl) ?_ _
          go_wp2_with fail
          go_meet
          case rel => exact ⟨u14q.heap.size, rfl, h102q, h103q, h104q⟩
        refine AllReadyH.cons (o := { dst := some 10, op := .alloc _, type := _, pos := _, after := _, guard := _ }) rfl (fun K hK => ?_) AllReadyH.nil
        have l106q : n ≤ u14q.heap.size := h12q.out.le
        have l107q : u3q.heap.size < u14q.heap.size := h13q.out.lt
        go_simp
        have h108q : Hid (Gd n w (u14q.alloc (.cells #[.int .i64 0, .int .i64 0] 31))) := h12q.out.new (.cells #[.int .i64 0, .int .i64 0] 31)
        have h109q : Hid (TAt (u14q.alloc (.cells #[.int .i64 0, .int .i64 0] 31)) u3q.heap.size t) := h13q.out.new (.cells #[.int .i64 0, .int .i64 0] 31)
        clear h12q h13q
        have h110q : Hid (Bo (u14q.alloc (.cells #[.int .i64 0, .int .i64 0] 31)) u14q.heap.size [.int .i64 0, .int .i64 0]) := Bo.born u14q [.int .i64 0, .int .i64 0] 31 (by simp)
        refine hK.out _ _ trivial (fun hH => ?_)
        clear hK K
        generalize (u14q.alloc (.cells #[.int .i64 0, .int .i64 0] 31)) = u111q at h108q h109q h110q hH ⊢
        try simp only [Act.put, List.setIfInBounds_toArray, List.set_cons_zero, List.set_cons_succ]
        refine wpAnyH_ready (rs := [0]) (by kernel_rfl) (by simp) ?_
        refine AllReadyH.cons (o := { dst := some 21, op := .load _ (.tmp 9), type := _, pos := _, after := _, guard := _ }) rfl (fun K hK => ?_) AllReadyH.nil
        rw [if_pos (by rfl)]
        refine wp_load_mid _ _ rfl u3q.heap.size _ rfl t.all _ h109q.out.range HD.out rfl (HS.out t) ?_
        simp only [Act.put, List.setIfInBounds_toArray, List.set_cons_zero, List.set_cons_succ]
        refine hK.out _ _ trivial (fun hH => ?_)
        clear hK K
        try simp only [Act.put, List.setIfInBounds_toArray, List.set_cons_zero, List.set_cons_succ]
        refine wpAnyH_ready (rs := [5]) (by kernel_rfl) (by simp) ?_
        refine AllReadyH.cons (o := { dst := some 26, op := _, type := _, pos := _, after := _, guard := _ }) rfl (fun K hK => ?_) AllReadyH.nil
        go_simp
        refine (DO _).mono ?_
        rintro e u112q ⟨rfl, hb⟩
        have h113q : Hid (Gd n w u112q) := h108q.out.later hb
        have h114q : Hid (TAt u112q u3q.heap.size t) := h109q.out.later hb
        have h115q : Hid (Bo u112q u14q.heap.size [.int .i64 0, .int .i64 0]) := h110q.out.later hb
        clear h108q h109q h110q
        clear hb
        go_wp2_with fail
        refine hK.out _ _ trivial (fun hH => ?_)
        clear hK K
        try simp only [Act.put, List.setIfInBounds_toArray, List.set_cons_zero, List.set_cons_succ]
        refine wpAnyH_take (i := 6) (oi := { dst := some 20, op := .move (.tmp 26), type := _, pos := _, after := _, guard := _ }) (v := ?_) rfl (by kernel_rfl) (by kernel_rfl) (by kernel_rfl) (fun _ _ _ h => h) (Or.inl ⟨by rfl, ?_⟩) hH ?_
        rotate_left
        · intro w hSw
          clear hSw
          go_simp
          try with_reducible rfl
        simp only [Act.put, List.setIfInBounds_toArray, List.set_cons_zero, List.set_cons_succ]
        refine wpAnyH_take (i := 7) (oi := { dst := some 27, op := .extract (.tmp 20) 0, type := _, pos := _, after := _, guard := _ }) (v := ?_) rfl (by kernel_rfl) (by kernel_rfl) (by kernel_rfl) (fun _ _ _ h => h) (Or.inl ⟨by rfl, ?_⟩) hH ?_
        rotate_left
        · intro w hSw
          clear hSw
          go_simp
          try with_reducible rfl
        simp only [Act.put, List.setIfInBounds_toArray, List.set_cons_zero, List.set_cons_succ]
        refine wpAnyH_take (i := 8) (oi := { dst := some 28, op := .extract (.tmp 20) 1, type := _, pos := _, after := _, guard := _ }) (v := ?_) rfl (by kernel_rfl) (by kernel_rfl) (by kernel_rfl) (fun _ _ _ h => h) (Or.inl ⟨by rfl, ?_⟩) hH ?_
        rotate_left
        · intro w hSw
          clear hSw
          go_simp
          try with_reducible rfl
        simp only [Act.put, List.setIfInBounds_toArray, List.set_cons_zero, List.set_cons_succ]
        refine wpAnyH_ready (rs := [10]) (by kernel_rfl) (by simp) ?_
        refine AllReadyH.cons (o := { dst := none, op := .store _ (.tmp 9) (.tmp 27), type := _, pos := _, after := _, guard := _ }) rfl (fun K hK => ?_) AllReadyH.nil
        rw [if_pos (by rfl)]
        refine wp_store_mid _ _ _ rfl u3q.heap.size _ t.all.toArray rfl rfl (h114q.out.thereOf t) (HZ.out t) (t.all_all) ?_
        simp only [Act.put]
        have h116q : Hid (Gd n w (u112q.setCells u3q.heap.size 0 t.all)) := h113q.out.asideAll (by omega) t
        have h117q : Hid (TAt (u112q.setCells u3q.heap.size 0 t.all) u3q.heap.size t) := h114q.out.setAll t
        have h118q : Hid (Bo (u112q.setCells u3q.heap.size 0 t.all) u14q.heap.size [.int .i64 0, .int .i64 0]) := h115q.out.asideAll (by omega) t
        clear h113q h114q h115q
        refine hK.out _ _ trivial (fun hH => ?_)
        clear hK K
        generalize (u112q.setCells u3q.heap.size 0 t.all) = u119q at h116q h117q h118q hH ⊢
        try simp only [Act.put, List.setIfInBounds_toArray, List.set_cons_zero, List.set_cons_succ]
        refine wpAnyH_ready (rs := [11]) (by kernel_rfl) (by simp) ?_
        refine AllReadyH.cons (o := { dst := none, op := .store _ (.tmp 10) (.tmp 28), type := _, pos := _, after := _, guard := _ }) rfl (fun K hK => ?_) AllReadyH.nil
        rw [if_pos (by rfl)]
        refine wp_store_mid _ _ _ rfl u14q.heap.size _ #[.int .i64 (3), .int .i64 (0)] rfl rfl h118q.out.there2 HA.out (two_one _ _) ?_
        simp only [Act.put]
        have h120q : Hid (Gd n w (u119q.setCells u14q.heap.size 0 [.int .i64 (3), .int .i64 (0)])) := h116q.out.asideL (by omega) 0 [.int .i64 (3), .int .i64 (0)]
        have h121q : Hid (TAt (u119q.setCells u14q.heap.size 0 [.int .i64 (3), .int .i64 (0)]) u3q.heap.size t) := h117q.out.asideL (by omega) 0 [.int .i64 (3), .int .i64 (0)]
        have h122q : Hid (Bo (u119q.setCells u14q.heap.size 0 [.int .i64 (3), .int .i64 (0)]) u14q.heap.size [.int .i64 (3), .int .i64 (0)]) := h118q.out.set2 (.int .i64 (3)) (.int .i64 (0))
        clear h116q h117q h118q
        refine hK.out _ _ trivial (fun hH => ?_)
        clear hK K
        generalize (u119q.setCells u14q.heap.size 0 [.int .i64 (3), .int .i64 (0)]) = u123q at h120q h121q h122q hH ⊢
        try simp only [Act.put, List.setIfInBounds_toArray, List.set_cons_zero, List.set_cons_succ]
        refine wpAnyH_done (by kernel_rfl) ?_ _
        go_wp2_with fail
        go_meet
        case rel => exact ⟨u14q.heap.size, rfl, h120q, h121q, h122q⟩
      refine AllReadyH.cons (o := { dst := some 10, op := .alloc _, type := _, pos := _, after := _, guard := _ }) rfl (fun K hK => ?_) AllReadyH.nil
      have l124q : n ≤ u14q.heap.size := h12q.out.le
      have l125q : u3q.heap.size < u14q.heap.size := h13q.out.lt
      go_simp
      have h126q : Hid (Gd n w (u14q.alloc (.cells #[.int .i64 0, .int .i64 0] 31))) := h12q.out.new (.cells #[.int .i64 0, .int .i64 0] 31)
      have h127q : Hid (TAt (u14q.alloc (.cells #[.int .i64 0, .int .i64 0] 31)) u3q.heap.size t) := h13q.out.new (.cells #[.int .i64 0, .int .i64 0] 31)
      clear h12q h13q
      have h128q : Hid (Bo (u14q.alloc (.cells #[.int .i64 0, .int .i64 0] 31)) u14q.heap.size [.int .i64 0, .int .i64 0]) := Bo.born u14q [.int .i64 0, .int .i64 0] 31 (by simp)
      refine hK.out _ _ trivial (fun hH => ?_)
      clear hK K
      generalize (u14q.alloc (.cells #[.int .i64 0, .int .i64 0] 31)) = u129q at h126q h127q h128q hH ⊢
      try simp only [Act.put, List.setIfInBounds_toArray, List.set_cons_zero, List.set_cons_succ]
      refine wpAnyH_ready (rs := [0, 3]) (by kernel_rfl) (by simp) ?_
      refine AllReadyH.cons (o := { dst := some 21, op := .load _ (.tmp 9), type := _, pos := _, after := _, guard := _ }) rfl (fun K hK => ?_) ?_
      · rw [if_pos (by rfl)]
        refine wp_load_mid _ _ rfl u3q.heap.size _ rfl t.all _ h127q.out.range HD.out rfl (HS.out t) ?_
        simp only [Act.put, List.setIfInBounds_toArray, List.set_cons_zero, List.set_cons_succ]
        refine hK.out _ _ trivial (fun hH => ?_)
        clear hK K
        try simp only [Act.put, List.setIfInBounds_toArray, List.set_cons_zero, List.set_cons_succ]
        refine wpAnyH_ready (rs := [3]) (by kernel_rfl) (by simp) ?_
        refine AllReadyH.cons (o := { dst := some 24, op := _, type := _, pos := _, after := _, guard := _ }) rfl (fun K hK => ?_) AllReadyH.nil
        go_simp
        refine (Pr2.out _).mono ?_
        rintro e u130q ⟨rfl, hw⟩
        rw [hw]; clear hw u130q
        go_wp2_with fail
        refine hK.out _ _ trivial (fun hH => ?_)
        clear hK K
        try simp only [Act.put, List.setIfInBounds_toArray, List.set_cons_zero, List.set_cons_succ]
        refine wpAnyH_take (i := 4) (oi := { dst := some 25, op := .build _ #[(0, .const (.int .i64 1)), (1, .tmp 22), (2, .tmp 24)], type := _, pos := _, after := _, guard := _ }) (v := ?_) rfl (by kernel_rfl) (by kernel_rfl) (by kernel_rfl) (fun _ _ _ h => h) (Or.inl ⟨by rfl, ?_⟩) hH ?_
        rotate_left
        · intro w hSw
          clear hSw
          go_simp
          try with_reducible rfl
        simp only [Act.put, List.setIfInBounds_toArray, List.set_cons_zero, List.set_cons_succ]
        refine wpAnyH_ready (rs := [5]) (by kernel_rfl) (by simp) ?_
        refine AllReadyH.cons (o := { dst := some 26, op := _, type := _, pos := _, after := _, guard := _ }) rfl (fun K hK => ?_) AllReadyH.nil
        go_simp
        refine (DO _).mono ?_
        rintro e u131q ⟨rfl, hb⟩
        have h132q : Hid (Gd n w u131q) := h126q.out.later hb
        have h133q : Hid (TAt u131q u3q.heap.size t) := h127q.out.later hb
        have h134q : Hid (Bo u131q u14q.heap.size [.int .i64 0, .int .i64 0]) := h128q.out.later hb
        clear h126q h127q h128q
        clear hb
        go_wp2_with fail
        refine hK.out _ _ trivial (fun hH => ?_)
        clear hK K
        try simp only [Act.put, List.setIfInBounds_toArray, List.set_cons_zero, List.set_cons_succ]
        refine wpAnyH_take (i := 6) (oi := { dst := some 20, op := .move (.tmp 26), type := _, pos := _, after := _, guard := _ }) (v := ?_) rfl (by kernel_rfl) (by kernel_rfl) (by kernel_rfl) (fun _ _ _ h => h) (Or.inl ⟨by rfl, ?_⟩) hH ?_
        rotate_left
        · intro w hSw
          clear hSw
          go_simp
          try with_reducible rfl
        simp only [Act.put, List.setIfInBounds_toArray, List.set_cons_zero, List.set_cons_succ]
        refine wpAnyH_take (i := 7) (oi := { dst := some 27, op := .extract (.tmp 20) 0, type := _, pos := _, after := _, guard := _ }) (v := ?_) rfl (by kernel_rfl) (by kernel_rfl) (by kernel_rfl) (fun _ _ _ h => h) (Or.inl ⟨by rfl, ?_⟩) hH ?_
        rotate_left
        · intro w hSw
          clear hSw
          go_simp
          try with_reducible rfl
        simp only [Act.put, List.setIfInBounds_toArray, List.set_cons_zero, List.set_cons_succ]
        refine wpAnyH_take (i := 8) (oi := { dst := some 28, op := .extract (.tmp 20) 1, type := _, pos := _, after := _, guard := _ }) (v := ?_) rfl (by kernel_rfl) (by kernel_rfl) (by kernel_rfl) (fun _ _ _ h => h) (Or.inl ⟨by rfl, ?_⟩) hH ?_
        rotate_left
        · intro w hSw
          clear hSw
          go_simp
          try with_reducible rfl
        simp only [Act.put, List.setIfInBounds_toArray, List.set_cons_zero, List.set_cons_succ]
        refine wpAnyH_ready (rs := [10]) (by kernel_rfl) (by simp) ?_
        refine AllReadyH.cons (o := { dst := none, op := .store _ (.tmp 9) (.tmp 27), type := _, pos := _, after := _, guard := _ }) rfl (fun K hK => ?_) AllReadyH.nil
        rw [if_pos (by rfl)]
        refine wp_store_mid _ _ _ rfl u3q.heap.size _ t.all.toArray rfl rfl (h133q.out.thereOf t) (HZ.out t) (t.all_all) ?_
        simp only [Act.put]
        have h135q : Hid (Gd n w (u131q.setCells u3q.heap.size 0 t.all)) := h132q.out.asideAll (by omega) t
        have h136q : Hid (TAt (u131q.setCells u3q.heap.size 0 t.all) u3q.heap.size t) := h133q.out.setAll t
        have h137q : Hid (Bo (u131q.setCells u3q.heap.size 0 t.all) u14q.heap.size [.int .i64 0, .int .i64 0]) := h134q.out.asideAll (by omega) t
        clear h132q h133q h134q
        refine hK.out _ _ trivial (fun hH => ?_)
        clear hK K
        generalize (u131q.setCells u3q.heap.size 0 t.all) = u138q at h135q h136q h137q hH ⊢
        try simp only [Act.put, List.setIfInBounds_toArray, List.set_cons_zero, List.set_cons_succ]
        refine wpAnyH_ready (rs := [11]) (by kernel_rfl) (by simp) ?_
        refine AllReadyH.cons (o := { dst := none, op := .store _ (.tmp 10) (.tmp 28), type := _, pos := _, after := _, guard := _ }) rfl (fun K hK => ?_) AllReadyH.nil
        rw [if_pos (by rfl)]
        refine wp_store_mid _ _ _ rfl u14q.heap.size _ #[.int .i64 (3), .int .i64 (0)] rfl rfl h137q.out.there2 HA.out (two_one _ _) ?_
        simp only [Act.put]
        have h139q : Hid (Gd n w (u138q.setCells u14q.heap.size 0 [.int .i64 (3), .int .i64 (0)])) := h135q.out.asideL (by omega) 0 [.int .i64 (3), .int .i64 (0)]
        have h140q : Hid (TAt (u138q.setCells u14q.heap.size 0 [.int .i64 (3), .int .i64 (0)]) u3q.heap.size t) := h136q.out.asideL (by omega) 0 [.int .i64 (3), .int .i64 (0)]
        have h141q : Hid (Bo (u138q.setCells u14q.heap.size 0 [.int .i64 (3), .int .i64 (0)]) u14q.heap.size [.int .i64 (3), .int .i64 (0)]) := h137q.out.set2 (.int .i64 (3)) (.int .i64 (0))
        clear h135q h136q h137q
        refine hK.out _ _ trivial (fun hH => ?_)
        clear hK K
        generalize (u138q.setCells u14q.heap.size 0 [.int .i64 (3), .int .i64 (0)]) = u142q at h139q h140q h141q hH ⊢
        try simp only [Act.put, List.setIfInBounds_toArray, List.set_cons_zero, List.set_cons_succ]
        refine wpAnyH_done (by kernel_rfl) ?_ _
        go_wp2_with fail
        go_meet
        case rel => exact ⟨u14q.heap.size, rfl, h139q, h140q, h141q⟩
      refine AllReadyH.cons (o := { dst := some 24, op := _, type := _, pos := _, after := _, guard := _ }) rfl (fun K hK => ?_) AllReadyH.nil
      go_simp
      refine (Pr2.out _).mono ?_
      rintro e u143q ⟨rfl, hw⟩
      rw [hw]; clear hw u143q
      go_wp2_with fail
      refine hK.out _ _ trivial (fun hH => ?_)
      clear hK K
      try simp only [Act.put, List.setIfInBounds_toArray, List.set_cons_zero, List.set_cons_succ]
      refine wpAnyH_take (i := 4) (oi := { dst := some 25, op := .build _ #[(0, .const (.int .i64 1)), (1, .tmp 22), (2, .tmp 24)], type := _, pos := _, after := _, guard := _ }) (v := ?_) rfl (by kernel_rfl) (by kernel_rfl) (by kernel_rfl) (fun _ _ _ h => h) (Or.inl ⟨by rfl, ?_⟩) hH ?_
      rotate_left
      · intro w hSw
        clear hSw
        go_simp
        try with_reducible rfl
      simp only [Act.put, List.setIfInBounds_toArray, List.set_cons_zero, List.set_cons_succ]
      refine wpAnyH_ready (rs := [0]) (by kernel_rfl) (by simp) ?_
      refine AllReadyH.cons (o := { dst := some 21, op := .load _ (.tmp 9), type := _, pos := _, after := _, guard := _ }) rfl (fun K hK => ?_) AllReadyH.nil
      rw [if_pos (by rfl)]
      refine wp_load_mid _ _ rfl u3q.heap.size _ rfl t.all _ h127q.out.range HD.out rfl (HS.out t) ?_
      simp only [Act.put, List.setIfInBounds_toArray, List.set_cons_zero, List.set_cons_succ]
      refine hK.out _ _ trivial (fun hH => ?_)
      clear hK K
      try simp only [Act.put, List.setIfInBounds_toArray, List.set_cons_zero, List.set_cons_succ]
      refine wpAnyH_ready (rs := [5]) (by kernel_rfl) (by simp) ?_
      refine AllReadyH.cons (o := { dst := some 26, op := _, type := _, pos := _, after := _, guard := _ }) rfl (fun K hK => ?_) AllReadyH.nil
      go_simp
      refine (DO _).mono ?_
      rintro e u144q ⟨rfl, hb⟩
      have h145q : Hid (Gd n w u144q) := h126q.out.later hb
      have h146q : Hid (TAt u144q u3q.heap.size t) := h127q.out.later hb
      have h147q : Hid (Bo u144q u14q.heap.size [.int .i64 0, .int .i64 0]) := h128q.out.later hb
      clear h126q h127q h128q
      clear hb
      go_wp2_with fail
      refine hK.out _ _ trivial (fun hH => ?_)
      clear hK K
      try simp only [Act.put, List.setIfInBounds_toArray, List.set_cons_zero, List.set_cons_succ]
      refine wpAnyH_take (i := 6) (oi := { dst := some 20, op := .move (.tmp 26), type := _, pos := _, after := _, guard := _ }) (v := ?_) rfl (by kernel_rfl) (by kernel_rfl) (by kernel_rfl) (fun _ _ _ h => h) (Or.inl ⟨by rfl, ?_⟩) hH ?_
      rotate_left
      · intro w hSw
        clear hSw
        go_simp
        try with_reducible rfl
      simp only [Act.put, List.setIfInBounds_toArray, List.set_cons_zero, List.set_cons_succ]
      refine wpAnyH_take (i := 7) (oi := { dst := some 27, op := .extract (.tmp 20) 0, type := _, pos := _, after := _, guard := _ }) (v := ?_) rfl (by kernel_rfl) (by kernel_rfl) (by kernel_rfl) (fun _ _ _ h => h) (Or.inl ⟨by rfl, ?_⟩) hH ?_
      rotate_left
      · intro w hSw
        clear hSw
        go_simp
        try with_reducible rfl
      simp only [Act.put, List.setIfInBounds_toArray, List.set_cons_zero, List.set_cons_succ]
      refine wpAnyH_take (i := 8) (oi := { dst := some 28, op := .extract (.tmp 20) 1, type := _, pos := _, after := _, guard := _ }) (v := ?_) rfl (by kernel_rfl) (by kernel_rfl) (by kernel_rfl) (fun _ _ _ h => h) (Or.inl ⟨by rfl, ?_⟩) hH ?_
      rotate_left
      · intro w hSw
        clear hSw
        go_simp
        try with_reducible rfl
      simp only [Act.put, List.setIfInBounds_toArray, List.set_cons_zero, List.set_cons_succ]
      refine wpAnyH_ready (rs := [10]) (by kernel_rfl) (by simp) ?_
      refine AllReadyH.cons (o := { dst := none, op := .store _ (.tmp 9) (.tmp 27), type := _, pos := _, after := _, guard := _ }) rfl (fun K hK => ?_) AllReadyH.nil
      rw [if_pos (by rfl)]
      refine wp_store_mid _ _ _ rfl u3q.heap.size _ t.all.toArray rfl rfl (h146q.out.thereOf t) (HZ.out t) (t.all_all) ?_
      simp only [Act.put]
      have h148q : Hid (Gd n w (u144q.setCells u3q.heap.size 0 t.all)) := h145q.out.asideAll (by omega) t
      have h149q : Hid (TAt (u144q.setCells u3q.heap.size 0 t.all) u3q.heap.size t) := h146q.out.setAll t
      have h150q : Hid (Bo (u144q.setCells u3q.heap.size 0 t.all) u14q.heap.size [.int .i64 0, .int .i64 0]) := h147q.out.asideAll (by omega) t
      clear h145q h146q h147q
      refine hK.out _ _ trivial (fun hH => ?_)
      clear hK K
      generalize (u144q.setCells u3q.heap.size 0 t.all) = u151q at h148q h149q h150q hH ⊢
      try simp only [Act.put, List.setIfInBounds_toArray, List.set_cons_zero, List.set_cons_succ]
      refine wpAnyH_ready (rs := [11]) (by kernel_rfl) (by simp) ?_
      refine AllReadyH.cons (o := { dst := none, op := .store _ (.tmp 10) (.tmp 28), type := _, pos := _, after := _, guard := _ }) rfl (fun K hK => ?_) AllReadyH.nil
      rw [if_pos (by rfl)]
      refine wp_store_mid _ _ _ rfl u14q.heap.size _ #[.int .i64 (3), .int .i64 (0)] rfl rfl h150q.out.there2 HA.out (two_one _ _) ?_
      simp only [Act.put]
      have h152q : Hid (Gd n w (u151q.setCells u14q.heap.size 0 [.int .i64 (3), .int .i64 (0)])) := h148q.out.asideL (by omega) 0 [.int .i64 (3), .int .i64 (0)]
      have h153q : Hid (TAt (u151q.setCells u14q.heap.size 0 [.int .i64 (3), .int .i64 (0)]) u3q.heap.size t) := h149q.out.asideL (by omega) 0 [.int .i64 (3), .int .i64 (0)]
      have h154q : Hid (Bo (u151q.setCells u14q.heap.size 0 [.int .i64 (3), .int .i64 (0)]) u14q.heap.size [.int .i64 (3), .int .i64 (0)]) := h150q.out.set2 (.int .i64 (3)) (.int .i64 (0))
      clear h148q h149q h150q
      refine hK.out _ _ trivial (fun hH => ?_)
      clear hK K
      generalize (u151q.setCells u14q.heap.size 0 [.int .i64 (3), .int .i64 (0)]) = u155q at h152q h153q h154q hH ⊢
      try simp only [Act.put, List.setIfInBounds_toArray, List.set_cons_zero, List.set_cons_succ]
      refine wpAnyH_done (by kernel_rfl) ?_ _
      go_wp2_with fail
      go_meet
      case rel => exact ⟨u14q.heap.size, rfl, h152q, h153q, h154q⟩
    case rest =>
      obtain ⟨b_a, rfl, h156q, h157q, h158q⟩ := hcut
      have c159q := h158q.out.at 0 rfl
      go_wp2
      go_ret
      exact ⟨rfl, h156q.out.2⟩
  · have DO := tDo_eq t 1 k v
    rw [show tdo t 1 k v = (u, 1, 0) from hu] at DO
    unfold Told at DO
    dsimp only at DO
    obtain ⟨u2, hu2, hF2, hlen⟩ := puts_again hF.rt (k := k) (x := x) hk1 (by omega) hx0 hx1 hF.has
    have DO2 := tDo_eq u 1 k x
    rw [show tdo u 1 k x = (u2, 1, 0) from hu2] at DO2
    unfold Told at DO2
    dsimp only at DO2
    have PK := peek_is u2 k (by omega) (by omega)
    rw [show look u2 k = (1, x) from hF2.has] at PK
    dsimp only at PK
    have L1 := Len_is u2
    have L2 := Len_is u
    rw [hlen] at L1
    generalize len u = l at L1 L2
    clear hu hF hu2 hF2 hlen
    go_cut [10] (fun s10 wx => ∃ b_a : Nat, s10 = .pointer (some ⟨b_a, 0, none⟩) ∧ Hid (Gd n w wx) ∧ Hid (TAt wx u3q.heap.size u) ∧ Hid (Bo wx b_a [.int .i64 (1), .int .i64 (0)]))
    case first =>
      have h160q : Hid (Gd n w u10q.drew) := h8q.out.drew
      have h161q : Hid (TAt u10q.drew u3q.heap.size t) := h9q.out.drew
      clear h8q h9q
      refine wp_region_held_drew (S := fun w' => True) (by kernel_rfl) trivial (fun hH => ?_)
      generalize u10q.drew = u162q at h160q h161q hH ⊢
      refine wpAnyH_take (i := 1) (oi := { dst := some 22, op := .move (.tmp 1), type := _, pos := _, after := _, guard := _ }) (v := ?_) rfl (by kernel_rfl) (by kernel_rfl) (by kernel_rfl) (fun _ _ _ h => h) (Or.inl ⟨by rfl, ?_⟩) hH ?_
      rotate_left
      · intro w hSw
        clear hSw
        go_simp
        try with_reducible rfl
      simp only [Act.put, List.setIfInBounds_toArray, List.set_cons_zero, List.set_cons_succ]
      refine wpAnyH_take (i := 2) (oi := { dst := some 23, op := .move (.tmp 2), type := _, pos := _, after := _, guard := _ }) (v := ?_) rfl (by kernel_rfl) (by kernel_rfl) (by kernel_rfl) (fun _ _ _ h => h) (Or.inl ⟨by rfl, ?_⟩) hH ?_
      rotate_left
      · intro w hSw
        clear hSw
        go_simp
        try with_reducible rfl
      simp only [Act.put, List.setIfInBounds_toArray, List.set_cons_zero, List.set_cons_succ]
      refine wpAnyH_ready (rs := [0, 3, 9]) (by kernel_rfl) (by simp) ?_
      refine AllReadyH.cons (o := { dst := some 21, op := .load _ (.tmp 9), type := _, pos := _, after := _, guard := _ }) rfl (fun K hK => ?_) ?_
      · rw [if_pos (by rfl)]
        refine wp_load_mid _ _ rfl u3q.heap.size _ rfl t.all _ h161q.out.range HD.out rfl (HS.out t) ?_
        simp only [Act.put, List.setIfInBounds_toArray, List.set_cons_zero, List.set_cons_succ]
        refine hK.out _ _ trivial (fun hH => ?_)
        clear hK K
        try simp only [Act.put, List.setIfInBounds_toArray, List.set_cons_zero, List.set_cons_succ]
        refine wpAnyH_ready (rs := [3, 9]) (by kernel_rfl) (by simp) ?_
        refine AllReadyH.cons (o := { dst := some 24, op := _, type := _, pos := _, after := _, guard := _ }) rfl (fun K hK => ?_) ?_
        · go_simp
          refine (Pr2.out _).mono ?_
          rintro e u163q ⟨rfl, hw⟩
          rw [hw]; clear hw u163q
          go_wp2_with fail
          refine hK.out _ _ trivial (fun hH => ?_)
          clear hK K
          try simp only [Act.put, List.setIfInBounds_toArray, List.set_cons_zero, List.set_cons_succ]
          refine wpAnyH_take (i := 4) (oi := { dst := some 25, op := .build _ #[(0, .const (.int .i64 1)), (1, .tmp 22), (2, .tmp 24)], type := _, pos := _, after := _, guard := _ }) (v := ?_) rfl (by kernel_rfl) (by kernel_rfl) (by kernel_rfl) (fun _ _ _ h => h) (Or.inl ⟨by rfl, ?_⟩) hH ?_
          rotate_left
          · intro w hSw
            clear hSw
            go_simp
            try with_reducible rfl
          simp only [Act.put, List.setIfInBounds_toArray, List.set_cons_zero, List.set_cons_succ]
          refine wpAnyH_ready (rs := [5, 9]) (by kernel_rfl) (by simp) ?_
          refine AllReadyH.cons (o := { dst := some 26, op := _, type := _, pos := _, after := _, guard := _ }) rfl (fun K hK => ?_) ?_
          · go_simp
            refine (DO _).mono ?_
            rintro e u164q ⟨rfl, hb⟩
            have h165q : Hid (Gd n w u164q) := h160q.out.later hb
            have h166q : Hid (TAt u164q u3q.heap.size t) := h161q.out.later hb
            clear h160q h161q
            clear hb
            go_wp2_with fail
            refine hK.out _ _ trivial (fun hH => ?_)
            clear hK K
            try simp only [Act.put, List.setIfInBounds_toArray, List.set_cons_zero, List.set_cons_succ]
            refine wpAnyH_take (i := 6) (oi := { dst := some 20, op := .move (.tmp 26), type := _, pos := _, after := _, guard := _ }) (v := ?_) rfl (by kernel_rfl) (by kernel_rfl) (by kernel_rfl) (fun _ _ _ h => h) (Or.inl ⟨by rfl, ?_⟩) hH ?_
            rotate_left
            · intro w hSw
              clear hSw
              go_simp
              try with_reducible rfl
            simp only [Act.put, List.setIfInBounds_toArray, List.set_cons_zero, List.set_cons_succ]
            refine wpAnyH_take (i := 7) (oi := { dst := some 27, op := .extract (.tmp 20) 0, type := _, pos := _, after := _, guard := _ }) (v := ?_) rfl (by kernel_rfl) (by kernel_rfl) (by kernel_rfl) (fun _ _ _ h => h) (Or.inl ⟨by rfl, ?_⟩) hH ?_
            rotate_left
            · intro w hSw
              clear hSw
              go_simp
              try with_reducible rfl
            simp only [Act.put, List.setIfInBounds_toArray, List.set_cons_zero, List.set_cons_succ]
            refine wpAnyH_take (i := 8) (oi := { dst := some 28, op := .extract (.tmp 20) 1, type := _, pos := _, after := _, guard := _ }) (v := ?_) rfl (by kernel_rfl) (by kernel_rfl) (by kernel_rfl) (fun _ _ _ h => h) (Or.inl ⟨by rfl, ?_⟩) hH ?_
            rotate_left
            · intro w hSw
              clear hSw
              go_simp
              try with_reducible rfl
            simp only [Act.put, List.setIfInBounds_toArray, List.set_cons_zero, List.set_cons_succ]
            refine wpAnyH_ready (rs := [9]) (by kernel_rfl) (by simp) ?_
            refine AllReadyH.cons (o := { dst := some 10, op := .alloc _, type := _, pos := _, after := _, guard := _ }) rfl (fun K hK => ?_) AllReadyH.nil
            have l167q : n ≤ u164q.heap.size := h165q.out.le
            have l168q : u3q.heap.size < u164q.heap.size := h166q.out.lt
            go_simp
            have h169q : Hid (Gd n w (u164q.alloc (.cells #[.int .i64 0, .int .i64 0] 31))) := h165q.out.new (.cells #[.int .i64 0, .int .i64 0] 31)
            have h170q : Hid (TAt (u164q.alloc (.cells #[.int .i64 0, .int .i64 0] 31)) u3q.heap.size t) := h166q.out.new (.cells #[.int .i64 0, .int .i64 0] 31)
            clear h165q h166q
            have h171q : Hid (Bo (u164q.alloc (.cells #[.int .i64 0, .int .i64 0] 31)) u164q.heap.size [.int .i64 0, .int .i64 0]) := Bo.born u164q [.int .i64 0, .int .i64 0] 31 (by simp)
            refine hK.out _ _ trivial (fun hH => ?_)
            clear hK K
            generalize (u164q.alloc (.cells #[.int .i64 0, .int .i64 0] 31)) = u172q at h169q h170q h171q hH ⊢
            try simp only [Act.put, List.setIfInBounds_toArray, List.set_cons_zero, List.set_cons_succ]
            refine wpAnyH_ready (rs := [10]) (by kernel_rfl) (by simp) ?_
            refine AllReadyH.cons (o := { dst := none, op := .store _ (.tmp 9) (.tmp 27), type := _, pos := _, after := _, guard := _ }) rfl (fun K hK => ?_) AllReadyH.nil
            rw [if_pos (by rfl)]
            refine wp_store_mid _ _ _ rfl u3q.heap.size _ u.all.toArray rfl rfl (h170q.out.thereOf u) (HZ.out u) (u.all_all) ?_
            simp only [Act.put]
            have h173q : Hid (Gd n w (u172q.setCells u3q.heap.size 0 u.all)) := h169q.out.asideAll (by omega) u
            have h174q : Hid (TAt (u172q.setCells u3q.heap.size 0 u.all) u3q.heap.size u) := h170q.out.setAll u
            have h175q : Hid (Bo (u172q.setCells u3q.heap.size 0 u.all) u164q.heap.size [.int .i64 0, .int .i64 0]) := h171q.out.asideAll (by omega) u
            clear h169q h170q h171q
            refine hK.out _ _ trivial (fun hH => ?_)
            clear hK K
            generalize (u172q.setCells u3q.heap.size 0 u.all) = u176q at h173q h174q h175q hH ⊢
            try simp only [Act.put, List.setIfInBounds_toArray, List.set_cons_zero, List.set_cons_succ]
            refine wpAnyH_ready (rs := [11]) (by kernel_rfl) (by simp) ?_
            refine AllReadyH.cons (o := { dst := none, op := .store _ (.tmp 10) (.tmp 28), type := _, pos := _, after := _, guard := _ }) rfl (fun K hK => ?_) AllReadyH.nil
            rw [if_pos (by rfl)]
            refine wp_store_mid _ _ _ rfl u164q.heap.size _ #[.int .i64 (1), .int .i64 (0)] rfl rfl h175q.out.there2 HA.out (two_one _ _) ?_
            simp only [Act.put]
            have h177q : Hid (Gd n w (u176q.setCells u164q.heap.size 0 [.int .i64 (1), .int .i64 (0)])) := h173q.out.asideL (by omega) 0 [.int .i64 (1), .int .i64 (0)]
            have h178q : Hid (TAt (u176q.setCells u164q.heap.size 0 [.int .i64 (1), .int .i64 (0)]) u3q.heap.size u) := h174q.out.asideL (by omega) 0 [.int .i64 (1), .int .i64 (0)]
            have h179q : Hid (Bo (u176q.setCells u164q.heap.size 0 [.int .i64 (1), .int .i64 (0)]) u164q.heap.size [.int .i64 (1), .int .i64 (0)]) := h175q.out.set2 (.int .i64 (1)) (.int .i64 (0))
            clear h173q h174q h175q
            refine hK.out _ _ trivial (fun hH => ?_)
            clear hK K
            generalize (u176q.setCells u164q.heap.size 0 [.int .i64 (1), .int .i64 (0)]) = u180q at h177q h178q h179q hH ⊢
            try simp only [Act.put, List.setIfInBounds_toArray, List.set_cons_zero, List.set_cons_succ]
            refine wpAnyH_done (by kernel_rfl) ?_ _
            go_wp2_with fail
            go_meet
            case rel => exact ⟨u164q.heap.size, rfl, h177q, h178q, h179q⟩
          refine AllReadyH.cons (o := { dst := some 10, op := .alloc _, type := _, pos := _, after := _, guard := _ }) rfl (fun K hK => ?_) AllReadyH.nil
          have l181q : n ≤ u162q.heap.size := h160q.out.le
          have l182q : u3q.heap.size < u162q.heap.size := h161q.out.lt
          go_simp
          have h183q : Hid (Gd n w (u162q.alloc (.cells #[.int .i64 0, .int .i64 0] 31))) := h160q.out.new (.cells #[.int .i64 0, .int .i64 0] 31)
          have h184q : Hid (TAt (u162q.alloc (.cells #[.int .i64 0, .int .i64 0] 31)) u3q.heap.size t) := h161q.out.new (.cells #[.int .i64 0, .int .i64 0] 31)
          clear h160q h161q
          have h185q : Hid (Bo (u162q.alloc (.cells #[.int .i64 0, .int .i64 0] 31)) u162q.heap.size [.int .i64 0, .int .i64 0]) := Bo.born u162q [.int .i64 0, .int .i64 0] 31 (by simp)
          refine hK.out _ _ trivial (fun hH => ?_)
          clear hK K
          generalize (u162q.alloc (.cells #[.int .i64 0, .int .i64 0] 31)) = u186q at h183q h184q h185q hH ⊢
          try simp only [Act.put, List.setIfInBounds_toArray, List.set_cons_zero, List.set_cons_succ]
          refine wpAnyH_ready (rs := [5]) (by kernel_rfl) (by simp) ?_
          refine AllReadyH.cons (o := { dst := some 26, op := _, type := _, pos := _, after := _, guard := _ }) rfl (fun K hK => ?_) AllReadyH.nil
          go_simp
          refine (DO _).mono ?_
          rintro e u187q ⟨rfl, hb⟩
          have h188q : Hid (Gd n w u187q) := h183q.out.later hb
          have h189q : Hid (TAt u187q u3q.heap.size t) := h184q.out.later hb
          have h190q : Hid (Bo u187q u162q.heap.size [.int .i64 0, .int .i64 0]) := h185q.out.later hb
          clear h183q h184q h185q
          clear hb
          go_wp2_with fail
          refine hK.out _ _ trivial (fun hH => ?_)
          clear hK K
          try simp only [Act.put, List.setIfInBounds_toArray, List.set_cons_zero, List.set_cons_succ]
          refine wpAnyH_take (i := 6) (oi := { dst := some 20, op := .move (.tmp 26), type := _, pos := _, after := _, guard := _ }) (v := ?_) rfl (by kernel_rfl) (by kernel_rfl) (by kernel_rfl) (fun _ _ _ h => h) (Or.inl ⟨by rfl, ?_⟩) hH ?_
          rotate_left
          · intro w hSw
            clear hSw
            go_simp
            try with_reducible rfl
          simp only [Act.put, List.setIfInBounds_toArray, List.set_cons_zero, List.set_cons_succ]
          refine wpAnyH_take (i := 7) (oi := { dst := some 27, op := .extract (.tmp 20) 0, type := _, pos := _, after := _, guard := _ }) (v := ?_) rfl (by kernel_rfl) (by kernel_rfl) (by kernel_rfl) (fun _ _ _ h => h) (Or.inl ⟨by rfl, ?_⟩) hH ?_
          rotate_left
          · intro w hSw
            clear hSw
            go_simp
            try with_reducible rfl
          simp only [Act.put, List.setIfInBounds_toArray, List.set_cons_zero, List.set_cons_succ]
          refine wpAnyH_take (i := 8) (oi := { dst := some 28, op := .extract (.tmp 20) 1, type := _, pos := _, after := _, guard := _ }) (v := ?_) rfl (by kernel_rfl) (by kernel_rfl) (by kernel_rfl) (fun _ _ _ h => h) (Or.inl ⟨by rfl, ?_⟩) hH ?_
          rotate_left
          · intro w hSw
            clear hSw
            go_simp
            try with_reducible rfl
          simp only [Act.put, List.setIfInBounds_toArray, List.set_cons_zero, List.set_cons_succ]
          refine wpAnyH_ready (rs := [10]) (by kernel_rfl) (by simp) ?_
          refine AllReadyH.cons (o := { dst := none, op := .store _ (.tmp 9) (.tmp 27), type := _, pos := _, after := _, guard := _ }) rfl (fun K hK => ?_) AllReadyH.nil
          rw [if_pos (by rfl)]
          refine wp_store_mid _ _ _ rfl u3q.heap.size _ u.all.toArray rfl rfl (h189q.out.thereOf u) (HZ.out u) (u.all_all) ?_
          simp only [Act.put]
          have h191q : Hid (Gd n w (u187q.setCells u3q.heap.size 0 u.all)) := h188q.out.asideAll (by omega) u
          have h192q : Hid (TAt (u187q.setCells u3q.heap.size 0 u.all) u3q.heap.size u) := h189q.out.setAll u
          have h193q : Hid (Bo (u187q.setCells u3q.heap.size 0 u.all) u162q.heap.size [.int .i64 0, .int .i64 0]) := h190q.out.asideAll (by omega) u
          clear h188q h189q h190q
          refine hK.out _ _ trivial (fun hH => ?_)
          clear hK K
          generalize (u187q.setCells u3q.heap.size 0 u.all) = u194q at h191q h192q h193q hH ⊢
          try simp only [Act.put, List.setIfInBounds_toArray, List.set_cons_zero, List.set_cons_succ]
          refine wpAnyH_ready (rs := [11]) (by kernel_rfl) (by simp) ?_
          refine AllReadyH.cons (o := { dst := none, op := .store _ (.tmp 10) (.tmp 28), type := _, pos := _, after := _, guard := _ }) rfl (fun K hK => ?_) AllReadyH.nil
          rw [if_pos (by rfl)]
          refine wp_store_mid _ _ _ rfl u162q.heap.size _ #[.int .i64 (1), .int .i64 (0)] rfl rfl h193q.out.there2 HA.out (two_one _ _) ?_
          simp only [Act.put]
          have h195q : Hid (Gd n w (u194q.setCells u162q.heap.size 0 [.int .i64 (1), .int .i64 (0)])) := h191q.out.asideL (by omega) 0 [.int .i64 (1), .int .i64 (0)]
          have h196q : Hid (TAt (u194q.setCells u162q.heap.size 0 [.int .i64 (1), .int .i64 (0)]) u3q.heap.size u) := h192q.out.asideL (by omega) 0 [.int .i64 (1), .int .i64 (0)]
          have h197q : Hid (Bo (u194q.setCells u162q.heap.size 0 [.int .i64 (1), .int .i64 (0)]) u162q.heap.size [.int .i64 (1), .int .i64 (0)]) := h193q.out.set2 (.int .i64 (1)) (.int .i64 (0))
          clear h191q h192q h193q
          refine hK.out _ _ trivial (fun hH => ?_)
          clear hK K
          generalize (u194q.setCells u162q.heap.size 0 [.int .i64 (1), .int .i64 (0)]) = u198q at h195q h196q h197q hH ⊢
          try simp only [Act.put, List.setIfInBounds_toArray, List.set_cons_zero, List.set_cons_succ]
          refine wpAnyH_done (by kernel_rfl) ?_ _
          go_wp2_with fail
          go_meet
          case rel => exact ⟨u162q.heap.size, rfl, h195q, h196q, h197q⟩
        refine AllReadyH.cons (o := { dst := some 10, op := .alloc _, type := _, pos := _, after := _, guard := _ }) rfl (fun K hK => ?_) AllReadyH.nil
        have l199q : n ≤ u162q.heap.size := h160q.out.le
        have l200q : u3q.heap.size < u162q.heap.size := h161q.out.lt
        go_simp
        have h201q : Hid (Gd n w (u162q.alloc (.cells #[.int .i64 0, .int .i64 0] 31))) := h160q.out.new (.cells #[.int .i64 0, .int .i64 0] 31)
        have h202q : Hid (TAt (u162q.alloc (.cells #[.int .i64 0, .int .i64 0] 31)) u3q.heap.size t) := h161q.out.new (.cells #[.int .i64 0, .int .i64 0] 31)
        clear h160q h161q
        have h203q : Hid (Bo (u162q.alloc (.cells #[.int .i64 0, .int .i64 0] 31)) u162q.heap.size [.int .i64 0, .int .i64 0]) := Bo.born u162q [.int .i64 0, .int .i64 0] 31 (by simp)
        refine hK.out _ _ trivial (fun hH => ?_)
        clear hK K
        generalize (u162q.alloc (.cells #[.int .i64 0, .int .i64 0] 31)) = u204q at h201q h202q h203q hH ⊢
        try simp only [Act.put, List.setIfInBounds_toArray, List.set_cons_zero, List.set_cons_succ]
        refine wpAnyH_ready (rs := [3]) (by kernel_rfl) (by simp) ?_
        refine AllReadyH.cons (o := { dst := some 24, op := _, type := _, pos := _, after := _, guard := _ }) rfl (fun K hK => ?_) AllReadyH.nil
        go_simp
        refine (Pr2.out _).mono ?_
        rintro e u205q ⟨rfl, hw⟩
        rw [hw]; clear hw u205q
        go_wp2_with fail
        refine hK.out _ _ trivial (fun hH => ?_)
        clear hK K
        try simp only [Act.put, List.setIfInBounds_toArray, List.set_cons_zero, List.set_cons_succ]
        refine wpAnyH_take (i := 4) (oi := { dst := some 25, op := .build _ #[(0, .const (.int .i64 1)), (1, .tmp 22), (2, .tmp 24)], type := _, pos := _, after := _, guard := _ }) (v := ?_) rfl (by kernel_rfl) (by kernel_rfl) (by kernel_rfl) (fun _ _ _ h => h) (Or.inl ⟨by rfl, ?_⟩) hH ?_
        rotate_left
        · intro w hSw
          clear hSw
          go_simp
          try with_reducible rfl
        simp only [Act.put, List.setIfInBounds_toArray, List.set_cons_zero, List.set_cons_succ]
        refine wpAnyH_ready (rs := [5]) (by kernel_rfl) (by simp) ?_
        refine AllReadyH.cons (o := { dst := some 26, op := _, type := _, pos := _, after := _, guard := _ }) rfl (fun K hK => ?_) AllReadyH.nil
        go_simp
        refine (DO _).mono ?_
        rintro e u206q ⟨rfl, hb⟩
        have h207q : Hid (Gd n w u206q) := h201q.out.later hb
        have h208q : Hid (TAt u206q u3q.heap.size t) := h202q.out.later hb
        have h209q : Hid (Bo u206q u162q.heap.size [.int .i64 0, .int .i64 0]) := h203q.out.later hb
        clear h201q h202q h203q
        clear hb
        go_wp2_with fail
        refine hK.out _ _ trivial (fun hH => ?_)
        clear hK K
        try simp only [Act.put, List.setIfInBounds_toArray, List.set_cons_zero, List.set_cons_succ]
        refine wpAnyH_take (i := 6) (oi := { dst := some 20, op := .move (.tmp 26), type := _, pos := _, after := _, guard := _ }) (v := ?_) rfl (by kernel_rfl) (by kernel_rfl) (by kernel_rfl) (fun _ _ _ h => h) (Or.inl ⟨by rfl, ?_⟩) hH ?_
        rotate_left
        · intro w hSw
          clear hSw
          go_simp
          try with_reducible rfl
        simp only [Act.put, List.setIfInBounds_toArray, List.set_cons_zero, List.set_cons_succ]
        refine wpAnyH_take (i := 7) (oi := { dst := some 27, op := .extract (.tmp 20) 0, type := _, pos := _, after := _, guard := _ }) (v := ?_) rfl (by kernel_rfl) (by kernel_rfl) (by kernel_rfl) (fun _ _ _ h => h) (Or.inl ⟨by rfl, ?_⟩) hH ?_
        rotate_left
        · intro w hSw
          clear hSw
          go_simp
          try with_reducible rfl
        simp only [Act.put, List.setIfInBounds_toArray, List.set_cons_zero, List.set_cons_succ]
        refine wpAnyH_take (i := 8) (oi := { dst := some 28, op := .extract (.tmp 20) 1, type := _, pos := _, after := _, guard := _ }) (v := ?_) rfl (by kernel_rfl) (by kernel_rfl) (by kernel_rfl) (fun _ _ _ h => h) (Or.inl ⟨by rfl, ?_⟩) hH ?_
        rotate_left
        · intro w hSw
          clear hSw
          go_simp
          try with_reducible rfl
        simp only [Act.put, List.setIfInBounds_toArray, List.set_cons_zero, List.set_cons_succ]
        refine wpAnyH_ready (rs := [10]) (by kernel_rfl) (by simp) ?_
        refine AllReadyH.cons (o := { dst := none, op := .store _ (.tmp 9) (.tmp 27), type := _, pos := _, after := _, guard := _ }) rfl (fun K hK => ?_) AllReadyH.nil
        rw [if_pos (by rfl)]
        refine wp_store_mid _ _ _ rfl u3q.heap.size _ u.all.toArray rfl rfl (h208q.out.thereOf u) (HZ.out u) (u.all_all) ?_
        simp only [Act.put]
        have h210q : Hid (Gd n w (u206q.setCells u3q.heap.size 0 u.all)) := h207q.out.asideAll (by omega) u
        have h211q : Hid (TAt (u206q.setCells u3q.heap.size 0 u.all) u3q.heap.size u) := h208q.out.setAll u
        have h212q : Hid (Bo (u206q.setCells u3q.heap.size 0 u.all) u162q.heap.size [.int .i64 0, .int .i64 0]) := h209q.out.asideAll (by omega) u
        clear h207q h208q h209q
        refine hK.out _ _ trivial (fun hH => ?_)
        clear hK K
        generalize (u206q.setCells u3q.heap.size 0 u.all) = u213q at h210q h211q h212q hH ⊢
        try simp only [Act.put, List.setIfInBounds_toArray, List.set_cons_zero, List.set_cons_succ]
        refine wpAnyH_ready (rs := [11]) (by kernel_rfl) (by simp) ?_
        refine AllReadyH.cons (o := { dst := none, op := .store _ (.tmp 10) (.tmp 28), type := _, pos := _, after := _, guard := _ }) rfl (fun K hK => ?_) AllReadyH.nil
        rw [if_pos (by rfl)]
        refine wp_store_mid _ _ _ rfl u162q.heap.size _ #[.int .i64 (1), .int .i64 (0)] rfl rfl h212q.out.there2 HA.out (two_one _ _) ?_
        simp only [Act.put]
        have h214q : Hid (Gd n w (u213q.setCells u162q.heap.size 0 [.int .i64 (1), .int .i64 (0)])) := h210q.out.asideL (by omega) 0 [.int .i64 (1), .int .i64 (0)]
        have h215q : Hid (TAt (u213q.setCells u162q.heap.size 0 [.int .i64 (1), .int .i64 (0)]) u3q.heap.size u) := h211q.out.asideL (by omega) 0 [.int .i64 (1), .int .i64 (0)]
        have h216q : Hid (Bo (u213q.setCells u162q.heap.size 0 [.int .i64 (1), .int .i64 (0)]) u162q.heap.size [.int .i64 (1), .int .i64 (0)]) := h212q.out.set2 (.int .i64 (1)) (.int .i64 (0))
        clear h210q h211q h212q
        refine hK.out _ _ trivial (fun hH => ?_)
        clear hK K
        generalize (u213q.setCells u162q.heap.size 0 [.int .i64 (1), .int .i64 (0)]) = u217q at h214q h215q h216q hH ⊢
        try simp only [Act.put, List.setIfInBounds_toArray, List.set_cons_zero, List.set_cons_succ]
        refine wpAnyH_done (by kernel_rfl) ?_ _
        go_wp2_with fail
        go_meet
        case rel => exact ⟨u162q.heap.size, rfl, h214q, h215q, h216q⟩
      refine AllReadyH.cons (o := { dst := some 24, op := _, type := _, pos := _, after := _, guard := _ }) rfl (fun K hK => ?_) ?_
      · go_simp
        refine (Pr2.out _).mono ?_
        rintro e u218q ⟨rfl, hw⟩
        rw [hw]; clear hw u218q
        go_wp2_with fail
        refine hK.out _ _ trivial (fun hH => ?_)
        clear hK K
        try simp only [Act.put, List.setIfInBounds_toArray, List.set_cons_zero, List.set_cons_succ]
        refine wpAnyH_take (i := 4) (oi := { dst := some 25, op := .build _ #[(0, .const (.int .i64 1)), (1, .tmp 22), (2, .tmp 24)], type := _, pos := _, after := _, guard := _ }) (v := ?_) rfl (by kernel_rfl) (by kernel_rfl) (by kernel_rfl) (fun _ _ _ h => h) (Or.inl ⟨by rfl, ?_⟩) hH ?_
        rotate_left
        · intro w hSw
          clear hSw
          go_simp
          try with_reducible rfl
        simp only [Act.put, List.setIfInBounds_toArray, List.set_cons_zero, List.set_cons_succ]
        refine wpAnyH_ready (rs := [0, 9]) (by kernel_rfl) (by simp) ?_
        refine AllReadyH.cons (o := { dst := some 21, op := .load _ (.tmp 9), type := _, pos := _, after := _, guard := _ }) rfl (fun K hK => ?_) ?_
        · rw [if_pos (by rfl)]
          refine wp_load_mid _ _ rfl u3q.heap.size _ rfl t.all _ h161q.out.range HD.out rfl (HS.out t) ?_
          simp only [Act.put, List.setIfInBounds_toArray, List.set_cons_zero, List.set_cons_succ]
          refine hK.out _ _ trivial (fun hH => ?_)
          clear hK K
          try simp only [Act.put, List.setIfInBounds_toArray, List.set_cons_zero, List.set_cons_succ]
          refine wpAnyH_ready (rs := [5, 9]) (by kernel_rfl) (by simp) ?_
          refine AllReadyH.cons (o := { dst := some 26, op := _, type := _, pos := _, after := _, guard := _ }) rfl (fun K hK => ?_) ?_
          · go_simp
            refine (DO _).mono ?_
            rintro e u219q ⟨rfl, hb⟩
            have h220q : Hid (Gd n w u219q) := h160q.out.later hb
            have h221q : Hid (TAt u219q u3q.heap.size t) := h161q.out.later hb
            clear h160q h161q
            clear hb
            go_wp2_with fail
            refine hK.out _ _ trivial (fun hH => ?_)
            clear hK K
            try simp only [Act.put, List.setIfInBounds_toArray, List.set_cons_zero, List.set_cons_succ]
            refine wpAnyH_take (i := 6) (oi := { dst := some 20, op := .move (.tmp 26), type := _, pos := _, after := _, guard := _ }) (v := ?_) rfl (by kernel_rfl) (by kernel_rfl) (by kernel_rfl) (fun _ _ _ h => h) (Or.inl ⟨by rfl, ?_⟩) hH ?_
            rotate_left
            · intro w hSw
              clear hSw
              go_simp
              try with_reducible rfl
            simp only [Act.put, List.setIfInBounds_toArray, List.set_cons_zero, List.set_cons_succ]
            refine wpAnyH_take (i := 7) (oi := { dst := some 27, op := .extract (.tmp 20) 0, type := _, pos := _, after := _, guard := _ }) (v := ?_) rfl (by kernel_rfl) (by kernel_rfl) (by kernel_rfl) (fun _ _ _ h => h) (Or.inl ⟨by rfl, ?_⟩) hH ?_
            rotate_left
            · intro w hSw
              clear hSw
              go_simp
              try with_reducible rfl
            simp only [Act.put, List.setIfInBounds_toArray, List.set_cons_zero, List.set_cons_succ]
            refine wpAnyH_take (i := 8) (oi := { dst := some 28, op := .extract (.tmp 20) 1, type := _, pos := _, after := _, guard := _ }) (v := ?_) rfl (by kernel_rfl) (by kernel_rfl) (by kernel_rfl) (fun _ _ _ h => h) (Or.inl ⟨by rfl, ?_⟩) hH ?_
            rotate_left
            · intro w hSw
              clear hSw
              go_simp
              try with_reducible rfl
            simp only [Act.put, List.setIfInBounds_toArray, List.set_cons_zero, List.set_cons_succ]
            refine wpAnyH_ready (rs := [9]) (by kernel_rfl) (by simp) ?_
            refine AllReadyH.cons (o := { dst := some 10, op := .alloc _, type := _, pos := _, after := _, guard := _ }) rfl (fun K hK => ?_) AllReadyH.nil
            have l222q : n ≤ u219q.heap.size := h220q.out.le
            have l223q : u3q.heap.size < u219q.heap.size := h221q.out.lt
            go_simp
            have h224q : Hid (Gd n w (u219q.alloc (.cells #[.int .i64 0, .int .i64 0] 31))) := h220q.out.new (.cells #[.int .i64 0, .int .i64 0] 31)
            have h225q : Hid (TAt (u219q.alloc (.cells #[.int .i64 0, .int .i64 0] 31)) u3q.heap.size t) := h221q.out.new (.cells #[.int .i64 0, .int .i64 0] 31)
            clear h220q h221q
            have h226q : Hid (Bo (u219q.alloc (.cells #[.int .i64 0, .int .i64 0] 31)) u219q.heap.size [.int .i64 0, .int .i64 0]) := Bo.born u219q [.int .i64 0, .int .i64 0] 31 (by simp)
            refine hK.out _ _ trivial (fun hH => ?_)
            clear hK K
            generalize (u219q.alloc (.cells #[.int .i64 0, .int .i64 0] 31)) = u227q at h224q h225q h226q hH ⊢
            try simp only [Act.put, List.setIfInBounds_toArray, List.set_cons_zero, List.set_cons_succ]
            refine wpAnyH_ready (rs := [10]) (by kernel_rfl) (by simp) ?_
            refine AllReadyH.cons (o := { dst := none, op := .store _ (.tmp 9) (.tmp 27), type := _, pos := _, after := _, guard := _ }) rfl (fun K hK => ?_) AllReadyH.nil
            rw [if_pos (by rfl)]
            refine wp_store_mid _ _ _ rfl u3q.heap.size _ u.all.toArray rfl rfl (h225q.out.thereOf u) (HZ.out u) (u.all_all) ?_
            simp only [Act.put]
            have h228q : Hid (Gd n w (u227q.setCells u3q.heap.size 0 u.all)) := h224q.out.asideAll (by omega) u
            have h229q : Hid (TAt (u227q.setCells u3q.heap.size 0 u.all) u3q.heap.size u) := h225q.out.setAll u
            have h230q : Hid (Bo (u227q.setCells u3q.heap.size 0 u.all) u219q.heap.size [.int .i64 0, .int .i64 0]) := h226q.out.asideAll (by omega) u
            clear h224q h225q h226q
            refine hK.out _ _ trivial (fun hH => ?_)
            clear hK K
            generalize (u227q.setCells u3q.heap.size 0 u.all) = u231q at h228q h229q h230q hH ⊢
            try simp only [Act.put, List.setIfInBounds_toArray, List.set_cons_zero, List.set_cons_succ]
            refine wpAnyH_ready (rs := [11]) (by kernel_rfl) (by simp) ?_
            refine AllReadyH.cons (o := { dst := none, op := .store _ (.tmp 10) (.tmp 28), type := _, pos := _, after := _, guard := _ }) rfl (fun K hK => ?_) AllReadyH.nil
            rw [if_pos (by rfl)]
            refine wp_store_mid _ _ _ rfl u219q.heap.size _ #[.int .i64 (1), .int .i64 (0)] rfl rfl h230q.out.there2 HA.out (two_one _ _) ?_
            simp only [Act.put]
            have h232q : Hid (Gd n w (u231q.setCells u219q.heap.size 0 [.int .i64 (1), .int .i64 (0)])) := h228q.out.asideL (by omega) 0 [.int .i64 (1), .int .i64 (0)]
            have h233q : Hid (TAt (u231q.setCells u219q.heap.size 0 [.int .i64 (1), .int .i64 (0)]) u3q.heap.size u) := h229q.out.asideL (by omega) 0 [.int .i64 (1), .int .i64 (0)]
            have h234q : Hid (Bo (u231q.setCells u219q.heap.size 0 [.int .i64 (1), .int .i64 (0)]) u219q.heap.size [.int .i64 (1), .int .i64 (0)]) := h230q.out.set2 (.int .i64 (1)) (.int .i64 (0))
            clear h228q h229q h230q
            refine hK.out _ _ trivial (fun hH => ?_)
            clear hK K
            generalize (u231q.setCells u219q.heap.size 0 [.int .i64 (1), .int .i64 (0)]) = u235q at h232q h233q h234q hH ⊢
            try simp only [Act.put, List.setIfInBounds_toArray, List.set_cons_zero, List.set_cons_succ]
            refine wpAnyH_done (by kernel_rfl) ?_ _
            go_wp2_with fail
            go_meet
            case rel => exact ⟨u219q.heap.size, rfl, h232q, h233q, h234q⟩
          refine AllReadyH.cons (o := { dst := some 10, op := .alloc _, type := _, pos := _, after := _, guard := _ }) rfl (fun K hK => ?_) AllReadyH.nil
          have l236q : n ≤ u162q.heap.size := h160q.out.le
          have l237q : u3q.heap.size < u162q.heap.size := h161q.out.lt
          go_simp
          have h238q : Hid (Gd n w (u162q.alloc (.cells #[.int .i64 0, .int .i64 0] 31))) := h160q.out.new (.cells #[.int .i64 0, .int .i64 0] 31)
          have h239q : Hid (TAt (u162q.alloc (.cells #[.int .i64 0, .int .i64 0] 31)) u3q.heap.size t) := h161q.out.new (.cells #[.int .i64 0, .int .i64 0] 31)
          clear h160q h161q
          have h240q : Hid (Bo (u162q.alloc (.cells #[.int .i64 0, .int .i64 0] 31)) u162q.heap.size [.int .i64 0, .int .i64 0]) := Bo.born u162q [.int .i64 0, .int .i64 0] 31 (by simp)
          refine hK.out _ _ trivial (fun hH => ?_)
          clear hK K
          generalize (u162q.alloc (.cells #[.int .i64 0, .int .i64 0] 31)) = u241q at h238q h239q h240q hH ⊢
          try simp only [Act.put, List.setIfInBounds_toArray, List.set_cons_zero, List.set_cons_succ]
          refine wpAnyH_ready (rs := [5]) (by kernel_rfl) (by simp) ?_
          refine AllReadyH.cons (o := { dst := some 26, op := _, type := _, pos := _, after := _, guard := _ }) rfl (fun K hK => ?_) AllReadyH.nil
          go_simp
          refine (DO _).mono ?_
          rintro e u242q ⟨rfl, hb⟩
          have h243q : Hid (Gd n w u242q) := h238q.out.later hb
          have h244q : Hid (TAt u242q u3q.heap.size t) := h239q.out.later hb
          have h245q : Hid (Bo u242q u162q.heap.size [.int .i64 0, .int .i64 0]) := h240q.out.later hb
          clear h238q h239q h240q
          clear hb
          go_wp2_with fail
          refine hK.out _ _ trivial (fun hH => ?_)
          clear hK K
          try simp only [Act.put, List.setIfInBounds_toArray, List.set_cons_zero, List.set_cons_succ]
          refine wpAnyH_take (i := 6) (oi := { dst := some 20, op := .move (.tmp 26), type := _, pos := _, after := _, guard := _ }) (v := ?_) rfl (by kernel_rfl) (by kernel_rfl) (by kernel_rfl) (fun _ _ _ h => h) (Or.inl ⟨by rfl, ?_⟩) hH ?_
          rotate_left
          · intro w hSw
            clear hSw
            go_simp
            try with_reducible rfl
          simp only [Act.put, List.setIfInBounds_toArray, List.set_cons_zero, List.set_cons_succ]
          refine wpAnyH_take (i := 7) (oi := { dst := some 27, op := .extract (.tmp 20) 0, type := _, pos := _, after := _, guard := _ }) (v := ?_) rfl (by kernel_rfl) (by kernel_rfl) (by kernel_rfl) (fun _ _ _ h => h) (Or.inl ⟨by rfl, ?_⟩) hH ?_
          rotate_left
          · intro w hSw
            clear hSw
            go_simp
            try with_reducible rfl
          simp only [Act.put, List.setIfInBounds_toArray, List.set_cons_zero, List.set_cons_succ]
          refine wpAnyH_take (i := 8) (oi := { dst := some 28, op := .extract (.tmp 20) 1, type := _, pos := _, after := _, guard := _ }) (v := ?_) rfl (by kernel_rfl) (by kernel_rfl) (by kernel_rfl) (fun _ _ _ h => h) (Or.inl ⟨by rfl, ?_⟩) hH ?_
          rotate_left
          · intro w hSw
            clear hSw
            go_simp
            try with_reducible rfl
          simp only [Act.put, List.setIfInBounds_toArray, List.set_cons_zero, List.set_cons_succ]
          refine wpAnyH_ready (rs := [10]) (by kernel_rfl) (by simp) ?_
          refine AllReadyH.cons (o := { dst := none, op := .store _ (.tmp 9) (.tmp 27), type := _, pos := _, after := _, guard := _ }) rfl (fun K hK => ?_) AllReadyH.nil
          rw [if_pos (by rfl)]
          refine wp_store_mid _ _ _ rfl u3q.heap.size _ u.all.toArray rfl rfl (h244q.out.thereOf u) (HZ.out u) (u.all_all) ?_
          simp only [Act.put]
          have h246q : Hid (Gd n w (u242q.setCells u3q.heap.size 0 u.all)) := h243q.out.asideAll (by omega) u
          have h247q : Hid (TAt (u242q.setCells u3q.heap.size 0 u.all) u3q.heap.size u) := h244q.out.setAll u
          have h248q : Hid (Bo (u242q.setCells u3q.heap.size 0 u.all) u162q.heap.size [.int .i64 0, .int .i64 0]) := h245q.out.asideAll (by omega) u
          clear h243q h244q h245q
          refine hK.out _ _ trivial (fun hH => ?_)
          clear hK K
          generalize (u242q.setCells u3q.heap.size 0 u.all) = u249q at h246q h247q h248q hH ⊢
          try simp only [Act.put, List.setIfInBounds_toArray, List.set_cons_zero, List.set_cons_succ]
          refine wpAnyH_ready (rs := [11]) (by kernel_rfl) (by simp) ?_
          refine AllReadyH.cons (o := { dst := none, op := .store _ (.tmp 10) (.tmp 28), type := _, pos := _, after := _, guard := _ }) rfl (fun K hK => ?_) AllReadyH.nil
          rw [if_pos (by rfl)]
          refine wp_store_mid _ _ _ rfl u162q.heap.size _ #[.int .i64 (1), .int .i64 (0)] rfl rfl h248q.out.there2 HA.out (two_one _ _) ?_
          simp only [Act.put]
          have h250q : Hid (Gd n w (u249q.setCells u162q.heap.size 0 [.int .i64 (1), .int .i64 (0)])) := h246q.out.asideL (by omega) 0 [.int .i64 (1), .int .i64 (0)]
          have h251q : Hid (TAt (u249q.setCells u162q.heap.size 0 [.int .i64 (1), .int .i64 (0)]) u3q.heap.size u) := h247q.out.asideL (by omega) 0 [.int .i64 (1), .int .i64 (0)]
          have h252q : Hid (Bo (u249q.setCells u162q.heap.size 0 [.int .i64 (1), .int .i64 (0)]) u162q.heap.size [.int .i64 (1), .int .i64 (0)]) := h248q.out.set2 (.int .i64 (1)) (.int .i64 (0))
          clear h246q h247q h248q
          refine hK.out _ _ trivial (fun hH => ?_)
          clear hK K
          generalize (u249q.setCells u162q.heap.size 0 [.int .i64 (1), .int .i64 (0)]) = u253q at h250q h251q h252q hH ⊢
          try simp only [Act.put, List.setIfInBounds_toArray, List.set_cons_zero, List.set_cons_succ]
          refine wpAnyH_done (by kernel_rfl) ?_ _
          go_wp2_with fail
          go_meet
          case rel => exact ⟨u162q.heap.size, rfl, h250q, h251q, h252q⟩
        refine AllReadyH.cons (o := { dst := some 10, op := .alloc _, type := _, pos := _, after := _, guard := _ }) rfl (fun K hK => ?_) AllReadyH.nil
        have l254q : n ≤ u162q.heap.size := h160q.out.le
        have l255q : u3q.heap.size < u162q.heap.size := h161q.out.lt
        go_simp
        have h256q : Hid (Gd n w (u162q.alloc (.cells #[.int .i64 0, .int .i64 0] 31))) := h160q.out.new (.cells #[.int .i64 0, .int .i64 0] 31)
        have h257q : Hid (TAt (u162q.alloc (.cells #[.int .i64 0, .int .i64 0] 31)) u3q.heap.size t) := h161q.out.new (.cells #[.int .i64 0, .int .i64 0] 31)
        clear h160q h161q
        have h258q : Hid (Bo (u162q.alloc (.cells #[.int .i64 0, .int .i64 0] 31)) u162q.heap.size [.int .i64 0, .int .i64 0]) := Bo.born u162q [.int .i64 0, .int .i64 0] 31 (by simp)
        refine hK.out _ _ trivial (fun hH => ?_)
        clear hK K
        generalize (u162q.alloc (.cells #[.int .i64 0, .int .i64 0] 31)) = u259q at h256q h257q h258q hH ⊢
        try simp only [Act.put, List.setIfInBounds_toArray, List.set_cons_zero, List.set_cons_succ]
        refine wpAnyH_ready (rs := [0]) (by kernel_rfl) (by simp) ?_
        refine AllReadyH.cons (o := { dst := some 21, op := .load _ (.tmp 9), type := _, pos := _, after := _, guard := _ }) rfl (fun K hK => ?_) AllReadyH.nil
        rw [if_pos (by rfl)]
        refine wp_load_mid _ _ rfl u3q.heap.size _ rfl t.all _ h257q.out.range HD.out rfl (HS.out t) ?_
        simp only [Act.put, List.setIfInBounds_toArray, List.set_cons_zero, List.set_cons_succ]
        refine hK.out _ _ trivial (fun hH => ?_)
        clear hK K
        try simp only [Act.put, List.setIfInBounds_toArray, List.set_cons_zero, List.set_cons_succ]
        refine wpAnyH_ready (rs := [5]) (by kernel_rfl) (by simp) ?_
        refine AllReadyH.cons (o := { dst := some 26, op := _, type := _, pos := _, after := _, guard := _ }) rfl (fun K hK => ?_) AllReadyH.nil
        go_simp
        refine (DO _).mono ?_
        rintro e u260q ⟨rfl, hb⟩
        have h261q : Hid (Gd n w u260q) := h256q.out.later hb
        have h262q : Hid (TAt u260q u3q.heap.size t) := h257q.out.later hb
        have h263q : Hid (Bo u260q u162q.heap.size [.int .i64 0, .int .i64 0]) := h258q.out.later hb
        clear h256q h257q h258q
        clear hb
        go_wp2_with fail
        refine hK.out _ _ trivial (fun hH => ?_)
        clear hK K
        try simp only [Act.put, List.setIfInBounds_toArray, List.set_cons_zero, List.set_cons_succ]
        refine wpAnyH_take (i := 6) (oi := { dst := some 20, op := .move (.tmp 26), type := _, pos := _, after := _, guard := _ }) (v := ?_) rfl (by kernel_rfl) (by kernel_rfl) (by kernel_rfl) (fun _ _ _ h => h) (Or.inl ⟨by rfl, ?_⟩) hH ?_
        rotate_left
        · intro w hSw
          clear hSw
          go_simp
          try with_reducible rfl
        simp only [Act.put, List.setIfInBounds_toArray, List.set_cons_zero, List.set_cons_succ]
        refine wpAnyH_take (i := 7) (oi := { dst := some 27, op := .extract (.tmp 20) 0, type := _, pos := _, after := _, guard := _ }) (v := ?_) rfl (by kernel_rfl) (by kernel_rfl) (by kernel_rfl) (fun _ _ _ h => h) (Or.inl ⟨by rfl, ?_⟩) hH ?_
        rotate_left
        · intro w hSw
          clear hSw
          go_simp
          try with_reducible rfl
        simp only [Act.put, List.setIfInBounds_toArray, List.set_cons_zero, List.set_cons_succ]
        refine wpAnyH_take (i := 8) (oi := { dst := some 28, op := .extract (.tmp 20) 1, type := _, pos := _, after := _, guard := _ }) (v := ?_) rfl (by kernel_rfl) (by kernel_rfl) (by kernel_rfl) (fun _ _ _ h => h) (Or.inl ⟨by rfl, ?_⟩) hH ?_
        rotate_left
        · intro w hSw
          clear hSw
          go_simp
          try with_reducible rfl
        simp only [Act.put, List.setIfInBounds_toArray, List.set_cons_zero, List.set_cons_succ]
        refine wpAnyH_ready (rs := [10]) (by kernel_rfl) (by simp) ?_
        refine AllReadyH.cons (o := { dst := none, op := .store _ (.tmp 9) (.tmp 27), type := _, pos := _, after := _, guard := _ }) rfl (fun K hK => ?_) AllReadyH.nil
        rw [if_pos (by rfl)]
        refine wp_store_mid _ _ _ rfl u3q.heap.size _ u.all.toArray rfl rfl (h262q.out.thereOf u) (HZ.out u) (u.all_all) ?_
        simp only [Act.put]
        have h264q : Hid (Gd n w (u260q.setCells u3q.heap.size 0 u.all)) := h261q.out.asideAll (by omega) u
        have h265q : Hid (TAt (u260q.setCells u3q.heap.size 0 u.all) u3q.heap.size u) := h262q.out.setAll u
        have h266q : Hid (Bo (u260q.setCells u3q.heap.size 0 u.all) u162q.heap.size [.int .i64 0, .int .i64 0]) := h263q.out.asideAll (by omega) u
        clear h261q h262q h263q
        refine hK.out _ _ trivial (fun hH => ?_)
        clear hK K
        generalize (u260q.setCells u3q.heap.size 0 u.all) = u267q at h264q h265q h266q hH ⊢
        try simp only [Act.put, List.setIfInBounds_toArray, List.set_cons_zero, List.set_cons_succ]
        refine wpAnyH_ready (rs := [11]) (by kernel_rfl) (by simp) ?_
        refine AllReadyH.cons (o := { dst := none, op := .store _ (.tmp 10) (.tmp 28), type := _, pos := _, after := _, guard := _ }) rfl (fun K hK => ?_) AllReadyH.nil
        rw [if_pos (by rfl)]
        refine wp_store_mid _ _ _ rfl u162q.heap.size _ #[.int .i64 (1), .int .i64 (0)] rfl rfl h266q.out.there2 HA.out (two_one _ _) ?_
        simp only [Act.put]
        have h268q : Hid (Gd n w (u267q.setCells u162q.heap.size 0 [.int .i64 (1), .int .i64 (0)])) := h264q.out.asideL (by omega) 0 [.int .i64 (1), .int .i64 (0)]
        have h269q : Hid (TAt (u267q.setCells u162q.heap.size 0 [.int .i64 (1), .int .i64 (0)]) u3q.heap.size u) := h265q.out.asideL (by omega) 0 [.int .i64 (1), .int .i64 (0)]
        have h270q : Hid (Bo (u267q.setCells u162q.heap.size 0 [.int .i64 (1), .int .i64 (0)]) u162q.heap.size [.int .i64 (1), .int .i64 (0)]) := h266q.out.set2 (.int .i64 (1)) (.int .i64 (0))
        clear h264q h265q h266q
        refine hK.out _ _ trivial (fun hH => ?_)
        clear hK K
        generalize (u267q.setCells u162q.heap.size 0 [.int .i64 (1), .int .i64 (0)]) = u271q at h268q h269q h270q hH ⊢
        try simp only [Act.put, List.setIfInBounds_toArray, List.set_cons_zero, List.set_cons_succ]
        refine wpAnyH_done (by kernel_rfl) ?_ _
        go_wp2_with fail
        go_meet
        case rel => exact ⟨u162q.heap.size, rfl, h268q, h269q, h270q⟩
      refine AllReadyH.cons (o := { dst := some 10, op := .alloc _, type := _, pos := _, after := _, guard := _ }) rfl (fun K hK => ?_) AllReadyH.nil
      have l272q : n ≤ u162q.heap.size := h160q.out.le
      have l273q : u3q.heap.size < u162q.heap.size := h161q.out.lt
      go_simp
      have h274q : Hid (Gd n w (u162q.alloc (.cells #[.int .i64 0, .int .i64 0] 31))) := h160q.out.new (.cells #[.int .i64 0, .int .i64 0] 31)
      have h275q : Hid (TAt (u162q.alloc (.cells #[.int .i64 0, .int .i64 0] 31)) u3q.heap.size t) := h161q.out.new (.cells #[.int .i64 0, .int .i64 0] 31)
      clear h160q h161q
      have h276q : Hid (Bo (u162q.alloc (.cells #[.int .i64 0, .int .i64 0] 31)) u162q.heap.size [.int .i64 0, .int .i64 0]) := Bo.born u162q [.int .i64 0, .int .i64 0] 31 (by simp)
      refine hK.out _ _ trivial (fun hH => ?_)
      clear hK K
      generalize (u162q.alloc (.cells #[.int .i64 0, .int .i64 0] 31)) = u277q at h274q h275q h276q hH ⊢
      try simp only [Act.put, List.setIfInBounds_toArray, List.set_cons_zero, List.set_cons_succ]
      refine wpAnyH_ready (rs := [0, 3]) (by kernel_rfl) (by simp) ?_
      refine AllReadyH.cons (o := { dst := some 21, op := .load _ (.tmp 9), type := _, pos := _, after := _, guard := _ }) rfl (fun K hK => ?_) ?_
      · rw [if_pos (by rfl)]
        refine wp_load_mid _ _ rfl u3q.heap.size _ rfl t.all _ h275q.out.range HD.out rfl (HS.out t) ?_
        simp only [Act.put, List.setIfInBounds_toArray, List.set_cons_zero, List.set_cons_succ]
        refine hK.out _ _ trivial (fun hH => ?_)
        clear hK K
        try simp only [Act.put, List.setIfInBounds_toArray, List.set_cons_zero, List.set_cons_succ]
        refine wpAnyH_ready (rs := [3]) (by kernel_rfl) (by simp) ?_
        refine AllReadyH.cons (o := { dst := some 24, op := _, type := _, pos := _, after := _, guard := _ }) rfl (fun K hK => ?_) AllReadyH.nil
        go_simp
        refine (Pr2.out _).mono ?_
        rintro e u278q ⟨rfl, hw⟩
        rw [hw]; clear hw u278q
        go_wp2_with fail
        refine hK.out _ _ trivial (fun hH => ?_)
        clear hK K
        try simp only [Act.put, List.setIfInBounds_toArray, List.set_cons_zero, List.set_cons_succ]
        refine wpAnyH_take (i := 4) (oi := { dst := some 25, op := .build _ #[(0, .const (.int .i64 1)), (1, .tmp 22), (2, .tmp 24)], type := _, pos := _, after := _, guard := _ }) (v := ?_) rfl (by kernel_rfl) (by kernel_rfl) (by kernel_rfl) (fun _ _ _ h => h) (Or.inl ⟨by rfl, ?_⟩) hH ?_
        rotate_left
        · intro w hSw
          clear hSw
          go_simp
          try with_reducible rfl
        simp only [Act.put, List.setIfInBounds_toArray, List.set_cons_zero, List.set_cons_succ]
        refine wpAnyH_ready (rs := [5]) (by kernel_rfl) (by simp) ?_
        refine AllReadyH.cons (o := { dst := some 26, op := _, type := _, pos := _, after := _, guard := _ }) rfl (fun K hK => ?_) AllReadyH.nil
        go_simp
        refine (DO _).mono ?_
        rintro e u279q ⟨rfl, hb⟩
        have h280q : Hid (Gd n w u279q) := h274q.out.later hb
        have h281q : Hid (TAt u279q u3q.heap.size t) := h275q.out.later hb
        have h282q : Hid (Bo u279q u162q.heap.size [.int .i64 0, .int .i64 0]) := h276q.out.later hb
        clear h274q h275q h276q
        clear hb
        go_wp2_with fail
        refine hK.out _ _ trivial (fun hH => ?_)
        clear hK K
        try simp only [Act.put, List.setIfInBounds_toArray, List.set_cons_zero, List.set_cons_succ]
        refine wpAnyH_take (i := 6) (oi := { dst := some 20, op := .move (.tmp 26), type := _, pos := _, after := _, guard := _ }) (v := ?_) rfl (by kernel_rfl) (by kernel_rfl) (by kernel_rfl) (fun _ _ _ h => h) (Or.inl ⟨by rfl, ?_⟩) hH ?_
        rotate_left
        · intro w hSw
          clear hSw
          go_simp
          try with_reducible rfl
        simp only [Act.put, List.setIfInBounds_toArray, List.set_cons_zero, List.set_cons_succ]
        refine wpAnyH_take (i := 7) (oi := { dst := some 27, op := .extract (.tmp 20) 0, type := _, pos := _, after := _, guard := _ }) (v := ?_) rfl (by kernel_rfl) (by kernel_rfl) (by kernel_rfl) (fun _ _ _ h => h) (Or.inl ⟨by rfl, ?_⟩) hH ?_
        rotate_left
        · intro w hSw
          clear hSw
          go_simp
          try with_reducible rfl
        simp only [Act.put, List.setIfInBounds_toArray, List.set_cons_zero, List.set_cons_succ]
        refine wpAnyH_take (i := 8) (oi := { dst := some 28, op := .extract (.tmp 20) 1, type := _, pos := _, after := _, guard := _ }) (v := ?_) rfl (by kernel_rfl) (by kernel_rfl) (by kernel_rfl) (fun _ _ _ h => h) (Or.inl ⟨by rfl, ?_⟩) hH ?_
        rotate_left
        · intro w hSw
          clear hSw
          go_simp
          try with_reducible rfl
        simp only [Act.put, List.setIfInBounds_toArray, List.set_cons_zero, List.set_cons_succ]
        refine wpAnyH_ready (rs := [10]) (by kernel_rfl) (by simp) ?_
        refine AllReadyH.cons (o := { dst := none, op := .store _ (.tmp 9) (.tmp 27), type := _, pos := _, after := _, guard := _ }) rfl (fun K hK => ?_) AllReadyH.nil
        rw [if_pos (by rfl)]
        refine wp_store_mid _ _ _ rfl u3q.heap.size _ u.all.toArray rfl rfl (h281q.out.thereOf u) (HZ.out u) (u.all_all) ?_
        simp only [Act.put]
        have h283q : Hid (Gd n w (u279q.setCells u3q.heap.size 0 u.all)) := h280q.out.asideAll (by omega) u
        have h284q : Hid (TAt (u279q.setCells u3q.heap.size 0 u.all) u3q.heap.size u) := h281q.out.setAll u
        have h285q : Hid (Bo (u279q.setCells u3q.heap.size 0 u.all) u162q.heap.size [.int .i64 0, .int .i64 0]) := h282q.out.asideAll (by omega) u
        clear h280q h281q h282q
        refine hK.out _ _ trivial (fun hH => ?_)
        clear hK K
        generalize (u279q.setCells u3q.heap.size 0 u.all) = u286q at h283q h284q h285q hH ⊢
        try simp only [Act.put, List.setIfInBounds_toArray, List.set_cons_zero, List.set_cons_succ]
        refine wpAnyH_ready (rs := [11]) (by kernel_rfl) (by simp) ?_
        refine AllReadyH.cons (o := { dst := none, op := .store _ (.tmp 10) (.tmp 28), type := _, pos := _, after := _, guard := _ }) rfl (fun K hK => ?_) AllReadyH.nil
        rw [if_pos (by rfl)]
        refine wp_store_mid _ _ _ rfl u162q.heap.size _ #[.int .i64 (1), .int .i64 (0)] rfl rfl h285q.out.there2 HA.out (two_one _ _) ?_
        simp only [Act.put]
        have h287q : Hid (Gd n w (u286q.setCells u162q.heap.size 0 [.int .i64 (1), .int .i64 (0)])) := h283q.out.asideL (by omega) 0 [.int .i64 (1), .int .i64 (0)]
        have h288q : Hid (TAt (u286q.setCells u162q.heap.size 0 [.int .i64 (1), .int .i64 (0)]) u3q.heap.size u) := h284q.out.asideL (by omega) 0 [.int .i64 (1), .int .i64 (0)]
        have h289q : Hid (Bo (u286q.setCells u162q.heap.size 0 [.int .i64 (1), .int .i64 (0)]) u162q.heap.size [.int .i64 (1), .int .i64 (0)]) := h285q.out.set2 (.int .i64 (1)) (.int .i64 (0))
        clear h283q h284q h285q
        refine hK.out _ _ trivial (fun hH => ?_)
        clear hK K
        generalize (u286q.setCells u162q.heap.size 0 [.int .i64 (1), .int .i64 (0)]) = u290q at h287q h288q h289q hH ⊢
        try simp only [Act.put, List.setIfInBounds_toArray, List.set_cons_zero, List.set_cons_succ]
        refine wpAnyH_done (by kernel_rfl) ?_ _
        go_wp2_with fail
        go_meet
        case rel => exact ⟨u162q.heap.size, rfl, h287q, h288q, h289q⟩
      refine AllReadyH.cons (o := { dst := some 24, op := _, type := _, pos := _, after := _, guard := _ }) rfl (fun K hK => ?_) AllReadyH.nil
      go_simp
      refine (Pr2.out _).mono ?_
      rintro e u291q ⟨rfl, hw⟩
      rw [hw]; clear hw u291q
      go_wp2_with fail
      refine hK.out _ _ trivial (fun hH => ?_)
      clear hK K
      try simp only [Act.put, List.setIfInBounds_toArray, List.set_cons_zero, List.set_cons_succ]
      refine wpAnyH_take (i := 4) (oi := { dst := some 25, op := .build _ #[(0, .const (.int .i64 1)), (1, .tmp 22), (2, .tmp 24)], type := _, pos := _, after := _, guard := _ }) (v := ?_) rfl (by kernel_rfl) (by kernel_rfl) (by kernel_rfl) (fun _ _ _ h => h) (Or.inl ⟨by rfl, ?_⟩) hH ?_
      rotate_left
      · intro w hSw
        clear hSw
        go_simp
        try with_reducible rfl
      simp only [Act.put, List.setIfInBounds_toArray, List.set_cons_zero, List.set_cons_succ]
      refine wpAnyH_ready (rs := [0]) (by kernel_rfl) (by simp) ?_
      refine AllReadyH.cons (o := { dst := some 21, op := .load _ (.tmp 9), type := _, pos := _, after := _, guard := _ }) rfl (fun K hK => ?_) AllReadyH.nil
      rw [if_pos (by rfl)]
      refine wp_load_mid _ _ rfl u3q.heap.size _ rfl t.all _ h275q.out.range HD.out rfl (HS.out t) ?_
      simp only [Act.put, List.setIfInBounds_toArray, List.set_cons_zero, List.set_cons_succ]
      refine hK.out _ _ trivial (fun hH => ?_)
      clear hK K
      try simp only [Act.put, List.setIfInBounds_toArray, List.set_cons_zero, List.set_cons_succ]
      refine wpAnyH_ready (rs := [5]) (by kernel_rfl) (by simp) ?_
      refine AllReadyH.cons (o := { dst := some 26, op := _, type := _, pos := _, after := _, guard := _ }) rfl (fun K hK => ?_) AllReadyH.nil
      go_simp
      refine (DO _).mono ?_
      rintro e u292q ⟨rfl, hb⟩
      have h293q : Hid (Gd n w u292q) := h274q.out.later hb
      have h294q : Hid (TAt u292q u3q.heap.size t) := h275q.out.later hb
      have h295q : Hid (Bo u292q u162q.heap.size [.int .i64 0, .int .i64 0]) := h276q.out.later hb
      clear h274q h275q h276q
      clear hb
      go_wp2_with fail
      refine hK.out _ _ trivial (fun hH => ?_)
      clear hK K
      try simp only [Act.put, List.setIfInBounds_toArray, List.set_cons_zero, List.set_cons_succ]
      refine wpAnyH_take (i := 6) (oi := { dst := some 20, op := .move (.tmp 26), type := _, pos := _, after := _, guard := _ }) (v := ?_) rfl (by kernel_rfl) (by kernel_rfl) (by kernel_rfl) (fun _ _ _ h => h) (Or.inl ⟨by rfl, ?_⟩) hH ?_
      rotate_left
      · intro w hSw
        clear hSw
        go_simp
        try with_reducible rfl
      simp only [Act.put, List.setIfInBounds_toArray, List.set_cons_zero, List.set_cons_succ]
      refine wpAnyH_take (i := 7) (oi := { dst := some 27, op := .extract (.tmp 20) 0, type := _, pos := _, after := _, guard := _ }) (v := ?_) rfl (by kernel_rfl) (by kernel_rfl) (by kernel_rfl) (fun _ _ _ h => h) (Or.inl ⟨by rfl, ?_⟩) hH ?_
      rotate_left
      · intro w hSw
        clear hSw
        go_simp
        try with_reducible rfl
      simp only [Act.put, List.setIfInBounds_toArray, List.set_cons_zero, List.set_cons_succ]
      refine wpAnyH_take (i := 8) (oi := { dst := some 28, op := .extract (.tmp 20) 1, type := _, pos := _, after := _, guard := _ }) (v := ?_) rfl (by kernel_rfl) (by kernel_rfl) (by kernel_rfl) (fun _ _ _ h => h) (Or.inl ⟨by rfl, ?_⟩) hH ?_
      rotate_left
      · intro w hSw
        clear hSw
        go_simp
        try with_reducible rfl
      simp only [Act.put, List.setIfInBounds_toArray, List.set_cons_zero, List.set_cons_succ]
      refine wpAnyH_ready (rs := [10]) (by kernel_rfl) (by simp) ?_
      refine AllReadyH.cons (o := { dst := none, op := .store _ (.tmp 9) (.tmp 27), type := _, pos := _, after := _, guard := _ }) rfl (fun K hK => ?_) AllReadyH.nil
      rw [if_pos (by rfl)]
      refine wp_store_mid _ _ _ rfl u3q.heap.size _ u.all.toArray rfl rfl (h294q.out.thereOf u) (HZ.out u) (u.all_all) ?_
      simp only [Act.put]
      have h296q : Hid (Gd n w (u292q.setCells u3q.heap.size 0 u.all)) := h293q.out.asideAll (by omega) u
      have h297q : Hid (TAt (u292q.setCells u3q.heap.size 0 u.all) u3q.heap.size u) := h294q.out.setAll u
      have h298q : Hid (Bo (u292q.setCells u3q.heap.size 0 u.all) u162q.heap.size [.int .i64 0, .int .i64 0]) := h295q.out.asideAll (by omega) u
      clear h293q h294q h295q
      refine hK.out _ _ trivial (fun hH => ?_)
      clear hK K
      generalize (u292q.setCells u3q.heap.size 0 u.all) = u299q at h296q h297q h298q hH ⊢
      try simp only [Act.put, List.setIfInBounds_toArray, List.set_cons_zero, List.set_cons_succ]
      refine wpAnyH_ready (rs := [11]) (by kernel_rfl) (by simp) ?_
      refine AllReadyH.cons (o := { dst := none, op := .store _ (.tmp 10) (.tmp 28), type := _, pos := _, after := _, guard := _ }) rfl (fun K hK => ?_) AllReadyH.nil
      rw [if_pos (by rfl)]
      refine wp_store_mid _ _ _ rfl u162q.heap.size _ #[.int .i64 (1), .int .i64 (0)] rfl rfl h298q.out.there2 HA.out (two_one _ _) ?_
      simp only [Act.put]
      have h300q : Hid (Gd n w (u299q.setCells u162q.heap.size 0 [.int .i64 (1), .int .i64 (0)])) := h296q.out.asideL (by omega) 0 [.int .i64 (1), .int .i64 (0)]
      have h301q : Hid (TAt (u299q.setCells u162q.heap.size 0 [.int .i64 (1), .int .i64 (0)]) u3q.heap.size u) := h297q.out.asideL (by omega) 0 [.int .i64 (1), .int .i64 (0)]
      have h302q : Hid (Bo (u299q.setCells u162q.heap.size 0 [.int .i64 (1), .int .i64 (0)]) u162q.heap.size [.int .i64 (1), .int .i64 (0)]) := h298q.out.set2 (.int .i64 (1)) (.int .i64 (0))
      clear h296q h297q h298q
      refine hK.out _ _ trivial (fun hH => ?_)
      clear hK K
      generalize (u299q.setCells u162q.heap.size 0 [.int .i64 (1), .int .i64 (0)]) = u303q at h300q h301q h302q hH ⊢
      try simp only [Act.put, List.setIfInBounds_toArray, List.set_cons_zero, List.set_cons_succ]
      refine wpAnyH_done (by kernel_rfl) ?_ _
      go_wp2_with fail
      go_meet
      case rel => exact ⟨u162q.heap.size, rfl, h300q, h301q, h302q⟩
    case rest =>
      obtain ⟨b_a, rfl, h304q, h305q, h306q⟩ := hcut
      have c307q := h306q.out.at 0 rfl
      go_wp2_with fail
      go_cut [11, 12] (fun s11 s12 wx => ∃ b_u b_b : Nat, s11 = .pointer (some ⟨b_u, 0, none⟩) ∧ s12 = .pointer (some ⟨b_b, 0, none⟩) ∧ Hid (Gd n w wx) ∧ Hid (TAt wx u3q.heap.size u) ∧ Hid (Bo wx b_a [.int .i64 (1), .int .i64 (0)]) ∧ Hid (TAt wx b_u u2) ∧ Hid (Bo wx b_b [.int .i64 (1), .int .i64 (0)]))
      case first =>
        have h308q : Hid (Gd n w wc.drew) := h304q.out.drew
        have h309q : Hid (TAt wc.drew u3q.heap.size u) := h305q.out.drew
        have h310q : Hid (Bo wc.drew b_a [.int .i64 (1), .int .i64 (0)]) := h306q.out.drew
        clear h304q h305q h306q
        refine wp_region_held_drew (S := fun w' => TAt w' u3q.heap.size u) (by kernel_rfl) h309q.out (fun hH => ?_)
        generalize wc.drew = u311q at h308q h309q h310q hH ⊢
        refine wpAnyH_take (i := 0) (oi := { dst := some 36, op := .load _ (.tmp 9), type := _, pos := _, after := _, guard := _ }) (v := _) rfl (by kernel_rfl) (by kernel_rfl) (by kernel_rfl) (fun _ _ _ h => h) (yieldsIf_load_mid (by rfl) _ _ rfl u3q.heap.size _ rfl u.all _ (fun _ h => (h).range) HD.out rfl (HS.out u)) hH ?_
        simp only [Act.put, List.setIfInBounds_toArray, List.set_cons_zero, List.set_cons_succ]
        refine wpAnyH_take (i := 1) (oi := { dst := some 37, op := .move (.tmp 1), type := _, pos := _, after := _, guard := _ }) (v := ?_) rfl (by kernel_rfl) (by kernel_rfl) (by kernel_rfl) (fun _ _ _ h => h) (Or.inl ⟨by rfl, ?_⟩) hH ?_
        rotate_left
        · intro w hSw
          clear hSw
          go_simp
          try with_reducible rfl
        simp only [Act.put, List.setIfInBounds_toArray, List.set_cons_zero, List.set_cons_succ]
        refine wpAnyH_take (i := 2) (oi := { dst := some 38, op := .move (.tmp 3), type := _, pos := _, after := _, guard := _ }) (v := ?_) rfl (by kernel_rfl) (by kernel_rfl) (by kernel_rfl) (fun _ _ _ h => h) (Or.inl ⟨by rfl, ?_⟩) hH ?_
        rotate_left
        · intro w hSw
          clear hSw
          go_simp
          try with_reducible rfl
        simp only [Act.put, List.setIfInBounds_toArray, List.set_cons_zero, List.set_cons_succ]
        refine wpAnyH_ready (rs := [3, 9, 10]) (by kernel_rfl) (by simp) ?_
        refine AllReadyH.cons (o := { dst := some 39, op := _, type := _, pos := _, after := _, guard := _ }) rfl (fun K hK => ?_) ?_
        · go_simp
          refine (Pr3.out _).mono ?_
          rintro e u312q ⟨rfl, hw⟩
          rw [hw]; clear hw u312q
          go_wp2_with fail
          refine hK.out _ _ h309q.out (fun hH => ?_)
          clear hK K
          try simp only [Act.put, List.setIfInBounds_toArray, List.set_cons_zero, List.set_cons_succ]
          refine wpAnyH_take (i := 4) (oi := { dst := some 40, op := .build _ #[(0, .const (.int .i64 1)), (1, .tmp 37), (2, .tmp 39)], type := _, pos := _, after := _, guard := _ }) (v := ?_) rfl (by kernel_rfl) (by kernel_rfl) (by kernel_rfl) (fun _ _ _ h => h) (Or.inl ⟨by rfl, ?_⟩) hH ?_
          rotate_left
          · intro w hSw
            clear hSw
            go_simp
            try with_reducible rfl
          simp only [Act.put, List.setIfInBounds_toArray, List.set_cons_zero, List.set_cons_succ]
          refine wpAnyH_ready (rs := [5, 9, 10]) (by kernel_rfl) (by simp) ?_
          refine AllReadyH.cons (o := { dst := some 41, op := _, type := _, pos := _, after := _, guard := _ }) rfl (fun K hK => ?_) ?_
          · go_simp
            refine (DO2 _).mono ?_
            rintro e u313q ⟨rfl, hb⟩
            have h314q : Hid (Gd n w u313q) := h308q.out.later hb
            have h315q : Hid (TAt u313q u3q.heap.size u) := h309q.out.later hb
            have h316q : Hid (Bo u313q b_a [.int .i64 (1), .int .i64 (0)]) := h310q.out.later hb
            clear h308q h309q h310q
            clear hb
            go_wp2_with fail
            refine hK.out _ _ h315q.out (fun hH => ?_)
            clear hK K
            try simp only [Act.put, List.setIfInBounds_toArray, List.set_cons_zero, List.set_cons_succ]
            refine wpAnyH_take (i := 6) (oi := { dst := some 35, op := .move (.tmp 41), type := _, pos := _, after := _, guard := _ }) (v := ?_) rfl (by kernel_rfl) (by kernel_rfl) (by kernel_rfl) (fun _ _ _ h => h) (Or.inl ⟨by rfl, ?_⟩) hH ?_
            rotate_left
            · intro w hSw
              clear hSw
              go_simp
              try with_reducible rfl
            simp only [Act.put, List.setIfInBounds_toArray, List.set_cons_zero, List.set_cons_succ]
            refine wpAnyH_take (i := 7) (oi := { dst := some 42, op := .extract (.tmp 35) 0, type := _, pos := _, after := _, guard := _ }) (v := ?_) rfl (by kernel_rfl) (by kernel_rfl) (by kernel_rfl) (fun _ _ _ h => h) (Or.inl ⟨by rfl, ?_⟩) hH ?_
            rotate_left
            · intro w hSw
              clear hSw
              go_simp
              try with_reducible rfl
            simp only [Act.put, List.setIfInBounds_toArray, List.set_cons_zero, List.set_cons_succ]
            refine wpAnyH_take (i := 8) (oi := { dst := some 43, op := .extract (.tmp 35) 1, type := _, pos := _, after := _, guard := _ }) (v := ?_) rfl (by kernel_rfl) (by kernel_rfl) (by kernel_rfl) (fun _ _ _ h => h) (Or.inl ⟨by rfl, ?_⟩) hH ?_
            rotate_left
            · intro w hSw
              clear hSw
              go_simp
              try with_reducible rfl
            simp only [Act.put, List.setIfInBounds_toArray, List.set_cons_zero, List.set_cons_succ]
            refine wpAnyH_ready (rs := [9, 10]) (by kernel_rfl) (by simp) ?_
            refine AllReadyH.cons (o := { dst := some 11, op := .alloc _, type := _, pos := _, after := _, guard := _ }) rfl (fun K hK => ?_) ?_
            · have l317q : n ≤ u313q.heap.size := h314q.out.le
              have l318q : u3q.heap.size < u313q.heap.size := h315q.out.lt
              have l319q : b_a < u313q.heap.size := h316q.out.lt
              go_simp
              have h320q : Hid (Gd n w (u313q.alloc (.cells #[.int .i64 0, .int .i64 0, .int .i64 0, .int .i64 0, .int .i64 0, .int .i64 0, .int .i64 0, .int .i64 0, .int .i64 0, .int .i64 0, .int .i64 0, .int .i64 0, .int .i64 0, .int .i64 0, .int .i64 0, .int .i64 0] 27))) := h314q.out.new (.cells #[.int .i64 0, .int .i64 0, .int .i64 0, .int .i64 0, .int .i64 0, .int .i64 0, .int .i64 0, .int .i64 0, .int .i64 0, .int .i64 0, .int .i64 0, .int .i64 0, .int .i64 0, .int .i64 0, .int .i64 0, .int .i64 0] 27)
              have h321q : Hid (TAt (u313q.alloc (.cells #[.int .i64 0, .int .i64 0, .int .i64 0, .int .i64 0, .int .i64 0, .int .i64 0, .int .i64 0, .int .i64 0, .int .i64 0, .int .i64 0, .int .i64 0, .int .i64 0, .int .i64 0, .int .i64 0, .int .i64 0, .int .i64 0] 27)) u3q.heap.size u) := h315q.out.new (.cells #[.int .i64 0, .int .i64 0, .int .i64 0, .int .i64 0, .int .i64 0, .int .i64 0, .int .i64 0, .int .i64 0, .int .i64 0, .int .i64 0, .int .i64 0, .int .i64 0, .int .i64 0, .int .i64 0, .int .i64 0, .int .i64 0] 27)
              have h322q : Hid (Bo (u313q.alloc (.cells #[.int .i64 0, .int .i64 0, .int .i64 0, .int .i64 0, .int .i64 0, .int .i64 0, .int .i64 0, .int .i64 0, .int .i64 0, .int .i64 0, .int .i64 0, .int .i64 0, .int .i64 0, .int .i64 0, .int .i64 0, .int .i64 0] 27)) b_a [.int .i64 (1), .int .i64 (0)]) := h316q.out.new (.cells #[.int .i64 0, .int .i64 0, .int .i64 0, .int .i64 0, .int .i64 0, .int .i64 0, .int .i64 0, .int .i64 0, .int .i64 0, .int .i64 0, .int .i64 0, .int .i64 0, .int .i64 0, .int .i64 0, .int .i64 0, .int .i64 0] 27)
              clear h314q h315q h316q
              have h323q : Hid (TAt (u313q.alloc (.cells #[.int .i64 0, .int .i64 0, .int .i64 0, .int .i64 0, .int .i64 0, .int .i64 0, .int .i64 0, .int .i64 0, .int .i64 0, .int .i64 0, .int .i64 0, .int .i64 0, .int .i64 0, .int .i64 0, .int .i64 0, .int .i64 0] 27)) u313q.heap.size Tb.zero) := TAt.bornZero u313q 27 (by simp)
              refine hK.out _ _ h321q.out (fun hH => ?_)
              clear hK K
              generalize (u313q.alloc (.cells #[.int .i64 0, .int .i64 0, .int .i64 0, .int .i64 0, .int .i64 0, .int .i64 0, .int .i64 0, .int .i64 0, .int .i64 0, .int .i64 0, .int .i64 0, .int .i64 0, .int .i64 0, .int .i64 0, .int .i64 0, .int .i64 0] 27)) = u324q at h320q h321q h322q h323q hH ⊢
              try simp only [Act.put, List.setIfInBounds_toArray, List.set_cons_zero, List.set_cons_succ]
              refine wpAnyH_ready (rs := [10]) (by kernel_rfl) (by simp) ?_
              refine AllReadyH.cons (o := { dst := some 12, op := .alloc _, type := _, pos := _, after := _, guard := _ }) rfl (fun K hK => ?_) AllReadyH.nil
              have l325q : n ≤ u324q.heap.size := h320q.out.le
              have l326q : u3q.heap.size < u324q.heap.size := h321q.out.lt
              have l327q : b_a < u324q.heap.size := h322q.out.lt
              have l328q : u313q.heap.size < u324q.heap.size := h323q.out.lt
              go_simp
              have h329q : Hid (Gd n w (u324q.alloc (.cells #[.int .i64 0, .int .i64 0] 31))) := h320q.out.new (.cells #[.int .i64 0, .int .i64 0] 31)
              have h330q : Hid (TAt (u324q.alloc (.cells #[.int .i64 0, .int .i64 0] 31)) u3q.heap.size u) := h321q.out.new (.cells #[.int .i64 0, .int .i64 0] 31)
              have h331q : Hid (Bo (u324q.alloc (.cells #[.int .i64 0, .int .i64 0] 31)) b_a [.int .i64 (1), .int .i64 (0)]) := h322q.out.new (.cells #[.int .i64 0, .int .i64 0] 31)
              have h332q : Hid (TAt (u324q.alloc (.cells #[.int .i64 0, .int .i64 0] 31)) u313q.heap.size Tb.zero) := h323q.out.new (.cells #[.int .i64 0, .int .i64 0] 31)
              clear h320q h321q h322q h323q
              have h333q : Hid (Bo (u324q.alloc (.cells #[.int .i64 0, .int .i64 0] 31)) u324q.heap.size [.int .i64 0, .int .i64 0]) := Bo.born u324q [.int .i64 0, .int .i64 0] 31 (by simp)
              refine hK.out _ _ h330q.out (fun hH => ?_)
              clear hK K
              generalize (u324q.alloc (.cells #[.int .i64 0, .int .i64 0] 31)) = u334q at h329q h330q h331q h332q h333q hH ⊢
              try simp only [Act.put, List.setIfInBounds_toArray, List.set_cons_zero, List.set_cons_succ]
              refine wpAnyH_ready (rs := [11]) (by kernel_rfl) (by simp) ?_
              refine AllReadyH.cons (o := { dst := none, op := .store _ (.tmp 11) (.tmp 42), type := _, pos := _, after := _, guard := _ }) rfl (fun K hK => ?_) AllReadyH.nil
              rw [if_pos (by rfl)]
              refine wp_store_mid _ _ _ rfl u313q.heap.size _ u2.all.toArray rfl rfl (h332q.out.thereOf u2) (HZ.out u2) (u2.all_all) ?_
              simp only [Act.put]
              have h335q : Hid (Gd n w (u334q.setCells u313q.heap.size 0 u2.all)) := h329q.out.asideAll (by omega) u2
              have h336q : Hid (TAt (u334q.setCells u313q.heap.size 0 u2.all) u3q.heap.size u) := h330q.out.asideAll (by omega) u2
              have h337q : Hid (Bo (u334q.setCells u313q.heap.size 0 u2.all) b_a [.int .i64 (1), .int .i64 (0)]) := h331q.out.asideAll (by omega) u2
              have h338q : Hid (TAt (u334q.setCells u313q.heap.size 0 u2.all) u313q.heap.size u2) := h332q.out.setAll u2
              have h339q : Hid (Bo (u334q.setCells u313q.heap.size 0 u2.all) u324q.heap.size [.int .i64 0, .int .i64 0]) := h333q.out.asideAll (by omega) u2
              clear h329q h330q h331q h332q h333q
              refine hK.out _ _ h336q.out (fun hH => ?_)
              clear hK K
              generalize (u334q.setCells u313q.heap.size 0 u2.all) = u340q at h335q h336q h337q h338q h339q hH ⊢
              try simp only [Act.put, List.setIfInBounds_toArray, List.set_cons_zero, List.set_cons_succ]
              refine wpAnyH_ready (rs := [12]) (by kernel_rfl) (by simp) ?_
              refine AllReadyH.cons (o := { dst := none, op := .store _ (.tmp 12) (.tmp 43), type := _, pos := _, after := _, guard := _ }) rfl (fun K hK => ?_) AllReadyH.nil
              rw [if_pos (by rfl)]
              refine wp_store_mid _ _ _ rfl u324q.heap.size _ #[.int .i64 (1), .int .i64 (0)] rfl rfl h339q.out.there2 HA.out (two_one _ _) ?_
              simp only [Act.put]
              have h341q : Hid (Gd n w (u340q.setCells u324q.heap.size 0 [.int .i64 (1), .int .i64 (0)])) := h335q.out.asideL (by omega) 0 [.int .i64 (1), .int .i64 (0)]
              have h342q : Hid (TAt (u340q.setCells u324q.heap.size 0 [.int .i64 (1), .int .i64 (0)]) u3q.heap.size u) := h336q.out.asideL (by omega) 0 [.int .i64 (1), .int .i64 (0)]
              have h343q : Hid (Bo (u340q.setCells u324q.heap.size 0 [.int .i64 (1), .int .i64 (0)]) b_a [.int .i64 (1), .int .i64 (0)]) := h337q.out.asideL (by omega) 0 [.int .i64 (1), .int .i64 (0)]
              have h344q : Hid (TAt (u340q.setCells u324q.heap.size 0 [.int .i64 (1), .int .i64 (0)]) u313q.heap.size u2) := h338q.out.asideL (by omega) 0 [.int .i64 (1), .int .i64 (0)]
              have h345q : Hid (Bo (u340q.setCells u324q.heap.size 0 [.int .i64 (1), .int .i64 (0)]) u324q.heap.size [.int .i64 (1), .int .i64 (0)]) := h339q.out.set2 (.int .i64 (1)) (.int .i64 (0))
              clear h335q h336q h337q h338q h339q
              refine hK.out _ _ h342q.out (fun hH => ?_)
              clear hK K
              generalize (u340q.setCells u324q.heap.size 0 [.int .i64 (1), .int .i64 (0)]) = u346q at h341q h342q h343q h344q h345q hH ⊢
              try simp only [Act.put, List.setIfInBounds_toArray, List.set_cons_zero, List.set_cons_succ]
              refine wpAnyH_done (by kernel_rfl) ?_ _
              go_wp2_with fail
              go_meet
              case rel => exact ⟨u313q.heap.size, u324q.heap.size, rfl, rfl, h341q, h342q, h343q, h344q, h345q⟩
            refine AllReadyH.cons (o := { dst := some 12, op := .alloc _, type := _, pos := _, after := _, guard := _ }) rfl (fun K hK => ?_) AllReadyH.nil
            have l347q : n ≤ u313q.heap.size := h314q.out.le
            have l348q : u3q.heap.size < u313q.heap.size := h315q.out.lt
            have l349q : b_a < u313q.heap.size := h316q.out.lt
            go_simp
            have h350q : Hid (Gd n w (u313q.alloc (.cells #[.int .i64 0, .int .i64 0] 31))) := h314q.out.new (.cells #[.int .i64 0, .int .i64 0] 31)
            have h351q : Hid (TAt (u313q.alloc (.cells #[.int .i64 0, .int .i64 0] 31)) u3q.heap.size u) := h315q.out.new (.cells #[.int .i64 0, .int .i64 0] 31)
            have h352q : Hid (Bo (u313q.alloc (.cells #[.int .i64 0, .int .i64 0] 31)) b_a [.int .i64 (1), .int .i64 (0)]) := h316q.out.new (.cells #[.int .i64 0, .int .i64 0] 31)
            clear h314q h315q h316q
            have h353q : Hid (Bo (u313q.alloc (.cells #[.int .i64 0, .int .i64 0] 31)) u313q.heap.size [.int .i64 0, .int .i64 0]) := Bo.born u313q [.int .i64 0, .int .i64 0] 31 (by simp)
            refine hK.out _ _ h351q.out (fun hH => ?_)
            clear hK K
            generalize (u313q.alloc (.cells #[.int .i64 0, .int .i64 0] 31)) = u354q at h350q h351q h352q h353q hH ⊢
            try simp only [Act.put, List.setIfInBounds_toArray, List.set_cons_zero, List.set_cons_succ]
            refine wpAnyH_ready (rs := [9]) (by kernel_rfl) (by simp) ?_
            refine AllReadyH.cons (o := { dst := some 11, op := .alloc _, type := _, pos := _, after := _, guard := _ }) rfl (fun K hK => ?_) AllReadyH.nil
            have l355q : n ≤ u354q.heap.size := h350q.out.le
            have l356q : u3q.heap.size < u354q.heap.size := h351q.out.lt
            have l357q : b_a < u354q.heap.size := h352q.out.lt
            have l358q : u313q.heap.size < u354q.heap.size := h353q.out.lt
            go_simp
            have h359q : Hid (Gd n w (u354q.alloc (.cells #[.int .i64 0, .int .i64 0, .int .i64 0, .int .i64 0, .int .i64 0, .int .i64 0, .int .i64 0, .int .i64 0, .int .i64 0, .int .i64 0, .int .i64 0, .int .i64 0, .int .i64 0, .int .i64 0, .int .i64 0, .int .i64 0] 27))) := h350q.out.new (.cells #[.int .i64 0, .int .i64 0, .int .i64 0, .int .i64 0, .int .i64 0, .int .i64 0, .int .i64 0, .int .i64 0, .int .i64 0, .int .i64 0, .int .i64 0, .int .i64 0, .int .i64 0, .int .i64 0, .int .i64 0, .int .i64 0] 27)
            have h360q : Hid (TAt (u354q.alloc (.cells #[.int .i64 0, .int .i64 0, .int .i64 0, .int .i64 0, .int .i64 0, .int .i64 0, .int .i64 0, .int .i64 0, .int .i64 0, .int .i64 0, .int .i64 0, .int .i64 0, .int .i64 0, .int .i64 0, .int .i64 0, .int .i64 0] 27)) u3q.heap.size u) := h351q.out.new (.cells #[.int .i64 0, .int .i64 0, .int .i64 0, .int .i64 0, .int .i64 0, .int .i64 0, .int .i64 0, .int .i64 0, .int .i64 0, .int .i64 0, .int .i64 0, .int .i64 0, .int .i64 0, .int .i64 0, .int .i64 0, .int .i64 0] 27)
            have h361q : Hid (Bo (u354q.alloc (.cells #[.int .i64 0, .int .i64 0, .int .i64 0, .int .i64 0, .int .i64 0, .int .i64 0, .int .i64 0, .int .i64 0, .int .i64 0, .int .i64 0, .int .i64 0, .int .i64 0, .int .i64 0, .int .i64 0, .int .i64 0, .int .i64 0] 27)) b_a [.int .i64 (1), .int .i64 (0)]) := h352q.out.new (.cells #[.int .i64 0, .int .i64 0, .int .i64 0, .int .i64 0, .int .i64 0, .int .i64 0, .int .i64 0, .int .i64 0, .int .i64 0, .int .i64 0, .int .i64 0, .int .i64 0, .int .i64 0, .int .i64 0, .int .i64 0, .int .i64 0] 27)
            have h362q : Hid (Bo (u354q.alloc (.cells #[.int .i64 0, .int .i64 0, .int .i64 0, .int .i64 0, .int .i64 0, .int .i64 0, .int .i64 0, .int .i64 0, .int .i64 0, .int .i64 0, .int .i64 0, .int .i64 0, .int .i64 0, .int .i64 0, .int .i64 0, .int .i64 0] 27)) u313q.heap.size [.int .i64 0, .int .i64 0]) := h353q.out.new (.cells #[.int .i64 0, .int .i64 0, .int .i64 0, .int .i64 0, .int .i64 0, .int .i64 0, .int .i64 0, .int .i64 0, .int .i64 0, .int .i64 0, .int .i64 0, .int .i64 0, .int .i64 0, .int .i64 0, .int .i64 0, .int .i64 0] 27)
            clear h350q h351q h352q h353q
            have h363q : Hid (TAt (u354q.alloc (.cells #[.int .i64 0, .int .i64 0, .int .i64 0, .int .i64 0, .int .i64 0, .int .i64 0, .int .i64 0, .int .i64 0, .int .i64 0, .int .i64 0, .int .i64 0, .int .i64 0, .int .i64 0, .int .i64 0, .int .i64 0, .int .i64 0] 27)) u354q.heap.size Tb.zero) := TAt.bornZero u354q 27 (by simp)
            refine hK.out _ _ h360q.out (fun hH => ?_)
            clear hK K
            generalize (u354q.alloc (.cells #[.int .i64 0, .int .i64 0, .int .i64 0, .int .i64 0, .int .i64 0, .int .i64 0, .int .i64 0, .int .i64 0, .int .i64 0, .int .i64 0, .int .i64 0, .int .i64 0, .int .i64 0, .int .i64 0, .int .i64 0, .int .i64 0] 27)) = u364q at h359q h360q h361q h362q h363q hH ⊢
            try simp only [Act.put, List.setIfInBounds_toArray, List.set_cons_zero, List.set_cons_succ]
            refine wpAnyH_ready (rs := [11]) (by kernel_rfl) (by simp) ?_
            refine AllReadyH.cons (o := { dst := none, op := .store _ (.tmp 11) (.tmp 42), type := _, pos := _, after := _, guard := _ }) rfl (fun K hK => ?_) AllReadyH.nil
            rw [if_pos (by rfl)]
            refine wp_store_mid _ _ _ rfl u354q.heap.size _ u2.all.toArray rfl rfl (h363q.out.thereOf u2) (HZ.out u2) (u2.all_all) ?_
            simp only [Act.put]
            have h365q : Hid (Gd n w (u364q.setCells u354q.heap.size 0 u2.all)) := h359q.out.asideAll (by omega) u2
            have h366q : Hid (TAt (u364q.setCells u354q.heap.size 0 u2.all) u3q.heap.size u) := h360q.out.asideAll (by omega) u2
            have h367q : Hid (Bo (u364q.setCells u354q.heap.size 0 u2.all) b_a [.int .i64 (1), .int .i64 (0)]) := h361q.out.asideAll (by omega) u2
            have h368q : Hid (Bo (u364q.setCells u354q.heap.size 0 u2.all) u313q.heap.size [.int .i64 0, .int .i64 0]) := h362q.out.asideAll (by omega) u2
            have h369q : Hid (TAt (u364q.setCells u354q.heap.size 0 u2.all) u354q.heap.size u2) := h363q.out.setAll u2
            clear h359q h360q h361q h362q h363q
            refine hK.out _ _ h366q.out (fun hH => ?_)
            clear hK K
            generalize (u364q.setCells u354q.heap.size 0 u2.all) = u370q at h365q h366q h367q h368q h369q hH ⊢
            try simp only [Act.put, List.setIfInBounds_toArray, List.set_cons_zero, List.set_cons_succ]
            refine wpAnyH_ready (rs := [12]) (by kernel_rfl) (by simp) ?_
            refine AllReadyH.cons (o := { dst := none, op := .store _ (.tmp 12) (.tmp 43), type := _, pos := _, after := _, guard := _ }) rfl (fun K hK => ?_) AllReadyH.nil
            rw [if_pos (by rfl)]
            refine wp_store_mid _ _ _ rfl u313q.heap.size _ #[.int .i64 (1), .int .i64 (0)] rfl rfl h368q.out.there2 HA.out (two_one _ _) ?_
            simp only [Act.put]
            have h371q : Hid (Gd n w (u370q.setCells u313q.heap.size 0 [.int .i64 (1), .int .i64 (0)])) := h365q.out.asideL (by omega) 0 [.int .i64 (1), .int .i64 (0)]
            have h372q : Hid (TAt (u370q.setCells u313q.heap.size 0 [.int .i64 (1), .int .i64 (0)]) u3q.heap.size u) := h366q.out.asideL (by omega) 0 [.int .i64 (1), .int .i64 (0)]
            have h373q : Hid (Bo (u370q.setCells u313q.heap.size 0 [.int .i64 (1), .int .i64 (0)]) b_a [.int .i64 (1), .int .i64 (0)]) := h367q.out.asideL (by omega) 0 [.int .i64 (1), .int .i64 (0)]
            have h374q : Hid (Bo (u370q.setCells u313q.heap.size 0 [.int .i64 (1), .int .i64 (0)]) u313q.heap.size [.int .i64 (1), .int .i64 (0)]) := h368q.out.set2 (.int .i64 (1)) (.int .i64 (0))
            have h375q : Hid (TAt (u370q.setCells u313q.heap.size 0 [.int .i64 (1), .int .i64 (0)]) u354q.heap.size u2) := h369q.out.asideL (by omega) 0 [.int .i64 (1), .int .i64 (0)]
            clear h365q h366q h367q h368q h369q
            refine hK.out _ _ h372q.out (fun hH => ?_)
            clear hK K
            generalize (u370q.setCells u313q.heap.size 0 [.int .i64 (1), .int .i64 (0)]) = u376q at h371q h372q h373q h374q h375q hH ⊢
            try simp only [Act.put, List.setIfInBounds_toArray, List.set_cons_zero, List.set_cons_succ]
            refine wpAnyH_done (by kernel_rfl) ?_ _
            go_wp2_with fail
            go_meet
            case rel => exact ⟨u354q.heap.size, u313q.heap.size, rfl, rfl, h371q, h372q, h373q, h375q, h374q⟩
          refine AllReadyH.cons (o := { dst := some 11, op := .alloc _, type := _, pos := _, after := _, guard := _ }) rfl (fun K hK => ?_) ?_
          · have l377q : n ≤ u311q.heap.size := h308q.out.le
            have l378q : u3q.heap.size < u311q.heap.size := h309q.out.lt
            have l379q : b_a < u311q.heap.size := h310q.out.lt
            go_simp
            have h380q : Hid (Gd n w (u311q.alloc (.cells #[.int .i64 0, .int .i64 0, .int .i64 0, .int .i64 0, .int .i64 0, .int .i64 0, .int .i64 0, .int .i64 0, .int .i64 0, .int .i64 0, .int .i64 0, .int .i64 0, .int .i64 0, .int .i64 0, .int .i64 0, .int .i64 0] 27))) := h308q.out.new (.cells #[.int .i64 0, .int .i64 0, .int .i64 0, .int .i64 0, .int .i64 0, .int .i64 0, .int .i64 0, .int .i64 0, .int .i64 0, .int .i64 0, .int .i64 0, .int .i64 0, .int .i64 0, .int .i64 0, .int .i64 0, .int .i64 0] 27)
            have h381q : Hid (TAt (u311q.alloc (.cells #[.int .i64 0, .int .i64 0, .int .i64 0, .int .i64 0, .int .i64 0, .int .i64 0, .int .i64 0, .int .i64 0, .int .i64 0, .int .i64 0, .int .i64 0, .int .i64 0, .int .i64 0, .int .i64 0, .int .i64 0, .int .i64 0] 27)) u3q.heap.size u) := h309q.out.new (.cells #[.int .i64 0, .int .i64 0, .int .i64 0, .int .i64 0, .int .i64 0, .int .i64 0, .int .i64 0, .int .i64 0, .int .i64 0, .int .i64 0, .int .i64 0, .int .i64 0, .int .i64 0, .int .i64 0, .int .i64 0, .int .i64 0] 27)
            have h382q : Hid (Bo (u311q.alloc (.cells #[.int .i64 0, .int .i64 0, .int .i64 0, .int .i64 0, .int .i64 0, .int .i64 0, .int .i64 0, .int .i64 0, .int .i64 0, .int .i64 0, .int .i64 0, .int .i64 0, .int .i64 0, .int .i64 0, .int .i64 0, .int .i64 0] 27)) b_a [.int .i64 (1), .int .i64 (0)]) := h310q.out.new (.cells #[.int .i64 0, .int .i64 0, .int .i64 0, .int .i64 0, .int .i64 0, .int .i64 0, .int .i64 0, .int .i64 0, .int .i64 0, .int .i64 0, .int .i64 0, .int .i64 0, .int .i64 0, .int .i64 0, .int .i64 0, .int .i64 0] 27)
            clear h308q h309q h310q
            have h383q : Hid (TAt (u311q.alloc (.cells #[.int .i64 0, .int .i64 0, .int .i64 0, .int .i64 0, .int .i64 0, .int .i64 0, .int .i64 0, .int .i64 0, .int .i64 0, .int .i64 0, .int .i64 0, .int .i64 0, .int .i64 0, .int .i64 0, .int .i64 0, .int .i64 0] 27)) u311q.heap.size Tb.zero) := TAt.bornZero u311q 27 (by simp)
            refine hK.out _ _ h381q.out (fun hH => ?_)
            clear hK K
            generalize (u311q.alloc (.cells #[.int .i64 0, .int .i64 0, .int .i64 0, .int .i64 0, .int .i64 0, .int .i64 0, .int .i64 0, .int .i64 0, .int .i64 0, .int .i64 0, .int .i64 0, .int .i64 0, .int .i64 0, .int .i64 0, .int .i64 0, .int .i64 0] 27)) = u384q at h380q h381q h382q h383q hH ⊢
            try simp only [Act.put, List.setIfInBounds_toArray, List.set_cons_zero, List.set_cons_succ]
            refine wpAnyH_ready (rs := [5, 10]) (by kernel_rfl) (by simp) ?_
            refine AllReadyH.cons (o := { dst := some 41, op := _, type := _, pos := _, after := _, guard := _ }) rfl (fun K hK => ?_) ?_
            · go_simp
              refine (DO2 _).mono ?_
              rintro e u385q ⟨rfl, hb⟩
              have h386q : Hid (Gd n w u385q) := h380q.out.later hb
              have h387q : Hid (TAt u385q u3q.heap.size u) := h381q.out.later hb
              have h388q : Hid (Bo u385q b_a [.int .i64 (1), .int .i64 (0)]) := h382q.out.later hb
              have h389q : Hid (TAt u385q u311q.heap.size Tb.zero) := h383q.out.later hb
              clear h380q h381q h382q h383q
              clear hb
              go_wp2_with fail
              refine hK.out _ _ h387q.out (fun hH => ?_)
              clear hK K
              try simp only [Act.put, List.setIfInBounds_toArray, List.set_cons_zero, List.set_cons_succ]
              refine wpAnyH_take (i := 6) (oi := { dst := some 35, op := .move (.tmp 41), type := _, pos := _, after := _, guard := _ }) (v := ?_) rfl (by kernel_rfl) (by kernel_rfl) (by kernel_rfl) (fun _ _ _ h => h) (Or.inl ⟨by rfl, ?_⟩) hH ?_
              rotate_left
              · intro w hSw
                clear hSw
                go_simp
                try with_reducible rfl
              simp only [Act.put, List.setIfInBounds_toArray, List.set_cons_zero, List.set_cons_succ]
              refine wpAnyH_take (i := 7) (oi := { dst := some 42, op := .extract (.tmp 35) 0, type := _, pos := _, after := _, guard := _ }) (v := ?_) rfl (by kernel_rfl) (by kernel_rfl) (by kernel_rfl) (fun _ _ _ h => h) (Or.inl ⟨by rfl, ?_⟩) hH ?_
              rotate_left
              · intro w hSw
                clear hSw
                go_simp
                try with_reducible rfl
              simp only [Act.put, List.setIfInBounds_toArray, List.set_cons_zero, List.set_cons_succ]
              refine wpAnyH_take (i := 8) (oi := { dst := some 43, op := .extract (.tmp 35) 1, type := _, pos := _, after := _, guard := _ }) (v := ?_) rfl (by kernel_rfl) (by kernel_rfl) (by kernel_rfl) (fun _ _ _ h => h) (Or.inl ⟨by rfl, ?_⟩) hH ?_
              rotate_left
              · intro w hSw
                clear hSw
                go_simp
                try with_reducible rfl
              simp only [Act.put, List.setIfInBounds_toArray, List.set_cons_zero, List.set_cons_succ]
              refine wpAnyH_ready (rs := [10]) (by kernel_rfl) (by simp) ?_
              refine AllReadyH.cons (o := { dst := some 12, op := .alloc _, type := _, pos := _, after := _, guard := _ }) rfl (fun K hK => ?_) AllReadyH.nil
              have l390q : n ≤ u385q.heap.size := h386q.out.le
              have l391q : u3q.heap.size < u385q.heap.size := h387q.out.lt
              have l392q : b_a < u385q.heap.size := h388q.out.lt
              have l393q : u311q.heap.size < u385q.heap.size := h389q.out.lt
              go_simp
              have h394q : Hid (Gd n w (u385q.alloc (.cells #[.int .i64 0, .int .i64 0] 31))) := h386q.out.new (.cells #[.int .i64 0, .int .i64 0] 31)
              have h395q : Hid (TAt (u385q.alloc (.cells #[.int .i64 0, .int .i64 0] 31)) u3q.heap.size u) := h387q.out.new (.cells #[.int .i64 0, .int .i64 0] 31)
              have h396q : Hid (Bo (u385q.alloc (.cells #[.int .i64 0, .int .i64 0] 31)) b_a [.int .i64 (1), .int .i64 (0)]) := h388q.out.new (.cells #[.int .i64 0, .int .i64 0] 31)
              have h397q : Hid (TAt (u385q.alloc (.cells #[.int .i64 0, .int .i64 0] 31)) u311q.heap.size Tb.zero) := h389q.out.new (.cells #[.int .i64 0, .int .i64 0] 31)
              clear h386q h387q h388q h389q
              have h398q : Hid (Bo (u385q.alloc (.cells #[.int .i64 0, .int .i64 0] 31)) u385q.heap.size [.int .i64 0, .int .i64 0]) := Bo.born u385q [.int .i64 0, .int .i64 0] 31 (by simp)
              refine hK.out _ _ h395q.out (fun hH => ?_)
              clear hK K
              generalize (u385q.alloc (.cells #[.int .i64 0, .int .i64 0] 31)) = u399q at h394q h395q h396q h397q h398q hH ⊢
              try simp only [Act.put, List.setIfInBounds_toArray, List.set_cons_zero, List.set_cons_succ]
              refine wpAnyH_ready (rs := [11]) (by kernel_rfl) (by simp) ?_
              refine AllReadyH.cons (o := { dst := none, op := .store _ (.tmp 11) (.tmp 42), type := _, pos := _, after := _, guard := _ }) rfl (fun K hK => ?_) AllReadyH.nil
              rw [if_pos (by rfl)]
              refine wp_store_mid _ _ _ rfl u311q.heap.size _ u2.all.toArray rfl rfl (h397q.out.thereOf u2) (HZ.out u2) (u2.all_all) ?_
              simp only [Act.put]
              have h400q : Hid (Gd n w (u399q.setCells u311q.heap.size 0 u2.all)) := h394q.out.asideAll (by omega) u2
              have h401q : Hid (TAt (u399q.setCells u311q.heap.size 0 u2.all) u3q.heap.size u) := h395q.out.asideAll (by omega) u2
              have h402q : Hid (Bo (u399q.setCells u311q.heap.size 0 u2.all) b_a [.int .i64 (1), .int .i64 (0)]) := h396q.out.asideAll (by omega) u2
              have h403q : Hid (TAt (u399q.setCells u311q.heap.size 0 u2.all) u311q.heap.size u2) := h397q.out.setAll u2
              have h404q : Hid (Bo (u399q.setCells u311q.heap.size 0 u2.all) u385q.heap.size [.int .i64 0, .int .i64 0]) := h398q.out.asideAll (by omega) u2
              clear h394q h395q h396q h397q h398q
              refine hK.out _ _ h401q.out (fun hH => ?_)
              clear hK K
              generalize (u399q.setCells u311q.heap.size 0 u2.all) = u405q at h400q h401q h402q h403q h404q hH ⊢
              try simp only [Act.put, List.setIfInBounds_toArray, List.set_cons_zero, List.set_cons_succ]
              refine wpAnyH_ready (rs := [12]) (by kernel_rfl) (by simp) ?_
              refine AllReadyH.cons (o := { dst := none, op := .store _ (.tmp 12) (.tmp 43), type := _, pos := _, after := _, guard := _ }) rfl (fun K hK => ?_) AllReadyH.nil
              rw [if_pos (by rfl)]
              refine wp_store_mid _ _ _ rfl u385q.heap.size _ #[.int .i64 (1), .int .i64 (0)] rfl rfl h404q.out.there2 HA.out (two_one _ _) ?_
              simp only [Act.put]
              have h406q : Hid (Gd n w (u405q.setCells u385q.heap.size 0 [.int .i64 (1), .int .i64 (0)])) := h400q.out.asideL (by omega) 0 [.int .i64 (1), .int .i64 (0)]
              have h407q : Hid (TAt (u405q.setCells u385q.heap.size 0 [.int .i64 (1), .int .i64 (0)]) u3q.heap.size u) := h401q.out.asideL (by omega) 0 [.int .i64 (1), .int .i64 (0)]
              have h408q : Hid (Bo (u405q.setCells u385q.heap.size 0 [.int .i64 (1), .int .i64 (0)]) b_a [.int .i64 (1), .int .i64 (0)]) := h402q.out.asideL (by omega) 0 [.int .i64 (1), .int .i64 (0)]
              have h409q : Hid (TAt (u405q.setCells u385q.heap.size 0 [.int .i64 (1), .int .i64 (0)]) u311q.heap.size u2) := h403q.out.asideL (by omega) 0 [.int .i64 (1), .int .i64 (0)]
              have h410q : Hid (Bo (u405q.setCells u385q.heap.size 0 [.int .i64 (1), .int .i64 (0)]) u385q.heap.size [.int .i64 (1), .int .i64 (0)]) := h404q.out.set2 (.int .i64 (1)) (.int .i64 (0))
              clear h400q h401q h402q h403q h404q
              refine hK.out _ _ h407q.out (fun hH => ?_)
              clear hK K
              generalize (u405q.setCells u385q.heap.size 0 [.int .i64 (1), .int .i64 (0)]) = u411q at h406q h407q h408q h409q h410q hH ⊢
              try simp only [Act.put, List.setIfInBounds_toArray, List.set_cons_zero, List.set_cons_succ]
              refine wpAnyH_done (by kernel_rfl) ?_ _
              go_wp2_with fail
              go_meet
              case rel => exact ⟨u311q.heap.size, u385q.heap.size, rfl, rfl, h406q, h407q, h408q, h409q, h410q⟩
            refine AllReadyH.cons (o := { dst := some 12, op := .alloc _, type := _, pos := _, after := _, guard := _ }) rfl (fun K hK => ?_) AllReadyH.nil
            have l412q : n ≤ u384q.heap.size := h380q.out.le
            have l413q : u3q.heap.size < u384q.heap.size := h381q.out.lt
            have l414q : b_a < u384q.heap.size := h382q.out.lt
            have l415q : u311q.heap.size < u384q.heap.size := h383q.out.lt
            go_simp
            have h416q : Hid (Gd n w (u384q.alloc (.cells #[.int .i64 0, .int .i64 0] 31))) := h380q.out.new (.cells #[.int .i64 0, .int .i64 0] 31)
            have h417q : Hid (TAt (u384q.alloc (.cells #[.int .i64 0, .int .i64 0] 31)) u3q.heap.size u) := h381q.out.new (.cells #[.int .i64 0, .int .i64 0] 31)
            have h418q : Hid (Bo (u384q.alloc (.cells #[.int .i64 0, .int .i64 0] 31)) b_a [.int .i64 (1), .int .i64 (0)]) := h382q.out.new (.cells #[.int .i64 0, .int .i64 0] 31)
            have h419q : Hid (TAt (u384q.alloc (.cells #[.int .i64 0, .int .i64 0] 31)) u311q.heap.size Tb.zero) := h383q.out.new (.cells #[.int .i64 0, .int .i64 0] 31)
            clear h380q h381q h382q h383q
            have h420q : Hid (Bo (u384q.alloc (.cells #[.int .i64 0, .int .i64 0] 31)) u384q.heap.size [.int .i64 0, .int .i64 0]) := Bo.born u384q [.int .i64 0, .int .i64 0] 31 (by simp)
            refine hK.out _ _ h417q.out (fun hH => ?_)
            clear hK K
            generalize (u384q.alloc (.cells #[.int .i64 0, .int .i64 0] 31)) = u421q at h416q h417q h418q h419q h420q hH ⊢
            try simp only [Act.put, List.setIfInBounds_toArray, List.set_cons_zero, List.set_cons_succ]
            refine wpAnyH_ready (rs := [5]) (by kernel_rfl) (by simp) ?_
            refine AllReadyH.cons (o := { dst := some 41, op := _, type := _, pos := _, after := _, guard := _ }) rfl (fun K hK => ?_) AllReadyH.nil
            go_simp
            refine (DO2 _).mono ?_
            rintro e u422q ⟨rfl, hb⟩
            have h423q : Hid (Gd n w u422q) := h416q.out.later hb
            have h424q : Hid (TAt u422q u3q.heap.size u) := h417q.out.later hb
            have h425q : Hid (Bo u422q b_a [.int .i64 (1), .int .i64 (0)]) := h418q.out.later hb
            have h426q : Hid (TAt u422q u311q.heap.size Tb.zero) := h419q.out.later hb
            have h427q : Hid (Bo u422q u384q.heap.size [.int .i64 0, .int .i64 0]) := h420q.out.later hb
            clear h416q h417q h418q h419q h420q
            clear hb
            go_wp2_with fail
            refine hK.out _ _ h424q.out (fun hH => ?_)
            clear hK K
            try simp only [Act.put, List.setIfInBounds_toArray, List.set_cons_zero, List.set_cons_succ]
            refine wpAnyH_take (i := 6) (oi := { dst := some 35, op := .move (.tmp 41), type := _, pos := _, after := _, guard := _ }) (v := ?_) rfl (by kernel_rfl) (by kernel_rfl) (by kernel_rfl) (fun _ _ _ h => h) (Or.inl ⟨by rfl, ?_⟩) hH ?_
            rotate_left
            · intro w hSw
              clear hSw
              go_simp
              try with_reducible rfl
            simp only [Act.put, List.setIfInBounds_toArray, List.set_cons_zero, List.set_cons_succ]
            refine wpAnyH_take (i := 7) (oi := { dst := some 42, op := .extract (.tmp 35) 0, type := _, pos := _, after := _, guard := _ }) (v := ?_) rfl (by kernel_rfl) (by kernel_rfl) (by kernel_rfl) (fun _ _ _ h => h) (Or.inl ⟨by rfl, ?_⟩) hH ?_
            rotate_left
            · intro w hSw
              clear hSw
              go_simp
              try with_reducible rfl
            simp only [Act.put, List.setIfInBounds_toArray, List.set_cons_zero, List.set_cons_succ]
            refine wpAnyH_take (i := 8) (oi := { dst := some 43, op := .extract (.tmp 35) 1, type := _, pos := _, after := _, guard := _ }) (v := ?_) rfl (by kernel_rfl) (by kernel_rfl) (by kernel_rfl) (fun _ _ _ h => h) (Or.inl ⟨by rfl, ?_⟩) hH ?_
            rotate_left
            · intro w hSw
              clear hSw
              go_simp
              try with_reducible rfl
            simp only [Act.put, List.setIfInBounds_toArray, List.set_cons_zero, List.set_cons_succ]
            refine wpAnyH_ready (rs := [11]) (by kernel_rfl) (by simp) ?_
            refine AllReadyH.cons (o := { dst := none, op := .store _ (.tmp 11) (.tmp 42), type := _, pos := _, after := _, guard := _ }) rfl (fun K hK => ?_) AllReadyH.nil
            rw [if_pos (by rfl)]
            refine wp_store_mid _ _ _ rfl u311q.heap.size _ u2.all.toArray rfl rfl (h426q.out.thereOf u2) (HZ.out u2) (u2.all_all) ?_
            simp only [Act.put]
            have h428q : Hid (Gd n w (u422q.setCells u311q.heap.size 0 u2.all)) := h423q.out.asideAll (by omega) u2
            have h429q : Hid (TAt (u422q.setCells u311q.heap.size 0 u2.all) u3q.heap.size u) := h424q.out.asideAll (by omega) u2
            have h430q : Hid (Bo (u422q.setCells u311q.heap.size 0 u2.all) b_a [.int .i64 (1), .int .i64 (0)]) := h425q.out.asideAll (by omega) u2
            have h431q : Hid (TAt (u422q.setCells u311q.heap.size 0 u2.all) u311q.heap.size u2) := h426q.out.setAll u2
            have h432q : Hid (Bo (u422q.setCells u311q.heap.size 0 u2.all) u384q.heap.size [.int .i64 0, .int .i64 0]) := h427q.out.asideAll (by omega) u2
            clear h423q h424q h425q h426q h427q
            refine hK.out _ _ h429q.out (fun hH => ?_)
            clear hK K
            generalize (u422q.setCells u311q.heap.size 0 u2.all) = u433q at h428q h429q h430q h431q h432q hH ⊢
            try simp only [Act.put, List.setIfInBounds_toArray, List.set_cons_zero, List.set_cons_succ]
            refine wpAnyH_ready (rs := [12]) (by kernel_rfl) (by simp) ?_
            refine AllReadyH.cons (o := { dst := none, op := .store _ (.tmp 12) (.tmp 43), type := _, pos := _, after := _, guard := _ }) rfl (fun K hK => ?_) AllReadyH.nil
            rw [if_pos (by rfl)]
            refine wp_store_mid _ _ _ rfl u384q.heap.size _ #[.int .i64 (1), .int .i64 (0)] rfl rfl h432q.out.there2 HA.out (two_one _ _) ?_
            simp only [Act.put]
            have h434q : Hid (Gd n w (u433q.setCells u384q.heap.size 0 [.int .i64 (1), .int .i64 (0)])) := h428q.out.asideL (by omega) 0 [.int .i64 (1), .int .i64 (0)]
            have h435q : Hid (TAt (u433q.setCells u384q.heap.size 0 [.int .i64 (1), .int .i64 (0)]) u3q.heap.size u) := h429q.out.asideL (by omega) 0 [.int .i64 (1), .int .i64 (0)]
            have h436q : Hid (Bo (u433q.setCells u384q.heap.size 0 [.int .i64 (1), .int .i64 (0)]) b_a [.int .i64 (1), .int .i64 (0)]) := h430q.out.asideL (by omega) 0 [.int .i64 (1), .int .i64 (0)]
            have h437q : Hid (TAt (u433q.setCells u384q.heap.size 0 [.int .i64 (1), .int .i64 (0)]) u311q.heap.size u2) := h431q.out.asideL (by omega) 0 [.int .i64 (1), .int .i64 (0)]
            have h438q : Hid (Bo (u433q.setCells u384q.heap.size 0 [.int .i64 (1), .int .i64 (0)]) u384q.heap.size [.int .i64 (1), .int .i64 (0)]) := h432q.out.set2 (.int .i64 (1)) (.int .i64 (0))
            clear h428q h429q h430q h431q h432q
            refine hK.out _ _ h435q.out (fun hH => ?_)
            clear hK K
            generalize (u433q.setCells u384q.heap.size 0 [.int .i64 (1), .int .i64 (0)]) = u439q at h434q h435q h436q h437q h438q hH ⊢
            try simp only [Act.put, List.setIfInBounds_toArray, List.set_cons_zero, List.set_cons_succ]
            refine wpAnyH_done (by kernel_rfl) ?_ _
            go_wp2_with fail
            go_meet
            case rel => exact ⟨u311q.heap.size, u384q.heap.size, rfl, rfl, h434q, h435q, h436q, h437q, h438q⟩
          refine AllReadyH.cons (o := { dst := some 12, op := .alloc _, type := _, pos := _, after := _, guard := _ }) rfl (fun K hK => ?_) AllReadyH.nil
          have l440q : n ≤ u311q.heap.size := h308q.out.le
          have l441q : u3q.heap.size < u311q.heap.size := h309q.out.lt
          have l442q : b_a < u311q.heap.size := h310q.out.lt
          go_simp
          have h443q : Hid (Gd n w (u311q.alloc (.cells #[.int .i64 0, .int .i64 0] 31))) := h308q.out.new (.cells #[.int .i64 0, .int .i64 0] 31)
          have h444q : Hid (TAt (u311q.alloc (.cells #[.int .i64 0, .int .i64 0] 31)) u3q.heap.size u) := h309q.out.new (.cells #[.int .i64 0, .int .i64 0] 31)
          have h445q : Hid (Bo (u311q.alloc (.cells #[.int .i64 0, .int .i64 0] 31)) b_a [.int .i64 (1), .int .i64 (0)]) := h310q.out.new (.cells #[.int .i64 0, .int .i64 0] 31)
          clear h308q h309q h310q
          have h446q : Hid (Bo (u311q.alloc (.cells #[.int .i64 0, .int .i64 0] 31)) u311q.heap.size [.int .i64 0, .int .i64 0]) := Bo.born u311q [.int .i64 0, .int .i64 0] 31 (by simp)
          refine hK.out _ _ h444q.out (fun hH => ?_)
          clear hK K
          generalize (u311q.alloc (.cells #[.int .i64 0, .int .i64 0] 31)) = u447q at h443q h444q h445q h446q hH ⊢
          try simp only [Act.put, List.setIfInBounds_toArray, List.set_cons_zero, List.set_cons_succ]
          refine wpAnyH_ready (rs := [5, 9]) (by kernel_rfl) (by simp) ?_
          refine AllReadyH.cons (o := { dst := some 41, op := _, type := _, pos := _, after := _, guard := _ }) rfl (fun K hK => ?_) ?_
          · go_simp
            refine (DO2 _).mono ?_
            rintro e u448q ⟨rfl, hb⟩
            have h449q : Hid (Gd n w u448q) := h443q.out.later hb
            have h450q : Hid (TAt u448q u3q.heap.size u) := h444q.out.later hb
            have h451q : Hid (Bo u448q b_a [.int .i64 (1), .int .i64 (0)]) := h445q.out.later hb
            have h452q : Hid (Bo u448q u311q.heap.size [.int .i64 0, .int .i64 0]) := h446q.out.later hb
            clear h443q h444q h445q h446q
            clear hb
            go_wp2_with fail
            refine hK.out _ _ h450q.out (fun hH => ?_)
            clear hK K
            try simp only [Act.put, List.setIfInBounds_toArray, List.set_cons_zero, List.set_cons_succ]
            refine wpAnyH_take (i := 6) (oi := { dst := some 35, op := .move (.tmp 41), type := _, pos := _, after := _, guard := _ }) (v := ?_) rfl (by kernel_rfl) (by kernel_rfl) (by kernel_rfl) (fun _ _ _ h => h) (Or.inl ⟨by rfl, ?_⟩) hH ?_
            rotate_left
            · intro w hSw
              clear hSw
              go_simp
              try with_reducible rfl
            simp only [Act.put, List.setIfInBounds_toArray, List.set_cons_zero, List.set_cons_succ]
            refine wpAnyH_take (i := 7) (oi := { dst := some 42, op := .extract (.tmp 35) 0, type := _, pos := _, after := _, guard := _ }) (v := ?_) rfl (by kernel_rfl) (by kernel_rfl) (by kernel_rfl) (fun _ _ _ h => h) (Or.inl ⟨by rfl, ?_⟩) hH ?_
            rotate_left
            · intro w hSw
              clear hSw
              go_simp
              try with_reducible rfl
            simp only [Act.put, List.setIfInBounds_toArray, List.set_cons_zero, List.set_cons_succ]
            refine wpAnyH_take (i := 8) (oi := { dst := some 43, op := .extract (.tmp 35) 1, type := _, pos := _, after := _, guard := _ }) (v := ?_) rfl (by kernel_rfl) (by kernel_rfl) (by kernel_rfl) (fun _ _ _ h => h) (Or.inl ⟨by rfl, ?_⟩) hH ?_
            rotate_left
            · intro w hSw
              clear hSw
              go_simp
              try with_reducible rfl
            simp only [Act.put, List.setIfInBounds_toArray, List.set_cons_zero, List.set_cons_succ]
            refine wpAnyH_ready (rs := [9]) (by kernel_rfl) (by simp) ?_
            refine AllReadyH.cons (o := { dst := some 11, op := .alloc _, type := _, pos := _, after := _, guard := _ }) rfl (fun K hK => ?_) AllReadyH.nil
            have l453q : n ≤ u448q.heap.size := h449q.out.le
            have l454q : u3q.heap.size < u448q.heap.size := h450q.out.lt
            have l455q : b_a < u448q.heap.size := h451q.out.lt
            have l456q : u311q.heap.size < u448q.heap.size := h452q.out.lt
            go_simp
            have h457q : Hid (Gd n w (u448q.alloc (.cells #[.int .i64 0, .int .i64 0, .int .i64 0, .int .i64 0, .int .i64 0, .int .i64 0, .int .i64 0, .int .i64 0, .int .i64 0, .int .i64 0, .int .i64 0, .int .i64 0, .int .i64 0, .int .i64 0, .int .i64 0, .int .i64 0] 27))) := h449q.out.new (.cells #[.int .i64 0, .int .i64 0, .int .i64 0, .int .i64 0, .int .i64 0, .int .i64 0, .int .i64 0, .int .i64 0, .int .i64 0, .int .i64 0, .int .i64 0, .int .i64 0, .int .i64 0, .int .i64 0, .int .i64 0, .int .i64 0] 27)
            have h458q : Hid (TAt (u448q.alloc (.cells #[.int .i64 0, .int .i64 0, .int .i64 0, .int .i64 0, .int .i64 0, .int .i64 0, .int .i64 0, .int .i64 0, .int .i64 0, .int .i64 0, .int .i64 0, .int .i64 0, .int .i64 0, .int .i64 0, .int .i64 0, .int .i64 0] 27)) u3q.heap.size u) := h450q.out.new (.cells #[.int .i64 0, .int .i64 0, .int .i64 0, .int .i64 0, .int .i64 0, .int .i64 0, .int .i64 0, .int .i64 0, .int .i64 0, .int .i64 0, .int .i64 0, .int .i64 0, .int .i64 0, .int .i64 0, .int .i64 0, .int .i64 0] 27)
            have h459q : Hid (Bo (u448q.alloc (.cells #[.int .i64 0, .int .i64 0, .int .i64 0, .int .i64 0, .int .i64 0, .int .i64 0, .int .i64 0, .int .i64 0, .int .i64 0, .int .i64 0, .int .i64 0, .int .i64 0, .int .i64 0, .int .i64 0, .int .i64 0, .int .i64 0] 27)) b_a [.int .i64 (1), .int .i64 (0)]) := h451q.out.new (.cells #[.int .i64 0, .int .i64 0, .int .i64 0, .int .i64 0, .int .i64 0, .int .i64 0, .int .i64 0, .int .i64 0, .int .i64 0, .int .i64 0, .int .i64 0, .int .i64 0, .int .i64 0, .int .i64 0, .int .i64 0, .int .i64 0] 27)
            have h460q : Hid (Bo (u448q.alloc (.cells #[.int .i64 0, .int .i64 0, .int .i64 0, .int .i64 0, .int .i64 0, .int .i64 0, .int .i64 0, .int .i64 0, .int .i64 0, .int .i64 0, .int .i64 0, .int .i64 0, .int .i64 0, .int .i64 0, .int .i64 0, .int .i64 0] 27)) u311q.heap.size [.int .i64 0, .int .i64 0]) := h452q.out.new (.cells #[.int .i64 0, .int .i64 0, .int .i64 0, .int .i64 0, .int .i64 0, .int .i64 0, .int .i64 0, .int .i64 0, .int .i64 0, .int .i64 0, .int .i64 0, .int .i64 0, .int .i64 0, .int .i64 0, .int .i64 0, .int .i64 0] 27)
            clear h449q h450q h451q h452q
            have h461q : Hid (TAt (u448q.alloc (.cells #[.int .i64 0, .int .i64 0, .int .i64 0, .int .i64 0, .int .i64 0, .int .i64 0, .int .i64 0, .int .i64 0, .int .i64 0, .int .i64 0, .int .i64 0, .int .i64 0, .int .i64 0, .int .i64 0, .int .i64 0, .int .i64 0] 27)) u448q.heap.size Tb.zero) := TAt.bornZero u448q 27 (by simp)
            refine hK.out _ _ h458q.out (fun hH => ?_)
            clear hK K
            generalize (u448q.alloc (.cells #[.int .i64 0, .int .i64 0, .int .i64 0, .int .i64 0, .int .i64 0, .int .i64 0, .int .i64 0, .int .i64 0, .int .i64 0, .int .i64 0, .int .i64 0, .int .i64 0, .int .i64 0, .int .i64 0, .int .i64 0, .int .i64 0] 27)) = u462q at h457q h458q h459q h460q h461q hH ⊢
            try simp only [Act.put, List.setIfInBounds_toArray, List.set_cons_zero, List.set_cons_succ]
            refine wpAnyH_ready (rs := [11]) (by kernel_rfl) (by simp) ?_
            refine AllReadyH.cons (o := { dst := none, op := .store _ (.tmp 11) (.tmp 42), type := _, pos := _, after := _, guard := _ }) rfl (fun K hK => ?_) AllReadyH.nil
            rw [if_pos (by rfl)]
            refine wp_store_mid _ _ _ rfl u448q.heap.size _ u2.all.toArray rfl rfl (h461q.out.thereOf u2) (HZ.out u2) (u2.all_all) ?_
            simp only [Act.put]
            have h463q : Hid (Gd n w (u462q.setCells u448q.heap.size 0 u2.all)) := h457q.out.asideAll (by omega) u2
            have h464q : Hid (TAt (u462q.setCells u448q.heap.size 0 u2.all) u3q.heap.size u) := h458q.out.asideAll (by omega) u2
            have h465q : Hid (Bo (u462q.setCells u448q.heap.size 0 u2.all) b_a [.int .i64 (1), .int .i64 (0)]) := h459q.out.asideAll (by omega) u2
            have h466q : Hid (Bo (u462q.setCells u448q.heap.size 0 u2.all) u311q.heap.size [.int .i64 0, .int .i64 0]) := h460q.out.asideAll (by omega) u2
            have h467q : Hid (TAt (u462q.setCells u448q.heap.size 0 u2.all) u448q.heap.size u2) := h461q.out.setAll u2
            clear h457q h458q h459q h460q h461q
            refine hK.out _ _ h464q.out (fun hH => ?_)
            clear hK K
            generalize (u462q.setCells u448q.heap.size 0 u2.all) = u468q at h463q h464q h465q h466q h467q hH ⊢
            try simp only [Act.put, List.setIfInBounds_toArray, List.set_cons_zero, List.set_cons_succ]
            refine wpAnyH_ready (rs := [12]) (by kernel_rfl) (by simp) ?_
            refine AllReadyH.cons (o := { dst := none, op := .store _ (.tmp 12) (.tmp 43), type := _, pos := _, after := _, guard := _ }) rfl (fun K hK => ?_) AllReadyH.nil
            rw [if_pos (by rfl)]
            refine wp_store_mid _ _ _ rfl u311q.heap.size _ #[.int .i64 (1), .int .i64 (0)] rfl rfl h466q.out.there2 HA.out (two_one _ _) ?_
            simp only [Act.put]
            have h469q : Hid (Gd n w (u468q.setCells u311q.heap.size 0 [.int .i64 (1), .int .i64 (0)])) := h463q.out.asideL (by omega) 0 [.int .i64 (1), .int .i64 (0)]
            have h470q : Hid (TAt (u468q.setCells u311q.heap.size 0 [.int .i64 (1), .int .i64 (0)]) u3q.heap.size u) := h464q.out.asideL (by omega) 0 [.int .i64 (1), .int .i64 (0)]
            have h471q : Hid (Bo (u468q.setCells u311q.heap.size 0 [.int .i64 (1), .int .i64 (0)]) b_a [.int .i64 (1), .int .i64 (0)]) := h465q.out.asideL (by omega) 0 [.int .i64 (1), .int .i64 (0)]
            have h472q : Hid (Bo (u468q.setCells u311q.heap.size 0 [.int .i64 (1), .int .i64 (0)]) u311q.heap.size [.int .i64 (1), .int .i64 (0)]) := h466q.out.set2 (.int .i64 (1)) (.int .i64 (0))
            have h473q : Hid (TAt (u468q.setCells u311q.heap.size 0 [.int .i64 (1), .int .i64 (0)]) u448q.heap.size u2) := h467q.out.asideL (by omega) 0 [.int .i64 (1), .int .i64 (0)]
            clear h463q h464q h465q h466q h467q
            refine hK.out _ _ h470q.out (fun hH => ?_)
            clear hK K
            generalize (u468q.setCells u311q.heap.size 0 [.int .i64 (1), .int .i64 (0)]) = u474q at h469q h470q h471q h472q h473q hH ⊢
            try simp only [Act.put, List.setIfInBounds_toArray, List.set_cons_zero, List.set_cons_succ]
            refine wpAnyH_done (by kernel_rfl) ?_ _
            go_wp2_with fail
            go_meet
            case rel => exact ⟨u448q.heap.size, u311q.heap.size, rfl, rfl, h469q, h470q, h471q, h473q, h472q⟩
          refine AllReadyH.cons (o := { dst := some 11, op := .alloc _, type := _, pos := _, after := _, guard := _ }) rfl (fun K hK => ?_) AllReadyH.nil
          have l475q : n ≤ u447q.heap.size := h443q.out.le
          have l476q : u3q.heap.size < u447q.heap.size := h444q.out.lt
          have l477q : b_a < u447q.heap.size := h445q.out.lt
          have l478q : u311q.heap.size < u447q.heap.size := h446q.out.lt
          go_simp
          have h479q : Hid (Gd n w (u447q.alloc (.cells #[.int .i64 0, .int .i64 0, .int .i64 0, .int .i64 0, .int .i64 0, .int .i64 0, .int .i64 0, .int .i64 0, .int .i64 0, .int .i64 0, .int .i64 0, .int .i64 0, .int .i64 0, .int .i64 0, .int .i64 0, .int .i64 0] 27))) := h443q.out.new (.cells #[.int .i64 0, .int .i64 0, .int .i64 0, .int .i64 0, .int .i64 0, .int .i64 0, .int .i64 0, .int .i64 0, .int .i64 0, .int .i64 0, .int .i64 0, .int .i64 0, .int .i64 0, .int .i64 0, .int .i64 0, .int .i64 0] 27)
          have h480q : Hid (TAt (u447q.alloc (.cells #[.int .i64 0, .int .i64 0, .int .i64 0, .int .i64 0, .int .i64 0, .int .i64 0, .int .i64 0, .int .i64 0, .int .i64 0, .int .i64 0, .int .i64 0, .int .i64 0, .int .i64 0, .int .i64 0, .int .i64 0, .int .i64 0] 27)) u3q.heap.size u) := h444q.out.new (.cells #[.int .i64 0, .int .i64 0, .int .i64 0, .int .i64 0, .int .i64 0, .int .i64 0, .int .i64 0, .int .i64 0, .int .i64 0, .int .i64 0, .int .i64 0, .int .i64 0, .int .i64 0, .int .i64 0, .int .i64 0, .int .i64 0] 27)
          have h481q : Hid (Bo (u447q.alloc (.cells #[.int .i64 0, .int .i64 0, .int .i64 0, .int .i64 0, .int .i64 0, .int .i64 0, .int .i64 0, .int .i64 0, .int .i64 0, .int .i64 0, .int .i64 0, .int .i64 0, .int .i64 0, .int .i64 0, .int .i64 0, .int .i64 0] 27)) b_a [.int .i64 (1), .int .i64 (0)]) := h445q.out.new (.cells #[.int .i64 0, .int .i64 0, .int .i64 0, .int .i64 0, .int .i64 0, .int .i64 0, .int .i64 0, .int .i64 0, .int .i64 0, .int .i64 0, .int .i64 0, .int .i64 0, .int .i64 0, .int .i64 0, .int .i64 0, .int .i64 0] 27)
          have h482q : Hid (Bo (u447q.alloc (.cells #[.int .i64 0, .int .i64 0, .int .i64 0, .int .i64 0, .int .i64 0, .int .i64 0, .int .i64 0, .int .i64 0, .int .i64 0, .int .i64 0, .int .i64 0, .int .i64 0, .int .i64 0, .int .i64 0, .int .i64 0, .int .i64 0] 27)) u311q.heap.size [.int .i64 0, .int .i64 0]) := h446q.out.new (.cells #[.int .i64 0, .int .i64 0, .int .i64 0, .int .i64 0, .int .i64 0, .int .i64 0, .int .i64 0, .int .i64 0, .int .i64 0, .int .i64 0, .int .i64 0, .int .i64 0, .int .i64 0, .int .i64 0, .int .i64 0, .int .i64 0] 27)
          clear h443q h444q h445q h446q
          have h483q : Hid (TAt (u447q.alloc (.cells #[.int .i64 0, .int .i64 0, .int .i64 0, .int .i64 0, .int .i64 0, .int .i64 0, .int .i64 0, .int .i64 0, .int .i64 0, .int .i64 0, .int .i64 0, .int .i64 0, .int .i64 0, .int .i64 0, .int .i64 0, .int .i64 0] 27)) u447q.heap.size Tb.zero) := TAt.bornZero u447q 27 (by simp)
          refine hK.out _ _ h480q.out (fun hH => ?_)
          clear hK K
          generalize (u447q.alloc (.cells #[.int .i64 0, .int .i64 0, .int .i64 0, .int .i64 0, .int .i64 0, .int .i64 0, .int .i64 0, .int .i64 0, .int .i64 0, .int .i64 0, .int .i64 0, .int .i64 0, .int .i64 0, .int .i64 0, .int .i64 0, .int .i64 0] 27)) = u484q at h479q h480q h481q h482q h483q hH ⊢
          try simp only [Act.put, List.setIfInBounds_toArray, List.set_cons_zero, List.set_cons_succ]
          refine wpAnyH_ready (rs := [5]) (by kernel_rfl) (by simp) ?_
          refine AllReadyH.cons (o := { dst := some 41, op := _, type := _, pos := _, after := _, guard := _ }) rfl (fun K hK => ?_) AllReadyH.nil
          go_simp
          refine (DO2 _).mono ?_
          rintro e u485q ⟨rfl, hb⟩
          have h486q : Hid (Gd n w u485q) := h479q.out.later hb
          have h487q : Hid (TAt u485q u3q.heap.size u) := h480q.out.later hb
          have h488q : Hid (Bo u485q b_a [.int .i64 (1), .int .i64 (0)]) := h481q.out.later hb
          have h489q : Hid (Bo u485q u311q.heap.size [.int .i64 0, .int .i64 0]) := h482q.out.later hb
          have h490q : Hid (TAt u485q u447q.heap.size Tb.zero) := h483q.out.later hb
          clear h479q h480q h481q h482q h483q
          clear hb
          go_wp2_with fail
          refine hK.out _ _ h487q.out (fun hH => ?_)
          clear hK K
          try simp only [Act.put, List.setIfInBounds_toArray, List.set_cons_zero, List.set_cons_succ]
          refine wpAnyH_take (i := 6) (oi := { dst := some 35, op := .move (.tmp 41), type := _, pos := _, after := _, guard := _ }) (v := ?_) rfl (by kernel_rfl) (by kernel_rfl) (by kernel_rfl) (fun _ _ _ h => h) (Or.inl ⟨by rfl, ?_⟩) hH ?_
          rotate_left
          · intro w hSw
            clear hSw
            go_simp
            try with_reducible rfl
          simp only [Act.put, List.setIfInBounds_toArray, List.set_cons_zero, List.set_cons_succ]
          refine wpAnyH_take (i := 7) (oi := { dst := some 42, op := .extract (.tmp 35) 0, type := _, pos := _, after := _, guard := _ }) (v := ?_) rfl (by kernel_rfl) (by kernel_rfl) (by kernel_rfl) (fun _ _ _ h => h) (Or.inl ⟨by rfl, ?_⟩) hH ?_
          rotate_left
          · intro w hSw
            clear hSw
            go_simp
            try with_reducible rfl
          simp only [Act.put, List.setIfInBounds_toArray, List.set_cons_zero, List.set_cons_succ]
          refine wpAnyH_take (i := 8) (oi := { dst := some 43, op := .extract (.tmp 35) 1, type := _, pos := _, after := _, guard := _ }) (v := ?_) rfl (by kernel_rfl) (by kernel_rfl) (by kernel_rfl) (fun _ _ _ h => h) (Or.inl ⟨by rfl, ?_⟩) hH ?_
          rotate_left
          · intro w hSw
            clear hSw
            go_simp
            try with_reducible rfl
          simp only [Act.put, List.setIfInBounds_toArray, List.set_cons_zero, List.set_cons_succ]
          refine wpAnyH_ready (rs := [11]) (by kernel_rfl) (by simp) ?_
          refine AllReadyH.cons (o := { dst := none, op := .store _ (.tmp 11) (.tmp 42), type := _, pos := _, after := _, guard := _ }) rfl (fun K hK => ?_) AllReadyH.nil
          rw [if_pos (by rfl)]
          refine wp_store_mid _ _ _ rfl u447q.heap.size _ u2.all.toArray rfl rfl (h490q.out.thereOf u2) (HZ.out u2) (u2.all_all) ?_
          simp only [Act.put]
          have h491q : Hid (Gd n w (u485q.setCells u447q.heap.size 0 u2.all)) := h486q.out.asideAll (by omega) u2
          have h492q : Hid (TAt (u485q.setCells u447q.heap.size 0 u2.all) u3q.heap.size u) := h487q.out.asideAll (by omega) u2
          have h493q : Hid (Bo (u485q.setCells u447q.heap.size 0 u2.all) b_a [.int .i64 (1), .int .i64 (0)]) := h488q.out.asideAll (by omega) u2
          have h494q : Hid (Bo (u485q.setCells u447q.heap.size 0 u2.all) u311q.heap.size [.int .i64 0, .int .i64 0]) := h489q.out.asideAll (by omega) u2
          have h495q : Hid (TAt (u485q.setCells u447q.heap.size 0 u2.all) u447q.heap.size u2) := h490q.out.setAll u2
          clear h486q h487q h488q h489q h490q
          refine hK.out _ _ h492q.out (fun hH => ?_)
          clear hK K
          generalize (u485q.setCells u447q.heap.size 0 u2.all) = u496q at h491q h492q h493q h494q h495q hH ⊢
          try simp only [Act.put, List.setIfInBounds_toArray, List.set_cons_zero, List.set_cons_succ]
          refine wpAnyH_ready (rs := [12]) (by kernel_rfl) (by simp) ?_
          refine AllReadyH.cons (o := { dst := none, op := .store _ (.tmp 12) (.tmp 43), type := _, pos := _, after := _, guard := _ }) rfl (fun K hK => ?_) AllReadyH.nil
          rw [if_pos (by rfl)]
          refine wp_store_mid _ _ _ rfl u311q.heap.size _ #[.int .i64 (1), .int .i64 (0)] rfl rfl h494q.out.there2 HA.out (two_one _ _) ?_
          simp only [Act.put]
          have h497q : Hid (Gd n w (u496q.setCells u311q.heap.size 0 [.int .i64 (1), .int .i64 (0)])) := h491q.out.asideL (by omega) 0 [.int .i64 (1), .int .i64 (0)]
          have h498q : Hid (TAt (u496q.setCells u311q.heap.size 0 [.int .i64 (1), .int .i64 (0)]) u3q.heap.size u) := h492q.out.asideL (by omega) 0 [.int .i64 (1), .int .i64 (0)]
          have h499q : Hid (Bo (u496q.setCells u311q.heap.size 0 [.int .i64 (1), .int .i64 (0)]) b_a [.int .i64 (1), .int .i64 (0)]) := h493q.out.asideL (by omega) 0 [.int .i64 (1), .int .i64 (0)]
          have h500q : Hid (Bo (u496q.setCells u311q.heap.size 0 [.int .i64 (1), .int .i64 (0)]) u311q.heap.size [.int .i64 (1), .int .i64 (0)]) := h494q.out.set2 (.int .i64 (1)) (.int .i64 (0))
          have h501q : Hid (TAt (u496q.setCells u311q.heap.size 0 [.int .i64 (1), .int .i64 (0)]) u447q.heap.size u2) := h495q.out.asideL (by omega) 0 [.int .i64 (1), .int .i64 (0)]
          clear h491q h492q h493q h494q h495q
          refine hK.out _ _ h498q.out (fun hH => ?_)
          clear hK K
          generalize (u496q.setCells u311q.heap.size 0 [.int .i64 (1), .int .i64 (0)]) = u502q at h497q h498q h499q h500q h501q hH ⊢
          try simp only [Act.put, List.setIfInBounds_toArray, List.set_cons_zero, List.set_cons_succ]
          refine wpAnyH_done (by kernel_rfl) ?_ _
          go_wp2_with fail
          go_meet
          case rel => exact ⟨u447q.heap.size, u311q.heap.size, rfl, rfl, h497q, h498q, h499q, h501q, h500q⟩
        refine AllReadyH.cons (o := { dst := some 11, op := .alloc _, type := _, pos := _, after := _, guard := _ }) rfl (fun K hK => ?_) ?_
        · have l503q : n ≤ u311q.heap.size := h308q.out.le
          have l504q : u3q.heap.size < u311q.heap.size := h309q.out.lt
          have l505q : b_a < u311q.heap.size := h310q.out.lt
          go_simp
          have h506q : Hid (Gd n w (u311q.alloc (.cells #[.int .i64 0, .int .i64 0, .int .i64 0, .int .i64 0, .int .i64 0, .int .i64 0, .int .i64 0, .int .i64 0, .int .i64 0, .int .i64 0, .int .i64 0, .int .i64 0, .int .i64 0, .int .i64 0, .int .i64 0, .int .i64 0] 27))) := h308q.out.new (.cells #[.int .i64 0, .int .i64 0, .int .i64 0, .int .i64 0, .int .i64 0, .int .i64 0, .int .i64 0, .int .i64 0, .int .i64 0, .int .i64 0, .int .i64 0, .int .i64 0, .int .i64 0, .int .i64 0, .int .i64 0, .int .i64 0] 27)
          have h507q : Hid (TAt (u311q.alloc (.cells #[.int .i64 0, .int .i64 0, .int .i64 0, .int .i64 0, .int .i64 0, .int .i64 0, .int .i64 0, .int .i64 0, .int .i64 0, .int .i64 0, .int .i64 0, .int .i64 0, .int .i64 0, .int .i64 0, .int .i64 0, .int .i64 0] 27)) u3q.heap.size u) := h309q.out.new (.cells #[.int .i64 0, .int .i64 0, .int .i64 0, .int .i64 0, .int .i64 0, .int .i64 0, .int .i64 0, .int .i64 0, .int .i64 0, .int .i64 0, .int .i64 0, .int .i64 0, .int .i64 0, .int .i64 0, .int .i64 0, .int .i64 0] 27)
          have h508q : Hid (Bo (u311q.alloc (.cells #[.int .i64 0, .int .i64 0, .int .i64 0, .int .i64 0, .int .i64 0, .int .i64 0, .int .i64 0, .int .i64 0, .int .i64 0, .int .i64 0, .int .i64 0, .int .i64 0, .int .i64 0, .int .i64 0, .int .i64 0, .int .i64 0] 27)) b_a [.int .i64 (1), .int .i64 (0)]) := h310q.out.new (.cells #[.int .i64 0, .int .i64 0, .int .i64 0, .int .i64 0, .int .i64 0, .int .i64 0, .int .i64 0, .int .i64 0, .int .i64 0, .int .i64 0, .int .i64 0, .int .i64 0, .int .i64 0, .int .i64 0, .int .i64 0, .int .i64 0] 27)
          clear h308q h309q h310q
          have h509q : Hid (TAt (u311q.alloc (.cells #[.int .i64 0, .int .i64 0, .int .i64 0, .int .i64 0, .int .i64 0, .int .i64 0, .int .i64 0, .int .i64 0, .int .i64 0, .int .i64 0, .int .i64 0, .int .i64 0, .int .i64 0, .int .i64 0, .int .i64 0, .int .i64 0] 27)) u311q.heap.size Tb.zero) := TAt.bornZero u311q 27 (by simp)
          refine hK.out _ _ h507q.out (fun hH => ?_)
          clear hK K
          generalize (u311q.alloc (.cells #[.int .i64 0, .int .i64 0, .int .i64 0, .int .i64 0, .int .i64 0, .int .i64 0, .int .i64 0, .int .i64 0, .int .i64 0, .int .i64 0, .int .i64 0, .int .i64 0, .int .i64 0, .int .i64 0, .int .i64 0, .int .i64 0] 27)) = u510q at h506q h507q h508q h509q hH ⊢
          try simp only [Act.put, List.setIfInBounds_toArray, List.set_cons_zero, List.set_cons_succ]
          refine wpAnyH_ready (rs := [3, 10]) (by kernel_rfl) (by simp) ?_
          refine AllReadyH.cons (o := { dst := some 39, op := _, type := _, pos := _, after := _, guard := _ }) rfl (fun K hK => ?_) ?_
          · go_simp
            refine (Pr3.out _).mono ?_
            rintro e u511q ⟨rfl, hw⟩
            rw [hw]; clear hw u511q
            go_wp2_with fail
            refine hK.out _ _ h507q.out (fun hH => ?_)
            clear hK K
            try simp only [Act.put, List.setIfInBounds_toArray, List.set_cons_zero, List.set_cons_succ]
            refine wpAnyH_take (i := 4) (oi := { dst := some 40, op := .build _ #[(0, .const (.int .i64 1)), (1, .tmp 37), (2, .tmp 39)], type := _, pos := _, after := _, guard := _ }) (v := ?_) rfl (by kernel_rfl) (by kernel_rfl) (by kernel_rfl) (fun _ _ _ h => h) (Or.inl ⟨by rfl, ?_⟩) hH ?_
            rotate_left
            · intro w hSw
              clear hSw
              go_simp
              try with_reducible rfl
            simp only [Act.put, List.setIfInBounds_toArray, List.set_cons_zero, List.set_cons_succ]
            refine wpAnyH_ready (rs := [5, 10]) (by kernel_rfl) (by simp) ?_
            refine AllReadyH.cons (o := { dst := some 41, op := _, type := _, pos := _, after := _, guard := _ }) rfl (fun K hK => ?_) ?_
            · go_simp
              refine (DO2 _).mono ?_
              rintro e u512q ⟨rfl, hb⟩
              have h513q : Hid (Gd n w u512q) := h506q.out.later hb
              have h514q : Hid (TAt u512q u3q.heap.size u) := h507q.out.later hb
              have h515q : Hid (Bo u512q b_a [.int .i64 (1), .int .i64 (0)]) := h508q.out.later hb
              have h516q : Hid (TAt u512q u311q.heap.size Tb.zero) := h509q.out.later hb
              clear h506q h507q h508q h509q
              clear hb
              go_wp2_with fail
              refine hK.out _ _ h514q.out (fun hH => ?_)
              clear hK K
              try simp only [Act.put, List.setIfInBounds_toArray, List.set_cons_zero, List.set_cons_succ]
              refine wpAnyH_take (i := 6) (oi := { dst := some 35, op := .move (.tmp 41), type := _, pos := _, after := _, guard := _ }) (v := ?_) rfl (by kernel_rfl) (by kernel_rfl) (by kernel_rfl) (fun _ _ _ h => h) (Or.inl ⟨by rfl, ?_⟩) hH ?_
              rotate_left
              · intro w hSw
                clear hSw
                go_simp
                try with_reducible rfl
              simp only [Act.put, List.setIfInBounds_toArray, List.set_cons_zero, List.set_cons_succ]
              refine wpAnyH_take (i := 7) (oi := { dst := some 42, op := .extract (.tmp 35) 0, type := _, pos := _, after := _, guard := _ }) (v := ?_) rfl (by kernel_rfl) (by kernel_rfl) (by kernel_rfl) (fun _ _ _ h => h) (Or.inl ⟨by rfl, ?_⟩) hH ?_
              rotate_left
              · intro w hSw
                clear hSw
                go_simp
                try with_reducible rfl
              simp only [Act.put, List.setIfInBounds_toArray, List.set_cons_zero, List.set_cons_succ]
              refine wpAnyH_take (i := 8) (oi := { dst := some 43, op := .extract (.tmp 35) 1, type := _, pos := _, after := _, guard := _ }) (v := ?_) rfl (by kernel_rfl) (by kernel_rfl) (by kernel_rfl) (fun _ _ _ h => h) (Or.inl ⟨by rfl, ?_⟩) hH ?_
              rotate_left
              · intro w hSw
                clear hSw
                go_simp
                try with_reducible rfl
              simp only [Act.put, List.setIfInBounds_toArray, List.set_cons_zero, List.set_cons_succ]
              refine wpAnyH_ready (rs := [10]) (by kernel_rfl) (by simp) ?_
              refine AllReadyH.cons (o := { dst := some 12, op := .alloc _, type := _, pos := _, after := _, guard := _ }) rfl (fun K hK => ?_) AllReadyH.nil
              have l517q : n ≤ u512q.heap.size := h513q.out.le
              have l518q : u3q.heap.size < u512q.heap.size := h514q.out.lt
              have l519q : b_a < u512q.heap.size := h515q.out.lt
              have l520q : u311q.heap.size < u512q.heap.size := h516q.out.lt
              go_simp
              have h521q : Hid (Gd n w (u512q.alloc (.cells #[.int .i64 0, .int .i64 0] 31))) := h513q.out.new (.cells #[.int .i64 0, .int .i64 0] 31)
              have h522q : Hid (TAt (u512q.alloc (.cells #[.int .i64 0, .int .i64 0] 31)) u3q.heap.size u) := h514q.out.new (.cells #[.int .i64 0, .int .i64 0] 31)
              have h523q : Hid (Bo (u512q.alloc (.cells #[.int .i64 0, .int .i64 0] 31)) b_a [.int .i64 (1), .int .i64 (0)]) := h515q.out.new (.cells #[.int .i64 0, .int .i64 0] 31)
              have h524q : Hid (TAt (u512q.alloc (.cells #[.int .i64 0, .int .i64 0] 31)) u311q.heap.size Tb.zero) := h516q.out.new (.cells #[.int .i64 0, .int .i64 0] 31)
              clear h513q h514q h515q h516q
              have h525q : Hid (Bo (u512q.alloc (.cells #[.int .i64 0, .int .i64 0] 31)) u512q.heap.size [.int .i64 0, .int .i64 0]) := Bo.born u512q [.int .i64 0, .int .i64 0] 31 (by simp)
              refine hK.out _ _ h522q.out (fun hH => ?_)
              clear hK K
              generalize (u512q.alloc (.cells #[.int .i64 0, .int .i64 0] 31)) = u526q at h521q h522q h523q h524q h525q hH ⊢
              try simp only [Act.put, List.setIfInBounds_toArray, List.set_cons_zero, List.set_cons_succ]
              refine wpAnyH_ready (rs := [11]) (by kernel_rfl) (by simp) ?_
              refine AllReadyH.cons (o := { dst := none, op := .store _ (.tmp 11) (.tmp 42), type := _, pos := _, after := _, guard := _ }) rfl (fun K hK => ?_) AllReadyH.nil
              rw [if_pos (by rfl)]
              refine wp_store_mid _ _ _ rfl u311q.heap.size _ u2.all.toArray rfl rfl (h524q.out.thereOf u2) (HZ.out u2) (u2.all_all) ?_
              simp only [Act.put]
              have h527q : Hid (Gd n w (u526q.setCells u311q.heap.size 0 u2.all)) := h521q.out.asideAll (by omega) u2
              have h528q : Hid (TAt (u526q.setCells u311q.heap.size 0 u2.all) u3q.heap.size u) := h522q.out.asideAll (by omega) u2
              have h529q : Hid (Bo (u526q.setCells u311q.heap.size 0 u2.all) b_a [.int .i64 (1), .int .i64 (0)]) := h523q.out.asideAll (by omega) u2
              have h530q : Hid (TAt (u526q.setCells u311q.heap.size 0 u2.all) u311q.heap.size u2) := h524q.out.setAll u2
              have h531q : Hid (Bo (u526q.setCells u311q.heap.size 0 u2.all) u512q.heap.size [.int .i64 0, .int .i64 0]) := h525q.out.asideAll (by omega) u2
              clear h521q h522q h523q h524q h525q
              refine hK.out _ _ h528q.out (fun hH => ?_)
              clear hK K
              generalize (u526q.setCells u311q.heap.size 0 u2.all) = u532q at h527q h528q h529q h530q h531q hH ⊢
              try simp only [Act.put, List.setIfInBounds_toArray, List.set_cons_zero, List.set_cons_succ]
              refine wpAnyH_ready (rs := [12]) (by kernel_rfl) (by simp) ?_
              refine AllReadyH.cons (o := { dst := none, op := .store _ (.tmp 12) (.tmp 43), type := _, pos := _, after := _, guard := _ }) rfl (fun K hK => ?_) AllReadyH.nil
              rw [if_pos (by rfl)]
              refine wp_store_mid _ _ _ rfl u512q.heap.size _ #[.int .i64 (1), .int .i64 (0)] rfl rfl h531q.out.there2 HA.out (two_one _ _) ?_
              simp only [Act.put]
              have h533q : Hid (Gd n w (u532q.setCells u512q.heap.size 0 [.int .i64 (1), .int .i64 (0)])) := h527q.out.asideL (by omega) 0 [.int .i64 (1), .int .i64 (0)]
              have h534q : Hid (TAt (u532q.setCells u512q.heap.size 0 [.int .i64 (1), .int .i64 (0)]) u3q.heap.size u) := h528q.out.asideL (by omega) 0 [.int .i64 (1), .int .i64 (0)]
              have h535q : Hid (Bo (u532q.setCells u512q.heap.size 0 [.int .i64 (1), .int .i64 (0)]) b_a [.int .i64 (1), .int .i64 (0)]) := h529q.out.asideL (by omega) 0 [.int .i64 (1), .int .i64 (0)]
              have h536q : Hid (TAt (u532q.setCells u512q.heap.size 0 [.int .i64 (1), .int .i64 (0)]) u311q.heap.size u2) := h530q.out.asideL (by omega) 0 [.int .i64 (1), .int .i64 (0)]
              have h537q : Hid (Bo (u532q.setCells u512q.heap.size 0 [.int .i64 (1), .int .i64 (0)]) u512q.heap.size [.int .i64 (1), .int .i64 (0)]) := h531q.out.set2 (.int .i64 (1)) (.int .i64 (0))
              clear h527q h528q h529q h530q h531q
              refine hK.out _ _ h534q.out (fun hH => ?_)
              clear hK K
              generalize (u532q.setCells u512q.heap.size 0 [.int .i64 (1), .int .i64 (0)]) = u538q at h533q h534q h535q h536q h537q hH ⊢
              try simp only [Act.put, List.setIfInBounds_toArray, List.set_cons_zero, List.set_cons_succ]
              refine wpAnyH_done (by kernel_rfl) ?_ _
              go_wp2_with fail
              go_meet
              case rel => exact ⟨u311q.heap.size, u512q.heap.size, rfl, rfl, h533q, h534q, h535q, h536q, h537q⟩
            refine AllReadyH.cons (o := { dst := some 12, op := .alloc _, type := _, pos := _, after := _, guard := _ }) rfl (fun K hK => ?_) AllReadyH.nil
            have l539q : n ≤ u510q.heap.size := h506q.out.le
            have l540q : u3q.heap.size < u510q.heap.size := h507q.out.lt
            have l541q : b_a < u510q.heap.size := h508q.out.lt
            have l542q : u311q.heap.size < u510q.heap.size := h509q.out.lt
            go_simp
            have h543q : Hid (Gd n w (u510q.alloc (.cells #[.int .i64 0, .int .i64 0] 31))) := h506q.out.new (.cells #[.int .i64 0, .int .i64 0] 31)
            have h544q : Hid (TAt (u510q.alloc (.cells #[.int .i64 0, .int .i64 0] 31)) u3q.heap.size u) := h507q.out.new (.cells #[.int .i64 0, .int .i64 0] 31)
            have h545q : Hid (Bo (u510q.alloc (.cells #[.int .i64 0, .int .i64 0] 31)) b_a [.int .i64 (1), .int .i64 (0)]) := h508q.out.new (.cells #[.int .i64 0, .int .i64 0] 31)
            have h546q : Hid (TAt (u510q.alloc (.cells #[.int .i64 0, .int .i64 0] 31)) u311q.heap.size Tb.zero) := h509q.out.new (.cells #[.int .i64 0, .int .i64 0] 31)
            clear h506q h507q h508q h509q
            have h547q : Hid (Bo (u510q.alloc (.cells #[.int .i64 0, .int .i64 0] 31)) u510q.heap.size [.int .i64 0, .int .i64 0]) := Bo.born u510q [.int .i64 0, .int .i64 0] 31 (by simp)
            refine hK.out _ _ h544q.out (fun hH => ?_)
            clear hK K
            generalize (u510q.alloc (.cells #[.int .i64 0, .int .i64 0] 31)) = u548q at h543q h544q h545q h546q h547q hH ⊢
            try simp only [Act.put, List.setIfInBounds_toArray, List.set_cons_zero, List.set_cons_succ]
            refine wpAnyH_ready (rs := [5]) (by kernel_rfl) (by simp) ?_
            refine AllReadyH.cons (o := { dst := some 41, op := _, type := _, pos := _, after := _, guard := _ }) rfl (fun K hK => ?_) AllReadyH.nil
            go_simp
            refine (DO2 _).mono ?_
            rintro e u549q ⟨rfl, hb⟩
            have h550q : Hid (Gd n w u549q) := h543q.out.later hb
            have h551q : Hid (TAt u549q u3q.heap.size u) := h544q.out.later hb
            have h552q : Hid (Bo u549q b_a [.int .i64 (1), .int .i64 (0)]) := h545q.out.later hb
            have h553q : Hid (TAt u549q u311q.heap.size Tb.zero) := h546q.out.later hb
            have h554q : Hid (Bo u549q u510q.heap.size [.int .i64 0, .int .i64 0]) := h547q.out.later hb
            clear h543q h544q h545q h546q h547q
            clear hb
            go_wp2_with fail
            refine hK.out _ _ h551q.out (fun hH => ?_)
            clear hK K
            try simp only [Act.put, List.setIfInBounds_toArray, List.set_cons_zero, List.set_cons_succ]
            refine wpAnyH_take (i := 6) (oi := { dst := some 35, op := .move (.tmp 41), type := _, pos := _, after := _, guard := _ }) (v := ?_) rfl (by kernel_rfl) (by kernel_rfl) (by kernel_rfl) (fun _ _ _ h => h) (Or.inl ⟨by rfl, ?_⟩) hH ?_
            rotate_left
            · intro w hSw
              clear hSw
              go_simp
              try with_reducible rfl
            simp only [Act.put, List.setIfInBounds_toArray, List.set_cons_zero, List.set_cons_succ]
            refine wpAnyH_take (i := 7) (oi := { dst := some 42, op := .extract (.tmp 35) 0, type := _, pos := _, after := _, guard := _ }) (v := ?_) rfl (by kernel_rfl) (by kernel_rfl) (by kernel_rfl) (fun _ _ _ h => h) (Or.inl ⟨by rfl, ?_⟩) hH ?_
            rotate_left
            · intro w hSw
              clear hSw
              go_simp
              try with_reducible rfl
            simp only [Act.put, List.setIfInBounds_toArray, List.set_cons_zero, List.set_cons_succ]
            refine wpAnyH_take (i := 8) (oi := { dst := some 43, op := .extract (.tmp 35) 1, type := _, pos := _, after := _, guard := _ }) (v := ?_) rfl (by kernel_rfl) (by kernel_rfl) (by kernel_rfl) (fun _ _ _ h => h) (Or.inl ⟨by rfl, ?_⟩) hH ?_
            rotate_left
            · intro w hSw
              clear hSw
              go_simp
              try with_reducible rfl
            simp only [Act.put, List.setIfInBounds_toArray, List.set_cons_zero, List.set_cons_succ]
            refine wpAnyH_ready (rs := [11]) (by kernel_rfl) (by simp) ?_
            refine AllReadyH.cons (o := { dst := none, op := .store _ (.tmp 11) (.tmp 42), type := _, pos := _, after := _, guard := _ }) rfl (fun K hK => ?_) AllReadyH.nil
            rw [if_pos (by rfl)]
            refine wp_store_mid _ _ _ rfl u311q.heap.size _ u2.all.toArray rfl rfl (h553q.out.thereOf u2) (HZ.out u2) (u2.all_all) ?_
            simp only [Act.put]
            have h555q : Hid (Gd n w (u549q.setCells u311q.heap.size 0 u2.all)) := h550q.out.asideAll (by omega) u2
            have h556q : Hid (TAt (u549q.setCells u311q.heap.size 0 u2.all) u3q.heap.size u) := h551q.out.asideAll (by omega) u2
            have h557q : Hid (Bo (u549q.setCells u311q.heap.size 0 u2.all) b_a [.int .i64 (1), .int .i64 (0)]) := h552q.out.asideAll (by omega) u2
            have h558q : Hid (TAt (u549q.setCells u311q.heap.size 0 u2.all) u311q.heap.size u2) := h553q.out.setAll u2
            have h559q : Hid (Bo (u549q.setCells u311q.heap.size 0 u2.all) u510q.heap.size [.int .i64 0, .int .i64 0]) := h554q.out.asideAll (by omega) u2
            clear h550q h551q h552q h553q h554q
            refine hK.out _ _ h556q.out (fun hH => ?_)
            clear hK K
            generalize (u549q.setCells u311q.heap.size 0 u2.all) = u560q at h555q h556q h557q h558q h559q hH ⊢
            try simp only [Act.put, List.setIfInBounds_toArray, List.set_cons_zero, List.set_cons_succ]
            refine wpAnyH_ready (rs := [12]) (by kernel_rfl) (by simp) ?_
            refine AllReadyH.cons (o := { dst := none, op := .store _ (.tmp 12) (.tmp 43), type := _, pos := _, after := _, guard := _ }) rfl (fun K hK => ?_) AllReadyH.nil
            rw [if_pos (by rfl)]
            refine wp_store_mid _ _ _ rfl u510q.heap.size _ #[.int .i64 (1), .int .i64 (0)] rfl rfl h559q.out.there2 HA.out (two_one _ _) ?_
            simp only [Act.put]
            have h561q : Hid (Gd n w (u560q.setCells u510q.heap.size 0 [.int .i64 (1), .int .i64 (0)])) := h555q.out.asideL (by omega) 0 [.int .i64 (1), .int .i64 (0)]
            have h562q : Hid (TAt (u560q.setCells u510q.heap.size 0 [.int .i64 (1), .int .i64 (0)]) u3q.heap.size u) := h556q.out.asideL (by omega) 0 [.int .i64 (1), .int .i64 (0)]
            have h563q : Hid (Bo (u560q.setCells u510q.heap.size 0 [.int .i64 (1), .int .i64 (0)]) b_a [.int .i64 (1), .int .i64 (0)]) := h557q.out.asideL (by omega) 0 [.int .i64 (1), .int .i64 (0)]
            have h564q : Hid (TAt (u560q.setCells u510q.heap.size 0 [.int .i64 (1), .int .i64 (0)]) u311q.heap.size u2) := h558q.out.asideL (by omega) 0 [.int .i64 (1), .int .i64 (0)]
            have h565q : Hid (Bo (u560q.setCells u510q.heap.size 0 [.int .i64 (1), .int .i64 (0)]) u510q.heap.size [.int .i64 (1), .int .i64 (0)]) := h559q.out.set2 (.int .i64 (1)) (.int .i64 (0))
            clear h555q h556q h557q h558q h559q
            refine hK.out _ _ h562q.out (fun hH => ?_)
            clear hK K
            generalize (u560q.setCells u510q.heap.size 0 [.int .i64 (1), .int .i64 (0)]) = u566q at h561q h562q h563q h564q h565q hH ⊢
            try simp only [Act.put, List.setIfInBounds_toArray, List.set_cons_zero, List.set_cons_succ]
            refine wpAnyH_done (by kernel_rfl) ?_ _
            go_wp2_with fail
            go_meet
            case rel => exact ⟨u311q.heap.size, u510q.heap.size, rfl, rfl, h561q, h562q, h563q, h564q, h565q⟩
          refine AllReadyH.cons (o := { dst := some 12, op := .alloc _, type := _, pos := _, after := _, guard := _ }) rfl (fun K hK => ?_) AllReadyH.nil
          have l567q : n ≤ u510q.heap.size := h506q.out.le
          have l568q : u3q.heap.size < u510q.heap.size := h507q.out.lt
          have l569q : b_a < u510q.heap.size := h508q.out.lt
          have l570q : u311q.heap.size < u510q.heap.size := h509q.out.lt
          go_simp
          have h571q : Hid (Gd n w (u510q.alloc (.cells #[.int .i64 0, .int .i64 0] 31))) := h506q.out.new (.cells #[.int .i64 0, .int .i64 0] 31)
          have h572q : Hid (TAt (u510q.alloc (.cells #[.int .i64 0, .int .i64 0] 31)) u3q.heap.size u) := h507q.out.new (.cells #[.int .i64 0, .int .i64 0] 31)
          have h573q : Hid (Bo (u510q.alloc (.cells #[.int .i64 0, .int .i64 0] 31)) b_a [.int .i64 (1), .int .i64 (0)]) := h508q.out.new (.cells #[.int .i64 0, .int .i64 0] 31)
          have h574q : Hid (TAt (u510q.alloc (.cells #[.int .i64 0, .int .i64 0] 31)) u311q.heap.size Tb.zero) := h509q.out.new (.cells #[.int .i64 0, .int .i64 0] 31)
          clear h506q h507q h508q h509q
          have h575q : Hid (Bo (u510q.alloc (.cells #[.int .i64 0, .int .i64 0] 31)) u510q.heap.size [.int .i64 0, .int .i64 0]) := Bo.born u510q [.int .i64 0, .int .i64 0] 31 (by simp)
          refine hK.out _ _ h572q.out (fun hH => ?_)
          clear hK K
          generalize (u510q.alloc (.cells #[.int .i64 0, .int .i64 0] 31)) = u576q at h571q h572q h573q h574q h575q hH ⊢
          try simp only [Act.put, List.setIfInBounds_toArray, List.set_cons_zero, List.set_cons_succ]
          refine wpAnyH_ready (rs := [3]) (by kernel_rfl) (by simp) ?_
          refine AllReadyH.cons (o := { dst := some 39, op := _, type := _, pos := _, after := _, guard := _ }) rfl (fun K hK => ?_) AllReadyH.nil
          go_simp
          refine (Pr3.out _).mono ?_
          rintro e u577q ⟨rfl, hw⟩
          rw [hw]; clear hw u577q
          go_wp2_with fail
          refine hK.out _ _ h572q.out (fun hH => ?_)
          clear hK K
          try simp only [Act.put, List.setIfInBounds_toArray, List.set_cons_zero, List.set_cons_succ]
          refine wpAnyH_take (i := 4) (oi := { dst := some 40, op := .build _ #[(0, .const (.int .i64 1)), (1, .tmp 37), (2, .tmp 39)], type := _, pos := _, after := _, guard := _ }) (v := ?_) rfl (by kernel_rfl) (by kernel_rfl) (by kernel_rfl) (fun _ _ _ h => h) (Or.inl ⟨by rfl, ?_⟩) hH ?_
          rotate_left
          · intro w hSw
            clear hSw
            go_simp
            try with_reducible rfl
          simp only [Act.put, List.setIfInBounds_toArray, List.set_cons_zero, List.set_cons_succ]
          refine wpAnyH_ready (rs := [5]) (by kernel_rfl) (by simp) ?_
          refine AllReadyH.cons (o := { dst := some 41, op := _, type := _, pos := _, after := _, guard := _ }) rfl (fun K hK => ?_) AllReadyH.nil
          go_simp
          refine (DO2 _).mono ?_
          rintro e u578q ⟨rfl, hb⟩
          have h579q : Hid (Gd n w u578q) := h571q.out.later hb
          have h580q : Hid (TAt u578q u3q.heap.size u) := h572q.out.later hb
          have h581q : Hid (Bo u578q b_a [.int .i64 (1), .int .i64 (0)]) := h573q.out.later hb
          have h582q : Hid (TAt u578q u311q.heap.size Tb.zero) := h574q.out.later hb
          have h583q : Hid (Bo u578q u510q.heap.size [.int .i64 0, .int .i64 0]) := h575q.out.later hb
          clear h571q h572q h573q h574q h575q
          clear hb
          go_wp2_with fail
          refine hK.out _ _ h580q.out (fun hH => ?_)
          clear hK K
          try simp only [Act.put, List.setIfInBounds_toArray, List.set_cons_zero, List.set_cons_succ]
          refine wpAnyH_take (i := 6) (oi := { dst := some 35, op := .move (.tmp 41), type := _, pos := _, after := _, guard := _ }) (v := ?_) rfl (by kernel_rfl) (by kernel_rfl) (by kernel_rfl) (fun _ _ _ h => h) (Or.inl ⟨by rfl, ?_⟩) hH ?_
          rotate_left
          · intro w hSw
            clear hSw
            go_simp
            try with_reducible rfl
          simp only [Act.put, List.setIfInBounds_toArray, List.set_cons_zero, List.set_cons_succ]
          refine wpAnyH_take (i := 7) (oi := { dst := some 42, op := .extract (.tmp 35) 0, type := _, pos := _, after := _, guard := _ }) (v := ?_) rfl (by kernel_rfl) (by kernel_rfl) (by kernel_rfl) (fun _ _ _ h => h) (Or.inl ⟨by rfl, ?_⟩) hH ?_
          rotate_left
          · intro w hSw
            clear hSw
            go_simp
            try with_reducible rfl
          simp only [Act.put, List.setIfInBounds_toArray, List.set_cons_zero, List.set_cons_succ]
          refine wpAnyH_take (i := 8) (oi := { dst := some 43, op := .extract (.tmp 35) 1, type := _, pos := _, after := _, guard := _ }) (v := ?_) rfl (by kernel_rfl) (by kernel_rfl) (by kernel_rfl) (fun _ _ _ h => h) (Or.inl ⟨by rfl, ?_⟩) hH ?_
          rotate_left
          · intro w hSw
            clear hSw
            go_simp
            try with_reducible rfl
          simp only [Act.put, List.setIfInBounds_toArray, List.set_cons_zero, List.set_cons_succ]
          refine wpAnyH_ready (rs := [11]) (by kernel_rfl) (by simp) ?_
          refine AllReadyH.cons (o := { dst := none, op := .store _ (.tmp 11) (.tmp 42), type := _, pos := _, after := _, guard := _ }) rfl (fun K hK => ?_) AllReadyH.nil
          rw [if_pos (by rfl)]
          refine wp_store_mid _ _ _ rfl u311q.heap.size _ u2.all.toArray rfl rfl (h582q.out.thereOf u2) (HZ.out u2) (u2.all_all) ?_
          simp only [Act.put]
          have h584q : Hid (Gd n w (u578q.setCells u311q.heap.size 0 u2.all)) := h579q.out.asideAll (by omega) u2
          have h585q : Hid (TAt (u578q.setCells u311q.heap.size 0 u2.all) u3q.heap.size u) := h580q.out.asideAll (by omega) u2
          have h586q : Hid (Bo (u578q.setCells u311q.heap.size 0 u2.all) b_a [.int .i64 (1), .int .i64 (0)]) := h581q.out.asideAll (by omega) u2
          have h587q : Hid (TAt (u578q.setCells u311q.heap.size 0 u2.all) u311q.heap.size u2) := h582q.out.setAll u2
          have h588q : Hid (Bo (u578q.setCells u311q.heap.size 0 u2.all) u510q.heap.size [.int .i64 0, .int .i64 0]) := h583q.out.asideAll (by omega) u2
          clear h579q h580q h581q h582q h583q
          refine hK.out _ _ h585q.out (fun hH => ?_)
          clear hK K
          generalize (u578q.setCells u311q.heap.size 0 u2.all) = u589q at h584q h585q h586q h587q h588q hH ⊢
          try simp only [Act.put, List.setIfInBounds_toArray, List.set_cons_zero, List.set_cons_succ]
          refine wpAnyH_ready (rs := [12]) (by kernel_rfl) (by simp) ?_
          refine AllReadyH.cons (o := { dst := none, op := .store _ (.tmp 12) (.tmp 43), type := _, pos := _, after := _, guard := _ }) rfl (fun K hK => ?_) AllReadyH.nil
          rw [if_pos (by rfl)]
          refine wp_store_mid _ _ _ rfl u510q.heap.size _ #[.int .i64 (1), .int .i64 (0)] rfl rfl h588q.out.there2 HA.out (two_one _ _) ?_
          simp only [Act.put]
          have h590q : Hid (Gd n w (u589q.setCells u510q.heap.size 0 [.int .i64 (1), .int .i64 (0)])) := h584q.out.asideL (by omega) 0 [.int .i64 (1), .int .i64 (0)]
          have h591q : Hid (TAt (u589q.setCells u510q.heap.size 0 [.int .i64 (1), .int .i64 (0)]) u3q.heap.size u) := h585q.out.asideL (by omega) 0 [.int .i64 (1), .int .i64 (0)]
          have h592q : Hid (Bo (u589q.setCells u510q.heap.size 0 [.int .i64 (1), .int .i64 (0)]) b_a [.int .i64 (1), .int .i64 (0)]) := h586q.out.asideL (by omega) 0 [.int .i64 (1), .int .i64 (0)]
          have h593q : Hid (TAt (u589q.setCells u510q.heap.size 0 [.int .i64 (1), .int .i64 (0)]) u311q.heap.size u2) := h587q.out.asideL (by omega) 0 [.int .i64 (1), .int .i64 (0)]
          have h594q : Hid (Bo (u589q.setCells u510q.heap.size 0 [.int .i64 (1), .int .i64 (0)]) u510q.heap.size [.int .i64 (1), .int .i64 (0)]) := h588q.out.set2 (.int .i64 (1)) (.int .i64 (0))
          clear h584q h585q h586q h587q h588q
          refine hK.out _ _ h591q.out (fun hH => ?_)
          clear hK K
          generalize (u589q.setCells u510q.heap.size 0 [.int .i64 (1), .int .i64 (0)]) = u595q at h590q h591q h592q h593q h594q hH ⊢
          try simp only [Act.put, List.setIfInBounds_toArray, List.set_cons_zero, List.set_cons_succ]
          refine wpAnyH_done (by kernel_rfl) ?_ _
          go_wp2_with fail
          go_meet
          case rel => exact ⟨u311q.heap.size, u510q.heap.size, rfl, rfl, h590q, h591q, h592q, h593q, h594q⟩
        refine AllReadyH.cons (o := { dst := some 12, op := .alloc _, type := _, pos := _, after := _, guard := _ }) rfl (fun K hK => ?_) AllReadyH.nil
        have l596q : n ≤ u311q.heap.size := h308q.out.le
        have l597q : u3q.heap.size < u311q.heap.size := h309q.out.lt
        have l598q : b_a < u311q.heap.size := h310q.out.lt
        go_simp
        have h599q : Hid (Gd n w (u311q.alloc (.cells #[.int .i64 0, .int .i64 0] 31))) := h308q.out.new (.cells #[.int .i64 0, .int .i64 0] 31)
        have h600q : Hid (TAt (u311q.alloc (.cells #[.int .i64 0, .int .i64 0] 31)) u3q.heap.size u) := h309q.out.new (.cells #[.int .i64 0, .int .i64 0] 31)
        have h601q : Hid (Bo (u311q.alloc (.cells #[.int .i64 0, .int .i64 0] 31)) b_a [.int .i64 (1), .int .i64 (0)]) := h310q.out.new (.cells #[.int .i64 0, .int .i64 0] 31)
        clear h308q h309q h310q
        have h602q : Hid (Bo (u311q.alloc (.cells #[.int .i64 0, .int .i64 0] 31)) u311q.heap.size [.int .i64 0, .int .i64 0]) := Bo.born u311q [.int .i64 0, .int .i64 0] 31 (by simp)
        refine hK.out _ _ h600q.out (fun hH => ?_)
        clear hK K
        generalize (u311q.alloc (.cells #[.int .i64 0, .int .i64 0] 31)) = u603q at h599q h600q h601q h602q hH ⊢
        try simp only [Act.put, List.setIfInBounds_toArray, List.set_cons_zero, List.set_cons_succ]
        refine wpAnyH_ready (rs := [3, 9]) (by kernel_rfl) (by simp) ?_
        refine AllReadyH.cons (o := { dst := some 39, op := _, type := _, pos := _, after := _, guard := _ }) rfl (fun K hK => ?_) ?_
        · go_simp
          refine (Pr3.out _).mono ?_
          rintro e u604q ⟨rfl, hw⟩
          rw [hw]; clear hw u604q
          go_wp2_with fail
          refine hK.out _ _ h600q.out (fun hH => ?_)
          clear hK K
          try simp only [Act.put, List.setIfInBounds_toArray, List.set_cons_zero, List.set_cons_succ]
          refine wpAnyH_take (i := 4) (oi := { dst := some 40, op := .build _ #[(0, .const (.int .i64 1)), (1, .tmp 37), (2, .tmp 39)], type := _, pos := _, after := _, guard := _ }) (v := ?_) rfl (by kernel_rfl) (by kernel_rfl) (by kernel_rfl) (fun _ _ _ h => h) (Or.inl ⟨by rfl, ?_⟩) hH ?_
          rotate_left
          · intro w hSw
            clear hSw
            go_simp
            try with_reducible rfl
          simp only [Act.put, List.setIfInBounds_toArray, List.set_cons_zero, List.set_cons_succ]
          refine wpAnyH_ready (rs := [5, 9]) (by kernel_rfl) (by simp) ?_
          refine AllReadyH.cons (o := { dst := some 41, op := _, type := _, pos := _, after := _, guard := _ }) rfl (fun K hK => ?_) ?_
          · go_simp
            refine (DO2 _).mono ?_
            rintro e u605q ⟨rfl, hb⟩
            have h606q : Hid (Gd n w u605q) := h599q.out.later hb
            have h607q : Hid (TAt u605q u3q.heap.size u) := h600q.out.later hb
            have h608q : Hid (Bo u605q b_a [.int .i64 (1), .int .i64 (0)]) := h601q.out.later hb
            have h609q : Hid (Bo u605q u311q.heap.size [.int .i64 0, .int .i64 0]) := h602q.out.later hb
            clear h599q h600q h601q h602q
            clear hb
            go_wp2_with fail
            refine hK.out _ _ h607q.out (fun hH => ?_)
            clear hK K
            try simp only [Act.put, List.setIfInBounds_toArray, List.set_cons_zero, List.set_cons_succ]
            refine wpAnyH_take (i := 6) (oi := { dst := some 35, op := .move (.tmp 41), type := _, pos := _, after := _, guard := _ }) (v := ?_) rfl (by kernel_rfl) (by kernel_rfl) (by kernel_rfl) (fun _ _ _ h => h) (Or.inl ⟨by rfl, ?_⟩) hH ?_
            rotate_left
            · intro w hSw
              clear hSw
              go_simp
              try with_reducible rfl
            simp only [Act.put, List.setIfInBounds_toArray, List.set_cons_zero, List.set_cons_succ]
            refine wpAnyH_take (i := 7) (oi := { dst := some 42, op := .extract (.tmp 35) 0, type := _, pos := _, after := _, guard := _ }) (v := ?_) rfl (by kernel_rfl) (by kernel_rfl) (by kernel_rfl) (fun _ _ _ h => h) (Or.inl ⟨by rfl, ?_⟩) hH ?_
            rotate_left
            · intro w hSw
              clear hSw
              go_simp
              try with_reducible rfl
            simp only [Act.put, List.setIfInBounds_toArray, List.set_cons_zero, List.set_cons_succ]
            refine wpAnyH_take (i := 8) (oi := { dst := some 43, op := .extract (.tmp 35) 1, type := _, pos := _, after := _, guard := _ }) (v := ?_) rfl (by kernel_rfl) (by kernel_rfl) (by kernel_rfl) (fun _ _ _ h => h) (Or.inl ⟨by rfl, ?_⟩) hH ?_
            rotate_left
            · intro w hSw
              clear hSw
              go_simp
              try with_reducible rfl
            simp only [Act.put, List.setIfInBounds_toArray, List.set_cons_zero, List.set_cons_succ]
            refine wpAnyH_ready (rs := [9]) (by kernel_rfl) (by simp) ?_
            refine AllReadyH.cons (o := { dst := some 11, op := .alloc _, type := _, pos := _, after := _, guard := _ }) rfl (fun K hK => ?_) AllReadyH.nil
            have l610q : n ≤ u605q.heap.size := h606q.out.le
            have l611q : u3q.heap.size < u605q.heap.size := h607q.out.lt
            have l612q : b_a < u605q.heap.size := h608q.out.lt
            have l613q : u311q.heap.size < u605q.heap.size := h609q.out.lt
            go_simp
            have h614q : Hid (Gd n w (u605q.alloc (.cells #[.int .i64 0, .int .i64 0, .int .i64 0, .int .i64 0, .int .i64 0, .int .i64 0, .int .i64 0, .int .i64 0, .int .i64 0, .int .i64 0, .int .i64 0, .int .i64 0, .int .i64 0, .int .i64 0, .int .i64 0, .int .i64 0] 27))) := h606q.out.new (.cells #[.int .i64 0, .int .i64 0, .int .i64 0, .int .i64 0, .int .i64 0, .int .i64 0, .int .i64 0, .int .i64 0, .int .i64 0, .int .i64 0, .int .i64 0, .int .i64 0, .int .i64 0, .int .i64 0, .int .i64 0, .int .i64 0] 27)
            have h615q : Hid (TAt (u605q.alloc (.cells #[.int .i64 0, .int .i64 0, .int .i64 0, .int .i64 0, .int .i64 0, .int .i64 0, .int .i64 0, .int .i64 0, .int .i64 0, .int .i64 0, .int .i64 0, .int .i64 0, .int .i64 0, .int .i64 0, .int .i64 0, .int .i64 0] 27)) u3q.heap.size u) := h607q.out.new (.cells #[.int .i64 0, .int .i64 0, .int .i64 0, .int .i64 0, .int .i64 0, .int .i64 0, .int .i64 0, .int .i64 0, .int .i64 0, .int .i64 0, .int .i64 0, .int .i64 0, .int .i64 0, .int .i64 0, .int .i64 0, .int .i64 0] 27)
            have h616q : Hid (Bo (u605q.alloc (.cells #[.int .i64 0, .int .i64 0, .int .i64 0, .int .i64 0, .int .i64 0, .int .i64 0, .int .i64 0, .int .i64 0, .int .i64 0, .int .i64 0, .int .i64 0, .int .i64 0, .int .i64 0, .int .i64 0, .int .i64 0, .int .i64 0] 27)) b_a [.int .i64 (1), .int .i64 (0)]) := h608q.out.new (.cells #[.int .i64 0, .int .i64 0, .int .i64 0, .int .i64 0, .int .i64 0, .int .i64 0, .int .i64 0, .int .i64 0, .int .i64 0, .int .i64 0, .int .i64 0, .int .i64 0, .int .i64 0, .int .i64 0, .int .i64 0, .int .i64 0] 27)
            have h617q : Hid (Bo (u605q.alloc (.cells #[.int .i64 0, .int .i64 0, .int .i64 0, .int .i64 0, .int .i64 0, .int .i64 0, .int .i64 0, .int .i64 0, .int .i64 0, .int .i64 0, .int .i64 0, .int .i64 0, .int .i64 0, .int .i64 0, .int .i64 0, .int .i64 0] 27)) u311q.heap.size [.int .i64 0, .int .i64 0]) := h609q.out.new (.cells #[.int .i64 0, .int .i64 0, .int .i64 0, .int .i64 0, .int .i64 0, .int .i64 0, .int .i64 0, .int .i64 0, .int .i64 0, .int .i64 0, .int .i64 0, .int .i64 0, .int .i64 0, .int .i64 0, .int .i64 0, .int .i64 0] 27)
            clear h606q h607q h608q h609q
            have h618q : Hid (TAt (u605q.alloc (.cells #[.int .i64 0, .int .i64 0, .int .i64 0, .int .i64 0, .int .i64 0, .int .i64 0, .int .i64 0, .int .i64 0, .int .i64 0, .int .i64 0, .int .i64 0, .int .i64 0, .int .i64 0, .int .i64 0, .int .i64 0, .int .i64 0] 27)) u605q.heap.size Tb.zero) := TAt.bornZero u605q 27 (by simp)
            refine hK.out _ _ h615q.out (fun hH => ?_)
            clear hK K
            generalize (u605q.alloc (.cells #[.int .i64 0, .int .i64 0, .int .i64 0, .int .i64 0, .int .i64 0, .int .i64 0, .int .i64 0, .int .i64 0, .int .i64 0, .int .i64 0, .int .i64 0, .int .i64 0, .int .i64 0, .int .i64 0, .int .i64 0, .int .i64 0] 27)) = u619q at h614q h615q h616q h617q h618q hH ⊢
            try simp only [Act.put, List.setIfInBounds_toArray, List.set_cons_zero, List.set_cons_succ]
            refine wpAnyH_ready (rs := [11]) (by kernel_rfl) (by simp) ?_
            refine AllReadyH.cons (o := { dst := none, op := .store _ (.tmp 11) (.tmp 42), type := _, pos := _, after := _, guard := _ }) rfl (fun K hK => ?_) AllReadyH.nil
            rw [if_pos (by rfl)]
            refine wp_store_mid _ _ _ rfl u605q.heap.size _ u2.all.toArray rfl rfl (h618q.out.thereOf u2) (HZ.out u2) (u2.all_all) ?_
            simp only [Act.put]
            have h620q : Hid (Gd n w (u619q.setCells u605q.heap.size 0 u2.all)) := h614q.out.asideAll (by omega) u2
            have h621q : Hid (TAt (u619q.setCells u605q.heap.size 0 u2.all) u3q.heap.size u) := h615q.out.asideAll (by omega) u2
            have h622q : Hid (Bo (u619q.setCells u605q.heap.size 0 u2.all) b_a [.int .i64 (1), .int .i64 (0)]) := h616q.out.asideAll (by omega) u2
            have h623q : Hid (Bo (u619q.setCells u605q.heap.size 0 u2.all) u311q.heap.size [.int .i64 0, .int .i64 0]) := h617q.out.asideAll (by omega) u2
            have h624q : Hid (TAt (u619q.setCells u605q.heap.size 0 u2.all) u605q.heap.size u2) := h618q.out.setAll u2
            clear h614q h615q h616q h617q h618q
            refine hK.out _ _ h621q.out (fun hH => ?_)
            clear hK K
            generalize (u619q.setCells u605q.heap.size 0 u2.all) = u625q at h620q h621q h622q h623q h624q hH ⊢
            try simp only [Act.put, List.setIfInBounds_toArray, List.set_cons_zero, List.set_cons_succ]
            refine wpAnyH_ready (rs := [12]) (by kernel_rfl) (by simp) ?_
            refine AllReadyH.cons (o := { dst := none, op := .store _ (.tmp 12) (.tmp 43), type := _, pos := _, after := _, guard := _ }) rfl (fun K hK => ?_) AllReadyH.nil
            rw [if_pos (by rfl)]
            refine wp_store_mid _ _ _ rfl u311q.heap.size _ #[.int .i64 (1), .int .i64 (0)] rfl rfl h623q.out.there2 HA.out (two_one _ _) ?_
            simp only [Act.put]
            have h626q : Hid (Gd n w (u625q.setCells u311q.heap.size 0 [.int .i64 (1), .int .i64 (0)])) := h620q.out.asideL (by omega) 0 [.int .i64 (1), .int .i64 (0)]
            have h627q : Hid (TAt (u625q.setCells u311q.heap.size 0 [.int .i64 (1), .int .i64 (0)]) u3q.heap.size u) := h621q.out.asideL (by omega) 0 [.int .i64 (1), .int .i64 (0)]
            have h628q : Hid (Bo (u625q.setCells u311q.heap.size 0 [.int .i64 (1), .int .i64 (0)]) b_a [.int .i64 (1), .int .i64 (0)]) := h622q.out.asideL (by omega) 0 [.int .i64 (1), .int .i64 (0)]
            have h629q : Hid (Bo (u625q.setCells u311q.heap.size 0 [.int .i64 (1), .int .i64 (0)]) u311q.heap.size [.int .i64 (1), .int .i64 (0)]) := h623q.out.set2 (.int .i64 (1)) (.int .i64 (0))
            have h630q : Hid (TAt (u625q.setCells u311q.heap.size 0 [.int .i64 (1), .int .i64 (0)]) u605q.heap.size u2) := h624q.out.asideL (by omega) 0 [.int .i64 (1), .int .i64 (0)]
            clear h620q h621q h622q h623q h624q
            refine hK.out _ _ h627q.out (fun hH => ?_)
            clear hK K
            generalize (u625q.setCells u311q.heap.size 0 [.int .i64 (1), .int .i64 (0)]) = u631q at h626q h627q h628q h629q h630q hH ⊢
            try simp only [Act.put, List.setIfInBounds_toArray, List.set_cons_zero, List.set_cons_succ]
            refine wpAnyH_done (by kernel_rfl) ?_ _
            go_wp2_with fail
            go_meet
            case rel => exact ⟨u605q.heap.size, u311q.heap.size, rfl, rfl, h626q, h627q, h628q, h630q, h629q⟩
          refine AllReadyH.cons (o := { dst := some 11, op := .alloc _, type := _, pos := _, after := _, guard := _ }) rfl (fun K hK => ?_) AllReadyH.nil
          have l632q : n ≤ u603q.heap.size := h599q.out.le
          have l633q : u3q.heap.size < u603q.heap.size := h600q.out.lt
          have l634q : b_a < u603q.heap.size := h601q.out.lt
          have l635q : u311q.heap.size < u603q.heap.size := h602q.out.lt
          go_simp
          have h636q : Hid (Gd n w (u603q.alloc (.cells #[.int .i64 0, .int .i64 0, .int .i64 0, .int .i64 0, .int .i64 0, .int .i64 0, .int .i64 0, .int .i64 0, .int .i64 0, .int .i64 0, .int .i64 0, .int .i64 0, .int .i64 0, .int .i64 0, .int .i64 0, .int .i64 0] 27))) := h599q.out.new (.cells #[.int .i64 0, .int .i64 0, .int .i64 0, .int .i64 0, .int .i64 0, .int .i64 0, .int .i64 0, .int .i64 0, .int .i64 0, .int .i64 0, .int .i64 0, .int .i64 0, .int .i64 0, .int .i64 0, .int .i64 0, .int .i64 0] 27)
          have h637q : Hid (TAt (u603q.alloc (.cells #[.int .i64 0, .int .i64 0, .int .i64 0, .int .i64 0, .int .i64 0, .int .i64 0, .int .i64 0, .int .i64 0, .int .i64 0, .int .i64 0, .int .i64 0, .int .i64 0, .int .i64 0, .int .i64 0, .int .i64 0, .int .i64 0] 27)) u3q.heap.size u) := h600q.out.new (.cells #[.int .i64 0, .int .i64 0, .int .i64 0, .int .i64 0, .int .i64 0, .int .i64 0, .int .i64 0, .int .i64 0, .int .i64 0, .int .i64 0, .int .i64 0, .int .i64 0, .int .i64 0, .int .i64 0, .int .i64 0, .int .i64 0] 27)
          have h638q : Hid (Bo (u603q.alloc (.cells #[.int .i64 0, .int .i64 0, .int .i64 0, .int .i64 0, .int .i64 0, .int .i64 0, .int .i64 0, .int .i64 0, .int .i64 0, .int .i64 0, .int .i64 0, .int .i64 0, .int .i64 0, .int .i64 0, .int .i64 0, .int .i64 0] 27)) b_a [.int .i64 (1), .int .i64 (0)]) := h601q.out.new (.cells #[.int .i64 0, .int .i64 0, .int .i64 0, .int .i64 0, .int .i64 0, .int .i64 0, .int .i64 0, .int .i64 0, .int .i64 0, .int .i64 0, .int .i64 0, .int .i64 0, .int .i64 0, .int .i64 0, .int .i64 0, .int .i64 0] 27)
          have h639q : Hid (Bo (u603q.alloc (.cells #[.int .i64 0, .int .i64 0, .int .i64 0, .int .i64 0, .int .i64 0, .int .i64 0, .int .i64 0, .int .i64 0, .int .i64 0, .int .i64 0, .int .i64 0, .int .i64 0, .int .i64 0, .int .i64 0, .int .i64 0, .int .i64 0] 27)) u311q.heap.size [.int .i64 0, .int .i64 0]) := h602q.out.new (.cells #[.int .i64 0, .int .i64 0, .int .i64 0, .int .i64 0, .int .i64 0, .int .i64 0, .int .i64 0, .int .i64 0, .int .i64 0, .int .i64 0, .int .i64 0, .int .i64 0, .int .i64 0, .int .i64 0, .int .i64 0, .int .i64 0] 27)
          clear h599q h600q h601q h602q
          have h640q : Hid (TAt (u603q.alloc (.cells #[.int .i64 0, .int .i64 0, .int .i64 0, .int .i64 0, .int .i64 0, .int .i64 0, .int .i64 0, .int .i64 0, .int .i64 0, .int .i64 0, .int .i64 0, .int .i64 0, .int .i64 0, .int .i64 0, .int .i64 0, .int .i64 0] 27)) u603q.heap.size Tb.zero) := TAt.bornZero u603q 27 (by simp)
          refine hK.out _ _ h637q.out (fun hH => ?_)
          clear hK K
          generalize (u603q.alloc (.cells #[.int .i64 0, .int .i64 0, .int .i64 0, .int .i64 0, .int .i64 0, .int .i64 0, .int .i64 0, .int .i64 0, .int .i64 0, .int .i64 0, .int .i64 0, .int .i64 0, .int .i64 0, .int .i64 0, .int .i64 0, .int .i64 0] 27)) = u641q at h636q h637q h638q h639q h640q hH ⊢
          try simp only [Act.put, List.setIfInBounds_toArray, List.set_cons_zero, List.set_cons_succ]
          refine wpAnyH_ready (rs := [5]) (by kernel_rfl) (by simp) ?_
          refine AllReadyH.cons (o := { dst := some 41, op := _, type := _, pos := _, after := _, guard := _ }) rfl (fun K hK => ?_) AllReadyH.nil
          go_simp
          refine (DO2 _).mono ?_
          rintro e u642q ⟨rfl, hb⟩
          have h643q : Hid (Gd n w u642q) := h636q.out.later hb
          have h644q : Hid (TAt u642q u3q.heap.size u) := h637q.out.later hb
          have h645q : Hid (Bo u642q b_a [.int .i64 (1), .int .i64 (0)]) := h638q.out.later hb
          have h646q : Hid (Bo u642q u311q.heap.size [.int .i64 0, .int .i64 0]) := h639q.out.later hb
          have h647q : Hid (TAt u642q u603q.heap.size Tb.zero) := h640q.out.later hb
          clear h636q h637q h638q h639q h640q
          clear hb
          go_wp2_with fail
          refine hK.out _ _ h644q.out (fun hH => ?_)
          clear hK K
          try simp only [Act.put, List.setIfInBounds_toArray, List.set_cons_zero, List.set_cons_succ]
          refine wpAnyH_take (i := 6) (oi := { dst := some 35, op := .move (.tmp 41), type := _, pos := _, after := _, guard := _ }) (v := ?_) rfl (by kernel_rfl) (by kernel_rfl) (by kernel_rfl) (fun _ _ _ h => h) (Or.inl ⟨by rfl, ?_⟩) hH ?_
          rotate_left
          · intro w hSw
            clear hSw
            go_simp
            try with_reducible rfl
          simp only [Act.put, List.setIfInBounds_toArray, List.set_cons_zero, List.set_cons_succ]
          refine wpAnyH_take (i := 7) (oi := { dst := some 42, op := .extract (.tmp 35) 0, type := _, pos := _, after := _, guard := _ }) (v := ?_) rfl (by kernel_rfl) (by kernel_rfl) (by kernel_rfl) (fun _ _ _ h => h) (Or.inl ⟨by rfl, ?_⟩) hH ?_
          rotate_left
          · intro w hSw
            clear hSw
            go_simp
            try with_reducible rfl
          simp only [Act.put, List.setIfInBounds_toArray, List.set_cons_zero, List.set_cons_succ]
          refine wpAnyH_take (i := 8) (oi := { dst := some 43, op := .extract (.tmp 35) 1, type := _, pos := _, after := _, guard := _ }) (v := ?_) rfl (by kernel_rfl) (by kernel_rfl) (by kernel_rfl) (fun _ _ _ h => h) (Or.inl ⟨by rfl, ?_⟩) hH ?_
          rotate_left
          · intro w hSw
            clear hSw
            go_simp
            try with_reducible rfl
          simp only [Act.put, List.setIfInBounds_toArray, List.set_cons_zero, List.set_cons_succ]
          refine wpAnyH_ready (rs := [11]) (by kernel_rfl) (by simp) ?_
          refine AllReadyH.cons (o := { dst := none, op := .store _ (.tmp 11) (.tmp 42), type := _, pos := _, after := _, guard := _ }) rfl (fun K hK => ?_) AllReadyH.nil
          rw [if_pos (by rfl)]
          refine wp_store_mid _ _ _ rfl u603q.heap.size _ u2.all.toArray rfl rfl (h647q.out.thereOf u2) (HZ.out u2) (u2.all_all) ?_
          simp only [Act.put]
          have h648q : Hid (Gd n w (u642q.setCells u603q.heap.size 0 u2.all)) := h643q.out.asideAll (by omega) u2
          have h649q : Hid (TAt (u642q.setCells u603q.heap.size 0 u2.all) u3q.heap.size u) := h644q.out.asideAll (by omega) u2
          have h650q : Hid (Bo (u642q.setCells u603q.heap.size 0 u2.all) b_a [.int .i64 (1), .int .i64 (0)]) := h645q.out.asideAll (by omega) u2
          have h651q : Hid (Bo (u642q.setCells u603q.heap.size 0 u2.all) u311q.heap.size [.int .i64 0, .int .i64 0]) := h646q.out.asideAll (by omega) u2
          have h652q : Hid (TAt (u642q.setCells u603q.heap.size 0 u2.all) u603q.heap.size u2) := h647q.out.setAll u2
          clear h643q h644q h645q h646q h647q
          refine hK.out _ _ h649q.out (fun hH => ?_)
          clear hK K
          generalize (u642q.setCells u603q.heap.size 0 u2.all) = u653q at h648q h649q h650q h651q h652q hH ⊢
          try simp only [Act.put, List.setIfInBounds_toArray, List.set_cons_zero, List.set_cons_succ]
          refine wpAnyH_ready (rs := [12]) (by kernel_rfl) (by simp) ?_
          refine AllReadyH.cons (o := { dst := none, op := .store _ (.tmp 12) (.tmp 43), type := _, pos := _, after := _, guard := _ }) rfl (fun K hK => ?_) AllReadyH.nil
          rw [if_pos (by rfl)]
          refine wp_store_mid _ _ _ rfl u311q.heap.size _ #[.int .i64 (1), .int .i64 (0)] rfl rfl h651q.out.there2 HA.out (two_one _ _) ?_
          simp only [Act.put]
          have h654q : Hid (Gd n w (u653q.setCells u311q.heap.size 0 [.int .i64 (1), .int .i64 (0)])) := h648q.out.asideL (by omega) 0 [.int .i64 (1), .int .i64 (0)]
          have h655q : Hid (TAt (u653q.setCells u311q.heap.size 0 [.int .i64 (1), .int .i64 (0)]) u3q.heap.size u) := h649q.out.asideL (by omega) 0 [.int .i64 (1), .int .i64 (0)]
          have h656q : Hid (Bo (u653q.setCells u311q.heap.size 0 [.int .i64 (1), .int .i64 (0)]) b_a [.int .i64 (1), .int .i64 (0)]) := h650q.out.asideL (by omega) 0 [.int .i64 (1), .int .i64 (0)]
          have h657q : Hid (Bo (u653q.setCells u311q.heap.size 0 [.int .i64 (1), .int .i64 (0)]) u311q.heap.size [.int .i64 (1), .int .i64 (0)]) := h651q.out.set2 (.int .i64 (1)) (.int .i64 (0))
          have h658q : Hid (TAt (u653q.setCells u311q.heap.size 0 [.int .i64 (1), .int .i64 (0)]) u603q.heap.size u2) := h652q.out.asideL (by omega) 0 [.int .i64 (1), .int .i64 (0)]
          clear h648q h649q h650q h651q h652q
          refine hK.out _ _ h655q.out (fun hH => ?_)
          clear hK K
          generalize (u653q.setCells u311q.heap.size 0 [.int .i64 (1), .int .i64 (0)]) = u659q at h654q h655q h656q h657q h658q hH ⊢
          try simp only [Act.put, List.setIfInBounds_toArray, List.set_cons_zero, List.set_cons_succ]
          refine wpAnyH_done (by kernel_rfl) ?_ _
          go_wp2_with fail
          go_meet
          case rel => exact ⟨u603q.heap.size, u311q.heap.size, rfl, rfl, h654q, h655q, h656q, h658q, h657q⟩
        refine AllReadyH.cons (o := { dst := some 11, op := .alloc _, type := _, pos := _, after := _, guard := _ }) rfl (fun K hK => ?_) AllReadyH.nil
        have l660q : n ≤ u603q.heap.size := h599q.out.le
        have l661q : u3q.heap.size < u603q.heap.size := h600q.out.lt
        have l662q : b_a < u603q.heap.size := h601q.out.lt
        have l663q : u311q.heap.size < u603q.heap.size := h602q.out.lt
        go_simp
        have h664q : Hid (Gd n w (u603q.alloc (.cells #[.int .i64 0, .int .i64 0, .int .i64 0, .int .i64 0, .int .i64 0, .int .i64 0, .int .i64 0, .int .i64 0, .int .i64 0, .int .i64 0, .int .i64 0, .int .i64 0, .int .i64 0, .int .i64 0, .int .i64 0, .int .i64 0] 27))) := h599q.out.new (.cells #[.int .i64 0, .int .i64 0, .int .i64 0, .int .i64 0, .int .i64 0, .int .i64 0, .int .i64 0, .int .i64 0, .int .i64 0, .int .i64 0, .int .i64 0, .int .i64 0, .int .i64 0, .int .i64 0, .int .i64 0, .int .i64 0] 27)
        have h665q : Hid (TAt (u603q.alloc (.cells #[.int .i64 0, .int .i64 0, .int .i64 0, .int .i64 0, .int .i64 0, .int .i64 0, .int .i64 0, .int .i64 0, .int .i64 0, .int .i64 0, .int .i64 0, .int .i64 0, .int .i64 0, .int .i64 0, .int .i64 0, .int .i64 0] 27)) u3q.heap.size u) := h600q.out.new (.cells #[.int .i64 0, .int .i64 0, .int .i64 0, .int .i64 0, .int .i64 0, .int .i64 0, .int .i64 0, .int .i64 0, .int .i64 0, .int .i64 0, .int .i64 0, .int .i64 0, .int .i64 0, .int .i64 0, .int .i64 0, .int .i64 0] 27)
        have h666q : Hid (Bo (u603q.alloc (.cells #[.int .i64 0, .int .i64 0, .int .i64 0, .int .i64 0, .int .i64 0, .int .i64 0, .int .i64 0, .int .i64 0, .int .i64 0, .int .i64 0, .int .i64 0, .int .i64 0, .int .i64 0, .int .i64 0, .int .i64 0, .int .i64 0] 27)) b_a [.int .i64 (1), .int .i64 (0)]) := h601q.out.new (.cells #[.int .i64 0, .int .i64 0, .int .i64 0, .int .i64 0, .int .i64 0, .int .i64 0, .int .i64 0, .int .i64 0, .int .i64 0, .int .i64 0, .int .i64 0, .int .i64 0, .int .i64 0, .int .i64 0, .int .i64 0, .int .i64 0] 27)
        have h667q : Hid (Bo (u603q.alloc (.cells #[.int .i64 0, .int .i64 0, .int .i64 0, .int .i64 0, .int .i64 0, .int .i64 0, .int .i64 0, .int .i64 0, .int .i64 0, .int .i64 0, .int .i64 0, .int .i64 0, .int .i64 0, .int .i64 0, .int .i64 0, .int .i64 0] 27)) u311q.heap.size [.int .i64 0, .int .i64 0]) := h602q.out.new (.cells #[.int .i64 0, .int .i64 0, .int .i64 0, .int .i64 0, .int .i64 0, .int .i64 0, .int .i64 0, .int .i64 0, .int .i64 0, .int .i64 0, .int .i64 0, .int .i64 0, .int .i64 0, .int .i64 0, .int .i64 0, .int .i64 0] 27)
        clear h599q h600q h601q h602q
        have h668q : Hid (TAt (u603q.alloc (.cells #[.int .i64 0, .int .i64 0, .int .i64 0, .int .i64 0, .int .i64 0, .int .i64 0, .int .i64 0, .int .i64 0, .int .i64 0, .int .i64 0, .int .i64 0, .int .i64 0, .int .i64 0, .int .i64 0, .int .i64 0, .int .i64 0] 27)) u603q.heap.size Tb.zero) := TAt.bornZero u603q 27 (by simp)
        refine hK.out _ _ h665q.out (fun hH => ?_)
        clear hK K
        generalize (u603q.alloc (.cells #[.int .i64 0, .int .i64 0, .int .i64 0, .int .i64 0, .int .i64 0, .int .i64 0, .int .i64 0, .int .i64 0, .int .i64 0, .int .i64 0, .int .i64 0, .int .i64 0, .int .i64 0, .int .i64 0, .int .i64 0, .int .i64 0] 27)) = u669q at h664q h665q h666q h667q h668q hH ⊢
        try simp only [Act.put, List.setIfInBounds_toArray, List.set_cons_zero, List.set_cons_succ]
        refine wpAnyH_ready (rs := [3]) (by kernel_rfl) (by simp) ?_
        refine AllReadyH.cons (o := { dst := some 39, op := _, type := _, pos := _, after := _, guard := _ }) rfl (fun K hK => ?_) AllReadyH.nil
        go_simp
        refine (Pr3.out _).mono ?_
        rintro e u670q ⟨rfl, hw⟩
        rw [hw]; clear hw u670q
        go_wp2_with fail
        refine hK.out _ _ h665q.out (fun hH => ?_)
        clear hK K
        try simp only [Act.put, List.setIfInBounds_toArray, List.set_cons_zero, List.set_cons_succ]
        refine wpAnyH_take (i := 4) (oi := { dst := some 40, op := .build _ #[(0, .const (.int .i64 1)), (1, .tmp 37), (2, .tmp 39)], type := _, pos := _, after := _, guard := _ }) (v := ?_) rfl (by kernel_rfl) (by kernel_rfl) (by kernel_rfl) (fun _ _ _ h => h) (Or.inl ⟨by rfl, ?_⟩) hH ?_
        rotate_left
        · intro w hSw
          clear hSw
          go_simp
          try with_reducible rfl
        simp only [Act.put, List.setIfInBounds_toArray, List.set_cons_zero, List.set_cons_succ]
        refine wpAnyH_ready (rs := [5]) (by kernel_rfl) (by simp) ?_
        refine AllReadyH.cons (o := { dst := some 41, op := _, type := _, pos := _, after := _, guard := _ }) rfl (fun K hK => ?_) AllReadyH.nil
        go_simp
        refine (DO2 _).mono ?_
        rintro e u671q ⟨rfl, hb⟩
        have h672q : Hid (Gd n w u671q) := h664q.out.later hb
        have h673q : Hid (TAt u671q u3q.heap.size u) := h665q.out.later hb
        have h674q : Hid (Bo u671q b_a [.int .i64 (1), .int .i64 (0)]) := h666q.out.later hb
        have h675q : Hid (Bo u671q u311q.heap.size [.int .i64 0, .int .i64 0]) := h667q.out.later hb
        have h676q : Hid (TAt u671q u603q.heap.size Tb.zero) := h668q.out.later hb
        clear h664q h665q h666q h667q h668q
        clear hb
        go_wp2_with fail
        refine hK.out _ _ h673q.out (fun hH => ?_)
        clear hK K
        try simp only [Act.put, List.setIfInBounds_toArray, List.set_cons_zero, List.set_cons_succ]
        refine wpAnyH_take (i := 6) (oi := { dst := some 35, op := .move (.tmp 41), type := _, pos := _, after := _, guard := _ }) (v := ?_) rfl (by kernel_rfl) (by kernel_rfl) (by kernel_rfl) (fun _ _ _ h => h) (Or.inl ⟨by rfl, ?_⟩) hH ?_
        rotate_left
        · intro w hSw
          clear hSw
          go_simp
          try with_reducible rfl
        simp only [Act.put, List.setIfInBounds_toArray, List.set_cons_zero, List.set_cons_succ]
        refine wpAnyH_take (i := 7) (oi := { dst := some 42, op := .extract (.tmp 35) 0, type := _, pos := _, after := _, guard := _ }) (v := ?_) rfl (by kernel_rfl) (by kernel_rfl) (by kernel_rfl) (fun _ _ _ h => h) (Or.inl ⟨by rfl, ?_⟩) hH ?_
        rotate_left
        · intro w hSw
          clear hSw
          go_simp
          try with_reducible rfl
        simp only [Act.put, List.setIfInBounds_toArray, List.set_cons_zero, List.set_cons_succ]
        refine wpAnyH_take (i := 8) (oi := { dst := some 43, op := .extract (.tmp 35) 1, type := _, pos := _, after := _, guard := _ }) (v := ?_) rfl (by kernel_rfl) (by kernel_rfl) (by kernel_rfl) (fun _ _ _ h => h) (Or.inl ⟨by rfl, ?_⟩) hH ?_
        rotate_left
        · intro w hSw
          clear hSw
          go_simp
          try with_reducible rfl
        simp only [Act.put, List.setIfInBounds_toArray, List.set_cons_zero, List.set_cons_succ]
        refine wpAnyH_ready (rs := [11]) (by kernel_rfl) (by simp) ?_
        refine AllReadyH.cons (o := { dst := none, op := .store _ (.tmp 11) (.tmp 42), type := _, pos := _, after := _, guard := _ }) rfl (fun K hK => ?_) AllReadyH.nil
        rw [if_pos (by rfl)]
        refine wp_store_mid _ _ _ rfl u603q.heap.size _ u2.all.toArray rfl rfl (h676q.out.thereOf u2) (HZ.out u2) (u2.all_all) ?_
        simp only [Act.put]
        have h677q : Hid (Gd n w (u671q.setCells u603q.heap.size 0 u2.all)) := h672q.out.asideAll (by omega) u2
        have h678q : Hid (TAt (u671q.setCells u603q.heap.size 0 u2.all) u3q.heap.size u) := h673q.out.asideAll (by omega) u2
        have h679q : Hid (Bo (u671q.setCells u603q.heap.size 0 u2.all) b_a [.int .i64 (1), .int .i64 (0)]) := h674q.out.asideAll (by omega) u2
        have h680q : Hid (Bo (u671q.setCells u603q.heap.size 0 u2.all) u311q.heap.size [.int .i64 0, .int .i64 0]) := h675q.out.asideAll (by omega) u2
        have h681q : Hid (TAt (u671q.setCells u603q.heap.size 0 u2.all) u603q.heap.size u2) := h676q.out.setAll u2
        clear h672q h673q h674q h675q h676q
        refine hK.out _ _ h678q.out (fun hH => ?_)
        clear hK K
        generalize (u671q.setCells u603q.heap.size 0 u2.all) = u682q at h677q h678q h679q h680q h681q hH ⊢
        try simp only [Act.put, List.setIfInBounds_toArray, List.set_cons_zero, List.set_cons_succ]
        refine wpAnyH_ready (rs := [12]) (by kernel_rfl) (by simp) ?_
        refine AllReadyH.cons (o := { dst := none, op := .store _ (.tmp 12) (.tmp 43), type := _, pos := _, after := _, guard := _ }) rfl (fun K hK => ?_) AllReadyH.nil
        rw [if_pos (by rfl)]
        refine wp_store_mid _ _ _ rfl u311q.heap.size _ #[.int .i64 (1), .int .i64 (0)] rfl rfl h680q.out.there2 HA.out (two_one _ _) ?_
        simp only [Act.put]
        have h683q : Hid (Gd n w (u682q.setCells u311q.heap.size 0 [.int .i64 (1), .int .i64 (0)])) := h677q.out.asideL (by omega) 0 [.int .i64 (1), .int .i64 (0)]
        have h684q : Hid (TAt (u682q.setCells u311q.heap.size 0 [.int .i64 (1), .int .i64 (0)]) u3q.heap.size u) := h678q.out.asideL (by omega) 0 [.int .i64 (1), .int .i64 (0)]
        have h685q : Hid (Bo (u682q.setCells u311q.heap.size 0 [.int .i64 (1), .int .i64 (0)]) b_a [.int .i64 (1), .int .i64 (0)]) := h679q.out.asideL (by omega) 0 [.int .i64 (1), .int .i64 (0)]
        have h686q : Hid (Bo (u682q.setCells u311q.heap.size 0 [.int .i64 (1), .int .i64 (0)]) u311q.heap.size [.int .i64 (1), .int .i64 (0)]) := h680q.out.set2 (.int .i64 (1)) (.int .i64 (0))
        have h687q : Hid (TAt (u682q.setCells u311q.heap.size 0 [.int .i64 (1), .int .i64 (0)]) u603q.heap.size u2) := h681q.out.asideL (by omega) 0 [.int .i64 (1), .int .i64 (0)]
        clear h677q h678q h679q h680q h681q
        refine hK.out _ _ h684q.out (fun hH => ?_)
        clear hK K
        generalize (u682q.setCells u311q.heap.size 0 [.int .i64 (1), .int .i64 (0)]) = u688q at h683q h684q h685q h686q h687q hH ⊢
        try simp only [Act.put, List.setIfInBounds_toArray, List.set_cons_zero, List.set_cons_succ]
        refine wpAnyH_done (by kernel_rfl) ?_ _
        go_wp2_with fail
        go_meet
        case rel => exact ⟨u603q.heap.size, u311q.heap.size, rfl, rfl, h683q, h684q, h685q, h687q, h686q⟩
      case rest =>
        obtain ⟨b_u, b_b, rfl, rfl, h689q, h690q, h691q, h692q, h693q⟩ := hcut
        go_wp2_with fail
        have h694q : Hid (Gd n w wc.drew) := h689q.out.drew
        have h695q : Hid (TAt wc.drew u3q.heap.size u) := h690q.out.drew
        have h696q : Hid (Bo wc.drew b_a [.int .i64 (1), .int .i64 (0)]) := h691q.out.drew
        have h697q : Hid (TAt wc.drew b_u u2) := h692q.out.drew
        have h698q : Hid (Bo wc.drew b_b [.int .i64 (1), .int .i64 (0)]) := h693q.out.drew
        clear h689q h690q h691q h692q h693q
        refine wp_region_held_drew (S := fun w' => Bo w' b_b [.int .i64 (1), .int .i64 (0)] ∧ Bo w' b_a [.int .i64 (1), .int .i64 (0)] ∧ TAt w' b_u u2 ∧ TAt w' u3q.heap.size u) (by kernel_rfl) ⟨h698q.out, h696q.out, h697q.out, h695q.out⟩ (fun hH => ?_)
        generalize wc.drew = u699q at h694q h695q h696q h697q h698q hH ⊢
        refine wpAnyH_take (i := 0) (oi := { dst := some 44, op := .load _ (.tmp 12), type := _, pos := _, after := _, guard := _ }) (v := ?_) rfl (by kernel_rfl) (by kernel_rfl) (by kernel_rfl) (fun _ _ _ h => h) (Or.inl ⟨by rfl, ?_⟩) hH ?_
        rotate_left
        · intro w hSw
          have c700q := (hSw.1).at 0 rfl
          have c701q := (hSw.1).at 1 rfl
          clear hSw
          go_simp
          try with_reducible rfl
        simp only [Act.put, List.setIfInBounds_toArray, List.set_cons_zero, List.set_cons_succ]
        refine wpAnyH_take (i := 1) (oi := { dst := some 45, op := .load _ (.tmp 10), type := _, pos := _, after := _, guard := _ }) (v := ?_) rfl (by kernel_rfl) (by kernel_rfl) (by kernel_rfl) (fun _ _ _ h => h) (Or.inl ⟨by rfl, ?_⟩) hH ?_
        rotate_left
        · intro w hSw
          have c702q := (hSw.2.1).at 0 rfl
          have c703q := (hSw.2.1).at 1 rfl
          clear hSw
          go_simp
          try with_reducible rfl
        simp only [Act.put, List.setIfInBounds_toArray, List.set_cons_zero, List.set_cons_succ]
        refine wpAnyH_take (i := 2) (oi := { dst := some 46, op := .binOp .eql _ (.tmp 44) (.tmp 45) _, type := _, pos := _, after := _, guard := _ }) (v := ?_) rfl (by kernel_rfl) (by kernel_rfl) (by kernel_rfl) (fun _ _ _ h => h) (Or.inl ⟨by rfl, ?_⟩) hH ?_
        rotate_left
        · intro w hSw
          clear hSw
          go_simp
          try with_reducible rfl
        simp only [Act.put, List.setIfInBounds_toArray, List.set_cons_zero, List.set_cons_succ]
        refine wpAnyH_take (i := 3) (oi := { dst := some 47, op := .move (.tmp 46), type := _, pos := _, after := _, guard := _ }) (v := ?_) rfl (by kernel_rfl) (by kernel_rfl) (by kernel_rfl) (fun _ _ _ h => h) (Or.inl ⟨by rfl, ?_⟩) hH ?_
        rotate_left
        · intro w hSw
          clear hSw
          go_simp
          try with_reducible rfl
        simp only [Act.put, List.setIfInBounds_toArray, List.set_cons_zero, List.set_cons_succ]
        refine wpAnyH_take (i := 4) (oi := { dst := some 48, op := .load _ (.tmp 11), type := _, pos := _, after := _, guard := _ }) (v := _) rfl (by kernel_rfl) (by kernel_rfl) (by kernel_rfl) (fun _ _ _ h => h) (yieldsIf_load_mid (by rfl) _ _ rfl b_u _ rfl u2.all _ (fun _ h => (h.2.2.1).range) HD.out rfl (HS.out u2)) hH ?_
        simp only [Act.put, List.setIfInBounds_toArray, List.set_cons_zero, List.set_cons_succ]
        refine wpAnyH_take (i := 6) (oi := { dst := some 50, op := .load _ (.tmp 9), type := _, pos := _, after := _, guard := _ }) (v := _) rfl (by kernel_rfl) (by kernel_rfl) (by kernel_rfl) (fun _ _ _ h => h) (yieldsIf_load_mid (by rfl) _ _ rfl u3q.heap.size _ rfl u.all _ (fun _ h => (h.2.2.2).range) HD.out rfl (HS.out u)) hH ?_
        simp only [Act.put, List.setIfInBounds_toArray, List.set_cons_zero, List.set_cons_succ]
        refine wpAnyH_ready (rs := [5]) (by kernel_rfl) (by simp) ?_
        refine AllReadyH.cons (o := { dst := some 49, op := _, type := _, pos := _, after := _, guard := _ }) rfl (fun K hK => ?_) AllReadyH.nil
        go_simp
        refine (L1 _).mono ?_
        rintro e u704q ⟨rfl, hb⟩
        have h705q : Hid (Gd n w u704q) := h694q.out.later hb
        have h706q : Hid (TAt u704q u3q.heap.size u) := h695q.out.later hb
        have h707q : Hid (Bo u704q b_a [.int .i64 (1), .int .i64 (0)]) := h696q.out.later hb
        have h708q : Hid (TAt u704q b_u u2) := h697q.out.later hb
        have h709q : Hid (Bo u704q b_b [.int .i64 (1), .int .i64 (0)]) := h698q.out.later hb
        clear h694q h695q h696q h697q h698q
        clear hb
        go_wp2_with fail
        refine hK.out _ _ ⟨h709q.out, h707q.out, h708q.out, h706q.out⟩ (fun hH => ?_)
        clear hK K
        try simp only [Act.put, List.setIfInBounds_toArray, List.set_cons_zero, List.set_cons_succ]
        refine wpAnyH_ready (rs := [7]) (by kernel_rfl) (by simp) ?_
        refine AllReadyH.cons (o := { dst := some 51, op := _, type := _, pos := _, after := _, guard := _ }) rfl (fun K hK => ?_) AllReadyH.nil
        go_simp
        refine (L2 _).mono ?_
        rintro e u710q ⟨rfl, hb⟩
        have h711q : Hid (Gd n w u710q) := h705q.out.later hb
        have h712q : Hid (TAt u710q u3q.heap.size u) := h706q.out.later hb
        have h713q : Hid (Bo u710q b_a [.int .i64 (1), .int .i64 (0)]) := h707q.out.later hb
        have h714q : Hid (TAt u710q b_u u2) := h708q.out.later hb
        have h715q : Hid (Bo u710q b_b [.int .i64 (1), .int .i64 (0)]) := h709q.out.later hb
        clear h705q h706q h707q h708q h709q
        clear hb
        go_wp2_with fail
        refine hK.out _ _ ⟨h715q.out, h713q.out, h714q.out, h712q.out⟩ (fun hH => ?_)
        clear hK K
        try simp only [Act.put, List.setIfInBounds_toArray, List.set_cons_zero, List.set_cons_succ]
        refine wpAnyH_take (i := 8) (oi := { dst := some 52, op := .binOp .eql _ (.tmp 49) (.tmp 51) _, type := _, pos := _, after := _, guard := _ }) (v := ?_) rfl (by kernel_rfl) (by kernel_rfl) (by kernel_rfl) (fun _ _ _ h => h) (Or.inl ⟨by rfl, ?_⟩) hH ?_
        rotate_left
        · intro w hSw
          clear hSw
          go_simp
          try with_reducible rfl
        simp only [Act.put, List.setIfInBounds_toArray, List.set_cons_zero, List.set_cons_succ]
        refine wpAnyH_take (i := 9) (oi := { dst := some 53, op := .pick (.tmp 47) (.tmp 52) (.const (.bool false)), type := _, pos := _, after := _, guard := _ }) (v := ?_) rfl (by kernel_rfl) (by kernel_rfl) (by kernel_rfl) (fun _ _ _ h => h) (Or.inl ⟨by rfl, ?_⟩) hH ?_
        rotate_left
        · intro w hSw
          clear hSw
          go_simp
          try with_reducible rfl
        simp only [Act.put, List.setIfInBounds_toArray, List.set_cons_zero, List.set_cons_succ]
        refine wpAnyH_take (i := 10) (oi := { dst := some 54, op := .move (.tmp 53), type := _, pos := _, after := _, guard := _ }) (v := ?_) rfl (by kernel_rfl) (by kernel_rfl) (by kernel_rfl) (fun _ _ _ h => h) (Or.inl ⟨by rfl, ?_⟩) hH ?_
        rotate_left
        · intro w hSw
          clear hSw
          go_simp
          try with_reducible rfl
        simp only [Act.put, List.setIfInBounds_toArray, List.set_cons_zero, List.set_cons_succ]
        refine wpAnyH_take (i := 11) (oi := { dst := some 55, op := .load _ (.tmp 11), type := _, pos := _, after := _, guard := _ }) (v := _) rfl (by kernel_rfl) (by kernel_rfl) (by kernel_rfl) (fun _ _ _ h => h) (yieldsIf_load_mid (by rfl) _ _ rfl b_u _ rfl u2.all _ (fun _ h => (h.2.2.1).range) HD.out rfl (HS.out u2)) hH ?_
        simp only [Act.put, List.setIfInBounds_toArray, List.set_cons_zero, List.set_cons_succ]
        refine wpAnyH_take (i := 12) (oi := { dst := some 56, op := .move (.tmp 1), type := _, pos := _, after := _, guard := _ }) (v := ?_) rfl (by kernel_rfl) (by kernel_rfl) (by kernel_rfl) (fun _ _ _ h => h) (Or.inl ⟨by rfl, ?_⟩) hH ?_
        rotate_left
        · intro w hSw
          clear hSw
          go_simp
          try with_reducible rfl
        simp only [Act.put, List.setIfInBounds_toArray, List.set_cons_zero, List.set_cons_succ]
        refine wpAnyH_take (i := 15) (oi := { dst := some 59, op := .move (.tmp 3), type := _, pos := _, after := _, guard := _ }) (v := ?_) rfl (by kernel_rfl) (by kernel_rfl) (by kernel_rfl) (fun _ _ _ h => h) (Or.inl ⟨by rfl, ?_⟩) hH ?_
        rotate_left
        · intro w hSw
          clear hSw
          go_simp
          try with_reducible rfl
        simp only [Act.put, List.setIfInBounds_toArray, List.set_cons_zero, List.set_cons_succ]
        refine wpAnyH_ready (rs := [13]) (by kernel_rfl) (by simp) ?_
        refine AllReadyH.cons (o := { dst := some 57, op := _, type := _, pos := _, after := _, guard := _ }) rfl (fun K hK => ?_) AllReadyH.nil
        go_simp
        refine (PK _).mono ?_
        rintro e u716q ⟨rfl, hb⟩
        have h717q : Hid (Gd n w u716q) := h711q.out.later hb
        have h718q : Hid (TAt u716q u3q.heap.size u) := h712q.out.later hb
        have h719q : Hid (Bo u716q b_a [.int .i64 (1), .int .i64 (0)]) := h713q.out.later hb
        have h720q : Hid (TAt u716q b_u u2) := h714q.out.later hb
        have h721q : Hid (Bo u716q b_b [.int .i64 (1), .int .i64 (0)]) := h715q.out.later hb
        clear h711q h712q h713q h714q h715q
        clear hb
        go_wp2_with fail
        refine hK.out _ _ ⟨h721q.out, h719q.out, h720q.out, h718q.out⟩ (fun hH => ?_)
        clear hK K
        try simp only [Act.put, List.setIfInBounds_toArray, List.set_cons_zero, List.set_cons_succ]
        refine wpAnyH_take (i := 14) (oi := { dst := some 58, op := .field _ (.tmp 57) 1, type := _, pos := _, after := _, guard := _ }) (v := ?_) rfl (by kernel_rfl) (by kernel_rfl) (by kernel_rfl) (fun _ _ _ h => h) (Or.inl ⟨by rfl, ?_⟩) hH ?_
        rotate_left
        · intro w hSw
          clear hSw
          go_simp
          try with_reducible rfl
        simp only [Act.put, List.setIfInBounds_toArray, List.set_cons_zero, List.set_cons_succ]
        refine wpAnyH_ready (rs := [16]) (by kernel_rfl) (by simp) ?_
        refine AllReadyH.cons (o := { dst := some 60, op := _, type := _, pos := _, after := _, guard := _ }) rfl (fun K hK => ?_) AllReadyH.nil
        go_simp
        refine (Pr3.out _).mono ?_
        rintro e u722q ⟨rfl, hw⟩
        rw [hw]; clear hw u722q
        go_wp2_with fail
        refine hK.out _ _ ⟨h721q.out, h719q.out, h720q.out, h718q.out⟩ (fun hH => ?_)
        clear hK K
        try simp only [Act.put, List.setIfInBounds_toArray, List.set_cons_zero, List.set_cons_succ]
        refine wpAnyH_take (i := 17) (oi := { dst := some 61, op := .binOp .eql _ (.tmp 58) (.tmp 60) _, type := _, pos := _, after := _, guard := _ }) (v := ?_) rfl (by kernel_rfl) (by kernel_rfl) (by kernel_rfl) (fun _ _ _ h => h) (Or.inl ⟨by rfl, ?_⟩) hH ?_
        rotate_left
        · intro w hSw
          clear hSw
          go_simp
          try with_reducible rfl
        simp only [Act.put, List.setIfInBounds_toArray, List.set_cons_zero, List.set_cons_succ]
        refine wpAnyH_take (i := 18) (oi := { dst := some 62, op := .pick (.tmp 54) (.tmp 61) (.const (.bool false)), type := _, pos := _, after := _, guard := _ }) (v := ?_) rfl (by kernel_rfl) (by kernel_rfl) (by kernel_rfl) (fun _ _ _ h => h) (Or.inl ⟨by rfl, ?_⟩) hH ?_
        rotate_left
        · intro w hSw
          clear hSw
          go_simp
          try with_reducible rfl
        simp only [Act.put, List.setIfInBounds_toArray, List.set_cons_zero, List.set_cons_succ]
        refine wpAnyH_take (i := 19) (oi := { dst := some 8, op := .assign (.tmp 62), type := _, pos := _, after := _, guard := _ }) (v := ?_) rfl (by kernel_rfl) (by kernel_rfl) (by kernel_rfl) (fun _ _ _ h => h) (Or.inl ⟨by rfl, ?_⟩) hH ?_
        rotate_left
        · intro w hSw
          clear hSw
          go_simp
          try with_reducible rfl
        simp only [Act.put, List.setIfInBounds_toArray, List.set_cons_zero, List.set_cons_succ]
        refine wpAnyH_done (by kernel_rfl) ?_ _
        go_wp2
        go_ret
        exact ⟨rfl, h717q.out.2⟩


set_option maxRecDepth 100000 in
theorem lifted (os : Os) (started : os.Started) (H : Type) (enc : TypeId × Value → H) :
    ReturnsInHanded {} Try.checked os 3 .any (Rows.tableAgainSpec.pre6 enc Try.prog Try.f3 Rows.tableAgainRow.domain false) (Rows.tableAgainSpec.post enc Try.prog Try.f3 false true false false) := by
  refine returnsInHanded_of_change (C := Try.checked) own started (by kernel_rfl) Try.func3
    (ChangeSpec.witness6 (enc := enc) (C := Try.checked) false ⟨#[], #[.slice none 0 0, .int .i64 0, .int .i64 0, .int .i64 0], []⟩ 8 (by kernel_rfl) (by kernel_rfl) (by kernel_rfl) (by kernel_rfl)) ?_
  intro W base args ds gs before hval0 hW hcnd _
  have hval : ∀ (j : Nat) t v, Try.f3.params[j]? = some t → args[j]? = some v → Value.okWide Try.prog W .any base t v := hval0
  have hW' := hW
  obtain ⟨p, q, hA0, hV, rfl, hfz, hnd⟩ := hW
  have hA : DataW.TrodAll enc Try.prog W 0 (fun _ => true) true Try.f3.params.toList args.toList ds p := hA0
  rw [Try.params3] at hA hval
  obtain ⟨v0, vs0, d0, ds0, p0, q0, hargs, rfl, rfl, h0, r0⟩ := trodAll_cons hA
  obtain ⟨v1, vs1, d1, ds1, p1, q1, rfl, rfl, rfl, h1, r1⟩ := trodAll_cons r0
  obtain ⟨v2, vs2, d2, ds2, p2, q2, rfl, rfl, rfl, h2, r2⟩ := trodAll_cons r1
  obtain ⟨v3, vs3, d3, ds3, p3, q3, rfl, rfl, rfl, h3, r3⟩ := trodAll_cons r2
  obtain ⟨rfl, rfl, rfl⟩ := trodAll_nil r3
  obtain rfl : args = #[v0, v1, v2, v3] := by cases args; simp_all
  obtain ⟨rfl, rfl⟩ := trodVars_none hV
  obtain ⟨n0, D0⟩ := ops_of_trod (hval 0 22 v0 rfl rfl) h0
  obtain ⟨a1, rfl, rfl, rfl, w1⟩ := open_int Try.underlying3 (hval 1 3 v1 rfl rfl) h1
  obtain ⟨a2, rfl, rfl, rfl, w2⟩ := open_int Try.underlying3 (hval 2 3 v2 rfl rfl) h2
  obtain ⟨a3, rfl, rfl, rfl, w3⟩ := open_int Try.underlying3 (hval 3 3 v3 rfl rfl) h3
  have hlt := hW'.lt
  clear hA0 hval0
  refine (walk v0 n0 a1 a2 a3 w1 w2 w3 W  D0).mono fun e W' ⟨he, hg⟩ => ?_
  subst he
  exact ⟨_, rfl, post_below (pv := []) hW' (fun _ _ _ => (trodAll_cons_mk (shut_bool Try.underlying4 _) trodAll_mk0)) (fun sp hsp => (trodAll_cons_mk (ops_stay h0 hg (fun x hx => hlt x (by simp [hx])) (fun x hx => hsp x (by simp [hx]))) (trodAll_cons_mk (shut_int Try.underlying3 w1) (trodAll_cons_mk (shut_int Try.underlying3 w2) (trodAll_cons_mk (shut_int Try.underlying3 w3) trodAll_mk0))))) (fun _ _ => rfl) (by simp) (hg.frame _)⟩

theorem over : Rows.tableAgainRow.holds Try.pinned (OpenSpec.ofChange Rows.tableAgainSpec) :=
  OpenClaim.holds_of_wide 3 Try.f3 rfl rfl rfl rfl rfl rfl rfl ⟨rfl, rfl, rfl, rfl, rfl⟩ rfl rfl rfl rfl rfl (by kernel_rfl) Try.func3 (by kernel_rfl)
    (of_decide_eq_true (by kernel_rfl)) (by unfold Func.isWrapper; first | (rw [if_pos (by decide +kernel)]; kernel_rfl) | (rw [if_neg (by decide +kernel)]; exact ⟨rfl, rfl⟩))
    (fun os started H enc _ => lifted os started H enc)

theorem proved : Rows.TableAgainSaid :=
  over
#print axioms proved
end Go.Proofs.Ytojnkfdodjcnfab.tableAgain
