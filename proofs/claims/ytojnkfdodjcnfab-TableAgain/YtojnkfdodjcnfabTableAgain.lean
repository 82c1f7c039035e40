/- TableAgain is proved: for every list of operations, key and values the call returns true (a key that is put in twice has what came last, and is one; where there is no room for it, it is refused). -/
import Derived.Test.YtojnkfdodjcnfabRows
import Derived.Test.YtojnkfdodjcnfabKf
import Derived.Test.YtojnkfdodjcnfabTl
import Derived.Test.YtojnkfdodjcnfabArgOps
import Derived.Deep.DeepCutAuto
import Derived.Deep.RegionHeld3

namespace Go.Proofs.Ytojnkfdodjcnfab.tableAgain
open Go.ChangeShapes Go.WideShapes Go.ChangeAt Go.RowKit
set_option linter.unusedVariables false

theorem own : ownKnob Try.prog.godebug = none := by kernel_rfl

set_option maxHeartbeats 4000000 in
theorem walk (v0 : Value) (n0 : Nat) (a1 a2 a3 : Int) (w1 : (Lit.int .i64 a1).wf = true) (w2 : (Lit.int .i64 a2).wf = true) (w3 : (Lit.int .i64 a3).wf = true) (w : World) (D0 : Ops w v0 n0) :
    Calls Try.prog 3 #[v0, .int .i64 a1, .int .i64 a2, .int .i64 a3] w fun e w' => e = .returned (.bool true) ∧ Below w.heap.size w w' := by
  obtain ⟨na, ea, hd⟩ := slots_array
  have HD : Hid _ := hd
  clear hd
  have HS : Hid (∀ t : Tb, (Try.prog.info? 27).map (·.size) = some t.all.length) := slots_size
  have HZ : Hid (∀ t : Tb, (Try.prog.info? 27).map (·.size) = some t.all.toArray.size) := slots_size2
  have HT : Hid ((Try.prog.info? 25).map (·.size) = some 2) := slot_size
  have HA : Hid ((Try.prog.info? 31).map (·.size) = some 2) := answer_size
  obtain ⟨fs, ha⟩ := answer_struct
  have HDA : Hid _ := ha
  clear ha
  have EQ := slots_equal
  have FD0 := field0
  have FD1 := field1
  have g0 : Hid (Gd w.heap.size w w) := Gd.refl w
  have HD0 : Hid (Ops w v0 n0) := D0
  clear D0
  clear w1 w2 w3
  obtain ⟨r1, hr1, pr1⟩ := pick_12 a1
  have Pr1 : Hid _ := pr1
  clear pr1
  obtain ⟨r2, hr2, pr2⟩ := pick_1000 a2
  have Pr2 : Hid _ := pr2
  clear pr2
  obtain ⟨r3, hr3, pr3⟩ := pick_1000 a3
  have Pr3 : Hid _ := pr3
  clear pr3
  obtain ⟨k, ek⟩ : ∃ k : Int, 1 + (r1 : Int) = k := ⟨_, rfl⟩
  have hk1 : 1 ≤ k := by omega
  have hk2 : k ≤ 12 := by omega
  obtain ⟨v, ev⟩ : ∃ v : Int, (r2 : Int) = v := ⟨_, rfl⟩
  have hv0 : 0 ≤ v := by omega
  have hv1 : v ≤ 4294967295 := by omega
  obtain ⟨x, ex⟩ : ∃ x : Int, (r3 : Int) = x := ⟨_, rfl⟩
  have hx0 : 0 ≤ x := by omega
  have hx1 : x ≤ 4294967295 := by omega
  rw [ev] at Pr2
  rw [ex] at Pr3
  clear ev ex hr2 hr3
  go_enter Try.func3, Try.ntmps3
  go_wp2_with fail
  generalize w.heap.size = n at g0 ⊢
  refine (tabled_is _).mono ?_
  rintro e u869q ⟨rfl, hb⟩
  have h870q : Hid (Gd n w u869q) := g0.out.later hb
  clear g0
  clear hb
  go_wp2_with fail
  refine (filled_is (HD0.out.later h870q.out.2)).mono ?_
  rintro e u871q ⟨t, hR, rfl, hb⟩
  have h872q : Hid (Gd n w u871q) := h870q.out.later hb
  clear h870q
  clear hb
  have R : Hid (RT t) := hR
  clear hR HD0
  have l873q : n ≤ u871q.heap.size := h872q.out.le
  have h874q : Hid (Gd n w (u871q.alloc (.cells #[.int .i64 0, .int .i64 0, .int .i64 0, .int .i64 0, .int .i64 0, .int .i64 0, .int .i64 0, .int .i64 0, .int .i64 0, .int .i64 0, .int .i64 0, .int .i64 0, .int .i64 0, .int .i64 0, .int .i64 0, .int .i64 0] 27))) := h872q.out.new (.cells #[.int .i64 0, .int .i64 0, .int .i64 0, .int .i64 0, .int .i64 0, .int .i64 0, .int .i64 0, .int .i64 0, .int .i64 0, .int .i64 0, .int .i64 0, .int .i64 0, .int .i64 0, .int .i64 0, .int .i64 0, .int .i64 0] 27)
  clear h872q
  have h875q : Hid (TAt (u871q.alloc (.cells #[.int .i64 0, .int .i64 0, .int .i64 0, .int .i64 0, .int .i64 0, .int .i64 0, .int .i64 0, .int .i64 0, .int .i64 0, .int .i64 0, .int .i64 0, .int .i64 0, .int .i64 0, .int .i64 0, .int .i64 0, .int .i64 0] 27)) u871q.heap.size Tb.zero) := TAt.bornZero u871q 27 (by simp)
  go_wp2_with (first
    | (refine wpList_store_mid rfl 27 _ _ rfl u871q.heap.size _ t.all.toArray rfl rfl (h875q.out.thereOf t) (HZ.out t) (t.all_all) ?_
       have h876q : Hid (Gd n w ((u871q.alloc (.cells #[.int .i64 0, .int .i64 0, .int .i64 0, .int .i64 0, .int .i64 0, .int .i64 0, .int .i64 0, .int .i64 0, .int .i64 0, .int .i64 0, .int .i64 0, .int .i64 0, .int .i64 0, .int .i64 0, .int .i64 0, .int .i64 0] 27)).setCells u871q.heap.size 0 t.all)) := h874q.out.asideAll (by omega) t
       have h877q : Hid (TAt ((u871q.alloc (.cells #[.int .i64 0, .int .i64 0, .int .i64 0, .int .i64 0, .int .i64 0, .int .i64 0, .int .i64 0, .int .i64 0, .int .i64 0, .int .i64 0, .int .i64 0, .int .i64 0, .int .i64 0, .int .i64 0, .int .i64 0, .int .i64 0] 27)).setCells u871q.heap.size 0 t.all) u871q.heap.size t) := h875q.out.setAll t
       clear h874q h875q
       generalize ((u871q.alloc (.cells #[.int .i64 0, .int .i64 0, .int .i64 0, .int .i64 0, .int .i64 0, .int .i64 0, .int .i64 0, .int .i64 0, .int .i64 0, .int .i64 0, .int .i64 0, .int .i64 0, .int .i64 0, .int .i64 0, .int .i64 0, .int .i64 0] 27)).setCells u871q.heap.size 0 t.all) = u878q at h876q h877q  ⊢))
  refine (Pr1.out _).mono ?_
  rintro e u879q ⟨rfl, hw⟩
  rw [hw]; clear hw u879q
  go_wp2_with fail
  clear ek hr1 Pr1
  rcases puts R.out (k := k) (x := v) hk1 (by omega) hv0 hv1 with ⟨hu, -, -⟩ | ⟨u, hu, hF⟩
  · have DO := tDo_eq t 1 k v
    rw [show tdo t 1 k v = (t, 3, 0) from hu] at DO
    unfold Told at DO
    dsimp only at DO
    clear hu
    go_cut [10] (fun s10 wx => ∃ b_a : Nat, s10 = .pointer (some ⟨b_a, 0, none⟩) ∧ Hid (Gd n w wx) ∧ Hid (TAt wx u871q.heap.size t) ∧ Hid (Bo wx b_a [.int .i64 (3), .int .i64 (0)]))
    case first =>
      have h880q : Hid (Gd n w u878q.drew) := h876q.out.drew
      have h881q : Hid (TAt u878q.drew u871q.heap.size t) := h877q.out.drew
      clear h876q h877q
      refine wp_region_held_drew (S := fun w' => True) (by kernel_rfl) trivial (fun hH => ?_)
      generalize u878q.drew = u882q at h880q h881q hH ⊢
      refine wpAnyH_take (i := 1) (oi := { dst := some 22, op := .move (.tmp 1), type := _, pos := _, after := _, guard := _ }) (v := ?_) rfl (by kernel_rfl) (by kernel_rfl) (by kernel_rfl) (fun _ _ _ h => h) (Or.inl ⟨by rfl, ?_⟩) hH ?_
      rotate_left
      · intro w hSw
        clear hSw
        go_simp
        try with_reducible rfl
      simp only [Act.put, List.setIfInBounds_toArray, List.set_cons_zero, List.set_cons_succ]
      refine wpAnyH_take (i := 2) (oi := { dst := some 23, op := .move (.tmp 2), type := _, pos := _, after := _, guard := _ }) (v := ?_) rfl (by kernel_rfl) (by kernel_rfl) (by kernel_rfl) (fun _ _ _ h => h) (Or.inl ⟨by rfl, ?_⟩) hH ?_
      rotate_left
      · intro w hSw
        clear hSw
        go_simp
        try with_reducible rfl
      simp only [Act.put, List.setIfInBounds_toArray, List.set_cons_zero, List.set_cons_succ]
      refine wpAnyH_ready (rs := [0, 3, 9]) (by kernel_rfl) (by simp) ?_
      refine AllReadyH.cons (o := { dst := some 21, op := .load _ (.tmp 9), type := _, pos := _, after := _, guard := _ }) rfl (fun K hK => ?_) ?_
      · rw [if_pos (by rfl)]
        refine wp_load_mid _ _ rfl u871q.heap.size _ rfl t.all _ h881q.out.range HD.out rfl (HS.out t) ?_
        simp only [Act.put, List.setIfInBounds_toArray, List.set_cons_zero, List.set_cons_succ]
        refine hK.out _ _ trivial (fun hH => ?_)
        clear hK K
        try simp only [Act.put, List.setIfInBounds_toArray, List.set_cons_zero, List.set_cons_succ]
        refine wpAnyH_ready (rs := [3, 9]) (by kernel_rfl) (by simp) ?_
        refine AllReadyH.cons (o := { dst := some 24, op := _, type := _, pos := _, after := _, guard := _ }) rfl (fun K hK => ?_) ?_
        · go_simp
          refine (Pr2.out _).mono ?_
          rintro e u883q ⟨rfl, hw⟩
          rw [hw]; clear hw u883q
          go_wp2_with fail
          refine hK.out _ _ trivial (fun hH => ?_)
          clear hK K
          try simp only [Act.put, List.setIfInBounds_toArray, List.set_cons_zero, List.set_cons_succ]
          refine wpAnyH_take (i := 4) (oi := { dst := some 25, op := .build _ #[(0, .const (.int .i64 1)), (1, .tmp 22), (2, .tmp 24)], type := _, pos := _, after := _, guard := _ }) (v := ?_) rfl (by kernel_rfl) (by kernel_rfl) (by kernel_rfl) (fun _ _ _ h => h) (Or.inl ⟨by rfl, ?_⟩) hH ?_
          rotate_left
          · intro w hSw
            clear hSw
            go_simp
            try with_reducible rfl
          simp only [Act.put, List.setIfInBounds_toArray, List.set_cons_zero, List.set_cons_succ]
          refine wpAnyH_ready (rs := [5, 9]) (by kernel_rfl) (by simp) ?_
          refine AllReadyH.cons (o := { dst := some 26, op := _, type := _, pos := _, after := _, guard := _ }) rfl (fun K hK => ?_) ?_
          · go_simp
            refine (DO _).mono ?_
            rintro e u884q ⟨rfl, hb⟩
            have h885q : Hid (Gd n w u884q) := h880q.out.later hb
            have h886q : Hid (TAt u884q u871q.heap.size t) := h881q.out.later hb
            clear h880q h881q
            clear hb
            go_wp2_with fail
            refine hK.out _ _ trivial (fun hH => ?_)
            clear hK K
            try simp only [Act.put, List.setIfInBounds_toArray, List.set_cons_zero, List.set_cons_succ]
            refine wpAnyH_take (i := 6) (oi := { dst := some 20, op := .move (.tmp 26), type := _, pos := _, after := _, guard := _ }) (v := ?_) rfl (by kernel_rfl) (by kernel_rfl) (by kernel_rfl) (fun _ _ _ h => h) (Or.inl ⟨by rfl, ?_⟩) hH ?_
            rotate_left
            · intro w hSw
              clear hSw
              go_simp
              try with_reducible rfl
            simp only [Act.put, List.setIfInBounds_toArray, List.set_cons_zero, List.set_cons_succ]
            refine wpAnyH_take (i := 7) (oi := { dst := some 27, op := .extract (.tmp 20) 0, type := _, pos := _, after := _, guard := _ }) (v := ?_) rfl (by kernel_rfl) (by kernel_rfl) (by kernel_rfl) (fun _ _ _ h => h) (Or.inl ⟨by rfl, ?_⟩) hH ?_
            rotate_left
            · intro w hSw
              clear hSw
              go_simp
              try with_reducible rfl
            simp only [Act.put, List.setIfInBounds_toArray, List.set_cons_zero, List.set_cons_succ]
            refine wpAnyH_take (i := 8) (oi := { dst := some 28, op := .extract (.tmp 20) 1, type := _, pos := _, after := _, guard := _ }) (v := ?_) rfl (by kernel_rfl) (by kernel_rfl) (by kernel_rfl) (fun _ _ _ h => h) (Or.inl ⟨by rfl, ?_⟩) hH ?_
            rotate_left
            · intro w hSw
              clear hSw
              go_simp
              try with_reducible rfl
            simp only [Act.put, List.setIfInBounds_toArray, List.set_cons_zero, List.set_cons_succ]
            refine wpAnyH_ready (rs := [9]) (by kernel_rfl) (by simp) ?_
            refine AllReadyH.cons (o := { dst := some 10, op := .alloc _, type := _, pos := _, after := _, guard := _ }) rfl (fun K hK => ?_) AllReadyH.nil
            have l887q : n ≤ u884q.heap.size := h885q.out.le
            have l888q : u871q.heap.size < u884q.heap.size := h886q.out.lt
            go_simp
            have h889q : Hid (Gd n w (u884q.alloc (.cells #[.int .i64 0, .int .i64 0] 31))) := h885q.out.new (.cells #[.int .i64 0, .int .i64 0] 31)
            have h890q : Hid (TAt (u884q.alloc (.cells #[.int .i64 0, .int .i64 0] 31)) u871q.heap.size t) := h886q.out.new (.cells #[.int .i64 0, .int .i64 0] 31)
            clear h885q h886q
            have h891q : Hid (Bo (u884q.alloc (.cells #[.int .i64 0, .int .i64 0] 31)) u884q.heap.size [.int .i64 0, .int .i64 0]) := Bo.born u884q [.int .i64 0, .int .i64 0] 31 (by simp)
            refine hK.out _ _ trivial (fun hH => ?_)
            clear hK K
            generalize (u884q.alloc (.cells #[.int .i64 0, .int .i64 0] 31)) = u892q at h889q h890q h891q hH ⊢
            try simp only [Act.put, List.setIfInBounds_toArray, List.set_cons_zero, List.set_cons_succ]
            refine wpAnyH_ready (rs := [10]) (by kernel_rfl) (by simp) ?_
            refine AllReadyH.cons (o := { dst := none, op := .store _ (.tmp 9) (.tmp 27), type := _, pos := _, after := _, guard := _ }) rfl (fun K hK => ?_) AllReadyH.nil
            rw [if_pos (by rfl)]
            refine wp_store_mid _ _ _ rfl u871q.heap.size _ t.all.toArray rfl rfl (h890q.out.thereOf t) (HZ.out t) (t.all_all) ?_
            simp only [Act.put]
            have h893q : Hid (Gd n w (u892q.setCells u871q.heap.size 0 t.all)) := h889q.out.asideAll (by omega) t
            have h894q : Hid (TAt (u892q.setCells u871q.heap.size 0 t.all) u871q.heap.size t) := h890q.out.setAll t
            have h895q : Hid (Bo (u892q.setCells u871q.heap.size 0 t.all) u884q.heap.size [.int .i64 0, .int .i64 0]) := h891q.out.asideAll (by omega) t
            clear h889q h890q h891q
            refine hK.out _ _ trivial (fun hH => ?_)
            clear hK K
            generalize (u892q.setCells u871q.heap.size 0 t.all) = u896q at h893q h894q h895q hH ⊢
            try simp only [Act.put, List.setIfInBounds_toArray, List.set_cons_zero, List.set_cons_succ]
            refine wpAnyH_ready (rs := [11]) (by kernel_rfl) (by simp) ?_
            refine AllReadyH.cons (o := { dst := none, op := .store _ (.tmp 10) (.tmp 28), type := _, pos := _, after := _, guard := _ }) rfl (fun K hK => ?_) AllReadyH.nil
            rw [if_pos (by rfl)]
            refine wp_store_mid _ _ _ rfl u884q.heap.size _ #[.int .i64 (3), .int .i64 (0)] rfl rfl h895q.out.there2 HA.out (two_one _ _) ?_
            simp only [Act.put]
            have h897q : Hid (Gd n w (u896q.setCells u884q.heap.size 0 [.int .i64 (3), .int .i64 (0)])) := h893q.out.asideL (by omega) 0 [.int .i64 (3), .int .i64 (0)]
            have h898q : Hid (TAt (u896q.setCells u884q.heap.size 0 [.int .i64 (3), .int .i64 (0)]) u871q.heap.size t) := h894q.out.asideL (by omega) 0 [.int .i64 (3), .int .i64 (0)]
            have h899q : Hid (Bo (u896q.setCells u884q.heap.size 0 [.int .i64 (3), .int .i64 (0)]) u884q.heap.size [.int .i64 (3), .int .i64 (0)]) := h895q.out.set2 (.int .i64 (3)) (.int .i64 (0))
            clear h893q h894q h895q
            refine hK.out _ _ trivial (fun hH => ?_)
            clear hK K
            generalize (u896q.setCells u884q.heap.size 0 [.int .i64 (3), .int .i64 (0)]) = u900q at h897q h898q h899q hH ⊢
            try simp only [Act.put, List.setIfInBounds_toArray, List.set_cons_zero, List.set_cons_succ]
            refine wpAnyH_done (by kernel_rfl) ?_ _
            go_wp2_with fail
            go_meet
            case rel => exact ⟨u884q.heap.size, rfl, h897q, h898q, h899q⟩
          refine AllReadyH.cons (o := { dst := some 10, op := .alloc _, type := _, pos := _, after := _, guard := _ }) rfl (fun K hK => ?_) AllReadyH.nil
          have l901q : n ≤ u882q.heap.size := h880q.out.le
          have l902q : u871q.heap.size < u882q.heap.size := h881q.out.lt
          go_simp
          have h903q : Hid (Gd n w (u882q.alloc (.cells #[.int .i64 0, .int .i64 0] 31))) := h880q.out.new (.cells #[.int .i64 0, .int .i64 0] 31)
          have h904q : Hid (TAt (u882q.alloc (.cells #[.int .i64 0, .int .i64 0] 31)) u871q.heap.size t) := h881q.out.new (.cells #[.int .i64 0, .int .i64 0] 31)
          clear h880q h881q
          have h905q : Hid (Bo (u882q.alloc (.cells #[.int .i64 0, .int .i64 0] 31)) u882q.heap.size [.int .i64 0, .int .i64 0]) := Bo.born u882q [.int .i64 0, .int .i64 0] 31 (by simp)
          refine hK.out _ _ trivial (fun hH => ?_)
          clear hK K
          generalize (u882q.alloc (.cells #[.int .i64 0, .int .i64 0] 31)) = u906q at h903q h904q h905q hH ⊢
          try simp only [Act.put, List.setIfInBounds_toArray, List.set_cons_zero, List.set_cons_succ]
          refine wpAnyH_ready (rs := [5]) (by kernel_rfl) (by simp) ?_
          refine AllReadyH.cons (o := { dst := some 26, op := _, type := _, pos := _, after := _, guard := _ }) rfl (fun K hK => ?_) AllReadyH.nil
          go_simp
          refine (DO _).mono ?_
          rintro e u907q ⟨rfl, hb⟩
          have h908q : Hid (Gd n w u907q) := h903q.out.later hb
          have h909q : Hid (TAt u907q u871q.heap.size t) := h904q.out.later hb
          have h910q : Hid (Bo u907q u882q.heap.size [.int .i64 0, .int .i64 0]) := h905q.out.later hb
          clear h903q h904q h905q
          clear hb
          go_wp2_with fail
          refine hK.out _ _ trivial (fun hH => ?_)
          clear hK K
          try simp only [Act.put, List.setIfInBounds_toArray, List.set_cons_zero, List.set_cons_succ]
          refine wpAnyH_take (i := 6) (oi := { dst := some 20, op := .move (.tmp 26), type := _, pos := _, after := _, guard := _ }) (v := ?_) rfl (by kernel_rfl) (by kernel_rfl) (by kernel_rfl) (fun _ _ _ h => h) (Or.inl ⟨by rfl, ?_⟩) hH ?_
          rotate_left
          · intro w hSw
            clear hSw
            go_simp
            try with_reducible rfl
          simp only [Act.put, List.setIfInBounds_toArray, List.set_cons_zero, List.set_cons_succ]
          refine wpAnyH_take (i := 7) (oi := { dst := some 27, op := .extract (.tmp 20) 0, type := _, pos := _, after := _, guard := _ }) (v := ?_) rfl (by kernel_rfl) (by kernel_rfl) (by kernel_rfl) (fun _ _ _ h => h) (Or.inl ⟨by rfl, ?_⟩) hH ?_
          rotate_left
          · intro w hSw
            clear hSw
            go_simp
            try with_reducible rfl
          simp only [Act.put, List.setIfInBounds_toArray, List.set_cons_zero, List.set_cons_succ]
          refine wpAnyH_take (i := 8) (oi := { dst := some 28, op := .extract (.tmp 20) 1, type := _, pos := _, after := _, guard := _ }) (v := ?_) rfl (by kernel_rfl) (by kernel_rfl) (by kernel_rfl) (fun _ _ _ h => h) (Or.inl ⟨by rfl, ?_⟩) hH ?_
          rotate_left
          · intro w hSw
            clear hSw
            go_simp
            try with_reducible rfl
          simp only [Act.put, List.setIfInBounds_toArray, List.set_cons_zero, List.set_cons_succ]
          refine wpAnyH_ready (rs := [10]) (by kernel_rfl) (by simp) ?_
          refine AllReadyH.cons (o := { dst := none, op := .store _ (.tmp 9) (.tmp 27), type := _, pos := _, after := _, guard := _ }) rfl (fun K hK => ?_) AllReadyH.nil
          rw [if_pos (by rfl)]
          refine wp_store_mid _ _ _ rfl u871q.heap.size _ t.all.toArray rfl rfl (h909q.out.thereOf t) (HZ.out t) (t.all_all) ?_
          simp only [Act.put]
          have h911q : Hid (Gd n w (u907q.setCells u871q.heap.size 0 t.all)) := h908q.out.asideAll (by omega) t
          have h912q : Hid (TAt (u907q.setCells u871q.heap.size 0 t.all) u871q.heap.size t) := h909q.out.setAll t
          have h913q : Hid (Bo (u907q.setCells u871q.heap.size 0 t.all) u882q.heap.size [.int .i64 0, .int .i64 0]) := h910q.out.asideAll (by omega) t
          clear h908q h909q h910q
          refine hK.out _ _ trivial (fun hH => ?_)
          clear hK K
          generalize (u907q.setCells u871q.heap.size 0 t.all) = u914q at h911q h912q h913q hH ⊢
          try simp only [Act.put, List.setIfInBounds_toArray, List.set_cons_zero, List.set_cons_succ]
          refine wpAnyH_ready (rs := [11]) (by kernel_rfl) (by simp) ?_
          refine AllReadyH.cons (o := { dst := none, op := .store _ (.tmp 10) (.tmp 28), type := _, pos := _, after := _, guard := _ }) rfl (fun K hK => ?_) AllReadyH.nil
          rw [if_pos (by rfl)]
          refine wp_store_mid _ _ _ rfl u882q.heap.size _ #[.int .i64 (3), .int .i64 (0)] rfl rfl h913q.out.there2 HA.out (two_one _ _) ?_
          simp only [Act.put]
          have h915q : Hid (Gd n w (u914q.setCells u882q.heap.size 0 [.int .i64 (3), .int .i64 (0)])) := h911q.out.asideL (by omega) 0 [.int .i64 (3), .int .i64 (0)]
          have h916q : Hid (TAt (u914q.setCells u882q.heap.size 0 [.int .i64 (3), .int .i64 (0)]) u871q.heap.size t) := h912q.out.asideL (by omega) 0 [.int .i64 (3), .int .i64 (0)]
          have h917q : Hid (Bo (u914q.setCells u882q.heap.size 0 [.int .i64 (3), .int .i64 (0)]) u882q.heap.size [.int .i64 (3), .int .i64 (0)]) := h913q.out.set2 (.int .i64 (3)) (.int .i64 (0))
          clear h911q h912q h913q
          refine hK.out _ _ trivial (fun hH => ?_)
          clear hK K
          generalize (u914q.setCells u882q.heap.size 0 [.int .i64 (3), .int .i64 (0)]) = u918q at h915q h916q h917q hH ⊢
          try simp only [Act.put, List.setIfInBounds_toArray, List.set_cons_zero, List.set_cons_succ]
          refine wpAnyH_done (by kernel_rfl) ?_ _
          go_wp2_with fail
          go_meet
          case rel => exact ⟨u882q.heap.size, rfl, h915q, h916q, h917q⟩
        refine AllReadyH.cons (o := { dst := some 10, op := .alloc _, type := _, pos := _, after := _, guard := _ }) rfl (fun K hK => ?_) AllReadyH.nil
        have l919q : n ≤ u882q.heap.size := h880q.out.le
        have l920q : u871q.heap.size < u882q.heap.size := h881q.out.lt
        go_simp
        have h921q : Hid (Gd n w (u882q.alloc (.cells #[.int .i64 0, .int .i64 0] 31))) := h880q.out.new (.cells #[.int .i64 0, .int .i64 0] 31)
        have h922q : Hid (TAt (u882q.alloc (.cells #[.int .i64 0, .int .i64 0] 31)) u871q.heap.size t) := h881q.out.new (.cells #[.int .i64 0, .int .i64 0] 31)
        clear h880q h881q
        have h923q : Hid (Bo (u882q.alloc (.cells #[.int .i64 0, .int .i64 0] 31)) u882q.heap.size [.int .i64 0, .int .i64 0]) := Bo.born u882q [.int .i64 0, .int .i64 0] 31 (by simp)
        refine hK.out _ _ trivial (fun hH => ?_)
        clear hK K
        generalize (u882q.alloc (.cells #[.int .i64 0, .int .i64 0] 31)) = u924q at h921q h922q h923q hH ⊢
        try simp only [Act.put, List.setIfInBounds_toArray, List.set_cons_zero, List.set_cons_succ]
        refine wpAnyH_ready (rs := [3]) (by kernel_rfl) (by simp) ?_
        refine AllReadyH.cons (o := { dst := some 24, op := _, type := _, pos := _, after := _, guard := _ }) rfl (fun K hK => ?_) AllReadyH.nil
        go_simp
        refine (Pr2.out _).mono ?_
        rintro e u925q ⟨rfl, hw⟩
        rw [hw]; clear hw u925q
        go_wp2_with fail
        refine hK.out _ _ trivial (fun hH => ?_)
        clear hK K
        try simp only [Act.put, List.setIfInBounds_toArray, List.set_cons_zero, List.set_cons_succ]
        refine wpAnyH_take (i := 4) (oi := { dst := some 25, op := .build _ #[(0, .const (.int .i64 1)), (1, .tmp 22), (2, .tmp 24)], type := _, pos := _, after := _, guard := _ }) (v := ?_) rfl (by kernel_rfl) (by kernel_rfl) (by kernel_rfl) (fun _ _ _ h => h) (Or.inl ⟨by rfl, ?_⟩) hH ?_
        rotate_left
        · intro w hSw
          clear hSw
          go_simp
          try with_reducible rfl
        simp only [Act.put, List.setIfInBounds_toArray, List.set_cons_zero, List.set_cons_succ]
        refine wpAnyH_ready (rs := [5]) (by kernel_rfl) (by simp) ?_
        refine AllReadyH.cons (o := { dst := some 26, op := _, type := _, pos := _, after := _, guard := _ }) rfl (fun K hK => ?_) AllReadyH.nil
        go_simp
        refine (DO _).mono ?_
        rintro e u926q ⟨rfl, hb⟩
        have h927q : Hid (Gd n w u926q) := h921q.out.later hb
        have h928q : Hid (TAt u926q u871q.heap.size t) := h922q.out.later hb
        have h929q : Hid (Bo u926q u882q.heap.size [.int .i64 0, .int .i64 0]) := h923q.out.later hb
        clear h921q h922q h923q
        clear hb
        go_wp2_with fail
        refine hK.out _ _ trivial (fun hH => ?_)
        clear hK K
        try simp only [Act.put, List.setIfInBounds_toArray, List.set_cons_zero, List.set_cons_succ]
        refine wpAnyH_take (i := 6) (oi := { dst := some 20, op := .move (.tmp 26), type := _, pos := _, after := _, guard := _ }) (v := ?_) rfl (by kernel_rfl) (by kernel_rfl) (by kernel_rfl) (fun _ _ _ h => h) (Or.inl ⟨by rfl, ?_⟩) hH ?_
        rotate_left
        · intro w hSw
          clear hSw
          go_simp
          try with_reducible rfl
        simp only [Act.put, List.setIfInBounds_toArray, List.set_cons_zero, List.set_cons_succ]
        refine wpAnyH_take (i := 7) (oi := { dst := some 27, op := .extract (.tmp 20) 0, type := _, pos := _, after := _, guard := _ }) (v := ?_) rfl (by kernel_rfl) (by kernel_rfl) (by kernel_rfl) (fun _ _ _ h => h) (Or.inl ⟨by rfl, ?_⟩) hH ?_
        rotate_left
        · intro w hSw
          clear hSw
          go_simp
          try with_reducible rfl
        simp only [Act.put, List.setIfInBounds_toArray, List.set_cons_zero, List.set_cons_succ]
        refine wpAnyH_take (i := 8) (oi := { dst := some 28, op := .extract (.tmp 20) 1, type := _, pos := _, after := _, guard := _ }) (v := ?_) rfl (by kernel_rfl) (by kernel_rfl) (by kernel_rfl) (fun _ _ _ h => h) (Or.inl ⟨by rfl, ?_⟩) hH ?_
        rotate_left
        · intro w hSw
          clear hSw
          go_simp
          try with_reducible rfl
        simp only [Act.put, List.setIfInBounds_toArray, List.set_cons_zero, List.set_cons_succ]
        refine wpAnyH_ready (rs := [10]) (by kernel_rfl) (by simp) ?_
        refine AllReadyH.cons (o := { dst := none, op := .store _ (.tmp 9) (.tmp 27), type := _, pos := _, after := _, guard := _ }) rfl (fun K hK => ?_) AllReadyH.nil
        rw [if_pos (by rfl)]
        refine wp_store_mid _ _ _ rfl u871q.heap.size _ t.all.toArray rfl rfl (h928q.out.thereOf t) (HZ.out t) (t.all_all) ?_
        simp only [Act.put]
        have h930q : Hid (Gd n w (u926q.setCells u871q.heap.size 0 t.all)) := h927q.out.asideAll (by omega) t
        have h931q : Hid (TAt (u926q.setCells u871q.heap.size 0 t.all) u871q.heap.size t) := h928q.out.setAll t
        have h932q : Hid (Bo (u926q.setCells u871q.heap.size 0 t.all) u882q.heap.size [.int .i64 0, .int .i64 0]) := h929q.out.asideAll (by omega) t
        clear h927q h928q h929q
        refine hK.out _ _ trivial (fun hH => ?_)
        clear hK K
        generalize (u926q.setCells u871q.heap.size 0 t.all) = u933q at h930q h931q h932q hH ⊢
        try simp only [Act.put, List.setIfInBounds_toArray, List.set_cons_zero, List.set_cons_succ]
        refine wpAnyH_ready (rs := [11]) (by kernel_rfl) (by simp) ?_
        refine AllReadyH.cons (o := { dst := none, op := .store _ (.tmp 10) (.tmp 28), type := _, pos := _, after := _, guard := _ }) rfl (fun K hK => ?_) AllReadyH.nil
        rw [if_pos (by rfl)]
        refine wp_store_mid _ _ _ rfl u882q.heap.size _ #[.int .i64 (3), .int .i64 (0)] rfl rfl h932q.out.there2 HA.out (two_one _ _) ?_
        simp only [Act.put]
        have h934q : Hid (Gd n w (u933q.setCells u882q.heap.size 0 [.int .i64 (3), .int .i64 (0)])) := h930q.out.asideL (by omega) 0 [.int .i64 (3), .int .i64 (0)]
        have h935q : Hid (TAt (u933q.setCells u882q.heap.size 0 [.int .i64 (3), .int .i64 (0)]) u871q.heap.size t) := h931q.out.asideL (by omega) 0 [.int .i64 (3), .int .i64 (0)]
        have h936q : Hid (Bo (u933q.setCells u882q.heap.size 0 [.int .i64 (3), .int .i64 (0)]) u882q.heap.size [.int .i64 (3), .int .i64 (0)]) := h932q.out.set2 (.int .i64 (3)) (.int .i64 (0))
        clear h930q h931q h932q
        refine hK.out _ _ trivial (fun hH => ?_)
        clear hK K
        generalize (u933q.setCells u882q.heap.size 0 [.int .i64 (3), .int .i64 (0)]) = u937q at h934q h935q h936q hH ⊢
        try simp only [Act.put, List.setIfInBounds_toArray, List.set_cons_zero, List.set_cons_succ]
        refine wpAnyH_done (by kernel_rfl) ?_ _
        go_wp2_with fail
        go_meet
        case rel => exact ⟨u882q.heap.size, rfl, h934q, h935q, h936q⟩
      refine AllReadyH.cons (o := { dst := some 24, op := _, type := _, pos := _, after := _, guard := _ }) rfl (fun K hK => ?_) ?_
      · go_simp
        refine (Pr2.out _).mono ?_
        rintro e u938q ⟨rfl, hw⟩
        rw [hw]; clear hw u938q
        go_wp2_with fail
        refine hK.out _ _ trivial (fun hH => ?_)
        clear hK K
        try simp only [Act.put, List.setIfInBounds_toArray, List.set_cons_zero, List.set_cons_succ]
        refine wpAnyH_take (i := 4) (oi := { dst := some 25, op := .build _ #[(0, .const (.int .i64 1)), (1, .tmp 22), (2, .tmp 24)], type := _, pos := _, after := _, guard := _ }) (v := ?_) rfl (by kernel_rfl) (by kernel_rfl) (by kernel_rfl) (fun _ _ _ h => h) (Or.inl ⟨by rfl, ?_⟩) hH ?_
        rotate_left
        · intro w hSw
          clear hSw
          go_simp
          try with_reducible rfl
        simp only [Act.put, List.setIfInBounds_toArray, List.set_cons_zero, List.set_cons_succ]
        refine wpAnyH_ready (rs := [0, 9]) (by kernel_rfl) (by simp) ?_
        refine AllReadyH.cons (o := { dst := some 21, op := .load _ (.tmp 9), type := _, pos := _, after := _, guard := _ }) rfl (fun K hK => ?_) ?_
        · rw [if_pos (by rfl)]
          refine wp_load_mid _ _ rfl u871q.heap.size _ rfl t.all _ h881q.out.range HD.out rfl (HS.out t) ?_
          simp only [Act.put, List.setIfInBounds_toArray, List.set_cons_zero, List.set_cons_succ]
          refine hK.out _ _ trivial (fun hH => ?_)
          clear hK K
          try simp only [Act.put, List.setIfInBounds_toArray, List.set_cons_zero, List.set_cons_succ]
          refine wpAnyH_ready (rs := [5, 9]) (by kernel_rfl) (by simp) ?_
          refine AllReadyH.cons (o := { dst := some 26, op := _, type := _, pos := _, after := _, guard := _ }) rfl (fun K hK => ?_) ?_
          · go_simp
            refine (DO _).mono ?_
            rintro e u939q ⟨rfl, hb⟩
            have h940q : Hid (Gd n w u939q) := h880q.out.later hb
            have h941q : Hid (TAt u939q u871q.heap.size t) := h881q.out.later hb
            clear h880q h881q
            clear hb
            go_wp2_with fail
            refine hK.out _ _ trivial (fun hH => ?_)
            clear hK K
            try simp only [Act.put, List.setIfInBounds_toArray, List.set_cons_zero, List.set_cons_succ]
            refine wpAnyH_take (i := 6) (oi := { dst := some 20, op := .move (.tmp 26), type := _, pos := _, after := _, guard := _ }) (v := ?_) rfl (by kernel_rfl) (by kernel_rfl) (by kernel_rfl) (fun _ _ _ h => h) (Or.inl ⟨by rfl, ?_⟩) hH ?_
            rotate_left
            · intro w hSw
              clear hSw
              go_simp
              try with_reducible rfl
            simp only [Act.put, List.setIfInBounds_toArray, List.set_cons_zero, List.set_cons_succ]
            refine wpAnyH_take (i := 7) (oi := { dst := some 27, op := .extract (.tmp 20) 0, type := _, pos := _, after := _, guard := _ }) (v := ?_) rfl (by kernel_rfl) (by kernel_rfl) (by kernel_rfl) (fun _ _ _ h => h) (Or.inl ⟨by rfl, ?_⟩) hH ?_
            rotate_left
            · intro w hSw
              clear hSw
              go_simp
              try with_reducible rfl
            simp only [Act.put, List.setIfInBounds_toArray, List.set_cons_zero, List.set_cons_succ]
            refine wpAnyH_take (i := 8) (oi := { dst := some 28, op := .extract (.tmp 20) 1, type := _, pos := _, after := _, guard := _ }) (v := ?_) rfl (by kernel_rfl) (by kernel_rfl) (by kernel_rfl) (fun _ _ _ h => h) (Or.inl ⟨by rfl, ?_⟩) hH ?_
            rotate_left
            · intro w hSw
              clear hSw
              go_simp
              try with_reducible rfl
            simp only [Act.put, List.setIfInBounds_toArray, List.set_cons_zero, List.set_cons_succ]
            refine wpAnyH_ready (rs := [9]) (by kernel_rfl) (by simp) ?_
            refine AllReadyH.cons (o := { dst := some 10, op := .alloc _, type := _, pos := _, after := _, guard := _ }) rfl (fun K hK => ?_) AllReadyH.nil
            have l942q : n ≤ u939q.heap.size := h940q.out.le
            have l943q : u871q.heap.size < u939q.heap.size := h941q.out.lt
            go_simp
            have h944q : Hid (Gd n w (u939q.alloc (.cells #[.int .i64 0, .int .i64 0] 31))) := h940q.out.new (.cells #[.int .i64 0, .int .i64 0] 31)
            have h945q : Hid (TAt (u939q.alloc (.cells #[.int .i64 0, .int .i64 0] 31)) u871q.heap.size t) := h941q.out.new (.cells #[.int .i64 0, .int .i64 0] 31)
            clear h940q h941q
            have h946q : Hid (Bo (u939q.alloc (.cells #[.int .i64 0, .int .i64 0] 31)) u939q.heap.size [.int .i64 0, .int .i64 0]) := Bo.born u939q [.int .i64 0, .int .i64 0] 31 (by simp)
            refine hK.out _ _ trivial (fun hH => ?_)
            clear hK K
            generalize (u939q.alloc (.cells #[.int .i64 0, .int .i64 0] 31)) = u947q at h944q h945q h946q hH ⊢
            try simp only [Act.put, List.setIfInBounds_toArray, List.set_cons_zero, List.set_cons_succ]
            refine wpAnyH_ready (rs := [10]) (by kernel_rfl) (by simp) ?_
            refine AllReadyH.cons (o := { dst := none, op := .store _ (.tmp 9) (.tmp 27), type := _, pos := _, after := _, guard := _ }) rfl (fun K hK => ?_) AllReadyH.nil
            rw [if_pos (by rfl)]
            refine wp_store_mid _ _ _ rfl u871q.heap.size _ t.all.toArray rfl rfl (h945q.out.thereOf t) (HZ.out t) (t.all_all) ?_
            simp only [Act.put]
            have h948q : Hid (Gd n w (u947q.setCells u871q.heap.size 0 t.all)) := h944q.out.asideAll (by omega) t
            have h949q : Hid (TAt (u947q.setCells u871q.heap.size 0 t.all) u871q.heap.size t) := h945q.out.setAll t
            have h950q : Hid (Bo (u947q.setCells u871q.heap.size 0 t.all) u939q.heap.size [.int .i64 0, .int .i64 0]) := h946q.out.asideAll (by omega) t
            clear h944q h945q h946q
            refine hK.out _ _ trivial (fun hH => ?_)
            clear hK K
            generalize (u947q.setCells u871q.heap.size 0 t.all) = u951q at h948q h949q h950q hH ⊢
            try simp only [Act.put, List.setIfInBounds_toArray, List.set_cons_zero, List.set_cons_succ]
            refine wpAnyH_ready (rs := [11]) (by kernel_rfl) (by simp) ?_
            refine AllReadyH.cons (o := { dst := none, op := .store _ (.tmp 10) (.tmp 28), type := _, pos := _, after := _, guard := _ }) rfl (fun K hK => ?_) AllReadyH.nil
            rw [if_pos (by rfl)]
            refine wp_store_mid _ _ _ rfl u939q.heap.size _ #[.int .i64 (3), .int .i64 (0)] rfl rfl h950q.out.there2 HA.out (two_one _ _) ?_
            simp only [Act.put]
            have h952q : Hid (Gd n w (u951q.setCells u939q.heap.size 0 [.int .i64 (3), .int .i64 (0)])) := h948q.out.asideL (by omega) 0 [.int .i64 (3), .int .i64 (0)]
            have h953q : Hid (TAt (u951q.setCells u939q.heap.size 0 [.int .i64 (3), .int .i64 (0)]) u871q.heap.size t) := h949q.out.asideL (by omega) 0 [.int .i64 (3), .int .i64 (0)]
            have h954q : Hid (Bo (u951q.setCells u939q.heap.size 0 [.int .i64 (3), .int .i64 (0)]) u939q.heap.size [.int .i64 (3), .int .i64 (0)]) := h950q.out.set2 (.int .i64 (3)) (.int .i64 (0))
            clear h948q h949q h950q
            refine hK.out _ _ trivial (fun hH => ?_)
            clear hK K
            generalize (u951q.setCells u939q.heap.size 0 [.int .i64 (3), .int .i64 (0)]) = u955q at h952q h953q h954q hH ⊢
            try simp only [Act.put, List.setIfInBounds_toArray, List.set_cons_zero, List.set_cons_succ]
            refine wpAnyH_done (by kernel_rfl) ?_ _
            go_wp2_with fail
            go_meet
            case rel => exact ⟨u939q.heap.size, rfl, h952q, h953q, h954q⟩
          refine AllReadyH.cons (o := { dst := some 10, op := .alloc _, type := _, pos := _, after := _, guard := _ }) rfl (fun K hK => ?_) AllReadyH.nil
          have l956q : n ≤ u882q.heap.size := h880q.out.le
          have l957q : u871q.heap.size < u882q.heap.size := h881q.out.lt
          go_simp
          have h958q : Hid (Gd n w (u882q.alloc (.cells #[.int .i64 0, .int .i64 0] 31))) := h880q.out.new (.cells #[.int .i64 0, .int .i64 0] 31)
          have h959q : Hid (TAt (u882q.alloc (.cells #[.int .i64 0, .int .i64 0] 31)) u871q.heap.size t) := h881q.out.new (.cells #[.int .i64 0, .int .i64 0] 31)
          clear h880q h881q
          have h960q : Hid (Bo (u882q.alloc (.cells #[.int .i64 0, .int .i64 0] 31)) u882q.heap.size [.int .i64 0, .int .i64 0]) := Bo.born u882q [.int .i64 0, .int .i64 0] 31 (by simp)
          refine hK.out _ _ trivial (fun hH => ?_)
          clear hK K
          generalize (u882q.alloc (.cells #[.int .i64 0, .int .i64 0] 31)) = u961q at h958q h959q h960q hH ⊢
          try simp only [Act.put, List.setIfInBounds_toArray, List.set_cons_zero, List.set_cons_succ]
          refine wpAnyH_ready (rs := [5]) (by kernel_rfl) (by simp) ?_
          refine AllReadyH.cons (o := { dst := some 26, op := _, type := _, pos := _, after := _, guard := _ }) rfl (fun K hK => ?_) AllReadyH.nil
          go_simp
          refine (DO _).mono ?_
          rintro e u962q ⟨rfl, hb⟩
          have h963q : Hid (Gd n w u962q) := h958q.out.later hb
          have h964q : Hid (TAt u962q u871q.heap.size t) := h959q.out.later hb
          have h965q : Hid (Bo u962q u882q.heap.size [.int .i64 0, .int .i64 0]) := h960q.out.later hb
          clear h958q h959q h960q
          clear hb
          go_wp2_with fail
          refine hK.out _ _ trivial (fun hH => ?_)
          clear hK K
          try simp only [Act.put, List.setIfInBounds_toArray, List.set_cons_zero, List.set_cons_succ]
          refine wpAnyH_take (i := 6) (oi := { dst := some 20, op := .move (.tmp 26), type := _, pos := _, after := _, guard := _ }) (v := ?_) rfl (by kernel_rfl) (by kernel_rfl) (by kernel_rfl) (fun _ _ _ h => h) (Or.inl ⟨by rfl, ?_⟩) hH ?_
          rotate_left
          · intro w hSw
            clear hSw
            go_simp
            try with_reducible rfl
          simp only [Act.put, List.setIfInBounds_toArray, List.set_cons_zero, List.set_cons_succ]
          refine wpAnyH_take (i := 7) (oi := { dst := some 27, op := .extract (.tmp 20) 0, type := _, pos := _, after := _, guard := _ }) (v := ?_) rfl (by kernel_rfl) (by kernel_rfl) (by kernel_rfl) (fun _ _ _ h => h) (Or.inl ⟨by rfl, ?_⟩) hH ?_
          rotate_left
          · intro w hSw
            clear hSw
            go_simp
            try with_reducible rfl
          simp only [Act.put, List.setIfInBounds_toArray, List.set_cons_zero, List.set_cons_succ]
          refine wpAnyH_take (i := 8) (oi := { dst := some 28, op := .extract (.tmp 20) 1, type := _, pos := _, after := _, guard := _ }) (v := ?_) rfl (by kernel_rfl) (by kernel_rfl) (by kernel_rfl) (fun _ _ _ h => h) (Or.inl ⟨by rfl, ?_⟩) hH ?_
          rotate_left
          · intro w hSw
            clear hSw
            go_simp
            try with_reducible rfl
          simp only [Act.put, List.setIfInBounds_toArray, List.set_cons_zero, List.set_cons_succ]
          refine wpAnyH_ready (rs := [10]) (by kernel_rfl) (by simp) ?_
          refine AllReadyH.cons (o := { dst := none, op := .store _ (.tmp 9) (.tmp 27), type := _, pos := _, after := _, guard := _ }) rfl (fun K hK => ?_) AllReadyH.nil
          rw [if_pos (by rfl)]
          refine wp_store_mid _ _ _ rfl u871q.heap.size _ t.all.toArray rfl rfl (h964q.out.thereOf t) (HZ.out t) (t.all_all) ?_
          simp only [Act.put]
          have h966q : Hid (Gd n w (u962q.setCells u871q.heap.size 0 t.all)) := h963q.out.asideAll (by omega) t
          have h967q : Hid (TAt (u962q.setCells u871q.heap.size 0 t.all) u871q.heap.size t) := h964q.out.setAll t
          have h968q : Hid (Bo (u962q.setCells u871q.heap.size 0 t.all) u882q.heap.size [.int .i64 0, .int .i64 0]) := h965q.out.asideAll (by omega) t
          clear h963q h964q h965q
          refine hK.out _ _ trivial (fun hH => ?_)
          clear hK K
          generalize (u962q.setCells u871q.heap.size 0 t.all) = u969q at h966q h967q h968q hH ⊢
          try simp only [Act.put, List.setIfInBounds_toArray, List.set_cons_zero, List.set_cons_succ]
          refine wpAnyH_ready (rs := [11]) (by kernel_rfl) (by simp) ?_
          refine AllReadyH.cons (o := { dst := none, op := .store _ (.tmp 10) (.tmp 28), type := _, pos := _, after := _, guard := _ }) rfl (fun K hK => ?_) AllReadyH.nil
          rw [if_pos (by rfl)]
          refine wp_store_mid _ _ _ rfl u882q.heap.size _ #[.int .i64 (3), .int .i64 (0)] rfl rfl h968q.out.there2 HA.out (two_one _ _) ?_
          simp only [Act.put]
          have h970q : Hid (Gd n w (u969q.setCells u882q.heap.size 0 [.int .i64 (3), .int .i64 (0)])) := h966q.out.asideL (by omega) 0 [.int .i64 (3), .int .i64 (0)]
          have h971q : Hid (TAt (u969q.setCells u882q.heap.size 0 [.int .i64 (3), .int .i64 (0)]) u871q.heap.size t) := h967q.out.asideL (by omega) 0 [.int .i64 (3), .int .i64 (0)]
          have h972q : Hid (Bo (u969q.setCells u882q.heap.size 0 [.int .i64 (3), .int .i64 (0)]) u882q.heap.size [.int .i64 (3), .int .i64 (0)]) := h968q.out.set2 (.int .i64 (3)) (.int .i64 (0))
          clear h966q h967q h968q
          refine hK.out _ _ trivial (fun hH => ?_)
          clear hK K
          generalize (u969q.setCells u882q.heap.size 0 [.int .i64 (3), .int .i64 (0)]) = u973q at h970q h971q h972q hH ⊢
          try simp only [Act.put, List.setIfInBounds_toArray, List.set_cons_zero, List.set_cons_succ]
          refine wpAnyH_done (by kernel_rfl) ?_ _
          go_wp2_with fail
          go_meet
          case rel => exact ⟨u882q.heap.size, rfl, h970q, h971q, h972q⟩
        refine AllReadyH.cons (o := { dst := some 10, op := .alloc _, type := _, pos := _, after := _, guard := _ }) rfl (fun K hK => ?_) AllReadyH.nil
        have l974q : n ≤ u882q.heap.size := h880q.out.le
        have l975q : u871q.heap.size < u882q.heap.size := h881q.out.lt
        go_simp
        have h976q : Hid (Gd n w (u882q.alloc (.cells #[.int .i64 0, .int .i64 0] 31))) := h880q.out.new (.cells #[.int .i64 0, .int .i64 0] 31)
        have h977q : Hid (TAt (u882q.alloc (.cells #[.int .i64 0, .int .i64 0] 31)) u871q.heap.size t) := h881q.out.new (.cells #[.int .i64 0, .int .i64 0] 31)
        clear h880q h881q
        have h978q : Hid (Bo (u882q.alloc (.cells #[.int .i64 0, .int .i64 0] 31)) u882q.heap.size [.int .i64 0, .int .i64 0]) := Bo.born u882q [.int .i64 0, .int .i64 0] 31 (by simp)
        refine hK.out _ _ trivial (fun hH => ?_)
        clear hK K
        generalize (u882q.alloc (.cells #[.int .i64 0, .int .i64 0] 31)) = u979q at h976q h977q h978q hH ⊢
        try simp only [Act.put, List.setIfInBounds_toArray, List.set_cons_zero, List.set_cons_succ]
        refine wpAnyH_ready (rs := [0]) (by kernel_rfl) (by simp) ?_
        refine AllReadyH.cons (o := { dst := some 21, op := .load _ (.tmp 9), type := _, pos := _, after := _, guard := _ }) rfl (fun K hK => ?_) AllReadyH.nil
        rw [if_pos (by rfl)]
        refine wp_load_mid _ _ rfl u871q.heap.size _ rfl t.all _ h977q.out.range HD.out rfl (HS.out t) ?_
        simp only [Act.put, List.setIfInBounds_toArray, List.set_cons_zero, List.set_cons_succ]
        refine hK.out _ _ trivial (fun hH => ?_)
        clear hK K
        try simp only [Act.put, List.setIfInBounds_toArray, List.set_cons_zero, List.set_cons_succ]
        refine wpAnyH_ready (rs := [5]) (by kernel_rfl) (by simp) ?_
        refine AllReadyH.cons (o := { dst := some 26, op := _, type := _, pos := _, after := _, guard := _ }) rfl (fun K hK => ?_) AllReadyH.nil
        go_simp
        refine (DO _).mono ?_
        rintro e u980q ⟨rfl, hb⟩
        have h981q : Hid (Gd n w u980q) := h976q.out.later hb
        have h982q : Hid (TAt u980q u871q.heap.size t) := h977q.out.later hb
        have h983q : Hid (Bo u980q u882q.heap.size [.int .i64 0, .int .i64 0]) := h978q.out.later hb
        clear h976q h977q h978q
        clear hb
        go_wp2_with fail
        refine hK.out _ _ trivial (fun hH => ?_)
        clear hK K
        try simp only [Act.put, List.setIfInBounds_toArray, List.set_cons_zero, List.set_cons_succ]
        refine wpAnyH_take (i := 6) (oi := { dst := some 20, op := .move (.tmp 26), type := _, pos := _, after := _, guard := _ }) (v := ?_) rfl (by kernel_rfl) (by kernel_rfl) (by kernel_rfl) (fun _ _ _ h => h) (Or.inl ⟨by rfl, ?_⟩) hH ?_
        rotate_left
        · intro w hSw
          clear hSw
          go_simp
          try with_reducible rfl
        simp only [Act.put, List.setIfInBounds_toArray, List.set_cons_zero, List.set_cons_succ]
        refine wpAnyH_take (i := 7) (oi := { dst := some 27, op := .extract (.tmp 20) 0, type := _, pos := _, after := _, guard := _ }) (v := ?_) rfl (by kernel_rfl) (by kernel_rfl) (by kernel_rfl) (fun _ _ _ h => h) (Or.inl ⟨by rfl, ?_⟩) hH ?_
        rotate_left
        · intro w hSw
          clear hSw
          go_simp
          try with_reducible rfl
        simp only [Act.put, List.setIfInBounds_toArray, List.set_cons_zero, List.set_cons_succ]
        refine wpAnyH_take (i := 8) (oi := { dst := some 28, op := .extract (.tmp 20) 1, type := _, pos := _, after := _, guard := _ }) (v := ?_) rfl (by kernel_rfl) (by kernel_rfl) (by kernel_rfl) (fun _ _ _ h => h) (Or.inl ⟨by rfl, ?_⟩) hH ?_
        rotate_left
        · intro w hSw
          clear hSw
          go_simp
          try with_reducible rfl
        simp only [Act.put, List.setIfInBounds_toArray, List.set_cons_zero, List.set_cons_succ]
        refine wpAnyH_ready (rs := [10]) (by kernel_rfl) (by simp) ?_
        refine AllReadyH.cons (o := { dst := none, op := .store _ (.tmp 9) (.tmp 27), type := _, pos := _, after := _, guard := _ }) rfl (fun K hK => ?_) AllReadyH.nil
        rw [if_pos (by rfl)]
        refine wp_store_mid _ _ _ rfl u871q.heap.size _ t.all.toArray rfl rfl (h982q.out.thereOf t) (HZ.out t) (t.all_all) ?_
        simp only [Act.put]
        have h984q : Hid (Gd n w (u980q.setCells u871q.heap.size 0 t.all)) := h981q.out.asideAll (by omega) t
        have h985q : Hid (TAt (u980q.setCells u871q.heap.size 0 t.all) u871q.heap.size t) := h982q.out.setAll t
        have h986q : Hid (Bo (u980q.setCells u871q.heap.size 0 t.all) u882q.heap.size [.int .i64 0, .int .i64 0]) := h983q.out.asideAll (by omega) t
        clear h981q h982q h983q
        refine hK.out _ _ trivial (fun hH => ?_)
        clear hK K
        generalize (u980q.setCells u871q.heap.size 0 t.all) = u987q at h984q h985q h986q hH ⊢
        try simp only [Act.put, List.setIfInBounds_toArray, List.set_cons_zero, List.set_cons_succ]
        refine wpAnyH_ready (rs := [11]) (by kernel_rfl) (by simp) ?_
        refine AllReadyH.cons (o := { dst := none, op := .store _ (.tmp 10) (.tmp 28), type := _, pos := _, after := _, guard := _ }) rfl (fun K hK => ?_) AllReadyH.nil
        rw [if_pos (by rfl)]
        refine wp_store_mid _ _ _ rfl u882q.heap.size _ #[.int .i64 (3), .int .i64 (0)] rfl rfl h986q.out.there2 HA.out (two_one _ _) ?_
        simp only [Act.put]
        have h988q : Hid (Gd n w (u987q.setCells u882q.heap.size 0 [.int .i64 (3), .int .i64 (0)])) := h984q.out.asideL (by omega) 0 [.int .i64 (3), .int .i64 (0)]
        have h989q : Hid (TAt (u987q.setCells u882q.heap.size 0 [.int .i64 (3), .int .i64 (0)]) u871q.heap.size t) := h985q.out.asideL (by omega) 0 [.int .i64 (3), .int .i64 (0)]
        have h990q : Hid (Bo (u987q.setCells u882q.heap.size 0 [.int .i64 (3), .int .i64 (0)]) u882q.heap.size [.int .i64 (3), .int .i64 (0)]) := h986q.out.set2 (.int .i64 (3)) (.int .i64 (0))
        clear h984q h985q h986q
        refine hK.out _ _ trivial (fun hH => ?_)
        clear hK K
        generalize (u987q.setCells u882q.heap.size 0 [.int .i64 (3), .int .i64 (0)]) = u991q at h988q h989q h990q hH ⊢
        try simp only [Act.put, List.setIfInBounds_toArray, List.set_cons_zero, List.set_cons_succ]
        refine wpAnyH_done (by kernel_rfl) ?_ _
        go_wp2_with fail
        go_meet
        case rel => exact ⟨u882q.heap.size, rfl, h988q, h989q, h990q⟩
      refine AllReadyH.cons (o := { dst := some 10, op := .alloc _, type := _, pos := _, after := _, guard := _ }) rfl (fun K hK => ?_) AllReadyH.nil
      have l992q : n ≤ u882q.heap.size := h880q.out.le
      have l993q : u871q.heap.size < u882q.heap.size := h881q.out.lt
      go_simp
      have h994q : Hid (Gd n w (u882q.alloc (.cells #[.int .i64 0, .int .i64 0] 31))) := h880q.out.new (.cells #[.int .i64 0, .int .i64 0] 31)
      have h995q : Hid (TAt (u882q.alloc (.cells #[.int .i64 0, .int .i64 0] 31)) u871q.heap.size t) := h881q.out.new (.cells #[.int .i64 0, .int .i64 0] 31)
      clear h880q h881q
      have h996q : Hid (Bo (u882q.alloc (.cells #[.int .i64 0, .int .i64 0] 31)) u882q.heap.size [.int .i64 0, .int .i64 0]) := Bo.born u882q [.int .i64 0, .int .i64 0] 31 (by simp)
      refine hK.out _ _ trivial (fun hH => ?_)
      clear hK K
      generalize (u882q.alloc (.cells #[.int .i64 0, .int .i64 0] 31)) = u997q at h994q h995q h996q hH ⊢
      try simp only [Act.put, List.setIfInBounds_toArray, List.set_cons_zero, List.set_cons_succ]
      refine wpAnyH_ready (rs := [0, 3]) (by kernel_rfl) (by simp) ?_
      refine AllReadyH.cons (o := { dst := some 21, op := .load _ (.tmp 9), type := _, pos := _, after := _, guard := _ }) rfl (fun K hK => ?_) ?_
      · rw [if_pos (by rfl)]
        refine wp_load_mid _ _ rfl u871q.heap.size _ rfl t.all _ h995q.out.range HD.out rfl (HS.out t) ?_
        simp only [Act.put, List.setIfInBounds_toArray, List.set_cons_zero, List.set_cons_succ]
        refine hK.out _ _ trivial (fun hH => ?_)
        clear hK K
        try simp only [Act.put, List.setIfInBounds_toArray, List.set_cons_zero, List.set_cons_succ]
        refine wpAnyH_ready (rs := [3]) (by kernel_rfl) (by simp) ?_
        refine AllReadyH.cons (o := { dst := some 24, op := _, type := _, pos := _, after := _, guard := _ }) rfl (fun K hK => ?_) AllReadyH.nil
        go_simp
        refine (Pr2.out _).mono ?_
        rintro e u998q ⟨rfl, hw⟩
        rw [hw]; clear hw u998q
        go_wp2_with fail
        refine hK.out _ _ trivial (fun hH => ?_)
        clear hK K
        try simp only [Act.put, List.setIfInBounds_toArray, List.set_cons_zero, List.set_cons_succ]
        refine wpAnyH_take (i := 4) (oi := { dst := some 25, op := .build _ #[(0, .const (.int .i64 1)), (1, .tmp 22), (2, .tmp 24)], type := _, pos := _, after := _, guard := _ }) (v := ?_) rfl (by kernel_rfl) (by kernel_rfl) (by kernel_rfl) (fun _ _ _ h => h) (Or.inl ⟨by rfl, ?_⟩) hH ?_
        rotate_left
        · intro w hSw
          clear hSw
          go_simp
          try with_reducible rfl
        simp only [Act.put, List.setIfInBounds_toArray, List.set_cons_zero, List.set_cons_succ]
        refine wpAnyH_ready (rs := [5]) (by kernel_rfl) (by simp) ?_
        refine AllReadyH.cons (o := { dst := some 26, op := _, type := _, pos := _, after := _, guard := _ }) rfl (fun K hK => ?_) AllReadyH.nil
        go_simp
        refine (DO _).mono ?_
        rintro e u999q ⟨rfl, hb⟩
        have h1000q : Hid (Gd n w u999q) := h994q.out.later hb
        have h1001q : Hid (TAt u999q u871q.heap.size t) := h995q.out.later hb
        have h1002q : Hid (Bo u999q u882q.heap.size [.int .i64 0, .int .i64 0]) := h996q.out.later hb
        clear h994q h995q h996q
        clear hb
        go_wp2_with fail
        refine hK.out _ _ trivial (fun hH => ?_)
        clear hK K
        try simp only [Act.put, List.setIfInBounds_toArray, List.set_cons_zero, List.set_cons_succ]
        refine wpAnyH_take (i := 6) (oi := { dst := some 20, op := .move (.tmp 26), type := _, pos := _, after := _, guard := _ }) (v := ?_) rfl (by kernel_rfl) (by kernel_rfl) (by kernel_rfl) (fun _ _ _ h => h) (Or.inl ⟨by rfl, ?_⟩) hH ?_
        rotate_left
        · intro w hSw
          clear hSw
          go_simp
          try with_reducible rfl
        simp only [Act.put, List.setIfInBounds_toArray, List.set_cons_zero, List.set_cons_succ]
        refine wpAnyH_take (i := 7) (oi := { dst := some 27, op := .extract (.tmp 20) 0, type := _, pos := _, after := _, guard := _ }) (v := ?_) rfl (by kernel_rfl) (by kernel_rfl) (by kernel_rfl) (fun _ _ _ h => h) (Or.inl ⟨by rfl, ?_⟩) hH ?_
        rotate_left
        · intro w hSw
          clear hSw
          go_simp
          try with_reducible rfl
        simp only [Act.put, List.setIfInBounds_toArray, List.set_cons_zero, List.set_cons_succ]
        refine wpAnyH_take (i := 8) (oi := { dst := some 28, op := .extract (.tmp 20) 1, type := _, pos := _, after := _, guard := _ }) (v := ?_) rfl (by kernel_rfl) (by kernel_rfl) (by kernel_rfl) (fun _ _ _ h => h) (Or.inl ⟨by rfl, ?_⟩) hH ?_
        rotate_left
        · intro w hSw
          clear hSw
          go_simp
          try with_reducible rfl
        simp only [Act.put, List.setIfInBounds_toArray, List.set_cons_zero, List.set_cons_succ]
        refine wpAnyH_ready (rs := [10]) (by kernel_rfl) (by simp) ?_
        refine AllReadyH.cons (o := { dst := none, op := .store _ (.tmp 9) (.tmp 27), type := _, pos := _, after := _, guard := _ }) rfl (fun K hK => ?_) AllReadyH.nil
        rw [if_pos (by rfl)]
        refine wp_store_mid _ _ _ rfl u871q.heap.size _ t.all.toArray rfl rfl (h1001q.out.thereOf t) (HZ.out t) (t.all_all) ?_
        simp only [Act.put]
        have h1003q : Hid (Gd n w (u999q.setCells u871q.heap.size 0 t.all)) := h1000q.out.asideAll (by omega) t
        have h1004q : Hid (TAt (u999q.setCells u871q.heap.size 0 t.all) u871q.heap.size t) := h1001q.out.setAll t
        have h1005q : Hid (Bo (u999q.setCells u871q.heap.size 0 t.all) u882q.heap.size [.int .i64 0, .int .i64 0]) := h1002q.out.asideAll (by omega) t
        clear h1000q h1001q h1002q
        refine hK.out _ _ trivial (fun hH => ?_)
        clear hK K
        generalize (u999q.setCells u871q.heap.size 0 t.all) = u1006q at h1003q h1004q h1005q hH ⊢
        try simp only [Act.put, List.setIfInBounds_toArray, List.set_cons_zero, List.set_cons_succ]
        refine wpAnyH_ready (rs := [11]) (by kernel_rfl) (by simp) ?_
        refine AllReadyH.cons (o := { dst := none, op := .store _ (.tmp 10) (.tmp 28), type := _, pos := _, after := _, guard := _ }) rfl (fun K hK => ?_) AllReadyH.nil
        rw [if_pos (by rfl)]
        refine wp_store_mid _ _ _ rfl u882q.heap.size _ #[.int .i64 (3), .int .i64 (0)] rfl rfl h1005q.out.there2 HA.out (two_one _ _) ?_
        simp only [Act.put]
        have h1007q : Hid (Gd n w (u1006q.setCells u882q.heap.size 0 [.int .i64 (3), .int .i64 (0)])) := h1003q.out.asideL (by omega) 0 [.int .i64 (3), .int .i64 (0)]
        have h1008q : Hid (TAt (u1006q.setCells u882q.heap.size 0 [.int .i64 (3), .int .i64 (0)]) u871q.heap.size t) := h1004q.out.asideL (by omega) 0 [.int .i64 (3), .int .i64 (0)]
        have h1009q : Hid (Bo (u1006q.setCells u882q.heap.size 0 [.int .i64 (3), .int .i64 (0)]) u882q.heap.size [.int .i64 (3), .int .i64 (0)]) := h1005q.out.set2 (.int .i64 (3)) (.int .i64 (0))
        clear h1003q h1004q h1005q
        refine hK.out _ _ trivial (fun hH => ?_)
        clear hK K
        generalize (u1006q.setCells u882q.heap.size 0 [.int .i64 (3), .int .i64 (0)]) = u1010q at h1007q h1008q h1009q hH ⊢
        try simp only [Act.put, List.setIfInBounds_toArray, List.set_cons_zero, List.set_cons_succ]
        refine wpAnyH_done (by kernel_rfl) ?_ _
        go_wp2_with fail
        go_meet
        case rel => exact ⟨u882q.heap.size, rfl, h1007q, h1008q, h1009q⟩
      refine AllReadyH.cons (o := { dst := some 24, op := _, type := _, pos := _, after := _, guard := _ }) rfl (fun K hK => ?_) AllReadyH.nil
      go_simp
      refine (Pr2.out _).mono ?_
      rintro e u1011q ⟨rfl, hw⟩
      rw [hw]; clear hw u1011q
      go_wp2_with fail
      refine hK.out _ _ trivial (fun hH => ?_)
      clear hK K
      try simp only [Act.put, List.setIfInBounds_toArray, List.set_cons_zero, List.set_cons_succ]
      refine wpAnyH_take (i := 4) (oi := { dst := some 25, op := .build _ #[(0, .const (.int .i64 1)), (1, .tmp 22), (2, .tmp 24)], type := _, pos := _, after := _, guard := _ }) (v := ?_) rfl (by kernel_rfl) (by kernel_rfl) (by kernel_rfl) (fun _ _ _ h => h) (Or.inl ⟨by rfl, ?_⟩) hH ?_
      rotate_left
      · intro w hSw
        clear hSw
        go_simp
        try with_reducible rfl
      simp only [Act.put, List.setIfInBounds_toArray, List.set_cons_zero, List.set_cons_succ]
      refine wpAnyH_ready (rs := [0]) (by kernel_rfl) (by simp) ?_
      refine AllReadyH.cons (o := { dst := some 21, op := .load _ (.tmp 9), type := _, pos := _, after := _, guard := _ }) rfl (fun K hK => ?_) AllReadyH.nil
      rw [if_pos (by rfl)]
      refine wp_load_mid _ _ rfl u871q.heap.size _ rfl t.all _ h995q.out.range HD.out rfl (HS.out t) ?_
      simp only [Act.put, List.setIfInBounds_toArray, List.set_cons_zero, List.set_cons_succ]
      refine hK.out _ _ trivial (fun hH => ?_)
      clear hK K
      try simp only [Act.put, List.setIfInBounds_toArray, List.set_cons_zero, List.set_cons_succ]
      refine wpAnyH_ready (rs := [5]) (by kernel_rfl) (by simp) ?_
      refine AllReadyH.cons (o := { dst := some 26, op := _, type := _, pos := _, after := _, guard := _ }) rfl (fun K hK => ?_) AllReadyH.nil
      go_simp
      refine (DO _).mono ?_
      rintro e u1012q ⟨rfl, hb⟩
      have h1013q : Hid (Gd n w u1012q) := h994q.out.later hb
      have h1014q : Hid (TAt u1012q u871q.heap.size t) := h995q.out.later hb
      have h1015q : Hid (Bo u1012q u882q.heap.size [.int .i64 0, .int .i64 0]) := h996q.out.later hb
      clear h994q h995q h996q
      clear hb
      go_wp2_with fail
      refine hK.out _ _ trivial (fun hH => ?_)
      clear hK K
      try simp only [Act.put, List.setIfInBounds_toArray, List.set_cons_zero, List.set_cons_succ]
      refine wpAnyH_take (i := 6) (oi := { dst := some 20, op := .move (.tmp 26), type := _, pos := _, after := _, guard := _ }) (v := ?_) rfl (by kernel_rfl) (by kernel_rfl) (by kernel_rfl) (fun _ _ _ h => h) (Or.inl ⟨by rfl, ?_⟩) hH ?_
      rotate_left
      · intro w hSw
        clear hSw
        go_simp
        try with_reducible rfl
      simp only [Act.put, List.setIfInBounds_toArray, List.set_cons_zero, List.set_cons_succ]
      refine wpAnyH_take (i := 7) (oi := { dst := some 27, op := .extract (.tmp 20) 0, type := _, pos := _, after := _, guard := _ }) (v := ?_) rfl (by kernel_rfl) (by kernel_rfl) (by kernel_rfl) (fun _ _ _ h => h) (Or.inl ⟨by rfl, ?_⟩) hH ?_
      rotate_left
      · intro w hSw
        clear hSw
        go_simp
        try with_reducible rfl
      simp only [Act.put, List.setIfInBounds_toArray, List.set_cons_zero, List.set_cons_succ]
      refine wpAnyH_take (i := 8) (oi := { dst := some 28, op := .extract (.tmp 20) 1, type := _, pos := _, after := _, guard := _ }) (v := ?_) rfl (by kernel_rfl) (by kernel_rfl) (by kernel_rfl) (fun _ _ _ h => h) (Or.inl ⟨by rfl, ?_⟩) hH ?_
      rotate_left
      · intro w hSw
        clear hSw
        go_simp
        try with_reducible rfl
      simp only [Act.put, List.setIfInBounds_toArray, List.set_cons_zero, List.set_cons_succ]
      refine wpAnyH_ready (rs := [10]) (by kernel_rfl) (by simp) ?_
      refine AllReadyH.cons (o := { dst := none, op := .store _ (.tmp 9) (.tmp 27), type := _, pos := _, after := _, guard := _ }) rfl (fun K hK => ?_) AllReadyH.nil
      rw [if_pos (by rfl)]
      refine wp_store_mid _ _ _ rfl u871q.heap.size _ t.all.toArray rfl rfl (h1014q.out.thereOf t) (HZ.out t) (t.all_all) ?_
      simp only [Act.put]
      have h1016q : Hid (Gd n w (u1012q.setCells u871q.heap.size 0 t.all)) := h1013q.out.asideAll (by omega) t
      have h1017q : Hid (TAt (u1012q.setCells u871q.heap.size 0 t.all) u871q.heap.size t) := h1014q.out.setAll t
      have h1018q : Hid (Bo (u1012q.setCells u871q.heap.size 0 t.all) u882q.heap.size [.int .i64 0, .int .i64 0]) := h1015q.out.asideAll (by omega) t
      clear h1013q h1014q h1015q
      refine hK.out _ _ trivial (fun hH => ?_)
      clear hK K
      generalize (u1012q.setCells u871q.heap.size 0 t.all) = u1019q at h1016q h1017q h1018q hH ⊢
      try simp only [Act.put, List.setIfInBounds_toArray, List.set_cons_zero, List.set_cons_succ]
      refine wpAnyH_ready (rs := [11]) (by kernel_rfl) (by simp) ?_
      refine AllReadyH.cons (o := { dst := none, op := .store _ (.tmp 10) (.tmp 28), type := _, pos := _, after := _, guard := _ }) rfl (fun K hK => ?_) AllReadyH.nil
      rw [if_pos (by rfl)]
      refine wp_store_mid _ _ _ rfl u882q.heap.size _ #[.int .i64 (3), .int .i64 (0)] rfl rfl h1018q.out.there2 HA.out (two_one _ _) ?_
      simp only [Act.put]
      have h1020q : Hid (Gd n w (u1019q.setCells u882q.heap.size 0 [.int .i64 (3), .int .i64 (0)])) := h1016q.out.asideL (by omega) 0 [.int .i64 (3), .int .i64 (0)]
      have h1021q : Hid (TAt (u1019q.setCells u882q.heap.size 0 [.int .i64 (3), .int .i64 (0)]) u871q.heap.size t) := h1017q.out.asideL (by omega) 0 [.int .i64 (3), .int .i64 (0)]
      have h1022q : Hid (Bo (u1019q.setCells u882q.heap.size 0 [.int .i64 (3), .int .i64 (0)]) u882q.heap.size [.int .i64 (3), .int .i64 (0)]) := h1018q.out.set2 (.int .i64 (3)) (.int .i64 (0))
      clear h1016q h1017q h1018q
      refine hK.out _ _ trivial (fun hH => ?_)
      clear hK K
      generalize (u1019q.setCells u882q.heap.size 0 [.int .i64 (3), .int .i64 (0)]) = u1023q at h1020q h1021q h1022q hH ⊢
      try simp only [Act.put, List.setIfInBounds_toArray, List.set_cons_zero, List.set_cons_succ]
      refine wpAnyH_done (by kernel_rfl) ?_ _
      go_wp2_with fail
      go_meet
      case rel => exact ⟨u882q.heap.size, rfl, h1020q, h1021q, h1022q⟩
    case rest =>
      obtain ⟨b_a, rfl, h1024q, h1025q, h1026q⟩ := hcut
      have c1027q := h1026q.out.at 0 rfl
      go_wp2
      go_ret
      exact ⟨rfl, h1024q.out.2⟩
  · have DO := tDo_eq t 1 k v
    rw [show tdo t 1 k v = (u, 1, 0) from hu] at DO
    unfold Told at DO
    dsimp only at DO
    obtain ⟨u2, hu2, hF2, hlen⟩ := puts_again hF.rt (k := k) (x := x) hk1 (by omega) hx0 hx1 hF.has
    have DO2 := tDo_eq u 1 k x
    rw [show tdo u 1 k x = (u2, 1, 0) from hu2] at DO2
    unfold Told at DO2
    dsimp only at DO2
    have PK := peek_is u2 k (by omega) (by omega)
    rw [show look u2 k = (1, x) from hF2.has] at PK
    dsimp only at PK
    have L1 := Len_is u2
    have L2 := Len_is u
    rw [hlen] at L1
    generalize len u = l at L1 L2
    clear hu hF hu2 hF2 hlen
    go_cut [10] (fun s10 wx => ∃ b_a : Nat, s10 = .pointer (some ⟨b_a, 0, none⟩) ∧ Hid (Gd n w wx) ∧ Hid (TAt wx u871q.heap.size u) ∧ Hid (Bo wx b_a [.int .i64 (1), .int .i64 (0)]))
    case first =>
      have h1028q : Hid (Gd n w u878q.drew) := h876q.out.drew
      have h1029q : Hid (TAt u878q.drew u871q.heap.size t) := h877q.out.drew
      clear h876q h877q
      refine wp_region_held_drew (S := fun w' => True) (by kernel_rfl) trivial (fun hH => ?_)
      generalize u878q.drew = u1030q at h1028q h1029q hH ⊢
      refine wpAnyH_take (i := 1) (oi := { dst := some 22, op := .move (.tmp 1), type := _, pos := _, after := _, guard := _ }) (v := ?_) rfl (by kernel_rfl) (by kernel_rfl) (by kernel_rfl) (fun _ _ _ h => h) (Or.inl ⟨by rfl, ?_⟩) hH ?_
      rotate_left
      · intro w hSw
        clear hSw
        go_simp
        try with_reducible rfl
      simp only [Act.put, List.setIfInBounds_toArray, List.set_cons_zero, List.set_cons_succ]
      refine wpAnyH_take (i := 2) (oi := { dst := some 23, op := .move (.tmp 2), type := _, pos := _, after := _, guard := _ }) (v := ?_) rfl (by kernel_rfl) (by kernel_rfl) (by kernel_rfl) (fun _ _ _ h => h) (Or.inl ⟨by rfl, ?_⟩) hH ?_
      rotate_left
      · intro w hSw
        clear hSw
        go_simp
        try with_reducible rfl
      simp only [Act.put, List.setIfInBounds_toArray, List.set_cons_zero, List.set_cons_succ]
      refine wpAnyH_ready (rs := [0, 3, 9]) (by kernel_rfl) (by simp) ?_
      refine AllReadyH.cons (o := { dst := some 21, op := .load _ (.tmp 9), type := _, pos := _, after := _, guard := _ }) rfl (fun K hK => ?_) ?_
      · rw [if_pos (by rfl)]
        refine wp_load_mid _ _ rfl u871q.heap.size _ rfl t.all _ h1029q.out.range HD.out rfl (HS.out t) ?_
        simp only [Act.put, List.setIfInBounds_toArray, List.set_cons_zero, List.set_cons_succ]
        refine hK.out _ _ trivial (fun hH => ?_)
        clear hK K
        try simp only [Act.put, List.setIfInBounds_toArray, List.set_cons_zero, List.set_cons_succ]
        refine wpAnyH_ready (rs := [3, 9]) (by kernel_rfl) (by simp) ?_
        refine AllReadyH.cons (o := { dst := some 24, op := _, type := _, pos := _, after := _, guard := _ }) rfl (fun K hK => ?_) ?_
        · go_simp
          refine (Pr2.out _).mono ?_
          rintro e u1031q ⟨rfl, hw⟩
          rw [hw]; clear hw u1031q
          go_wp2_with fail
          refine hK.out _ _ trivial (fun hH => ?_)
          clear hK K
          try simp only [Act.put, List.setIfInBounds_toArray, List.set_cons_zero, List.set_cons_succ]
          refine wpAnyH_take (i := 4) (oi := { dst := some 25, op := .build _ #[(0, .const (.int .i64 1)), (1, .tmp 22), (2, .tmp 24)], type := _, pos := _, after := _, guard := _ }) (v := ?_) rfl (by kernel_rfl) (by kernel_rfl) (by kernel_rfl) (fun _ _ _ h => h) (Or.inl ⟨by rfl, ?_⟩) hH ?_
          rotate_left
          · intro w hSw
            clear hSw
            go_simp
            try with_reducible rfl
          simp only [Act.put, List.setIfInBounds_toArray, List.set_cons_zero, List.set_cons_succ]
          refine wpAnyH_ready (rs := [5, 9]) (by kernel_rfl) (by simp) ?_
          refine AllReadyH.cons (o := { dst := some 26, op := _, type := _, pos := _, after := _, guard := _ }) rfl (fun K hK => ?_) ?_
          · go_simp
            refine (DO _).mono ?_
            rintro e u1032q ⟨rfl, hb⟩
            have h1033q : Hid (Gd n w u1032q) := h1028q.out.later hb
            have h1034q : Hid (TAt u1032q u871q.heap.size t) := h1029q.out.later hb
            clear h1028q h1029q
            clear hb
            go_wp2_with fail
            refine hK.out _ _ trivial (fun hH => ?_)
            clear hK K
            try simp only [Act.put, List.setIfInBounds_toArray, List.set_cons_zero, List.set_cons_succ]
            refine wpAnyH_take (i := 6) (oi := { dst := some 20, op := .move (.tmp 26), type := _, pos := _, after := _, guard := _ }) (v := ?_) rfl (by kernel_rfl) (by kernel_rfl) (by kernel_rfl) (fun _ _ _ h => h) (Or.inl ⟨by rfl, ?_⟩) hH ?_
            rotate_left
            · intro w hSw
              clear hSw
              go_simp
              try with_reducible rfl
            simp only [Act.put, List.setIfInBounds_toArray, List.set_cons_zero, List.set_cons_succ]
            refine wpAnyH_take (i := 7) (oi := { dst := some 27, op := .extract (.tmp 20) 0, type := _, pos := _, after := _, guard := _ }) (v := ?_) rfl (by kernel_rfl) (by kernel_rfl) (by kernel_rfl) (fun _ _ _ h => h) (Or.inl ⟨by rfl, ?_⟩) hH ?_
            rotate_left
            · intro w hSw
              clear hSw
              go_simp
              try with_reducible rfl
            simp only [Act.put, List.setIfInBounds_toArray, List.set_cons_zero, List.set_cons_succ]
            refine wpAnyH_take (i := 8) (oi := { dst := some 28, op := .extract (.tmp 20) 1, type := _, pos := _, after := _, guard := _ }) (v := ?_) rfl (by kernel_rfl) (by kernel_rfl) (by kernel_rfl) (fun _ _ _ h => h) (Or.inl ⟨by rfl, ?_⟩) hH ?_
            rotate_left
            · intro w hSw
              clear hSw
              go_simp
              try with_reducible rfl
            simp only [Act.put, List.setIfInBounds_toArray, List.set_cons_zero, List.set_cons_succ]
            refine wpAnyH_ready (rs := [9]) (by kernel_rfl) (by simp) ?_
            refine AllReadyH.cons (o := { dst := some 10, op := .alloc _, type := _, pos := _, after := _, guard := _ }) rfl (fun K hK => ?_) AllReadyH.nil
            have l1035q : n ≤ u1032q.heap.size := h1033q.out.le
            have l1036q : u871q.heap.size < u1032q.heap.size := h1034q.out.lt
            go_simp
            have h1037q : Hid (Gd n w (u1032q.alloc (.cells #[.int .i64 0, .int .i64 0] 31))) := h1033q.out.new (.cells #[.int .i64 0, .int .i64 0] 31)
            have h1038q : Hid (TAt (u1032q.alloc (.cells #[.int .i64 0, .int .i64 0] 31)) u871q.heap.size t) := h1034q.out.new (.cells #[.int .i64 0, .int .i64 0] 31)
            clear h1033q h1034q
            have h1039q : Hid (Bo (u1032q.alloc (.cells #[.int .i64 0, .int .i64 0] 31)) u1032q.heap.size [.int .i64 0, .int .i64 0]) := Bo.born u1032q [.int .i64 0, .int .i64 0] 31 (by simp)
            refine hK.out _ _ trivial (fun hH => ?_)
            clear hK K
            generalize (u1032q.alloc (.cells #[.int .i64 0, .int .i64 0] 31)) = u1040q at h1037q h1038q h1039q hH ⊢
            try simp only [Act.put, List.setIfInBounds_toArray, List.set_cons_zero, List.set_cons_succ]
            refine wpAnyH_ready (rs := [10]) (by kernel_rfl) (by simp) ?_
            refine AllReadyH.cons (o := { dst := none, op := .store _ (.tmp 9) (.tmp 27), type := _, pos := _, after := _, guard := _ }) rfl (fun K hK => ?_) AllReadyH.nil
            rw [if_pos (by rfl)]
            refine wp_store_mid _ _ _ rfl u871q.heap.size _ u.all.toArray rfl rfl (h1038q.out.thereOf u) (HZ.out u) (u.all_all) ?_
            simp only [Act.put]
            have h1041q : Hid (Gd n w (u1040q.setCells u871q.heap.size 0 u.all)) := h1037q.out.asideAll (by omega) u
            have h1042q : Hid (TAt (u1040q.setCells u871q.heap.size 0 u.all) u871q.heap.size u) := h1038q.out.setAll u
            have h1043q : Hid (Bo (u1040q.setCells u871q.heap.size 0 u.all) u1032q.heap.size [.int .i64 0, .int .i64 0]) := h1039q.out.asideAll (by omega) u
            clear h1037q h1038q h1039q
            refine hK.out _ _ trivial (fun hH => ?_)
            clear hK K
            generalize (u1040q.setCells u871q.heap.size 0 u.all) = u1044q at h1041q h1042q h1043q hH ⊢
            try simp only [Act.put, List.setIfInBounds_toArray, List.set_cons_zero, List.set_cons_succ]
            refine wpAnyH_ready (rs := [11]) (by kernel_rfl) (by simp) ?_
            refine AllReadyH.cons (o := { dst := none, op := .store _ (.tmp 10) (.tmp 28), type := _, pos := _, after := _, guard := _ }) rfl (fun K hK => ?_) AllReadyH.nil
            rw [if_pos (by rfl)]
            refine wp_store_mid _ _ _ rfl u1032q.heap.size _ #[.int .i64 (1), .int .i64 (0)] rfl rfl h1043q.out.there2 HA.out (two_one _ _) ?_
            simp only [Act.put]
            have h1045q : Hid (Gd n w (u1044q.setCells u1032q.heap.size 0 [.int .i64 (1), .int .i64 (0)])) := h1041q.out.asideL (by omega) 0 [.int .i64 (1), .int .i64 (0)]
            have h1046q : Hid (TAt (u1044q.setCells u1032q.heap.size 0 [.int .i64 (1), .int .i64 (0)]) u871q.heap.size u) := h1042q.out.asideL (by omega) 0 [.int .i64 (1), .int .i64 (0)]
            have h1047q : Hid (Bo (u1044q.setCells u1032q.heap.size 0 [.int .i64 (1), .int .i64 (0)]) u1032q.heap.size [.int .i64 (1), .int .i64 (0)]) := h1043q.out.set2 (.int .i64 (1)) (.int .i64 (0))
            clear h1041q h1042q h1043q
            refine hK.out _ _ trivial (fun hH => ?_)
            clear hK K
            generalize (u1044q.setCells u1032q.heap.size 0 [.int .i64 (1), .int .i64 (0)]) = u1048q at h1045q h1046q h1047q hH ⊢
            try simp only [Act.put, List.setIfInBounds_toArray, List.set_cons_zero, List.set_cons_succ]
            refine wpAnyH_done (by kernel_rfl) ?_ _
            go_wp2_with fail
            go_meet
            case rel => exact ⟨u1032q.heap.size, rfl, h1045q, h1046q, h1047q⟩
          refine AllReadyH.cons (o := { dst := some 10, op := .alloc _, type := _, pos := _, after := _, guard := _ }) rfl (fun K hK => ?_) AllReadyH.nil
          have l1049q : n ≤ u1030q.heap.size := h1028q.out.le
          have l1050q : u871q.heap.size < u1030q.heap.size := h1029q.out.lt
          go_simp
          have h1051q : Hid (Gd n w (u1030q.alloc (.cells #[.int .i64 0, .int .i64 0] 31))) := h1028q.out.new (.cells #[.int .i64 0, .int .i64 0] 31)
          have h1052q : Hid (TAt (u1030q.alloc (.cells #[.int .i64 0, .int .i64 0] 31)) u871q.heap.size t) := h1029q.out.new (.cells #[.int .i64 0, .int .i64 0] 31)
          clear h1028q h1029q
          have h1053q : Hid (Bo (u1030q.alloc (.cells #[.int .i64 0, .int .i64 0] 31)) u1030q.heap.size [.int .i64 0, .int .i64 0]) := Bo.born u1030q [.int .i64 0, .int .i64 0] 31 (by simp)
          refine hK.out _ _ trivial (fun hH => ?_)
          clear hK K
          generalize (u1030q.alloc (.cells #[.int .i64 0, .int .i64 0] 31)) = u1054q at h1051q h1052q h1053q hH ⊢
          try simp only [Act.put, List.setIfInBounds_toArray, List.set_cons_zero, List.set_cons_succ]
          refine wpAnyH_ready (rs := [5]) (by kernel_rfl) (by simp) ?_
          refine AllReadyH.cons (o := { dst := some 26, op := _, type := _, pos := _, after := _, guard := _ }) rfl (fun K hK => ?_) AllReadyH.nil
          go_simp
          refine (DO _).mono ?_
          rintro e u1055q ⟨rfl, hb⟩
          have h1056q : Hid (Gd n w u1055q) := h1051q.out.later hb
          have h1057q : Hid (TAt u1055q u871q.heap.size t) := h1052q.out.later hb
          have h1058q : Hid (Bo u1055q u1030q.heap.size [.int .i64 0, .int .i64 0]) := h1053q.out.later hb
          clear h1051q h1052q h1053q
          clear hb
          go_wp2_with fail
          refine hK.out _ _ trivial (fun hH => ?_)
          clear hK K
          try simp only [Act.put, List.setIfInBounds_toArray, List.set_cons_zero, List.set_cons_succ]
          refine wpAnyH_take (i := 6) (oi := { dst := some 20, op := .move (.tmp 26), type := _, pos := _, after := _, guard := _ }) (v := ?_) rfl (by kernel_rfl) (by kernel_rfl) (by kernel_rfl) (fun _ _ _ h => h) (Or.inl ⟨by rfl, ?_⟩) hH ?_
          rotate_left
          · intro w hSw
            clear hSw
            go_simp
            try with_reducible rfl
          simp only [Act.put, List.setIfInBounds_toArray, List.set_cons_zero, List.set_cons_succ]
          refine wpAnyH_take (i := 7) (oi := { dst := some 27, op := .extract (.tmp 20) 0, type := _, pos := _, after := _, guard := _ }) (v := ?_) rfl (by kernel_rfl) (by kernel_rfl) (by kernel_rfl) (fun _ _ _ h => h) (Or.inl ⟨by rfl, ?_⟩) hH ?_
          rotate_left
          · intro w hSw
            clear hSw
            go_simp
            try with_reducible rfl
          simp only [Act.put, List.setIfInBounds_toArray, List.set_cons_zero, List.set_cons_succ]
          refine wpAnyH_take (i := 8) (oi := { dst := some 28, op := .extract (.tmp 20) 1, type := _, pos := _, after := _, guard := _ }) (v := ?_) rfl (by kernel_rfl) (by kernel_rfl) (by kernel_rfl) (fun _ _ _ h => h) (Or.inl ⟨by rfl, ?_⟩) hH ?_
          rotate_left
          · intro w hSw
            clear hSw
            go_simp
            try with_reducible rfl
          simp only [Act.put, List.setIfInBounds_toArray, List.set_cons_zero, List.set_cons_succ]
          refine wpAnyH_ready (rs := [10]) (by kernel_rfl) (by simp) ?_
          refine AllReadyH.cons (o := { dst := none, op := .store _ (.tmp 9) (.tmp 27), type := _, pos := _, after := _, guard := _ }) rfl (fun K hK => ?_) AllReadyH.nil
          rw [if_pos (by rfl)]
          refine wp_store_mid _ _ _ rfl u871q.heap.size _ u.all.toArray rfl rfl (h1057q.out.thereOf u) (HZ.out u) (u.all_all) ?_
          simp only [Act.put]
          have h1059q : Hid (Gd n w (u1055q.setCells u871q.heap.size 0 u.all)) := h1056q.out.asideAll (by omega) u
          have h1060q : Hid (TAt (u1055q.setCells u871q.heap.size 0 u.all) u871q.heap.size u) := h1057q.out.setAll u
          have h1061q : Hid (Bo (u1055q.setCells u871q.heap.size 0 u.all) u1030q.heap.size [.int .i64 0, .int .i64 0]) := h1058q.out.asideAll (by omega) u
          clear h1056q h1057q h1058q
          refine hK.out _ _ trivial (fun hH => ?_)
          clear hK K
          generalize (u1055q.setCells u871q.heap.size 0 u.all) = u1062q at h1059q h1060q h1061q hH ⊢
          try simp only [Act.put, List.setIfInBounds_toArray, List.set_cons_zero, List.set_cons_succ]
          refine wpAnyH_ready (rs := [11]) (by kernel_rfl) (by simp) ?_
          refine AllReadyH.cons (o := { dst := none, op := .store _ (.tmp 10) (.tmp 28), type := _, pos := _, after := _, guard := _ }) rfl (fun K hK => ?_) AllReadyH.nil
          rw [if_pos (by rfl)]
          refine wp_store_mid _ _ _ rfl u1030q.heap.size _ #[.int .i64 (1), .int .i64 (0)] rfl rfl h1061q.out.there2 HA.out (two_one _ _) ?_
          simp only [Act.put]
          have h1063q : Hid (Gd n w (u1062q.setCells u1030q.heap.size 0 [.int .i64 (1), .int .i64 (0)])) := h1059q.out.asideL (by omega) 0 [.int .i64 (1), .int .i64 (0)]
          have h1064q : Hid (TAt (u1062q.setCells u1030q.heap.size 0 [.int .i64 (1), .int .i64 (0)]) u871q.heap.size u) := h1060q.out.asideL (by omega) 0 [.int .i64 (1), .int .i64 (0)]
          have h1065q : Hid (Bo (u1062q.setCells u1030q.heap.size 0 [.int .i64 (1), .int .i64 (0)]) u1030q.heap.size [.int .i64 (1), .int .i64 (0)]) := h1061q.out.set2 (.int .i64 (1)) (.int .i64 (0))
          clear h1059q h1060q h1061q
          refine hK.out _ _ trivial (fun hH => ?_)
          clear hK K
          generalize (u1062q.setCells u1030q.heap.size 0 [.int .i64 (1), .int .i64 (0)]) = u1066q at h1063q h1064q h1065q hH ⊢
          try simp only [Act.put, List.setIfInBounds_toArray, List.set_cons_zero, List.set_cons_succ]
          refine wpAnyH_done (by kernel_rfl) ?_ _
          go_wp2_with fail
          go_meet
          case rel => exact ⟨u1030q.heap.size, rfl, h1063q, h1064q, h1065q⟩
        refine AllReadyH.cons (o := { dst := some 10, op := .alloc _, type := _, pos := _, after := _, guard := _ }) rfl (fun K hK => ?_) AllReadyH.nil
        have l1067q : n ≤ u1030q.heap.size := h1028q.out.le
        have l1068q : u871q.heap.size < u1030q.heap.size := h1029q.out.lt
        go_simp
        have h1069q : Hid (Gd n w (u1030q.alloc (.cells #[.int .i64 0, .int .i64 0] 31))) := h1028q.out.new (.cells #[.int .i64 0, .int .i64 0] 31)
        have h1070q : Hid (TAt (u1030q.alloc (.cells #[.int .i64 0, .int .i64 0] 31)) u871q.heap.size t) := h1029q.out.new (.cells #[.int .i64 0, .int .i64 0] 31)
        clear h1028q h1029q
        have h1071q : Hid (Bo (u1030q.alloc (.cells #[.int .i64 0, .int .i64 0] 31)) u1030q.heap.size [.int .i64 0, .int .i64 0]) := Bo.born u1030q [.int .i64 0, .int .i64 0] 31 (by simp)
        refine hK.out _ _ trivial (fun hH => ?_)
        clear hK K
        generalize (u1030q.alloc (.cells #[.int .i64 0, .int .i64 0] 31)) = u1072q at h1069q h1070q h1071q hH ⊢
        try simp only [Act.put, List.setIfInBounds_toArray, List.set_cons_zero, List.set_cons_succ]
        refine wpAnyH_ready (rs := [3]) (by kernel_rfl) (by simp) ?_
        refine AllReadyH.cons (o := { dst := some 24, op := _, type := _, pos := _, after := _, guard := _ }) rfl (fun K hK => ?_) AllReadyH.nil
        go_simp
        refine (Pr2.out _).mono ?_
        rintro e u1073q ⟨rfl, hw⟩
        rw [hw]; clear hw u1073q
        go_wp2_with fail
        refine hK.out _ _ trivial (fun hH => ?_)
        clear hK K
        try simp only [Act.put, List.setIfInBounds_toArray, List.set_cons_zero, List.set_cons_succ]
        refine wpAnyH_take (i := 4) (oi := { dst := some 25, op := .build _ #[(0, .const (.int .i64 1)), (1, .tmp 22), (2, .tmp 24)], type := _, pos := _, after := _, guard := _ }) (v := ?_) rfl (by kernel_rfl) (by kernel_rfl) (by kernel_rfl) (fun _ _ _ h => h) (Or.inl ⟨by rfl, ?_⟩) hH ?_
        rotate_left
        · intro w hSw
          clear hSw
          go_simp
          try with_reducible rfl
        simp only [Act.put, List.setIfInBounds_toArray, List.set_cons_zero, List.set_cons_succ]
        refine wpAnyH_ready (rs := [5]) (by kernel_rfl) (by simp) ?_
        refine AllReadyH.cons (o := { dst := some 26, op := _, type := _, pos := _, after := _, guard := _ }) rfl (fun K hK => ?_) AllReadyH.nil
        go_simp
        refine (DO _).mono ?_
        rintro e u1074q ⟨rfl, hb⟩
        have h1075q : Hid (Gd n w u1074q) := h1069q.out.later hb
        have h1076q : Hid (TAt u1074q u871q.heap.size t) := h1070q.out.later hb
        have h1077q : Hid (Bo u1074q u1030q.heap.size [.int .i64 0, .int .i64 0]) := h1071q.out.later hb
        clear h1069q h1070q h1071q
        clear hb
        go_wp2_with fail
        refine hK.out _ _ trivial (fun hH => ?_)
        clear hK K
        try simp only [Act.put, List.setIfInBounds_toArray, List.set_cons_zero, List.set_cons_succ]
        refine wpAnyH_take (i := 6) (oi := { dst := some 20, op := .move (.tmp 26), type := _, pos := _, after := _, guard := _ }) (v := ?_) rfl (by kernel_rfl) (by kernel_rfl) (by kernel_rfl) (fun _ _ _ h => h) (Or.inl ⟨by rfl, ?_⟩) hH ?_
        rotate_left
        · intro w hSw
          clear hSw
          go_simp
          try with_reducible rfl
        simp only [Act.put, List.setIfInBounds_toArray, List.set_cons_zero, List.set_cons_succ]
        refine wpAnyH_take (i := 7) (oi := { dst := some 27, op := .extract (.tmp 20) 0, type := _, pos := _, after := _, guard := _ }) (v := ?_) rfl (by kernel_rfl) (by kernel_rfl) (by kernel_rfl) (fun _ _ _ h => h) (Or.inl ⟨by rfl, ?_⟩) hH ?_
        rotate_left
        · intro w hSw
          clear hSw
          go_simp
          try with_reducible rfl
        simp only [Act.put, List.setIfInBounds_toArray, List.set_cons_zero, List.set_cons_succ]
        refine wpAnyH_take (i := 8) (oi := { dst := some 28, op := .extract (.tmp 20) 1, type := _, pos := _, after := _, guard := _ }) (v := ?_) rfl (by kernel_rfl) (by kernel_rfl) (by kernel_rfl) (fun _ _ _ h => h) (Or.inl ⟨by rfl, ?_⟩) hH ?_
        rotate_left
        · intro w hSw
          clear hSw
          go_simp
          try with_reducible rfl
        simp only [Act.put, List.setIfInBounds_toArray, List.set_cons_zero, List.set_cons_succ]
        refine wpAnyH_ready (rs := [10]) (by kernel_rfl) (by simp) ?_
        refine AllReadyH.cons (o := { dst := none, op := .store _ (.tmp 9) (.tmp 27), type := _, pos := _, after := _, guard := _ }) rfl (fun K hK => ?_) AllReadyH.nil
        rw [if_pos (by rfl)]
        refine wp_store_mid _ _ _ rfl u871q.heap.size _ u.all.toArray rfl rfl (h1076q.out.thereOf u) (HZ.out u) (u.all_all) ?_
        simp only [Act.put]
        have h1078q : Hid (Gd n w (u1074q.setCells u871q.heap.size 0 u.all)) := h1075q.out.asideAll (by omega) u
        have h1079q : Hid (TAt (u1074q.setCells u871q.heap.size 0 u.all) u871q.heap.size u) := h1076q.out.setAll u
        have h1080q : Hid (Bo (u1074q.setCells u871q.heap.size 0 u.all) u1030q.heap.size [.int .i64 0, .int .i64 0]) := h1077q.out.asideAll (by omega) u
        clear h1075q h1076q h1077q
        refine hK.out _ _ trivial (fun hH => ?_)
        clear hK K
        generalize (u1074q.setCells u871q.heap.size 0 u.all) = u1081q at h1078q h1079q h1080q hH ⊢
        try simp only [Act.put, List.setIfInBounds_toArray, List.set_cons_zero, List.set_cons_succ]
        refine wpAnyH_ready (rs := [11]) (by kernel_rfl) (by simp) ?_
        refine AllReadyH.cons (o := { dst := none, op := .store _ (.tmp 10) (.tmp 28), type := _, pos := _, after := _, guard := _ }) rfl (fun K hK => ?_) AllReadyH.nil
        rw [if_pos (by rfl)]
        refine wp_store_mid _ _ _ rfl u1030q.heap.size _ #[.int .i64 (1), .int .i64 (0)] rfl rfl h1080q.out.there2 HA.out (two_one _ _) ?_
        simp only [Act.put]
        have h1082q : Hid (Gd n w (u1081q.setCells u1030q.heap.size 0 [.int .i64 (1), .int .i64 (0)])) := h1078q.out.asideL (by omega) 0 [.int .i64 (1), .int .i64 (0)]
        have h1083q : Hid (TAt (u1081q.setCells u1030q.heap.size 0 [.int .i64 (1), .int .i64 (0)]) u871q.heap.size u) := h1079q.out.asideL (by omega) 0 [.int .i64 (1), .int .i64 (0)]
        have h1084q : Hid (Bo (u1081q.setCells u1030q.heap.size 0 [.int .i64 (1), .int .i64 (0)]) u1030q.heap.size [.int .i64 (1), .int .i64 (0)]) := h1080q.out.set2 (.int .i64 (1)) (.int .i64 (0))
        clear h1078q h1079q h1080q
        refine hK.out _ _ trivial (fun hH => ?_)
        clear hK K
        generalize (u1081q.setCells u1030q.heap.size 0 [.int .i64 (1), .int .i64 (0)]) = u1085q at h1082q h1083q h1084q hH ⊢
        try simp only [Act.put, List.setIfInBounds_toArray, List.set_cons_zero, List.set_cons_succ]
        refine wpAnyH_done (by kernel_rfl) ?_ _
        go_wp2_with fail
        go_meet
        case rel => exact ⟨u1030q.heap.size, rfl, h1082q, h1083q, h1084q⟩
      refine AllReadyH.cons (o := { dst := some 24, op := _, type := _, pos := _, after := _, guard := _ }) rfl (fun K hK => ?_) ?_
      · go_simp
        refine (Pr2.out _).mono ?_
        rintro e u1086q ⟨rfl, hw⟩
        rw [hw]; clear hw u1086q
        go_wp2_with fail
        refine hK.out _ _ trivial (fun hH => ?_)
        clear hK K
        try simp only [Act.put, List.setIfInBounds_toArray, List.set_cons_zero, List.set_cons_succ]
        refine wpAnyH_take (i := 4) (oi := { dst := some 25, op := .build _ #[(0, .const (.int .i64 1)), (1, .tmp 22), (2, .tmp 24)], type := _, pos := _, after := _, guard := _ }) (v := ?_) rfl (by kernel_rfl) (by kernel_rfl) (by kernel_rfl) (fun _ _ _ h => h) (Or.inl ⟨by rfl, ?_⟩) hH ?_
        rotate_left
        · intro w hSw
          clear hSw
          go_simp
          try with_reducible rfl
        simp only [Act.put, List.setIfInBounds_toArray, List.set_cons_zero, List.set_cons_succ]
        refine wpAnyH_ready (rs := [0, 9]) (by kernel_rfl) (by simp) ?_
        refine AllReadyH.cons (o := { dst := some 21, op := .load _ (.tmp 9), type := _, pos := _, after := _, guard := _ }) rfl (fun K hK => ?_) ?_
        · rw [if_pos (by rfl)]
          refine wp_load_mid _ _ rfl u871q.heap.size _ rfl t.all _ h1029q.out.range HD.out rfl (HS.out t) ?_
          simp only [Act.put, List.setIfInBounds_toArray, List.set_cons_zero, List.set_cons_succ]
          refine hK.out _ _ trivial (fun hH => ?_)
          clear hK K
          try simp only [Act.put, List.setIfInBounds_toArray, List.set_cons_zero, List.set_cons_succ]
          refine wpAnyH_ready (rs := [5, 9]) (by kernel_rfl) (by simp) ?_
          refine AllReadyH.cons (o := { dst := some 26, op := _, type := _, pos := _, after := _, guard := _ }) rfl (fun K hK => ?_) ?_
          · go_simp
            refine (DO _).mono ?_
            rintro e u1087q ⟨rfl, hb⟩
            have h1088q : Hid (Gd n w u1087q) := h1028q.out.later hb
            have h1089q : Hid (TAt u1087q u871q.heap.size t) := h1029q.out.later hb
            clear h1028q h1029q
            clear hb
            go_wp2_with fail
            refine hK.out _ _ trivial (fun hH => ?_)
            clear hK K
            try simp only [Act.put, List.setIfInBounds_toArray, List.set_cons_zero, List.set_cons_succ]
            refine wpAnyH_take (i := 6) (oi := { dst := some 20, op := .move (.tmp 26), type := _, pos := _, after := _, guard := _ }) (v := ?_) rfl (by kernel_rfl) (by kernel_rfl) (by kernel_rfl) (fun _ _ _ h => h) (Or.inl ⟨by rfl, ?_⟩) hH ?_
            rotate_left
            · intro w hSw
              clear hSw
              go_simp
              try with_reducible rfl
            simp only [Act.put, List.setIfInBounds_toArray, List.set_cons_zero, List.set_cons_succ]
            refine wpAnyH_take (i := 7) (oi := { dst := some 27, op := .extract (.tmp 20) 0, type := _, pos := _, after := _, guard := _ }) (v := ?_) rfl (by kernel_rfl) (by kernel_rfl) (by kernel_rfl) (fun _ _ _ h => h) (Or.inl ⟨by rfl, ?_⟩) hH ?_
            rotate_left
            · intro w hSw
              clear hSw
              go_simp
              try with_reducible rfl
            simp only [Act.put, List.setIfInBounds_toArray, List.set_cons_zero, List.set_cons_succ]
            refine wpAnyH_take (i := 8) (oi := { dst := some 28, op := .extract (.tmp 20) 1, type := _, pos := _, after := _, guard := _ }) (v := ?_) rfl (by kernel_rfl) (by kernel_rfl) (by kernel_rfl) (fun _ _ _ h => h) (Or.inl ⟨by rfl, ?_⟩) hH ?_
            rotate_left
            · intro w hSw
              clear hSw
              go_simp
              try with_reducible rfl
            simp only [Act.put, List.setIfInBounds_toArray, List.set_cons_zero, List.set_cons_succ]
            refine wpAnyH_ready (rs := [9]) (by kernel_rfl) (by simp) ?_
            refine AllReadyH.cons (o := { dst := some 10, op := .alloc _, type := _, pos := _, after := _, guard := _ }) rfl (fun K hK => ?_) AllReadyH.nil
            have l1090q : n ≤ u1087q.heap.size := h1088q.out.le
            have l1091q : u871q.heap.size < u1087q.heap.size := h1089q.out.lt
            go_simp
            have h1092q : Hid (Gd n w (u1087q.alloc (.cells #[.int .i64 0, .int .i64 0] 31))) := h1088q.out.new (.cells #[.int .i64 0, .int .i64 0] 31)
            have h1093q : Hid (TAt (u1087q.alloc (.cells #[.int .i64 0, .int .i64 0] 31)) u871q.heap.size t) := h1089q.out.new (.cells #[.int .i64 0, .int .i64 0] 31)
            clear h1088q h1089q
            have h1094q : Hid (Bo (u1087q.alloc (.cells #[.int .i64 0, .int .i64 0] 31)) u1087q.heap.size [.int .i64 0, .int .i64 0]) := Bo.born u1087q [.int .i64 0, .int .i64 0] 31 (by simp)
            refine hK.out _ _ trivial (fun hH => ?_)
            clear hK K
            generalize (u1087q.alloc (.cells #[.int .i64 0, .int .i64 0] 31)) = u1095q at h1092q h1093q h1094q hH ⊢
            try simp only [Act.put, List.setIfInBounds_toArray, List.set_cons_zero, List.set_cons_succ]
            refine wpAnyH_ready (rs := [10]) (by kernel_rfl) (by simp) ?_
            refine AllReadyH.cons (o := { dst := none, op := .store _ (.tmp 9) (.tmp 27), type := _, pos := _, after := _, guard := _ }) rfl (fun K hK => ?_) AllReadyH.nil
            rw [if_pos (by rfl)]
            refine wp_store_mid _ _ _ rfl u871q.heap.size _ u.all.toArray rfl rfl (h1093q.out.thereOf u) (HZ.out u) (u.all_all) ?_
            simp only [Act.put]
            have h1096q : Hid (Gd n w (u1095q.setCells u871q.heap.size 0 u.all)) := h1092q.out.asideAll (by omega) u
            have h1097q : Hid (TAt (u1095q.setCells u871q.heap.size 0 u.all) u871q.heap.size u) := h1093q.out.setAll u
            have h1098q : Hid (Bo (u1095q.setCells u871q.heap.size 0 u.all) u1087q.heap.size [.int .i64 0, .int .i64 0]) := h1094q.out.asideAll (by omega) u
            clear h1092q h1093q h1094q
            refine hK.out _ _ trivial (fun hH => ?_)
            clear hK K
            generalize (u1095q.setCells u871q.heap.size 0 u.all) = u1099q at h1096q h1097q h1098q hH ⊢
            try simp only [Act.put, List.setIfInBounds_toArray, List.set_cons_zero, List.set_cons_succ]
            refine wpAnyH_ready (rs := [11]) (by kernel_rfl) (by simp) ?_
            refine AllReadyH.cons (o := { dst := none, op := .store _ (.tmp 10) (.tmp 28), type := _, pos := _, after := _, guard := _ }) rfl (fun K hK => ?_) AllReadyH.nil
            rw [if_pos (by rfl)]
            refine wp_store_mid _ _ _ rfl u1087q.heap.size _ #[.int .i64 (1), .int .i64 (0)] rfl rfl h1098q.out.there2 HA.out (two_one _ _) ?_
            simp only [Act.put]
            have h1100q : Hid (Gd n w (u1099q.setCells u1087q.heap.size 0 [.int .i64 (1), .int .i64 (0)])) := h1096q.out.asideL (by omega) 0 [.int .i64 (1), .int .i64 (0)]
            have h1101q : Hid (TAt (u1099q.setCells u1087q.heap.size 0 [.int .i64 (1), .int .i64 (0)]) u871q.heap.size u) := h1097q.out.asideL (by omega) 0 [.int .i64 (1), .int .i64 (0)]
            have h1102q : Hid (Bo (u1099q.setCells u1087q.heap.size 0 [.int .i64 (1), .int .i64 (0)]) u1087q.heap.size [.int .i64 (1), .int .i64 (0)]) := h1098q.out.set2 (.int .i64 (1)) (.int .i64 (0))
            clear h1096q h1097q h1098q
            refine hK.out _ _ trivial (fun hH => ?_)
            clear hK K
            generalize (u1099q.setCells u1087q.heap.size 0 [.int .i64 (1), .int .i64 (0)]) = u1103q at h1100q h1101q h1102q hH ⊢
            try simp only [Act.put, List.setIfInBounds_toArray, List.set_cons_zero, List.set_cons_succ]
            refine wpAnyH_done (by kernel_rfl) ?_ _
            go_wp2_with fail
            go_meet
            case rel => exact ⟨u1087q.heap.size, rfl, h1100q, h1101q, h1102q⟩
          refine AllReadyH.cons (o := { dst := some 10, op := .alloc _, type := _, pos := _, after := _, guard := _ }) rfl (fun K hK => ?_) AllReadyH.nil
          have l1104q : n ≤ u1030q.heap.size := h1028q.out.le
          have l1105q : u871q.heap.size < u1030q.heap.size := h1029q.out.lt
          go_simp
          have h1106q : Hid (Gd n w (u1030q.alloc (.cells #[.int .i64 0, .int .i64 0] 31))) := h1028q.out.new (.cells #[.int .i64 0, .int .i64 0] 31)
          have h1107q : Hid (TAt (u1030q.alloc (.cells #[.int .i64 0, .int .i64 0] 31)) u871q.heap.size t) := h1029q.out.new (.cells #[.int .i64 0, .int .i64 0] 31)
          clear h1028q h1029q
          have h1108q : Hid (Bo (u1030q.alloc (.cells #[.int .i64 0, .int .i64 0] 31)) u1030q.heap.size [.int .i64 0, .int .i64 0]) := Bo.born u1030q [.int .i64 0, .int .i64 0] 31 (by simp)
          refine hK.out _ _ trivial (fun hH => ?_)
          clear hK K
          generalize (u1030q.alloc (.cells #[.int .i64 0, .int .i64 0] 31)) = u1109q at h1106q h1107q h1108q hH ⊢
          try simp only [Act.put, List.setIfInBounds_toArray, List.set_cons_zero, List.set_cons_succ]
          refine wpAnyH_ready (rs := [5]) (by kernel_rfl) (by simp) ?_
          refine AllReadyH.cons (o := { dst := some 26, op := _, type := _, pos := _, after := _, guard := _ }) rfl (fun K hK => ?_) AllReadyH.nil
          go_simp
          refine (DO _).mono ?_
          rintro e u1110q ⟨rfl, hb⟩
          have h1111q : Hid (Gd n w u1110q) := h1106q.out.later hb
          have h1112q : Hid (TAt u1110q u871q.heap.size t) := h1107q.out.later hb
          have h1113q : Hid (Bo u1110q u1030q.heap.size [.int .i64 0, .int .i64 0]) := h1108q.out.later hb
          clear h1106q h1107q h1108q
          clear hb
          go_wp2_with fail
          refine hK.out _ _ trivial (fun hH => ?_)
          clear hK K
          try simp only [Act.put, List.setIfInBounds_toArray, List.set_cons_zero, List.set_cons_succ]
          refine wpAnyH_take (i := 6) (oi := { dst := some 20, op := .move (.tmp 26), type := _, pos := _, after := _, guard := _ }) (v := ?_) rfl (by kernel_rfl) (by kernel_rfl) (by kernel_rfl) (fun _ _ _ h => h) (Or.inl ⟨by rfl, ?_⟩) hH ?_
          rotate_left
          · intro w hSw
            clear hSw
            go_simp
            try with_reducible rfl
          simp only [Act.put, List.setIfInBounds_toArray, List.set_cons_zero, List.set_cons_succ]
          refine wpAnyH_take (i := 7) (oi := { dst := some 27, op := .extract (.tmp 20) 0, type := _, pos := _, after := _, guard := _ }) (v := ?_) rfl (by kernel_rfl) (by kernel_rfl) (by kernel_rfl) (fun _ _ _ h => h) (Or.inl ⟨by rfl, ?_⟩) hH ?_
          rotate_left
          · intro w hSw
            clear hSw
            go_simp
            try with_reducible rfl
          simp only [Act.put, List.setIfInBounds_toArray, List.set_cons_zero, List.set_cons_succ]
          refine wpAnyH_take (i := 8) (oi := { dst := some 28, op := .extract (.tmp 20) 1, type := _, pos := _, after := _, guard := _ }) (v := ?_) rfl (by kernel_rfl) (by kernel_rfl) (by kernel_rfl) (fun _ _ _ h => h) (Or.inl ⟨by rfl, ?_⟩) hH ?_
          rotate_left
          · intro w hSw
            clear hSw
            go_simp
            try with_reducible rfl
          simp only [Act.put, List.setIfInBounds_toArray, List.set_cons_zero, List.set_cons_succ]
          refine wpAnyH_ready (rs := [10]) (by kernel_rfl) (by simp) ?_
          refine AllReadyH.cons (o := { dst := none, op := .store _ (.tmp 9) (.tmp 27), type := _, pos := _, after := _, guard := _ }) rfl (fun K hK => ?_) AllReadyH.nil
          rw [if_pos (by rfl)]
          refine wp_store_mid _ _ _ rfl u871q.heap.size _ u.all.toArray rfl rfl (h1112q.out.thereOf u) (HZ.out u) (u.all_all) ?_
          simp only [Act.put]
          have h1114q : Hid (Gd n w (u1110q.setCells u871q.heap.size 0 u.all)) := h1111q.out.asideAll (by omega) u
          have h1115q : Hid (TAt (u1110q.setCells u871q.heap.size 0 u.all) u871q.heap.size u) := h1112q.out.setAll u
          have h1116q : Hid (Bo (u1110q.setCells u871q.heap.size 0 u.all) u1030q.heap.size [.int .i64 0, .int .i64 0]) := h1113q.out.asideAll (by omega) u
          clear h1111q h1112q h1113q
          refine hK.out _ _ trivial (fun hH => ?_)
          clear hK K
          generalize (u1110q.setCells u871q.heap.size 0 u.all) = u1117q at h1114q h1115q h1116q hH ⊢
          try simp only [Act.put, List.setIfInBounds_toArray, List.set_cons_zero, List.set_cons_succ]
          refine wpAnyH_ready (rs := [11]) (by kernel_rfl) (by simp) ?_
          refine AllReadyH.cons (o := { dst := none, op := .store _ (.tmp 10) (.tmp 28), type := _, pos := _, after := _, guard := _ }) rfl (fun K hK => ?_) AllReadyH.nil
          rw [if_pos (by rfl)]
          refine wp_store_mid _ _ _ rfl u1030q.heap.size _ #[.int .i64 (1), .int .i64 (0)] rfl rfl h1116q.out.there2 HA.out (two_one _ _) ?_
          simp only [Act.put]
          have h1118q : Hid (Gd n w (u1117q.setCells u1030q.heap.size 0 [.int .i64 (1), .int .i64 (0)])) := h1114q.out.asideL (by omega) 0 [.int .i64 (1), .int .i64 (0)]
          have h1119q : Hid (TAt (u1117q.setCells u1030q.heap.size 0 [.int .i64 (1), .int .i64 (0)]) u871q.heap.size u) := h1115q.out.asideL (by omega) 0 [.int .i64 (1), .int .i64 (0)]
          have h1120q : Hid (Bo (u1117q.setCells u1030q.heap.size 0 [.int .i64 (1), .int .i64 (0)]) u1030q.heap.size [.int .i64 (1), .int .i64 (0)]) := h1116q.out.set2 (.int .i64 (1)) (.int .i64 (0))
          clear h1114q h1115q h1116q
          refine hK.out _ _ trivial (fun hH => ?_)
          clear hK K
          generalize (u1117q.setCells u1030q.heap.size 0 [.int .i64 (1), .int .i64 (0)]) = u1121q at h1118q h1119q h1120q hH ⊢
          try simp only [Act.put, List.setIfInBounds_toArray, List.set_cons_zero, List.set_cons_succ]
          refine wpAnyH_done (by kernel_rfl) ?_ _
          go_wp2_with fail
          go_meet
          case rel => exact ⟨u1030q.heap.size, rfl, h1118q, h1119q, h1120q⟩
        refine AllReadyH.cons (o := { dst := some 10, op := .alloc _, type := _, pos := _, after := _, guard := _ }) rfl (fun K hK => ?_) AllReadyH.nil
        have l1122q : n ≤ u1030q.heap.size := h1028q.out.le
        have l1123q : u871q.heap.size < u1030q.heap.size := h1029q.out.lt
        go_simp
        have h1124q : Hid (Gd n w (u1030q.alloc (.cells #[.int .i64 0, .int .i64 0] 31))) := h1028q.out.new (.cells #[.int .i64 0, .int .i64 0] 31)
        have h1125q : Hid (TAt (u1030q.alloc (.cells #[.int .i64 0, .int .i64 0] 31)) u871q.heap.size t) := h1029q.out.new (.cells #[.int .i64 0, .int .i64 0] 31)
        clear h1028q h1029q
        have h1126q : Hid (Bo (u1030q.alloc (.cells #[.int .i64 0, .int .i64 0] 31)) u1030q.heap.size [.int .i64 0, .int .i64 0]) := Bo.born u1030q [.int .i64 0, .int .i64 0] 31 (by simp)
        refine hK.out _ _ trivial (fun hH => ?_)
        clear hK K
        generalize (u1030q.alloc (.cells #[.int .i64 0, .int .i64 0] 31)) = u1127q at h1124q h1125q h1126q hH ⊢
        try simp only [Act.put, List.setIfInBounds_toArray, List.set_cons_zero, List.set_cons_succ]
        refine wpAnyH_ready (rs := [0]) (by kernel_rfl) (by simp) ?_
        refine AllReadyH.cons (o := { dst := some 21, op := .load _ (.tmp 9), type := _, pos := _, after := _, guard := _ }) rfl (fun K hK => ?_) AllReadyH.nil
        rw [if_pos (by rfl)]
        refine wp_load_mid _ _ rfl u871q.heap.size _ rfl t.all _ h1125q.out.range HD.out rfl (HS.out t) ?_
        simp only [Act.put, List.setIfInBounds_toArray, List.set_cons_zero, List.set_cons_succ]
        refine hK.out _ _ trivial (fun hH => ?_)
        clear hK K
        try simp only [Act.put, List.setIfInBounds_toArray, List.set_cons_zero, List.set_cons_succ]
        refine wpAnyH_ready (rs := [5]) (by kernel_rfl) (by simp) ?_
        refine AllReadyH.cons (o := { dst := some 26, op := _, type := _, pos := _, after := _, guard := _ }) rfl (fun K hK => ?_) AllReadyH.nil
        go_simp
        refine (DO _).mono ?_
        rintro e u1128q ⟨rfl, hb⟩
        have h1129q : Hid (Gd n w u1128q) := h1124q.out.later hb
        have h1130q : Hid (TAt u1128q u871q.heap.size t) := h1125q.out.later hb
        have h1131q : Hid (Bo u1128q u1030q.heap.size [.int .i64 0, .int .i64 0]) := h1126q.out.later hb
        clear h1124q h1125q h1126q
        clear hb
        go_wp2_with fail
        refine hK.out _ _ trivial (fun hH => ?_)
        clear hK K
        try simp only [Act.put, List.setIfInBounds_toArray, List.set_cons_zero, List.set_cons_succ]
        refine wpAnyH_take (i := 6) (oi := { dst := some 20, op := .move (.tmp 26), type := _, pos := _, after := _, guard := _ }) (v := ?_) rfl (by kernel_rfl) (by kernel_rfl) (by kernel_rfl) (fun _ _ _ h => h) (Or.inl ⟨by rfl, ?_⟩) hH ?_
        rotate_left
        · intro w hSw
          clear hSw
          go_simp
          try with_reducible rfl
        simp only [Act.put, List.setIfInBounds_toArray, List.set_cons_zero, List.set_cons_succ]
        refine wpAnyH_take (i := 7) (oi := { dst := some 27, op := .extract (.tmp 20) 0, type := _, pos := _, after := _, guard := _ }) (v := ?_) rfl (by kernel_rfl) (by kernel_rfl) (by kernel_rfl) (fun _ _ _ h => h) (Or.inl ⟨by rfl, ?_⟩) hH ?_
        rotate_left
        · intro w hSw
          clear hSw
          go_simp
          try with_reducible rfl
        simp only [Act.put, List.setIfInBounds_toArray, List.set_cons_zero, List.set_cons_succ]
        refine wpAnyH_take (i := 8) (oi := { dst := some 28, op := .extract (.tmp 20) 1, type := _, pos := _, after := _, guard := _ }) (v := ?_) rfl (by kernel_rfl) (by kernel_rfl) (by kernel_rfl) (fun _ _ _ h => h) (Or.inl ⟨by rfl, ?_⟩) hH ?_
        rotate_left
        · intro w hSw
          clear hSw
          go_simp
          try with_reducible rfl
        simp only [Act.put, List.setIfInBounds_toArray, List.set_cons_zero, List.set_cons_succ]
        refine wpAnyH_ready (rs := [10]) (by kernel_rfl) (by simp) ?_
        refine AllReadyH.cons (o := { dst := none, op := .store _ (.tmp 9) (.tmp 27), type := _, pos := _, after := _, guard := _ }) rfl (fun K hK => ?_) AllReadyH.nil
        rw [if_pos (by rfl)]
        refine wp_store_mid _ _ _ rfl u871q.heap.size _ u.all.toArray rfl rfl (h1130q.out.thereOf u) (HZ.out u) (u.all_all) ?_
        simp only [Act.put]
        have h1132q : Hid (Gd n w (u1128q.setCells u871q.heap.size 0 u.all)) := h1129q.out.asideAll (by omega) u
        have h1133q : Hid (TAt (u1128q.setCells u871q.heap.size 0 u.all) u871q.heap.size u) := h1130q.out.setAll u
        have h1134q : Hid (Bo (u1128q.setCells u871q.heap.size 0 u.all) u1030q.heap.size [.int .i64 0, .int .i64 0]) := h1131q.out.asideAll (by omega) u
        clear h1129q h1130q h1131q
        refine hK.out _ _ trivial (fun hH => ?_)
        clear hK K
        generalize (u1128q.setCells u871q.heap.size 0 u.all) = u1135q at h1132q h1133q h1134q hH ⊢
        try simp only [Act.put, List.setIfInBounds_toArray, List.set_cons_zero, List.set_cons_succ]
        refine wpAnyH_ready (rs := [11]) (by kernel_rfl) (by simp) ?_
        refine AllReadyH.cons (o := { dst := none, op := .store _ (.tmp 10) (.tmp 28), type := _, pos := _, after := _, guard := _ }) rfl (fun K hK => ?_) AllReadyH.nil
        rw [if_pos (by rfl)]
        refine wp_store_mid _ _ _ rfl u1030q.heap.size _ #[.int .i64 (1), .int .i64 (0)] rfl rfl h1134q.out.there2 HA.out (two_one _ _) ?_
        simp only [Act.put]
        have h1136q : Hid (Gd n w (u1135q.setCells u1030q.heap.size 0 [.int .i64 (1), .int .i64 (0)])) := h1132q.out.asideL (by omega) 0 [.int .i64 (1), .int .i64 (0)]
        have h1137q : Hid (TAt (u1135q.setCells u1030q.heap.size 0 [.int .i64 (1), .int .i64 (0)]) u871q.heap.size u) := h1133q.out.asideL (by omega) 0 [.int .i64 (1), .int .i64 (0)]
        have h1138q : Hid (Bo (u1135q.setCells u1030q.heap.size 0 [.int .i64 (1), .int .i64 (0)]) u1030q.heap.size [.int .i64 (1), .int .i64 (0)]) := h1134q.out.set2 (.int .i64 (1)) (.int .i64 (0))
        clear h1132q h1133q h1134q
        refine hK.out _ _ trivial (fun hH => ?_)
        clear hK K
        generalize (u1135q.setCells u1030q.heap.size 0 [.int .i64 (1), .int .i64 (0)]) = u1139q at h1136q h1137q h1138q hH ⊢
        try simp only [Act.put, List.setIfInBounds_toArray, List.set_cons_zero, List.set_cons_succ]
        refine wpAnyH_done (by kernel_rfl) ?_ _
        go_wp2_with fail
        go_meet
        case rel => exact ⟨u1030q.heap.size, rfl, h1136q, h1137q, h1138q⟩
      refine AllReadyH.cons (o := { dst := some 10, op := .alloc _, type := _, pos := _, after := _, guard := _ }) rfl (fun K hK => ?_) AllReadyH.nil
      have l1140q : n ≤ u1030q.heap.size := h1028q.out.le
      have l1141q : u871q.heap.size < u1030q.heap.size := h1029q.out.lt
      go_simp
      have h1142q : Hid (Gd n w (u1030q.alloc (.cells #[.int .i64 0, .int .i64 0] 31))) := h1028q.out.new (.cells #[.int .i64 0, .int .i64 0] 31)
      have h1143q : Hid (TAt (u1030q.alloc (.cells #[.int .i64 0, .int .i64 0] 31)) u871q.heap.size t) := h1029q.out.new (.cells #[.int .i64 0, .int .i64 0] 31)
      clear h1028q h1029q
      have h1144q : Hid (Bo (u1030q.alloc (.cells #[.int .i64 0, .int .i64 0] 31)) u1030q.heap.size [.int .i64 0, .int .i64 0]) := Bo.born u1030q [.int .i64 0, .int .i64 0] 31 (by simp)
      refine hK.out _ _ trivial (fun hH => ?_)
      clear hK K
      generalize (u1030q.alloc (.cells #[.int .i64 0, .int .i64 0] 31)) = u1145q at h1142q h1143q h1144q hH ⊢
      try simp only [Act.put, List.setIfInBounds_toArray, List.set_cons_zero, List.set_cons_succ]
      refine wpAnyH_ready (rs := [0, 3]) (by kernel_rfl) (by simp) ?_
      refine AllReadyH.cons (o := { dst := some 21, op := .load _ (.tmp 9), type := _, pos := _, after := _, guard := _ }) rfl (fun K hK => ?_) ?_
      · rw [if_pos (by rfl)]
        refine wp_load_mid _ _ rfl u871q.heap.size _ rfl t.all _ h1143q.out.range HD.out rfl (HS.out t) ?_
        simp only [Act.put, List.setIfInBounds_toArray, List.set_cons_zero, List.set_cons_succ]
        refine hK.out _ _ trivial (fun hH => ?_)
        clear hK K
        try simp only [Act.put, List.setIfInBounds_toArray, List.set_cons_zero, List.set_cons_succ]
        refine wpAnyH_ready (rs := [3]) (by kernel_rfl) (by simp) ?_
        refine AllReadyH.cons (o := { dst := some 24, op := _, type := _, pos := _, after := _, guard := _ }) rfl (fun K hK => ?_) AllReadyH.nil
        go_simp
        refine (Pr2.out _).mono ?_
        rintro e u1146q ⟨rfl, hw⟩
        rw [hw]; clear hw u1146q
        go_wp2_with fail
        refine hK.out _ _ trivial (fun hH => ?_)
        clear hK K
        try simp only [Act.put, List.setIfInBounds_toArray, List.set_cons_zero, List.set_cons_succ]
        refine wpAnyH_take (i := 4) (oi := { dst := some 25, op := .build _ #[(0, .const (.int .i64 1)), (1, .tmp 22), (2, .tmp 24)], type := _, pos := _, after := _, guard := _ }) (v := ?_) rfl (by kernel_rfl) (by kernel_rfl) (by kernel_rfl) (fun _ _ _ h => h) (Or.inl ⟨by rfl, ?_⟩) hH ?_
        rotate_left
        · intro w hSw
          clear hSw
          go_simp
          try with_reducible rfl
        simp only [Act.put, List.setIfInBounds_toArray, List.set_cons_zero, List.set_cons_succ]
        refine wpAnyH_ready (rs := [5]) (by kernel_rfl) (by simp) ?_
        refine AllReadyH.cons (o := { dst := some 26, op := _, type := _, pos := _, after := _, guard := _ }) rfl (fun K hK => ?_) AllReadyH.nil
        go_simp
        refine (DO _).mono ?_
        rintro e u1147q ⟨rfl, hb⟩
        have h1148q : Hid (Gd n w u1147q) := h1142q.out.later hb
        have h1149q : Hid (TAt u1147q u871q.heap.size t) := h1143q.out.later hb
        have h1150q : Hid (Bo u1147q u1030q.heap.size [.int .i64 0, .int .i64 0]) := h1144q.out.later hb
        clear h1142q h1143q h1144q
        clear hb
        go_wp2_with fail
        refine hK.out _ _ trivial (fun hH => ?_)
        clear hK K
        try simp only [Act.put, List.setIfInBounds_toArray, List.set_cons_zero, List.set_cons_succ]
        refine wpAnyH_take (i := 6) (oi := { dst := some 20, op := .move (.tmp 26), type := _, pos := _, after := _, guard := _ }) (v := ?_) rfl (by kernel_rfl) (by kernel_rfl) (by kernel_rfl) (fun _ _ _ h => h) (Or.inl ⟨by rfl, ?_⟩) hH ?_
        rotate_left
        · intro w hSw
          clear hSw
          go_simp
          try with_reducible rfl
        simp only [Act.put, List.setIfInBounds_toArray, List.set_cons_zero, List.set_cons_succ]
        refine wpAnyH_take (i := 7) (oi := { dst := some 27, op := .extract (.tmp 20) 0, type := _, pos := _, after := _, guard := _ }) (v := ?_) rfl (by kernel_rfl) (by kernel_rfl) (by kernel_rfl) (fun _ _ _ h => h) (Or.inl ⟨by rfl, ?_⟩) hH ?_
        rotate_left
        · intro w hSw
          clear hSw
          go_simp
          try with_reducible rfl
        simp only [Act.put, List.setIfInBounds_toArray, List.set_cons_zero, List.set_cons_succ]
        refine wpAnyH_take (i := 8) (oi := { dst := some 28, op := .extract (.tmp 20) 1, type := _, pos := _, after := _, guard := _ }) (v := ?_) rfl (by kernel_rfl) (by kernel_rfl) (by kernel_rfl) (fun _ _ _ h => h) (Or.inl ⟨by rfl, ?_⟩) hH ?_
        rotate_left
        · intro w hSw
          clear hSw
          go_simp
          try with_reducible rfl
        simp only [Act.put, List.setIfInBounds_toArray, List.set_cons_zero, List.set_cons_succ]
        refine wpAnyH_ready (rs := [10]) (by kernel_rfl) (by simp) ?_
        refine AllReadyH.cons (o := { dst := none, op := .store _ (.tmp 9) (.tmp 27), type := _, pos := _, after := _, guard := _ }) rfl (fun K hK => ?_) AllReadyH.nil
        rw [if_pos (by rfl)]
        refine wp_store_mid _ _ _ rfl u871q.heap.size _ u.all.toArray rfl rfl (h1149q.out.thereOf u) (HZ.out u) (u.all_all) ?_
        simp only [Act.put]
        have h1151q : Hid (Gd n w (u1147q.setCells u871q.heap.size 0 u.all)) := h1148q.out.asideAll (by omega) u
        have h1152q : Hid (TAt (u1147q.setCells u871q.heap.size 0 u.all) u871q.heap.size u) := h1149q.out.setAll u
        have h1153q : Hid (Bo (u1147q.setCells u871q.heap.size 0 u.all) u1030q.heap.size [.int .i64 0, .int .i64 0]) := h1150q.out.asideAll (by omega) u
        clear h1148q h1149q h1150q
        refine hK.out _ _ trivial (fun hH => ?_)
        clear hK K
        generalize (u1147q.setCells u871q.heap.size 0 u.all) = u1154q at h1151q h1152q h1153q hH ⊢
        try simp only [Act.put, List.setIfInBounds_toArray, List.set_cons_zero, List.set_cons_succ]
        refine wpAnyH_ready (rs := [11]) (by kernel_rfl) (by simp) ?_
        refine AllReadyH.cons (o := { dst := none, op := .store _ (.tmp 10) (.tmp 28), type := _, pos := _, after := _, guard := _ }) rfl (fun K hK => ?_) AllReadyH.nil
        rw [if_pos (by rfl)]
        refine wp_store_mid _ _ _ rfl u1030q.heap.size _ #[.int .i64 (1), .int .i64 (0)] rfl rfl h1153q.out.there2 HA.out (two_one _ _) ?_
        simp only [Act.put]
        have h1155q : Hid (Gd n w (u1154q.setCells u1030q.heap.size 0 [.int .i64 (1), .int .i64 (0)])) := h1151q.out.asideL (by omega) 0 [.int .i64 (1), .int .i64 (0)]
        have h1156q : Hid (TAt (u1154q.setCells u1030q.heap.size 0 [.int .i64 (1), .int .i64 (0)]) u871q.heap.size u) := h1152q.out.asideL (by omega) 0 [.int .i64 (1), .int .i64 (0)]
        have h1157q : Hid (Bo (u1154q.setCells u1030q.heap.size 0 [.int .i64 (1), .int .i64 (0)]) u1030q.heap.size [.int .i64 (1), .int .i64 (0)]) := h1153q.out.set2 (.int .i64 (1)) (.int .i64 (0))
        clear h1151q h1152q h1153q
        refine hK.out _ _ trivial (fun hH => ?_)
        clear hK K
        generalize (u1154q.setCells u1030q.heap.size 0 [.int .i64 (1), .int .i64 (0)]) = u1158q at h1155q h1156q h1157q hH ⊢
        try simp only [Act.put, List.setIfInBounds_toArray, List.set_cons_zero, List.set_cons_succ]
        refine wpAnyH_done (by kernel_rfl) ?_ _
        go_wp2_with fail
        go_meet
        case rel => exact ⟨u1030q.heap.size, rfl, h1155q, h1156q, h1157q⟩
      refine AllReadyH.cons (o := { dst := some 24, op := _, type := _, pos := _, after := _, guard := _ }) rfl (fun K hK => ?_) AllReadyH.nil
      go_simp
      refine (Pr2.out _).mono ?_
      rintro e u1159q ⟨rfl, hw⟩
      rw [hw]; clear hw u1159q
      go_wp2_with fail
      refine hK.out _ _ trivial (fun hH => ?_)
      clear hK K
      try simp only [Act.put, List.setIfInBounds_toArray, List.set_cons_zero, List.set_cons_succ]
      refine wpAnyH_take (i := 4) (oi := { dst := some 25, op := .build _ #[(0, .const (.int .i64 1)), (1, .tmp 22), (2, .tmp 24)], type := _, pos := _, after := _, guard := _ }) (v := ?_) rfl (by kernel_rfl) (by kernel_rfl) (by kernel_rfl) (fun _ _ _ h => h) (Or.inl ⟨by rfl, ?_⟩) hH ?_
      rotate_left
      · intro w hSw
        clear hSw
        go_simp
        try with_reducible rfl
      simp only [Act.put, List.setIfInBounds_toArray, List.set_cons_zero, List.set_cons_succ]
      refine wpAnyH_ready (rs := [0]) (by kernel_rfl) (by simp) ?_
      refine AllReadyH.cons (o := { dst := some 21, op := .load _ (.tmp 9), type := _, pos := _, after := _, guard := _ }) rfl (fun K hK => ?_) AllReadyH.nil
      rw [if_pos (by rfl)]
      refine wp_load_mid _ _ rfl u871q.heap.size _ rfl t.all _ h1143q.out.range HD.out rfl (HS.out t) ?_
      simp only [Act.put, List.setIfInBounds_toArray, List.set_cons_zero, List.set_cons_succ]
      refine hK.out _ _ trivial (fun hH => ?_)
      clear hK K
      try simp only [Act.put, List.setIfInBounds_toArray, List.set_cons_zero, List.set_cons_succ]
      refine wpAnyH_ready (rs := [5]) (by kernel_rfl) (by simp) ?_
      refine AllReadyH.cons (o := { dst := some 26, op := _, type := _, pos := _, after := _, guard := _ }) rfl (fun K hK => ?_) AllReadyH.nil
      go_simp
      refine (DO _).mono ?_
      rintro e u1160q ⟨rfl, hb⟩
      have h1161q : Hid (Gd n w u1160q) := h1142q.out.later hb
      have h1162q : Hid (TAt u1160q u871q.heap.size t) := h1143q.out.later hb
      have h1163q : Hid (Bo u1160q u1030q.heap.size [.int .i64 0, .int .i64 0]) := h1144q.out.later hb
      clear h1142q h1143q h1144q
      clear hb
      go_wp2_with fail
      refine hK.out _ _ trivial (fun hH => ?_)
      clear hK K
      try simp only [Act.put, List.setIfInBounds_toArray, List.set_cons_zero, List.set_cons_succ]
      refine wpAnyH_take (i := 6) (oi := { dst := some 20, op := .move (.tmp 26), type := _, pos := _, after := _, guard := _ }) (v := ?_) rfl (by kernel_rfl) (by kernel_rfl) (by kernel_rfl) (fun _ _ _ h => h) (Or.inl ⟨by rfl, ?_⟩) hH ?_
      rotate_left
      · intro w hSw
        clear hSw
        go_simp
        try with_reducible rfl
      simp only [Act.put, List.setIfInBounds_toArray, List.set_cons_zero, List.set_cons_succ]
      refine wpAnyH_take (i := 7) (oi := { dst := some 27, op := .extract (.tmp 20) 0, type := _, pos := _, after := _, guard := _ }) (v := ?_) rfl (by kernel_rfl) (by kernel_rfl) (by kernel_rfl) (fun _ _ _ h => h) (Or.inl ⟨by rfl, ?_⟩) hH ?_
      rotate_left
      · intro w hSw
        clear hSw
        go_simp
        try with_reducible rfl
      simp only [Act.put, List.setIfInBounds_toArray, List.set_cons_zero, List.set_cons_succ]
      refine wpAnyH_take (i := 8) (oi := { dst := some 28, op := .extract (.tmp 20) 1, type := _, pos := _, after := _, guard := _ }) (v := ?_) rfl (by kernel_rfl) (by kernel_rfl) (by kernel_rfl) (fun _ _ _ h => h) (Or.inl ⟨by rfl, ?_⟩) hH ?_
      rotate_left
      · intro w hSw
        clear hSw
        go_simp
        try with_reducible rfl
      simp only [Act.put, List.setIfInBounds_toArray, List.set_cons_zero, List.set_cons_succ]
      refine wpAnyH_ready (rs := [10]) (by kernel_rfl) (by simp) ?_
      refine AllReadyH.cons (o := { dst := none, op := .store _ (.tmp 9) (.tmp 27), type := _, pos := _, after := _, guard := _ }) rfl (fun K hK => ?_) AllReadyH.nil
      rw [if_pos (by rfl)]
      refine wp_store_mid _ _ _ rfl u871q.heap.size _ u.all.toArray rfl rfl (h1162q.out.thereOf u) (HZ.out u) (u.all_all) ?_
      simp only [Act.put]
      have h1164q : Hid (Gd n w (u1160q.setCells u871q.heap.size 0 u.all)) := h1161q.out.asideAll (by omega) u
      have h1165q : Hid (TAt (u1160q.setCells u871q.heap.size 0 u.all) u871q.heap.size u) := h1162q.out.setAll u
      have h1166q : Hid (Bo (u1160q.setCells u871q.heap.size 0 u.all) u1030q.heap.size [.int .i64 0, .int .i64 0]) := h1163q.out.asideAll (by omega) u
      clear h1161q h1162q h1163q
      refine hK.out _ _ trivial (fun hH => ?_)
      clear hK K
      generalize (u1160q.setCells u871q.heap.size 0 u.all) = u1167q at h1164q h1165q h1166q hH ⊢
      try simp only [Act.put, List.setIfInBounds_toArray, List.set_cons_zero, List.set_cons_succ]
      refine wpAnyH_ready (rs := [11]) (by kernel_rfl) (by simp) ?_
      refine AllReadyH.cons (o := { dst := none, op := .store _ (.tmp 10) (.tmp 28), type := _, pos := _, after := _, guard := _ }) rfl (fun K hK => ?_) AllReadyH.nil
      rw [if_pos (by rfl)]
      refine wp_store_mid _ _ _ rfl u1030q.heap.size _ #[.int .i64 (1), .int .i64 (0)] rfl rfl h1166q.out.there2 HA.out (two_one _ _) ?_
      simp only [Act.put]
      have h1168q : Hid (Gd n w (u1167q.setCells u1030q.heap.size 0 [.int .i64 (1), .int .i64 (0)])) := h1164q.out.asideL (by omega) 0 [.int .i64 (1), .int .i64 (0)]
      have h1169q : Hid (TAt (u1167q.setCells u1030q.heap.size 0 [.int .i64 (1), .int .i64 (0)]) u871q.heap.size u) := h1165q.out.asideL (by omega) 0 [.int .i64 (1), .int .i64 (0)]
      have h1170q : Hid (Bo (u1167q.setCells u1030q.heap.size 0 [.int .i64 (1), .int .i64 (0)]) u1030q.heap.size [.int .i64 (1), .int .i64 (0)]) := h1166q.out.set2 (.int .i64 (1)) (.int .i64 (0))
      clear h1164q h1165q h1166q
      refine hK.out _ _ trivial (fun hH => ?_)
      clear hK K
      generalize (u1167q.setCells u1030q.heap.size 0 [.int .i64 (1), .int .i64 (0)]) = u1171q at h1168q h1169q h1170q hH ⊢
      try simp only [Act.put, List.setIfInBounds_toArray, List.set_cons_zero, List.set_cons_succ]
      refine wpAnyH_done (by kernel_rfl) ?_ _
      go_wp2_with fail
      go_meet
      case rel => exact ⟨u1030q.heap.size, rfl, h1168q, h1169q, h1170q⟩
    case rest =>
      obtain ⟨b_a, rfl, h1172q, h1173q, h1174q⟩ := hcut
      have c1175q := h1174q.out.at 0 rfl
      go_wp2_with fail
      go_cut [11, 12] (fun s11 s12 wx => ∃ b_u b_b : Nat, s11 = .pointer (some ⟨b_u, 0, none⟩) ∧ s12 = .pointer (some ⟨b_b, 0, none⟩) ∧ Hid (Gd n w wx) ∧ Hid (TAt wx u871q.heap.size u) ∧ Hid (Bo wx b_a [.int .i64 (1), .int .i64 (0)]) ∧ Hid (TAt wx b_u u2) ∧ Hid (Bo wx b_b [.int .i64 (1), .int .i64 (0)]))
      case first =>
        have h1176q : Hid (Gd n w wc.drew) := h1172q.out.drew
        have h1177q : Hid (TAt wc.drew u871q.heap.size u) := h1173q.out.drew
        have h1178q : Hid (Bo wc.drew b_a [.int .i64 (1), .int .i64 (0)]) := h1174q.out.drew
        clear h1172q h1173q h1174q
        refine wp_region_held_drew (S := fun w' => TAt w' u871q.heap.size u) (by kernel_rfl) h1177q.out (fun hH => ?_)
        generalize wc.drew = u1179q at h1176q h1177q h1178q hH ⊢
        refine wpAnyH_take (i := 0) (oi := { dst := some 36, op := .load _ (.tmp 9), type := _, pos := _, after := _, guard := _ }) (v := _) rfl (by kernel_rfl) (by kernel_rfl) (by kernel_rfl) (fun _ _ _ h => h) (yieldsIf_load_mid (by rfl) _ _ rfl u871q.heap.size _ rfl u.all _ (fun _ h => (h).range) HD.out rfl (HS.out u)) hH ?_
        simp only [Act.put, List.setIfInBounds_toArray, List.set_cons_zero, List.set_cons_succ]
        refine wpAnyH_take (i := 1) (oi := { dst := some 37, op := .move (.tmp 1), type := _, pos := _, after := _, guard := _ }) (v := ?_) rfl (by kernel_rfl) (by kernel_rfl) (by kernel_rfl) (fun _ _ _ h => h) (Or.inl ⟨by rfl, ?_⟩) hH ?_
        rotate_left
        · intro w hSw
          clear hSw
          go_simp
          try with_reducible rfl
        simp only [Act.put, List.setIfInBounds_toArray, List.set_cons_zero, List.set_cons_succ]
        refine wpAnyH_take (i := 2) (oi := { dst := some 38, op := .move (.tmp 3), type := _, pos := _, after := _, guard := _ }) (v := ?_) rfl (by kernel_rfl) (by kernel_rfl) (by kernel_rfl) (fun _ _ _ h => h) (Or.inl ⟨by rfl, ?_⟩) hH ?_
        rotate_left
        · intro w hSw
          clear hSw
          go_simp
          try with_reducible rfl
        simp only [Act.put, List.setIfInBounds_toArray, List.set_cons_zero, List.set_cons_succ]
        refine wpAnyH_ready (rs := [3, 9, 10]) (by kernel_rfl) (by simp) ?_
        refine AllReadyH.cons (o := { dst := some 39, op := _, type := _, pos := _, after := _, guard := _ }) rfl (fun K hK => ?_) ?_
        · go_simp
          refine (Pr3.out _).mono ?_
          rintro e u1180q ⟨rfl, hw⟩
          rw [hw]; clear hw u1180q
          go_wp2_with fail
          refine hK.out _ _ h1177q.out (fun hH => ?_)
          clear hK K
          try simp only [Act.put, List.setIfInBounds_toArray, List.set_cons_zero, List.set_cons_succ]
          refine wpAnyH_take (i := 4) (oi := { dst := some 40, op := .build _ #[(0, .const (.int .i64 1)), (1, .tmp 37), (2, .tmp 39)], type := _, pos := _, after := _, guard := _ }) (v := ?_) rfl (by kernel_rfl) (by kernel_rfl) (by kernel_rfl) (fun _ _ _ h => h) (Or.inl ⟨by rfl, ?_⟩) hH ?_
          rotate_left
          · intro w hSw
            clear hSw
            go_simp
            try with_reducible rfl
          simp only [Act.put, List.setIfInBounds_toArray, List.set_cons_zero, List.set_cons_succ]
          refine wpAnyH_ready (rs := [5, 9, 10]) (by kernel_rfl) (by simp) ?_
          refine AllReadyH.cons (o := { dst := some 41, op := _, type := _, pos := _, after := _, guard := _ }) rfl (fun K hK => ?_) ?_
          · go_simp
            refine (DO2 _).mono ?_
            rintro e u1181q ⟨rfl, hb⟩
            have h1182q : Hid (Gd n w u1181q) := h1176q.out.later hb
            have h1183q : Hid (TAt u1181q u871q.heap.size u) := h1177q.out.later hb
            have h1184q : Hid (Bo u1181q b_a [.int .i64 (1), .int .i64 (0)]) := h1178q.out.later hb
            clear h1176q h1177q h1178q
            clear hb
            go_wp2_with fail
            refine hK.out _ _ h1183q.out (fun hH => ?_)
            clear hK K
            try simp only [Act.put, List.setIfInBounds_toArray, List.set_cons_zero, List.set_cons_succ]
            refine wpAnyH_take (i := 6) (oi := { dst := some 35, op := .move (.tmp 41), type := _, pos := _, after := _, guard := _ }) (v := ?_) rfl (by kernel_rfl) (by kernel_rfl) (by kernel_rfl) (fun _ _ _ h => h) (Or.inl ⟨by rfl, ?_⟩) hH ?_
            rotate_left
            · intro w hSw
              clear hSw
              go_simp
              try with_reducible rfl
            simp only [Act.put, List.setIfInBounds_toArray, List.set_cons_zero, List.set_cons_succ]
            refine wpAnyH_take (i := 7) (oi := { dst := some 42, op := .extract (.tmp 35) 0, type := _, pos := _, after := _, guard := _ }) (v := ?_) rfl (by kernel_rfl) (by kernel_rfl) (by kernel_rfl) (fun _ _ _ h => h) (Or.inl ⟨by rfl, ?_⟩) hH ?_
            rotate_left
            · intro w hSw
              clear hSw
              go_simp
              try with_reducible rfl
            simp only [Act.put, List.setIfInBounds_toArray, List.set_cons_zero, List.set_cons_succ]
            refine wpAnyH_take (i := 8) (oi := { dst := some 43, op := .extract (.tmp 35) 1, type := _, pos := _, after := _, guard := _ }) (v := ?_) rfl (by kernel_rfl) (by kernel_rfl) (by kernel_rfl) (fun _ _ _ h => h) (Or.inl ⟨by rfl, ?_⟩) hH ?_
            rotate_left
            · intro w hSw
              clear hSw
              go_simp
              try with_reducible rfl
            simp only [Act.put, List.setIfInBounds_toArray, List.set_cons_zero, List.set_cons_succ]
            refine wpAnyH_ready (rs := [9, 10]) (by kernel_rfl) (by simp) ?_
            refine AllReadyH.cons (o := { dst := some 11, op := .alloc _, type := _, pos := _, after := _, guard := _ }) rfl (fun K hK => ?_) ?_
            · have l1185q : n ≤ u1181q.heap.size := h1182q.out.le
              have l1186q : u871q.heap.size < u1181q.heap.size := h1183q.out.lt
              have l1187q : b_a < u1181q.heap.size := h1184q.out.lt
              go_simp
              have h1188q : Hid (Gd n w (u1181q.alloc (.cells #[.int .i64 0, .int .i64 0, .int .i64 0, .int .i64 0, .int .i64 0, .int .i64 0, .int .i64 0, .int .i64 0, .int .i64 0, .int .i64 0, .int .i64 0, .int .i64 0, .int .i64 0, .int .i64 0, .int .i64 0, .int .i64 0] 27))) := h1182q.out.new (.cells #[.int .i64 0, .int .i64 0, .int .i64 0, .int .i64 0, .int .i64 0, .int .i64 0, .int .i64 0, .int .i64 0, .int .i64 0, .int .i64 0, .int .i64 0, .int .i64 0, .int .i64 0, .int .i64 0, .int .i64 0, .int .i64 0] 27)
              have h1189q : Hid (TAt (u1181q.alloc (.cells #[.int .i64 0, .int .i64 0, .int .i64 0, .int .i64 0, .int .i64 0, .int .i64 0, .int .i64 0, .int .i64 0, .int .i64 0, .int .i64 0, .int .i64 0, .int .i64 0, .int .i64 0, .int .i64 0, .int .i64 0, .int .i64 0] 27)) u871q.heap.size u) := h1183q.out.new (.cells #[.int .i64 0, .int .i64 0, .int .i64 0, .int .i64 0, .int .i64 0, .int .i64 0, .int .i64 0, .int .i64 0, .int .i64 0, .int .i64 0, .int .i64 0, .int .i64 0, .int .i64 0, .int .i64 0, .int .i64 0, .int .i64 0] 27)
              have h1190q : Hid (Bo (u1181q.alloc (.cells #[.int .i64 0, .int .i64 0, .int .i64 0, .int .i64 0, .int .i64 0, .int .i64 0, .int .i64 0, .int .i64 0, .int .i64 0, .int .i64 0, .int .i64 0, .int .i64 0, .int .i64 0, .int .i64 0, .int .i64 0, .int .i64 0] 27)) b_a [.int .i64 (1), .int .i64 (0)]) := h1184q.out.new (.cells #[.int .i64 0, .int .i64 0, .int .i64 0, .int .i64 0, .int .i64 0, .int .i64 0, .int .i64 0, .int .i64 0, .int .i64 0, .int .i64 0, .int .i64 0, .int .i64 0, .int .i64 0, .int .i64 0, .int .i64 0, .int .i64 0] 27)
              clear h1182q h1183q h1184q
              have h1191q : Hid (TAt (u1181q.alloc (.cells #[.int .i64 0, .int .i64 0, .int .i64 0, .int .i64 0, .int .i64 0, .int .i64 0, .int .i64 0, .int .i64 0, .int .i64 0, .int .i64 0, .int .i64 0, .int .i64 0, .int .i64 0, .int .i64 0, .int .i64 0, .int .i64 0] 27)) u1181q.heap.size Tb.zero) := TAt.bornZero u1181q 27 (by simp)
              refine hK.out _ _ h1189q.out (fun hH => ?_)
              clear hK K
              generalize (u1181q.alloc (.cells #[.int .i64 0, .int .i64 0, .int .i64 0, .int .i64 0, .int .i64 0, .int .i64 0, .int .i64 0, .int .i64 0, .int .i64 0, .int .i64 0, .int .i64 0, .int .i64 0, .int .i64 0, .int .i64 0, .int .i64 0, .int .i64 0] 27)) = u1192q at h1188q h1189q h1190q h1191q hH ⊢
              try simp only [Act.put, List.setIfInBounds_toArray, List.set_cons_zero, List.set_cons_succ]
              refine wpAnyH_ready (rs := [10]) (by kernel_rfl) (by simp) ?_
              refine AllReadyH.cons (o := { dst := some 12, op := .alloc _, type := _, pos := _, after := _, guard := _ }) rfl (fun K hK => ?_) AllReadyH.nil
              have l1193q : n ≤ u1192q.heap.size := h1188q.out.le
              have l1194q : u871q.heap.size < u1192q.heap.size := h1189q.out.lt
              have l1195q : b_a < u1192q.heap.size := h1190q.out.lt
              have l1196q : u1181q.heap.size < u1192q.heap.size := h1191q.out.lt
              go_simp
              have h1197q : Hid (Gd n w (u1192q.alloc (.cells #[.int .i64 0, .int .i64 0] 31))) := h1188q.out.new (.cells #[.int .i64 0, .int .i64 0] 31)
              have h1198q : Hid (TAt (u1192q.alloc (.cells #[.int .i64 0, .int .i64 0] 31)) u871q.heap.size u) := h1189q.out.new (.cells #[.int .i64 0, .int .i64 0] 31)
              have h1199q : Hid (Bo (u1192q.alloc (.cells #[.int .i64 0, .int .i64 0] 31)) b_a [.int .i64 (1), .int .i64 (0)]) := h1190q.out.new (.cells #[.int .i64 0, .int .i64 0] 31)
              have h1200q : Hid (TAt (u1192q.alloc (.cells #[.int .i64 0, .int .i64 0] 31)) u1181q.heap.size Tb.zero) := h1191q.out.new (.cells #[.int .i64 0, .int .i64 0] 31)
              clear h1188q h1189q h1190q h1191q
              have h1201q : Hid (Bo (u1192q.alloc (.cells #[.int .i64 0, .int .i64 0] 31)) u1192q.heap.size [.int .i64 0, .int .i64 0]) := Bo.born u1192q [.int .i64 0, .int .i64 0] 31 (by simp)
              refine hK.out _ _ h1198q.out (fun hH => ?_)
              clear hK K
              generalize (u1192q.alloc (.cells #[.int .i64 0, .int .i64 0] 31)) = u1202q at h1197q h1198q h1199q h1200q h1201q hH ⊢
              try simp only [Act.put, List.setIfInBounds_toArray, List.set_cons_zero, List.set_cons_succ]
              refine wpAnyH_ready (rs := [11]) (by kernel_rfl) (by simp) ?_
              refine AllReadyH.cons (o := { dst := none, op := .store _ (.tmp 11) (.tmp 42), type := _, pos := _, after := _, guard := _ }) rfl (fun K hK => ?_) AllReadyH.nil
              rw [if_pos (by rfl)]
              refine wp_store_mid _ _ _ rfl u1181q.heap.size _ u2.all.toArray rfl rfl (h1200q.out.thereOf u2) (HZ.out u2) (u2.all_all) ?_
              simp only [Act.put]
              have h1203q : Hid (Gd n w (u1202q.setCells u1181q.heap.size 0 u2.all)) := h1197q.out.asideAll (by omega) u2
              have h1204q : Hid (TAt (u1202q.setCells u1181q.heap.size 0 u2.all) u871q.heap.size u) := h1198q.out.asideAll (by omega) u2
              have h1205q : Hid (Bo (u1202q.setCells u1181q.heap.size 0 u2.all) b_a [.int .i64 (1), .int .i64 (0)]) := h1199q.out.asideAll (by omega) u2
              have h1206q : Hid (TAt (u1202q.setCells u1181q.heap.size 0 u2.all) u1181q.heap.size u2) := h1200q.out.setAll u2
              have h1207q : Hid (Bo (u1202q.setCells u1181q.heap.size 0 u2.all) u1192q.heap.size [.int .i64 0, .int .i64 0]) := h1201q.out.asideAll (by omega) u2
              clear h1197q h1198q h1199q h1200q h1201q
              refine hK.out _ _ h1204q.out (fun hH => ?_)
              clear hK K
              generalize (u1202q.setCells u1181q.heap.size 0 u2.all) = u1208q at h1203q h1204q h1205q h1206q h1207q hH ⊢
              try simp only [Act.put, List.setIfInBounds_toArray, List.set_cons_zero, List.set_cons_succ]
              refine wpAnyH_ready (rs := [12]) (by kernel_rfl) (by simp) ?_
              refine AllReadyH.cons (o := { dst := none, op := .store _ (.tmp 12) (.tmp 43), type := _, pos := _, after := _, guard := _ }) rfl (fun K hK => ?_) AllReadyH.nil
              rw [if_pos (by rfl)]
              refine wp_store_mid _ _ _ rfl u1192q.heap.size _ #[.int .i64 (1), .int .i64 (0)] rfl rfl h1207q.out.there2 HA.out (two_one _ _) ?_
              simp only [Act.put]
              have h1209q : Hid (Gd n w (u1208q.setCells u1192q.heap.size 0 [.int .i64 (1), .int .i64 (0)])) := h1203q.out.asideL (by omega) 0 [.int .i64 (1), .int .i64 (0)]
              have h1210q : Hid (TAt (u1208q.setCells u1192q.heap.size 0 [.int .i64 (1), .int .i64 (0)]) u871q.heap.size u) := h1204q.out.asideL (by omega) 0 [.int .i64 (1), .int .i64 (0)]
              have h1211q : Hid (Bo (u1208q.setCells u1192q.heap.size 0 [.int .i64 (1), .int .i64 (0)]) b_a [.int .i64 (1), .int .i64 (0)]) := h1205q.out.asideL (by omega) 0 [.int .i64 (1), .int .i64 (0)]
              have h1212q : Hid (TAt (u1208q.setCells u1192q.heap.size 0 [.int .i64 (1), .int .i64 (0)]) u1181q.heap.size u2) := h1206q.out.asideL (by omega) 0 [.int .i64 (1), .int .i64 (0)]
              have h1213q : Hid (Bo (u1208q.setCells u1192q.heap.size 0 [.int .i64 (1), .int .i64 (0)]) u1192q.heap.size [.int .i64 (1), .int .i64 (0)]) := h1207q.out.set2 (.int .i64 (1)) (.int .i64 (0))
              clear h1203q h1204q h1205q h1206q h1207q
              refine hK.out _ _ h1210q.out (fun hH => ?_)
              clear hK K
              generalize (u1208q.setCells u1192q.heap.size 0 [.int .i64 (1), .int .i64 (0)]) = u1214q at h1209q h1210q h1211q h1212q h1213q hH ⊢
              try simp only [Act.put, List.setIfInBounds_toArray, List.set_cons_zero, List.set_cons_succ]
              refine wpAnyH_done (by kernel_rfl) ?_ _
              go_wp2_with fail
              go_meet
              case rel => exact ⟨u1181q.heap.size, u1192q.heap.size, rfl, rfl, h1209q, h1210q, h1211q, h1212q, h1213q⟩
            refine AllReadyH.cons (o := { dst := some 12, op := .alloc _, type := _, pos := _, after := _, guard := _ }) rfl (fun K hK => ?_) AllReadyH.nil
            have l1215q : n ≤ u1181q.heap.size := h1182q.out.le
            have l1216q : u871q.heap.size < u1181q.heap.size := h1183q.out.lt
            have l1217q : b_a < u1181q.heap.size := h1184q.out.lt
            go_simp
            have h1218q : Hid (Gd n w (u1181q.alloc (.cells #[.int .i64 0, .int .i64 0] 31))) := h1182q.out.new (.cells #[.int .i64 0, .int .i64 0] 31)
            have h1219q : Hid (TAt (u1181q.alloc (.cells #[.int .i64 0, .int .i64 0] 31)) u871q.heap.size u) := h1183q.out.new (.cells #[.int .i64 0, .int .i64 0] 31)
            have h1220q : Hid (Bo (u1181q.alloc (.cells #[.int .i64 0, .int .i64 0] 31)) b_a [.int .i64 (1), .int .i64 (0)]) := h1184q.out.new (.cells #[.int .i64 0, .int .i64 0] 31)
            clear h1182q h1183q h1184q
            have h1221q : Hid (Bo (u1181q.alloc (.cells #[.int .i64 0, .int .i64 0] 31)) u1181q.heap.size [.int .i64 0, .int .i64 0]) := Bo.born u1181q [.int .i64 0, .int .i64 0] 31 (by simp)
            refine hK.out _ _ h1219q.out (fun hH => ?_)
            clear hK K
            generalize (u1181q.alloc (.cells #[.int .i64 0, .int .i64 0] 31)) = u1222q at h1218q h1219q h1220q h1221q hH ⊢
            try simp only [Act.put, List.setIfInBounds_toArray, List.set_cons_zero, List.set_cons_succ]
            refine wpAnyH_ready (rs := [9]) (by kernel_rfl) (by simp) ?_
            refine AllReadyH.cons (o := { dst := some 11, op := .alloc _, type := _, pos := _, after := _, guard := _ }) rfl (fun K hK => ?_) AllReadyH.nil
            have l1223q : n ≤ u1222q.heap.size := h1218q.out.le
            have l1224q : u871q.heap.size < u1222q.heap.size := h1219q.out.lt
            have l1225q : b_a < u1222q.heap.size := h1220q.out.lt
            have l1226q : u1181q.heap.size < u1222q.heap.size := h1221q.out.lt
            go_simp
            have h1227q : Hid (Gd n w (u1222q.alloc (.cells #[.int .i64 0, .int .i64 0, .int .i64 0, .int .i64 0, .int .i64 0, .int .i64 0, .int .i64 0, .int .i64 0, .int .i64 0, .int .i64 0, .int .i64 0, .int .i64 0, .int .i64 0, .int .i64 0, .int .i64 0, .int .i64 0] 27))) := h1218q.out.new (.cells #[.int .i64 0, .int .i64 0, .int .i64 0, .int .i64 0, .int .i64 0, .int .i64 0, .int .i64 0, .int .i64 0, .int .i64 0, .int .i64 0, .int .i64 0, .int .i64 0, .int .i64 0, .int .i64 0, .int .i64 0, .int .i64 0] 27)
            have h1228q : Hid (TAt (u1222q.alloc (.cells #[.int .i64 0, .int .i64 0, .int .i64 0, .int .i64 0, .int .i64 0, .int .i64 0, .int .i64 0, .int .i64 0, .int .i64 0, .int .i64 0, .int .i64 0, .int .i64 0, .int .i64 0, .int .i64 0, .int .i64 0, .int .i64 0] 27)) u871q.heap.size u) := h1219q.out.new (.cells #[.int .i64 0, .int .i64 0, .int .i64 0, .int .i64 0, .int .i64 0, .int .i64 0, .int .i64 0, .int .i64 0, .int .i64 0, .int .i64 0, .int .i64 0, .int .i64 0, .int .i64 0, .int .i64 0, .int .i64 0, .int .i64 0] 27)
            have h1229q : Hid (Bo (u1222q.alloc (.cells #[.int .i64 0, .int .i64 0, .int .i64 0, .int .i64 0, .int .i64 0, .int .i64 0, .int .i64 0, .int .i64 0, .int .i64 0, .int .i64 0, .int .i64 0, .int .i64 0, .int .i64 0, .int .i64 0, .int .i64 0, .int .i64 0] 27)) b_a [.int .i64 (1), .int .i64 (0)]) := h1220q.out.new (.cells #[.int .i64 0, .int .i64 0, .int .i64 0, .int .i64 0, .int .i64 0, .int .i64 0, .int .i64 0, .int .i64 0, .int .i64 0, .int .i64 0, .int .i64 0, .int .i64 0, .int .i64 0, .int .i64 0, .int .i64 0, .int .i64 0] 27)
            have h1230q : Hid (Bo (u1222q.alloc (.cells #[.int .i64 0, .int .i64 0, .int .i64 0, .int .i64 0, .int .i64 0, .int .i64 0, .int .i64 0, .int .i64 0, .int .i64 0, .int .i64 0, .int .i64 0, .int .i64 0, .int .i64 0, .int .i64 0, .int .i64 0, .int .i64 0] 27)) u1181q.heap.size [.int .i64 0, .int .i64 0]) := h1221q.out.new (.cells #[.int .i64 0, .int .i64 0, .int .i64 0, .int .i64 0, .int .i64 0, .int .i64 0, .int .i64 0, .int .i64 0, .int .i64 0, .int .i64 0, .int .i64 0, .int .i64 0, .int .i64 0, .int .i64 0, .int .i64 0, .int .i64 0] 27)
            clear h1218q h1219q h1220q h1221q
            have h1231q : Hid (TAt (u1222q.alloc (.cells #[.int .i64 0, .int .i64 0, .int .i64 0, .int .i64 0, .int .i64 0, .int .i64 0, .int .i64 0, .int .i64 0, .int .i64 0, .int .i64 0, .int .i64 0, .int .i64 0, .int .i64 0, .int .i64 0, .int .i64 0, .int .i64 0] 27)) u1222q.heap.size Tb.zero) := TAt.bornZero u1222q 27 (by simp)
            refine hK.out _ _ h1228q.out (fun hH => ?_)
            clear hK K
            generalize (u1222q.alloc (.cells #[.int .i64 0, .int .i64 0, .int .i64 0, .int .i64 0, .int .i64 0, .int .i64 0, .int .i64 0, .int .i64 0, .int .i64 0, .int .i64 0, .int .i64 0, .int .i64 0, .int .i64 0, .int .i64 0, .int .i64 0, .int .i64 0] 27)) = u1232q at h1227q h1228q h1229q h1230q h1231q hH ⊢
            try simp only [Act.put, List.setIfInBounds_toArray, List.set_cons_zero, List.set_cons_succ]
            refine wpAnyH_ready (rs := [11]) (by kernel_rfl) (by simp) ?_
            refine AllReadyH.cons (o := { dst := none, op := .store _ (.tmp 11) (.tmp 42), type := _, pos := _, after := _, guard := _ }) rfl (fun K hK => ?_) AllReadyH.nil
            rw [if_pos (by rfl)]
            refine wp_store_mid _ _ _ rfl u1222q.heap.size _ u2.all.toArray rfl rfl (h1231q.out.thereOf u2) (HZ.out u2) (u2.all_all) ?_
            simp only [Act.put]
            have h1233q : Hid (Gd n w (u1232q.setCells u1222q.heap.size 0 u2.all)) := h1227q.out.asideAll (by omega) u2
            have h1234q : Hid (TAt (u1232q.setCells u1222q.heap.size 0 u2.all) u871q.heap.size u) := h1228q.out.asideAll (by omega) u2
            have h1235q : Hid (Bo (u1232q.setCells u1222q.heap.size 0 u2.all) b_a [.int .i64 (1), .int .i64 (0)]) := h1229q.out.asideAll (by omega) u2
            have h1236q : Hid (Bo (u1232q.setCells u1222q.heap.size 0 u2.all) u1181q.heap.size [.int .i64 0, .int .i64 0]) := h1230q.out.asideAll (by omega) u2
            have h1237q : Hid (TAt (u1232q.setCells u1222q.heap.size 0 u2.all) u1222q.heap.size u2) := h1231q.out.setAll u2
            clear h1227q h1228q h1229q h1230q h1231q
            refine hK.out _ _ h1234q.out (fun hH => ?_)
            clear hK K
            generalize (u1232q.setCells u1222q.heap.size 0 u2.all) = u1238q at h1233q h1234q h1235q h1236q h1237q hH ⊢
            try simp only [Act.put, List.setIfInBounds_toArray, List.set_cons_zero, List.set_cons_succ]
            refine wpAnyH_ready (rs := [12]) (by kernel_rfl) (by simp) ?_
            refine AllReadyH.cons (o := { dst := none, op := .store _ (.tmp 12) (.tmp 43), type := _, pos := _, after := _, guard := _ }) rfl (fun K hK => ?_) AllReadyH.nil
            rw [if_pos (by rfl)]
            refine wp_store_mid _ _ _ rfl u1181q.heap.size _ #[.int .i64 (1), .int .i64 (0)] rfl rfl h1236q.out.there2 HA.out (two_one _ _) ?_
            simp only [Act.put]
            have h1239q : Hid (Gd n w (u1238q.setCells u1181q.heap.size 0 [.int .i64 (1), .int .i64 (0)])) := h1233q.out.asideL (by omega) 0 [.int .i64 (1), .int .i64 (0)]
            have h1240q : Hid (TAt (u1238q.setCells u1181q.heap.size 0 [.int .i64 (1), .int .i64 (0)]) u871q.heap.size u) := h1234q.out.asideL (by omega) 0 [.int .i64 (1), .int .i64 (0)]
            have h1241q : Hid (Bo (u1238q.setCells u1181q.heap.size 0 [.int .i64 (1), .int .i64 (0)]) b_a [.int .i64 (1), .int .i64 (0)]) := h1235q.out.asideL (by omega) 0 [.int .i64 (1), .int .i64 (0)]
            have h1242q : Hid (Bo (u1238q.setCells u1181q.heap.size 0 [.int .i64 (1), .int .i64 (0)]) u1181q.heap.size [.int .i64 (1), .int .i64 (0)]) := h1236q.out.set2 (.int .i64 (1)) (.int .i64 (0))
            have h1243q : Hid (TAt (u1238q.setCells u1181q.heap.size 0 [.int .i64 (1), .int .i64 (0)]) u1222q.heap.size u2) := h1237q.out.asideL (by omega) 0 [.int .i64 (1), .int .i64 (0)]
            clear h1233q h1234q h1235q h1236q h1237q
            refine hK.out _ _ h1240q.out (fun hH => ?_)
            clear hK K
            generalize (u1238q.setCells u1181q.heap.size 0 [.int .i64 (1), .int .i64 (0)]) = u1244q at h1239q h1240q h1241q h1242q h1243q hH ⊢
            try simp only [Act.put, List.setIfInBounds_toArray, List.set_cons_zero, List.set_cons_succ]
            refine wpAnyH_done (by kernel_rfl) ?_ _
            go_wp2_with fail
            go_meet
            case rel => exact ⟨u1222q.heap.size, u1181q.heap.size, rfl, rfl, h1239q, h1240q, h1241q, h1243q, h1242q⟩
          refine AllReadyH.cons (o := { dst := some 11, op := .alloc _, type := _, pos := _, after := _, guard := _ }) rfl (fun K hK => ?_) ?_
          · have l1245q : n ≤ u1179q.heap.size := h1176q.out.le
            have l1246q : u871q.heap.size < u1179q.heap.size := h1177q.out.lt
            have l1247q : b_a < u1179q.heap.size := h1178q.out.lt
            go_simp
            have h1248q : Hid (Gd n w (u1179q.alloc (.cells #[.int .i64 0, .int .i64 0, .int .i64 0, .int .i64 0, .int .i64 0, .int .i64 0, .int .i64 0, .int .i64 0, .int .i64 0, .int .i64 0, .int .i64 0, .int .i64 0, .int .i64 0, .int .i64 0, .int .i64 0, .int .i64 0] 27))) := h1176q.out.new (.cells #[.int .i64 0, .int .i64 0, .int .i64 0, .int .i64 0, .int .i64 0, .int .i64 0, .int .i64 0, .int .i64 0, .int .i64 0, .int .i64 0, .int .i64 0, .int .i64 0, .int .i64 0, .int .i64 0, .int .i64 0, .int .i64 0] 27)
            have h1249q : Hid (TAt (u1179q.alloc (.cells #[.int .i64 0, .int .i64 0, .int .i64 0, .int .i64 0, .int .i64 0, .int .i64 0, .int .i64 0, .int .i64 0, .int .i64 0, .int .i64 0, .int .i64 0, .int .i64 0, .int .i64 0, .int .i64 0, .int .i64 0, .int .i64 0] 27)) u871q.heap.size u) := h1177q.out.new (.cells #[.int .i64 0, .int .i64 0, .int .i64 0, .int .i64 0, .int .i64 0, .int .i64 0, .int .i64 0, .int .i64 0, .int .i64 0, .int .i64 0, .int .i64 0, .int .i64 0, .int .i64 0, .int .i64 0, .int .i64 0, .int .i64 0] 27)
            have h1250q : Hid (Bo (u1179q.alloc (.cells #[.int .i64 0, .int .i64 0, .int .i64 0, .int .i64 0, .int .i64 0, .int .i64 0, .int .i64 0, .int .i64 0, .int .i64 0, .int .i64 0, .int .i64 0, .int .i64 0, .int .i64 0, .int .i64 0, .int .i64 0, .int .i64 0] 27)) b_a [.int .i64 (1), .int .i64 (0)]) := h1178q.out.new (.cells #[.int .i64 0, .int .i64 0, .int .i64 0, .int .i64 0, .int .i64 0, .int .i64 0, .int .i64 0, .int .i64 0, .int .i64 0, .int .i64 0, .int .i64 0, .int .i64 0, .int .i64 0, .int .i64 0, .int .i64 0, .int .i64 0] 27)
            clear h1176q h1177q h1178q
            have h1251q : Hid (TAt (u1179q.alloc (.cells #[.int .i64 0, .int .i64 0, .int .i64 0, .int .i64 0, .int .i64 0, .int .i64 0, .int .i64 0, .int .i64 0, .int .i64 0, .int .i64 0, .int .i64 0, .int .i64 0, .int .i64 0, .int .i64 0, .int .i64 0, .int .i64 0] 27)) u1179q.heap.size Tb.zero) := TAt.bornZero u1179q 27 (by simp)
            refine hK.out _ _ h1249q.out (fun hH => ?_)
            clear hK K
            generalize (u1179q.alloc (.cells #[.int .i64 0, .int .i64 0, .int .i64 0, .int .i64 0, .int .i64 0, .int .i64 0, .int .i64 0, .int .i64 0, .int .i64 0, .int .i64 0, .int .i64 0, .int .i64 0, .int .i64 0, .int .i64 0, .int .i64 0, .int .i64 0] 27)) = u1252q at h1248q h1249q h1250q h1251q hH ⊢
            try simp only [Act.put, List.setIfInBounds_toArray, List.set_cons_zero, List.set_cons_succ]
            refine wpAnyH_ready (rs := [5, 10]) (by kernel_rfl) (by simp) ?_
            refine AllReadyH.cons (o := { dst := some 41, op := _, type := _, pos := _, after := _, guard := _ }) rfl (fun K hK => ?_) ?_
            · go_simp
              refine (DO2 _).mono ?_
              rintro e u1253q ⟨rfl, hb⟩
              have h1254q : Hid (Gd n w u1253q) := h1248q.out.later hb
              have h1255q : Hid (TAt u1253q u871q.heap.size u) := h1249q.out.later hb
              have h1256q : Hid (Bo u1253q b_a [.int .i64 (1), .int .i64 (0)]) := h1250q.out.later hb
              have h1257q : Hid (TAt u1253q u1179q.heap.size Tb.zero) := h1251q.out.later hb
              clear h1248q h1249q h1250q h1251q
              clear hb
              go_wp2_with fail
              refine hK.out _ _ h1255q.out (fun hH => ?_)
              clear hK K
              try simp only [Act.put, List.setIfInBounds_toArray, List.set_cons_zero, List.set_cons_succ]
              refine wpAnyH_take (i := 6) (oi := { dst := some 35, op := .move (.tmp 41), type := _, pos := _, after := _, guard := _ }) (v := ?_) rfl (by kernel_rfl) (by kernel_rfl) (by kernel_rfl) (fun _ _ _ h => h) (Or.inl ⟨by rfl, ?_⟩) hH ?_
              rotate_left
              · intro w hSw
                clear hSw
                go_simp
                try with_reducible rfl
              simp only [Act.put, List.setIfInBounds_toArray, List.set_cons_zero, List.set_cons_succ]
              refine wpAnyH_take (i := 7) (oi := { dst := some 42, op := .extract (.tmp 35) 0, type := _, pos := _, after := _, guard := _ }) (v := ?_) rfl (by kernel_rfl) (by kernel_rfl) (by kernel_rfl) (fun _ _ _ h => h) (Or.inl ⟨by rfl, ?_⟩) hH ?_
              rotate_left
              · intro w hSw
                clear hSw
                go_simp
                try with_reducible rfl
              simp only [Act.put, List.setIfInBounds_toArray, List.set_cons_zero, List.set_cons_succ]
              refine wpAnyH_take (i := 8) (oi := { dst := some 43, op := .extract (.tmp 35) 1, type := _, pos := _, after := _, guard := _ }) (v := ?_) rfl (by kernel_rfl) (by kernel_rfl) (by kernel_rfl) (fun _ _ _ h => h) (Or.inl ⟨by rfl, ?_⟩) hH ?_
              rotate_left
              · intro w hSw
                clear hSw
                go_simp
                try with_reducible rfl
              simp only [Act.put, List.setIfInBounds_toArray, List.set_cons_zero, List.set_cons_succ]
              refine wpAnyH_ready (rs := [10]) (by kernel_rfl) (by simp) ?_
              refine AllReadyH.cons (o := { dst := some 12, op := .alloc _, type := _, pos := _, after := _, guard := _ }) rfl (fun K hK => ?_) AllReadyH.nil
              have l1258q : n ≤ u1253q.heap.size := h1254q.out.le
              have l1259q : u871q.heap.size < u1253q.heap.size := h1255q.out.lt
              have l1260q : b_a < u1253q.heap.size := h1256q.out.lt
              have l1261q : u1179q.heap.size < u1253q.heap.size := h1257q.out.lt
              go_simp
              have h1262q : Hid (Gd n w (u1253q.alloc (.cells #[.int .i64 0, .int .i64 0] 31))) := h1254q.out.new (.cells #[.int .i64 0, .int .i64 0] 31)
              have h1263q : Hid (TAt (u1253q.alloc (.cells #[.int .i64 0, .int .i64 0] 31)) u871q.heap.size u) := h1255q.out.new (.cells #[.int .i64 0, .int .i64 0] 31)
              have h1264q : Hid (Bo (u1253q.alloc (.cells #[.int .i64 0, .int .i64 0] 31)) b_a [.int .i64 (1), .int .i64 (0)]) := h1256q.out.new (.cells #[.int .i64 0, .int .i64 0] 31)
              have h1265q : Hid (TAt (u1253q.alloc (.cells #[.int .i64 0, .int .i64 0] 31)) u1179q.heap.size Tb.zero) := h1257q.out.new (.cells #[.int .i64 0, .int .i64 0] 31)
              clear h1254q h1255q h1256q h1257q
              have h1266q : Hid (Bo (u1253q.alloc (.cells #[.int .i64 0, .int .i64 0] 31)) u1253q.heap.size [.int .i64 0, .int .i64 0]) := Bo.born u1253q [.int .i64 0, .int .i64 0] 31 (by simp)
              refine hK.out _ _ h1263q.out (fun hH => ?_)
              clear hK K
              generalize (u1253q.alloc (.cells #[.int .i64 0, .int .i64 0] 31)) = u1267q at h1262q h1263q h1264q h1265q h1266q hH ⊢
              try simp only [Act.put, List.setIfInBounds_toArray, List.set_cons_zero, List.set_cons_succ]
              refine wpAnyH_ready (rs := [11]) (by kernel_rfl) (by simp) ?_
              refine AllReadyH.cons (o := { dst := none, op := .store _ (.tmp 11) (.tmp 42), type := _, pos := _, after := _, guard := _ }) rfl (fun K hK => ?_) AllReadyH.nil
              rw [if_pos (by rfl)]
              refine wp_store_mid _ _ _ rfl u1179q.heap.size _ u2.all.toArray rfl rfl (h1265q.out.thereOf u2) (HZ.out u2) (u2.all_all) ?_
              simp only [Act.put]
              have h1268q : Hid (Gd n w (u1267q.setCells u1179q.heap.size 0 u2.all)) := h1262q.out.asideAll (by omega) u2
              have h1269q : Hid (TAt (u1267q.setCells u1179q.heap.size 0 u2.all) u871q.heap.size u) := h1263q.out.asideAll (by omega) u2
              have h1270q : Hid (Bo (u1267q.setCells u1179q.heap.size 0 u2.all) b_a [.int .i64 (1), .int .i64 (0)]) := h1264q.out.asideAll (by omega) u2
              have h1271q : Hid (TAt (u1267q.setCells u1179q.heap.size 0 u2.all) u1179q.heap.size u2) := h1265q.out.setAll u2
              have h1272q : Hid (Bo (u1267q.setCells u1179q.heap.size 0 u2.all) u1253q.heap.size [.int .i64 0, .int .i64 0]) := h1266q.out.asideAll (by omega) u2
              clear h1262q h1263q h1264q h1265q h1266q
              refine hK.out _ _ h1269q.out (fun hH => ?_)
              clear hK K
              generalize (u1267q.setCells u1179q.heap.size 0 u2.all) = u1273q at h1268q h1269q h1270q h1271q h1272q hH ⊢
              try simp only [Act.put, List.setIfInBounds_toArray, List.set_cons_zero, List.set_cons_succ]
              refine wpAnyH_ready (rs := [12]) (by kernel_rfl) (by simp) ?_
              refine AllReadyH.cons (o := { dst := none, op := .store _ (.tmp 12) (.tmp 43), type := _, pos := _, after := _, guard := _ }) rfl (fun K hK => ?_) AllReadyH.nil
              rw [if_pos (by rfl)]
              refine wp_store_mid _ _ _ rfl u1253q.heap.size _ #[.int .i64 (1), .int .i64 (0)] rfl rfl h1272q.out.there2 HA.out (two_one _ _) ?_
              simp only [Act.put]
              have h1274q : Hid (Gd n w (u1273q.setCells u1253q.heap.size 0 [.int .i64 (1), .int .i64 (0)])) := h1268q.out.asideL (by omega) 0 [.int .i64 (1), .int .i64 (0)]
              have h1275q : Hid (TAt (u1273q.setCells u1253q.heap.size 0 [.int .i64 (1), .int .i64 (0)]) u871q.heap.size u) := h1269q.out.asideL (by omega) 0 [.int .i64 (1), .int .i64 (0)]
              have h1276q : Hid (Bo (u1273q.setCells u1253q.heap.size 0 [.int .i64 (1), .int .i64 (0)]) b_a [.int .i64 (1), .int .i64 (0)]) := h1270q.out.asideL (by omega) 0 [.int .i64 (1), .int .i64 (0)]
              have h1277q : Hid (TAt (u1273q.setCells u1253q.heap.size 0 [.int .i64 (1), .int .i64 (0)]) u1179q.heap.size u2) := h1271q.out.asideL (by omega) 0 [.int .i64 (1), .int .i64 (0)]
              have h1278q : Hid (Bo (u1273q.setCells u1253q.heap.size 0 [.int .i64 (1), .int .i64 (0)]) u1253q.heap.size [.int .i64 (1), .int .i64 (0)]) := h1272q.out.set2 (.int .i64 (1)) (.int .i64 (0))
              clear h1268q h1269q h1270q h1271q h1272q
              refine hK.out _ _ h1275q.out (fun hH => ?_)
              clear hK K
              generalize (u1273q.setCells u1253q.heap.size 0 [.int .i64 (1), .int .i64 (0)]) = u1279q at h1274q h1275q h1276q h1277q h1278q hH ⊢
              try simp only [Act.put, List.setIfInBounds_toArray, List.set_cons_zero, List.set_cons_succ]
              refine wpAnyH_done (by kernel_rfl) ?_ _
              go_wp2_with fail
              go_meet
              case rel => exact ⟨u1179q.heap.size, u1253q.heap.size, rfl, rfl, h1274q, h1275q, h1276q, h1277q, h1278q⟩
            refine AllReadyH.cons (o := { dst := some 12, op := .alloc _, type := _, pos := _, after := _, guard := _ }) rfl (fun K hK => ?_) AllReadyH.nil
            have l1280q : n ≤ u1252q.heap.size := h1248q.out.le
            have l1281q : u871q.heap.size < u1252q.heap.size := h1249q.out.lt
            have l1282q : b_a < u1252q.heap.size := h1250q.out.lt
            have l1283q : u1179q.heap.size < u1252q.heap.size := h1251q.out.lt
            go_simp
            have h1284q : Hid (Gd n w (u1252q.alloc (.cells #[.int .i64 0, .int .i64 0] 31))) := h1248q.out.new (.cells #[.int .i64 0, .int .i64 0] 31)
            have h1285q : Hid (TAt (u1252q.alloc (.cells #[.int .i64 0, .int .i64 0] 31)) u871q.heap.size u) := h1249q.out.new (.cells #[.int .i64 0, .int .i64 0] 31)
            have h1286q : Hid (Bo (u1252q.alloc (.cells #[.int .i64 0, .int .i64 0] 31)) b_a [.int .i64 (1), .int .i64 (0)]) := h1250q.out.new (.cells #[.int .i64 0, .int .i64 0] 31)
            have h1287q : Hid (TAt (u1252q.alloc (.cells #[.int .i64 0, .int .i64 0] 31)) u1179q.heap.size Tb.zero) := h1251q.out.new (.cells #[.int .i64 0, .int .i64 0] 31)
            clear h1248q h1249q h1250q h1251q
            have h1288q : Hid (Bo (u1252q.alloc (.cells #[.int .i64 0, .int .i64 0] 31)) u1252q.heap.size [.int .i64 0, .int .i64 0]) := Bo.born u1252q [.int .i64 0, .int .i64 0] 31 (by simp)
            refine hK.out _ _ h1285q.out (fun hH => ?_)
            clear hK K
            generalize (u1252q.alloc (.cells #[.int .i64 0, .int .i64 0] 31)) = u1289q at h1284q h1285q h1286q h1287q h1288q hH ⊢
            try simp only [Act.put, List.setIfInBounds_toArray, List.set_cons_zero, List.set_cons_succ]
            refine wpAnyH_ready (rs := [5]) (by kernel_rfl) (by simp) ?_
            refine AllReadyH.cons (o := { dst := some 41, op := _, type := _, pos := _, after := _, guard := _ }) rfl (fun K hK => ?_) AllReadyH.nil
            go_simp
            refine (DO2 _).mono ?_
            rintro e u1290q ⟨rfl, hb⟩
            have h1291q : Hid (Gd n w u1290q) := h1284q.out.later hb
            have h1292q : Hid (TAt u1290q u871q.heap.size u) := h1285q.out.later hb
            have h1293q : Hid (Bo u1290q b_a [.int .i64 (1), .int .i64 (0)]) := h1286q.out.later hb
            have h1294q : Hid (TAt u1290q u1179q.heap.size Tb.zero) := h1287q.out.later hb
            have h1295q : Hid (Bo u1290q u1252q.heap.size [.int .i64 0, .int .i64 0]) := h1288q.out.later hb
            clear h1284q h1285q h1286q h1287q h1288q
            clear hb
            go_wp2_with fail
            refine hK.out _ _ h1292q.out (fun hH => ?_)
            clear hK K
            try simp only [Act.put, List.setIfInBounds_toArray, List.set_cons_zero, List.set_cons_succ]
            refine wpAnyH_take (i := 6) (oi := { dst := some 35, op := .move (.tmp 41), type := _, pos := _, after := _, guard := _ }) (v := ?_) rfl (by kernel_rfl) (by kernel_rfl) (by kernel_rfl) (fun _ _ _ h => h) (Or.inl ⟨by rfl, ?_⟩) hH ?_
            rotate_left
            · intro w hSw
              clear hSw
              go_simp
              try with_reducible rfl
            simp only [Act.put, List.setIfInBounds_toArray, List.set_cons_zero, List.set_cons_succ]
            refine wpAnyH_take (i := 7) (oi := { dst := some 42, op := .extract (.tmp 35) 0, type := _, pos := _, after := _, guard := _ }) (v := ?_) rfl (by kernel_rfl) (by kernel_rfl) (by kernel_rfl) (fun _ _ _ h => h) (Or.inl ⟨by rfl, ?_⟩) hH ?_
            rotate_left
            · intro w hSw
              clear hSw
              go_simp
              try with_reducible rfl
            simp only [Act.put, List.setIfInBounds_toArray, List.set_cons_zero, List.set_cons_succ]
            refine wpAnyH_take (i := 8) (oi := { dst := some 43, op := .extract (.tmp 35) 1, type := _, pos := _, after := _, guard := _ }) (v := ?_) rfl (by kernel_rfl) (by kernel_rfl) (by kernel_rfl) (fun _ _ _ h => h) (Or.inl ⟨by rfl, ?_⟩) hH ?_
            rotate_left
            · intro w hSw
              clear hSw
              go_simp
              try with_reducible rfl
            simp only [Act.put, List.setIfInBounds_toArray, List.set_cons_zero, List.set_cons_succ]
            refine wpAnyH_ready (rs := [11]) (by kernel_rfl) (by simp) ?_
            refine AllReadyH.cons (o := { dst := none, op := .store _ (.tmp 11) (.tmp 42), type := _, pos := _, after := _, guard := _ }) rfl (fun K hK => ?_) AllReadyH.nil
            rw [if_pos (by rfl)]
            refine wp_store_mid _ _ _ rfl u1179q.heap.size _ u2.all.toArray rfl rfl (h1294q.out.thereOf u2) (HZ.out u2) (u2.all_all) ?_
            simp only [Act.put]
            have h1296q : Hid (Gd n w (u1290q.setCells u1179q.heap.size 0 u2.all)) := h1291q.out.asideAll (by omega) u2
            have h1297q : Hid (TAt (u1290q.setCells u1179q.heap.size 0 u2.all) u871q.heap.size u) := h1292q.out.asideAll (by omega) u2
            have h1298q : Hid (Bo (u1290q.setCells u1179q.heap.size 0 u2.all) b_a [.int .i64 (1), .int .i64 (0)]) := h1293q.out.asideAll (by omega) u2
            have h1299q : Hid (TAt (u1290q.setCells u1179q.heap.size 0 u2.all) u1179q.heap.size u2) := h1294q.out.setAll u2
            have h1300q : Hid (Bo (u1290q.setCells u1179q.heap.size 0 u2.all) u1252q.heap.size [.int .i64 0, .int .i64 0]) := h1295q.out.asideAll (by omega) u2
            clear h1291q h1292q h1293q h1294q h1295q
            refine hK.out _ _ h1297q.out (fun hH => ?_)
            clear hK K
            generalize (u1290q.setCells u1179q.heap.size 0 u2.all) = u1301q at h1296q h1297q h1298q h1299q h1300q hH ⊢
            try simp only [Act.put, List.setIfInBounds_toArray, List.set_cons_zero, List.set_cons_succ]
            refine wpAnyH_ready (rs := [12]) (by kernel_rfl) (by simp) ?_
            refine AllReadyH.cons (o := { dst := none, op := .store _ (.tmp 12) (.tmp 43), type := _, pos := _, after := _, guard := _ }) rfl (fun K hK => ?_) AllReadyH.nil
            rw [if_pos (by rfl)]
            refine wp_store_mid _ _ _ rfl u1252q.heap.size _ #[.int .i64 (1), .int .i64 (0)] rfl rfl h1300q.out.there2 HA.out (two_one _ _) ?_
            simp only [Act.put]
            have h1302q : Hid (Gd n w (u1301q.setCells u1252q.heap.size 0 [.int .i64 (1), .int .i64 (0)])) := h1296q.out.asideL (by omega) 0 [.int .i64 (1), .int .i64 (0)]
            have h1303q : Hid (TAt (u1301q.setCells u1252q.heap.size 0 [.int .i64 (1), .int .i64 (0)]) u871q.heap.size u) := h1297q.out.asideL (by omega) 0 [.int .i64 (1), .int .i64 (0)]
            have h1304q : Hid (Bo (u1301q.setCells u1252q.heap.size 0 [.int .i64 (1), .int .i64 (0)]) b_a [.int .i64 (1), .int .i64 (0)]) := h1298q.out.asideL (by omega) 0 [.int .i64 (1), .int .i64 (0)]
            have h1305q : Hid (TAt (u1301q.setCells u1252q.heap.size 0 [.int .i64 (1), .int .i64 (0)]) u1179q.heap.size u2) := h1299q.out.asideL (by omega) 0 [.int .i64 (1), .int .i64 (0)]
            have h1306q : Hid (Bo (u1301q.setCells u1252q.heap.size 0 [.int .i64 (1), .int .i64 (0)]) u1252q.heap.size [.int .i64 (1), .int .i64 (0)]) := h1300q.out.set2 (.int .i64 (1)) (.int .i64 (0))
            clear h1296q h1297q h1298q h1299q h1300q
            refine hK.out _ _ h1303q.out (fun hH => ?_)
            clear hK K
            generalize (u1301q.setCells u1252q.heap.size 0 [.int .i64 (1), .int .i64 (0)]) = u1307q at h1302q h1303q h1304q h1305q h1306q hH ⊢
            try simp only [Act.put, List.setIfInBounds_toArray, List.set_cons_zero, List.set_cons_succ]
            refine wpAnyH_done (by kernel_rfl) ?_ _
            go_wp2_with fail
            go_meet
            case rel => exact ⟨u1179q.heap.size, u1252q.heap.size, rfl, rfl, h1302q, h1303q, h1304q, h1305q, h1306q⟩
          refine AllReadyH.cons (o := { dst := some 12, op := .alloc _, type := _, pos := _, after := _, guard := _ }) rfl (fun K hK => ?_) AllReadyH.nil
          have l1308q : n ≤ u1179q.heap.size := h1176q.out.le
          have l1309q : u871q.heap.size < u1179q.heap.size := h1177q.out.lt
          have l1310q : b_a < u1179q.heap.size := h1178q.out.lt
          go_simp
          have h1311q : Hid (Gd n w (u1179q.alloc (.cells #[.int .i64 0, .int .i64 0] 31))) := h1176q.out.new (.cells #[.int .i64 0, .int .i64 0] 31)
          have h1312q : Hid (TAt (u1179q.alloc (.cells #[.int .i64 0, .int .i64 0] 31)) u871q.heap.size u) := h1177q.out.new (.cells #[.int .i64 0, .int .i64 0] 31)
          have h1313q : Hid (Bo (u1179q.alloc (.cells #[.int .i64 0, .int .i64 0] 31)) b_a [.int .i64 (1), .int .i64 (0)]) := h1178q.out.new (.cells #[.int .i64 0, .int .i64 0] 31)
          clear h1176q h1177q h1178q
          have h1314q : Hid (Bo (u1179q.alloc (.cells #[.int .i64 0, .int .i64 0] 31)) u1179q.heap.size [.int .i64 0, .int .i64 0]) := Bo.born u1179q [.int .i64 0, .int .i64 0] 31 (by simp)
          refine hK.out _ _ h1312q.out (fun hH => ?_)
          clear hK K
          generalize (u1179q.alloc (.cells #[.int .i64 0, .int .i64 0] 31)) = u1315q at h1311q h1312q h1313q h1314q hH ⊢
          try simp only [Act.put, List.setIfInBounds_toArray, List.set_cons_zero, List.set_cons_succ]
          refine wpAnyH_ready (rs := [5, 9]) (by kernel_rfl) (by simp) ?_
          refine AllReadyH.cons (o := { dst := some 41, op := _, type := _, pos := _, after := _, guard := _ }) rfl (fun K hK => ?_) ?_
          · go_simp
            refine (DO2 _).mono ?_
            rintro e u1316q ⟨rfl, hb⟩
            have h1317q : Hid (Gd n w u1316q) := h1311q.out.later hb
            have h1318q : Hid (TAt u1316q u871q.heap.size u) := h1312q.out.later hb
            have h1319q : Hid (Bo u1316q b_a [.int .i64 (1), .int .i64 (0)]) := h1313q.out.later hb
            have h1320q : Hid (Bo u1316q u1179q.heap.size [.int .i64 0, .int .i64 0]) := h1314q.out.later hb
            clear h1311q h1312q h1313q h1314q
            clear hb
            go_wp2_with fail
            refine hK.out _ _ h1318q.out (fun hH => ?_)
            clear hK K
            try simp only [Act.put, List.setIfInBounds_toArray, List.set_cons_zero, List.set_cons_succ]
            refine wpAnyH_take (i := 6) (oi := { dst := some 35, op := .move (.tmp 41), type := _, pos := _, after := _, guard := _ }) (v := ?_) rfl (by kernel_rfl) (by kernel_rfl) (by kernel_rfl) (fun _ _ _ h => h) (Or.inl ⟨by rfl, ?_⟩) hH ?_
            rotate_left
            · intro w hSw
              clear hSw
              go_simp
              try with_reducible rfl
            simp only [Act.put, List.setIfInBounds_toArray, List.set_cons_zero, List.set_cons_succ]
            refine wpAnyH_take (i := 7) (oi := { dst := some 42, op := .extract (.tmp 35) 0, type := _, pos := _, after := _, guard := _ }) (v := ?_) rfl (by kernel_rfl) (by kernel_rfl) (by kernel_rfl) (fun _ _ _ h => h) (Or.inl ⟨by rfl, ?_⟩) hH ?_
            rotate_left
            · intro w hSw
              clear hSw
              go_simp
              try with_reducible rfl
            simp only [Act.put, List.setIfInBounds_toArray, List.set_cons_zero, List.set_cons_succ]
            refine wpAnyH_take (i := 8) (oi := { dst := some 43, op := .extract (.tmp 35) 1, type := _, pos := _, after := _, guard := _ }) (v := ?_) rfl (by kernel_rfl) (by kernel_rfl) (by kernel_rfl) (fun _ _ _ h => h) (Or.inl ⟨by rfl, ?_⟩) hH ?_
            rotate_left
            · intro w hSw
              clear hSw
              go_simp
              try with_reducible rfl
            simp only [Act.put, List.setIfInBounds_toArray, List.set_cons_zero, List.set_cons_succ]
            refine wpAnyH_ready (rs := [9]) (by kernel_rfl) (by simp) ?_
            refine AllReadyH.cons (o := { dst := some 11, op := .alloc _, type := _, pos := _, after := _, guard := _ }) rfl (fun K hK => ?_) AllReadyH.nil
            have l1321q : n ≤ u1316q.heap.size := h1317q.out.le
            have l1322q : u871q.heap.size < u1316q.heap.size := h1318q.out.lt
            have l1323q : b_a < u1316q.heap.size := h1319q.out.lt
            have l1324q : u1179q.heap.size < u1316q.heap.size := h1320q.out.lt
            go_simp
            have h1325q : Hid (Gd n w (u1316q.alloc (.cells #[.int .i64 0, .int .i64 0, .int .i64 0, .int .i64 0, .int .i64 0, .int .i64 0, .int .i64 0, .int .i64 0, .int .i64 0, .int .i64 0, .int .i64 0, .int .i64 0, .int .i64 0, .int .i64 0, .int .i64 0, .int .i64 0] 27))) := h1317q.out.new (.cells #[.int .i64 0, .int .i64 0, .int .i64 0, .int .i64 0, .int .i64 0, .int .i64 0, .int .i64 0, .int .i64 0, .int .i64 0, .int .i64 0, .int .i64 0, .int .i64 0, .int .i64 0, .int .i64 0, .int .i64 0, .int .i64 0] 27)
            have h1326q : Hid (TAt (u1316q.alloc (.cells #[.int .i64 0, .int .i64 0, .int .i64 0, .int .i64 0, .int .i64 0, .int .i64 0, .int .i64 0, .int .i64 0, .int .i64 0, .int .i64 0, .int .i64 0, .int .i64 0, .int .i64 0, .int .i64 0, .int .i64 0, .int .i64 0] 27)) u871q.heap.size u) := h1318q.out.new (.cells #[.int .i64 0, .int .i64 0, .int .i64 0, .int .i64 0, .int .i64 0, .int .i64 0, .int .i64 0, .int .i64 0, .int .i64 0, .int .i64 0, .int .i64 0, .int .i64 0, .int .i64 0, .int .i64 0, .int .i64 0, .int .i64 0] 27)
            have h1327q : Hid (Bo (u1316q.alloc (.cells #[.int .i64 0, .int .i64 0, .int .i64 0, .int .i64 0, .int .i64 0, .int .i64 0, .int .i64 0, .int .i64 0, .int .i64 0, .int .i64 0, .int .i64 0, .int .i64 0, .int .i64 0, .int .i64 0, .int .i64 0, .int .i64 0] 27)) b_a [.int .i64 (1), .int .i64 (0)]) := h1319q.out.new (.cells #[.int .i64 0, .int .i64 0, .int .i64 0, .int .i64 0, .int .i64 0, .int .i64 0, .int .i64 0, .int .i64 0, .int .i64 0, .int .i64 0, .int .i64 0, .int .i64 0, .int .i64 0, .int .i64 0, .int .i64 0, .int .i64 0] 27)
            have h1328q : Hid (Bo (u1316q.alloc (.cells #[.int .i64 0, .int .i64 0, .int .i64 0, .int .i64 0, .int .i64 0, .int .i64 0, .int .i64 0, .int .i64 0, .int .i64 0, .int .i64 0, .int .i64 0, .int .i64 0, .int .i64 0, .int .i64 0, .int .i64 0, .int .i64 0] 27)) u1179q.heap.size [.int .i64 0, .int .i64 0]) := h1320q.out.new (.cells #[.int .i64 0, .int .i64 0, .int .i64 0, .int .i64 0, .int .i64 0, .int .i64 0, .int .i64 0, .int .i64 0, .int .i64 0, .int .i64 0, .int .i64 0, .int .i64 0, .int .i64 0, .int .i64 0, .int .i64 0, .int .i64 0] 27)
            clear h1317q h1318q h1319q h1320q
            have h1329q : Hid (TAt (u1316q.alloc (.cells #[.int .i64 0, .int .i64 0, .int .i64 0, .int .i64 0, .int .i64 0, .int .i64 0, .int .i64 0, .int .i64 0, .int .i64 0, .int .i64 0, .int .i64 0, .int .i64 0, .int .i64 0, .int .i64 0, .int .i64 0, .int .i64 0] 27)) u1316q.heap.size Tb.zero) := TAt.bornZero u1316q 27 (by simp)
            refine hK.out _ _ h1326q.out (fun hH => ?_)
            clear hK K
            generalize (u1316q.alloc (.cells #[.int .i64 0, .int .i64 0, .int .i64 0, .int .i64 0, .int .i64 0, .int .i64 0, .int .i64 0, .int .i64 0, .int .i64 0, .int .i64 0, .int .i64 0, .int .i64 0, .int .i64 0, .int .i64 0, .int .i64 0, .int .i64 0] 27)) = u1330q at h1325q h1326q h1327q h1328q h1329q hH ⊢
            try simp only [Act.put, List.setIfInBounds_toArray, List.set_cons_zero, List.set_cons_succ]
            refine wpAnyH_ready (rs := [11]) (by kernel_rfl) (by simp) ?_
            refine AllReadyH.cons (o := { dst := none, op := .store _ (.tmp 11) (.tmp 42), type := _, pos := _, after := _, guard := _ }) rfl (fun K hK => ?_) AllReadyH.nil
            rw [if_pos (by rfl)]
            refine wp_store_mid _ _ _ rfl u1316q.heap.size _ u2.all.toArray rfl rfl (h1329q.out.thereOf u2) (HZ.out u2) (u2.all_all) ?_
            simp only [Act.put]
            have h1331q : Hid (Gd n w (u1330q.setCells u1316q.heap.size 0 u2.all)) := h1325q.out.asideAll (by omega) u2
            have h1332q : Hid (TAt (u1330q.setCells u1316q.heap.size 0 u2.all) u871q.heap.size u) := h1326q.out.asideAll (by omega) u2
            have h1333q : Hid (Bo (u1330q.setCells u1316q.heap.size 0 u2.all) b_a [.int .i64 (1), .int .i64 (0)]) := h1327q.out.asideAll (by omega) u2
            have h1334q : Hid (Bo (u1330q.setCells u1316q.heap.size 0 u2.all) u1179q.heap.size [.int .i64 0, .int .i64 0]) := h1328q.out.asideAll (by omega) u2
            have h1335q : Hid (TAt (u1330q.setCells u1316q.heap.size 0 u2.all) u1316q.heap.size u2) := h1329q.out.setAll u2
            clear h1325q h1326q h1327q h1328q h1329q
            refine hK.out _ _ h1332q.out (fun hH => ?_)
            clear hK K
            generalize (u1330q.setCells u1316q.heap.size 0 u2.all) = u1336q at h1331q h1332q h1333q h1334q h1335q hH ⊢
            try simp only [Act.put, List.setIfInBounds_toArray, List.set_cons_zero, List.set_cons_succ]
            refine wpAnyH_ready (rs := [12]) (by kernel_rfl) (by simp) ?_
            refine AllReadyH.cons (o := { dst := none, op := .store _ (.tmp 12) (.tmp 43), type := _, pos := _, after := _, guard := _ }) rfl (fun K hK => ?_) AllReadyH.nil
            rw [if_pos (by rfl)]
            refine wp_store_mid _ _ _ rfl u1179q.heap.size _ #[.int .i64 (1), .int .i64 (0)] rfl rfl h1334q.out.there2 HA.out (two_one _ _) ?_
            simp only [Act.put]
            have h1337q : Hid (Gd n w (u1336q.setCells u1179q.heap.size 0 [.int .i64 (1), .int .i64 (0)])) := h1331q.out.asideL (by omega) 0 [.int .i64 (1), .int .i64 (0)]
            have h1338q : Hid (TAt (u1336q.setCells u1179q.heap.size 0 [.int .i64 (1), .int .i64 (0)]) u871q.heap.size u) := h1332q.out.asideL (by omega) 0 [.int .i64 (1), .int .i64 (0)]
            have h1339q : Hid (Bo (u1336q.setCells u1179q.heap.size 0 [.int .i64 (1), .int .i64 (0)]) b_a [.int .i64 (1), .int .i64 (0)]) := h1333q.out.asideL (by omega) 0 [.int .i64 (1), .int .i64 (0)]
            have h1340q : Hid (Bo (u1336q.setCells u1179q.heap.size 0 [.int .i64 (1), .int .i64 (0)]) u1179q.heap.size [.int .i64 (1), .int .i64 (0)]) := h1334q.out.set2 (.int .i64 (1)) (.int .i64 (0))
            have h1341q : Hid (TAt (u1336q.setCells u1179q.heap.size 0 [.int .i64 (1), .int .i64 (0)]) u1316q.heap.size u2) := h1335q.out.asideL (by omega) 0 [.int .i64 (1), .int .i64 (0)]
            clear h1331q h1332q h1333q h1334q h1335q
            refine hK.out _ _ h1338q.out (fun hH => ?_)
            clear hK K
            generalize (u1336q.setCells u1179q.heap.size 0 [.int .i64 (1), .int .i64 (0)]) = u1342q at h1337q h1338q h1339q h1340q h1341q hH ⊢
            try simp only [Act.put, List.setIfInBounds_toArray, List.set_cons_zero, List.set_cons_succ]
            refine wpAnyH_done (by kernel_rfl) ?_ _
            go_wp2_with fail
            go_meet
            case rel => exact ⟨u1316q.heap.size, u1179q.heap.size, rfl, rfl, h1337q, h1338q, h1339q, h1341q, h1340q⟩
          refine AllReadyH.cons (o := { dst := some 11, op := .alloc _, type := _, pos := _, after := _, guard := _ }) rfl (fun K hK => ?_) AllReadyH.nil
          have l1343q : n ≤ u1315q.heap.size := h1311q.out.le
          have l1344q : u871q.heap.size < u1315q.heap.size := h1312q.out.lt
          have l1345q : b_a < u1315q.heap.size := h1313q.out.lt
          have l1346q : u1179q.heap.size < u1315q.heap.size := h1314q.out.lt
          go_simp
          have h1347q : Hid (Gd n w (u1315q.alloc (.cells #[.int .i64 0, .int .i64 0, .int .i64 0, .int .i64 0, .int .i64 0, .int .i64 0, .int .i64 0, .int .i64 0, .int .i64 0, .int .i64 0, .int .i64 0, .int .i64 0, .int .i64 0, .int .i64 0, .int .i64 0, .int .i64 0] 27))) := h1311q.out.new (.cells #[.int .i64 0, .int .i64 0, .int .i64 0, .int .i64 0, .int .i64 0, .int .i64 0, .int .i64 0, .int .i64 0, .int .i64 0, .int .i64 0, .int .i64 0, .int .i64 0, .int .i64 0, .int .i64 0, .int .i64 0, .int .i64 0] 27)
          have h1348q : Hid (TAt (u1315q.alloc (.cells #[.int .i64 0, .int .i64 0, .int .i64 0, .int .i64 0, .int .i64 0, .int .i64 0, .int .i64 0, .int .i64 0, .int .i64 0, .int .i64 0, .int .i64 0, .int .i64 0, .int .i64 0, .int .i64 0, .int .i64 0, .int .i64 0] 27)) u871q.heap.size u) := h1312q.out.new (.cells #[.int .i64 0, .int .i64 0, .int .i64 0, .int .i64 0, .int .i64 0, .int .i64 0, .int .i64 0, .int .i64 0, .int .i64 0, .int .i64 0, .int .i64 0, .int .i64 0, .int .i64 0, .int .i64 0, .int .i64 0, .int .i64 0] 27)
          have h1349q : Hid (Bo (u1315q.alloc (.cells #[.int .i64 0, .int .i64 0, .int .i64 0, .int .i64 0, .int .i64 0, .int .i64 0, .int .i64 0, .int .i64 0, .int .i64 0, .int .i64 0, .int .i64 0, .int .i64 0, .int .i64 0, .int .i64 0, .int .i64 0, .int .i64 0] 27)) b_a [.int .i64 (1), .int .i64 (0)]) := h1313q.out.new (.cells #[.int .i64 0, .int .i64 0, .int .i64 0, .int .i64 0, .int .i64 0, .int .i64 0, .int .i64 0, .int .i64 0, .int .i64 0, .int .i64 0, .int .i64 0, .int .i64 0, .int .i64 0, .int .i64 0, .int .i64 0, .int .i64 0] 27)
          have h1350q : Hid (Bo (u1315q.alloc (.cells #[.int .i64 0, .int .i64 0, .int .i64 0, .int .i64 0, .int .i64 0, .int .i64 0, .int .i64 0, .int .i64 0, .int .i64 0, .int .i64 0, .int .i64 0, .int .i64 0, .int .i64 0, .int .i64 0, .int .i64 0, .int .i64 0] 27)) u1179q.heap.size [.int .i64 0, .int .i64 0]) := h1314q.out.new (.cells #[.int .i64 0, .int .i64 0, .int .i64 0, .int .i64 0, .int .i64 0, .int .i64 0, .int .i64 0, .int .i64 0, .int .i64 0, .int .i64 0, .int .i64 0, .int .i64 0, .int .i64 0, .int .i64 0, .int .i64 0, .int .i64 0] 27)
          clear h1311q h1312q h1313q h1314q
          have h1351q : Hid (TAt (u1315q.alloc (.cells #[.int .i64 0, .int .i64 0, .int .i64 0, .int .i64 0, .int .i64 0, .int .i64 0, .int .i64 0, .int .i64 0, .int .i64 0, .int .i64 0, .int .i64 0, .int .i64 0, .int .i64 0, .int .i64 0, .int .i64 0, .int .i64 0] 27)) u1315q.heap.size Tb.zero) := TAt.bornZero u1315q 27 (by simp)
          refine hK.out _ _ h1348q.out (fun hH => ?_)
          clear hK K
          generalize (u1315q.alloc (.cells #[.int .i64 0, .int .i64 0, .int .i64 0, .int .i64 0, .int .i64 0, .int .i64 0, .int .i64 0, .int .i64 0, .int .i64 0, .int .i64 0, .int .i64 0, .int .i64 0, .int .i64 0, .int .i64 0, .int .i64 0, .int .i64 0] 27)) = u1352q at h1347q h1348q h1349q h1350q h1351q hH ⊢
          try simp only [Act.put, List.setIfInBounds_toArray, List.set_cons_zero, List.set_cons_succ]
          refine wpAnyH_ready (rs := [5]) (by kernel_rfl) (by simp) ?_
          refine AllReadyH.cons (o := { dst := some 41, op := _, type := _, pos := _, after := _, guard := _ }) rfl (fun K hK => ?_) AllReadyH.nil
          go_simp
          refine (DO2 _).mono ?_
          rintro e u1353q ⟨rfl, hb⟩
          have h1354q : Hid (Gd n w u1353q) := h1347q.out.later hb
          have h1355q : Hid (TAt u1353q u871q.heap.size u) := h1348q.out.later hb
          have h1356q : Hid (Bo u1353q b_a [.int .i64 (1), .int .i64 (0)]) := h1349q.out.later hb
          have h1357q : Hid (Bo u1353q u1179q.heap.size [.int .i64 0, .int .i64 0]) := h1350q.out.later hb
          have h1358q : Hid (TAt u1353q u1315q.heap.size Tb.zero) := h1351q.out.later hb
          clear h1347q h1348q h1349q h1350q h1351q
          clear hb
          go_wp2_with fail
          refine hK.out _ _ h1355q.out (fun hH => ?_)
          clear hK K
          try simp only [Act.put, List.setIfInBounds_toArray, List.set_cons_zero, List.set_cons_succ]
          refine wpAnyH_take (i := 6) (oi := { dst := some 35, op := .move (.tmp 41), type := _, pos := _, after := _, guard := _ }) (v := ?_) rfl (by kernel_rfl) (by kernel_rfl) (by kernel_rfl) (fun _ _ _ h => h) (Or.inl ⟨by rfl, ?_⟩) hH ?_
          rotate_left
          · intro w hSw
            clear hSw
            go_simp
            try with_reducible rfl
          simp only [Act.put, List.setIfInBounds_toArray, List.set_cons_zero, List.set_cons_succ]
          refine wpAnyH_take (i := 7) (oi := { dst := some 42, op := .extract (.tmp 35) 0, type := _, pos := _, after := _, guard := _ }) (v := ?_) rfl (by kernel_rfl) (by kernel_rfl) (by kernel_rfl) (fun _ _ _ h => h) (Or.inl ⟨by rfl, ?_⟩) hH ?_
          rotate_left
          · intro w hSw
            clear hSw
            go_simp
            try with_reducible rfl
          simp only [Act.put, List.setIfInBounds_toArray, List.set_cons_zero, List.set_cons_succ]
          refine wpAnyH_take (i := 8) (oi := { dst := some 43, op := .extract (.tmp 35) 1, type := _, pos := _, after := _, guard := _ }) (v := ?_) rfl (by kernel_rfl) (by kernel_rfl) (by kernel_rfl) (fun _ _ _ h => h) (Or.inl ⟨by rfl, ?_⟩) hH ?_
          rotate_left
          · intro w hSw
            clear hSw
            go_simp
            try with_reducible rfl
          simp only [Act.put, List.setIfInBounds_toArray, List.set_cons_zero, List.set_cons_succ]
          refine wpAnyH_ready (rs := [11]) (by kernel_rfl) (by simp) ?_
          refine AllReadyH.cons (o := { dst := none, op := .store _ (.tmp 11) (.tmp 42), type := _, pos := _, after := _, guard := _ }) rfl (fun K hK => ?_) AllReadyH.nil
          rw [if_pos (by rfl)]
          refine wp_store_mid _ _ _ rfl u1315q.heap.size _ u2.all.toArray rfl rfl (h1358q.out.thereOf u2) (HZ.out u2) (u2.all_all) ?_
          simp only [Act.put]
          have h1359q : Hid (Gd n w (u1353q.setCells u1315q.heap.size 0 u2.all)) := h1354q.out.asideAll (by omega) u2
          have h1360q : Hid (TAt (u1353q.setCells u1315q.heap.size 0 u2.all) u871q.heap.size u) := h1355q.out.asideAll (by omega) u2
          have h1361q : Hid (Bo (u1353q.setCells u1315q.heap.size 0 u2.all) b_a [.int .i64 (1), .int .i64 (0)]) := h1356q.out.asideAll (by omega) u2
          have h1362q : Hid (Bo (u1353q.setCells u1315q.heap.size 0 u2.all) u1179q.heap.size [.int .i64 0, .int .i64 0]) := h1357q.out.asideAll (by omega) u2
          have h1363q : Hid (TAt (u1353q.setCells u1315q.heap.size 0 u2.all) u1315q.heap.size u2) := h1358q.out.setAll u2
          clear h1354q h1355q h1356q h1357q h1358q
          refine hK.out _ _ h1360q.out (fun hH => ?_)
          clear hK K
          generalize (u1353q.setCells u1315q.heap.size 0 u2.all) = u1364q at h1359q h1360q h1361q h1362q h1363q hH ⊢
          try simp only [Act.put, List.setIfInBounds_toArray, List.set_cons_zero, List.set_cons_succ]
          refine wpAnyH_ready (rs := [12]) (by kernel_rfl) (by simp) ?_
          refine AllReadyH.cons (o := { dst := none, op := .store _ (.tmp 12) (.tmp 43), type := _, pos := _, after := _, guard := _ }) rfl (fun K hK => ?_) AllReadyH.nil
          rw [if_pos (by rfl)]
          refine wp_store_mid _ _ _ rfl u1179q.heap.size _ #[.int .i64 (1), .int .i64 (0)] rfl rfl h1362q.out.there2 HA.out (two_one _ _) ?_
          simp only [Act.put]
          have h1365q : Hid (Gd n w (u1364q.setCells u1179q.heap.size 0 [.int .i64 (1), .int .i64 (0)])) := h1359q.out.asideL (by omega) 0 [.int .i64 (1), .int .i64 (0)]
          have h1366q : Hid (TAt (u1364q.setCells u1179q.heap.size 0 [.int .i64 (1), .int .i64 (0)]) u871q.heap.size u) := h1360q.out.asideL (by omega) 0 [.int .i64 (1), .int .i64 (0)]
          have h1367q : Hid (Bo (u1364q.setCells u1179q.heap.size 0 [.int .i64 (1), .int .i64 (0)]) b_a [.int .i64 (1), .int .i64 (0)]) := h1361q.out.asideL (by omega) 0 [.int .i64 (1), .int .i64 (0)]
          have h1368q : Hid (Bo (u1364q.setCells u1179q.heap.size 0 [.int .i64 (1), .int .i64 (0)]) u1179q.heap.size [.int .i64 (1), .int .i64 (0)]) := h1362q.out.set2 (.int .i64 (1)) (.int .i64 (0))
          have h1369q : Hid (TAt (u1364q.setCells u1179q.heap.size 0 [.int .i64 (1), .int .i64 (0)]) u1315q.heap.size u2) := h1363q.out.asideL (by omega) 0 [.int .i64 (1), .int .i64 (0)]
          clear h1359q h1360q h1361q h1362q h1363q
          refine hK.out _ _ h1366q.out (fun hH => ?_)
          clear hK K
          generalize (u1364q.setCells u1179q.heap.size 0 [.int .i64 (1), .int .i64 (0)]) = u1370q at h1365q h1366q h1367q h1368q h1369q hH ⊢
          try simp only [Act.put, List.setIfInBounds_toArray, List.set_cons_zero, List.set_cons_succ]
          refine wpAnyH_done (by kernel_rfl) ?_ _
          go_wp2_with fail
          go_meet
          case rel => exact ⟨u1315q.heap.size, u1179q.heap.size, rfl, rfl, h1365q, h1366q, h1367q, h1369q, h1368q⟩
        refine AllReadyH.cons (o := { dst := some 11, op := .alloc _, type := _, pos := _, after := _, guard := _ }) rfl (fun K hK => ?_) ?_
        · have l1371q : n ≤ u1179q.heap.size := h1176q.out.le
          have l1372q : u871q.heap.size < u1179q.heap.size := h1177q.out.lt
          have l1373q : b_a < u1179q.heap.size := h1178q.out.lt
          go_simp
          have h1374q : Hid (Gd n w (u1179q.alloc (.cells #[.int .i64 0, .int .i64 0, .int .i64 0, .int .i64 0, .int .i64 0, .int .i64 0, .int .i64 0, .int .i64 0, .int .i64 0, .int .i64 0, .int .i64 0, .int .i64 0, .int .i64 0, .int .i64 0, .int .i64 0, .int .i64 0] 27))) := h1176q.out.new (.cells #[.int .i64 0, .int .i64 0, .int .i64 0, .int .i64 0, .int .i64 0, .int .i64 0, .int .i64 0, .int .i64 0, .int .i64 0, .int .i64 0, .int .i64 0, .int .i64 0, .int .i64 0, .int .i64 0, .int .i64 0, .int .i64 0] 27)
          have h1375q : Hid (TAt (u1179q.alloc (.cells #[.int .i64 0, .int .i64 0, .int .i64 0, .int .i64 0, .int .i64 0, .int .i64 0, .int .i64 0, .int .i64 0, .int .i64 0, .int .i64 0, .int .i64 0, .int .i64 0, .int .i64 0, .int .i64 0, .int .i64 0, .int .i64 0] 27)) u871q.heap.size u) := h1177q.out.new (.cells #[.int .i64 0, .int .i64 0, .int .i64 0, .int .i64 0, .int .i64 0, .int .i64 0, .int .i64 0, .int .i64 0, .int .i64 0, .int .i64 0, .int .i64 0, .int .i64 0, .int .i64 0, .int .i64 0, .int .i64 0, .int .i64 0] 27)
          have h1376q : Hid (Bo (u1179q.alloc (.cells #[.int .i64 0, .int .i64 0, .int .i64 0, .int .i64 0, .int .i64 0, .int .i64 0, .int .i64 0, .int .i64 0, .int .i64 0, .int .i64 0, .int .i64 0, .int .i64 0, .int .i64 0, .int .i64 0, .int .i64 0, .int .i64 0] 27)) b_a [.int .i64 (1), .int .i64 (0)]) := h1178q.out.new (.cells #[.int .i64 0, .int .i64 0, .int .i64 0, .int .i64 0, .int .i64 0, .int .i64 0, .int .i64 0, .int .i64 0, .int .i64 0, .int .i64 0, .int .i64 0, .int .i64 0, .int .i64 0, .int .i64 0, .int .i64 0, .int .i64 0] 27)
          clear h1176q h1177q h1178q
          have h1377q : Hid (TAt (u1179q.alloc (.cells #[.int .i64 0, .int .i64 0, .int .i64 0, .int .i64 0, .int .i64 0, .int .i64 0, .int .i64 0, .int .i64 0, .int .i64 0, .int .i64 0, .int .i64 0, .int .i64 0, .int .i64 0, .int .i64 0, .int .i64 0, .int .i64 0] 27)) u1179q.heap.size Tb.zero) := TAt.bornZero u1179q 27 (by simp)
          refine hK.out _ _ h1375q.out (fun hH => ?_)
          clear hK K
          generalize (u1179q.alloc (.cells #[.int .i64 0, .int .i64 0, .int .i64 0, .int .i64 0, .int .i64 0, .int .i64 0, .int .i64 0, .int .i64 0, .int .i64 0, .int .i64 0, .int .i64 0, .int .i64 0, .int .i64 0, .int .i64 0, .int .i64 0, .int .i64 0] 27)) = u1378q at h1374q h1375q h1376q h1377q hH ⊢
          try simp only [Act.put, List.setIfInBounds_toArray, List.set_cons_zero, List.set_cons_succ]
          refine wpAnyH_ready (rs := [3, 10]) (by kernel_rfl) (by simp) ?_
          refine AllReadyH.cons (o := { dst := some 39, op := _, type := _, pos := _, after := _, guard := _ }) rfl (fun K hK => ?_) ?_
          · go_simp
            refine (Pr3.out _).mono ?_
            rintro e u1379q ⟨rfl, hw⟩
            rw [hw]; clear hw u1379q
            go_wp2_with fail
            refine hK.out _ _ h1375q.out (fun hH => ?_)
            clear hK K
            try simp only [Act.put, List.setIfInBounds_toArray, List.set_cons_zero, List.set_cons_succ]
            refine wpAnyH_take (i := 4) (oi := { dst := some 40, op := .build _ #[(0, .const (.int .i64 1)), (1, .tmp 37), (2, .tmp 39)], type := _, pos := _, after := _, guard := _ }) (v := ?_) rfl (by kernel_rfl) (by kernel_rfl) (by kernel_rfl) (fun _ _ _ h => h) (Or.inl ⟨by rfl, ?_⟩) hH ?_
            rotate_left
            · intro w hSw
              clear hSw
              go_simp
              try with_reducible rfl
            simp only [Act.put, List.setIfInBounds_toArray, List.set_cons_zero, List.set_cons_succ]
            refine wpAnyH_ready (rs := [5, 10]) (by kernel_rfl) (by simp) ?_
            refine AllReadyH.cons (o := { dst := some 41, op := _, type := _, pos := _, after := _, guard := _ }) rfl (fun K hK => ?_) ?_
            · go_simp
              refine (DO2 _).mono ?_
              rintro e u1380q ⟨rfl, hb⟩
              have h1381q : Hid (Gd n w u1380q) := h1374q.out.later hb
              have h1382q : Hid (TAt u1380q u871q.heap.size u) := h1375q.out.later hb
              have h1383q : Hid (Bo u1380q b_a [.int .i64 (1), .int .i64 (0)]) := h1376q.out.later hb
              have h1384q : Hid (TAt u1380q u1179q.heap.size Tb.zero) := h1377q.out.later hb
              clear h1374q h1375q h1376q h1377q
              clear hb
              go_wp2_with fail
              refine hK.out _ _ h1382q.out (fun hH => ?_)
              clear hK K
              try simp only [Act.put, List.setIfInBounds_toArray, List.set_cons_zero, List.set_cons_succ]
              refine wpAnyH_take (i := 6) (oi := { dst := some 35, op := .move (.tmp 41), type := _, pos := _, after := _, guard := _ }) (v := ?_) rfl (by kernel_rfl) (by kernel_rfl) (by kernel_rfl) (fun _ _ _ h => h) (Or.inl ⟨by rfl, ?_⟩) hH ?_
              rotate_left
              · intro w hSw
                clear hSw
                go_simp
                try with_reducible rfl
              simp only [Act.put, List.setIfInBounds_toArray, List.set_cons_zero, List.set_cons_succ]
              refine wpAnyH_take (i := 7) (oi := { dst := some 42, op := .extract (.tmp 35) 0, type := _, pos := _, after := _, guard := _ }) (v := ?_) rfl (by kernel_rfl) (by kernel_rfl) (by kernel_rfl) (fun _ _ _ h => h) (Or.inl ⟨by rfl, ?_⟩) hH ?_
              rotate_left
              · intro w hSw
                clear hSw
                go_simp
                try with_reducible rfl
              simp only [Act.put, List.setIfInBounds_toArray, List.set_cons_zero, List.set_cons_succ]
              refine wpAnyH_take (i := 8) (oi := { dst := some 43, op := .extract (.tmp 35) 1, type := _, pos := _, after := _, guard := _ }) (v := ?_) rfl (by kernel_rfl) (by kernel_rfl) (by kernel_rfl) (fun _ _ _ h => h) (Or.inl ⟨by rfl, ?_⟩) hH ?_
              rotate_left
              · intro w hSw
                clear hSw
                go_simp
                try with_reducible rfl
              simp only [Act.put, List.setIfInBounds_toArray, List.set_cons_zero, List.set_cons_succ]
              refine wpAnyH_ready (rs := [10]) (by kernel_rfl) (by simp) ?_
              refine AllReadyH.cons (o := { dst := some 12, op := .alloc _, type := _, pos := _, after := _, guard := _ }) rfl (fun K hK => ?_) AllReadyH.nil
              have l1385q : n ≤ u1380q.heap.size := h1381q.out.le
              have l1386q : u871q.heap.size < u1380q.heap.size := h1382q.out.lt
              have l1387q : b_a < u1380q.heap.size := h1383q.out.lt
              have l1388q : u1179q.heap.size < u1380q.heap.size := h1384q.out.lt
              go_simp
              have h1389q : Hid (Gd n w (u1380q.alloc (.cells #[.int .i64 0, .int .i64 0] 31))) := h1381q.out.new (.cells #[.int .i64 0, .int .i64 0] 31)
              have h1390q : Hid (TAt (u1380q.alloc (.cells #[.int .i64 0, .int .i64 0] 31)) u871q.heap.size u) := h1382q.out.new (.cells #[.int .i64 0, .int .i64 0] 31)
              have h1391q : Hid (Bo (u1380q.alloc (.cells #[.int .i64 0, .int .i64 0] 31)) b_a [.int .i64 (1), .int .i64 (0)]) := h1383q.out.new (.cells #[.int .i64 0, .int .i64 0] 31)
              have h1392q : Hid (TAt (u1380q.alloc (.cells #[.int .i64 0, .int .i64 0] 31)) u1179q.heap.size Tb.zero) := h1384q.out.new (.cells #[.int .i64 0, .int .i64 0] 31)
              clear h1381q h1382q h1383q h1384q
              have h1393q : Hid (Bo (u1380q.alloc (.cells #[.int .i64 0, .int .i64 0] 31)) u1380q.heap.size [.int .i64 0, .int .i64 0]) := Bo.born u1380q [.int .i64 0, .int .i64 0] 31 (by simp)
              refine hK.out _ _ h1390q.out (fun hH => ?_)
              clear hK K
              generalize (u1380q.alloc (.cells #[.int .i64 0, .int .i64 0] 31)) = u1394q at h1389q h1390q h1391q h1392q h1393q hH ⊢
              try simp only [Act.put, List.setIfInBounds_toArray, List.set_cons_zero, List.set_cons_succ]
              refine wpAnyH_ready (rs := [11]) (by kernel_rfl) (by simp) ?_
              refine AllReadyH.cons (o := { dst := none, op := .store _ (.tmp 11) (.tmp 42), type := _, pos := _, after := _, guard := _ }) rfl (fun K hK => ?_) AllReadyH.nil
              rw [if_pos (by rfl)]
              refine wp_store_mid _ _ _ rfl u1179q.heap.size _ u2.all.toArray rfl rfl (h1392q.out.thereOf u2) (HZ.out u2) (u2.all_all) ?_
              simp only [Act.put]
              have h1395q : Hid (Gd n w (u1394q.setCells u1179q.heap.size 0 u2.all)) := h1389q.out.asideAll (by omega) u2
              have h1396q : Hid (TAt (u1394q.setCells u1179q.heap.size 0 u2.all) u871q.heap.size u) := h1390q.out.asideAll (by omega) u2
              have h1397q : Hid (Bo (u1394q.setCells u1179q.heap.size 0 u2.all) b_a [.int .i64 (1), .int .i64 (0)]) := h1391q.out.asideAll (by omega) u2
              have h1398q : Hid (TAt (u1394q.setCells u1179q.heap.size 0 u2.all) u1179q.heap.size u2) := h1392q.out.setAll u2
              have h1399q : Hid (Bo (u1394q.setCells u1179q.heap.size 0 u2.all) u1380q.heap.size [.int .i64 0, .int .i64 0]) := h1393q.out.asideAll (by omega) u2
              clear h1389q h1390q h1391q h1392q h1393q
              refine hK.out _ _ h1396q.out (fun hH => ?_)
              clear hK K
              generalize (u1394q.setCells u1179q.heap.size 0 u2.all) = u1400q at h1395q h1396q h1397q h1398q h1399q hH ⊢
              try simp only [Act.put, List.setIfInBounds_toArray, List.set_cons_zero, List.set_cons_succ]
              refine wpAnyH_ready (rs := [12]) (by kernel_rfl) (by simp) ?_
              refine AllReadyH.cons (o := { dst := none, op := .store _ (.tmp 12) (.tmp 43), type := _, pos := _, after := _, guard := _ }) rfl (fun K hK => ?_) AllReadyH.nil
              rw [if_pos (by rfl)]
              refine wp_store_mid _ _ _ rfl u1380q.heap.size _ #[.int .i64 (1), .int .i64 (0)] rfl rfl h1399q.out.there2 HA.out (two_one _ _) ?_
              simp only [Act.put]
              have h1401q : Hid (Gd n w (u1400q.setCells u1380q.heap.size 0 [.int .i64 (1), .int .i64 (0)])) := h1395q.out.asideL (by omega) 0 [.int .i64 (1), .int .i64 (0)]
              have h1402q : Hid (TAt (u1400q.setCells u1380q.heap.size 0 [.int .i64 (1), .int .i64 (0)]) u871q.heap.size u) := h1396q.out.asideL (by omega) 0 [.int .i64 (1), .int .i64 (0)]
              have h1403q : Hid (Bo (u1400q.setCells u1380q.heap.size 0 [.int .i64 (1), .int .i64 (0)]) b_a [.int .i64 (1), .int .i64 (0)]) := h1397q.out.asideL (by omega) 0 [.int .i64 (1), .int .i64 (0)]
              have h1404q : Hid (TAt (u1400q.setCells u1380q.heap.size 0 [.int .i64 (1), .int .i64 (0)]) u1179q.heap.size u2) := h1398q.out.asideL (by omega) 0 [.int .i64 (1), .int .i64 (0)]
              have h1405q : Hid (Bo (u1400q.setCells u1380q.heap.size 0 [.int .i64 (1), .int .i64 (0)]) u1380q.heap.size [.int .i64 (1), .int .i64 (0)]) := h1399q.out.set2 (.int .i64 (1)) (.int .i64 (0))
              clear h1395q h1396q h1397q h1398q h1399q
              refine hK.out _ _ h1402q.out (fun hH => ?_)
              clear hK K
              generalize (u1400q.setCells u1380q.heap.size 0 [.int .i64 (1), .int .i64 (0)]) = u1406q at h1401q h1402q h1403q h1404q h1405q hH ⊢
              try simp only [Act.put, List.setIfInBounds_toArray, List.set_cons_zero, List.set_cons_succ]
              refine wpAnyH_done (by kernel_rfl) ?_ _
              go_wp2_with fail
              go_meet
              case rel => exact ⟨u1179q.heap.size, u1380q.heap.size, rfl, rfl, h1401q, h1402q, h1403q, h1404q, h1405q⟩
            refine AllReadyH.cons (o := { dst := some 12, op := .alloc _, type := _, pos := _, after := _, guard := _ }) rfl (fun K hK => ?_) AllReadyH.nil
            have l1407q : n ≤ u1378q.heap.size := h1374q.out.le
            have l1408q : u871q.heap.size < u1378q.heap.size := h1375q.out.lt
            have l1409q : b_a < u1378q.heap.size := h1376q.out.lt
            have l1410q : u1179q.heap.size < u1378q.heap.size := h1377q.out.lt
            go_simp
            have h1411q : Hid (Gd n w (u1378q.alloc (.cells #[.int .i64 0, .int .i64 0] 31))) := h1374q.out.new (.cells #[.int .i64 0, .int .i64 0] 31)
            have h1412q : Hid (TAt (u1378q.alloc (.cells #[.int .i64 0, .int .i64 0] 31)) u871q.heap.size u) := h1375q.out.new (.cells #[.int .i64 0, .int .i64 0] 31)
            have h1413q : Hid (Bo (u1378q.alloc (.cells #[.int .i64 0, .int .i64 0] 31)) b_a [.int .i64 (1), .int .i64 (0)]) := h1376q.out.new (.cells #[.int .i64 0, .int .i64 0] 31)
            have h1414q : Hid (TAt (u1378q.alloc (.cells #[.int .i64 0, .int .i64 0] 31)) u1179q.heap.size Tb.zero) := h1377q.out.new (.cells #[.int .i64 0, .int .i64 0] 31)
            clear h1374q h1375q h1376q h1377q
            have h1415q : Hid (Bo (u1378q.alloc (.cells #[.int .i64 0, .int .i64 0] 31)) u1378q.heap.size [.int .i64 0, .int .i64 0]) := Bo.born u1378q [.int .i64 0, .int .i64 0] 31 (by simp)
            refine hK.out _ _ h1412q.out (fun hH => ?_)
            clear hK K
            generalize (u1378q.alloc (.cells #[.int .i64 0, .int .i64 0] 31)) = u1416q at h1411q h1412q h1413q h1414q h1415q hH ⊢
            try simp only [Act.put, List.setIfInBounds_toArray, List.set_cons_zero, List.set_cons_succ]
            refine wpAnyH_ready (rs := [5]) (by kernel_rfl) (by simp) ?_
            refine AllReadyH.cons (o := { dst := some 41, op := _, type := _, pos := _, after := _, guard := _ }) rfl (fun K hK => ?_) AllReadyH.nil
            go_simp
            refine (DO2 _).mono ?_
            rintro e u1417q ⟨rfl, hb⟩
            have h1418q : Hid (Gd n w u1417q) := h1411q.out.later hb
            have h1419q : Hid (TAt u1417q u871q.heap.size u) := h1412q.out.later hb
            have h1420q : Hid (Bo u1417q b_a [.int .i64 (1), .int .i64 (0)]) := h1413q.out.later hb
            have h1421q : Hid (TAt u1417q u1179q.heap.size Tb.zero) := h1414q.out.later hb
            have h1422q : Hid (Bo u1417q u1378q.heap.size [.int .i64 0, .int .i64 0]) := h1415q.out.later hb
            clear h1411q h1412q h1413q h1414q h1415q
            clear hb
            go_wp2_with fail
            refine hK.out _ _ h1419q.out (fun hH => ?_)
            clear hK K
            try simp only [Act.put, List.setIfInBounds_toArray, List.set_cons_zero, List.set_cons_succ]
            refine wpAnyH_take (i := 6) (oi := { dst := some 35, op := .move (.tmp 41), type := _, pos := _, after := _, guard := _ }) (v := ?_) rfl (by kernel_rfl) (by kernel_rfl) (by kernel_rfl) (fun _ _ _ h => h) (Or.inl ⟨by rfl, ?_⟩) hH ?_
            rotate_left
            · intro w hSw
              clear hSw
              go_simp
              try with_reducible rfl
            simp only [Act.put, List.setIfInBounds_toArray, List.set_cons_zero, List.set_cons_succ]
            refine wpAnyH_take (i := 7) (oi := { dst := some 42, op := .extract (.tmp 35) 0, type := _, pos := _, after := _, guard := _ }) (v := ?_) rfl (by kernel_rfl) (by kernel_rfl) (by kernel_rfl) (fun _ _ _ h => h) (Or.inl ⟨by rfl, ?_⟩) hH ?_
            rotate_left
            · intro w hSw
              clear hSw
              go_simp
              try with_reducible rfl
            simp only [Act.put, List.setIfInBounds_toArray, List.set_cons_zero, List.set_cons_succ]
            refine wpAnyH_take (i := 8) (oi := { dst := some 43, op := .extract (.tmp 35) 1, type := _, pos := _, after := _, guard := _ }) (v := ?_) rfl (by kernel_rfl) (by kernel_rfl) (by kernel_rfl) (fun _ _ _ h => h) (Or.inl ⟨by rfl, ?_⟩) hH ?_
            rotate_left
            · intro w hSw
              clear hSw
              go_simp
              try with_reducible rfl
            simp only [Act.put, List.setIfInBounds_toArray, List.set_cons_zero, List.set_cons_succ]
            refine wpAnyH_ready (rs := [11]) (by kernel_rfl) (by simp) ?_
            refine AllReadyH.cons (o := { dst := none, op := .store _ (.tmp 11) (.tmp 42), type := _, pos := _, after := _, guard := _ }) rfl (fun K hK => ?_) AllReadyH.nil
            rw [if_pos (by rfl)]
            refine wp_store_mid _ _ _ rfl u1179q.heap.size _ u2.all.toArray rfl rfl (h1421q.out.thereOf u2) (HZ.out u2) (u2.all_all) ?_
            simp only [Act.put]
            have h1423q : Hid (Gd n w (u1417q.setCells u1179q.heap.size 0 u2.all)) := h1418q.out.asideAll (by omega) u2
            have h1424q : Hid (TAt (u1417q.setCells u1179q.heap.size 0 u2.all) u871q.heap.size u) := h1419q.out.asideAll (by omega) u2
            have h1425q : Hid (Bo (u1417q.setCells u1179q.heap.size 0 u2.all) b_a [.int .i64 (1), .int .i64 (0)]) := h1420q.out.asideAll (by omega) u2
            have h1426q : Hid (TAt (u1417q.setCells u1179q.heap.size 0 u2.all) u1179q.heap.size u2) := h1421q.out.setAll u2
            have h1427q : Hid (Bo (u1417q.setCells u1179q.heap.size 0 u2.all) u1378q.heap.size [.int .i64 0, .int .i64 0]) := h1422q.out.asideAll (by omega) u2
            clear h1418q h1419q h1420q h1421q h1422q
            refine hK.out _ _ h1424q.out (fun hH => ?_)
            clear hK K
            generalize (u1417q.setCells u1179q.heap.size 0 u2.all) = u1428q at h1423q h1424q h1425q h1426q h1427q hH ⊢
            try simp only [Act.put, List.setIfInBounds_toArray, List.set_cons_zero, List.set_cons_succ]
            refine wpAnyH_ready (rs := [12]) (by kernel_rfl) (by simp) ?_
            refine AllReadyH.cons (o := { dst := none, op := .store _ (.tmp 12) (.tmp 43), type := _, pos := _, after := _, guard := _ }) rfl (fun K hK => ?_) AllReadyH.nil
            rw [if_pos (by rfl)]
            refine wp_store_mid _ _ _ rfl u1378q.heap.size _ #[.int .i64 (1), .int .i64 (0)] rfl rfl h1427q.out.there2 HA.out (two_one _ _) ?_
            simp only [Act.put]
            have h1429q : Hid (Gd n w (u1428q.setCells u1378q.heap.size 0 [.int .i64 (1), .int .i64 (0)])) := h1423q.out.asideL (by omega) 0 [.int .i64 (1), .int .i64 (0)]
            have h1430q : Hid (TAt (u1428q.setCells u1378q.heap.size 0 [.int .i64 (1), .int .i64 (0)]) u871q.heap.size u) := h1424q.out.asideL (by omega) 0 [.int .i64 (1), .int .i64 (0)]
            have h1431q : Hid (Bo (u1428q.setCells u1378q.heap.size 0 [.int .i64 (1), .int .i64 (0)]) b_a [.int .i64 (1), .int .i64 (0)]) := h1425q.out.asideL (by omega) 0 [.int .i64 (1), .int .i64 (0)]
            have h1432q : Hid (TAt (u1428q.setCells u1378q.heap.size 0 [.int .i64 (1), .int .i64 (0)]) u1179q.heap.size u2) := h1426q.out.asideL (by omega) 0 [.int .i64 (1), .int .i64 (0)]
            have h1433q : Hid (Bo (u1428q.setCells u1378q.heap.size 0 [.int .i64 (1), .int .i64 (0)]) u1378q.heap.size [.int .i64 (1), .int .i64 (0)]) := h1427q.out.set2 (.int .i64 (1)) (.int .i64 (0))
            clear h1423q h1424q h1425q h1426q h1427q
            refine hK.out _ _ h1430q.out (fun hH => ?_)
            clear hK K
            generalize (u1428q.setCells u1378q.heap.size 0 [.int .i64 (1), .int .i64 (0)]) = u1434q at h1429q h1430q h1431q h1432q h1433q hH ⊢
            try simp only [Act.put, List.setIfInBounds_toArray, List.set_cons_zero, List.set_cons_succ]
            refine wpAnyH_done (by kernel_rfl) ?_ _
            go_wp2_with fail
            go_meet
            case rel => exact ⟨u1179q.heap.size, u1378q.heap.size, rfl, rfl, h1429q, h1430q, h1431q, h1432q, h1433q⟩
          refine AllReadyH.cons (o := { dst := some 12, op := .alloc _, type := _, pos := _, after := _, guard := _ }) rfl (fun K hK => ?_) AllReadyH.nil
          have l1435q : n ≤ u1378q.heap.size := h1374q.out.le
          have l1436q : u871q.heap.size < u1378q.heap.size := h1375q.out.lt
          have l1437q : b_a < u1378q.heap.size := h1376q.out.lt
          have l1438q : u1179q.heap.size < u1378q.heap.size := h1377q.out.lt
          go_simp
          have h1439q : Hid (Gd n w (u1378q.alloc (.cells #[.int .i64 0, .int .i64 0] 31))) := h1374q.out.new (.cells #[.int .i64 0, .int .i64 0] 31)
          have h1440q : Hid (TAt (u1378q.alloc (.cells #[.int .i64 0, .int .i64 0] 31)) u871q.heap.size u) := h1375q.out.new (.cells #[.int .i64 0, .int .i64 0] 31)
          have h1441q : Hid (Bo (u1378q.alloc (.cells #[.int .i64 0, .int .i64 0] 31)) b_a [.int .i64 (1), .int .i64 (0)]) := h1376q.out.new (.cells #[.int .i64 0, .int .i64 0] 31)
          have h1442q : Hid (TAt (u1378q.alloc (.cells #[.int .i64 0, .int .i64 0] 31)) u1179q.heap.size Tb.zero) := h1377q.out.new (.cells #[.int .i64 0, .int .i64 0] 31)
          clear h1374q h1375q h1376q h1377q
          have h1443q : Hid (Bo (u1378q.alloc (.cells #[.int .i64 0, .int .i64 0] 31)) u1378q.heap.size [.int .i64 0, .int .i64 0]) := Bo.born u1378q [.int .i64 0, .int .i64 0] 31 (by simp)
          refine hK.out _ _ h1440q.out (fun hH => ?_)
          clear hK K
          generalize (u1378q.alloc (.cells #[.int .i64 0, .int .i64 0] 31)) = u1444q at h1439q h1440q h1441q h1442q h1443q hH ⊢
          try simp only [Act.put, List.setIfInBounds_toArray, List.set_cons_zero, List.set_cons_succ]
          refine wpAnyH_ready (rs := [3]) (by kernel_rfl) (by simp) ?_
          refine AllReadyH.cons (o := { dst := some 39, op := _, type := _, pos := _, after := _, guard := _ }) rfl (fun K hK => ?_) AllReadyH.nil
          go_simp
          refine (Pr3.out _).mono ?_
          rintro e u1445q ⟨rfl, hw⟩
          rw [hw]; clear hw u1445q
          go_wp2_with fail
          refine hK.out _ _ h1440q.out (fun hH => ?_)
          clear hK K
          try simp only [Act.put, List.setIfInBounds_toArray, List.set_cons_zero, List.set_cons_succ]
          refine wpAnyH_take (i := 4) (oi := { dst := some 40, op := .build _ #[(0, .const (.int .i64 1)), (1, .tmp 37), (2, .tmp 39)], type := _, pos := _, after := _, guard := _ }) (v := ?_) rfl (by kernel_rfl) (by kernel_rfl) (by kernel_rfl) (fun _ _ _ h => h) (Or.inl ⟨by rfl, ?_⟩) hH ?_
          rotate_left
          · intro w hSw
            clear hSw
            go_simp
            try with_reducible rfl
          simp only [Act.put, List.setIfInBounds_toArray, List.set_cons_zero, List.set_cons_succ]
          refine wpAnyH_ready (rs := [5]) (by kernel_rfl) (by simp) ?_
          refine AllReadyH.cons (o := { dst := some 41, op := _, type := _, pos := _, after := _, guard := _ }) rfl (fun K hK => ?_) AllReadyH.nil
          go_simp
          refine (DO2 _).mono ?_
          rintro e u1446q ⟨rfl, hb⟩
          have h1447q : Hid (Gd n w u1446q) := h1439q.out.later hb
          have h1448q : Hid (TAt u1446q u871q.heap.size u) := h1440q.out.later hb
          have h1449q : Hid (Bo u1446q b_a [.int .i64 (1), .int .i64 (0)]) := h1441q.out.later hb
          have h1450q : Hid (TAt u1446q u1179q.heap.size Tb.zero) := h1442q.out.later hb
          have h1451q : Hid (Bo u1446q u1378q.heap.size [.int .i64 0, .int .i64 0]) := h1443q.out.later hb
          clear h1439q h1440q h1441q h1442q h1443q
          clear hb
          go_wp2_with fail
          refine hK.out _ _ h1448q.out (fun hH => ?_)
          clear hK K
          try simp only [Act.put, List.setIfInBounds_toArray, List.set_cons_zero, List.set_cons_succ]
          refine wpAnyH_take (i := 6) (oi := { dst := some 35, op := .move (.tmp 41), type := _, pos := _, after := _, guard := _ }) (v := ?_) rfl (by kernel_rfl) (by kernel_rfl) (by kernel_rfl) (fun _ _ _ h => h) (Or.inl ⟨by rfl, ?_⟩) hH ?_
          rotate_left
          · intro w hSw
            clear hSw
            go_simp
            try with_reducible rfl
          simp only [Act.put, List.setIfInBounds_toArray, List.set_cons_zero, List.set_cons_succ]
          refine wpAnyH_take (i := 7) (oi := { dst := some 42, op := .extract (.tmp 35) 0, type := _, pos := _, after := _, guard := _ }) (v := ?_) rfl (by kernel_rfl) (by kernel_rfl) (by kernel_rfl) (fun _ _ _ h => h) (Or.inl ⟨by rfl, ?_⟩) hH ?_
          rotate_left
          · intro w hSw
            clear hSw
            go_simp
            try with_reducible rfl
          simp only [Act.put, List.setIfInBounds_toArray, List.set_cons_zero, List.set_cons_succ]
          refine wpAnyH_take (i := 8) (oi := { dst := some 43, op := .extract (.tmp 35) 1, type := _, pos := _, after := _, guard := _ }) (v := ?_) rfl (by kernel_rfl) (by kernel_rfl) (by kernel_rfl) (fun _ _ _ h => h) (Or.inl ⟨by rfl, ?_⟩) hH ?_
          rotate_left
          · intro w hSw
            clear hSw
            go_simp
            try with_reducible rfl
          simp only [Act.put, List.setIfInBounds_toArray, List.set_cons_zero, List.set_cons_succ]
          refine wpAnyH_ready (rs := [11]) (by kernel_rfl) (by simp) ?_
          refine AllReadyH.cons (o := { dst := none, op := .store _ (.tmp 11) (.tmp 42), type := _, pos := _, after := _, guard := _ }) rfl (fun K hK => ?_) AllReadyH.nil
          rw [if_pos (by rfl)]
          refine wp_store_mid _ _ _ rfl u1179q.heap.size _ u2.all.toArray rfl rfl (h1450q.out.thereOf u2) (HZ.out u2) (u2.all_all) ?_
          simp only [Act.put]
          have h1452q : Hid (Gd n w (u1446q.setCells u1179q.heap.size 0 u2.all)) := h1447q.out.asideAll (by omega) u2
          have h1453q : Hid (TAt (u1446q.setCells u1179q.heap.size 0 u2.all) u871q.heap.size u) := h1448q.out.asideAll (by omega) u2
          have h1454q : Hid (Bo (u1446q.setCells u1179q.heap.size 0 u2.all) b_a [.int .i64 (1), .int .i64 (0)]) := h1449q.out.asideAll (by omega) u2
          have h1455q : Hid (TAt (u1446q.setCells u1179q.heap.size 0 u2.all) u1179q.heap.size u2) := h1450q.out.setAll u2
          have h1456q : Hid (Bo (u1446q.setCells u1179q.heap.size 0 u2.all) u1378q.heap.size [.int .i64 0, .int .i64 0]) := h1451q.out.asideAll (by omega) u2
          clear h1447q h1448q h1449q h1450q h1451q
          refine hK.out _ _ h1453q.out (fun hH => ?_)
          clear hK K
          generalize (u1446q.setCells u1179q.heap.size 0 u2.all) = u1457q at h1452q h1453q h1454q h1455q h1456q hH ⊢
          try simp only [Act.put, List.setIfInBounds_toArray, List.set_cons_zero, List.set_cons_succ]
          refine wpAnyH_ready (rs := [12]) (by kernel_rfl) (by simp) ?_
          refine AllReadyH.cons (o := { dst := none, op := .store _ (.tmp 12) (.tmp 43), type := _, pos := _, after := _, guard := _ }) rfl (fun K hK => ?_) AllReadyH.nil
          rw [if_pos (by rfl)]
          refine wp_store_mid _ _ _ rfl u1378q.heap.size _ #[.int .i64 (1), .int .i64 (0)] rfl rfl h1456q.out.there2 HA.out (two_one _ _) ?_
          simp only [Act.put]
          have h1458q : Hid (Gd n w (u1457q.setCells u1378q.heap.size 0 [.int .i64 (1), .int .i64 (0)])) := h1452q.out.asideL (by omega) 0 [.int .i64 (1), .int .i64 (0)]
          have h1459q : Hid (TAt (u1457q.setCells u1378q.heap.size 0 [.int .i64 (1), .int .i64 (0)]) u871q.heap.size u) := h1453q.out.asideL (by omega) 0 [.int .i64 (1), .int .i64 (0)]
          have h1460q : Hid (Bo (u1457q.setCells u1378q.heap.size 0 [.int .i64 (1), .int .i64 (0)]) b_a [.int .i64 (1), .int .i64 (0)]) := h1454q.out.asideL (by omega) 0 [.int .i64 (1), .int .i64 (0)]
          have h1461q : Hid (TAt (u1457q.setCells u1378q.heap.size 0 [.int .i64 (1), .int .i64 (0)]) u1179q.heap.size u2) := h1455q.out.asideL (by omega) 0 [.int .i64 (1), .int .i64 (0)]
          have h1462q : Hid (Bo (u1457q.setCells u1378q.heap.size 0 [.int .i64 (1), .int .i64 (0)]) u1378q.heap.size [.int .i64 (1), .int .i64 (0)]) := h1456q.out.set2 (.int .i64 (1)) (.int .i64 (0))
          clear h1452q h1453q h1454q h1455q h1456q
          refine hK.out _ _ h1459q.out (fun hH => ?_)
          clear hK K
          generalize (u1457q.setCells u1378q.heap.size 0 [.int .i64 (1), .int .i64 (0)]) = u1463q at h1458q h1459q h1460q h1461q h1462q hH ⊢
          try simp only [Act.put, List.setIfInBounds_toArray, List.set_cons_zero, List.set_cons_succ]
          refine wpAnyH_done (by kernel_rfl) ?_ _
          go_wp2_with fail
          go_meet
          case rel => exact ⟨u1179q.heap.size, u1378q.heap.size, rfl, rfl, h1458q, h1459q, h1460q, h1461q, h1462q⟩
        refine AllReadyH.cons (o := { dst := some 12, op := .alloc _, type := _, pos := _, after := _, guard := _ }) rfl (fun K hK => ?_) AllReadyH.nil
        have l1464q : n ≤ u1179q.heap.size := h1176q.out.le
        have l1465q : u871q.heap.size < u1179q.heap.size := h1177q.out.lt
        have l1466q : b_a < u1179q.heap.size := h1178q.out.lt
        go_simp
        have h1467q : Hid (Gd n w (u1179q.alloc (.cells #[.int .i64 0, .int .i64 0] 31))) := h1176q.out.new (.cells #[.int .i64 0, .int .i64 0] 31)
        have h1468q : Hid (TAt (u1179q.alloc (.cells #[.int .i64 0, .int .i64 0] 31)) u871q.heap.size u) := h1177q.out.new (.cells #[.int .i64 0, .int .i64 0] 31)
        have h1469q : Hid (Bo (u1179q.alloc (.cells #[.int .i64 0, .int .i64 0] 31)) b_a [.int .i64 (1), .int .i64 (0)]) := h1178q.out.new (.cells #[.int .i64 0, .int .i64 0] 31)
        clear h1176q h1177q h1178q
        have h1470q : Hid (Bo (u1179q.alloc (.cells #[.int .i64 0, .int .i64 0] 31)) u1179q.heap.size [.int .i64 0, .int .i64 0]) := Bo.born u1179q [.int .i64 0, .int .i64 0] 31 (by simp)
        refine hK.out _ _ h1468q.out (fun hH => ?_)
        clear hK K
        generalize (u1179q.alloc (.cells #[.int .i64 0, .int .i64 0] 31)) = u1471q at h1467q h1468q h1469q h1470q hH ⊢
        try simp only [Act.put, List.setIfInBounds_toArray, List.set_cons_zero, List.set_cons_succ]
        refine wpAnyH_ready (rs := [3, 9]) (by kernel_rfl) (by simp) ?_
        refine AllReadyH.cons (o := { dst := some 39, op := _, type := _, pos := _, after := _, guard := _ }) rfl (fun K hK => ?_) ?_
        · go_simp
          refine (Pr3.out _).mono ?_
          rintro e u1472q ⟨rfl, hw⟩
          rw [hw]; clear hw u1472q
          go_wp2_with fail
          refine hK.out _ _ h1468q.out (fun hH => ?_)
          clear hK K
          try simp only [Act.put, List.setIfInBounds_toArray, List.set_cons_zero, List.set_cons_succ]
          refine wpAnyH_take (i := 4) (oi := { dst := some 40, op := .build _ #[(0, .const (.int .i64 1)), (1, .tmp 37), (2, .tmp 39)], type := _, pos := _, after := _, guard := _ }) (v := ?_) rfl (by kernel_rfl) (by kernel_rfl) (by kernel_rfl) (fun _ _ _ h => h) (Or.inl ⟨by rfl, ?_⟩) hH ?_
          rotate_left
          · intro w hSw
            clear hSw
            go_simp
            try with_reducible rfl
          simp only [Act.put, List.setIfInBounds_toArray, List.set_cons_zero, List.set_cons_succ]
          refine wpAnyH_ready (rs := [5, 9]) (by kernel_rfl) (by simp) ?_
          refine AllReadyH.cons (o := { dst := some 41, op := _, type := _, pos := _, after := _, guard := _ }) rfl (fun K hK => ?_) ?_
          · go_simp
            refine (DO2 _).mono ?_
            rintro e u1473q ⟨rfl, hb⟩
            have h1474q : Hid (Gd n w u1473q) := h1467q.out.later hb
            have h1475q : Hid (TAt u1473q u871q.heap.size u) := h1468q.out.later hb
            have h1476q : Hid (Bo u1473q b_a [.int .i64 (1), .int .i64 (0)]) := h1469q.out.later hb
            have h1477q : Hid (Bo u1473q u1179q.heap.size [.int .i64 0, .int .i64 0]) := h1470q.out.later hb
            clear h1467q h1468q h1469q h1470q
            clear hb
            go_wp2_with fail
            refine hK.out _ _ h1475q.out (fun hH => ?_)
            clear hK K
            try simp only [Act.put, List.setIfInBounds_toArray, List.set_cons_zero, List.set_cons_succ]
            refine wpAnyH_take (i := 6) (oi := { dst := some 35, op := .move (.tmp 41), type := _, pos := _, after := _, guard := _ }) (v := ?_) rfl (by kernel_rfl) (by kernel_rfl) (by kernel_rfl) (fun _ _ _ h => h) (Or.inl ⟨by rfl, ?_⟩) hH ?_
            rotate_left
            · intro w hSw
              clear hSw
              go_simp
              try with_reducible rfl
            simp only [Act.put, List.setIfInBounds_toArray, List.set_cons_zero, List.set_cons_succ]
            refine wpAnyH_take (i := 7) (oi := { dst := some 42, op := .extract (.tmp 35) 0, type := _, pos := _, after := _, guard := _ }) (v := ?_) rfl (by kernel_rfl) (by kernel_rfl) (by kernel_rfl) (fun _ _ _ h => h) (Or.inl ⟨by rfl, ?_⟩) hH ?_
            rotate_left
            · intro w hSw
              clear hSw
              go_simp
              try with_reducible rfl
            simp only [Act.put, List.setIfInBounds_toArray, List.set_cons_zero, List.set_cons_succ]
            refine wpAnyH_take (i := 8) (oi := { dst := some 43, op := .extract (.tmp 35) 1, type := _, pos := _, after := _, guard := _ }) (v := ?_) rfl (by kernel_rfl) (by kernel_rfl) (by kernel_rfl) (fun _ _ _ h => h) (Or.inl ⟨by rfl, ?_⟩) hH ?_
            rotate_left
            · intro w hSw
              clear hSw
              go_simp
              try with_reducible rfl
            simp only [Act.put, List.setIfInBounds_toArray, List.set_cons_zero, List.set_cons_succ]
            refine wpAnyH_ready (rs := [9]) (by kernel_rfl) (by simp) ?_
            refine AllReadyH.cons (o := { dst := some 11, op := .alloc _, type := _, pos := _, after := _, guard := _ }) rfl (fun K hK => ?_) AllReadyH.nil
            have l1478q : n ≤ u1473q.heap.size := h1474q.out.le
            have l1479q : u871q.heap.size < u1473q.heap.size := h1475q.out.lt
            have l1480q : b_a < u1473q.heap.size := h1476q.out.lt
            have l1481q : u1179q.heap.size < u1473q.heap.size := h1477q.out.lt
            go_simp
            have h1482q : Hid (Gd n w (u1473q.alloc (.cells #[.int .i64 0, .int .i64 0, .int .i64 0, .int .i64 0, .int .i64 0, .int .i64 0, .int .i64 0, .int .i64 0, .int .i64 0, .int .i64 0, .int .i64 0, .int .i64 0, .int .i64 0, .int .i64 0, .int .i64 0, .int .i64 0] 27))) := h1474q.out.new (.cells #[.int .i64 0, .int .i64 0, .int .i64 0, .int .i64 0, .int .i64 0, .int .i64 0, .int .i64 0, .int .i64 0, .int .i64 0, .int .i64 0, .int .i64 0, .int .i64 0, .int .i64 0, .int .i64 0, .int .i64 0, .int .i64 0] 27)
            have h1483q : Hid (TAt (u1473q.alloc (.cells #[.int .i64 0, .int .i64 0, .int .i64 0, .int .i64 0, .int .i64 0, .int .i64 0, .int .i64 0, .int .i64 0, .int .i64 0, .int .i64 0, .int .i64 0, .int .i64 0, .int .i64 0, .int .i64 0, .int .i64 0, .int .i64 0] 27)) u871q.heap.size u) := h1475q.out.new (.cells #[.int .i64 0, .int .i64 0, .int .i64 0, .int .i64 0, .int .i64 0, .int .i64 0, .int .i64 0, .int .i64 0, .int .i64 0, .int .i64 0, .int .i64 0, .int .i64 0, .int .i64 0, .int .i64 0, .int .i64 0, .int .i64 0] 27)
            have h1484q : Hid (Bo (u1473q.alloc (.cells #[.int .i64 0, .int .i64 0, .int .i64 0, .int .i64 0, .int .i64 0, .int .i64 0, .int .i64 0, .int .i64 0, .int .i64 0, .int .i64 0, .int .i64 0, .int .i64 0, .int .i64 0, .int .i64 0, .int .i64 0, .int .i64 0] 27)) b_a [.int .i64 (1), .int .i64 (0)]) := h1476q.out.new (.cells #[.int .i64 0, .int .i64 0, .int .i64 0, .int .i64 0, .int .i64 0, .int .i64 0, .int .i64 0, .int .i64 0, .int .i64 0, .int .i64 0, .int .i64 0, .int .i64 0, .int .i64 0, .int .i64 0, .int .i64 0, .int .i64 0] 27)
            have h1485q : Hid (Bo (u1473q.alloc (.cells #[.int .i64 0, .int .i64 0, .int .i64 0, .int .i64 0, .int .i64 0, .int .i64 0, .int .i64 0, .int .i64 0, .int .i64 0, .int .i64 0, .int .i64 0, .int .i64 0, .int .i64 0, .int .i64 0, .int .i64 0, .int .i64 0] 27)) u1179q.heap.size [.int .i64 0, .int .i64 0]) := h1477q.out.new (.cells #[.int .i64 0, .int .i64 0, .int .i64 0, .int .i64 0, .int .i64 0, .int .i64 0, .int .i64 0, .int .i64 0, .int .i64 0, .int .i64 0, .int .i64 0, .int .i64 0, .int .i64 0, .int .i64 0, .int .i64 0, .int .i64 0] 27)
            clear h1474q h1475q h1476q h1477q
            have h1486q : Hid (TAt (u1473q.alloc (.cells #[.int .i64 0, .int .i64 0, .int .i64 0, .int .i64 0, .int .i64 0, .int .i64 0, .int .i64 0, .int .i64 0, .int .i64 0, .int .i64 0, .int .i64 0, .int .i64 0, .int .i64 0, .int .i64 0, .int .i64 0, .int .i64 0] 27)) u1473q.heap.size Tb.zero) := TAt.bornZero u1473q 27 (by simp)
            refine hK.out _ _ h1483q.out (fun hH => ?_)
            clear hK K
            generalize (u1473q.alloc (.cells #[.int .i64 0, .int .i64 0, .int .i64 0, .int .i64 0, .int .i64 0, .int .i64 0, .int .i64 0, .int .i64 0, .int .i64 0, .int .i64 0, .int .i64 0, .int .i64 0, .int .i64 0, .int .i64 0, .int .i64 0, .int .i64 0] 27)) = u1487q at h1482q h1483q h1484q h1485q h1486q hH ⊢
            try simp only [Act.put, List.setIfInBounds_toArray, List.set_cons_zero, List.set_cons_succ]
            refine wpAnyH_ready (rs := [11]) (by kernel_rfl) (by simp) ?_
            refine AllReadyH.cons (o := { dst := none, op := .store _ (.tmp 11) (.tmp 42), type := _, pos := _, after := _, guard := _ }) rfl (fun K hK => ?_) AllReadyH.nil
            rw [if_pos (by rfl)]
            refine wp_store_mid _ _ _ rfl u1473q.heap.size _ u2.all.toArray rfl rfl (h1486q.out.thereOf u2) (HZ.out u2) (u2.all_all) ?_
            simp only [Act.put]
            have h1488q : Hid (Gd n w (u1487q.setCells u1473q.heap.size 0 u2.all)) := h1482q.out.asideAll (by omega) u2
            have h1489q : Hid (TAt (u1487q.setCells u1473q.heap.size 0 u2.all) u871q.heap.size u) := h1483q.out.asideAll (by omega) u2
            have h1490q : Hid (Bo (u1487q.setCells u1473q.heap.size 0 u2.all) b_a [.int .i64 (1), .int .i64 (0)]) := h1484q.out.asideAll (by omega) u2
            have h1491q : Hid (Bo (u1487q.setCells u1473q.heap.size 0 u2.all) u1179q.heap.size [.int .i64 0, .int .i64 0]) := h1485q.out.asideAll (by omega) u2
            have h1492q : Hid (TAt (u1487q.setCells u1473q.heap.size 0 u2.all) u1473q.heap.size u2) := h1486q.out.setAll u2
            clear h1482q h1483q h1484q h1485q h1486q
            refine hK.out _ _ h1489q.out (fun hH => ?_)
            clear hK K
            generalize (u1487q.setCells u1473q.heap.size 0 u2.all) = u1493q at h1488q h1489q h1490q h1491q h1492q hH ⊢
            try simp only [Act.put, List.setIfInBounds_toArray, List.set_cons_zero, List.set_cons_succ]
            refine wpAnyH_ready (rs := [12]) (by kernel_rfl) (by simp) ?_
            refine AllReadyH.cons (o := { dst := none, op := .store _ (.tmp 12) (.tmp 43), type := _, pos := _, after := _, guard := _ }) rfl (fun K hK => ?_) AllReadyH.nil
            rw [if_pos (by rfl)]
            refine wp_store_mid _ _ _ rfl u1179q.heap.size _ #[.int .i64 (1), .int .i64 (0)] rfl rfl h1491q.out.there2 HA.out (two_one _ _) ?_
            simp only [Act.put]
            have h1494q : Hid (Gd n w (u1493q.setCells u1179q.heap.size 0 [.int .i64 (1), .int .i64 (0)])) := h1488q.out.asideL (by omega) 0 [.int .i64 (1), .int .i64 (0)]
            have h1495q : Hid (TAt (u1493q.setCells u1179q.heap.size 0 [.int .i64 (1), .int .i64 (0)]) u871q.heap.size u) := h1489q.out.asideL (by omega) 0 [.int .i64 (1), .int .i64 (0)]
            have h1496q : Hid (Bo (u1493q.setCells u1179q.heap.size 0 [.int .i64 (1), .int .i64 (0)]) b_a [.int .i64 (1), .int .i64 (0)]) := h1490q.out.asideL (by omega) 0 [.int .i64 (1), .int .i64 (0)]
            have h1497q : Hid (Bo (u1493q.setCells u1179q.heap.size 0 [.int .i64 (1), .int .i64 (0)]) u1179q.heap.size [.int .i64 (1), .int .i64 (0)]) := h1491q.out.set2 (.int .i64 (1)) (.int .i64 (0))
            have h1498q : Hid (TAt (u1493q.setCells u1179q.heap.size 0 [.int .i64 (1), .int .i64 (0)]) u1473q.heap.size u2) := h1492q.out.asideL (by omega) 0 [.int .i64 (1), .int .i64 (0)]
            clear h1488q h1489q h1490q h1491q h1492q
            refine hK.out _ _ h1495q.out (fun hH => ?_)
            clear hK K
            generalize (u1493q.setCells u1179q.heap.size 0 [.int .i64 (1), .int .i64 (0)]) = u1499q at h1494q h1495q h1496q h1497q h1498q hH ⊢
            try simp only [Act.put, List.setIfInBounds_toArray, List.set_cons_zero, List.set_cons_succ]
            refine wpAnyH_done (by kernel_rfl) ?_ _
            go_wp2_with fail
            go_meet
            case rel => exact ⟨u1473q.heap.size, u1179q.heap.size, rfl, rfl, h1494q, h1495q, h1496q, h1498q, h1497q⟩
          refine AllReadyH.cons (o := { dst := some 11, op := .alloc _, type := _, pos := _, after := _, guard := _ }) rfl (fun K hK => ?_) AllReadyH.nil
          have l1500q : n ≤ u1471q.heap.size := h1467q.out.le
          have l1501q : u871q.heap.size < u1471q.heap.size := h1468q.out.lt
          have l1502q : b_a < u1471q.heap.size := h1469q.out.lt
          have l1503q : u1179q.heap.size < u1471q.heap.size := h1470q.out.lt
          go_simp
          have h1504q : Hid (Gd n w (u1471q.alloc (.cells #[.int .i64 0, .int .i64 0, .int .i64 0, .int .i64 0, .int .i64 0, .int .i64 0, .int .i64 0, .int .i64 0, .int .i64 0, .int .i64 0, .int .i64 0, .int .i64 0, .int .i64 0, .int .i64 0, .int .i64 0, .int .i64 0] 27))) := h1467q.out.new (.cells #[.int .i64 0, .int .i64 0, .int .i64 0, .int .i64 0, .int .i64 0, .int .i64 0, .int .i64 0, .int .i64 0, .int .i64 0, .int .i64 0, .int .i64 0, .int .i64 0, .int .i64 0, .int .i64 0, .int .i64 0, .int .i64 0] 27)
          have h1505q : Hid (TAt (u1471q.alloc (.cells #[.int .i64 0, .int .i64 0, .int .i64 0, .int .i64 0, .int .i64 0, .int .i64 0, .int .i64 0, .int .i64 0, .int .i64 0, .int .i64 0, .int .i64 0, .int .i64 0, .int .i64 0, .int .i64 0, .int .i64 0, .int .i64 0] 27)) u871q.heap.size u) := h1468q.out.new (.cells #[.int .i64 0, .int .i64 0, .int .i64 0, .int .i64 0, .int .i64 0, .int .i64 0, .int .i64 0, .int .i64 0, .int .i64 0, .int .i64 0, .int .i64 0, .int .i64 0, .int .i64 0, .int .i64 0, .int .i64 0, .int .i64 0] 27)
          have h1506q : Hid (Bo (u1471q.alloc (.cells #[.int .i64 0, .int .i64 0, .int .i64 0, .int .i64 0, .int .i64 0, .int .i64 0, .int .i64 0, .int .i64 0, .int .i64 0, .int .i64 0, .int .i64 0, .int .i64 0, .int .i64 0, .int .i64 0, .int .i64 0, .int .i64 0] 27)) b_a [.int .i64 (1), .int .i64 (0)]) := h1469q.out.new (.cells #[.int .i64 0, .int .i64 0, .int .i64 0, .int .i64 0, .int .i64 0, .int .i64 0, .int .i64 0, .int .i64 0, .int .i64 0, .int .i64 0, .int .i64 0, .int .i64 0, .int .i64 0, .int .i64 0, .int .i64 0, .int .i64 0] 27)
          have h1507q : Hid (Bo (u1471q.alloc (.cells #[.int .i64 0, .int .i64 0, .int .i64 0, .int .i64 0, .int .i64 0, .int .i64 0, .int .i64 0, .int .i64 0, .int .i64 0, .int .i64 0, .int .i64 0, .int .i64 0, .int .i64 0, .int .i64 0, .int .i64 0, .int .i64 0] 27)) u1179q.heap.size [.int .i64 0, .int .i64 0]) := h1470q.out.new (.cells #[.int .i64 0, .int .i64 0, .int .i64 0, .int .i64 0, .int .i64 0, .int .i64 0, .int .i64 0, .int .i64 0, .int .i64 0, .int .i64 0, .int .i64 0, .int .i64 0, .int .i64 0, .int .i64 0, .int .i64 0, .int .i64 0] 27)
          clear h1467q h1468q h1469q h1470q
          have h1508q : Hid (TAt (u1471q.alloc (.cells #[.int .i64 0, .int .i64 0, .int .i64 0, .int .i64 0, .int .i64 0, .int .i64 0, .int .i64 0, .int .i64 0, .int .i64 0, .int .i64 0, .int .i64 0, .int .i64 0, .int .i64 0, .int .i64 0, .int .i64 0, .int .i64 0] 27)) u1471q.heap.size Tb.zero) := TAt.bornZero u1471q 27 (by simp)
          refine hK.out _ _ h1505q.out (fun hH => ?_)
          clear hK K
          generalize (u1471q.alloc (.cells #[.int .i64 0, .int .i64 0, .int .i64 0, .int .i64 0, .int .i64 0, .int .i64 0, .int .i64 0, .int .i64 0, .int .i64 0, .int .i64 0, .int .i64 0, .int .i64 0, .int .i64 0, .int .i64 0, .int .i64 0, .int .i64 0] 27)) = u1509q at h1504q h1505q h1506q h1507q h1508q hH ⊢
          try simp only [Act.put, List.setIfInBounds_toArray, List.set_cons_zero, List.set_cons_succ]
          refine wpAnyH_ready (rs := [5]) (by kernel_rfl) (by simp) ?_
          refine AllReadyH.cons (o := { dst := some 41, op := _, type := _, pos := _, after := _, guard := _ }) rfl (fun K hK => ?_) AllReadyH.nil
          go_simp
          refine (DO2 _).mono ?_
          rintro e u1510q ⟨rfl, hb⟩
          have h1511q : Hid (Gd n w u1510q) := h1504q.out.later hb
          have h1512q : Hid (TAt u1510q u871q.heap.size u) := h1505q.out.later hb
          have h1513q : Hid (Bo u1510q b_a [.int .i64 (1), .int .i64 (0)]) := h1506q.out.later hb
          have h1514q : Hid (Bo u1510q u1179q.heap.size [.int .i64 0, .int .i64 0]) := h1507q.out.later hb
          have h1515q : Hid (TAt u1510q u1471q.heap.size Tb.zero) := h1508q.out.later hb
          clear h1504q h1505q h1506q h1507q h1508q
          clear hb
          go_wp2_with fail
          refine hK.out _ _ h1512q.out (fun hH => ?_)
          clear hK K
          try simp only [Act.put, List.setIfInBounds_toArray, List.set_cons_zero, List.set_cons_succ]
          refine wpAnyH_take (i := 6) (oi := { dst := some 35, op := .move (.tmp 41), type := _, pos := _, after := _, guard := _ }) (v := ?_) rfl (by kernel_rfl) (by kernel_rfl) (by kernel_rfl) (fun _ _ _ h => h) (Or.inl ⟨by rfl, ?_⟩) hH ?_
          rotate_left
          · intro w hSw
            clear hSw
            go_simp
            try with_reducible rfl
          simp only [Act.put, List.setIfInBounds_toArray, List.set_cons_zero, List.set_cons_succ]
          refine wpAnyH_take (i := 7) (oi := { dst := some 42, op := .extract (.tmp 35) 0, type := _, pos := _, after := _, guard := _ }) (v := ?_) rfl (by kernel_rfl) (by kernel_rfl) (by kernel_rfl) (fun _ _ _ h => h) (Or.inl ⟨by rfl, ?_⟩) hH ?_
          rotate_left
          · intro w hSw
            clear hSw
            go_simp
            try with_reducible rfl
          simp only [Act.put, List.setIfInBounds_toArray, List.set_cons_zero, List.set_cons_succ]
          refine wpAnyH_take (i := 8) (oi := { dst := some 43, op := .extract (.tmp 35) 1, type := _, pos := _, after := _, guard := _ }) (v := ?_) rfl (by kernel_rfl) (by kernel_rfl) (by kernel_rfl) (fun _ _ _ h => h) (Or.inl ⟨by rfl, ?_⟩) hH ?_
          rotate_left
          · intro w hSw
            clear hSw
            go_simp
            try with_reducible rfl
          simp only [Act.put, List.setIfInBounds_toArray, List.set_cons_zero, List.set_cons_succ]
          refine wpAnyH_ready (rs := [11]) (by kernel_rfl) (by simp) ?_
          refine AllReadyH.cons (o := { dst := none, op := .store _ (.tmp 11) (.tmp 42), type := _, pos := _, after := _, guard := _ }) rfl (fun K hK => ?_) AllReadyH.nil
          rw [if_pos (by rfl)]
          refine wp_store_mid _ _ _ rfl u1471q.heap.size _ u2.all.toArray rfl rfl (h1515q.out.thereOf u2) (HZ.out u2) (u2.all_all) ?_
          simp only [Act.put]
          have h1516q : Hid (Gd n w (u1510q.setCells u1471q.heap.size 0 u2.all)) := h1511q.out.asideAll (by omega) u2
          have h1517q : Hid (TAt (u1510q.setCells u1471q.heap.size 0 u2.all) u871q.heap.size u) := h1512q.out.asideAll (by omega) u2
          have h1518q : Hid (Bo (u1510q.setCells u1471q.heap.size 0 u2.all) b_a [.int .i64 (1), .int .i64 (0)]) := h1513q.out.asideAll (by omega) u2
          have h1519q : Hid (Bo (u1510q.setCells u1471q.heap.size 0 u2.all) u1179q.heap.size [.int .i64 0, .int .i64 0]) := h1514q.out.asideAll (by omega) u2
          have h1520q : Hid (TAt (u1510q.setCells u1471q.heap.size 0 u2.all) u1471q.heap.size u2) := h1515q.out.setAll u2
          clear h1511q h1512q h1513q h1514q h1515q
          refine hK.out _ _ h1517q.out (fun hH => ?_)
          clear hK K
          generalize (u1510q.setCells u1471q.heap.size 0 u2.all) = u1521q at h1516q h1517q h1518q h1519q h1520q hH ⊢
          try simp only [Act.put, List.setIfInBounds_toArray, List.set_cons_zero, List.set_cons_succ]
          refine wpAnyH_ready (rs := [12]) (by kernel_rfl) (by simp) ?_
          refine AllReadyH.cons (o := { dst := none, op := .store _ (.tmp 12) (.tmp 43), type := _, pos := _, after := _, guard := _ }) rfl (fun K hK => ?_) AllReadyH.nil
          rw [if_pos (by rfl)]
          refine wp_store_mid _ _ _ rfl u1179q.heap.size _ #[.int .i64 (1), .int .i64 (0)] rfl rfl h1519q.out.there2 HA.out (two_one _ _) ?_
          simp only [Act.put]
          have h1522q : Hid (Gd n w (u1521q.setCells u1179q.heap.size 0 [.int .i64 (1), .int .i64 (0)])) := h1516q.out.asideL (by omega) 0 [.int .i64 (1), .int .i64 (0)]
          have h1523q : Hid (TAt (u1521q.setCells u1179q.heap.size 0 [.int .i64 (1), .int .i64 (0)]) u871q.heap.size u) := h1517q.out.asideL (by omega) 0 [.int .i64 (1), .int .i64 (0)]
          have h1524q : Hid (Bo (u1521q.setCells u1179q.heap.size 0 [.int .i64 (1), .int .i64 (0)]) b_a [.int .i64 (1), .int .i64 (0)]) := h1518q.out.asideL (by omega) 0 [.int .i64 (1), .int .i64 (0)]
          have h1525q : Hid (Bo (u1521q.setCells u1179q.heap.size 0 [.int .i64 (1), .int .i64 (0)]) u1179q.heap.size [.int .i64 (1), .int .i64 (0)]) := h1519q.out.set2 (.int .i64 (1)) (.int .i64 (0))
          have h1526q : Hid (TAt (u1521q.setCells u1179q.heap.size 0 [.int .i64 (1), .int .i64 (0)]) u1471q.heap.size u2) := h1520q.out.asideL (by omega) 0 [.int .i64 (1), .int .i64 (0)]
          clear h1516q h1517q h1518q h1519q h1520q
          refine hK.out _ _ h1523q.out (fun hH => ?_)
          clear hK K
          generalize (u1521q.setCells u1179q.heap.size 0 [.int .i64 (1), .int .i64 (0)]) = u1527q at h1522q h1523q h1524q h1525q h1526q hH ⊢
          try simp only [Act.put, List.setIfInBounds_toArray, List.set_cons_zero, List.set_cons_succ]
          refine wpAnyH_done (by kernel_rfl) ?_ _
          go_wp2_with fail
          go_meet
          case rel => exact ⟨u1471q.heap.size, u1179q.heap.size, rfl, rfl, h1522q, h1523q, h1524q, h1526q, h1525q⟩
        refine AllReadyH.cons (o := { dst := some 11, op := .alloc _, type := _, pos := _, after := _, guard := _ }) rfl (fun K hK => ?_) AllReadyH.nil
        have l1528q : n ≤ u1471q.heap.size := h1467q.out.le
        have l1529q : u871q.heap.size < u1471q.heap.size := h1468q.out.lt
        have l1530q : b_a < u1471q.heap.size := h1469q.out.lt
        have l1531q : u1179q.heap.size < u1471q.heap.size := h1470q.out.lt
        go_simp
        have h1532q : Hid (Gd n w (u1471q.alloc (.cells #[.int .i64 0, .int .i64 0, .int .i64 0, .int .i64 0, .int .i64 0, .int .i64 0, .int .i64 0, .int .i64 0, .int .i64 0, .int .i64 0, .int .i64 0, .int .i64 0, .int .i64 0, .int .i64 0, .int .i64 0, .int .i64 0] 27))) := h1467q.out.new (.cells #[.int .i64 0, .int .i64 0, .int .i64 0, .int .i64 0, .int .i64 0, .int .i64 0, .int .i64 0, .int .i64 0, .int .i64 0, .int .i64 0, .int .i64 0, .int .i64 0, .int .i64 0, .int .i64 0, .int .i64 0, .int .i64 0] 27)
        have h1533q : Hid (TAt (u1471q.alloc (.cells #[.int .i64 0, .int .i64 0, .int .i64 0, .int .i64 0, .int .i64 0, .int .i64 0, .int .i64 0, .int .i64 0, .int .i64 0, .int .i64 0, .int .i64 0, .int .i64 0, .int .i64 0, .int .i64 0, .int .i64 0, .int .i64 0] 27)) u871q.heap.size u) := h1468q.out.new (.cells #[.int .i64 0, .int .i64 0, .int .i64 0, .int .i64 0, .int .i64 0, .int .i64 0, .int .i64 0, .int .i64 0, .int .i64 0, .int .i64 0, .int .i64 0, .int .i64 0, .int .i64 0, .int .i64 0, .int .i64 0, .int .i64 0] 27)
        have h1534q : Hid (Bo (u1471q.alloc (.cells #[.int .i64 0, .int .i64 0, .int .i64 0, .int .i64 0, .int .i64 0, .int .i64 0, .int .i64 0, .int .i64 0, .int .i64 0, .int .i64 0, .int .i64 0, .int .i64 0, .int .i64 0, .int .i64 0, .int .i64 0, .int .i64 0] 27)) b_a [.int .i64 (1), .int .i64 (0)]) := h1469q.out.new (.cells #[.int .i64 0, .int .i64 0, .int .i64 0, .int .i64 0, .int .i64 0, .int .i64 0, .int .i64 0, .int .i64 0, .int .i64 0, .int .i64 0, .int .i64 0, .int .i64 0, .int .i64 0, .int .i64 0, .int .i64 0, .int .i64 0] 27)
        have h1535q : Hid (Bo (u1471q.alloc (.cells #[.int .i64 0, .int .i64 0, .int .i64 0, .int .i64 0, .int .i64 0, .int .i64 0, .int .i64 0, .int .i64 0, .int .i64 0, .int .i64 0, .int .i64 0, .int .i64 0, .int .i64 0, .int .i64 0, .int .i64 0, .int .i64 0] 27)) u1179q.heap.size [.int .i64 0, .int .i64 0]) := h1470q.out.new (.cells #[.int .i64 0, .int .i64 0, .int .i64 0, .int .i64 0, .int .i64 0, .int .i64 0, .int .i64 0, .int .i64 0, .int .i64 0, .int .i64 0, .int .i64 0, .int .i64 0, .int .i64 0, .int .i64 0, .int .i64 0, .int .i64 0] 27)
        clear h1467q h1468q h1469q h1470q
        have h1536q : Hid (TAt (u1471q.alloc (.cells #[.int .i64 0, .int .i64 0, .int .i64 0, .int .i64 0, .int .i64 0, .int .i64 0, .int .i64 0, .int .i64 0, .int .i64 0, .int .i64 0, .int .i64 0, .int .i64 0, .int .i64 0, .int .i64 0, .int .i64 0, .int .i64 0] 27)) u1471q.heap.size Tb.zero) := TAt.bornZero u1471q 27 (by simp)
        refine hK.out _ _ h1533q.out (fun hH => ?_)
        clear hK K
        generalize (u1471q.alloc (.cells #[.int .i64 0, .int .i64 0, .int .i64 0, .int .i64 0, .int .i64 0, .int .i64 0, .int .i64 0, .int .i64 0, .int .i64 0, .int .i64 0, .int .i64 0, .int .i64 0, .int .i64 0, .int .i64 0, .int .i64 0, .int .i64 0] 27)) = u1537q at h1532q h1533q h1534q h1535q h1536q hH ⊢
        try simp only [Act.put, List.setIfInBounds_toArray, List.set_cons_zero, List.set_cons_succ]
        refine wpAnyH_ready (rs := [3]) (by kernel_rfl) (by simp) ?_
        refine AllReadyH.cons (o := { dst := some 39, op := _, type := _, pos := _, after := _, guard := _ }) rfl (fun K hK => ?_) AllReadyH.nil
        go_simp
        refine (Pr3.out _).mono ?_
        rintro e u1538q ⟨rfl, hw⟩
        rw [hw]; clear hw u1538q
        go_wp2_with fail
        refine hK.out _ _ h1533q.out (fun hH => ?_)
        clear hK K
        try simp only [Act.put, List.setIfInBounds_toArray, List.set_cons_zero, List.set_cons_succ]
        refine wpAnyH_take (i := 4) (oi := { dst := some 40, op := .build _ #[(0, .const (.int .i64 1)), (1, .tmp 37), (2, .tmp 39)], type := _, pos := _, after := _, guard := _ }) (v := ?_) rfl (by kernel_rfl) (by kernel_rfl) (by kernel_rfl) (fun _ _ _ h => h) (Or.inl ⟨by rfl, ?_⟩) hH ?_
        rotate_left
        · intro w hSw
          clear hSw
          go_simp
          try with_reducible rfl
        simp only [Act.put, List.setIfInBounds_toArray, List.set_cons_zero, List.set_cons_succ]
        refine wpAnyH_ready (rs := [5]) (by kernel_rfl) (by simp) ?_
        refine AllReadyH.cons (o := { dst := some 41, op := _, type := _, pos := _, after := _, guard := _ }) rfl (fun K hK => ?_) AllReadyH.nil
        go_simp
        refine (DO2 _).mono ?_
        rintro e u1539q ⟨rfl, hb⟩
        have h1540q : Hid (Gd n w u1539q) := h1532q.out.later hb
        have h1541q : Hid (TAt u1539q u871q.heap.size u) := h1533q.out.later hb
        have h1542q : Hid (Bo u1539q b_a [.int .i64 (1), .int .i64 (0)]) := h1534q.out.later hb
        have h1543q : Hid (Bo u1539q u1179q.heap.size [.int .i64 0, .int .i64 0]) := h1535q.out.later hb
        have h1544q : Hid (TAt u1539q u1471q.heap.size Tb.zero) := h1536q.out.later hb
        clear h1532q h1533q h1534q h1535q h1536q
        clear hb
        go_wp2_with fail
        refine hK.out _ _ h1541q.out (fun hH => ?_)
        clear hK K
        try simp only [Act.put, List.setIfInBounds_toArray, List.set_cons_zero, List.set_cons_succ]
        refine wpAnyH_take (i := 6) (oi := { dst := some 35, op := .move (.tmp 41), type := _, pos := _, after := _, guard := _ }) (v := ?_) rfl (by kernel_rfl) (by kernel_rfl) (by kernel_rfl) (fun _ _ _ h => h) (Or.inl ⟨by rfl, ?_⟩) hH ?_
        rotate_left
        · intro w hSw
          clear hSw
          go_simp
          try with_reducible rfl
        simp only [Act.put, List.setIfInBounds_toArray, List.set_cons_zero, List.set_cons_succ]
        refine wpAnyH_take (i := 7) (oi := { dst := some 42, op := .extract (.tmp 35) 0, type := _, pos := _, after := _, guard := _ }) (v := ?_) rfl (by kernel_rfl) (by kernel_rfl) (by kernel_rfl) (fun _ _ _ h => h) (Or.inl ⟨by rfl, ?_⟩) hH ?_
        rotate_left
        · intro w hSw
          clear hSw
          go_simp
          try with_reducible rfl
        simp only [Act.put, List.setIfInBounds_toArray, List.set_cons_zero, List.set_cons_succ]
        refine wpAnyH_take (i := 8) (oi := { dst := some 43, op := .extract (.tmp 35) 1, type := _, pos := _, after := _, guard := _ }) (v := ?_) rfl (by kernel_rfl) (by kernel_rfl) (by kernel_rfl) (fun _ _ _ h => h) (Or.inl ⟨by rfl, ?_⟩) hH ?_
        rotate_left
        · intro w hSw
          clear hSw
          go_simp
          try with_reducible rfl
        simp only [Act.put, List.setIfInBounds_toArray, List.set_cons_zero, List.set_cons_succ]
        refine wpAnyH_ready (rs := [11]) (by kernel_rfl) (by simp) ?_
        refine AllReadyH.cons (o := { dst := none, op := .store _ (.tmp 11) (.tmp 42), type := _, pos := _, after := _, guard := _ }) rfl (fun K hK => ?_) AllReadyH.nil
        rw [if_pos (by rfl)]
        refine wp_store_mid _ _ _ rfl u1471q.heap.size _ u2.all.toArray rfl rfl (h1544q.out.thereOf u2) (HZ.out u2) (u2.all_all) ?_
        simp only [Act.put]
        have h1545q : Hid (Gd n w (u1539q.setCells u1471q.heap.size 0 u2.all)) := h1540q.out.asideAll (by omega) u2
        have h1546q : Hid (TAt (u1539q.setCells u1471q.heap.size 0 u2.all) u871q.heap.size u) := h1541q.out.asideAll (by omega) u2
        have h1547q : Hid (Bo (u1539q.setCells u1471q.heap.size 0 u2.all) b_a [.int .i64 (1), .int .i64 (0)]) := h1542q.out.asideAll (by omega) u2
        have h1548q : Hid (Bo (u1539q.setCells u1471q.heap.size 0 u2.all) u1179q.heap.size [.int .i64 0, .int .i64 0]) := h1543q.out.asideAll (by omega) u2
        have h1549q : Hid (TAt (u1539q.setCells u1471q.heap.size 0 u2.all) u1471q.heap.size u2) := h1544q.out.setAll u2
        clear h1540q h1541q h1542q h1543q h1544q
        refine hK.out _ _ h1546q.out (fun hH => ?_)
        clear hK K
        generalize (u1539q.setCells u1471q.heap.size 0 u2.all) = u1550q at h1545q h1546q h1547q h1548q h1549q hH ⊢
        try simp only [Act.put, List.setIfInBounds_toArray, List.set_cons_zero, List.set_cons_succ]
        refine wpAnyH_ready (rs := [12]) (by kernel_rfl) (by simp) ?_
        refine AllReadyH.cons (o := { dst := none, op := .store _ (.tmp 12) (.tmp 43), type := _, pos := _, after := _, guard := _ }) rfl (fun K hK => ?_) AllReadyH.nil
        rw [if_pos (by rfl)]
        refine wp_store_mid _ _ _ rfl u1179q.heap.size _ #[.int .i64 (1), .int .i64 (0)] rfl rfl h1548q.out.there2 HA.out (two_one _ _) ?_
        simp only [Act.put]
        have h1551q : Hid (Gd n w (u1550q.setCells u1179q.heap.size 0 [.int .i64 (1), .int .i64 (0)])) := h1545q.out.asideL (by omega) 0 [.int .i64 (1), .int .i64 (0)]
        have h1552q : Hid (TAt (u1550q.setCells u1179q.heap.size 0 [.int .i64 (1), .int .i64 (0)]) u871q.heap.size u) := h1546q.out.asideL (by omega) 0 [.int .i64 (1), .int .i64 (0)]
        have h1553q : Hid (Bo (u1550q.setCells u1179q.heap.size 0 [.int .i64 (1), .int .i64 (0)]) b_a [.int .i64 (1), .int .i64 (0)]) := h1547q.out.asideL (by omega) 0 [.int .i64 (1), .int .i64 (0)]
        have h1554q : Hid (Bo (u1550q.setCells u1179q.heap.size 0 [.int .i64 (1), .int .i64 (0)]) u1179q.heap.size [.int .i64 (1), .int .i64 (0)]) := h1548q.out.set2 (.int .i64 (1)) (.int .i64 (0))
        have h1555q : Hid (TAt (u1550q.setCells u1179q.heap.size 0 [.int .i64 (1), .int .i64 (0)]) u1471q.heap.size u2) := h1549q.out.asideL (by omega) 0 [.int .i64 (1), .int .i64 (0)]
        clear h1545q h1546q h1547q h1548q h1549q
        refine hK.out _ _ h1552q.out (fun hH => ?_)
        clear hK K
        generalize (u1550q.setCells u1179q.heap.size 0 [.int .i64 (1), .int .i64 (0)]) = u1556q at h1551q h1552q h1553q h1554q h1555q hH ⊢
        try simp only [Act.put, List.setIfInBounds_toArray, List.set_cons_zero, List.set_cons_succ]
        refine wpAnyH_done (by kernel_rfl) ?_ _
        go_wp2_with fail
        go_meet
        case rel => exact ⟨u1471q.heap.size, u1179q.heap.size, rfl, rfl, h1551q, h1552q, h1553q, h1555q, h1554q⟩
      case rest =>
        obtain ⟨b_u, b_b, rfl, rfl, h1557q, h1558q, h1559q, h1560q, h1561q⟩ := hcut
        go_wp2_with fail
        have h1562q : Hid (Gd n w wc.drew) := h1557q.out.drew
        have h1563q : Hid (TAt wc.drew u871q.heap.size u) := h1558q.out.drew
        have h1564q : Hid (Bo wc.drew b_a [.int .i64 (1), .int .i64 (0)]) := h1559q.out.drew
        have h1565q : Hid (TAt wc.drew b_u u2) := h1560q.out.drew
        have h1566q : Hid (Bo wc.drew b_b [.int .i64 (1), .int .i64 (0)]) := h1561q.out.drew
        clear h1557q h1558q h1559q h1560q h1561q
        refine wp_region_held_drew (S := fun w' => Bo w' b_b [.int .i64 (1), .int .i64 (0)] ∧ Bo w' b_a [.int .i64 (1), .int .i64 (0)] ∧ TAt w' b_u u2 ∧ TAt w' u871q.heap.size u) (by kernel_rfl) ⟨h1566q.out, h1564q.out, h1565q.out, h1563q.out⟩ (fun hH => ?_)
        generalize wc.drew = u1567q at h1562q h1563q h1564q h1565q h1566q hH ⊢
        refine wpAnyH_take (i := 0) (oi := { dst := some 44, op := .load _ (.tmp 12), type := _, pos := _, after := _, guard := _ }) (v := ?_) rfl (by kernel_rfl) (by kernel_rfl) (by kernel_rfl) (fun _ _ _ h => h) (Or.inl ⟨by rfl, ?_⟩) hH ?_
        rotate_left
        · intro w hSw
          have c1568q := (hSw.1).at 0 rfl
          have c1569q := (hSw.1).at 1 rfl
          clear hSw
          go_simp
          try with_reducible rfl
        simp only [Act.put, List.setIfInBounds_toArray, List.set_cons_zero, List.set_cons_succ]
        refine wpAnyH_take (i := 1) (oi := { dst := some 45, op := .load _ (.tmp 10), type := _, pos := _, after := _, guard := _ }) (v := ?_) rfl (by kernel_rfl) (by kernel_rfl) (by kernel_rfl) (fun _ _ _ h => h) (Or.inl ⟨by rfl, ?_⟩) hH ?_
        rotate_left
        · intro w hSw
          have c1570q := (hSw.2.1).at 0 rfl
          have c1571q := (hSw.2.1).at 1 rfl
          clear hSw
          go_simp
          try with_reducible rfl
        simp only [Act.put, List.setIfInBounds_toArray, List.set_cons_zero, List.set_cons_succ]
        refine wpAnyH_take (i := 2) (oi := { dst := some 46, op := .binOp .eql _ (.tmp 44) (.tmp 45) _, type := _, pos := _, after := _, guard := _ }) (v := ?_) rfl (by kernel_rfl) (by kernel_rfl) (by kernel_rfl) (fun _ _ _ h => h) (Or.inl ⟨by rfl, ?_⟩) hH ?_
        rotate_left
        · intro w hSw
          clear hSw
          go_simp
          try with_reducible rfl
        simp only [Act.put, List.setIfInBounds_toArray, List.set_cons_zero, List.set_cons_succ]
        refine wpAnyH_take (i := 3) (oi := { dst := some 47, op := .move (.tmp 46), type := _, pos := _, after := _, guard := _ }) (v := ?_) rfl (by kernel_rfl) (by kernel_rfl) (by kernel_rfl) (fun _ _ _ h => h) (Or.inl ⟨by rfl, ?_⟩) hH ?_
        rotate_left
        · intro w hSw
          clear hSw
          go_simp
          try with_reducible rfl
        simp only [Act.put, List.setIfInBounds_toArray, List.set_cons_zero, List.set_cons_succ]
        refine wpAnyH_take (i := 4) (oi := { dst := some 48, op := .load _ (.tmp 11), type := _, pos := _, after := _, guard := _ }) (v := _) rfl (by kernel_rfl) (by kernel_rfl) (by kernel_rfl) (fun _ _ _ h => h) (yieldsIf_load_mid (by rfl) _ _ rfl b_u _ rfl u2.all _ (fun _ h => (h.2.2.1).range) HD.out rfl (HS.out u2)) hH ?_
        simp only [Act.put, List.setIfInBounds_toArray, List.set_cons_zero, List.set_cons_succ]
        refine wpAnyH_take (i := 6) (oi := { dst := some 50, op := .load _ (.tmp 9), type := _, pos := _, after := _, guard := _ }) (v := _) rfl (by kernel_rfl) (by kernel_rfl) (by kernel_rfl) (fun _ _ _ h => h) (yieldsIf_load_mid (by rfl) _ _ rfl u871q.heap.size _ rfl u.all _ (fun _ h => (h.2.2.2).range) HD.out rfl (HS.out u)) hH ?_
        simp only [Act.put, List.setIfInBounds_toArray, List.set_cons_zero, List.set_cons_succ]
        refine wpAnyH_ready (rs := [5]) (by kernel_rfl) (by simp) ?_
        refine AllReadyH.cons (o := { dst := some 49, op := _, type := _, pos := _, after := _, guard := _ }) rfl (fun K hK => ?_) AllReadyH.nil
        go_simp
        refine (L1 _).mono ?_
        rintro e u1572q ⟨rfl, hb⟩
        have h1573q : Hid (Gd n w u1572q) := h1562q.out.later hb
        have h1574q : Hid (TAt u1572q u871q.heap.size u) := h1563q.out.later hb
        have h1575q : Hid (Bo u1572q b_a [.int .i64 (1), .int .i64 (0)]) := h1564q.out.later hb
        have h1576q : Hid (TAt u1572q b_u u2) := h1565q.out.later hb
        have h1577q : Hid (Bo u1572q b_b [.int .i64 (1), .int .i64 (0)]) := h1566q.out.later hb
        clear h1562q h1563q h1564q h1565q h1566q
        clear hb
        go_wp2_with fail
        refine hK.out _ _ ⟨h1577q.out, h1575q.out, h1576q.out, h1574q.out⟩ (fun hH => ?_)
        clear hK K
        try simp only [Act.put, List.setIfInBounds_toArray, List.set_cons_zero, List.set_cons_succ]
        refine wpAnyH_ready (rs := [7]) (by kernel_rfl) (by simp) ?_
        refine AllReadyH.cons (o := { dst := some 51, op := _, type := _, pos := _, after := _, guard := _ }) rfl (fun K hK => ?_) AllReadyH.nil
        go_simp
        refine (L2 _).mono ?_
        rintro e u1578q ⟨rfl, hb⟩
        have h1579q : Hid (Gd n w u1578q) := h1573q.out.later hb
        have h1580q : Hid (TAt u1578q u871q.heap.size u) := h1574q.out.later hb
        have h1581q : Hid (Bo u1578q b_a [.int .i64 (1), .int .i64 (0)]) := h1575q.out.later hb
        have h1582q : Hid (TAt u1578q b_u u2) := h1576q.out.later hb
        have h1583q : Hid (Bo u1578q b_b [.int .i64 (1), .int .i64 (0)]) := h1577q.out.later hb
        clear h1573q h1574q h1575q h1576q h1577q
        clear hb
        go_wp2_with fail
        refine hK.out _ _ ⟨h1583q.out, h1581q.out, h1582q.out, h1580q.out⟩ (fun hH => ?_)
        clear hK K
        try simp only [Act.put, List.setIfInBounds_toArray, List.set_cons_zero, List.set_cons_succ]
        refine wpAnyH_take (i := 8) (oi := { dst := some 52, op := .binOp .eql _ (.tmp 49) (.tmp 51) _, type := _, pos := _, after := _, guard := _ }) (v := ?_) rfl (by kernel_rfl) (by kernel_rfl) (by kernel_rfl) (fun _ _ _ h => h) (Or.inl ⟨by rfl, ?_⟩) hH ?_
        rotate_left
        · intro w hSw
          clear hSw
          go_simp
          try with_reducible rfl
        simp only [Act.put, List.setIfInBounds_toArray, List.set_cons_zero, List.set_cons_succ]
        refine wpAnyH_take (i := 9) (oi := { dst := some 53, op := .pick (.tmp 47) (.tmp 52) (.const (.bool false)), type := _, pos := _, after := _, guard := _ }) (v := ?_) rfl (by kernel_rfl) (by kernel_rfl) (by kernel_rfl) (fun _ _ _ h => h) (Or.inl ⟨by rfl, ?_⟩) hH ?_
        rotate_left
        · intro w hSw
          clear hSw
          go_simp
          try with_reducible rfl
        simp only [Act.put, List.setIfInBounds_toArray, List.set_cons_zero, List.set_cons_succ]
        refine wpAnyH_take (i := 10) (oi := { dst := some 54, op := .move (.tmp 53), type := _, pos := _, after := _, guard := _ }) (v := ?_) rfl (by kernel_rfl) (by kernel_rfl) (by kernel_rfl) (fun _ _ _ h => h) (Or.inl ⟨by rfl, ?_⟩) hH ?_
        rotate_left
        · intro w hSw
          clear hSw
          go_simp
          try with_reducible rfl
        simp only [Act.put, List.setIfInBounds_toArray, List.set_cons_zero, List.set_cons_succ]
        refine wpAnyH_take (i := 11) (oi := { dst := some 55, op := .load _ (.tmp 11), type := _, pos := _, after := _, guard := _ }) (v := _) rfl (by kernel_rfl) (by kernel_rfl) (by kernel_rfl) (fun _ _ _ h => h) (yieldsIf_load_mid (by rfl) _ _ rfl b_u _ rfl u2.all _ (fun _ h => (h.2.2.1).range) HD.out rfl (HS.out u2)) hH ?_
        simp only [Act.put, List.setIfInBounds_toArray, List.set_cons_zero, List.set_cons_succ]
        refine wpAnyH_take (i := 12) (oi := { dst := some 56, op := .move (.tmp 1), type := _, pos := _, after := _, guard := _ }) (v := ?_) rfl (by kernel_rfl) (by kernel_rfl) (by kernel_rfl) (fun _ _ _ h => h) (Or.inl ⟨by rfl, ?_⟩) hH ?_
        rotate_left
        · intro w hSw
          clear hSw
          go_simp
          try with_reducible rfl
        simp only [Act.put, List.setIfInBounds_toArray, List.set_cons_zero, List.set_cons_succ]
        refine wpAnyH_take (i := 15) (oi := { dst := some 59, op := .move (.tmp 3), type := _, pos := _, after := _, guard := _ }) (v := ?_) rfl (by kernel_rfl) (by kernel_rfl) (by kernel_rfl) (fun _ _ _ h => h) (Or.inl ⟨by rfl, ?_⟩) hH ?_
        rotate_left
        · intro w hSw
          clear hSw
          go_simp
          try with_reducible rfl
        simp only [Act.put, List.setIfInBounds_toArray, List.set_cons_zero, List.set_cons_succ]
        refine wpAnyH_ready (rs := [13]) (by kernel_rfl) (by simp) ?_
        refine AllReadyH.cons (o := { dst := some 57, op := _, type := _, pos := _, after := _, guard := _ }) rfl (fun K hK => ?_) AllReadyH.nil
        go_simp
        refine (PK _).mono ?_
        rintro e u1584q ⟨rfl, hb⟩
        have h1585q : Hid (Gd n w u1584q) := h1579q.out.later hb
        have h1586q : Hid (TAt u1584q u871q.heap.size u) := h1580q.out.later hb
        have h1587q : Hid (Bo u1584q b_a [.int .i64 (1), .int .i64 (0)]) := h1581q.out.later hb
        have h1588q : Hid (TAt u1584q b_u u2) := h1582q.out.later hb
        have h1589q : Hid (Bo u1584q b_b [.int .i64 (1), .int .i64 (0)]) := h1583q.out.later hb
        clear h1579q h1580q h1581q h1582q h1583q
        clear hb
        go_wp2_with fail
        refine hK.out _ _ ⟨h1589q.out, h1587q.out, h1588q.out, h1586q.out⟩ (fun hH => ?_)
        clear hK K
        try simp only [Act.put, List.setIfInBounds_toArray, List.set_cons_zero, List.set_cons_succ]
        refine wpAnyH_take (i := 14) (oi := { dst := some 58, op := .field _ (.tmp 57) 1, type := _, pos := _, after := _, guard := _ }) (v := ?_) rfl (by kernel_rfl) (by kernel_rfl) (by kernel_rfl) (fun _ _ _ h => h) (Or.inl ⟨by rfl, ?_⟩) hH ?_
        rotate_left
        · intro w hSw
          clear hSw
          go_simp
          try with_reducible rfl
        simp only [Act.put, List.setIfInBounds_toArray, List.set_cons_zero, List.set_cons_succ]
        refine wpAnyH_ready (rs := [16]) (by kernel_rfl) (by simp) ?_
        refine AllReadyH.cons (o := { dst := some 60, op := _, type := _, pos := _, after := _, guard := _ }) rfl (fun K hK => ?_) AllReadyH.nil
        go_simp
        refine (Pr3.out _).mono ?_
        rintro e u1590q ⟨rfl, hw⟩
        rw [hw]; clear hw u1590q
        go_wp2_with fail
        refine hK.out _ _ ⟨h1589q.out, h1587q.out, h1588q.out, h1586q.out⟩ (fun hH => ?_)
        clear hK K
        try simp only [Act.put, List.setIfInBounds_toArray, List.set_cons_zero, List.set_cons_succ]
        refine wpAnyH_take (i := 17) (oi := { dst := some 61, op := .binOp .eql _ (.tmp 58) (.tmp 60) _, type := _, pos := _, after := _, guard := _ }) (v := ?_) rfl (by kernel_rfl) (by kernel_rfl) (by kernel_rfl) (fun _ _ _ h => h) (Or.inl ⟨by rfl, ?_⟩) hH ?_
        rotate_left
        · intro w hSw
          clear hSw
          go_simp
          try with_reducible rfl
        simp only [Act.put, List.setIfInBounds_toArray, List.set_cons_zero, List.set_cons_succ]
        refine wpAnyH_take (i := 18) (oi := { dst := some 62, op := .pick (.tmp 54) (.tmp 61) (.const (.bool false)), type := _, pos := _, after := _, guard := _ }) (v := ?_) rfl (by kernel_rfl) (by kernel_rfl) (by kernel_rfl) (fun _ _ _ h => h) (Or.inl ⟨by rfl, ?_⟩) hH ?_
        rotate_left
        · intro w hSw
          clear hSw
          go_simp
          try with_reducible rfl
        simp only [Act.put, List.setIfInBounds_toArray, List.set_cons_zero, List.set_cons_succ]
        refine wpAnyH_take (i := 19) (oi := { dst := some 8, op := .assign (.tmp 62), type := _, pos := _, after := _, guard := _ }) (v := ?_) rfl (by kernel_rfl) (by kernel_rfl) (by kernel_rfl) (fun _ _ _ h => h) (Or.inl ⟨by rfl, ?_⟩) hH ?_
        rotate_left
        · intro w hSw
          clear hSw
          go_simp
          try with_reducible rfl
        simp only [Act.put, List.setIfInBounds_toArray, List.set_cons_zero, List.set_cons_succ]
        refine wpAnyH_done (by kernel_rfl) ?_ _
        go_wp2
        go_ret
        exact ⟨rfl, h1585q.out.2⟩


set_option maxRecDepth 100000 in
theorem lifted (os : Os) (started : os.Started) (H : Type) (enc : TypeId × Value → H) :
    ReturnsInHanded {} Try.checked os 3 .any (Rows.tableAgainSpec.pre6 enc Try.prog Try.f3 Rows.tableAgainRow.domain false) (Rows.tableAgainSpec.post enc Try.prog Try.f3 false true false false) := by
  refine returnsInHanded_of_change (C := Try.checked) own started (by kernel_rfl) Try.func3
    (ChangeSpec.witness6 (enc := enc) (C := Try.checked) false ⟨#[], #[.slice none 0 0, .int .i64 0, .int .i64 0, .int .i64 0], []⟩ 8 (by kernel_rfl) (by kernel_rfl) (by kernel_rfl) (by kernel_rfl)) ?_
  intro W base args ds gs before hval0 hW hcnd _
  have hval : ∀ (j : Nat) t v, Try.f3.params[j]? = some t → args[j]? = some v → Value.okWide Try.prog W .any base t v := hval0
  have hW' := hW
  obtain ⟨p, q, hA0, hV, rfl, hfz, hnd⟩ := hW
  have hA : DataW.TrodAll enc Try.prog W 0 (fun _ => true) true Try.f3.params.toList args.toList ds p := hA0
  rw [Try.params3] at hA hval
  obtain ⟨v0, vs0, d0, ds0, p0, q0, hargs, rfl, rfl, h0, r0⟩ := trodAll_cons hA
  obtain ⟨v1, vs1, d1, ds1, p1, q1, rfl, rfl, rfl, h1, r1⟩ := trodAll_cons r0
  obtain ⟨v2, vs2, d2, ds2, p2, q2, rfl, rfl, rfl, h2, r2⟩ := trodAll_cons r1
  obtain ⟨v3, vs3, d3, ds3, p3, q3, rfl, rfl, rfl, h3, r3⟩ := trodAll_cons r2
  obtain ⟨rfl, rfl, rfl⟩ := trodAll_nil r3
  obtain rfl : args = #[v0, v1, v2, v3] := by cases args; simp_all
  obtain ⟨rfl, rfl⟩ := trodVars_none hV
  obtain ⟨n0, D0⟩ := ops_of_trod (hval 0 22 v0 rfl rfl) h0
  obtain ⟨a1, rfl, rfl, rfl, w1⟩ := open_int Try.underlying3 (hval 1 3 v1 rfl rfl) h1
  obtain ⟨a2, rfl, rfl, rfl, w2⟩ := open_int Try.underlying3 (hval 2 3 v2 rfl rfl) h2
  obtain ⟨a3, rfl, rfl, rfl, w3⟩ := open_int Try.underlying3 (hval 3 3 v3 rfl rfl) h3
  have hlt := hW'.lt
  clear hA0 hval0
  refine (walk v0 n0 a1 a2 a3 w1 w2 w3 W  D0).mono fun e W' ⟨he, hg⟩ => ?_
  subst he
  exact ⟨_, rfl, post_below (pv := []) hW' (fun _ _ _ => (trodAll_cons_mk (shut_bool Try.underlying4 _) trodAll_mk0)) (fun sp hsp => (trodAll_cons_mk (ops_stay h0 hg (fun x hx => hlt x (by simp [hx])) (fun x hx => hsp x (by simp [hx]))) (trodAll_cons_mk (shut_int Try.underlying3 w1) (trodAll_cons_mk (shut_int Try.underlying3 w2) (trodAll_cons_mk (shut_int Try.underlying3 w3) trodAll_mk0))))) (fun _ _ => rfl) (by simp) (hg.frame _)⟩

theorem over : Rows.tableAgainRow.holds Try.pinned (OpenSpec.ofChange Rows.tableAgainSpec) :=
  OpenClaim.holds_of_wide 3 Try.f3 rfl rfl rfl rfl rfl rfl rfl ⟨rfl, rfl, rfl, rfl, rfl⟩ rfl rfl rfl rfl rfl (by kernel_rfl) Try.func3 (by kernel_rfl)
    (of_decide_eq_true (by kernel_rfl)) (by unfold Func.isWrapper; first | (rw [if_pos (by decide +kernel)]; kernel_rfl) | (rw [if_neg (by decide +kernel)]; exact ⟨rfl, rfl⟩))
    (fun os started H enc _ => lifted os started H enc)

theorem proved : Rows.TableAgainSaid :=
  over
#print axioms proved
end Go.Proofs.Ytojnkfdodjcnfab.tableAgain
