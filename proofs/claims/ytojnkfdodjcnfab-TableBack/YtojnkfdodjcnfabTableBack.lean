/- TableBack is proved: for every list of operations, keys and value the call returns true (a new key that is put in, and taken out, leaves each key what it had). -/
import Derived.Test.YtojnkfdodjcnfabRows
import Derived.Test.YtojnkfdodjcnfabKf
import Derived.Test.YtojnkfdodjcnfabTl
import Derived.Test.YtojnkfdodjcnfabArgOps
import Derived.Deep.DeepCutAuto
import Derived.Deep.RegionHeld3

namespace Go.Proofs.Ytojnkfdodjcnfab.tableBack
open Go.ChangeShapes Go.WideShapes Go.ChangeAt Go.RowKit
set_option linter.unusedVariables false

theorem own : ownKnob Try.prog.godebug = none := by kernel_rfl

set_option maxHeartbeats 4000000 in
set_option maxRecDepth 20000 in
theorem walk (v0 : Value) (n0 : Nat) (a1 a2 a3 : Int) (w1 : (Lit.int .i64 a1).wf = true) (w2 : (Lit.int .i64 a2).wf = true) (w3 : (Lit.int .i64 a3).wf = true) (w : World) (D0 : Ops w v0 n0) :
    Calls Try.prog 4 #[v0, .int .i64 a1, .int .i64 a2, .int .i64 a3] w fun e w' => e = .returned (.bool true) ∧ Below w.heap.size w w' := by
  obtain ⟨na, ea, hd⟩ := slots_array
  have HD : Hid _ := hd
  clear hd
  have HS : Hid (∀ t : Tb, (Try.prog.info? 27).map (·.size) = some t.all.length) := slots_size
  have HZ : Hid (∀ t : Tb, (Try.prog.info? 27).map (·.size) = some t.all.toArray.size) := slots_size2
  have HT : Hid ((Try.prog.info? 25).map (·.size) = some 2) := slot_size
  have HA : Hid ((Try.prog.info? 31).map (·.size) = some 2) := answer_size
  obtain ⟨fs, ha⟩ := answer_struct
  have HDA : Hid _ := ha
  clear ha
  have EQ := slots_equal
  have FD0 := field0
  have FD1 := field1
  have g0 : Hid (Gd w.heap.size w w) := Gd.refl w
  have HD0 : Hid (Ops w v0 n0) := D0
  clear D0
  clear w1 w2 w3
  obtain ⟨r1, hr1, pr1⟩ := key_fun a1
  have Pr1 : Hid _ := pr1
  clear pr1
  obtain ⟨r2, hr2, pr2⟩ := pick_1000 a2
  have Pr2 : Hid _ := pr2
  clear pr2
  obtain ⟨r3, hr3, pr3⟩ := pick_12 a3
  have Pr3 : Hid _ := pr3
  clear pr3
  obtain ⟨k, ek⟩ : ∃ k : Int, 1 + (r1 : Int) = k := ⟨_, rfl⟩
  have hk1 : 1 ≤ k := by omega
  have hk2 : k ≤ 1000 := by omega
  obtain ⟨v, ev⟩ : ∃ v : Int, (r2 : Int) = v := ⟨_, rfl⟩
  have hv0 : 0 ≤ v := by omega
  have hv1 : v ≤ 4294967295 := by omega
  obtain ⟨q, eq⟩ : ∃ q : Int, 1 + (r3 : Int) = q := ⟨_, rfl⟩
  have hq1 : 1 ≤ q := by omega
  have hq2 : q ≤ 12 := by omega
  rw [ek] at Pr1
  rw [ev] at Pr2
  clear ek ev hr1 hr2
  go_enter Try.func4, Try.ntmps4
  go_wp2_with fail
  generalize w.heap.size = n at g0 ⊢
  refine (tabled_is _).mono ?_
  rintro e u1q ⟨rfl, hb⟩
  have h2q : Hid (Gd n w u1q) := g0.out.later hb
  clear g0
  clear hb
  go_wp2_with fail
  refine (filled_is (HD0.out.later h2q.out.2)).mono ?_
  rintro e u3q ⟨t, hR, rfl, hb⟩
  have h4q : Hid (Gd n w u3q) := h2q.out.later hb
  clear h2q
  clear hb
  have R : Hid (RT t) := hR
  clear hR HD0
  have l5q : n ≤ u3q.heap.size := h4q.out.le
  have h6q : Hid (Gd n w (u3q.alloc (.cells #[.int .i64 0, .int .i64 0, .int .i64 0, .int .i64 0, .int .i64 0, .int .i64 0, .int .i64 0, .int .i64 0, .int .i64 0, .int .i64 0, .int .i64 0, .int .i64 0, .int .i64 0, .int .i64 0, .int .i64 0, .int .i64 0] 27))) := h4q.out.new (.cells #[.int .i64 0, .int .i64 0, .int .i64 0, .int .i64 0, .int .i64 0, .int .i64 0, .int .i64 0, .int .i64 0, .int .i64 0, .int .i64 0, .int .i64 0, .int .i64 0, .int .i64 0, .int .i64 0, .int .i64 0, .int .i64 0] 27)
  clear h4q
  have h7q : Hid (TAt (u3q.alloc (.cells #[.int .i64 0, .int .i64 0, .int .i64 0, .int .i64 0, .int .i64 0, .int .i64 0, .int .i64 0, .int .i64 0, .int .i64 0, .int .i64 0, .int .i64 0, .int .i64 0, .int .i64 0, .int .i64 0, .int .i64 0, .int .i64 0] 27)) u3q.heap.size Tb.zero) := TAt.bornZero u3q 27 (by simp)
  obtain ⟨⟨kc, ky⟩, hLK⟩ : ∃ r, look t k = r := ⟨_, rfl⟩
  have PK := peek_is t k (by omega) (by omega)
  rw [hLK] at PK
  dsimp only at PK
  have LK : Hid (look t k = (kc, ky)) := hLK
  clear hLK
  go_wp2_with (first
    | (refine wpList_store_mid rfl 27 _ _ rfl u3q.heap.size _ t.all.toArray rfl rfl (h7q.out.thereOf t) (HZ.out t) (t.all_all) ?_
       have h8q : Hid (Gd n w ((u3q.alloc (.cells #[.int .i64 0, .int .i64 0, .int .i64 0, .int .i64 0, .int .i64 0, .int .i64 0, .int .i64 0, .int .i64 0, .int .i64 0, .int .i64 0, .int .i64 0, .int .i64 0, .int .i64 0, .int .i64 0, .int .i64 0, .int .i64 0] 27)).setCells u3q.heap.size 0 t.all)) := h6q.out.asideAll (by omega) t
       have h9q : Hid (TAt ((u3q.alloc (.cells #[.int .i64 0, .int .i64 0, .int .i64 0, .int .i64 0, .int .i64 0, .int .i64 0, .int .i64 0, .int .i64 0, .int .i64 0, .int .i64 0, .int .i64 0, .int .i64 0, .int .i64 0, .int .i64 0, .int .i64 0, .int .i64 0] 27)).setCells u3q.heap.size 0 t.all) u3q.heap.size t) := h7q.out.setAll t
       clear h6q h7q
       generalize ((u3q.alloc (.cells #[.int .i64 0, .int .i64 0, .int .i64 0, .int .i64 0, .int .i64 0, .int .i64 0, .int .i64 0, .int .i64 0, .int .i64 0, .int .i64 0, .int .i64 0, .int .i64 0, .int .i64 0, .int .i64 0, .int .i64 0, .int .i64 0] 27)).setCells u3q.heap.size 0 t.all) = u10q at h8q h9q  ⊢))
  refine (Pr1.out _).mono ?_
  rintro e u11q ⟨rfl, hw⟩
  rw [hw]; clear hw u11q
  go_wp2_with fail
  refine (Pr3.out _).mono ?_
  rintro e u12q ⟨rfl, hw⟩
  rw [hw]; clear hw u12q
  go_wp2_with (first
    | (refine wpList_load_mid rfl 27 _ rfl u3q.heap.size _ rfl t.all _ h9q.out.range HD.out rfl (HS.out t) ?_))
  clear eq hr3 Pr1 Pr3
  refine (PK _).mono ?_
  rintro e u13q ⟨rfl, hb⟩
  have h14q : Hid (Gd n w u13q) := h8q.out.later hb
  have h15q : Hid (TAt u13q u3q.heap.size t) := h9q.out.later hb
  clear h8q h9q
  clear hb
  clear PK
  by_cases hk4 : kc = 4
  · have hl4 : look t k = (4, 0) := by
      by_cases hh : t.k (place t k) = k
      · have e := LK.out; rw [look_has hh] at e; injection e with e1 e2; omega
      · exact look_hasnt hh
    have HL4 : Hid _ := hl4
    have m4 : (kc == 4) = true := by simp [hk4]
    have m5 : (kc != 4) = false := by simp [hk4]
    subst hk4
    clear hl4
    rcases puts R.out (k := k) (x := v) hk1 hk2 hv0 hv1 with ⟨hu, -, -⟩ | ⟨u, hu, hF⟩
    · have DO := tDo_eq t 1 k v
      rw [show tdo t 1 k v = (t, 3, 0) from hu] at DO
      unfold Told at DO
      dsimp only at DO
      clear hu
      go_wp2_with fail
      go_cut [10, 11] (fun s10 s11 wx => ∃ b_u b_a : Nat, s10 = .pointer (some ⟨b_u, 0, none⟩) ∧ s11 = .pointer (some ⟨b_a, 0, none⟩) ∧ Hid (Gd n w wx) ∧ Hid (TAt wx u3q.heap.size t) ∧ Hid (TAt wx b_u t) ∧ Hid (Bo wx b_a [.int .i64 (3), .int .i64 (0)]))
      case first =>
        have h16q : Hid (Gd n w u13q.drew) := h14q.out.drew
        have h17q : Hid (TAt u13q.drew u3q.heap.size t) := h15q.out.drew
        clear h14q h15q
        refine wp_region_held_drew (S := fun w' => TAt w' u3q.heap.size t) (by kernel_rfl) h17q.out (fun hH => ?_)
        generalize u13q.drew = u18q at h16q h17q hH ⊢
        refine wpAnyH_take (i := 0) (oi := { dst := some 28, op := .load _ (.tmp 9), type := _, pos := _, after := _, guard := _ }) (v := _) rfl (by kernel_rfl) (by kernel_rfl) (by kernel_rfl) (fun _ _ _ h => h) (yieldsIf_load_mid (by rfl) _ _ rfl u3q.heap.size _ rfl t.all _ (fun _ h => (h).range) HD.out rfl (HS.out t)) hH ?_
        simp only [Act.put, List.setIfInBounds_toArray, List.set_cons_zero, List.set_cons_succ]
        refine wpAnyH_take (i := 1) (oi := { dst := some 29, op := .move (.tmp 1), type := _, pos := _, after := _, guard := _ }) (v := ?_) rfl (by kernel_rfl) (by kernel_rfl) (by kernel_rfl) (fun _ _ _ h => h) (Or.inl ⟨by rfl, ?_⟩) hH ?_
        rotate_left
        · intro w hSw
          clear hSw
          go_simp
          try with_reducible rfl
        simp only [Act.put, List.setIfInBounds_toArray, List.set_cons_zero, List.set_cons_succ]
        refine wpAnyH_take (i := 2) (oi := { dst := some 30, op := .move (.tmp 2), type := _, pos := _, after := _, guard := _ }) (v := ?_) rfl (by kernel_rfl) (by kernel_rfl) (by kernel_rfl) (fun _ _ _ h => h) (Or.inl ⟨by rfl, ?_⟩) hH ?_
        rotate_left
        · intro w hSw
          clear hSw
          go_simp
          try with_reducible rfl
        simp only [Act.put, List.setIfInBounds_toArray, List.set_cons_zero, List.set_cons_succ]
        refine wpAnyH_ready (rs := [3, 9, 10]) (by kernel_rfl) (by simp) ?_
        refine AllReadyH.cons (o := { dst := some 31, op := _, type := _, pos := _, after := _, guard := _ }) rfl (fun K hK => ?_) ?_
        · go_simp
          refine (Pr2.out _).mono ?_
          rintro e u19q ⟨rfl, hw⟩
          rw [hw]; clear hw u19q
          go_wp2_with fail
          refine hK.out _ _ h17q.out (fun hH => ?_)
          clear hK K
          try simp only [Act.put, List.setIfInBounds_toArray, List.set_cons_zero, List.set_cons_succ]
          refine wpAnyH_take (i := 4) (oi := { dst := some 32, op := .build _ #[(0, .const (.int .i64 1)), (1, .tmp 29), (2, .tmp 31)], type := _, pos := _, after := _, guard := _ }) (v := ?_) rfl (by kernel_rfl) (by kernel_rfl) (by kernel_rfl) (fun _ _ _ h => h) (Or.inl ⟨by rfl, ?_⟩) hH ?_
          rotate_left
          · intro w hSw
            clear hSw
            go_simp
            try with_reducible rfl
          simp only [Act.put, List.setIfInBounds_toArray, List.set_cons_zero, List.set_cons_succ]
          refine wpAnyH_ready (rs := [5, 9, 10]) (by kernel_rfl) (by simp) ?_
          refine AllReadyH.cons (o := { dst := some 33, op := _, type := _, pos := _, after := _, guard := _ }) rfl (fun K hK => ?_) ?_
          · go_simp
            refine (DO _).mono ?_
            rintro e u20q ⟨rfl, hb⟩
            have h21q : Hid (Gd n w u20q) := h16q.out.later hb
            have h22q : Hid (TAt u20q u3q.heap.size t) := h17q.out.later hb
            clear h16q h17q
            clear hb
            go_wp2_with fail
            refine hK.out _ _ h22q.out (fun hH => ?_)
            clear hK K
            try simp only [Act.put, List.setIfInBounds_toArray, List.set_cons_zero, List.set_cons_succ]
            refine wpAnyH_take (i := 6) (oi := { dst := some 27, op := .move (.tmp 33), type := _, pos := _, after := _, guard := _ }) (v := ?_) rfl (by kernel_rfl) (by kernel_rfl) (by kernel_rfl) (fun _ _ _ h => h) (Or.inl ⟨by rfl, ?_⟩) hH ?_
            rotate_left
            · intro w hSw
              clear hSw
              go_simp
              try with_reducible rfl
            simp only [Act.put, List.setIfInBounds_toArray, List.set_cons_zero, List.set_cons_succ]
            refine wpAnyH_take (i := 7) (oi := { dst := some 34, op := .extract (.tmp 27) 0, type := _, pos := _, after := _, guard := _ }) (v := ?_) rfl (by kernel_rfl) (by kernel_rfl) (by kernel_rfl) (fun _ _ _ h => h) (Or.inl ⟨by rfl, ?_⟩) hH ?_
            rotate_left
            · intro w hSw
              clear hSw
              go_simp
              try with_reducible rfl
            simp only [Act.put, List.setIfInBounds_toArray, List.set_cons_zero, List.set_cons_succ]
            refine wpAnyH_take (i := 8) (oi := { dst := some 35, op := .extract (.tmp 27) 1, type := _, pos := _, after := _, guard := _ }) (v := ?_) rfl (by kernel_rfl) (by kernel_rfl) (by kernel_rfl) (fun _ _ _ h => h) (Or.inl ⟨by rfl, ?_⟩) hH ?_
            rotate_left
            · intro w hSw
              clear hSw
              go_simp
              try with_reducible rfl
            simp only [Act.put, List.setIfInBounds_toArray, List.set_cons_zero, List.set_cons_succ]
            refine wpAnyH_ready (rs := [9, 10]) (by kernel_rfl) (by simp) ?_
            refine AllReadyH.cons (o := { dst := some 10, op := .alloc _, type := _, pos := _, after := _, guard := _ }) rfl (fun K hK => ?_) ?_
            · have l23q : n ≤ u20q.heap.size := h21q.out.le
              have l24q : u3q.heap.size < u20q.heap.size := h22q.out.lt
              go_simp
              have h25q : Hid (Gd n w (u20q.alloc (.cells #[.int .i64 0, .int .i64 0, .int .i64 0, .int .i64 0, .int .i64 0, .int .i64 0, .int .i64 0, .int .i64 0, .int .i64 0, .int .i64 0, .int .i64 0, .int .i64 0, .int .i64 0, .int .i64 0, .int .i64 0, .int .i64 0] 27))) := h21q.out.new (.cells #[.int .i64 0, .int .i64 0, .int .i64 0, .int .i64 0, .int .i64 0, .int .i64 0, .int .i64 0, .int .i64 0, .int .i64 0, .int .i64 0, .int .i64 0, .int .i64 0, .int .i64 0, .int .i64 0, .int .i64 0, .int .i64 0] 27)
              have h26q : Hid (TAt (u20q.alloc (.cells #[.int .i64 0, .int .i64 0, .int .i64 0, .int .i64 0, .int .i64 0, .int .i64 0, .int .i64 0, .int .i64 0, .int .i64 0, .int .i64 0, .int .i64 0, .int .i64 0, .int .i64 0, .int .i64 0, .int .i64 0, .int .i64 0] 27)) u3q.heap.size t) := h22q.out.new (.cells #[.int .i64 0, .int .i64 0, .int .i64 0, .int .i64 0, .int .i64 0, .int .i64 0, .int .i64 0, .int .i64 0, .int .i64 0, .int .i64 0, .int .i64 0, .int .i64 0, .int .i64 0, .int .i64 0, .int .i64 0, .int .i64 0] 27)
              clear h21q h22q
              have h27q : Hid (TAt (u20q.alloc (.cells #[.int .i64 0, .int .i64 0, .int .i64 0, .int .i64 0, .int .i64 0, .int .i64 0, .int .i64 0, .int .i64 0, .int .i64 0, .int .i64 0, .int .i64 0, .int .i64 0, .int .i64 0, .int .i64 0, .int .i64 0, .int .i64 0] 27)) u20q.heap.size Tb.zero) := TAt.bornZero u20q 27 (by simp)
              refine hK.out _ _ h26q.out (fun hH => ?_)
              clear hK K
              generalize (u20q.alloc (.cells #[.int .i64 0, .int .i64 0, .int .i64 0, .int .i64 0, .int .i64 0, .int .i64 0, .int .i64 0, .int .i64 0, .int .i64 0, .int .i64 0, .int .i64 0, .int .i64 0, .int .i64 0, .int .i64 0, .int .i64 0, .int .i64 0] 27)) = u28q at h25q h26q h27q hH ⊢
              try simp only [Act.put, List.setIfInBounds_toArray, List.set_cons_zero, List.set_cons_succ]
              refine wpAnyH_ready (rs := [10]) (by kernel_rfl) (by simp) ?_
              refine AllReadyH.cons (o := { dst := some 11, op := .alloc _, type := _, pos := _, after := _, guard := _ }) rfl (fun K hK => ?_) AllReadyH.nil
              have l29q : n ≤ u28q.heap.size := h25q.out.le
              have l30q : u3q.heap.size < u28q.heap.size := h26q.out.lt
              have l31q : u20q.heap.size < u28q.heap.size := h27q.out.lt
              go_simp
              have h32q : Hid (Gd n w (u28q.alloc (.cells #[.int .i64 0, .int .i64 0] 31))) := h25q.out.new (.cells #[.int .i64 0, .int .i64 0] 31)
              have h33q : Hid (TAt (u28q.alloc (.cells #[.int .i64 0, .int .i64 0] 31)) u3q.heap.size t) := h26q.out.new (.cells #[.int .i64 0, .int .i64 0] 31)
              have h34q : Hid (TAt (u28q.alloc (.cells #[.int .i64 0, .int .i64 0] 31)) u20q.heap.size Tb.zero) := h27q.out.new (.cells #[.int .i64 0, .int .i64 0] 31)
              clear h25q h26q h27q
              have h35q : Hid (Bo (u28q.alloc (.cells #[.int .i64 0, .int .i64 0] 31)) u28q.heap.size [.int .i64 0, .int .i64 0]) := Bo.born u28q [.int .i64 0, .int .i64 0] 31 (by simp)
              refine hK.out _ _ h33q.out (fun hH => ?_)
              clear hK K
              generalize (u28q.alloc (.cells #[.int .i64 0, .int .i64 0] 31)) = u36q at h32q h33q h34q h35q hH ⊢
              try simp only [Act.put, List.setIfInBounds_toArray, List.set_cons_zero, List.set_cons_succ]
              refine wpAnyH_ready (rs := [11]) (by kernel_rfl) (by simp) ?_
              refine AllReadyH.cons (o := { dst := none, op := .store _ (.tmp 10) (.tmp 34), type := _, pos := _, after := _, guard := _ }) rfl (fun K hK => ?_) AllReadyH.nil
              rw [if_pos (by rfl)]
              refine wp_store_mid _ _ _ rfl u20q.heap.size _ t.all.toArray rfl rfl (h34q.out.thereOf t) (HZ.out t) (t.all_all) ?_
              simp only [Act.put]
              have h37q : Hid (Gd n w (u36q.setCells u20q.heap.size 0 t.all)) := h32q.out.asideAll (by omega) t
              have h38q : Hid (TAt (u36q.setCells u20q.heap.size 0 t.all) u3q.heap.size t) := h33q.out.asideAll (by omega) t
              have h39q : Hid (TAt (u36q.setCells u20q.heap.size 0 t.all) u20q.heap.size t) := h34q.out.setAll t
              have h40q : Hid (Bo (u36q.setCells u20q.heap.size 0 t.all) u28q.heap.size [.int .i64 0, .int .i64 0]) := h35q.out.asideAll (by omega) t
              clear h32q h33q h34q h35q
              refine hK.out _ _ h38q.out (fun hH => ?_)
              clear hK K
              generalize (u36q.setCells u20q.heap.size 0 t.all) = u41q at h37q h38q h39q h40q hH ⊢
              try simp only [Act.put, List.setIfInBounds_toArray, List.set_cons_zero, List.set_cons_succ]
              refine wpAnyH_ready (rs := [12]) (by kernel_rfl) (by simp) ?_
              refine AllReadyH.cons (o := { dst := none, op := .store _ (.tmp 11) (.tmp 35), type := _, pos := _, after := _, guard := _ }) rfl (fun K hK => ?_) AllReadyH.nil
              rw [if_pos (by rfl)]
              refine wp_store_mid _ _ _ rfl u28q.heap.size _ #[.int .i64 (3), .int .i64 (0)] rfl rfl h40q.out.there2 HA.out (two_one _ _) ?_
              simp only [Act.put]
              have h42q : Hid (Gd n w (u41q.setCells u28q.heap.size 0 [.int .i64 (3), .int .i64 (0)])) := h37q.out.asideL (by omega) 0 [.int .i64 (3), .int .i64 (0)]
              have h43q : Hid (TAt (u41q.setCells u28q.heap.size 0 [.int .i64 (3), .int .i64 (0)]) u3q.heap.size t) := h38q.out.asideL (by omega) 0 [.int .i64 (3), .int .i64 (0)]
              have h44q : Hid (TAt (u41q.setCells u28q.heap.size 0 [.int .i64 (3), .int .i64 (0)]) u20q.heap.size t) := h39q.out.asideL (by omega) 0 [.int .i64 (3), .int .i64 (0)]
              have h45q : Hid (Bo (u41q.setCells u28q.heap.size 0 [.int .i64 (3), .int .i64 (0)]) u28q.heap.size [.int .i64 (3), .int .i64 (0)]) := h40q.out.set2 (.int .i64 (3)) (.int .i64 (0))
              clear h37q h38q h39q h40q
              refine hK.out _ _ h43q.out (fun hH => ?_)
              clear hK K
              generalize (u41q.setCells u28q.heap.size 0 [.int .i64 (3), .int .i64 (0)]) = u46q at h42q h43q h44q h45q hH ⊢
              try simp only [Act.put, List.setIfInBounds_toArray, List.set_cons_zero, List.set_cons_succ]
              refine wpAnyH_done (by kernel_rfl) ?_ _
              go_wp2_with fail
              go_meet
              case rel => exact ⟨u20q.heap.size, u28q.heap.size, rfl, rfl, h42q, h43q, h44q, h45q⟩
            refine AllReadyH.cons (o := { dst := some 11, op := .alloc _, type := _, pos := _, after := _, guard := _ }) rfl (fun K hK => ?_) AllReadyH.nil
            have l47q : n ≤ u20q.heap.size := h21q.out.le
            have l48q : u3q.heap.size < u20q.heap.size := h22q.out.lt
            go_simp
            have h49q : Hid (Gd n w (u20q.alloc (.cells #[.int .i64 0, .int .i64 0] 31))) := h21q.out.new (.cells #[.int .i64 0, .int .i64 0] 31)
            have h50q : Hid (TAt (u20q.alloc (.cells #[.int .i64 0, .int .i64 0] 31)) u3q.heap.size t) := h22q.out.new (.cells #[.int .i64 0, .int .i64 0] 31)
            clear h21q h22q
            have h51q : Hid (Bo (u20q.alloc (.cells #[.int .i64 0, .int .i64 0] 31)) u20q.heap.size [.int .i64 0, .int .i64 0]) := Bo.born u20q [.int .i64 0, .int .i64 0] 31 (by simp)
            refine hK.out _ _ h50q.out (fun hH => ?_)
            clear hK K
            generalize (u20q.alloc (.cells #[.int .i64 0, .int .i64 0] 31)) = u52q at h49q h50q h51q hH ⊢
            try simp only [Act.put, List.setIfInBounds_toArray, List.set_cons_zero, List.set_cons_succ]
            refine wpAnyH_ready (rs := [9]) (by kernel_rfl) (by simp) ?_
            refine AllReadyH.cons (o := { dst := some 10, op := .alloc _, type := _, pos := _, after := _, guard := _ }) rfl (fun K hK => ?_) AllReadyH.nil
            have l53q : n ≤ u52q.heap.size := h49q.out.le
            have l54q : u3q.heap.size < u52q.heap.size := h50q.out.lt
            have l55q : u20q.heap.size < u52q.heap.size := h51q.out.lt
            go_simp
            have h56q : Hid (Gd n w (u52q.alloc (.cells #[.int .i64 0, .int .i64 0, .int .i64 0, .int .i64 0, .int .i64 0, .int .i64 0, .int .i64 0, .int .i64 0, .int .i64 0, .int .i64 0, .int .i64 0, .int .i64 0, .int .i64 0, .int .i64 0, .int .i64 0, .int .i64 0] 27))) := h49q.out.new (.cells #[.int .i64 0, .int .i64 0, .int .i64 0, .int .i64 0, .int .i64 0, .int .i64 0, .int .i64 0, .int .i64 0, .int .i64 0, .int .i64 0, .int .i64 0, .int .i64 0, .int .i64 0, .int .i64 0, .int .i64 0, .int .i64 0] 27)
            have h57q : Hid (TAt (u52q.alloc (.cells #[.int .i64 0, .int .i64 0, .int .i64 0, .int .i64 0, .int .i64 0, .int .i64 0, .int .i64 0, .int .i64 0, .int .i64 0, .int .i64 0, .int .i64 0, .int .i64 0, .int .i64 0, .int .i64 0, .int .i64 0, .int .i64 0] 27)) u3q.heap.size t) := h50q.out.new (.cells #[.int .i64 0, .int .i64 0, .int .i64 0, .int .i64 0, .int .i64 0, .int .i64 0, .int .i64 0, .int .i64 0, .int .i64 0, .int .i64 0, .int .i64 0, .int .i64 0, .int .i64 0, .int .i64 0, .int .i64 0, .int .i64 0] 27)
            have h58q : Hid (Bo (u52q.alloc (.cells #[.int .i64 0, .int .i64 0, .int .i64 0, .int .i64 0, .int .i64 0, .int .i64 0, .int .i64 0, .int .i64 0, .int .i64 0, .int .i64 0, .int .i64 0, .int .i64 0, .int .i64 0, .int .i64 0, .int .i64 0, .int .i64 0] 27)) u20q.heap.size [.int .i64 0, .int .i64 0]) := h51q.out.new (.cells #[.int .i64 0, .int .i64 0, .int .i64 0, .int .i64 0, .int .i64 0, .int .i64 0, .int .i64 0, .int .i64 0, .int .i64 0, .int .i64 0, .int .i64 0, .int .i64 0, .int .i64 0, .int .i64 0, .int .i64 0, .int .i64 0] 27)
            clear h49q h50q h51q
            have h59q : Hid (TAt (u52q.alloc (.cells #[.int .i64 0, .int .i64 0, .int .i64 0, .int .i64 0, .int .i64 0, .int .i64 0, .int .i64 0, .int .i64 0, .int .i64 0, .int .i64 0, .int .i64 0, .int .i64 0, .int .i64 0, .int .i64 0, .int .i64 0, .int .i64 0] 27)) u52q.heap.size Tb.zero) := TAt.bornZero u52q 27 (by simp)
            refine hK.out _ _ h57q.out (fun hH => ?_)
            clear hK K
            generalize (u52q.alloc (.cells #[.int .i64 0, .int .i64 0, .int .i64 0, .int .i64 0, .int .i64 0, .int .i64 0, .int .i64 0, .int .i64 0, .int .i64 0, .int .i64 0, .int .i64 0, .int .i64 0, .int .i64 0, .int .i64 0, .int .i64 0, .int .i64 0] 27)) = u60q at h56q h57q h58q h59q hH ⊢
            try simp only [Act.put, List.setIfInBounds_toArray, List.set_cons_zero, List.set_cons_succ]
            refine wpAnyH_ready (rs := [11]) (by kernel_rfl) (by simp) ?_
            refine AllReadyH.cons (o := { dst := none, op := .store _ (.tmp 10) (.tmp 34), type := _, pos := _, after := _, guard := _ }) rfl (fun K hK => ?_) AllReadyH.nil
            rw [if_pos (by rfl)]
            refine wp_store_mid _ _ _ rfl u52q.heap.size _ t.all.toArray rfl rfl (h59q.out.thereOf t) (HZ.out t) (t.all_all) ?_
            simp only [Act.put]
            have h61q : Hid (Gd n w (u60q.setCells u52q.heap.size 0 t.all)) := h56q.out.asideAll (by omega) t
            have h62q : Hid (TAt (u60q.setCells u52q.heap.size 0 t.all) u3q.heap.size t) := h57q.out.asideAll (by omega) t
            have h63q : Hid (Bo (u60q.setCells u52q.heap.size 0 t.all) u20q.heap.size [.int .i64 0, .int .i64 0]) := h58q.out.asideAll (by omega) t
            have h64q : Hid (TAt (u60q.setCells u52q.heap.size 0 t.all) u52q.heap.size t) := h59q.out.setAll t
            clear h56q h57q h58q h59q
            refine hK.out _ _ h62q.out (fun hH => ?_)
            clear hK K
            generalize (u60q.setCells u52q.heap.size 0 t.all) = u65q at h61q h62q h63q h64q hH ⊢
            try simp only [Act.put, List.setIfInBounds_toArray, List.set_cons_zero, List.set_cons_succ]
            refine wpAnyH_ready (rs := [12]) (by kernel_rfl) (by simp) ?_
            refine AllReadyH.cons (o := { dst := none, op := .store _ (.tmp 11) (.tmp 35), type := _, pos := _, after := _, guard := _ }) rfl (fun K hK => ?_) AllReadyH.nil
            rw [if_pos (by rfl)]
            refine wp_store_mid _ _ _ rfl u20q.heap.size _ #[.int .i64 (3), .int .i64 (0)] rfl rfl h63q.out.there2 HA.out (two_one _ _) ?_
            simp only [Act.put]
            have h66q : Hid (Gd n w (u65q.setCells u20q.heap.size 0 [.int .i64 (3), .int .i64 (0)])) := h61q.out.asideL (by omega) 0 [.int .i64 (3), .int .i64 (0)]
            have h67q : Hid (TAt (u65q.setCells u20q.heap.size 0 [.int .i64 (3), .int .i64 (0)]) u3q.heap.size t) := h62q.out.asideL (by omega) 0 [.int .i64 (3), .int .i64 (0)]
            have h68q : Hid (Bo (u65q.setCells u20q.heap.size 0 [.int .i64 (3), .int .i64 (0)]) u20q.heap.size [.int .i64 (3), .int .i64 (0)]) := h63q.out.set2 (.int .i64 (3)) (.int .i64 (0))
            have h69q : Hid (TAt (u65q.setCells u20q.heap.size 0 [.int .i64 (3), .int .i64 (0)]) u52q.heap.size t) := h64q.out.asideL (by omega) 0 [.int .i64 (3), .int .i64 (0)]
            clear h61q h62q h63q h64q
            refine hK.out _ _ h67q.out (fun hH => ?_)
            clear hK K
            generalize (u65q.setCells u20q.heap.size 0 [.int .i64 (3), .int .i64 (0)]) = u70q at h66q h67q h68q h69q hH ⊢
            try simp only [Act.put, List.setIfInBounds_toArray, List.set_cons_zero, List.set_cons_succ]
            refine wpAnyH_done (by kernel_rfl) ?_ _
            go_wp2_with fail
            go_meet
            case rel => exact ⟨u52q.heap.size, u20q.heap.size, rfl, rfl, h66q, h67q, h69q, h68q⟩
          refine AllReadyH.cons (o := { dst := some 10, op := .alloc _, type := _, pos := _, after := _, guard := _ }) rfl (fun K hK => ?_) ?_
          · have l71q : n ≤ u18q.heap.size := h16q.out.le
            have l72q : u3q.heap.size < u18q.heap.size := h17q.out.lt
            go_simp
            have h73q : Hid (Gd n w (u18q.alloc (.cells #[.int .i64 0, .int .i64 0, .int .i64 0, .int .i64 0, .int .i64 0, .int .i64 0, .int .i64 0, .int .i64 0, .int .i64 0, .int .i64 0, .int .i64 0, .int .i64 0, .int .i64 0, .int .i64 0, .int .i64 0, .int .i64 0] 27))) := h16q.out.new (.cells #[.int .i64 0, .int .i64 0, .int .i64 0, .int .i64 0, .int .i64 0, .int .i64 0, .int .i64 0, .int .i64 0, .int .i64 0, .int .i64 0, .int .i64 0, .int .i64 0, .int .i64 0, .int .i64 0, .int .i64 0, .int .i64 0] 27)
            have h74q : Hid (TAt (u18q.alloc (.cells #[.int .i64 0, .int .i64 0, .int .i64 0, .int .i64 0, .int .i64 0, .int .i64 0, .int .i64 0, .int .i64 0, .int .i64 0, .int .i64 0, .int .i64 0, .int .i64 0, .int .i64 0, .int .i64 0, .int .i64 0, .int .i64 0] 27)) u3q.heap.size t) := h17q.out.new (.cells #[.int .i64 0, .int .i64 0, .int .i64 0, .int .i64 0, .int .i64 0, .int .i64 0, .int .i64 0, .int .i64 0, .int .i64 0, .int .i64 0, .int .i64 0, .int .i64 0, .int .i64 0, .int .i64 0, .int .i64 0, .int .i64 0] 27)
            clear h16q h17q
            have h75q : Hid (TAt (u18q.alloc (.cells #[.int .i64 0, .int .i64 0, .int .i64 0, .int .i64 0, .int .i64 0, .int .i64 0, .int .i64 0, .int .i64 0, .int .i64 0, .int .i64 0, .int .i64 0, .int .i64 0, .int .i64 0, .int .i64 0, .int .i64 0, .int .i64 0] 27)) u18q.heap.size Tb.zero) := TAt.bornZero u18q 27 (by simp)
            refine hK.out _ _ h74q.out (fun hH => ?_)
            clear hK K
            generalize (u18q.alloc (.cells #[.int .i64 0, .int .i64 0, .int .i64 0, .int .i64 0, .int .i64 0, .int .i64 0, .int .i64 0, .int .i64 0, .int .i64 0, .int .i64 0, .int .i64 0, .int .i64 0, .int .i64 0, .int .i64 0, .int .i64 0, .int .i64 0] 27)) = u76q at h73q h74q h75q hH ⊢
            try simp only [Act.put, List.setIfInBounds_toArray, List.set_cons_zero, List.set_cons_succ]
            refine wpAnyH_ready (rs := [5, 10]) (by kernel_rfl) (by simp) ?_
            refine AllReadyH.cons (o := { dst := some 33, op := _, type := _, pos := _, after := _, guard := _ }) rfl (fun K hK => ?_) ?_
            · go_simp
              refine (DO _).mono ?_
              rintro e u77q ⟨rfl, hb⟩
              have h78q : Hid (Gd n w u77q) := h73q.out.later hb
              have h79q : Hid (TAt u77q u3q.heap.size t) := h74q.out.later hb
              have h80q : Hid (TAt u77q u18q.heap.size Tb.zero) := h75q.out.later hb
              clear h73q h74q h75q
              clear hb
              go_wp2_with fail
              refine hK.out _ _ h79q.out (fun hH => ?_)
              clear hK K
              try simp only [Act.put, List.setIfInBounds_toArray, List.set_cons_zero, List.set_cons_succ]
              refine wpAnyH_take (i := 6) (oi := { dst := some 27, op := .move (.tmp 33), type := _, pos := _, after := _, guard := _ }) (v := ?_) rfl (by kernel_rfl) (by kernel_rfl) (by kernel_rfl) (fun _ _ _ h => h) (Or.inl ⟨by rfl, ?_⟩) hH ?_
              rotate_left
              · intro w hSw
                clear hSw
                go_simp
                try with_reducible rfl
              simp only [Act.put, List.setIfInBounds_toArray, List.set_cons_zero, List.set_cons_succ]
              refine wpAnyH_take (i := 7) (oi := { dst := some 34, op := .extract (.tmp 27) 0, type := _, pos := _, after := _, guard := _ }) (v := ?_) rfl (by kernel_rfl) (by kernel_rfl) (by kernel_rfl) (fun _ _ _ h => h) (Or.inl ⟨by rfl, ?_⟩) hH ?_
              rotate_left
              · intro w hSw
                clear hSw
                go_simp
                try with_reducible rfl
              simp only [Act.put, List.setIfInBounds_toArray, List.set_cons_zero, List.set_cons_succ]
              refine wpAnyH_take (i := 8) (oi := { dst := some 35, op := .extract (.tmp 27) 1, type := _, pos := _, after := _, guard := _ }) (v := ?_) rfl (by kernel_rfl) (by kernel_rfl) (by kernel_rfl) (fun _ _ _ h => h) (Or.inl ⟨by rfl, ?_⟩) hH ?_
              rotate_left
              · intro w hSw
                clear hSw
                go_simp
                try with_reducible rfl
              simp only [Act.put, List.setIfInBounds_toArray, List.set_cons_zero, List.set_cons_succ]
              refine wpAnyH_ready (rs := [10]) (by kernel_rfl) (by simp) ?_
              refine AllReadyH.cons (o := { dst := some 11, op := .alloc _, type := _, pos := _, after := _, guard := _ }) rfl (fun K hK => ?_) AllReadyH.nil
              have l81q : n ≤ u77q.heap.size := h78q.out.le
              have l82q : u3q.heap.size < u77q.heap.size := h79q.out.lt
              have l83q : u18q.heap.size < u77q.heap.size := h80q.out.lt
              go_simp
              have h84q : Hid (Gd n w (u77q.alloc (.cells #[.int .i64 0, .int .i64 0] 31))) := h78q.out.new (.cells #[.int .i64 0, .int .i64 0] 31)
              have h85q : Hid (TAt (u77q.alloc (.cells #[.int .i64 0, .int .i64 0] 31)) u3q.heap.size t) := h79q.out.new (.cells #[.int .i64 0, .int .i64 0] 31)
              have h86q : Hid (TAt (u77q.alloc (.cells #[.int .i64 0, .int .i64 0] 31)) u18q.heap.size Tb.zero) := h80q.out.new (.cells #[.int .i64 0, .int .i64 0] 31)
              clear h78q h79q h80q
              have h87q : Hid (Bo (u77q.alloc (.cells #[.int .i64 0, .int .i64 0] 31)) u77q.heap.size [.int .i64 0, .int .i64 0]) := Bo.born u77q [.int .i64 0, .int .i64 0] 31 (by simp)
              refine hK.out _ _ h85q.out (fun hH => ?_)
              clear hK K
              generalize (u77q.alloc (.cells #[.int .i64 0, .int .i64 0] 31)) = u88q at h84q h85q h86q h87q hH ⊢
              try simp only [Act.put, List.setIfInBounds_toArray, List.set_cons_zero, List.set_cons_succ]
              refine wpAnyH_ready (rs := [11]) (by kernel_rfl) (by simp) ?_
              refine AllReadyH.cons (o := { dst := none, op := .store _ (.tmp 10) (.tmp 34), type := _, pos := _, after := _, guard := _ }) rfl (fun K hK => ?_) AllReadyH.nil
              rw [if_pos (by rfl)]
              refine wp_store_mid _ _ _ rfl u18q.heap.size _ t.all.toArray rfl rfl (h86q.out.thereOf t) (HZ.out t) (t.all_all) ?_
              simp only [Act.put]
              have h89q : Hid (Gd n w (u88q.setCells u18q.heap.size 0 t.all)) := h84q.out.asideAll (by omega) t
              have h90q : Hid (TAt (u88q.setCells u18q.heap.size 0 t.all) u3q.heap.size t) := h85q.out.asideAll (by omega) t
              have h91q : Hid (TAt (u88q.setCells u18q.heap.size 0 t.all) u18q.heap.size t) := h86q.out.setAll t
              have h92q : Hid (Bo (u88q.setCells u18q.heap.size 0 t.all) u77q.heap.size [.int .i64 0, .int .i64 0]) := h87q.out.asideAll (by omega) t
              clear h84q h85q h86q h87q
              refine hK.out _ _ h90q.out (fun hH => ?_)
              clear hK K
              generalize (u88q.setCells u18q.heap.size 0 t.all) = u93q at h89q h90q h91q h92q hH ⊢
              try simp only [Act.put, List.setIfInBounds_toArray, List.set_cons_zero, List.set_cons_succ]
              refine wpAnyH_ready (rs := [12]) (by kernel_rfl) (by simp) ?_
              refine AllReadyH.cons (o := { dst := none, op := .store _ (.tmp 11) (.tmp 35), type := _, pos := _, after := _, guard := _ }) rfl (fun K hK => ?_) AllReadyH.nil
              rw [if_pos (by rfl)]
              refine wp_store_mid _ _ _ rfl u77q.heap.size _ #[.int .i64 (3), .int .i64 (0)] rfl rfl h92q.out.there2 HA.out (two_one _ _) ?_
              simp only [Act.put]
              have h94q : Hid (Gd n w (u93q.setCells u77q.heap.size 0 [.int .i64 (3), .int .i64 (0)])) := h89q.out.asideL (by omega) 0 [.int .i64 (3), .int .i64 (0)]
              have h95q : Hid (TAt (u93q.setCells u77q.heap.size 0 [.int .i64 (3), .int .i64 (0)]) u3q.heap.size t) := h90q.out.asideL (by omega) 0 [.int .i64 (3), .int .i64 (0)]
              have h96q : Hid (TAt (u93q.setCells u77q.heap.size 0 [.int .i64 (3), .int .i64 (0)]) u18q.heap.size t) := h91q.out.asideL (by omega) 0 [.int .i64 (3), .int .i64 (0)]
              have h97q : Hid (Bo (u93q.setCells u77q.heap.size 0 [.int .i64 (3), .int .i64 (0)]) u77q.heap.size [.int .i64 (3), .int .i64 (0)]) := h92q.out.set2 (.int .i64 (3)) (.int .i64 (0))
              clear h89q h90q h91q h92q
              refine hK.out _ _ h95q.out (fun hH => ?_)
              clear hK K
              generalize (u93q.setCells u77q.heap.size 0 [.int .i64 (3), .int .i64 (0)]) = u98q at h94q h95q h96q h97q hH ⊢
              try simp only [Act.put, List.setIfInBounds_toArray, List.set_cons_zero, List.set_cons_succ]
              refine wpAnyH_done (by kernel_rfl) ?_ _
              go_wp2_with fail
              go_meet
              case rel => exact ⟨u18q.heap.size, u77q.heap.size, rfl, rfl, h94q, h95q, h96q, h97q⟩
            refine AllReadyH.cons (o := { dst := some 11, op := .alloc _, type := _, pos := _, after := _, guard := _ }) rfl (fun K hK => ?_) AllReadyH.nil
            have l99q : n ≤ u76q.heap.size := h73q.out.le
            have l100q : u3q.heap.size < u76q.heap.size := h74q.out.lt
            have l101q : u18q.heap.size < u76q.heap.size := h75q.out.lt
            go_simp
            have h102q : Hid (Gd n w (u76q.alloc (.cells #[.int .i64 0, .int .i64 0] 31))) := h73q.out.new (.cells #[.int .i64 0, .int .i64 0] 31)
            have h103q : Hid (TAt (u76q.alloc (.cells #[.int .i64 0, .int .i64 0] 31)) u3q.heap.size t) := h74q.out.new (.cells #[.int .i64 0, .int .i64 0] 31)
            have h104q : Hid (TAt (u76q.alloc (.cells #[.int .i64 0, .int .i64 0] 31)) u18q.heap.size Tb.zero) := h75q.out.new (.cells #[.int .i64 0, .int .i64 0] 31)
            clear h73q h74q h75q
            have h105q : Hid (Bo (u76q.alloc (.cells #[.int .i64 0, .int .i64 0] 31)) u76q.heap.size [.int .i64 0, .int .i64 0]) := Bo.born u76q [.int .i64 0, .int .i64 0] 31 (by simp)
            refine hK.out _ _ h103q.out (fun hH => ?_)
            clear hK K
            generalize (u76q.alloc (.cells #[.int .i64 0, .int .i64 0] 31)) = u106q at h102q h103q h104q h105q hH ⊢
            try simp only [Act.put, List.setIfInBounds_toArray, List.set_cons_zero, List.set_cons_succ]
            refine wpAnyH_ready (rs := [5]) (by kernel_rfl) (by simp) ?_
            refine AllReadyH.cons (o := { dst := some 33, op := _, type := _, pos := _, after := _, guard := _ }) rfl (fun K hK => ?_) AllReadyH.nil
            go_simp
            refine (DO _).mono ?_
            rintro e u107q ⟨rfl, hb⟩
            have h108q : Hid (Gd n w u107q) := h102q.out.later hb
            have h109q : Hid (TAt u107q u3q.heap.size t) := h103q.out.later hb
            have h110q : Hid (TAt u107q u18q.heap.size Tb.zero) := h104q.out.later hb
            have h111q : Hid (Bo u107q u76q.heap.size [.int .i64 0, .int .i64 0]) := h105q.out.later hb
            clear h102q h103q h104q h105q
            clear hb
            go_wp2_with fail
            refine hK.out _ _ h109q.out (fun hH => ?_)
            clear hK K
            try simp only [Act.put, List.setIfInBounds_toArray, List.set_cons_zero, List.set_cons_succ]
            refine wpAnyH_take (i := 6) (oi := { dst := some 27, op := .move (.tmp 33), type := _, pos := _, after := _, guard := _ }) (v := ?_) rfl (by kernel_rfl) (by kernel_rfl) (by kernel_rfl) (fun _ _ _ h => h) (Or.inl ⟨by rfl, ?_⟩) hH ?_
            rotate_left
            · intro w hSw
              clear hSw
              go_simp
              try with_reducible rfl
            simp only [Act.put, List.setIfInBounds_toArray, List.set_cons_zero, List.set_cons_succ]
            refine wpAnyH_take (i := 7) (oi := { dst := some 34, op := .extract (.tmp 27) 0, type := _, pos := _, after := _, guard := _ }) (v := ?_) rfl (by kernel_rfl) (by kernel_rfl) (by kernel_rfl) (fun _ _ _ h => h) (Or.inl ⟨by rfl, ?_⟩) hH ?_
            rotate_left
            · intro w hSw
              clear hSw
              go_simp
              try with_reducible rfl
            simp only [Act.put, List.setIfInBounds_toArray, List.set_cons_zero, List.set_cons_succ]
            refine wpAnyH_take (i := 8) (oi := { dst := some 35, op := .extract (.tmp 27) 1, type := _, pos := _, after := _, guard := _ }) (v := ?_) rfl (by kernel_rfl) (by kernel_rfl) (by kernel_rfl) (fun _ _ _ h => h) (Or.inl ⟨by rfl, ?_⟩) hH ?_
            rotate_left
            · intro w hSw
              clear hSw
              go_simp
              try with_reducible rfl
            simp only [Act.put, List.setIfInBounds_toArray, List.set_cons_zero, List.set_cons_succ]
            refine wpAnyH_ready (rs := [11]) (by kernel_rfl) (by simp) ?_
            refine AllReadyH.cons (o := { dst := none, op := .store _ (.tmp 10) (.tmp 34), type := _, pos := _, after := _, guard := _ }) rfl (fun K hK => ?_) AllReadyH.nil
            rw [if_pos (by rfl)]
            refine wp_store_mid _ _ _ rfl u18q.heap.size _ t.all.toArray rfl rfl (h110q.out.thereOf t) (HZ.out t) (t.all_all) ?_
            simp only [Act.put]
            have h112q : Hid (Gd n w (u107q.setCells u18q.heap.size 0 t.all)) := h108q.out.asideAll (by omega) t
            have h113q : Hid (TAt (u107q.setCells u18q.heap.size 0 t.all) u3q.heap.size t) := h109q.out.asideAll (by omega) t
            have h114q : Hid (TAt (u107q.setCells u18q.heap.size 0 t.all) u18q.heap.size t) := h110q.out.setAll t
            have h115q : Hid (Bo (u107q.setCells u18q.heap.size 0 t.all) u76q.heap.size [.int .i64 0, .int .i64 0]) := h111q.out.asideAll (by omega) t
            clear h108q h109q h110q h111q
            refine hK.out _ _ h113q.out (fun hH => ?_)
            clear hK K
            generalize (u107q.setCells u18q.heap.size 0 t.all) = u116q at h112q h113q h114q h115q hH ⊢
            try simp only [Act.put, List.setIfInBounds_toArray, List.set_cons_zero, List.set_cons_succ]
            refine wpAnyH_ready (rs := [12]) (by kernel_rfl) (by simp) ?_
            refine AllReadyH.cons (o := { dst := none, op := .store _ (.tmp 11) (.tmp 35), type := _, pos := _, after := _, guard := _ }) rfl (fun K hK => ?_) AllReadyH.nil
            rw [if_pos (by rfl)]
            refine wp_store_mid _ _ _ rfl u76q.heap.size _ #[.int .i64 (3), .int .i64 (0)] rfl rfl h115q.out.there2 HA.out (two_one _ _) ?_
            simp only [Act.put]
            have h117q : Hid (Gd n w (u116q.setCells u76q.heap.size 0 [.int .i64 (3), .int .i64 (0)])) := h112q.out.asideL (by omega) 0 [.int .i64 (3), .int .i64 (0)]
            have h118q : Hid (TAt (u116q.setCells u76q.heap.size 0 [.int .i64 (3), .int .i64 (0)]) u3q.heap.size t) := h113q.out.asideL (by omega) 0 [.int .i64 (3), .int .i64 (0)]
            have h119q : Hid (TAt (u116q.setCells u76q.heap.size 0 [.int .i64 (3), .int .i64 (0)]) u18q.heap.size t) := h114q.out.asideL (by omega) 0 [.int .i64 (3), .int .i64 (0)]
            have h120q : Hid (Bo (u116q.setCells u76q.heap.size 0 [.int .i64 (3), .int .i64 (0)]) u76q.heap.size [.int .i64 (3), .int .i64 (0)]) := h115q.out.set2 (.int .i64 (3)) (.int .i64 (0))
            clear h112q h113q h114q h115q
            refine hK.out _ _ h118q.out (fun hH => ?_)
            clear hK K
            generalize (u116q.setCells u76q.heap.size 0 [.int .i64 (3), .int .i64 (0)]) = u121q at h117q h118q h119q h120q hH ⊢
            try simp only [Act.put, List.setIfInBounds_toArray, List.set_cons_zero, List.set_cons_succ]
            refine wpAnyH_done (by kernel_rfl) ?_ _
            go_wp2_with fail
            go_meet
            case rel => exact ⟨u18q.heap.size, u76q.heap.size, rfl, rfl, h117q, h118q, h119q, h120q⟩
          refine AllReadyH.cons (o := { dst := some 11, op := .alloc _, type := _, pos := _, after := _, guard := _ }) rfl (fun K hK => ?_) AllReadyH.nil
          have l122q : n ≤ u18q.heap.size := h16q.out.le
          have l123q : u3q.heap.size < u18q.heap.size := h17q.out.lt
          go_simp
          have h124q : Hid (Gd n w (u18q.alloc (.cells #[.int .i64 0, .int .i64 0] 31))) := h16q.out.new (.cells #[.int .i64 0, .int .i64 0] 31)
          have h125q : Hid (TAt (u18q.alloc (.cells #[.int .i64 0, .int .i64 0] 31)) u3q.heap.size t) := h17q.out.new (.cells #[.int .i64 0, .int .i64 0] 31)
          clear h16q h17q
          have h126q : Hid (Bo (u18q.alloc (.cells #[.int .i64 0, .int .i64 0] 31)) u18q.heap.size [.int .i64 0, .int .i64 0]) := Bo.born u18q [.int .i64 0, .int .i64 0] 31 (by simp)
          refine hK.out _ _ h125q.out (fun hH => ?_)
          clear hK K
          generalize (u18q.alloc (.cells #[.int .i64 0, .int .i64 0] 31)) = u127q at h124q h125q h126q hH ⊢
          try simp only [Act.put, List.setIfInBounds_toArray, List.set_cons_zero, List.set_cons_succ]
          refine wpAnyH_ready (rs := [5, 9]) (by kernel_rfl) (by simp) ?_
          refine AllReadyH.cons (o := { dst := some 33, op := _, type := _, pos := _, after := _, guard := _ }) rfl (fun K hK => ?_) ?_
          · go_simp
            refine (DO _).mono ?_
            rintro e u128q ⟨rfl, hb⟩
            have h129q : Hid (Gd n w u128q) := h124q.out.later hb
            have h130q : Hid (TAt u128q u3q.heap.size t) := h125q.out.later hb
            have h131q : Hid (Bo u128q u18q.heap.size [.int .i64 0, .int .i64 0]) := h126q.out.later hb
            clear h124q h125q h126q
            clear hb
            go_wp2_with fail
            refine hK.out _ _ h130q.out (fun hH => ?_)
            clear hK K
            try simp only [Act.put, List.setIfInBounds_toArray, List.set_cons_zero, List.set_cons_succ]
            refine wpAnyH_take (i := 6) (oi := { dst := some 27, op := .move (.tmp 33), type := _, pos := _, after := _, guard := _ }) (v := ?_) rfl (by kernel_rfl) (by kernel_rfl) (by kernel_rfl) (fun _ _ _ h => h) (Or.inl ⟨by rfl, ?_⟩) hH ?_
            rotate_left
            · intro w hSw
              clear hSw
              go_simp
              try with_reducible rfl
            simp only [Act.put, List.setIfInBounds_toArray, List.set_cons_zero, List.set_cons_succ]
            refine wpAnyH_take (i := 7) (oi := { dst := some 34, op := .extract (.tmp 27) 0, type := _, pos := _, after := _, guard := _ }) (v := ?_) rfl (by kernel_rfl) (by kernel_rfl) (by kernel_rfl) (fun _ _ _ h => h) (Or.inl ⟨by rfl, ?_⟩) hH ?_
            rotate_left
            · intro w hSw
              clear hSw
              go_simp
              try with_reducible rfl
            simp only [Act.put, List.setIfInBounds_toArray, List.set_cons_zero, List.set_cons_succ]
            refine wpAnyH_take (i := 8) (oi := { dst := some 35, op := .extract (.tmp 27) 1, type := _, pos := _, after := _, guard := _ }) (v := ?_) rfl (by kernel_rfl) (by kernel_rfl) (by kernel_rfl) (fun _ _ _ h => h) (Or.inl ⟨by rfl, ?_⟩) hH ?_
            rotate_left
            · intro w hSw
              clear hSw
              go_simp
              try with_reducible rfl
            simp only [Act.put, List.setIfInBounds_toArray, List.set_cons_zero, List.set_cons_succ]
            refine wpAnyH_ready (rs := [9]) (by kernel_rfl) (by simp) ?_
            refine AllReadyH.cons (o := { dst := some 10, op := .alloc _, type := _, pos := _, after := _, guard := _ }) rfl (fun K hK => ?_) AllReadyH.nil
            have l132q : n ≤ u128q.heap.size := h129q.out.le
            have l133q : u3q.heap.size < u128q.heap.size := h130q.out.lt
            have l134q : u18q.heap.size < u128q.heap.size := h131q.out.lt
            go_simp
            have h135q : Hid (Gd n w (u128q.alloc (.cells #[.int .i64 0, .int .i64 0, .int .i64 0, .int .i64 0, .int .i64 0, .int .i64 0, .int .i64 0, .int .i64 0, .int .i64 0, .int .i64 0, .int .i64 0, .int .i64 0, .int .i64 0, .int .i64 0, .int .i64 0, .int .i64 0] 27))) := h129q.out.new (.cells #[.int .i64 0, .int .i64 0, .int .i64 0, .int .i64 0, .int .i64 0, .int .i64 0, .int .i64 0, .int .i64 0, .int .i64 0, .int .i64 0, .int .i64 0, .int .i64 0, .int .i64 0, .int .i64 0, .int .i64 0, .int .i64 0] 27)
            have h136q : Hid (TAt (u128q.alloc (.cells #[.int .i64 0, .int .i64 0, .int .i64 0, .int .i64 0, .int .i64 0, .int .i64 0, .int .i64 0, .int .i64 0, .int .i64 0, .int .i64 0, .int .i64 0, .int .i64 0, .int .i64 0, .int .i64 0, .int .i64 0, .int .i64 0] 27)) u3q.heap.size t) := h130q.out.new (.cells #[.int .i64 0, .int .i64 0, .int .i64 0, .int .i64 0, .int .i64 0, .int .i64 0, .int .i64 0, .int .i64 0, .int .i64 0, .int .i64 0, .int .i64 0, .int .i64 0, .int .i64 0, .int .i64 0, .int .i64 0, .int .i64 0] 27)
            have h137q : Hid (Bo (u128q.alloc (.cells #[.int .i64 0, .int .i64 0, .int .i64 0, .int .i64 0, .int .i64 0, .int .i64 0, .int .i64 0, .int .i64 0, .int .i64 0, .int .i64 0, .int .i64 0, .int .i64 0, .int .i64 0, .int .i64 0, .int .i64 0, .int .i64 0] 27)) u18q.heap.size [.int .i64 0, .int .i64 0]) := h131q.out.new (.cells #[.int .i64 0, .int .i64 0, .int .i64 0, .int .i64 0, .int .i64 0, .int .i64 0, .int .i64 0, .int .i64 0, .int .i64 0, .int .i64 0, .int .i64 0, .int .i64 0, .int .i64 0, .int .i64 0, .int .i64 0, .int .i64 0] 27)
            clear h129q h130q h131q
            have h138q : Hid (TAt (u128q.alloc (.cells #[.int .i64 0, .int .i64 0, .int .i64 0, .int .i64 0, .int .i64 0, .int .i64 0, .int .i64 0, .int .i64 0, .int .i64 0, .int .i64 0, .int .i64 0, .int .i64 0, .int .i64 0, .int .i64 0, .int .i64 0, .int .i64 0] 27)) u128q.heap.size Tb.zero) := TAt.bornZero u128q 27 (by simp)
            refine hK.out _ _ h136q.out (fun hH => ?_)
            clear hK K
            generalize (u128q.alloc (.cells #[.int .i64 0, .int .i64 0, .int .i64 0, .int .i64 0, .int .i64 0, .int .i64 0, .int .i64 0, .int .i64 0, .int .i64 0, .int .i64 0, .int .i64 0, .int .i64 0, .int .i64 0, .int .i64 0, .int .i64 0, .int .i64 0] 27)) = u139q at h135q h136q h137q h138q hH ⊢
            try simp only [Act.put, List.setIfInBounds_toArray, List.set_cons_zero, List.set_cons_succ]
            refine wpAnyH_ready (rs := [11]) (by kernel_rfl) (by simp) ?_
            refine AllReadyH.cons (o := { dst := none, op := .store _ (.tmp 10) (.tmp 34), type := _, pos := _, after := _, guard := _ }) rfl (fun K hK => ?_) AllReadyH.nil
            rw [if_pos (by rfl)]
            refine wp_store_mid _ _ _ rfl u128q.heap.size _ t.all.toArray rfl rfl (h138q.out.thereOf t) (HZ.out t) (t.all_all) ?_
            simp only [Act.put]
            have h140q : Hid (Gd n w (u139q.setCells u128q.heap.size 0 t.all)) := h135q.out.asideAll (by omega) t
            have h141q : Hid (TAt (u139q.setCells u128q.heap.size 0 t.all) u3q.heap.size t) := h136q.out.asideAll (by omega) t
            have h142q : Hid (Bo (u139q.setCells u128q.heap.size 0 t.all) u18q.heap.size [.int .i64 0, .int .i64 0]) := h137q.out.asideAll (by omega) t
            have h143q : Hid (TAt (u139q.setCells u128q.heap.size 0 t.all) u128q.heap.size t) := h138q.out.setAll t
            clear h135q h136q h137q h138q
            refine hK.out _ _ h141q.out (fun hH => ?_)
            clear hK K
            generalize (u139q.setCells u128q.heap.size 0 t.all) = u144q at h140q h141q h142q h143q hH ⊢
            try simp only [Act.put, List.setIfInBounds_toArray, List.set_cons_zero, List.set_cons_succ]
            refine wpAnyH_ready (rs := [12]) (by kernel_rfl) (by simp) ?_
            refine AllReadyH.cons (o := { dst := none, op := .store _ (.tmp 11) (.tmp 35), type := _, pos := _, after := _, guard := _ }) rfl (fun K hK => ?_) AllReadyH.nil
            rw [if_pos (by rfl)]
            refine wp_store_mid _ _ _ rfl u18q.heap.size _ #[.int .i64 (3), .int .i64 (0)] rfl rfl h142q.out.there2 HA.out (two_one _ _) ?_
            simp only [Act.put]
            have h145q : Hid (Gd n w (u144q.setCells u18q.heap.size 0 [.int .i64 (3), .int .i64 (0)])) := h140q.out.asideL (by omega) 0 [.int .i64 (3), .int .i64 (0)]
            have h146q : Hid (TAt (u144q.setCells u18q.heap.size 0 [.int .i64 (3), .int .i64 (0)]) u3q.heap.size t) := h141q.out.asideL (by omega) 0 [.int .i64 (3), .int .i64 (0)]
            have h147q : Hid (Bo (u144q.setCells u18q.heap.size 0 [.int .i64 (3), .int .i64 (0)]) u18q.heap.size [.int .i64 (3), .int .i64 (0)]) := h142q.out.set2 (.int .i64 (3)) (.int .i64 (0))
            have h148q : Hid (TAt (u144q.setCells u18q.heap.size 0 [.int .i64 (3), .int .i64 (0)]) u128q.heap.size t) := h143q.out.asideL (by omega) 0 [.int .i64 (3), .int .i64 (0)]
            clear h140q h141q h142q h143q
            refine hK.out _ _ h146q.out (fun hH => ?_)
            clear hK K
            generalize (u144q.setCells u18q.heap.size 0 [.int .i64 (3), .int .i64 (0)]) = u149q at h145q h146q h147q h148q hH ⊢
            try simp only [Act.put, List.setIfInBounds_toArray, List.set_cons_zero, List.set_cons_succ]
            refine wpAnyH_done (by kernel_rfl) ?_ _
            go_wp2_with fail
            go_meet
            case rel => exact ⟨u128q.heap.size, u18q.heap.size, rfl, rfl, h145q, h146q, h148q, h147q⟩
          refine AllReadyH.cons (o := { dst := some 10, op := .alloc _, type := _, pos := _, after := _, guard := _ }) rfl (fun K hK => ?_) AllReadyH.nil
          have l150q : n ≤ u127q.heap.size := h124q.out.le
          have l151q : u3q.heap.size < u127q.heap.size := h125q.out.lt
          have l152q : u18q.heap.size < u127q.heap.size := h126q.out.lt
          go_simp
          have h153q : Hid (Gd n w (u127q.alloc (.cells #[.int .i64 0, .int .i64 0, .int .i64 0, .int .i64 0, .int .i64 0, .int .i64 0, .int .i64 0, .int .i64 0, .int .i64 0, .int .i64 0, .int .i64 0, .int .i64 0, .int .i64 0, .int .i64 0, .int .i64 0, .int .i64 0] 27))) := h124q.out.new (.cells #[.int .i64 0, .int .i64 0, .int .i64 0, .int .i64 0, .int .i64 0, .int .i64 0, .int .i64 0, .int .i64 0, .int .i64 0, .int .i64 0, .int .i64 0, .int .i64 0, .int .i64 0, .int .i64 0, .int .i64 0, .int .i64 0] 27)
          have h154q : Hid (TAt (u127q.alloc (.cells #[.int .i64 0, .int .i64 0, .int .i64 0, .int .i64 0, .int .i64 0, .int .i64 0, .int .i64 0, .int .i64 0, .int .i64 0, .int .i64 0, .int .i64 0, .int .i64 0, .int .i64 0, .int .i64 0, .int .i64 0, .int .i64 0] 27)) u3q.heap.size t) := h125q.out.new (.cells #[.int .i64 0, .int .i64 0, .int .i64 0, .int .i64 0, .int .i64 0, .int .i64 0, .int .i64 0, .int .i64 0, .int .i64 0, .int .i64 0, .int .i64 0, .int .i64 0, .int .i64 0, .int .i64 0, .int .i64 0, .int .i64 0] 27)
          have h155q : Hid (Bo (u127q.alloc (.cells #[.int .i64 0, .int .i64 0, .int .i64 0, .int .i64 0, .int .i64 0, .int .i64 0, .int .i64 0, .int .i64 0, .int .i64 0, .int .i64 0, .int .i64 0, .int .i64 0, .int .i64 0, .int .i64 0, .int .i64 0, .int .i64 0] 27)) u18q.heap.size [.int .i64 0, .int .i64 0]) := h126q.out.new (.cells #[.int .i64 0, .int .i64 0, .int .i64 0, .int .i64 0, .int .i64 0, .int .i64 0, .int .i64 0, .int .i64 0, .int .i64 0, .int .i64 0, .int .i64 0, .int .i64 0, .int .i64 0, .int .i64 0, .int .i64 0, .int .i64 0] 27)
          clear h124q h125q h126q
          have h156q : Hid (TAt (u127q.alloc (.cells #[.int .i64 0, .int .i64 0, .int .i64 0, .int .i64 0, .int .i64 0, .int .i64 0, .int .i64 0, .int .i64 0, .int .i64 0, .int .i64 0, .int .i64 0, .int .i64 0, .int .i64 0, .int .i64 0, .int .i64 0, .int .i64 0] 27)) u127q.heap.size Tb.zero) := TAt.bornZero u127q 27 (by simp)
          refine hK.out _ _ h154q.out (fun hH => ?_)
          clear hK K
          generalize (u127q.alloc (.cells #[.int .i64 0, .int .i64 0, .int .i64 0, .int .i64 0, .int .i64 0, .int .i64 0, .int .i64 0, .int .i64 0, .int .i64 0, .int .i64 0, .int .i64 0, .int .i64 0, .int .i64 0, .int .i64 0, .int .i64 0, .int .i64 0] 27)) = u157q at h153q h154q h155q h156q hH ⊢
          try simp only [Act.put, List.setIfInBounds_toArray, List.set_cons_zero, List.set_cons_succ]
          refine wpAnyH_ready (rs := [5]) (by kernel_rfl) (by simp) ?_
          refine AllReadyH.cons (o := { dst := some 33, op := _, type := _, pos := _, after := _, guard := _ }) rfl (fun K hK => ?_) AllReadyH.nil
          go_simp
          refine (DO _).mono ?_
          rintro e u158q ⟨rfl, hb⟩
          have h159q : Hid (Gd n w u158q) := h153q.out.later hb
          have h160q : Hid (TAt u158q u3q.heap.size t) := h154q.out.later hb
          have h161q : Hid (Bo u158q u18q.heap.size [.int .i64 0, .int .i64 0]) := h155q.out.later hb
          have h162q : Hid (TAt u158q u127q.heap.size Tb.zero) := h156q.out.later hb
          clear h153q h154q h155q h156q
          clear hb
          go_wp2_with fail
          refine hK.out _ _ h160q.out (fun hH => ?_)
          clear hK K
          try simp only [Act.put, List.setIfInBounds_toArray, List.set_cons_zero, List.set_cons_succ]
          refine wpAnyH_take (i := 6) (oi := { dst := some 27, op := .move (.tmp 33), type := _, pos := _, after := _, guard := _ }) (v := ?_) rfl (by kernel_rfl) (by kernel_rfl) (by kernel_rfl) (fun _ _ _ h => h) (Or.inl ⟨by rfl, ?_⟩) hH ?_
          rotate_left
          · intro w hSw
            clear hSw
            go_simp
            try with_reducible rfl
          simp only [Act.put, List.setIfInBounds_toArray, List.set_cons_zero, List.set_cons_succ]
          refine wpAnyH_take (i := 7) (oi := { dst := some 34, op := .extract (.tmp 27) 0, type := _, pos := _, after := _, guard := _ }) (v := ?_) rfl (by kernel_rfl) (by kernel_rfl) (by kernel_rfl) (fun _ _ _ h => h) (Or.inl ⟨by rfl, ?_⟩) hH ?_
          rotate_left
          · intro w hSw
            clear hSw
            go_simp
            try with_reducible rfl
          simp only [Act.put, List.setIfInBounds_toArray, List.set_cons_zero, List.set_cons_succ]
          refine wpAnyH_take (i := 8) (oi := { dst := some 35, op := .extract (.tmp 27) 1, type := _, pos := _, after := _, guard := _ }) (v := ?_) rfl (by kernel_rfl) (by kernel_rfl) (by kernel_rfl) (fun _ _ _ h => h) (Or.inl ⟨by rfl, ?_⟩) hH ?_
          rotate_left
          · intro w hSw
            clear hSw
            go_simp
            try with_reducible rfl
          simp only [Act.put, List.setIfInBounds_toArray, List.set_cons_zero, List.set_cons_succ]
          refine wpAnyH_ready (rs := [11]) (by kernel_rfl) (by simp) ?_
          refine AllReadyH.cons (o := { dst := none, op := .store _ (.tmp 10) (.tmp 34), type := _, pos := _, after := _, guard := _ }) rfl (fun K hK => ?_) AllReadyH.nil
          rw [if_pos (by rfl)]
          refine wp_store_mid _ _ _ rfl u127q.heap.size _ t.all.toArray rfl rfl (h162q.out.thereOf t) (HZ.out t) (t.all_all) ?_
          simp only [Act.put]
          have h163q : Hid (Gd n w (u158q.setCells u127q.heap.size 0 t.all)) := h159q.out.asideAll (by omega) t
          have h164q : Hid (TAt (u158q.setCells u127q.heap.size 0 t.all) u3q.heap.size t) := h160q.out.asideAll (by omega) t
          have h165q : Hid (Bo (u158q.setCells u127q.heap.size 0 t.all) u18q.heap.size [.int .i64 0, .int .i64 0]) := h161q.out.asideAll (by omega) t
          have h166q : Hid (TAt (u158q.setCells u127q.heap.size 0 t.all) u127q.heap.size t) := h162q.out.setAll t
          clear h159q h160q h161q h162q
          refine hK.out _ _ h164q.out (fun hH => ?_)
          clear hK K
          generalize (u158q.setCells u127q.heap.size 0 t.all) = u167q at h163q h164q h165q h166q hH ⊢
          try simp only [Act.put, List.setIfInBounds_toArray, List.set_cons_zero, List.set_cons_succ]
          refine wpAnyH_ready (rs := [12]) (by kernel_rfl) (by simp) ?_
          refine AllReadyH.cons (o := { dst := none, op := .store _ (.tmp 11) (.tmp 35), type := _, pos := _, after := _, guard := _ }) rfl (fun K hK => ?_) AllReadyH.nil
          rw [if_pos (by rfl)]
          refine wp_store_mid _ _ _ rfl u18q.heap.size _ #[.int .i64 (3), .int .i64 (0)] rfl rfl h165q.out.there2 HA.out (two_one _ _) ?_
          simp only [Act.put]
          have h168q : Hid (Gd n w (u167q.setCells u18q.heap.size 0 [.int .i64 (3), .int .i64 (0)])) := h163q.out.asideL (by omega) 0 [.int .i64 (3), .int .i64 (0)]
          have h169q : Hid (TAt (u167q.setCells u18q.heap.size 0 [.int .i64 (3), .int .i64 (0)]) u3q.heap.size t) := h164q.out.asideL (by omega) 0 [.int .i64 (3), .int .i64 (0)]
          have h170q : Hid (Bo (u167q.setCells u18q.heap.size 0 [.int .i64 (3), .int .i64 (0)]) u18q.heap.size [.int .i64 (3), .int .i64 (0)]) := h165q.out.set2 (.int .i64 (3)) (.int .i64 (0))
          have h171q : Hid (TAt (u167q.setCells u18q.heap.size 0 [.int .i64 (3), .int .i64 (0)]) u127q.heap.size t) := h166q.out.asideL (by omega) 0 [.int .i64 (3), .int .i64 (0)]
          clear h163q h164q h165q h166q
          refine hK.out _ _ h169q.out (fun hH => ?_)
          clear hK K
          generalize (u167q.setCells u18q.heap.size 0 [.int .i64 (3), .int .i64 (0)]) = u172q at h168q h169q h170q h171q hH ⊢
          try simp only [Act.put, List.setIfInBounds_toArray, List.set_cons_zero, List.set_cons_succ]
          refine wpAnyH_done (by kernel_rfl) ?_ _
          go_wp2_with fail
          go_meet
          case rel => exact ⟨u127q.heap.size, u18q.heap.size, rfl, rfl, h168q, h169q, h171q, h170q⟩
        refine AllReadyH.cons (o := { dst := some 10, op := .alloc _, type := _, pos := _, after := _, guard := _ }) rfl (fun K hK => ?_) ?_
        · have l173q : n ≤ u18q.heap.size := h16q.out.le
          have l174q : u3q.heap.size < u18q.heap.size := h17q.out.lt
          go_simp
          have h175q : Hid (Gd n w (u18q.alloc (.cells #[.int .i64 0, .int .i64 0, .int .i64 0, .int .i64 0, .int .i64 0, .int .i64 0, .int .i64 0, .int .i64 0, .int .i64 0, .int .i64 0, .int .i64 0, .int .i64 0, .int .i64 0, .int .i64 0, .int .i64 0, .int .i64 0] 27))) := h16q.out.new (.cells #[.int .i64 0, .int .i64 0, .int .i64 0, .int .i64 0, .int .i64 0, .int .i64 0, .int .i64 0, .int .i64 0, .int .i64 0, .int .i64 0, .int .i64 0, .int .i64 0, .int .i64 0, .int .i64 0, .int .i64 0, .int .i64 0] 27)
          have h176q : Hid (TAt (u18q.alloc (.cells #[.int .i64 0, .int .i64 0, .int .i64 0, .int .i64 0, .int .i64 0, .int .i64 0, .int .i64 0, .int .i64 0, .int .i64 0, .int .i64 0, .int .i64 0, .int .i64 0, .int .i64 0, .int .i64 0, .int .i64 0, .int .i64 0] 27)) u3q.heap.size t) := h17q.out.new (.cells #[.int .i64 0, .int .i64 0, .int .i64 0, .int .i64 0, .int .i64 0, .int .i64 0, .int .i64 0, .int .i64 0, .int .i64 0, .int .i64 0, .int .i64 0, .int .i64 0, .int .i64 0, .int .i64 0, .int .i64 0, .int .i64 0] 27)
          clear h16q h17q
          have h177q : Hid (TAt (u18q.alloc (.cells #[.int .i64 0, .int .i64 0, .int .i64 0, .int .i64 0, .int .i64 0, .int .i64 0, .int .i64 0, .int .i64 0, .int .i64 0, .int .i64 0, .int .i64 0, .int .i64 0, .int .i64 0, .int .i64 0, .int .i64 0, .int .i64 0] 27)) u18q.heap.size Tb.zero) := TAt.bornZero u18q 27 (by simp)
          refine hK.out _ _ h176q.out (fun hH => ?_)
          clear hK K
          generalize (u18q.alloc (.cells #[.int .i64 0, .int .i64 0, .int .i64 0, .int .i64 0, .int .i64 0, .int .i64 0, .int .i64 0, .int .i64 0, .int .i64 0, .int .i64 0, .int .i64 0, .int .i64 0, .int .i64 0, .int .i64 0, .int .i64 0, .int .i64 0] 27)) = u178q at h175q h176q h177q hH ⊢
          try simp only [Act.put, List.setIfInBounds_toArray, List.set_cons_zero, List.set_cons_succ]
          refine wpAnyH_ready (rs := [3, 10]) (by kernel_rfl) (by simp) ?_
          refine AllReadyH.cons (o := { dst := some 31, op := _, type := _, pos := _, after := _, guard := _ }) rfl (fun K hK => ?_) ?_
          · go_simp
            refine (Pr2.out _).mono ?_
            rintro e u179q ⟨rfl, hw⟩
            rw [hw]; clear hw u179q
            go_wp2_with fail
            refine hK.out _ _ h176q.out (fun hH => ?_)
            clear hK K
            try simp only [Act.put, List.setIfInBounds_toArray, List.set_cons_zero, List.set_cons_succ]
            refine wpAnyH_take (i := 4) (oi := { dst := some 32, op := .build _ #[(0, .const (.int .i64 1)), (1, .tmp 29), (2, .tmp 31)], type := _, pos := _, after := _, guard := _ }) (v := ?_) rfl (by kernel_rfl) (by kernel_rfl) (by kernel_rfl) (fun _ _ _ h => h) (Or.inl ⟨by rfl, ?_⟩) hH ?_
            rotate_left
            · intro w hSw
              clear hSw
              go_simp
              try with_reducible rfl
            simp only [Act.put, List.setIfInBounds_toArray, List.set_cons_zero, List.set_cons_succ]
            refine wpAnyH_ready (rs := [5, 10]) (by kernel_rfl) (by simp) ?_
            refine AllReadyH.cons (o := { dst := some 33, op := _, type := _, pos := _, after := _, guard := _ }) rfl (fun K hK => ?_) ?_
            · go_simp
              refine (DO _).mono ?_
              rintro e u180q ⟨rfl, hb⟩
              have h181q : Hid (Gd n w u180q) := h175q.out.later hb
              have h182q : Hid (TAt u180q u3q.heap.size t) := h176q.out.later hb
              have h183q : Hid (TAt u180q u18q.heap.size Tb.zero) := h177q.out.later hb
              clear h175q h176q h177q
              clear hb
              go_wp2_with fail
              refine hK.out _ _ h182q.out (fun hH => ?_)
              clear hK K
              try simp only [Act.put, List.setIfInBounds_toArray, List.set_cons_zero, List.set_cons_succ]
              refine wpAnyH_take (i := 6) (oi := { dst := some 27, op := .move (.tmp 33), type := _, pos := _, after := _, guard := _ }) (v := ?_) rfl (by kernel_rfl) (by kernel_rfl) (by kernel_rfl) (fun _ _ _ h => h) (Or.inl ⟨by rfl, ?_⟩) hH ?_
              rotate_left
              · intro w hSw
                clear hSw
                go_simp
                try with_reducible rfl
              simp only [Act.put, List.setIfInBounds_toArray, List.set_cons_zero, List.set_cons_succ]
              refine wpAnyH_take (i := 7) (oi := { dst := some 34, op := .extract (.tmp 27) 0, type := _, pos := _, after := _, guard := _ }) (v := ?_) rfl (by kernel_rfl) (by kernel_rfl) (by kernel_rfl) (fun _ _ _ h => h) (Or.inl ⟨by rfl, ?_⟩) hH ?_
              rotate_left
              · intro w hSw
                clear hSw
                go_simp
                try with_reducible rfl
              simp only [Act.put, List.setIfInBounds_toArray, List.set_cons_zero, List.set_cons_succ]
              refine wpAnyH_take (i := 8) (oi := { dst := some 35, op := .extract (.tmp 27) 1, type := _, pos := _, after := _, guard := _ }) (v := ?_) rfl (by kernel_rfl) (by kernel_rfl) (by kernel_rfl) (fun _ _ _ h => h) (Or.inl ⟨by rfl, ?_⟩) hH ?_
              rotate_left
              · intro w hSw
                clear hSw
                go_simp
                try with_reducible rfl
              simp only [Act.put, List.setIfInBounds_toArray, List.set_cons_zero, List.set_cons_succ]
              refine wpAnyH_ready (rs := [10]) (by kernel_rfl) (by simp) ?_
              refine AllReadyH.cons (o := { dst := some 11, op := .alloc _, type := _, pos := _, after := _, guard := _ }) rfl (fun K hK => ?_) AllReadyH.nil
              have l184q : n ≤ u180q.heap.size := h181q.out.le
              have l185q : u3q.heap.size < u180q.heap.size := h182q.out.lt
              have l186q : u18q.heap.size < u180q.heap.size := h183q.out.lt
              go_simp
              have h187q : Hid (Gd n w (u180q.alloc (.cells #[.int .i64 0, .int .i64 0] 31))) := h181q.out.new (.cells #[.int .i64 0, .int .i64 0] 31)
              have h188q : Hid (TAt (u180q.alloc (.cells #[.int .i64 0, .int .i64 0] 31)) u3q.heap.size t) := h182q.out.new (.cells #[.int .i64 0, .int .i64 0] 31)
              have h189q : Hid (TAt (u180q.alloc (.cells #[.int .i64 0, .int .i64 0] 31)) u18q.heap.size Tb.zero) := h183q.out.new (.cells #[.int .i64 0, .int .i64 0] 31)
              clear h181q h182q h183q
              have h190q : Hid (Bo (u180q.alloc (.cells #[.int .i64 0, .int .i64 0] 31)) u180q.heap.size [.int .i64 0, .int .i64 0]) := Bo.born u180q [.int .i64 0, .int .i64 0] 31 (by simp)
              refine hK.out _ _ h188q.out (fun hH => ?_)
              clear hK K
              generalize (u180q.alloc (.cells #[.int .i64 0, .int .i64 0] 31)) = u191q at h187q h188q h189q h190q hH ⊢
              try simp only [Act.put, List.setIfInBounds_toArray, List.set_cons_zero, List.set_cons_succ]
              refine wpAnyH_ready (rs := [11]) (by kernel_rfl) (by simp) ?_
              refine AllReadyH.cons (o := { dst := none, op := .store _ (.tmp 10) (.tmp 34), type := _, pos := _, after := _, guard := _ }) rfl (fun K hK => ?_) AllReadyH.nil
              rw [if_pos (by rfl)]
              refine wp_store_mid _ _ _ rfl u18q.heap.size _ t.all.toArray rfl rfl (h189q.out.thereOf t) (HZ.out t) (t.all_all) ?_
              simp only [Act.put]
              have h192q : Hid (Gd n w (u191q.setCells u18q.heap.size 0 t.all)) := h187q.out.asideAll (by omega) t
              have h193q : Hid (TAt (u191q.setCells u18q.heap.size 0 t.all) u3q.heap.size t) := h188q.out.asideAll (by omega) t
              have h194q : Hid (TAt (u191q.setCells u18q.heap.size 0 t.all) u18q.heap.size t) := h189q.out.setAll t
              have h195q : Hid (Bo (u191q.setCells u18q.heap.size 0 t.all) u180q.heap.size [.int .i64 0, .int .i64 0]) := h190q.out.asideAll (by omega) t
              clear h187q h188q h189q h190q
              refine hK.out _ _ h193q.out (fun hH => ?_)
              clear hK K
              generalize (u191q.setCells u18q.heap.size 0 t.all) = u196q at h192q h193q h194q h195q hH ⊢
              try simp only [Act.put, List.setIfInBounds_toArray, List.set_cons_zero, List.set_cons_succ]
              refine wpAnyH_ready (rs := [12]) (by kernel_rfl) (by simp) ?_
              refine AllReadyH.cons (o := { dst := none, op := .store _ (.tmp 11) (.tmp 35), type := _, pos := _, after := _, guard := _ }) rfl (fun K hK => ?_) AllReadyH.nil
              rw [if_pos (by rfl)]
              refine wp_store_mid _ _ _ rfl u180q.heap.size _ #[.int .i64 (3), .int .i64 (0)] rfl rfl h195q.out.there2 HA.out (two_one _ _) ?_
              simp only [Act.put]
              have h197q : Hid (Gd n w (u196q.setCells u180q.heap.size 0 [.int .i64 (3), .int .i64 (0)])) := h192q.out.asideL (by omega) 0 [.int .i64 (3), .int .i64 (0)]
              have h198q : Hid (TAt (u196q.setCells u180q.heap.size 0 [.int .i64 (3), .int .i64 (0)]) u3q.heap.size t) := h193q.out.asideL (by omega) 0 [.int .i64 (3), .int .i64 (0)]
              have h199q : Hid (TAt (u196q.setCells u180q.heap.size 0 [.int .i64 (3), .int .i64 (0)]) u18q.heap.size t) := h194q.out.asideL (by omega) 0 [.int .i64 (3), .int .i64 (0)]
              have h200q : Hid (Bo (u196q.setCells u180q.heap.size 0 [.int .i64 (3), .int .i64 (0)]) u180q.heap.size [.int .i64 (3), .int .i64 (0)]) := h195q.out.set2 (.int .i64 (3)) (.int .i64 (0))
              clear h192q h193q h194q h195q
              refine hK.out _ _ h198q.out (fun hH => ?_)
              clear hK K
              generalize (u196q.setCells u180q.heap.size 0 [.int .i64 (3), .int .i64 (0)]) = u201q at h197q h198q h199q h200q hH ⊢
              try simp only [Act.put, List.setIfInBounds_toArray, List.set_cons_zero, List.set_cons_succ]
              refine wpAnyH_done (by kernel_rfl) ?_ _
              go_wp2_with fail
              go_meet
              case rel => exact ⟨u18q.heap.size, u180q.heap.size, rfl, rfl, h197q, h198q, h199q, h200q⟩
            refine AllReadyH.cons (o := { dst := some 11, op := .alloc _, type := _, pos := _, after := _, guard := _ }) rfl (fun K hK => ?_) AllReadyH.nil
            have l202q : n ≤ u178q.heap.size := h175q.out.le
            have l203q : u3q.heap.size < u178q.heap.size := h176q.out.lt
            have l204q : u18q.heap.size < u178q.heap.size := h177q.out.lt
            go_simp
            have h205q : Hid (Gd n w (u178q.alloc (.cells #[.int .i64 0, .int .i64 0] 31))) := h175q.out.new (.cells #[.int .i64 0, .int .i64 0] 31)
            have h206q : Hid (TAt (u178q.alloc (.cells #[.int .i64 0, .int .i64 0] 31)) u3q.heap.size t) := h176q.out.new (.cells #[.int .i64 0, .int .i64 0] 31)
            have h207q : Hid (TAt (u178q.alloc (.cells #[.int .i64 0, .int .i64 0] 31)) u18q.heap.size Tb.zero) := h177q.out.new (.cells #[.int .i64 0, .int .i64 0] 31)
            clear h175q h176q h177q
            have h208q : Hid (Bo (u178q.alloc (.cells #[.int .i64 0, .int .i64 0] 31)) u178q.heap.size [.int .i64 0, .int .i64 0]) := Bo.born u178q [.int .i64 0, .int .i64 0] 31 (by simp)
            refine hK.out _ _ h206q.out (fun hH => ?_)
            clear hK K
            generalize (u178q.alloc (.cells #[.int .i64 0, .int .i64 0] 31)) = u209q at h205q h206q h207q h208q hH ⊢
            try simp only [Act.put, List.setIfInBounds_toArray, List.set_cons_zero, List.set_cons_succ]
            refine wpAnyH_ready (rs := [5]) (by kernel_rfl) (by simp) ?_
            refine AllReadyH.cons (o := { dst := some 33, op := _, type := _, pos := _, after := _, guard := _ }) rfl (fun K hK => ?_) AllReadyH.nil
            go_simp
            refine (DO _).mono ?_
            rintro e u210q ⟨rfl, hb⟩
            have h211q : Hid (Gd n w u210q) := h205q.out.later hb
            have h212q : Hid (TAt u210q u3q.heap.size t) := h206q.out.later hb
            have h213q : Hid (TAt u210q u18q.heap.size Tb.zero) := h207q.out.later hb
            have h214q : Hid (Bo u210q u178q.heap.size [.int .i64 0, .int .i64 0]) := h208q.out.later hb
            clear h205q h206q h207q h208q
            clear hb
            go_wp2_with fail
            refine hK.out _ _ h212q.out (fun hH => ?_)
            clear hK K
            try simp only [Act.put, List.setIfInBounds_toArray, List.set_cons_zero, List.set_cons_succ]
            refine wpAnyH_take (i := 6) (oi := { dst := some 27, op := .move (.tmp 33), type := _, pos := _, after := _, guard := _ }) (v := ?_) rfl (by kernel_rfl) (by kernel_rfl) (by kernel_rfl) (fun _ _ _ h => h) (Or.inl ⟨by rfl, ?_⟩) hH ?_
            rotate_left
            · intro w hSw
              clear hSw
              go_simp
              try with_reducible rfl
            simp only [Act.put, List.setIfInBounds_toArray, List.set_cons_zero, List.set_cons_succ]
            refine wpAnyH_take (i := 7) (oi := { dst := some 34, op := .extract (.tmp 27) 0, type := _, pos := _, after := _, guard := _ }) (v := ?_) rfl (by kernel_rfl) (by kernel_rfl) (by kernel_rfl) (fun _ _ _ h => h) (Or.inl ⟨by rfl, ?_⟩) hH ?_
            rotate_left
            · intro w hSw
              clear hSw
              go_simp
              try with_reducible rfl
            simp only [Act.put, List.setIfInBounds_toArray, List.set_cons_zero, List.set_cons_succ]
            refine wpAnyH_take (i := 8) (oi := { dst := some 35, op := .extract (.tmp 27) 1, type := _, pos := _, after := _, guard := _ }) (v := ?_) rfl (by kernel_rfl) (by kernel_rfl) (by kernel_rfl) (fun _ _ _ h => h) (Or.inl ⟨by rfl, ?_⟩) hH ?_
            rotate_left
            · intro w hSw
              clear hSw
              go_simp
              try with_reducible rfl
            simp only [Act.put, List.setIfInBounds_toArray, List.set_cons_zero, List.set_cons_succ]
            refine wpAnyH_ready (rs := [11]) (by kernel_rfl) (by simp) ?_
            refine AllReadyH.cons (o := { dst := none, op := .store _ (.tmp 10) (.tmp 34), type := _, pos := _, after := _, guard := _ }) rfl (fun K hK => ?_) AllReadyH.nil
            rw [if_pos (by rfl)]
            refine wp_store_mid _ _ _ rfl u18q.heap.size _ t.all.toArray rfl rfl (h213q.out.thereOf t) (HZ.out t) (t.all_all) ?_
            simp only [Act.put]
            have h215q : Hid (Gd n w (u210q.setCells u18q.heap.size 0 t.all)) := h211q.out.asideAll (by omega) t
            have h216q : Hid (TAt (u210q.setCells u18q.heap.size 0 t.all) u3q.heap.size t) := h212q.out.asideAll (by omega) t
            have h217q : Hid (TAt (u210q.setCells u18q.heap.size 0 t.all) u18q.heap.size t) := h213q.out.setAll t
            have h218q : Hid (Bo (u210q.setCells u18q.heap.size 0 t.all) u178q.heap.size [.int .i64 0, .int .i64 0]) := h214q.out.asideAll (by omega) t
            clear h211q h212q h213q h214q
            refine hK.out _ _ h216q.out (fun hH => ?_)
            clear hK K
            generalize (u210q.setCells u18q.heap.size 0 t.all) = u219q at h215q h216q h217q h218q hH ⊢
            try simp only [Act.put, List.setIfInBounds_toArray, List.set_cons_zero, List.set_cons_succ]
            refine wpAnyH_ready (rs := [12]) (by kernel_rfl) (by simp) ?_
            refine AllReadyH.cons (o := { dst := none, op := .store _ (.tmp 11) (.tmp 35), type := _, pos := _, after := _, guard := _ }) rfl (fun K hK => ?_) AllReadyH.nil
            rw [if_pos (by rfl)]
            refine wp_store_mid _ _ _ rfl u178q.heap.size _ #[.int .i64 (3), .int .i64 (0)] rfl rfl h218q.out.there2 HA.out (two_one _ _) ?_
            simp only [Act.put]
            have h220q : Hid (Gd n w (u219q.setCells u178q.heap.size 0 [.int .i64 (3), .int .i64 (0)])) := h215q.out.asideL (by omega) 0 [.int .i64 (3), .int .i64 (0)]
            have h221q : Hid (TAt (u219q.setCells u178q.heap.size 0 [.int .i64 (3), .int .i64 (0)]) u3q.heap.size t) := h216q.out.asideL (by omega) 0 [.int .i64 (3), .int .i64 (0)]
            have h222q : Hid (TAt (u219q.setCells u178q.heap.size 0 [.int .i64 (3), .int .i64 (0)]) u18q.heap.size t) := h217q.out.asideL (by omega) 0 [.int .i64 (3), .int .i64 (0)]
            have h223q : Hid (Bo (u219q.setCells u178q.heap.size 0 [.int .i64 (3), .int .i64 (0)]) u178q.heap.size [.int .i64 (3), .int .i64 (0)]) := h218q.out.set2 (.int .i64 (3)) (.int .i64 (0))
            clear h215q h216q h217q h218q
            refine hK.out _ _ h221q.out (fun hH => ?_)
            clear hK K
            generalize (u219q.setCells u178q.heap.size 0 [.int .i64 (3), .int .i64 (0)]) = u224q at h220q h221q h222q h223q hH ⊢
            try simp only [Act.put, List.setIfInBounds_toArray, List.set_cons_zero, List.set_cons_succ]
            refine wpAnyH_done (by kernel_rfl) ?_ _
            go_wp2_with fail
            go_meet
            case rel => exact ⟨u18q.heap.size, u178q.heap.size, rfl, rfl, h220q, h221q, h222q, h223q⟩
          refine AllReadyH.cons (o := { dst := some 11, op := .alloc _, type := _, pos := _, after := _, guard := _ }) rfl (fun K hK => ?_) AllReadyH.nil
          have l225q : n ≤ u178q.heap.size := h175q.out.le
          have l226q : u3q.heap.size < u178q.heap.size := h176q.out.lt
          have l227q : u18q.heap.size < u178q.heap.size := h177q.out.lt
          go_simp
          have h228q : Hid (Gd n w (u178q.alloc (.cells #[.int .i64 0, .int .i64 0] 31))) := h175q.out.new (.cells #[.int .i64 0, .int .i64 0] 31)
          have h229q : Hid (TAt (u178q.alloc (.cells #[.int .i64 0, .int .i64 0] 31)) u3q.heap.size t) := h176q.out.new (.cells #[.int .i64 0, .int .i64 0] 31)
          have h230q : Hid (TAt (u178q.alloc (.cells #[.int .i64 0, .int .i64 0] 31)) u18q.heap.size Tb.zero) := h177q.out.new (.cells #[.int .i64 0, .int .i64 0] 31)
          clear h175q h176q h177q
          have h231q : Hid (Bo (u178q.alloc (.cells #[.int .i64 0, .int .i64 0] 31)) u178q.heap.size [.int .i64 0, .int .i64 0]) := Bo.born u178q [.int .i64 0, .int .i64 0] 31 (by simp)
          refine hK.out _ _ h229q.out (fun hH => ?_)
          clear hK K
          generalize (u178q.alloc (.cells #[.int .i64 0, .int .i64 0] 31)) = u232q at h228q h229q h230q h231q hH ⊢
          try simp only [Act.put, List.setIfInBounds_toArray, List.set_cons_zero, List.set_cons_succ]
          refine wpAnyH_ready (rs := [3]) (by kernel_rfl) (by simp) ?_
          refine AllReadyH.cons (o := { dst := some 31, op := _, type := _, pos := _, after := _, guard := _ }) rfl (fun K hK => ?_) AllReadyH.nil
          go_simp
          refine (Pr2.out _).mono ?_
          rintro e u233q ⟨rfl, hw⟩
          rw [hw]; clear hw u233q
          go_wp2_with fail
          refine hK.out _ _ h229q.out (fun hH => ?_)
          clear hK K
          try simp only [Act.put, List.setIfInBounds_toArray, List.set_cons_zero, List.set_cons_succ]
          refine wpAnyH_take (i := 4) (oi := { dst := some 32, op := .build _ #[(0, .const (.int .i64 1)), (1, .tmp 29), (2, .tmp 31)], type := _, pos := _, after := _, guard := _ }) (v := ?_) rfl (by kernel_rfl) (by kernel_rfl) (by kernel_rfl) (fun _ _ _ h => h) (Or.inl ⟨by rfl, ?_⟩) hH ?_
          rotate_left
          · intro w hSw
            clear hSw
            go_simp
            try with_reducible rfl
          simp only [Act.put, List.setIfInBounds_toArray, List.set_cons_zero, List.set_cons_succ]
          refine wpAnyH_ready (rs := [5]) (by kernel_rfl) (by simp) ?_
          refine AllReadyH.cons (o := { dst := some 33, op := _, type := _, pos := _, after := _, guard := _ }) rfl (fun K hK => ?_) AllReadyH.nil
          go_simp
          refine (DO _).mono ?_
          rintro e u234q ⟨rfl, hb⟩
          have h235q : Hid (Gd n w u234q) := h228q.out.later hb
          have h236q : Hid (TAt u234q u3q.heap.size t) := h229q.out.later hb
          have h237q : Hid (TAt u234q u18q.heap.size Tb.zero) := h230q.out.later hb
          have h238q : Hid (Bo u234q u178q.heap.size [.int .i64 0, .int .i64 0]) := h231q.out.later hb
          clear h228q h229q h230q h231q
          clear hb
          go_wp2_with fail
          refine hK.out _ _ h236q.out (fun hH => ?_)
          clear hK K
          try simp only [Act.put, List.setIfInBounds_toArray, List.set_cons_zero, List.set_cons_succ]
          refine wpAnyH_take (i := 6) (oi := { dst := some 27, op := .move (.tmp 33), type := _, pos := _, after := _, guard := _ }) (v := ?_) rfl (by kernel_rfl) (by kernel_rfl) (by kernel_rfl) (fun _ _ _ h => h) (Or.inl ⟨by rfl, ?_⟩) hH ?_
          rotate_left
          · intro w hSw
            clear hSw
            go_simp
            try with_reducible rfl
          simp only [Act.put, List.setIfInBounds_toArray, List.set_cons_zero, List.set_cons_succ]
          refine wpAnyH_take (i := 7) (oi := { dst := some 34, op := .extract (.tmp 27) 0, type := _, pos := _, after := _, guard := _ }) (v := ?_) rfl (by kernel_rfl) (by kernel_rfl) (by kernel_rfl) (fun _ _ _ h => h) (Or.inl ⟨by rfl, ?_⟩) hH ?_
          rotate_left
          · intro w hSw
            clear hSw
            go_simp
            try with_reducible rfl
          simp only [Act.put, List.setIfInBounds_toArray, List.set_cons_zero, List.set_cons_succ]
          refine wpAnyH_take (i := 8) (oi := { dst := some 35, op := .extract (.tmp 27) 1, type := _, pos := _, after := _, guard := _ }) (v := ?_) rfl (by kernel_rfl) (by kernel_rfl) (by kernel_rfl) (fun _ _ _ h => h) (Or.inl ⟨by rfl, ?_⟩) hH ?_
          rotate_left
          · intro w hSw
            clear hSw
            go_simp
            try with_reducible rfl
          simp only [Act.put, List.setIfInBounds_toArray, List.set_cons_zero, List.set_cons_succ]
          refine wpAnyH_ready (rs := [11]) (by kernel_rfl) (by simp) ?_
          refine AllReadyH.cons (o := { dst := none, op := .store _ (.tmp 10) (.tmp 34), type := _, pos := _, after := _, guard := _ }) rfl (fun K hK => ?_) AllReadyH.nil
          rw [if_pos (by rfl)]
          refine wp_store_mid _ _ _ rfl u18q.heap.size _ t.all.toArray rfl rfl (h237q.out.thereOf t) (HZ.out t) (t.all_all) ?_
          simp only [Act.put]
          have h239q : Hid (Gd n w (u234q.setCells u18q.heap.size 0 t.all)) := h235q.out.asideAll (by omega) t
          have h240q : Hid (TAt (u234q.setCells u18q.heap.size 0 t.all) u3q.heap.size t) := h236q.out.asideAll (by omega) t
          have h241q : Hid (TAt (u234q.setCells u18q.heap.size 0 t.all) u18q.heap.size t) := h237q.out.setAll t
          have h242q : Hid (Bo (u234q.setCells u18q.heap.size 0 t.all) u178q.heap.size [.int .i64 0, .int .i64 0]) := h238q.out.asideAll (by omega) t
          clear h235q h236q h237q h238q
          refine hK.out _ _ h240q.out (fun hH => ?_)
          clear hK K
          generalize (u234q.setCells u18q.heap.size 0 t.all) = u243q at h239q h240q h241q h242q hH ⊢
          try simp only [Act.put, List.setIfInBounds_toArray, List.set_cons_zero, List.set_cons_succ]
          refine wpAnyH_ready (rs := [12]) (by kernel_rfl) (by simp) ?_
          refine AllReadyH.cons (o := { dst := none, op := .store _ (.tmp 11) (.tmp 35), type := _, pos := _, after := _, guard := _ }) rfl (fun K hK => ?_) AllReadyH.nil
          rw [if_pos (by rfl)]
          refine wp_store_mid _ _ _ rfl u178q.heap.size _ #[.int .i64 (3), .int .i64 (0)] rfl rfl h242q.out.there2 HA.out (two_one _ _) ?_
          simp only [Act.put]
          have h244q : Hid (Gd n w (u243q.setCells u178q.heap.size 0 [.int .i64 (3), .int .i64 (0)])) := h239q.out.asideL (by omega) 0 [.int .i64 (3), .int .i64 (0)]
          have h245q : Hid (TAt (u243q.setCells u178q.heap.size 0 [.int .i64 (3), .int .i64 (0)]) u3q.heap.size t) := h240q.out.asideL (by omega) 0 [.int .i64 (3), .int .i64 (0)]
          have h246q : Hid (TAt (u243q.setCells u178q.heap.size 0 [.int .i64 (3), .int .i64 (0)]) u18q.heap.size t) := h241q.out.asideL (by omega) 0 [.int .i64 (3), .int .i64 (0)]
          have h247q : Hid (Bo (u243q.setCells u178q.heap.size 0 [.int .i64 (3), .int .i64 (0)]) u178q.heap.size [.int .i64 (3), .int .i64 (0)]) := h242q.out.set2 (.int .i64 (3)) (.int .i64 (0))
          clear h239q h240q h241q h242q
          refine hK.out _ _ h245q.out (fun hH => ?_)
          clear hK K
          generalize (u243q.setCells u178q.heap.size 0 [.int .i64 (3), .int .i64 (0)]) = u248q at h244q h245q h246q h247q hH ⊢
          try simp only [Act.put, List.setIfInBounds_toArray, List.set_cons_zero, List.set_cons_succ]
          refine wpAnyH_done (by kernel_rfl) ?_ _
          go_wp2_with fail
          go_meet
          case rel => exact ⟨u18q.heap.size, u178q.heap.size, rfl, rfl, h244q, h245q, h246q, h247q⟩
        refine AllReadyH.cons (o := { dst := some 11, op := .alloc _, type := _, pos := _, after := _, guard := _ }) rfl (fun K hK => ?_) AllReadyH.nil
        have l249q : n ≤ u18q.heap.size := h16q.out.le
        have l250q : u3q.heap.size < u18q.heap.size := h17q.out.lt
        go_simp
        have h251q : Hid (Gd n w (u18q.alloc (.cells #[.int .i64 0, .int .i64 0] 31))) := h16q.out.new (.cells #[.int .i64 0, .int .i64 0] 31)
        have h252q : Hid (TAt (u18q.alloc (.cells #[.int .i64 0, .int .i64 0] 31)) u3q.heap.size t) := h17q.out.new (.cells #[.int .i64 0, .int .i64 0] 31)
        clear h16q h17q
        have h253q : Hid (Bo (u18q.alloc (.cells #[.int .i64 0, .int .i64 0] 31)) u18q.heap.size [.int .i64 0, .int .i64 0]) := Bo.born u18q [.int .i64 0, .int .i64 0] 31 (by simp)
        refine hK.out _ _ h252q.out (fun hH => ?_)
        clear hK K
        generalize (u18q.alloc (.cells #[.int .i64 0, .int .i64 0] 31)) = u254q at h251q h252q h253q hH ⊢
        try simp only [Act.put, List.setIfInBounds_toArray, List.set_cons_zero, List.set_cons_succ]
        refine wpAnyH_ready (rs := [3, 9]) (by kernel_rfl) (by simp) ?_
        refine AllReadyH.cons (o := { dst := some 31, op := _, type := _, pos := _, after := _, guard := _ }) rfl (fun K hK => ?_) ?_
        · go_simp
          refine (Pr2.out _).mono ?_
          rintro e u255q ⟨rfl, hw⟩
          rw [hw]; clear hw u255q
          go_wp2_with fail
          refine hK.out _ _ h252q.out (fun hH => ?_)
          clear hK K
          try simp only [Act.put, List.setIfInBounds_toArray, List.set_cons_zero, List.set_cons_succ]
          refine wpAnyH_take (i := 4) (oi := { dst := some 32, op := .build _ #[(0, .const (.int .i64 1)), (1, .tmp 29), (2, .tmp 31)], type := _, pos := _, after := _, guard := _ }) (v := ?_) rfl (by kernel_rfl) (by kernel_rfl) (by kernel_rfl) (fun _ _ _ h => h) (Or.inl ⟨by rfl, ?_⟩) hH ?_
          rotate_left
          · intro w hSw
            clear hSw
            go_simp
            try with_reducible rfl
          simp only [Act.put, List.setIfInBounds_toArray, List.set_cons_zero, List.set_cons_succ]
          refine wpAnyH_ready (rs := [5, 9]) (by kernel_rfl) (by simp) ?_
          refine AllReadyH.cons (o := { dst := some 33, op := _, type := _, pos := _, after := _, guard := _ }) rfl (fun K hK => ?_) ?_
          · go_simp
            refine (DO _).mono ?_
            rintro e u256q ⟨rfl, hb⟩
            have h257q : Hid (Gd n w u256q) := h251q.out.later hb
            have h258q : Hid (TAt u256q u3q.heap.size t) := h252q.out.later hb
            have h259q : Hid (Bo u256q u18q.heap.size [.int .i64 0, .int .i64 0]) := h253q.out.later hb
            clear h251q h252q h253q
            clear hb
            go_wp2_with fail
            refine hK.out _ _ h258q.out (fun hH => ?_)
            clear hK K
            try simp only [Act.put, List.setIfInBounds_toArray, List.set_cons_zero, List.set_cons_succ]
            refine wpAnyH_take (i := 6) (oi := { dst := some 27, op := .move (.tmp 33), type := _, pos := _, after := _, guard := _ }) (v := ?_) rfl (by kernel_rfl) (by kernel_rfl) (by kernel_rfl) (fun _ _ _ h => h) (Or.inl ⟨by rfl, ?_⟩) hH ?_
            rotate_left
            · intro w hSw
              clear hSw
              go_simp
              try with_reducible rfl
            simp only [Act.put, List.setIfInBounds_toArray, List.set_cons_zero, List.set_cons_succ]
            refine wpAnyH_take (i := 7) (oi := { dst := some 34, op := .extract (.tmp 27) 0, type := _, pos := _, after := _, guard := _ }) (v := ?_) rfl (by kernel_rfl) (by kernel_rfl) (by kernel_rfl) (fun _ _ _ h => h) (Or.inl ⟨by rfl, ?_⟩) hH ?_
            rotate_left
            · intro w hSw
              clear hSw
              go_simp
              try with_reducible rfl
            simp only [Act.put, List.setIfInBounds_toArray, List.set_cons_zero, List.set_cons_succ]
            refine wpAnyH_take (i := 8) (oi := { dst := some 35, op := .extract (.tmp 27) 1, type := _, pos := _, after := _, guard := _ }) (v := ?_) rfl (by kernel_rfl) (by kernel_rfl) (by kernel_rfl) (fun _ _ _ h => h) (Or.inl ⟨by rfl, ?_⟩) hH ?_
            rotate_left
            · intro w hSw
              clear hSw
              go_simp
              try with_reducible rfl
            simp only [Act.put, List.setIfInBounds_toArray, List.set_cons_zero, List.set_cons_succ]
            refine wpAnyH_ready (rs := [9]) (by kernel_rfl) (by simp) ?_
            refine AllReadyH.cons (o := { dst := some 10, op := .alloc _, type := _, pos := _, after := _, guard := _ }) rfl (fun K hK => ?_) AllReadyH.nil
            have l260q : n ≤ u256q.heap.size := h257q.out.le
            have l261q : u3q.heap.size < u256q.heap.size := h258q.out.lt
            have l262q : u18q.heap.size < u256q.heap.size := h259q.out.lt
            go_simp
            have h263q : Hid (Gd n w (u256q.alloc (.cells #[.int .i64 0, .int .i64 0, .int .i64 0, .int .i64 0, .int .i64 0, .int .i64 0, .int .i64 0, .int .i64 0, .int .i64 0, .int .i64 0, .int .i64 0, .int .i64 0, .int .i64 0, .int .i64 0, .int .i64 0, .int .i64 0] 27))) := h257q.out.new (.cells #[.int .i64 0, .int .i64 0, .int .i64 0, .int .i64 0, .int .i64 0, .int .i64 0, .int .i64 0, .int .i64 0, .int .i64 0, .int .i64 0, .int .i64 0, .int .i64 0, .int .i64 0, .int .i64 0, .int .i64 0, .int .i64 0] 27)
            have h264q : Hid (TAt (u256q.alloc (.cells #[.int .i64 0, .int .i64 0, .int .i64 0, .int .i64 0, .int .i64 0, .int .i64 0, .int .i64 0, .int .i64 0, .int .i64 0, .int .i64 0, .int .i64 0, .int .i64 0, .int .i64 0, .int .i64 0, .int .i64 0, .int .i64 0] 27)) u3q.heap.size t) := h258q.out.new (.cells #[.int .i64 0, .int .i64 0, .int .i64 0, .int .i64 0, .int .i64 0, .int .i64 0, .int .i64 0, .int .i64 0, .int .i64 0, .int .i64 0, .int .i64 0, .int .i64 0, .int .i64 0, .int .i64 0, .int .i64 0, .int .i64 0] 27)
            have h265q : Hid (Bo (u256q.alloc (.cells #[.int .i64 0, .int .i64 0, .int .i64 0, .int .i64 0, .int .i64 0, .int .i64 0, .int .i64 0, .int .i64 0, .int .i64 0, .int .i64 0, .int .i64 0, .int .i64 0, .int .i64 0, .int .i64 0, .int .i64 0, .int .i64 0] 27)) u18q.heap.size [.int .i64 0, .int .i64 0]) := h259q.out.new (.cells #[.int .i64 0, .int .i64 0, .int .i64 0, .int .i64 0, .int .i64 0, .int .i64 0, .int .i64 0, .int .i64 0, .int .i64 0, .int .i64 0, .int .i64 0, .int .i64 0, .int .i64 0, .int .i64 0, .int .i64 0, .int .i64 0] 27)
            clear h257q h258q h259q
            have h266q : Hid (TAt (u256q.alloc (.cells #[.int .i64 0, .int .i64 0, .int .i64 0, .int .i64 0, .int .i64 0, .int .i64 0, .int .i64 0, .int .i64 0, .int .i64 0, .int .i64 0, .int .i64 0, .int .i64 0, .int .i64 0, .int .i64 0, .int .i64 0, .int .i64 0] 27)) u256q.heap.size Tb.zero) := TAt.bornZero u256q 27 (by simp)
            refine hK.out _ _ h264q.out (fun hH => ?_)
            clear hK K
            generalize (u256q.alloc (.cells #[.int .i64 0, .int .i64 0, .int .i64 0, .int .i64 0, .int .i64 0, .int .i64 0, .int .i64 0, .int .i64 0, .int .i64 0, .int .i64 0, .int .i64 0, .int .i64 0, .int .i64 0, .int .i64 0, .int .i64 0, .int .i64 0] 27)) = u267q at h263q h264q h265q h266q hH ⊢
            try simp only [Act.put, List.setIfInBounds_toArray, List.set_cons_zero, List.set_cons_succ]
            refine wpAnyH_ready (rs := [11]) (by kernel_rfl) (by simp) ?_
            refine AllReadyH.cons (o := { dst := none, op := .store _ (.tmp 10) (.tmp 34), type := _, pos := _, after := _, guard := _ }) rfl (fun K hK => ?_) AllReadyH.nil
            rw [if_pos (by rfl)]
            refine wp_store_mid _ _ _ rfl u256q.heap.size _ t.all.toArray rfl rfl (h266q.out.thereOf t) (HZ.out t) (t.all_all) ?_
            simp only [Act.put]
            have h268q : Hid (Gd n w (u267q.setCells u256q.heap.size 0 t.all)) := h263q.out.asideAll (by omega) t
            have h269q : Hid (TAt (u267q.setCells u256q.heap.size 0 t.all) u3q.heap.size t) := h264q.out.asideAll (by omega) t
            have h270q : Hid (Bo (u267q.setCells u256q.heap.size 0 t.all) u18q.heap.size [.int .i64 0, .int .i64 0]) := h265q.out.asideAll (by omega) t
            have h271q : Hid (TAt (u267q.setCells u256q.heap.size 0 t.all) u256q.heap.size t) := h266q.out.setAll t
            clear h263q h264q h265q h266q
            refine hK.out _ _ h269q.out (fun hH => ?_)
            clear hK K
            generalize (u267q.setCells u256q.heap.size 0 t.all) = u272q at h268q h269q h270q h271q hH ⊢
            try simp only [Act.put, List.setIfInBounds_toArray, List.set_cons_zero, List.set_cons_succ]
            refine wpAnyH_ready (rs := [12]) (by kernel_rfl) (by simp) ?_
            refine AllReadyH.cons (o := { dst := none, op := .store _ (.tmp 11) (.tmp 35), type := _, pos := _, after := _, guard := _ }) rfl (fun K hK => ?_) AllReadyH.nil
            rw [if_pos (by rfl)]
            refine wp_store_mid _ _ _ rfl u18q.heap.size _ #[.int .i64 (3), .int .i64 (0)] rfl rfl h270q.out.there2 HA.out (two_one _ _) ?_
            simp only [Act.put]
            have h273q : Hid (Gd n w (u272q.setCells u18q.heap.size 0 [.int .i64 (3), .int .i64 (0)])) := h268q.out.asideL (by omega) 0 [.int .i64 (3), .int .i64 (0)]
            have h274q : Hid (TAt (u272q.setCells u18q.heap.size 0 [.int .i64 (3), .int .i64 (0)]) u3q.heap.size t) := h269q.out.asideL (by omega) 0 [.int .i64 (3), .int .i64 (0)]
            have h275q : Hid (Bo (u272q.setCells u18q.heap.size 0 [.int .i64 (3), .int .i64 (0)]) u18q.heap.size [.int .i64 (3), .int .i64 (0)]) := h270q.out.set2 (.int .i64 (3)) (.int .i64 (0))
            have h276q : Hid (TAt (u272q.setCells u18q.heap.size 0 [.int .i64 (3), .int .i64 (0)]) u256q.heap.size t) := h271q.out.asideL (by omega) 0 [.int .i64 (3), .int .i64 (0)]
            clear h268q h269q h270q h271q
            refine hK.out _ _ h274q.out (fun hH => ?_)
            clear hK K
            generalize (u272q.setCells u18q.heap.size 0 [.int .i64 (3), .int .i64 (0)]) = u277q at h273q h274q h275q h276q hH ⊢
            try simp only [Act.put, List.setIfInBounds_toArray, List.set_cons_zero, List.set_cons_succ]
            refine wpAnyH_done (by kernel_rfl) ?_ _
            go_wp2_with fail
            go_meet
            case rel => exact ⟨u256q.heap.size, u18q.heap.size, rfl, rfl, h273q, h274q, h276q, h275q⟩
          refine AllReadyH.cons (o := { dst := some 10, op := .alloc _, type := _, pos := _, after := _, guard := _ }) rfl (fun K hK => ?_) AllReadyH.nil
          have l278q : n ≤ u254q.heap.size := h251q.out.le
          have l279q : u3q.heap.size < u254q.heap.size := h252q.out.lt
          have l280q : u18q.heap.size < u254q.heap.size := h253q.out.lt
          go_simp
          have h281q : Hid (Gd n w (u254q.alloc (.cells #[.int .i64 0, .int .i64 0, .int .i64 0, .int .i64 0, .int .i64 0, .int .i64 0, .int .i64 0, .int .i64 0, .int .i64 0, .int .i64 0, .int .i64 0, .int .i64 0, .int .i64 0, .int .i64 0, .int .i64 0, .int .i64 0] 27))) := h251q.out.new (.cells #[.int .i64 0, .int .i64 0, .int .i64 0, .int .i64 0, .int .i64 0, .int .i64 0, .int .i64 0, .int .i64 0, .int .i64 0, .int .i64 0, .int .i64 0, .int .i64 0, .int .i64 0, .int .i64 0, .int .i64 0, .int .i64 0] 27)
          have h282q : Hid (TAt (u254q.alloc (.cells #[.int .i64 0, .int .i64 0, .int .i64 0, .int .i64 0, .int .i64 0, .int .i64 0, .int .i64 0, .int .i64 0, .int .i64 0, .int .i64 0, .int .i64 0, .int .i64 0, .int .i64 0, .int .i64 0, .int .i64 0, .int .i64 0] 27)) u3q.heap.size t) := h252q.out.new (.cells #[.int .i64 0, .int .i64 0, .int .i64 0, .int .i64 0, .int .i64 0, .int .i64 0, .int .i64 0, .int .i64 0, .int .i64 0, .int .i64 0, .int .i64 0, .int .i64 0, .int .i64 0, .int .i64 0, .int .i64 0, .int .i64 0] 27)
          have h283q : Hid (Bo (u254q.alloc (.cells #[.int .i64 0, .int .i64 0, .int .i64 0, .int .i64 0, .int .i64 0, .int .i64 0, .int .i64 0, .int .i64 0, .int .i64 0, .int .i64 0, .int .i64 0, .int .i64 0, .int .i64 0, .int .i64 0, .int .i64 0, .int .i64 0] 27)) u18q.heap.size [.int .i64 0, .int .i64 0]) := h253q.out.new (.cells #[.int .i64 0, .int .i64 0, .int .i64 0, .int .i64 0, .int .i64 0, .int .i64 0, .int .i64 0, .int .i64 0, .int .i64 0, .int .i64 0, .int .i64 0, .int .i64 0, .int .i64 0, .int .i64 0, .int .i64 0, .int .i64 0] 27)
          clear h251q h252q h253q
          have h284q : Hid (TAt (u254q.alloc (.cells #[.int .i64 0, .int .i64 0, .int .i64 0, .int .i64 0, .int .i64 0, .int .i64 0, .int .i64 0, .int .i64 0, .int .i64 0, .int .i64 0, .int .i64 0, .int .i64 0, .int .i64 0, .int .i64 0, .int .i64 0, .int .i64 0] 27)) u254q.heap.size Tb.zero) := TAt.bornZero u254q 27 (by simp)
          refine hK.out _ _ h282q.out (fun hH => ?_)
          clear hK K
          generalize (u254q.alloc (.cells #[.int .i64 0, .int .i64 0, .int .i64 0, .int .i64 0, .int .i64 0, .int .i64 0, .int .i64 0, .int .i64 0, .int .i64 0, .int .i64 0, .int .i64 0, .int .i64 0, .int .i64 0, .int .i64 0, .int .i64 0, .int .i64 0] 27)) = u285q at h281q h282q h283q h284q hH ⊢
          try simp only [Act.put, List.setIfInBounds_toArray, List.set_cons_zero, List.set_cons_succ]
          refine wpAnyH_ready (rs := [5]) (by kernel_rfl) (by simp) ?_
          refine AllReadyH.cons (o := { dst := some 33, op := _, type := _, pos := _, after := _, guard := _ }) rfl (fun K hK => ?_) AllReadyH.nil
          go_simp
          refine (DO _).mono ?_
          rintro e u286q ⟨rfl, hb⟩
          have h287q : Hid (Gd n w u286q) := h281q.out.later hb
          have h288q : Hid (TAt u286q u3q.heap.size t) := h282q.out.later hb
          have h289q : Hid (Bo u286q u18q.heap.size [.int .i64 0, .int .i64 0]) := h283q.out.later hb
          have h290q : Hid (TAt u286q u254q.heap.size Tb.zero) := h284q.out.later hb
          clear h281q h282q h283q h284q
          clear hb
          go_wp2_with fail
          refine hK.out _ _ h288q.out (fun hH => ?_)
          clear hK K
          try simp only [Act.put, List.setIfInBounds_toArray, List.set_cons_zero, List.set_cons_succ]
          refine wpAnyH_take (i := 6) (oi := { dst := some 27, op := .move (.tmp 33), type := _, pos := _, after := _, guard := _ }) (v := ?_) rfl (by kernel_rfl) (by kernel_rfl) (by kernel_rfl) (fun _ _ _ h => h) (Or.inl ⟨by rfl, ?_⟩) hH ?_
          rotate_left
          · intro w hSw
            clear hSw
            go_simp
            try with_reducible rfl
          simp only [Act.put, List.setIfInBounds_toArray, List.set_cons_zero, List.set_cons_succ]
          refine wpAnyH_take (i := 7) (oi := { dst := some 34, op := .extract (.tmp 27) 0, type := _, pos := _, after := _, guard := _ }) (v := ?_) rfl (by kernel_rfl) (by kernel_rfl) (by kernel_rfl) (fun _ _ _ h => h) (Or.inl ⟨by rfl, ?_⟩) hH ?_
          rotate_left
          · intro w hSw
            clear hSw
            go_simp
            try with_reducible rfl
          simp only [Act.put, List.setIfInBounds_toArray, List.set_cons_zero, List.set_cons_succ]
          refine wpAnyH_take (i := 8) (oi := { dst := some 35, op := .extract (.tmp 27) 1, type := _, pos := _, after := _, guard := _ }) (v := ?_) rfl (by kernel_rfl) (by kernel_rfl) (by kernel_rfl) (fun _ _ _ h => h) (Or.inl ⟨by rfl, ?_⟩) hH ?_
          rotate_left
          · intro w hSw
            clear hSw
            go_simp
            try with_reducible rfl
          simp only [Act.put, List.setIfInBounds_toArray, List.set_cons_zero, List.set_cons_succ]
          refine wpAnyH_ready (rs := [11]) (by kernel_rfl) (by simp) ?_
          refine AllReadyH.cons (o := { dst := none, op := .store _ (.tmp 10) (.tmp 34), type := _, pos := _, after := _, guard := _ }) rfl (fun K hK => ?_) AllReadyH.nil
          rw [if_pos (by rfl)]
          refine wp_store_mid _ _ _ rfl u254q.heap.size _ t.all.toArray rfl rfl (h290q.out.thereOf t) (HZ.out t) (t.all_all) ?_
          simp only [Act.put]
          have h291q : Hid (Gd n w (u286q.setCells u254q.heap.size 0 t.all)) := h287q.out.asideAll (by omega) t
          have h292q : Hid (TAt (u286q.setCells u254q.heap.size 0 t.all) u3q.heap.size t) := h288q.out.asideAll (by omega) t
          have h293q : Hid (Bo (u286q.setCells u254q.heap.size 0 t.all) u18q.heap.size [.int .i64 0, .int .i64 0]) := h289q.out.asideAll (by omega) t
          have h294q : Hid (TAt (u286q.setCells u254q.heap.size 0 t.all) u254q.heap.size t) := h290q.out.setAll t
          clear h287q h288q h289q h290q
          refine hK.out _ _ h292q.out (fun hH => ?_)
          clear hK K
          generalize (u286q.setCells u254q.heap.size 0 t.all) = u295q at h291q h292q h293q h294q hH ⊢
          try simp only [Act.put, List.setIfInBounds_toArray, List.set_cons_zero, List.set_cons_succ]
          refine wpAnyH_ready (rs := [12]) (by kernel_rfl) (by simp) ?_
          refine AllReadyH.cons (o := { dst := none, op := .store _ (.tmp 11) (.tmp 35), type := _, pos := _, after := _, guard := _ }) rfl (fun K hK => ?_) AllReadyH.nil
          rw [if_pos (by rfl)]
          refine wp_store_mid _ _ _ rfl u18q.heap.size _ #[.int .i64 (3), .int .i64 (0)] rfl rfl h293q.out.there2 HA.out (two_one _ _) ?_
          simp only [Act.put]
          have h296q : Hid (Gd n w (u295q.setCells u18q.heap.size 0 [.int .i64 (3), .int .i64 (0)])) := h291q.out.asideL (by omega) 0 [.int .i64 (3), .int .i64 (0)]
          have h297q : Hid (TAt (u295q.setCells u18q.heap.size 0 [.int .i64 (3), .int .i64 (0)]) u3q.heap.size t) := h292q.out.asideL (by omega) 0 [.int .i64 (3), .int .i64 (0)]
          have h298q : Hid (Bo (u295q.setCells u18q.heap.size 0 [.int .i64 (3), .int .i64 (0)]) u18q.heap.size [.int .i64 (3), .int .i64 (0)]) := h293q.out.set2 (.int .i64 (3)) (.int .i64 (0))
          have h299q : Hid (TAt (u295q.setCells u18q.heap.size 0 [.int .i64 (3), .int .i64 (0)]) u254q.heap.size t) := h294q.out.asideL (by omega) 0 [.int .i64 (3), .int .i64 (0)]
          clear h291q h292q h293q h294q
          refine hK.out _ _ h297q.out (fun hH => ?_)
          clear hK K
          generalize (u295q.setCells u18q.heap.size 0 [.int .i64 (3), .int .i64 (0)]) = u300q at h296q h297q h298q h299q hH ⊢
          try simp only [Act.put, List.setIfInBounds_toArray, List.set_cons_zero, List.set_cons_succ]
          refine wpAnyH_done (by kernel_rfl) ?_ _
          go_wp2_with fail
          go_meet
          case rel => exact ⟨u254q.heap.size, u18q.heap.size, rfl, rfl, h296q, h297q, h299q, h298q⟩
        refine AllReadyH.cons (o := { dst := some 10, op := .alloc _, type := _, pos := _, after := _, guard := _ }) rfl (fun K hK => ?_) AllReadyH.nil
        have l301q : n ≤ u254q.heap.size := h251q.out.le
        have l302q : u3q.heap.size < u254q.heap.size := h252q.out.lt
        have l303q : u18q.heap.size < u254q.heap.size := h253q.out.lt
        go_simp
        have h304q : Hid (Gd n w (u254q.alloc (.cells #[.int .i64 0, .int .i64 0, .int .i64 0, .int .i64 0, .int .i64 0, .int .i64 0, .int .i64 0, .int .i64 0, .int .i64 0, .int .i64 0, .int .i64 0, .int .i64 0, .int .i64 0, .int .i64 0, .int .i64 0, .int .i64 0] 27))) := h251q.out.new (.cells #[.int .i64 0, .int .i64 0, .int .i64 0, .int .i64 0, .int .i64 0, .int .i64 0, .int .i64 0, .int .i64 0, .int .i64 0, .int .i64 0, .int .i64 0, .int .i64 0, .int .i64 0, .int .i64 0, .int .i64 0, .int .i64 0] 27)
        have h305q : Hid (TAt (u254q.alloc (.cells #[.int .i64 0, .int .i64 0, .int .i64 0, .int .i64 0, .int .i64 0, .int .i64 0, .int .i64 0, .int .i64 0, .int .i64 0, .int .i64 0, .int .i64 0, .int .i64 0, .int .i64 0, .int .i64 0, .int .i64 0, .int .i64 0] 27)) u3q.heap.size t) := h252q.out.new (.cells #[.int .i64 0, .int .i64 0, .int .i64 0, .int .i64 0, .int .i64 0, .int .i64 0, .int .i64 0, .int .i64 0, .int .i64 0, .int .i64 0, .int .i64 0, .int .i64 0, .int .i64 0, .int .i64 0, .int .i64 0, .int .i64 0] 27)
        have h306q : Hid (Bo (u254q.alloc (.cells #[.int .i64 0, .int .i64 0, .int .i64 0, .int .i64 0, .int .i64 0, .int .i64 0, .int .i64 0, .int .i64 0, .int .i64 0, .int .i64 0, .int .i64 0, .int .i64 0, .int .i64 0, .int .i64 0, .int .i64 0, .int .i64 0] 27)) u18q.heap.size [.int .i64 0, .int .i64 0]) := h253q.out.new (.cells #[.int .i64 0, .int .i64 0, .int .i64 0, .int .i64 0, .int .i64 0, .int .i64 0, .int .i64 0, .int .i64 0, .int .i64 0, .int .i64 0, .int .i64 0, .int .i64 0, .int .i64 0, .int .i64 0, .int .i64 0, .int .i64 0] 27)
        clear h251q h252q h253q
        have h307q : Hid (TAt (u254q.alloc (.cells #[.int .i64 0, .int .i64 0, .int .i64 0, .int .i64 0, .int .i64 0, .int .i64 0, .int .i64 0, .int .i64 0, .int .i64 0, .int .i64 0, .int .i64 0, .int .i64 0, .int .i64 0, .int .i64 0, .int .i64 0, .int .i64 0] 27)) u254q.heap.size Tb.zero) := TAt.bornZero u254q 27 (by simp)
        refine hK.out _ _ h305q.out (fun hH => ?_)
        clear hK K
        generalize (u254q.alloc (.cells #[.int .i64 0, .int .i64 0, .int .i64 0, .int .i64 0, .int .i64 0, .int .i64 0, .int .i64 0, .int .i64 0, .int .i64 0, .int .i64 0, .int .i64 0, .int .i64 0, .int .i64 0, .int .i64 0, .int .i64 0, .int .i64 0] 27)) = u308q at h304q h305q h306q h307q hH ⊢
        try simp only [Act.put, List.setIfInBounds_toArray, List.set_cons_zero, List.set_cons_succ]
        refine wpAnyH_ready (rs := [3]) (by kernel_rfl) (by simp) ?_
        refine AllReadyH.cons (o := { dst := some 31, op := _, type := _, pos := _, after := _, guard := _ }) rfl (fun K hK => ?_) AllReadyH.nil
        go_simp
        refine (Pr2.out _).mono ?_
        rintro e u309q ⟨rfl, hw⟩
        rw [hw]; clear hw u309q
        go_wp2_with fail
        refine hK.out _ _ h305q.out (fun hH => ?_)
        clear hK K
        try simp only [Act.put, List.setIfInBounds_toArray, List.set_cons_zero, List.set_cons_succ]
        refine wpAnyH_take (i := 4) (oi := { dst := some 32, op := .build _ #[(0, .const (.int .i64 1)), (1, .tmp 29), (2, .tmp 31)], type := _, pos := _, after := _, guard := _ }) (v := ?_) rfl (by kernel_rfl) (by kernel_rfl) (by kernel_rfl) (fun _ _ _ h => h) (Or.inl ⟨by rfl, ?_⟩) hH ?_
        rotate_left
        · intro w hSw
          clear hSw
          go_simp
          try with_reducible rfl
        simp only [Act.put, List.setIfInBounds_toArray, List.set_cons_zero, List.set_cons_succ]
        refine wpAnyH_ready (rs := [5]) (by kernel_rfl) (by simp) ?_
        refine AllReadyH.cons (o := { dst := some 33, op := _, type := _, pos := _, after := _, guard := _ }) rfl (fun K hK => ?_) AllReadyH.nil
        go_simp
        refine (DO _).mono ?_
        rintro e u310q ⟨rfl, hb⟩
        have h311q : Hid (Gd n w u310q) := h304q.out.later hb
        have h312q : Hid (TAt u310q u3q.heap.size t) := h305q.out.later hb
        have h313q : Hid (Bo u310q u18q.heap.size [.int .i64 0, .int .i64 0]) := h306q.out.later hb
        have h314q : Hid (TAt u310q u254q.heap.size Tb.zero) := h307q.out.later hb
        clear h304q h305q h306q h307q
        clear hb
        go_wp2_with fail
        refine hK.out _ _ h312q.out (fun hH => ?_)
        clear hK K
        try simp only [Act.put, List.setIfInBounds_toArray, List.set_cons_zero, List.set_cons_succ]
        refine wpAnyH_take (i := 6) (oi := { dst := some 27, op := .move (.tmp 33), type := _, pos := _, after := _, guard := _ }) (v := ?_) rfl (by kernel_rfl) (by kernel_rfl) (by kernel_rfl) (fun _ _ _ h => h) (Or.inl ⟨by rfl, ?_⟩) hH ?_
        rotate_left
        · intro w hSw
          clear hSw
          go_simp
          try with_reducible rfl
        simp only [Act.put, List.setIfInBounds_toArray, List.set_cons_zero, List.set_cons_succ]
        refine wpAnyH_take (i := 7) (oi := { dst := some 34, op := .extract (.tmp 27) 0, type := _, pos := _, after := _, guard := _ }) (v := ?_) rfl (by kernel_rfl) (by kernel_rfl) (by kernel_rfl) (fun _ _ _ h => h) (Or.inl ⟨by rfl, ?_⟩) hH ?_
        rotate_left
        · intro w hSw
          clear hSw
          go_simp
          try with_reducible rfl
        simp only [Act.put, List.setIfInBounds_toArray, List.set_cons_zero, List.set_cons_succ]
        refine wpAnyH_take (i := 8) (oi := { dst := some 35, op := .extract (.tmp 27) 1, type := _, pos := _, after := _, guard := _ }) (v := ?_) rfl (by kernel_rfl) (by kernel_rfl) (by kernel_rfl) (fun _ _ _ h => h) (Or.inl ⟨by rfl, ?_⟩) hH ?_
        rotate_left
        · intro w hSw
          clear hSw
          go_simp
          try with_reducible rfl
        simp only [Act.put, List.setIfInBounds_toArray, List.set_cons_zero, List.set_cons_succ]
        refine wpAnyH_ready (rs := [11]) (by kernel_rfl) (by simp) ?_
        refine AllReadyH.cons (o := { dst := none, op := .store _ (.tmp 10) (.tmp 34), type := _, pos := _, after := _, guard := _ }) rfl (fun K hK => ?_) AllReadyH.nil
        rw [if_pos (by rfl)]
        refine wp_store_mid _ _ _ rfl u254q.heap.size _ t.all.toArray rfl rfl (h314q.out.thereOf t) (HZ.out t) (t.all_all) ?_
        simp only [Act.put]
        have h315q : Hid (Gd n w (u310q.setCells u254q.heap.size 0 t.all)) := h311q.out.asideAll (by omega) t
        have h316q : Hid (TAt (u310q.setCells u254q.heap.size 0 t.all) u3q.heap.size t) := h312q.out.asideAll (by omega) t
        have h317q : Hid (Bo (u310q.setCells u254q.heap.size 0 t.all) u18q.heap.size [.int .i64 0, .int .i64 0]) := h313q.out.asideAll (by omega) t
        have h318q : Hid (TAt (u310q.setCells u254q.heap.size 0 t.all) u254q.heap.size t) := h314q.out.setAll t
        clear h311q h312q h313q h314q
        refine hK.out _ _ h316q.out (fun hH => ?_)
        clear hK K
        generalize (u310q.setCells u254q.heap.size 0 t.all) = u319q at h315q h316q h317q h318q hH ⊢
        try simp only [Act.put, List.setIfInBounds_toArray, List.set_cons_zero, List.set_cons_succ]
        refine wpAnyH_ready (rs := [12]) (by kernel_rfl) (by simp) ?_
        refine AllReadyH.cons (o := { dst := none, op := .store _ (.tmp 11) (.tmp 35), type := _, pos := _, after := _, guard := _ }) rfl (fun K hK => ?_) AllReadyH.nil
        rw [if_pos (by rfl)]
        refine wp_store_mid _ _ _ rfl u18q.heap.size _ #[.int .i64 (3), .int .i64 (0)] rfl rfl h317q.out.there2 HA.out (two_one _ _) ?_
        simp only [Act.put]
        have h320q : Hid (Gd n w (u319q.setCells u18q.heap.size 0 [.int .i64 (3), .int .i64 (0)])) := h315q.out.asideL (by omega) 0 [.int .i64 (3), .int .i64 (0)]
        have h321q : Hid (TAt (u319q.setCells u18q.heap.size 0 [.int .i64 (3), .int .i64 (0)]) u3q.heap.size t) := h316q.out.asideL (by omega) 0 [.int .i64 (3), .int .i64 (0)]
        have h322q : Hid (Bo (u319q.setCells u18q.heap.size 0 [.int .i64 (3), .int .i64 (0)]) u18q.heap.size [.int .i64 (3), .int .i64 (0)]) := h317q.out.set2 (.int .i64 (3)) (.int .i64 (0))
        have h323q : Hid (TAt (u319q.setCells u18q.heap.size 0 [.int .i64 (3), .int .i64 (0)]) u254q.heap.size t) := h318q.out.asideL (by omega) 0 [.int .i64 (3), .int .i64 (0)]
        clear h315q h316q h317q h318q
        refine hK.out _ _ h321q.out (fun hH => ?_)
        clear hK K
        generalize (u319q.setCells u18q.heap.size 0 [.int .i64 (3), .int .i64 (0)]) = u324q at h320q h321q h322q h323q hH ⊢
        try simp only [Act.put, List.setIfInBounds_toArray, List.set_cons_zero, List.set_cons_succ]
        refine wpAnyH_done (by kernel_rfl) ?_ _
        go_wp2_with fail
        go_meet
        case rel => exact ⟨u254q.heap.size, u18q.heap.size, rfl, rfl, h320q, h321q, h323q, h322q⟩
      case rest =>
        obtain ⟨b_u, b_a, rfl, rfl, h325q, h326q, h327q, h328q⟩ := hcut
        have c329q := h328q.out.at 0 rfl
        go_wp2_with (first
          | (refine wpList_load_wanted (by rfl) 27 _ rfl b_u _ rfl t.all _ h327q.out.range HD.out rfl (HS.out t) ?_)
          | (refine wpList_load_wanted (by rfl) 27 _ rfl u3q.heap.size _ rfl t.all _ h326q.out.range HD.out rfl (HS.out t) ?_))
        go_ret
        exact ⟨rfl, h325q.out.2⟩
    · have DO := tDo_eq t 1 k v
      rw [show tdo t 1 k v = (u, 1, 0) from hu] at DO
      unfold Told at DO
      dsimp only at DO
      have hlu : len u = len t + 1 := by
        rw [hF.len, if_neg]
        intro hh; have e := HL4.out; rw [look_has hh] at e; injection e with e1 e2; omega
      obtain ⟨u2, hu2, hRU, hg, ho, hl2⟩ := takes hF.rt (k := k) (x := 0) hk1 hk2
      rw [hF.has] at hu2
      have DO2 := tDo_eq u 2 k 0
      rw [show tdo u 2 k 0 = (u2, 1, v) from hu2] at DO2
      unfold Told at DO2
      dsimp only at DO2
      have hlen : len u2 = len t := by have := hl2 v hF.has; omega
      have RU : Hid (RT u2) := hRU
      have RR := Right_is u2 true ⟨fun _ => RU.out, fun _ => rfl⟩
      obtain ⟨⟨xc, xy⟩, hq⟩ : ∃ r, look t q = r := ⟨_, rfl⟩
      have hq2' : look u2 q = (xc, xy) := by
        by_cases e : q = k
        · rw [e] at hq ⊢; rw [hg, ← hq, HL4.out]
        · rw [ho q (by omega) e, hF.other q (by omega) e, hq]
      have PT := peek_is t q (by omega) (by omega)
      rw [show look t q = (xc, xy) from hq] at PT
      dsimp only at PT
      have PU := peek_is u2 q (by omega) (by omega)
      rw [show look u2 q = (xc, xy) from hq2'] at PU
      dsimp only at PU
      have PG := peek_is u2 k (by omega) (by omega)
      rw [show look u2 k = (4, 0) from hg] at PG
      dsimp only at PG
      have L1 := Len_is u2
      have L2 := Len_is t
      rw [hlen] at L1
      generalize len t = l at L1 L2
      clear hu hF hlu hu2 hRU hg ho hl2 hlen hq hq2'
      go_wp2_with fail
      go_cut [10, 11] (fun s10 s11 wx => ∃ b_u b_a : Nat, s10 = .pointer (some ⟨b_u, 0, none⟩) ∧ s11 = .pointer (some ⟨b_a, 0, none⟩) ∧ Hid (Gd n w wx) ∧ Hid (TAt wx u3q.heap.size t) ∧ Hid (TAt wx b_u u) ∧ Hid (Bo wx b_a [.int .i64 (1), .int .i64 (0)]) ∧ (n ≤ b_u ∧ u3q.heap.size < b_u ∧ b_u ≠ b_a))
      case first =>
        have h330q : Hid (Gd n w u13q.drew) := h14q.out.drew
        have h331q : Hid (TAt u13q.drew u3q.heap.size t) := h15q.out.drew
        clear h14q h15q
        refine wp_region_held_drew (S := fun w' => TAt w' u3q.heap.size t) (by kernel_rfl) h331q.out (fun hH => ?_)
        generalize u13q.drew = u332q at h330q h331q hH ⊢
        refine wpAnyH_take (i := 0) (oi := { dst := some 28, op := .load _ (.tmp 9), type := _, pos := _, after := _, guard := _ }) (v := _) rfl (by kernel_rfl) (by kernel_rfl) (by kernel_rfl) (fun _ _ _ h => h) (yieldsIf_load_mid (by rfl) _ _ rfl u3q.heap.size _ rfl t.all _ (fun _ h => (h).range) HD.out rfl (HS.out t)) hH ?_
        simp only [Act.put, List.setIfInBounds_toArray, List.set_cons_zero, List.set_cons_succ]
        refine wpAnyH_take (i := 1) (oi := { dst := some 29, op := .move (.tmp 1), type := _, pos := _, after := _, guard := _ }) (v := ?_) rfl (by kernel_rfl) (by kernel_rfl) (by kernel_rfl) (fun _ _ _ h => h) (Or.inl ⟨by rfl, ?_⟩) hH ?_
        rotate_left
        · intro w hSw
          clear hSw
          go_simp
          try with_reducible rfl
        simp only [Act.put, List.setIfInBounds_toArray, List.set_cons_zero, List.set_cons_succ]
        refine wpAnyH_take (i := 2) (oi := { dst := some 30, op := .move (.tmp 2), type := _, pos := _, after := _, guard := _ }) (v := ?_) rfl (by kernel_rfl) (by kernel_rfl) (by kernel_rfl) (fun _ _ _ h => h) (Or.inl ⟨by rfl, ?_⟩) hH ?_
        rotate_left
        · intro w hSw
          clear hSw
          go_simp
          try with_reducible rfl
        simp only [Act.put, List.setIfInBounds_toArray, List.set_cons_zero, List.set_cons_succ]
        refine wpAnyH_ready (rs := [3, 9, 10]) (by kernel_rfl) (by simp) ?_
        refine AllReadyH.cons (o := { dst := some 31, op := _, type := _, pos := _, after := _, guard := _ }) rfl (fun K hK => ?_) ?_
        · go_simp
          refine (Pr2.out _).mono ?_
          rintro e u333q ⟨rfl, hw⟩
          rw [hw]; clear hw u333q
          go_wp2_with fail
          refine hK.out _ _ h331q.out (fun hH => ?_)
          clear hK K
          try simp only [Act.put, List.setIfInBounds_toArray, List.set_cons_zero, List.set_cons_succ]
          refine wpAnyH_take (i := 4) (oi := { dst := some 32, op := .build _ #[(0, .const (.int .i64 1)), (1, .tmp 29), (2, .tmp 31)], type := _, pos := _, after := _, guard := _ }) (v := ?_) rfl (by kernel_rfl) (by kernel_rfl) (by kernel_rfl) (fun _ _ _ h => h) (Or.inl ⟨by rfl, ?_⟩) hH ?_
          rotate_left
          · intro w hSw
            clear hSw
            go_simp
            try with_reducible rfl
          simp only [Act.put, List.setIfInBounds_toArray, List.set_cons_zero, List.set_cons_succ]
          refine wpAnyH_ready (rs := [5, 9, 10]) (by kernel_rfl) (by simp) ?_
          refine AllReadyH.cons (o := { dst := some 33, op := _, type := _, pos := _, after := _, guard := _ }) rfl (fun K hK => ?_) ?_
          · go_simp
            refine (DO _).mono ?_
            rintro e u334q ⟨rfl, hb⟩
            have h335q : Hid (Gd n w u334q) := h330q.out.later hb
            have h336q : Hid (TAt u334q u3q.heap.size t) := h331q.out.later hb
            clear h330q h331q
            clear hb
            go_wp2_with fail
            refine hK.out _ _ h336q.out (fun hH => ?_)
            clear hK K
            try simp only [Act.put, List.setIfInBounds_toArray, List.set_cons_zero, List.set_cons_succ]
            refine wpAnyH_take (i := 6) (oi := { dst := some 27, op := .move (.tmp 33), type := _, pos := _, after := _, guard := _ }) (v := ?_) rfl (by kernel_rfl) (by kernel_rfl) (by kernel_rfl) (fun _ _ _ h => h) (Or.inl ⟨by rfl, ?_⟩) hH ?_
            rotate_left
            · intro w hSw
              clear hSw
              go_simp
              try with_reducible rfl
            simp only [Act.put, List.setIfInBounds_toArray, List.set_cons_zero, List.set_cons_succ]
            refine wpAnyH_take (i := 7) (oi := { dst := some 34, op := .extract (.tmp 27) 0, type := _, pos := _, after := _, guard := _ }) (v := ?_) rfl (by kernel_rfl) (by kernel_rfl) (by kernel_rfl) (fun _ _ _ h => h) (Or.inl ⟨by rfl, ?_⟩) hH ?_
            rotate_left
            · intro w hSw
              clear hSw
              go_simp
              try with_reducible rfl
            simp only [Act.put, List.setIfInBounds_toArray, List.set_cons_zero, List.set_cons_succ]
            refine wpAnyH_take (i := 8) (oi := { dst := some 35, op := .extract (.tmp 27) 1, type := _, pos := _, after := _, guard := _ }) (v := ?_) rfl (by kernel_rfl) (by kernel_rfl) (by kernel_rfl) (fun _ _ _ h => h) (Or.inl ⟨by rfl, ?_⟩) hH ?_
            rotate_left
            · intro w hSw
              clear hSw
              go_simp
              try with_reducible rfl
            simp only [Act.put, List.setIfInBounds_toArray, List.set_cons_zero, List.set_cons_succ]
            refine wpAnyH_ready (rs := [9, 10]) (by kernel_rfl) (by simp) ?_
            refine AllReadyH.cons (o := { dst := some 10, op := .alloc _, type := _, pos := _, after := _, guard := _ }) rfl (fun K hK => ?_) ?_
            · have l337q : n ≤ u334q.heap.size := h335q.out.le
              have l338q : u3q.heap.size < u334q.heap.size := h336q.out.lt
              go_simp
              have h339q : Hid (Gd n w (u334q.alloc (.cells #[.int .i64 0, .int .i64 0, .int .i64 0, .int .i64 0, .int .i64 0, .int .i64 0, .int .i64 0, .int .i64 0, .int .i64 0, .int .i64 0, .int .i64 0, .int .i64 0, .int .i64 0, .int .i64 0, .int .i64 0, .int .i64 0] 27))) := h335q.out.new (.cells #[.int .i64 0, .int .i64 0, .int .i64 0, .int .i64 0, .int .i64 0, .int .i64 0, .int .i64 0, .int .i64 0, .int .i64 0, .int .i64 0, .int .i64 0, .int .i64 0, .int .i64 0, .int .i64 0, .int .i64 0, .int .i64 0] 27)
              have h340q : Hid (TAt (u334q.alloc (.cells #[.int .i64 0, .int .i64 0, .int .i64 0, .int .i64 0, .int .i64 0, .int .i64 0, .int .i64 0, .int .i64 0, .int .i64 0, .int .i64 0, .int .i64 0, .int .i64 0, .int .i64 0, .int .i64 0, .int .i64 0, .int .i64 0] 27)) u3q.heap.size t) := h336q.out.new (.cells #[.int .i64 0, .int .i64 0, .int .i64 0, .int .i64 0, .int .i64 0, .int .i64 0, .int .i64 0, .int .i64 0, .int .i64 0, .int .i64 0, .int .i64 0, .int .i64 0, .int .i64 0, .int .i64 0, .int .i64 0, .int .i64 0] 27)
              clear h335q h336q
              have h341q : Hid (TAt (u334q.alloc (.cells #[.int .i64 0, .int .i64 0, .int .i64 0, .int .i64 0, .int .i64 0, .int .i64 0, .int .i64 0, .int .i64 0, .int .i64 0, .int .i64 0, .int .i64 0, .int .i64 0, .int .i64 0, .int .i64 0, .int .i64 0, .int .i64 0] 27)) u334q.heap.size Tb.zero) := TAt.bornZero u334q 27 (by simp)
              refine hK.out _ _ h340q.out (fun hH => ?_)
              clear hK K
              generalize (u334q.alloc (.cells #[.int .i64 0, .int .i64 0, .int .i64 0, .int .i64 0, .int .i64 0, .int .i64 0, .int .i64 0, .int .i64 0, .int .i64 0, .int .i64 0, .int .i64 0, .int .i64 0, .int .i64 0, .int .i64 0, .int .i64 0, .int .i64 0] 27)) = u342q at h339q h340q h341q hH ⊢
              try simp only [Act.put, List.setIfInBounds_toArray, List.set_cons_zero, List.set_cons_succ]
              refine wpAnyH_ready (rs := [10]) (by kernel_rfl) (by simp) ?_
              refine AllReadyH.cons (o := { dst := some 11, op := .alloc _, type := _, pos := _, after := _, guard := _ }) rfl (fun K hK => ?_) AllReadyH.nil
              have l343q : n ≤ u342q.heap.size := h339q.out.le
              have l344q : u3q.heap.size < u342q.heap.size := h340q.out.lt
              have l345q : u334q.heap.size < u342q.heap.size := h341q.out.lt
              go_simp
              have h346q : Hid (Gd n w (u342q.alloc (.cells #[.int .i64 0, .int .i64 0] 31))) := h339q.out.new (.cells #[.int .i64 0, .int .i64 0] 31)
              have h347q : Hid (TAt (u342q.alloc (.cells #[.int .i64 0, .int .i64 0] 31)) u3q.heap.size t) := h340q.out.new (.cells #[.int .i64 0, .int .i64 0] 31)
              have h348q : Hid (TAt (u342q.alloc (.cells #[.int .i64 0, .int .i64 0] 31)) u334q.heap.size Tb.zero) := h341q.out.new (.cells #[.int .i64 0, .int .i64 0] 31)
              clear h339q h340q h341q
              have h349q : Hid (Bo (u342q.alloc (.cells #[.int .i64 0, .int .i64 0] 31)) u342q.heap.size [.int .i64 0, .int .i64 0]) := Bo.born u342q [.int .i64 0, .int .i64 0] 31 (by simp)
              refine hK.out _ _ h347q.out (fun hH => ?_)
              clear hK K
              generalize (u342q.alloc (.cells #[.int .i64 0, .int .i64 0] 31)) = u350q at h346q h347q h348q h349q hH ⊢
              try simp only [Act.put, List.setIfInBounds_toArray, List.set_cons_zero, List.set_cons_succ]
              refine wpAnyH_ready (rs := [11]) (by kernel_rfl) (by simp) ?_
              refine AllReadyH.cons (o := { dst := none, op := .store _ (.tmp 10) (.tmp 34), type := _, pos := _, after := _, guard := _ }) rfl (fun K hK => ?_) AllReadyH.nil
              rw [if_pos (by rfl)]
              refine wp_store_mid _ _ _ rfl u334q.heap.size _ u.all.toArray rfl rfl (h348q.out.thereOf u) (HZ.out u) (u.all_all) ?_
              simp only [Act.put]
              have h351q : Hid (Gd n w (u350q.setCells u334q.heap.size 0 u.all)) := h346q.out.asideAll (by omega) u
              have h352q : Hid (TAt (u350q.setCells u334q.heap.size 0 u.all) u3q.heap.size t) := h347q.out.asideAll (by omega) u
              have h353q : Hid (TAt (u350q.setCells u334q.heap.size 0 u.all) u334q.heap.size u) := h348q.out.setAll u
              have h354q : Hid (Bo (u350q.setCells u334q.heap.size 0 u.all) u342q.heap.size [.int .i64 0, .int .i64 0]) := h349q.out.asideAll (by omega) u
              clear h346q h347q h348q h349q
              refine hK.out _ _ h352q.out (fun hH => ?_)
              clear hK K
              generalize (u350q.setCells u334q.heap.size 0 u.all) = u355q at h351q h352q h353q h354q hH ⊢
              try simp only [Act.put, List.setIfInBounds_toArray, List.set_cons_zero, List.set_cons_succ]
              refine wpAnyH_ready (rs := [12]) (by kernel_rfl) (by simp) ?_
              refine AllReadyH.cons (o := { dst := none, op := .store _ (.tmp 11) (.tmp 35), type := _, pos := _, after := _, guard := _ }) rfl (fun K hK => ?_) AllReadyH.nil
              rw [if_pos (by rfl)]
              refine wp_store_mid _ _ _ rfl u342q.heap.size _ #[.int .i64 (1), .int .i64 (0)] rfl rfl h354q.out.there2 HA.out (two_one _ _) ?_
              simp only [Act.put]
              have h356q : Hid (Gd n w (u355q.setCells u342q.heap.size 0 [.int .i64 (1), .int .i64 (0)])) := h351q.out.asideL (by omega) 0 [.int .i64 (1), .int .i64 (0)]
              have h357q : Hid (TAt (u355q.setCells u342q.heap.size 0 [.int .i64 (1), .int .i64 (0)]) u3q.heap.size t) := h352q.out.asideL (by omega) 0 [.int .i64 (1), .int .i64 (0)]
              have h358q : Hid (TAt (u355q.setCells u342q.heap.size 0 [.int .i64 (1), .int .i64 (0)]) u334q.heap.size u) := h353q.out.asideL (by omega) 0 [.int .i64 (1), .int .i64 (0)]
              have h359q : Hid (Bo (u355q.setCells u342q.heap.size 0 [.int .i64 (1), .int .i64 (0)]) u342q.heap.size [.int .i64 (1), .int .i64 (0)]) := h354q.out.set2 (.int .i64 (1)) (.int .i64 (0))
              clear h351q h352q h353q h354q
              refine hK.out _ _ h357q.out (fun hH => ?_)
              clear hK K
              generalize (u355q.setCells u342q.heap.size 0 [.int .i64 (1), .int .i64 (0)]) = u360q at h356q h357q h358q h359q hH ⊢
              try simp only [Act.put, List.setIfInBounds_toArray, List.set_cons_zero, List.set_cons_succ]
              refine wpAnyH_done (by kernel_rfl) ?_ _
              go_wp2_with fail
              go_meet
              case rel => exact ⟨u334q.heap.size, u342q.heap.size, rfl, rfl, h356q, h357q, h358q, h359q, (by omega)⟩
            refine AllReadyH.cons (o := { dst := some 11, op := .alloc _, type := _, pos := _, after := _, guard := _ }) rfl (fun K hK => ?_) AllReadyH.nil
            have l361q : n ≤ u334q.heap.size := h335q.out.le
            have l362q : u3q.heap.size < u334q.heap.size := h336q.out.lt
            go_simp
            have h363q : Hid (Gd n w (u334q.alloc (.cells #[.int .i64 0, .int .i64 0] 31))) := h335q.out.new (.cells #[.int .i64 0, .int .i64 0] 31)
            have h364q : Hid (TAt (u334q.alloc (.cells #[.int .i64 0, .int .i64 0] 31)) u3q.heap.size t) := h336q.out.new (.cells #[.int .i64 0, .int .i64 0] 31)
            clear h335q h336q
            have h365q : Hid (Bo (u334q.alloc (.cells #[.int .i64 0, .int .i64 0] 31)) u334q.heap.size [.int .i64 0, .int .i64 0]) := Bo.born u334q [.int .i64 0, .int .i64 0] 31 (by simp)
            refine hK.out _ _ h364q.out (fun hH => ?_)
            clear hK K
            generalize (u334q.alloc (.cells #[.int .i64 0, .int .i64 0] 31)) = u366q at h363q h364q h365q hH ⊢
            try simp only [Act.put, List.setIfInBounds_toArray, List.set_cons_zero, List.set_cons_succ]
            refine wpAnyH_ready (rs := [9]) (by kernel_rfl) (by simp) ?_
            refine AllReadyH.cons (o := { dst := some 10, op := .alloc _, type := _, pos := _, after := _, guard := _ }) rfl (fun K hK => ?_) AllReadyH.nil
            have l367q : n ≤ u366q.heap.size := h363q.out.le
            have l368q : u3q.heap.size < u366q.heap.size := h364q.out.lt
            have l369q : u334q.heap.size < u366q.heap.size := h365q.out.lt
            go_simp
            have h370q : Hid (Gd n w (u366q.alloc (.cells #[.int .i64 0, .int .i64 0, .int .i64 0, .int .i64 0, .int .i64 0, .int .i64 0, .int .i64 0, .int .i64 0, .int .i64 0, .int .i64 0, .int .i64 0, .int .i64 0, .int .i64 0, .int .i64 0, .int .i64 0, .int .i64 0] 27))) := h363q.out.new (.cells #[.int .i64 0, .int .i64 0, .int .i64 0, .int .i64 0, .int .i64 0, .int .i64 0, .int .i64 0, .int .i64 0, .int .i64 0, .int .i64 0, .int .i64 0, .int .i64 0, .int .i64 0, .int .i64 0, .int .i64 0, .int .i64 0] 27)
            have h371q : Hid (TAt (u366q.alloc (.cells #[.int .i64 0, .int .i64 0, .int .i64 0, .int .i64 0, .int .i64 0, .int .i64 0, .int .i64 0, .int .i64 0, .int .i64 0, .int .i64 0, .int .i64 0, .int .i64 0, .int .i64 0, .int .i64 0, .int .i64 0, .int .i64 0] 27)) u3q.heap.size t) := h364q.out.new (.cells #[.int .i64 0, .int .i64 0, .int .i64 0, .int .i64 0, .int .i64 0, .int .i64 0, .int .i64 0, .int .i64 0, .int .i64 0, .int .i64 0, .int .i64 0, .int .i64 0, .int .i64 0, .int .i64 0, .int .i64 0, .int .i64 0] 27)
            have h372q : Hid (Bo (u366q.alloc (.cells #[.int .i64 0, .int .i64 0, .int .i64 0, .int .i64 0, .int .i64 0, .int .i64 0, .int .i64 0, .int .i64 0, .int .i64 0, .int .i64 0, .int .i64 0, .int .i64 0, .int .i64 0, .int .i64 0, .int .i64 0, .int .i64 0] 27)) u334q.heap.size [.int .i64 0, .int .i64 0]) := h365q.out.new (.cells #[.int .i64 0, .int .i64 0, .int .i64 0, .int .i64 0, .int .i64 0, .int .i64 0, .int .i64 0, .int .i64 0, .int .i64 0, .int .i64 0, .int .i64 0, .int .i64 0, .int .i64 0, .int .i64 0, .int .i64 0, .int .i64 0] 27)
            clear h363q h364q h365q
            have h373q : Hid (TAt (u366q.alloc (.cells #[.int .i64 0, .int .i64 0, .int .i64 0, .int .i64 0, .int .i64 0, .int .i64 0, .int .i64 0, .int .i64 0, .int .i64 0, .int .i64 0, .int .i64 0, .int .i64 0, .int .i64 0, .int .i64 0, .int .i64 0, .int .i64 0] 27)) u366q.heap.size Tb.zero) := TAt.bornZero u366q 27 (by simp)
            refine hK.out _ _ h371q.out (fun hH => ?_)
            clear hK K
            generalize (u366q.alloc (.cells #[.int .i64 0, .int .i64 0, .int .i64 0, .int .i64 0, .int .i64 0, .int .i64 0, .int .i64 0, .int .i64 0, .int .i64 0, .int .i64 0, .int .i64 0, .int .i64 0, .int .i64 0, .int .i64 0, .int .i64 0, .int .i64 0] 27)) = u374q at h370q h371q h372q h373q hH ⊢
            try simp only [Act.put, List.setIfInBounds_toArray, List.set_cons_zero, List.set_cons_succ]
            refine wpAnyH_ready (rs := [11]) (by kernel_rfl) (by simp) ?_
            refine AllReadyH.cons (o := { dst := none, op := .store _ (.tmp 10) (.tmp 34), type := _, pos := _, after := _, guard := _ }) rfl (fun K hK => ?_) AllReadyH.nil
            rw [if_pos (by rfl)]
            refine wp_store_mid _ _ _ rfl u366q.heap.size _ u.all.toArray rfl rfl (h373q.out.thereOf u) (HZ.out u) (u.all_all) ?_
            simp only [Act.put]
            have h375q : Hid (Gd n w (u374q.setCells u366q.heap.size 0 u.all)) := h370q.out.asideAll (by omega) u
            have h376q : Hid (TAt (u374q.setCells u366q.heap.size 0 u.all) u3q.heap.size t) := h371q.out.asideAll (by omega) u
            have h377q : Hid (Bo (u374q.setCells u366q.heap.size 0 u.all) u334q.heap.size [.int .i64 0, .int .i64 0]) := h372q.out.asideAll (by omega) u
            have h378q : Hid (TAt (u374q.setCells u366q.heap.size 0 u.all) u366q.heap.size u) := h373q.out.setAll u
            clear h370q h371q h372q h373q
            refine hK.out _ _ h376q.out (fun hH => ?_)
            clear hK K
            generalize (u374q.setCells u366q.heap.size 0 u.all) = u379q at h375q h376q h377q h378q hH ⊢
            try simp only [Act.put, List.setIfInBounds_toArray, List.set_cons_zero, List.set_cons_succ]
            refine wpAnyH_ready (rs := [12]) (by kernel_rfl) (by simp) ?_
            refine AllReadyH.cons (o := { dst := none, op := .store _ (.tmp 11) (.tmp 35), type := _, pos := _, after := _, guard := _ }) rfl (fun K hK => ?_) AllReadyH.nil
            rw [if_pos (by rfl)]
            refine wp_store_mid _ _ _ rfl u334q.heap.size _ #[.int .i64 (1), .int .i64 (0)] rfl rfl h377q.out.there2 HA.out (two_one _ _) ?_
            simp only [Act.put]
            have h380q : Hid (Gd n w (u379q.setCells u334q.heap.size 0 [.int .i64 (1), .int .i64 (0)])) := h375q.out.asideL (by omega) 0 [.int .i64 (1), .int .i64 (0)]
            have h381q : Hid (TAt (u379q.setCells u334q.heap.size 0 [.int .i64 (1), .int .i64 (0)]) u3q.heap.size t) := h376q.out.asideL (by omega) 0 [.int .i64 (1), .int .i64 (0)]
            have h382q : Hid (Bo (u379q.setCells u334q.heap.size 0 [.int .i64 (1), .int .i64 (0)]) u334q.heap.size [.int .i64 (1), .int .i64 (0)]) := h377q.out.set2 (.int .i64 (1)) (.int .i64 (0))
            have h383q : Hid (TAt (u379q.setCells u334q.heap.size 0 [.int .i64 (1), .int .i64 (0)]) u366q.heap.size u) := h378q.out.asideL (by omega) 0 [.int .i64 (1), .int .i64 (0)]
            clear h375q h376q h377q h378q
            refine hK.out _ _ h381q.out (fun hH => ?_)
            clear hK K
            generalize (u379q.setCells u334q.heap.size 0 [.int .i64 (1), .int .i64 (0)]) = u384q at h380q h381q h382q h383q hH ⊢
            try simp only [Act.put, List.setIfInBounds_toArray, List.set_cons_zero, List.set_cons_succ]
            refine wpAnyH_done (by kernel_rfl) ?_ _
            go_wp2_with fail
            go_meet
            case rel => exact ⟨u366q.heap.size, u334q.heap.size, rfl, rfl, h380q, h381q, h383q, h382q, (by omega)⟩
          refine AllReadyH.cons (o := { dst := some 10, op := .alloc _, type := _, pos := _, after := _, guard := _ }) rfl (fun K hK => ?_) ?_
          · have l385q : n ≤ u332q.heap.size := h330q.out.le
            have l386q : u3q.heap.size < u332q.heap.size := h331q.out.lt
            go_simp
            have h387q : Hid (Gd n w (u332q.alloc (.cells #[.int .i64 0, .int .i64 0, .int .i64 0, .int .i64 0, .int .i64 0, .int .i64 0, .int .i64 0, .int .i64 0, .int .i64 0, .int .i64 0, .int .i64 0, .int .i64 0, .int .i64 0, .int .i64 0, .int .i64 0, .int .i64 0] 27))) := h330q.out.new (.cells #[.int .i64 0, .int .i64 0, .int .i64 0, .int .i64 0, .int .i64 0, .int .i64 0, .int .i64 0, .int .i64 0, .int .i64 0, .int .i64 0, .int .i64 0, .int .i64 0, .int .i64 0, .int .i64 0, .int .i64 0, .int .i64 0] 27)
            have h388q : Hid (TAt (u332q.alloc (.cells #[.int .i64 0, .int .i64 0, .int .i64 0, .int .i64 0, .int .i64 0, .int .i64 0, .int .i64 0, .int .i64 0, .int .i64 0, .int .i64 0, .int .i64 0, .int .i64 0, .int .i64 0, .int .i64 0, .int .i64 0, .int .i64 0] 27)) u3q.heap.size t) := h331q.out.new (.cells #[.int .i64 0, .int .i64 0, .int .i64 0, .int .i64 0, .int .i64 0, .int .i64 0, .int .i64 0, .int .i64 0, .int .i64 0, .int .i64 0, .int .i64 0, .int .i64 0, .int .i64 0, .int .i64 0, .int .i64 0, .int .i64 0] 27)
            clear h330q h331q
            have h389q : Hid (TAt (u332q.alloc (.cells #[.int .i64 0, .int .i64 0, .int .i64 0, .int .i64 0, .int .i64 0, .int .i64 0, .int .i64 0, .int .i64 0, .int .i64 0, .int .i64 0, .int .i64 0, .int .i64 0, .int .i64 0, .int .i64 0, .int .i64 0, .int .i64 0] 27)) u332q.heap.size Tb.zero) := TAt.bornZero u332q 27 (by simp)
            refine hK.out _ _ h388q.out (fun hH => ?_)
            clear hK K
            generalize (u332q.alloc (.cells #[.int .i64 0, .int .i64 0, .int .i64 0, .int .i64 0, .int .i64 0, .int .i64 0, .int .i64 0, .int .i64 0, .int .i64 0, .int .i64 0, .int .i64 0, .int .i64 0, .int .i64 0, .int .i64 0, .int .i64 0, .int .i64 0] 27)) = u390q at h387q h388q h389q hH ⊢
            try simp only [Act.put, List.setIfInBounds_toArray, List.set_cons_zero, List.set_cons_succ]
            refine wpAnyH_ready (rs := [5, 10]) (by kernel_rfl) (by simp) ?_
            refine AllReadyH.cons (o := { dst := some 33, op := _, type := _, pos := _, after := _, guard := _ }) rfl (fun K hK => ?_) ?_
            · go_simp
              refine (DO _).mono ?_
              rintro e u391q ⟨rfl, hb⟩
              have h392q : Hid (Gd n w u391q) := h387q.out.later hb
              have h393q : Hid (TAt u391q u3q.heap.size t) := h388q.out.later hb
              have h394q : Hid (TAt u391q u332q.heap.size Tb.zero) := h389q.out.later hb
              clear h387q h388q h389q
              clear hb
              go_wp2_with fail
              refine hK.out _ _ h393q.out (fun hH => ?_)
              clear hK K
              try simp only [Act.put, List.setIfInBounds_toArray, List.set_cons_zero, List.set_cons_succ]
              refine wpAnyH_take (i := 6) (oi := { dst := some 27, op := .move (.tmp 33), type := _, pos := _, after := _, guard := _ }) (v := ?_) rfl (by kernel_rfl) (by kernel_rfl) (by kernel_rfl) (fun _ _ _ h => h) (Or.inl ⟨by rfl, ?_⟩) hH ?_
              rotate_left
              · intro w hSw
                clear hSw
                go_simp
                try with_reducible rfl
              simp only [Act.put, List.setIfInBounds_toArray, List.set_cons_zero, List.set_cons_succ]
              refine wpAnyH_take (i := 7) (oi := { dst := some 34, op := .extract (.tmp 27) 0, type := _, pos := _, after := _, guard := _ }) (v := ?_) rfl (by kernel_rfl) (by kernel_rfl) (by kernel_rfl) (fun _ _ _ h => h) (Or.inl ⟨by rfl, ?_⟩) hH ?_
              rotate_left
              · intro w hSw
                clear hSw
                go_simp
                try with_reducible rfl
              simp only [Act.put, List.setIfInBounds_toArray, List.set_cons_zero, List.set_cons_succ]
              refine wpAnyH_take (i := 8) (oi := { dst := some 35, op := .extract (.tmp 27) 1, type := _, pos := _, after := _, guard := _ }) (v := ?_) rfl (by kernel_rfl) (by kernel_rfl) (by kernel_rfl) (fun _ _ _ h => h) (Or.inl ⟨by rfl, ?_⟩) hH ?_
              rotate_left
              · intro w hSw
                clear hSw
                go_simp
                try with_reducible rfl
              simp only [Act.put, List.setIfInBounds_toArray, List.set_cons_zero, List.set_cons_succ]
              refine wpAnyH_ready (rs := [10]) (by kernel_rfl) (by simp) ?_
              refine AllReadyH.cons (o := { dst := some 11, op := .alloc _, type := _, pos := _, after := _, guard := _ }) rfl (fun K hK => ?_) AllReadyH.nil
              have l395q : n ≤ u391q.heap.size := h392q.out.le
              have l396q : u3q.heap.size < u391q.heap.size := h393q.out.lt
              have l397q : u332q.heap.size < u391q.heap.size := h394q.out.lt
              go_simp
              have h398q : Hid (Gd n w (u391q.alloc (.cells #[.int .i64 0, .int .i64 0] 31))) := h392q.out.new (.cells #[.int .i64 0, .int .i64 0] 31)
              have h399q : Hid (TAt (u391q.alloc (.cells #[.int .i64 0, .int .i64 0] 31)) u3q.heap.size t) := h393q.out.new (.cells #[.int .i64 0, .int .i64 0] 31)
              have h400q : Hid (TAt (u391q.alloc (.cells #[.int .i64 0, .int .i64 0] 31)) u332q.heap.size Tb.zero) := h394q.out.new (.cells #[.int .i64 0, .int .i64 0] 31)
              clear h392q h393q h394q
              have h401q : Hid (Bo (u391q.alloc (.cells #[.int .i64 0, .int .i64 0] 31)) u391q.heap.size [.int .i64 0, .int .i64 0]) := Bo.born u391q [.int .i64 0, .int .i64 0] 31 (by simp)
              refine hK.out _ _ h399q.out (fun hH => ?_)
              clear hK K
              generalize (u391q.alloc (.cells #[.int .i64 0, .int .i64 0] 31)) = u402q at h398q h399q h400q h401q hH ⊢
              try simp only [Act.put, List.setIfInBounds_toArray, List.set_cons_zero, List.set_cons_succ]
              refine wpAnyH_ready (rs := [11]) (by kernel_rfl) (by simp) ?_
              refine AllReadyH.cons (o := { dst := none, op := .store _ (.tmp 10) (.tmp 34), type := _, pos := _, after := _, guard := _ }) rfl (fun K hK => ?_) AllReadyH.nil
              rw [if_pos (by rfl)]
              refine wp_store_mid _ _ _ rfl u332q.heap.size _ u.all.toArray rfl rfl (h400q.out.thereOf u) (HZ.out u) (u.all_all) ?_
              simp only [Act.put]
              have h403q : Hid (Gd n w (u402q.setCells u332q.heap.size 0 u.all)) := h398q.out.asideAll (by omega) u
              have h404q : Hid (TAt (u402q.setCells u332q.heap.size 0 u.all) u3q.heap.size t) := h399q.out.asideAll (by omega) u
              have h405q : Hid (TAt (u402q.setCells u332q.heap.size 0 u.all) u332q.heap.size u) := h400q.out.setAll u
              have h406q : Hid (Bo (u402q.setCells u332q.heap.size 0 u.all) u391q.heap.size [.int .i64 0, .int .i64 0]) := h401q.out.asideAll (by omega) u
              clear h398q h399q h400q h401q
              refine hK.out _ _ h404q.out (fun hH => ?_)
              clear hK K
              generalize (u402q.setCells u332q.heap.size 0 u.all) = u407q at h403q h404q h405q h406q hH ⊢
              try simp only [Act.put, List.setIfInBounds_toArray, List.set_cons_zero, List.set_cons_succ]
              refine wpAnyH_ready (rs := [12]) (by kernel_rfl) (by simp) ?_
              refine AllReadyH.cons (o := { dst := none, op := .store _ (.tmp 11) (.tmp 35), type := _, pos := _, after := _, guard := _ }) rfl (fun K hK => ?_) AllReadyH.nil
              rw [if_pos (by rfl)]
              refine wp_store_mid _ _ _ rfl u391q.heap.size _ #[.int .i64 (1), .int .i64 (0)] rfl rfl h406q.out.there2 HA.out (two_one _ _) ?_
              simp only [Act.put]
              have h408q : Hid (Gd n w (u407q.setCells u391q.heap.size 0 [.int .i64 (1), .int .i64 (0)])) := h403q.out.asideL (by omega) 0 [.int .i64 (1), .int .i64 (0)]
              have h409q : Hid (TAt (u407q.setCells u391q.heap.size 0 [.int .i64 (1), .int .i64 (0)]) u3q.heap.size t) := h404q.out.asideL (by omega) 0 [.int .i64 (1), .int .i64 (0)]
              have h410q : Hid (TAt (u407q.setCells u391q.heap.size 0 [.int .i64 (1), .int .i64 (0)]) u332q.heap.size u) := h405q.out.asideL (by omega) 0 [.int .i64 (1), .int .i64 (0)]
              have h411q : Hid (Bo (u407q.setCells u391q.heap.size 0 [.int .i64 (1), .int .i64 (0)]) u391q.heap.size [.int .i64 (1), .int .i64 (0)]) := h406q.out.set2 (.int .i64 (1)) (.int .i64 (0))
              clear h403q h404q h405q h406q
              refine hK.out _ _ h409q.out (fun hH => ?_)
              clear hK K
              generalize (u407q.setCells u391q.heap.size 0 [.int .i64 (1), .int .i64 (0)]) = u412q at h408q h409q h410q h411q hH ⊢
              try simp only [Act.put, List.setIfInBounds_toArray, List.set_cons_zero, List.set_cons_succ]
              refine wpAnyH_done (by kernel_rfl) ?_ _
              go_wp2_with fail
              go_meet
              case rel => exact ⟨u332q.heap.size, u391q.heap.size, rfl, rfl, h408q, h409q, h410q, h411q, (by omega)⟩
            refine AllReadyH.cons (o := { dst := some 11, op := .alloc _, type := _, pos := _, after := _, guard := _ }) rfl (fun K hK => ?_) AllReadyH.nil
            have l413q : n ≤ u390q.heap.size := h387q.out.le
            have l414q : u3q.heap.size < u390q.heap.size := h388q.out.lt
            have l415q : u332q.heap.size < u390q.heap.size := h389q.out.lt
            go_simp
            have h416q : Hid (Gd n w (u390q.alloc (.cells #[.int .i64 0, .int .i64 0] 31))) := h387q.out.new (.cells #[.int .i64 0, .int .i64 0] 31)
            have h417q : Hid (TAt (u390q.alloc (.cells #[.int .i64 0, .int .i64 0] 31)) u3q.heap.size t) := h388q.out.new (.cells #[.int .i64 0, .int .i64 0] 31)
            have h418q : Hid (TAt (u390q.alloc (.cells #[.int .i64 0, .int .i64 0] 31)) u332q.heap.size Tb.zero) := h389q.out.new (.cells #[.int .i64 0, .int .i64 0] 31)
            clear h387q h388q h389q
            have h419q : Hid (Bo (u390q.alloc (.cells #[.int .i64 0, .int .i64 0] 31)) u390q.heap.size [.int .i64 0, .int .i64 0]) := Bo.born u390q [.int .i64 0, .int .i64 0] 31 (by simp)
            refine hK.out _ _ h417q.out (fun hH => ?_)
            clear hK K
            generalize (u390q.alloc (.cells #[.int .i64 0, .int .i64 0] 31)) = u420q at h416q h417q h418q h419q hH ⊢
            try simp only [Act.put, List.setIfInBounds_toArray, List.set_cons_zero, List.set_cons_succ]
            refine wpAnyH_ready (rs := [5]) (by kernel_rfl) (by simp) ?_
            refine AllReadyH.cons (o := { dst := some 33, op := _, type := _, pos := _, after := _, guard := _ }) rfl (fun K hK => ?_) AllReadyH.nil
            go_simp
            refine (DO _).mono ?_
            rintro e u421q ⟨rfl, hb⟩
            have h422q : Hid (Gd n w u421q) := h416q.out.later hb
            have h423q : Hid (TAt u421q u3q.heap.size t) := h417q.out.later hb
            have h424q : Hid (TAt u421q u332q.heap.size Tb.zero) := h418q.out.later hb
            have h425q : Hid (Bo u421q u390q.heap.size [.int .i64 0, .int .i64 0]) := h419q.out.later hb
            clear h416q h417q h418q h419q
            clear hb
            go_wp2_with fail
            refine hK.out _ _ h423q.out (fun hH => ?_)
            clear hK K
            try simp only [Act.put, List.setIfInBounds_toArray, List.set_cons_zero, List.set_cons_succ]
            refine wpAnyH_take (i := 6) (oi := { dst := some 27, op := .move (.tmp 33), type := _, pos := _, after := _, guard := _ }) (v := ?_) rfl (by kernel_rfl) (by kernel_rfl) (by kernel_rfl) (fun _ _ _ h => h) (Or.inl ⟨by rfl, ?_⟩) hH ?_
            rotate_left
            · intro w hSw
              clear hSw
              go_simp
              try with_reducible rfl
            simp only [Act.put, List.setIfInBounds_toArray, List.set_cons_zero, List.set_cons_succ]
            refine wpAnyH_take (i := 7) (oi := { dst := some 34, op := .extract (.tmp 27) 0, type := _, pos := _, after := _, guard := _ }) (v := ?_) rfl (by kernel_rfl) (by kernel_rfl) (by kernel_rfl) (fun _ _ _ h => h) (Or.inl ⟨by rfl, ?_⟩) hH ?_
            rotate_left
            · intro w hSw
              clear hSw
              go_simp
              try with_reducible rfl
            simp only [Act.put, List.setIfInBounds_toArray, List.set_cons_zero, List.set_cons_succ]
            refine wpAnyH_take (i := 8) (oi := { dst := some 35, op := .extract (.tmp 27) 1, type := _, pos := _, after := _, guard := _ }) (v := ?_) rfl (by kernel_rfl) (by kernel_rfl) (by kernel_rfl) (fun _ _ _ h => h) (Or.inl ⟨by rfl, ?_⟩) hH ?_
            rotate_left
            · intro w hSw
              clear hSw
              go_simp
              try with_reducible rfl
            simp only [Act.put, List.setIfInBounds_toArray, List.set_cons_zero, List.set_cons_succ]
            refine wpAnyH_ready (rs := [11]) (by kernel_rfl) (by simp) ?_
            refine AllReadyH.cons (o := { dst := none, op := .store _ (.tmp 10) (.tmp 34), type := _, pos := _, after := _, guard := _ }) rfl (fun K hK => ?_) AllReadyH.nil
            rw [if_pos (by rfl)]
            refine wp_store_mid _ _ _ rfl u332q.heap.size _ u.all.toArray rfl rfl (h424q.out.thereOf u) (HZ.out u) (u.all_all) ?_
            simp only [Act.put]
            have h426q : Hid (Gd n w (u421q.setCells u332q.heap.size 0 u.all)) := h422q.out.asideAll (by omega) u
            have h427q : Hid (TAt (u421q.setCells u332q.heap.size 0 u.all) u3q.heap.size t) := h423q.out.asideAll (by omega) u
            have h428q : Hid (TAt (u421q.setCells u332q.heap.size 0 u.all) u332q.heap.size u) := h424q.out.setAll u
            have h429q : Hid (Bo (u421q.setCells u332q.heap.size 0 u.all) u390q.heap.size [.int .i64 0, .int .i64 0]) := h425q.out.asideAll (by omega) u
            clear h422q h423q h424q h425q
            refine hK.out _ _ h427q.out (fun hH => ?_)
            clear hK K
            generalize (u421q.setCells u332q.heap.size 0 u.all) = u430q at h426q h427q h428q h429q hH ⊢
            try simp only [Act.put, List.setIfInBounds_toArray, List.set_cons_zero, List.set_cons_succ]
            refine wpAnyH_ready (rs := [12]) (by kernel_rfl) (by simp) ?_
            refine AllReadyH.cons (o := { dst := none, op := .store _ (.tmp 11) (.tmp 35), type := _, pos := _, after := _, guard := _ }) rfl (fun K hK => ?_) AllReadyH.nil
            rw [if_pos (by rfl)]
            refine wp_store_mid _ _ _ rfl u390q.heap.size _ #[.int .i64 (1), .int .i64 (0)] rfl rfl h429q.out.there2 HA.out (two_one _ _) ?_
            simp only [Act.put]
            have h431q : Hid (Gd n w (u430q.setCells u390q.heap.size 0 [.int .i64 (1), .int .i64 (0)])) := h426q.out.asideL (by omega) 0 [.int .i64 (1), .int .i64 (0)]
            have h432q : Hid (TAt (u430q.setCells u390q.heap.size 0 [.int .i64 (1), .int .i64 (0)]) u3q.heap.size t) := h427q.out.asideL (by omega) 0 [.int .i64 (1), .int .i64 (0)]
            have h433q : Hid (TAt (u430q.setCells u390q.heap.size 0 [.int .i64 (1), .int .i64 (0)]) u332q.heap.size u) := h428q.out.asideL (by omega) 0 [.int .i64 (1), .int .i64 (0)]
            have h434q : Hid (Bo (u430q.setCells u390q.heap.size 0 [.int .i64 (1), .int .i64 (0)]) u390q.heap.size [.int .i64 (1), .int .i64 (0)]) := h429q.out.set2 (.int .i64 (1)) (.int .i64 (0))
            clear h426q h427q h428q h429q
            refine hK.out _ _ h432q.out (fun hH => ?_)
            clear hK K
            generalize (u430q.setCells u390q.heap.size 0 [.int .i64 (1), .int .i64 (0)]) = u435q at h431q h432q h433q h434q hH ⊢
            try simp only [Act.put, List.setIfInBounds_toArray, List.set_cons_zero, List.set_cons_succ]
            refine wpAnyH_done (by kernel_rfl) ?_ _
            go_wp2_with fail
            go_meet
            case rel => exact ⟨u332q.heap.size, u390q.heap.size, rfl, rfl, h431q, h432q, h433q, h434q, (by omega)⟩
          refine AllReadyH.cons (o := { dst := some 11, op := .alloc _, type := _, pos := _, after := _, guard := _ }) rfl (fun K hK => ?_) AllReadyH.nil
          have l436q : n ≤ u332q.heap.size := h330q.out.le
          have l437q : u3q.heap.size < u332q.heap.size := h331q.out.lt
          go_simp
          have h438q : Hid (Gd n w (u332q.alloc (.cells #[.int .i64 0, .int .i64 0] 31))) := h330q.out.new (.cells #[.int .i64 0, .int .i64 0] 31)
          have h439q : Hid (TAt (u332q.alloc (.cells #[.int .i64 0, .int .i64 0] 31)) u3q.heap.size t) := h331q.out.new (.cells #[.int .i64 0, .int .i64 0] 31)
          clear h330q h331q
          have h440q : Hid (Bo (u332q.alloc (.cells #[.int .i64 0, .int .i64 0] 31)) u332q.heap.size [.int .i64 0, .int .i64 0]) := Bo.born u332q [.int .i64 0, .int .i64 0] 31 (by simp)
          refine hK.out _ _ h439q.out (fun hH => ?_)
          clear hK K
          generalize (u332q.alloc (.cells #[.int .i64 0, .int .i64 0] 31)) = u441q at h438q h439q h440q hH ⊢
          try simp only [Act.put, List.setIfInBounds_toArray, List.set_cons_zero, List.set_cons_succ]
          refine wpAnyH_ready (rs := [5, 9]) (by kernel_rfl) (by simp) ?_
          refine AllReadyH.cons (o := { dst := some 33, op := _, type := _, pos := _, after := _, guard := _ }) rfl (fun K hK => ?_) ?_
          · go_simp
            refine (DO _).mono ?_
            rintro e u442q ⟨rfl, hb⟩
            have h443q : Hid (Gd n w u442q) := h438q.out.later hb
            have h444q : Hid (TAt u442q u3q.heap.size t) := h439q.out.later hb
            have h445q : Hid (Bo u442q u332q.heap.size [.int .i64 0, .int .i64 0]) := h440q.out.later hb
            clear h438q h439q h440q
            clear hb
            go_wp2_with fail
            refine hK.out _ _ h444q.out (fun hH => ?_)
            clear hK K
            try simp only [Act.put, List.setIfInBounds_toArray, List.set_cons_zero, List.set_cons_succ]
            refine wpAnyH_take (i := 6) (oi := { dst := some 27, op := .move (.tmp 33), type := _, pos := _, after := _, guard := _ }) (v := ?_) rfl (by kernel_rfl) (by kernel_rfl) (by kernel_rfl) (fun _ _ _ h => h) (Or.inl ⟨by rfl, ?_⟩) hH ?_
            rotate_left
            · intro w hSw
              clear hSw
              go_simp
              try with_reducible rfl
            simp only [Act.put, List.setIfInBounds_toArray, List.set_cons_zero, List.set_cons_succ]
            refine wpAnyH_take (i := 7) (oi := { dst := some 34, op := .extract (.tmp 27) 0, type := _, pos := _, after := _, guard := _ }) (v := ?_) rfl (by kernel_rfl) (by kernel_rfl) (by kernel_rfl) (fun _ _ _ h => h) (Or.inl ⟨by rfl, ?_⟩) hH ?_
            rotate_left
            · intro w hSw
              clear hSw
              go_simp
              try with_reducible rfl
            simp only [Act.put, List.setIfInBounds_toArray, List.set_cons_zero, List.set_cons_succ]
            refine wpAnyH_take (i := 8) (oi := { dst := some 35, op := .extract (.tmp 27) 1, type := _, pos := _, after := _, guard := _ }) (v := ?_) rfl (by kernel_rfl) (by kernel_rfl) (by kernel_rfl) (fun _ _ _ h => h) (Or.inl ⟨by rfl, ?_⟩) hH ?_
            rotate_left
            · intro w hSw
              clear hSw
              go_simp
              try with_reducible rfl
            simp only [Act.put, List.setIfInBounds_toArray, List.set_cons_zero, List.set_cons_succ]
            refine wpAnyH_ready (rs := [9]) (by kernel_rfl) (by simp) ?_
            refine AllReadyH.cons (o := { dst := some 10, op := .alloc _, type := _, pos := _, after := _, guard := _ }) rfl (fun K hK => ?_) AllReadyH.nil
            have l446q : n ≤ u442q.heap.size := h443q.out.le
            have l447q : u3q.heap.size < u442q.heap.size := h444q.out.lt
            have l448q : u332q.heap.size < u442q.heap.size := h445q.out.lt
            go_simp
            have h449q : Hid (Gd n w (u442q.alloc (.cells #[.int .i64 0, .int .i64 0, .int .i64 0, .int .i64 0, .int .i64 0, .int .i64 0, .int .i64 0, .int .i64 0, .int .i64 0, .int .i64 0, .int .i64 0, .int .i64 0, .int .i64 0, .int .i64 0, .int .i64 0, .int .i64 0] 27))) := h443q.out.new (.cells #[.int .i64 0, .int .i64 0, .int .i64 0, .int .i64 0, .int .i64 0, .int .i64 0, .int .i64 0, .int .i64 0, .int .i64 0, .int .i64 0, .int .i64 0, .int .i64 0, .int .i64 0, .int .i64 0, .int .i64 0, .int .i64 0] 27)
            have h450q : Hid (TAt (u442q.alloc (.cells #[.int .i64 0, .int .i64 0, .int .i64 0, .int .i64 0, .int .i64 0, .int .i64 0, .int .i64 0, .int .i64 0, .int .i64 0, .int .i64 0, .int .i64 0, .int .i64 0, .int .i64 0, .int .i64 0, .int .i64 0, .int .i64 0] 27)) u3q.heap.size t) := h444q.out.new (.cells #[.int .i64 0, .int .i64 0, .int .i64 0, .int .i64 0, .int .i64 0, .int .i64 0, .int .i64 0, .int .i64 0, .int .i64 0, .int .i64 0, .int .i64 0, .int .i64 0, .int .i64 0, .int .i64 0, .int .i64 0, .int .i64 0] 27)
            have h451q : Hid (Bo (u442q.alloc (.cells #[.int .i64 0, .int .i64 0, .int .i64 0, .int .i64 0, .int .i64 0, .int .i64 0, .int .i64 0, .int .i64 0, .int .i64 0, .int .i64 0, .int .i64 0, .int .i64 0, .int .i64 0, .int .i64 0, .int .i64 0, .int .i64 0] 27)) u332q.heap.size [.int .i64 0, .int .i64 0]) := h445q.out.new (.cells #[.int .i64 0, .int .i64 0, .int .i64 0, .int .i64 0, .int .i64 0, .int .i64 0, .int .i64 0, .int .i64 0, .int .i64 0, .int .i64 0, .int .i64 0, .int .i64 0, .int .i64 0, .int .i64 0, .int .i64 0, .int .i64 0] 27)
            clear h443q h444q h445q
            have h452q : Hid (TAt (u442q.alloc (.cells #[.int .i64 0, .int .i64 0, .int .i64 0, .int .i64 0, .int .i64 0, .int .i64 0, .int .i64 0, .int .i64 0, .int .i64 0, .int .i64 0, .int .i64 0, .int .i64 0, .int .i64 0, .int .i64 0, .int .i64 0, .int .i64 0] 27)) u442q.heap.size Tb.zero) := TAt.bornZero u442q 27 (by simp)
            refine hK.out _ _ h450q.out (fun hH => ?_)
            clear hK K
            generalize (u442q.alloc (.cells #[.int .i64 0, .int .i64 0, .int .i64 0, .int .i64 0, .int .i64 0, .int .i64 0, .int .i64 0, .int .i64 0, .int .i64 0, .int .i64 0, .int .i64 0, .int .i64 0, .int .i64 0, .int .i64 0, .int .i64 0, .int .i64 0] 27)) = u453q at h449q h450q h451q h452q hH ⊢
            try simp only [Act.put, List.setIfInBounds_toArray, List.set_cons_zero, List.set_cons_succ]
            refine wpAnyH_ready (rs := [11]) (by kernel_rfl) (by simp) ?_
            refine AllReadyH.cons (o := { dst := none, op := .store _ (.tmp 10) (.tmp 34), type := _, pos := _, after := _, guard := _ }) rfl (fun K hK => ?_) AllReadyH.nil
            rw [if_pos (by rfl)]
            refine wp_store_mid _ _ _ rfl u442q.heap.size _ u.all.toArray rfl rfl (h452q.out.thereOf u) (HZ.out u) (u.all_all) ?_
            simp only [Act.put]
            have h454q : Hid (Gd n w (u453q.setCells u442q.heap.size 0 u.all)) := h449q.out.asideAll (by omega) u
            have h455q : Hid (TAt (u453q.setCells u442q.heap.size 0 u.all) u3q.heap.size t) := h450q.out.asideAll (by omega) u
            have h456q : Hid (Bo (u453q.setCells u442q.heap.size 0 u.all) u332q.heap.size [.int .i64 0, .int .i64 0]) := h451q.out.asideAll (by omega) u
            have h457q : Hid (TAt (u453q.setCells u442q.heap.size 0 u.all) u442q.heap.size u) := h452q.out.setAll u
            clear h449q h450q h451q h452q
            refine hK.out _ _ h455q.out (fun hH => ?_)
            clear hK K
            generalize (u453q.setCells u442q.heap.size 0 u.all) = u458q at h454q h455q h456q h457q hH ⊢
            try simp only [Act.put, List.setIfInBounds_toArray, List.set_cons_zero, List.set_cons_succ]
            refine wpAnyH_ready (rs := [12]) (by kernel_rfl) (by simp) ?_
            refine AllReadyH.cons (o := { dst := none, op := .store _ (.tmp 11) (.tmp 35), type := _, pos := _, after := _, guard := _ }) rfl (fun K hK => ?_) AllReadyH.nil
            rw [if_pos (by rfl)]
            refine wp_store_mid _ _ _ rfl u332q.heap.size _ #[.int .i64 (1), .int .i64 (0)] rfl rfl h456q.out.there2 HA.out (two_one _ _) ?_
            simp only [Act.put]
            have h459q : Hid (Gd n w (u458q.setCells u332q.heap.size 0 [.int .i64 (1), .int .i64 (0)])) := h454q.out.asideL (by omega) 0 [.int .i64 (1), .int .i64 (0)]
            have h460q : Hid (TAt (u458q.setCells u332q.heap.size 0 [.int .i64 (1), .int .i64 (0)]) u3q.heap.size t) := h455q.out.asideL (by omega) 0 [.int .i64 (1), .int .i64 (0)]
            have h461q : Hid (Bo (u458q.setCells u332q.heap.size 0 [.int .i64 (1), .int .i64 (0)]) u332q.heap.size [.int .i64 (1), .int .i64 (0)]) := h456q.out.set2 (.int .i64 (1)) (.int .i64 (0))
            have h462q : Hid (TAt (u458q.setCells u332q.heap.size 0 [.int .i64 (1), .int .i64 (0)]) u442q.heap.size u) := h457q.out.asideL (by omega) 0 [.int .i64 (1), .int .i64 (0)]
            clear h454q h455q h456q h457q
            refine hK.out _ _ h460q.out (fun hH => ?_)
            clear hK K
            generalize (u458q.setCells u332q.heap.size 0 [.int .i64 (1), .int .i64 (0)]) = u463q at h459q h460q h461q h462q hH ⊢
            try simp only [Act.put, List.setIfInBounds_toArray, List.set_cons_zero, List.set_cons_succ]
            refine wpAnyH_done (by kernel_rfl) ?_ _
            go_wp2_with fail
            go_meet
            case rel => exact ⟨u442q.heap.size, u332q.heap.size, rfl, rfl, h459q, h460q, h462q, h461q, (by omega)⟩
          refine AllReadyH.cons (o := { dst := some 10, op := .alloc _, type := _, pos := _, after := _, guard := _ }) rfl (fun K hK => ?_) AllReadyH.nil
          have l464q : n ≤ u441q.heap.size := h438q.out.le
          have l465q : u3q.heap.size < u441q.heap.size := h439q.out.lt
          have l466q : u332q.heap.size < u441q.heap.size := h440q.out.lt
          go_simp
          have h467q : Hid (Gd n w (u441q.alloc (.cells #[.int .i64 0, .int .i64 0, .int .i64 0, .int .i64 0, .int .i64 0, .int .i64 0, .int .i64 0, .int .i64 0, .int .i64 0, .int .i64 0, .int .i64 0, .int .i64 0, .int .i64 0, .int .i64 0, .int .i64 0, .int .i64 0] 27))) := h438q.out.new (.cells #[.int .i64 0, .int .i64 0, .int .i64 0, .int .i64 0, .int .i64 0, .int .i64 0, .int .i64 0, .int .i64 0, .int .i64 0, .int .i64 0, .int .i64 0, .int .i64 0, .int .i64 0, .int .i64 0, .int .i64 0, .int .i64 0] 27)
          have h468q : Hid (TAt (u441q.alloc (.cells #[.int .i64 0, .int .i64 0, .int .i64 0, .int .i64 0, .int .i64 0, .int .i64 0, .int .i64 0, .int .i64 0, .int .i64 0, .int .i64 0, .int .i64 0, .int .i64 0, .int .i64 0, .int .i64 0, .int .i64 0, .int .i64 0] 27)) u3q.heap.size t) := h439q.out.new (.cells #[.int .i64 0, .int .i64 0, .int .i64 0, .int .i64 0, .int .i64 0, .int .i64 0, .int .i64 0, .int .i64 0, .int .i64 0, .int .i64 0, .int .i64 0, .int .i64 0, .int .i64 0, .int .i64 0, .int .i64 0, .int .i64 0] 27)
          have h469q : Hid (Bo (u441q.alloc (.cells #[.int .i64 0, .int .i64 0, .int .i64 0, .int .i64 0, .int .i64 0, .int .i64 0, .int .i64 0, .int .i64 0, .int .i64 0, .int .i64 0, .int .i64 0, .int .i64 0, .int .i64 0, .int .i64 0, .int .i64 0, .int .i64 0] 27)) u332q.heap.size [.int .i64 0, .int .i64 0]) := h440q.out.new (.cells #[.int .i64 0, .int .i64 0, .int .i64 0, .int .i64 0, .int .i64 0, .int .i64 0, .int .i64 0, .int .i64 0, .int .i64 0, .int .i64 0, .int .i64 0, .int .i64 0, .int .i64 0, .int .i64 0, .int .i64 0, .int .i64 0] 27)
          clear h438q h439q h440q
          have h470q : Hid (TAt (u441q.alloc (.cells #[.int .i64 0, .int .i64 0, .int .i64 0, .int .i64 0, .int .i64 0, .int .i64 0, .int .i64 0, .int .i64 0, .int .i64 0, .int .i64 0, .int .i64 0, .int .i64 0, .int .i64 0, .int .i64 0, .int .i64 0, .int .i64 0] 27)) u441q.heap.size Tb.zero) := TAt.bornZero u441q 27 (by simp)
          refine hK.out _ _ h468q.out (fun hH => ?_)
          clear hK K
          generalize (u441q.alloc (.cells #[.int .i64 0, .int .i64 0, .int .i64 0, .int .i64 0, .int .i64 0, .int .i64 0, .int .i64 0, .int .i64 0, .int .i64 0, .int .i64 0, .int .i64 0, .int .i64 0, .int .i64 0, .int .i64 0, .int .i64 0, .int .i64 0] 27)) = u471q at h467q h468q h469q h470q hH ⊢
          try simp only [Act.put, List.setIfInBounds_toArray, List.set_cons_zero, List.set_cons_succ]
          refine wpAnyH_ready (rs := [5]) (by kernel_rfl) (by simp) ?_
          refine AllReadyH.cons (o := { dst := some 33, op := _, type := _, pos := _, after := _, guard := _ }) rfl (fun K hK => ?_) AllReadyH.nil
          go_simp
          refine (DO _).mono ?_
          rintro e u472q ⟨rfl, hb⟩
          have h473q : Hid (Gd n w u472q) := h467q.out.later hb
          have h474q : Hid (TAt u472q u3q.heap.size t) := h468q.out.later hb
          have h475q : Hid (Bo u472q u332q.heap.size [.int .i64 0, .int .i64 0]) := h469q.out.later hb
          have h476q : Hid (TAt u472q u441q.heap.size Tb.zero) := h470q.out.later hb
          clear h467q h468q h469q h470q
          clear hb
          go_wp2_with fail
          refine hK.out _ _ h474q.out (fun hH => ?_)
          clear hK K
          try simp only [Act.put, List.setIfInBounds_toArray, List.set_cons_zero, List.set_cons_succ]
          refine wpAnyH_take (i := 6) (oi := { dst := some 27, op := .move (.tmp 33), type := _, pos := _, after := _, guard := _ }) (v := ?_) rfl (by kernel_rfl) (by kernel_rfl) (by kernel_rfl) (fun _ _ _ h => h) (Or.inl ⟨by rfl, ?_⟩) hH ?_
          rotate_left
          · intro w hSw
            clear hSw
            go_simp
            try with_reducible rfl
          simp only [Act.put, List.setIfInBounds_toArray, List.set_cons_zero, List.set_cons_succ]
          refine wpAnyH_take (i := 7) (oi := { dst := some 34, op := .extract (.tmp 27) 0, type := _, pos := _, after := _, guard := _ }) (v := ?_) rfl (by kernel_rfl) (by kernel_rfl) (by kernel_rfl) (fun _ _ _ h => h) (Or.inl ⟨by rfl, ?_⟩) hH ?_
          rotate_left
          · intro w hSw
            clear hSw
            go_simp
            try with_reducible rfl
          simp only [Act.put, List.setIfInBounds_toArray, List.set_cons_zero, List.set_cons_succ]
          refine wpAnyH_take (i := 8) (oi := { dst := some 35, op := .extract (.tmp 27) 1, type := _, pos := _, after := _, guard := _ }) (v := ?_) rfl (by kernel_rfl) (by kernel_rfl) (by kernel_rfl) (fun _ _ _ h => h) (Or.inl ⟨by rfl, ?_⟩) hH ?_
          rotate_left
          · intro w hSw
            clear hSw
            go_simp
            try with_reducible rfl
          simp only [Act.put, List.setIfInBounds_toArray, List.set_cons_zero, List.set_cons_succ]
          refine wpAnyH_ready (rs := [11]) (by kernel_rfl) (by simp) ?_
          refine AllReadyH.cons (o := { dst := none, op := .store _ (.tmp 10) (.tmp 34), type := _, pos := _, after := _, guard := _ }) rfl (fun K hK => ?_) AllReadyH.nil
          rw [if_pos (by rfl)]
          refine wp_store_mid _ _ _ rfl u441q.heap.size _ u.all.toArray rfl rfl (h476q.out.thereOf u) (HZ.out u) (u.all_all) ?_
          simp only [Act.put]
          have h477q : Hid (Gd n w (u472q.setCells u441q.heap.size 0 u.all)) := h473q.out.asideAll (by omega) u
          have h478q : Hid (TAt (u472q.setCells u441q.heap.size 0 u.all) u3q.heap.size t) := h474q.out.asideAll (by omega) u
          have h479q : Hid (Bo (u472q.setCells u441q.heap.size 0 u.all) u332q.heap.size [.int .i64 0, .int .i64 0]) := h475q.out.asideAll (by omega) u
          have h480q : Hid (TAt (u472q.setCells u441q.heap.size 0 u.all) u441q.heap.size u) := h476q.out.setAll u
          clear h473q h474q h475q h476q
          refine hK.out _ _ h478q.out (fun hH => ?_)
          clear hK K
          generalize (u472q.setCells u441q.heap.size 0 u.all) = u481q at h477q h478q h479q h480q hH ⊢
          try simp only [Act.put, List.setIfInBounds_toArray, List.set_cons_zero, List.set_cons_succ]
          refine wpAnyH_ready (rs := [12]) (by kernel_rfl) (by simp) ?_
          refine AllReadyH.cons (o := { dst := none, op := .store _ (.tmp 11) (.tmp 35), type := _, pos := _, after := _, guard := _ }) rfl (fun K hK => ?_) AllReadyH.nil
          rw [if_pos (by rfl)]
          refine wp_store_mid _ _ _ rfl u332q.heap.size _ #[.int .i64 (1), .int .i64 (0)] rfl rfl h479q.out.there2 HA.out (two_one _ _) ?_
          simp only [Act.put]
          have h482q : Hid (Gd n w (u481q.setCells u332q.heap.size 0 [.int .i64 (1), .int .i64 (0)])) := h477q.out.asideL (by omega) 0 [.int .i64 (1), .int .i64 (0)]
          have h483q : Hid (TAt (u481q.setCells u332q.heap.size 0 [.int .i64 (1), .int .i64 (0)]) u3q.heap.size t) := h478q.out.asideL (by omega) 0 [.int .i64 (1), .int .i64 (0)]
          have h484q : Hid (Bo (u481q.setCells u332q.heap.size 0 [.int .i64 (1), .int .i64 (0)]) u332q.heap.size [.int .i64 (1), .int .i64 (0)]) := h479q.out.set2 (.int .i64 (1)) (.int .i64 (0))
          have h485q : Hid (TAt (u481q.setCells u332q.heap.size 0 [.int .i64 (1), .int .i64 (0)]) u441q.heap.size u) := h480q.out.asideL (by omega) 0 [.int .i64 (1), .int .i64 (0)]
          clear h477q h478q h479q h480q
          refine hK.out _ _ h483q.out (fun hH => ?_)
          clear hK K
          generalize (u481q.setCells u332q.heap.size 0 [.int .i64 (1), .int .i64 (0)]) = u486q at h482q h483q h484q h485q hH ⊢
          try simp only [Act.put, List.setIfInBounds_toArray, List.set_cons_zero, List.set_cons_succ]
          refine wpAnyH_done (by kernel_rfl) ?_ _
          go_wp2_with fail
          go_meet
          case rel => exact ⟨u441q.heap.size, u332q.heap.size, rfl, rfl, h482q, h483q, h485q, h484q, (by omega)⟩
        refine AllReadyH.cons (o := { dst := some 10, op := .alloc _, type := _, pos := _, after := _, guard := _ }) rfl (fun K hK => ?_) ?_
        · have l487q : n ≤ u332q.heap.size := h330q.out.le
          have l488q : u3q.heap.size < u332q.heap.size := h331q.out.lt
          go_simp
          have h489q : Hid (Gd n w (u332q.alloc (.cells #[.int .i64 0, .int .i64 0, .int .i64 0, .int .i64 0, .int .i64 0, .int .i64 0, .int .i64 0, .int .i64 0, .int .i64 0, .int .i64 0, .int .i64 0, .int .i64 0, .int .i64 0, .int .i64 0, .int .i64 0, .int .i64 0] 27))) := h330q.out.new (.cells #[.int .i64 0, .int .i64 0, .int .i64 0, .int .i64 0, .int .i64 0, .int .i64 0, .int .i64 0, .int .i64 0, .int .i64 0, .int .i64 0, .int .i64 0, .int .i64 0, .int .i64 0, .int .i64 0, .int .i64 0, .int .i64 0] 27)
          have h490q : Hid (TAt (u332q.alloc (.cells #[.int .i64 0, .int .i64 0, .int .i64 0, .int .i64 0, .int .i64 0, .int .i64 0, .int .i64 0, .int .i64 0, .int .i64 0, .int .i64 0, .int .i64 0, .int .i64 0, .int .i64 0, .int .i64 0, .int .i64 0, .int .i64 0] 27)) u3q.heap.size t) := h331q.out.new (.cells #[.int .i64 0, .int .i64 0, .int .i64 0, .int .i64 0, .int .i64 0, .int .i64 0, .int .i64 0, .int .i64 0, .int .i64 0, .int .i64 0, .int .i64 0, .int .i64 0, .int .i64 0, .int .i64 0, .int .i64 0, .int .i64 0] 27)
          clear h330q h331q
          have h491q : Hid (TAt (u332q.alloc (.cells #[.int .i64 0, .int .i64 0, .int .i64 0, .int .i64 0, .int .i64 0, .int .i64 0, .int .i64 0, .int .i64 0, .int .i64 0, .int .i64 0, .int .i64 0, .int .i64 0, .int .i64 0, .int .i64 0, .int .i64 0, .int .i64 0] 27)) u332q.heap.size Tb.zero) := TAt.bornZero u332q 27 (by simp)
          refine hK.out _ _ h490q.out (fun hH => ?_)
          clear hK K
          generalize (u332q.alloc (.cells #[.int .i64 0, .int .i64 0, .int .i64 0, .int .i64 0, .int .i64 0, .int .i64 0, .int .i64 0, .int .i64 0, .int .i64 0, .int .i64 0, .int .i64 0, .int .i64 0, .int .i64 0, .int .i64 0, .int .i64 0, .int .i64 0] 27)) = u492q at h489q h490q h491q hH ⊢
          try simp only [Act.put, List.setIfInBounds_toArray, List.set_cons_zero, List.set_cons_succ]
          refine wpAnyH_ready (rs := [3, 10]) (by kernel_rfl) (by simp) ?_
          refine AllReadyH.cons (o := { dst := some 31, op := _, type := _, pos := _, after := _, guard := _ }) rfl (fun K hK => ?_) ?_
          · go_simp
            refine (Pr2.out _).mono ?_
            rintro e u493q ⟨rfl, hw⟩
            rw [hw]; clear hw u493q
            go_wp2_with fail
            refine hK.out _ _ h490q.out (fun hH => ?_)
            clear hK K
            try simp only [Act.put, List.setIfInBounds_toArray, List.set_cons_zero, List.set_cons_succ]
            refine wpAnyH_take (i := 4) (oi := { dst := some 32, op := .build _ #[(0, .const (.int .i64 1)), (1, .tmp 29), (2, .tmp 31)], type := _, pos := _, after := _, guard := _ }) (v := ?_) rfl (by kernel_rfl) (by kernel_rfl) (by kernel_rfl) (fun _ _ _ h => h) (Or.inl ⟨by rfl, ?_⟩) hH ?_
            rotate_left
            · intro w hSw
              clear hSw
              go_simp
              try with_reducible rfl
            simp only [Act.put, List.setIfInBounds_toArray, List.set_cons_zero, List.set_cons_succ]
            refine wpAnyH_ready (rs := [5, 10]) (by kernel_rfl) (by simp) ?_
            refine AllReadyH.cons (o := { dst := some 33, op := _, type := _, pos := _, after := _, guard := _ }) rfl (fun K hK => ?_) ?_
            · go_simp
              refine (DO _).mono ?_
              rintro e u494q ⟨rfl, hb⟩
              have h495q : Hid (Gd n w u494q) := h489q.out.later hb
              have h496q : Hid (TAt u494q u3q.heap.size t) := h490q.out.later hb
              have h497q : Hid (TAt u494q u332q.heap.size Tb.zero) := h491q.out.later hb
              clear h489q h490q h491q
              clear hb
              go_wp2_with fail
              refine hK.out _ _ h496q.out (fun hH => ?_)
              clear hK K
              try simp only [Act.put, List.setIfInBounds_toArray, List.set_cons_zero, List.set_cons_succ]
              refine wpAnyH_take (i := 6) (oi := { dst := some 27, op := .move (.tmp 33), type := _, pos := _, after := _, guard := _ }) (v := ?_) rfl (by kernel_rfl) (by kernel_rfl) (by kernel_rfl) (fun _ _ _ h => h) (Or.inl ⟨by rfl, ?_⟩) hH ?_
              rotate_left
              · intro w hSw
                clear hSw
                go_simp
                try with_reducible rfl
              simp only [Act.put, List.setIfInBounds_toArray, List.set_cons_zero, List.set_cons_succ]
              refine wpAnyH_take (i := 7) (oi := { dst := some 34, op := .extract (.tmp 27) 0, type := _, pos := _, after := _, guard := _ }) (v := ?_) rfl (by kernel_rfl) (by kernel_rfl) (by kernel_rfl) (fun _ _ _ h => h) (Or.inl ⟨by rfl, ?_⟩) hH ?_
              rotate_left
              · intro w hSw
                clear hSw
                go_simp
                try with_reducible rfl
              simp only [Act.put, List.setIfInBounds_toArray, List.set_cons_zero, List.set_cons_succ]
              refine wpAnyH_take (i := 8) (oi := { dst := some 35, op := .extract (.tmp 27) 1, type := _, pos := _, after := _, guard := _ }) (v := ?_) rfl (by kernel_rfl) (by kernel_rfl) (by kernel_rfl) (fun _ _ _ h => h) (Or.inl ⟨by rfl, ?_⟩) hH ?_
              rotate_left
              · intro w hSw
                clear hSw
                go_simp
                try with_reducible rfl
              simp only [Act.put, List.setIfInBounds_toArray, List.set_cons_zero, List.set_cons_succ]
              refine wpAnyH_ready (rs := [10]) (by kernel_rfl) (by simp) ?_
              refine AllReadyH.cons (o := { dst := some 11, op := .alloc _, type := _, pos := _, after := _, guard := _ }) rfl (fun K hK => ?_) AllReadyH.nil
              have l498q : n ≤ u494q.heap.size := h495q.out.le
              have l499q : u3q.heap.size < u494q.heap.size := h496q.out.lt
              have l500q : u332q.heap.size < u494q.heap.size := h497q.out.lt
              go_simp
              have h501q : Hid (Gd n w (u494q.alloc (.cells #[.int .i64 0, .int .i64 0] 31))) := h495q.out.new (.cells #[.int .i64 0, .int .i64 0] 31)
              have h502q : Hid (TAt (u494q.alloc (.cells #[.int .i64 0, .int .i64 0] 31)) u3q.heap.size t) := h496q.out.new (.cells #[.int .i64 0, .int .i64 0] 31)
              have h503q : Hid (TAt (u494q.alloc (.cells #[.int .i64 0, .int .i64 0] 31)) u332q.heap.size Tb.zero) := h497q.out.new (.cells #[.int .i64 0, .int .i64 0] 31)
              clear h495q h496q h497q
              have h504q : Hid (Bo (u494q.alloc (.cells #[.int .i64 0, .int .i64 0] 31)) u494q.heap.size [.int .i64 0, .int .i64 0]) := Bo.born u494q [.int .i64 0, .int .i64 0] 31 (by simp)
              refine hK.out _ _ h502q.out (fun hH => ?_)
              clear hK K
              generalize (u494q.alloc (.cells #[.int .i64 0, .int .i64 0] 31)) = u505q at h501q h502q h503q h504q hH ⊢
              try simp only [Act.put, List.setIfInBounds_toArray, List.set_cons_zero, List.set_cons_succ]
              refine wpAnyH_ready (rs := [11]) (by kernel_rfl) (by simp) ?_
              refine AllReadyH.cons (o := { dst := none, op := .store _ (.tmp 10) (.tmp 34), type := _, pos := _, after := _, guard := _ }) rfl (fun K hK => ?_) AllReadyH.nil
              rw [if_pos (by rfl)]
              refine wp_store_mid _ _ _ rfl u332q.heap.size _ u.all.toArray rfl rfl (h503q.out.thereOf u) (HZ.out u) (u.all_all) ?_
              simp only [Act.put]
              have h506q : Hid (Gd n w (u505q.setCells u332q.heap.size 0 u.all)) := h501q.out.asideAll (by omega) u
              have h507q : Hid (TAt (u505q.setCells u332q.heap.size 0 u.all) u3q.heap.size t) := h502q.out.asideAll (by omega) u
              have h508q : Hid (TAt (u505q.setCells u332q.heap.size 0 u.all) u332q.heap.size u) := h503q.out.setAll u
              have h509q : Hid (Bo (u505q.setCells u332q.heap.size 0 u.all) u494q.heap.size [.int .i64 0, .int .i64 0]) := h504q.out.asideAll (by omega) u
              clear h501q h502q h503q h504q
              refine hK.out _ _ h507q.out (fun hH => ?_)
              clear hK K
              generalize (u505q.setCells u332q.heap.size 0 u.all) = u510q at h506q h507q h508q h509q hH ⊢
              try simp only [Act.put, List.setIfInBounds_toArray, List.set_cons_zero, List.set_cons_succ]
              refine wpAnyH_ready (rs := [12]) (by kernel_rfl) (by simp) ?_
              refine AllReadyH.cons (o := { dst := none, op := .store _ (.tmp 11) (.tmp 35), type := _, pos := _, after := _, guard := _ }) rfl (fun K hK => ?_) AllReadyH.nil
              rw [if_pos (by rfl)]
              refine wp_store_mid _ _ _ rfl u494q.heap.size _ #[.int .i64 (1), .int .i64 (0)] rfl rfl h509q.out.there2 HA.out (two_one _ _) ?_
              simp only [Act.put]
              have h511q : Hid (Gd n w (u510q.setCells u494q.heap.size 0 [.int .i64 (1), .int .i64 (0)])) := h506q.out.asideL (by omega) 0 [.int .i64 (1), .int .i64 (0)]
              have h512q : Hid (TAt (u510q.setCells u494q.heap.size 0 [.int .i64 (1), .int .i64 (0)]) u3q.heap.size t) := h507q.out.asideL (by omega) 0 [.int .i64 (1), .int .i64 (0)]
              have h513q : Hid (TAt (u510q.setCells u494q.heap.size 0 [.int .i64 (1), .int .i64 (0)]) u332q.heap.size u) := h508q.out.asideL (by omega) 0 [.int .i64 (1), .int .i64 (0)]
              have h514q : Hid (Bo (u510q.setCells u494q.heap.size 0 [.int .i64 (1), .int .i64 (0)]) u494q.heap.size [.int .i64 (1), .int .i64 (0)]) := h509q.out.set2 (.int .i64 (1)) (.int .i64 (0))
              clear h506q h507q h508q h509q
              refine hK.out _ _ h512q.out (fun hH => ?_)
              clear hK K
              generalize (u510q.setCells u494q.heap.size 0 [.int .i64 (1), .int .i64 (0)]) = u515q at h511q h512q h513q h514q hH ⊢
              try simp only [Act.put, List.setIfInBounds_toArray, List.set_cons_zero, List.set_cons_succ]
              refine wpAnyH_done (by kernel_rfl) ?_ _
              go_wp2_with fail
              go_meet
              case rel => exact ⟨u332q.heap.size, u494q.heap.size, rfl, rfl, h511q, h512q, h513q, h514q, (by omega)⟩
            refine AllReadyH.cons (o := { dst := some 11, op := .alloc _, type := _, pos := _, after := _, guard := _ }) rfl (fun K hK => ?_) AllReadyH.nil
            have l516q : n ≤ u492q.heap.size := h489q.out.le
            have l517q : u3q.heap.size < u492q.heap.size := h490q.out.lt
            have l518q : u332q.heap.size < u492q.heap.size := h491q.out.lt
            go_simp
            have h519q : Hid (Gd n w (u492q.alloc (.cells #[.int .i64 0, .int .i64 0] 31))) := h489q.out.new (.cells #[.int .i64 0, .int .i64 0] 31)
            have h520q : Hid (TAt (u492q.alloc (.cells #[.int .i64 0, .int .i64 0] 31)) u3q.heap.size t) := h490q.out.new (.cells #[.int .i64 0, .int .i64 0] 31)
            have h521q : Hid (TAt (u492q.alloc (.cells #[.int .i64 0, .int .i64 0] 31)) u332q.heap.size Tb.zero) := h491q.out.new (.cells #[.int .i64 0, .int .i64 0] 31)
            clear h489q h490q h491q
            have h522q : Hid (Bo (u492q.alloc (.cells #[.int .i64 0, .int .i64 0] 31)) u492q.heap.size [.int .i64 0, .int .i64 0]) := Bo.born u492q [.int .i64 0, .int .i64 0] 31 (by simp)
            refine hK.out _ _ h520q.out (fun hH => ?_)
            clear hK K
            generalize (u492q.alloc (.cells #[.int .i64 0, .int .i64 0] 31)) = u523q at h519q h520q h521q h522q hH ⊢
            try simp only [Act.put, List.setIfInBounds_toArray, List.set_cons_zero, List.set_cons_succ]
            refine wpAnyH_ready (rs := [5]) (by kernel_rfl) (by simp) ?_
            refine AllReadyH.cons (o := { dst := some 33, op := _, type := _, pos := _, after := _, guard := _ }) rfl (fun K hK => ?_) AllReadyH.nil
            go_simp
            refine (DO _).mono ?_
            rintro e u524q ⟨rfl, hb⟩
            have h525q : Hid (Gd n w u524q) := h519q.out.later hb
            have h526q : Hid (TAt u524q u3q.heap.size t) := h520q.out.later hb
            have h527q : Hid (TAt u524q u332q.heap.size Tb.zero) := h521q.out.later hb
            have h528q : Hid (Bo u524q u492q.heap.size [.int .i64 0, .int .i64 0]) := h522q.out.later hb
            clear h519q h520q h521q h522q
            clear hb
            go_wp2_with fail
            refine hK.out _ _ h526q.out (fun hH => ?_)
            clear hK K
            try simp only [Act.put, List.setIfInBounds_toArray, List.set_cons_zero, List.set_cons_succ]
            refine wpAnyH_take (i := 6) (oi := { dst := some 27, op := .move (.tmp 33), type := _, pos := _, after := _, guard := _ }) (v := ?_) rfl (by kernel_rfl) (by kernel_rfl) (by kernel_rfl) (fun _ _ _ h => h) (Or.inl ⟨by rfl, ?_⟩) hH ?_
            rotate_left
            · intro w hSw
              clear hSw
              go_simp
              try with_reducible rfl
            simp only [Act.put, List.setIfInBounds_toArray, List.set_cons_zero, List.set_cons_succ]
            refine wpAnyH_take (i := 7) (oi := { dst := some 34, op := .extract (.tmp 27) 0, type := _, pos := _, after := _, guard := _ }) (v := ?_) rfl (by kernel_rfl) (by kernel_rfl) (by kernel_rfl) (fun _ _ _ h => h) (Or.inl ⟨by rfl, ?_⟩) hH ?_
            rotate_left
            · intro w hSw
              clear hSw
              go_simp
              try with_reducible rfl
            simp only [Act.put, List.setIfInBounds_toArray, List.set_cons_zero, List.set_cons_succ]
            refine wpAnyH_take (i := 8) (oi := { dst := some 35, op := .extract (.tmp 27) 1, type := _, pos := _, after := _, guard := _ }) (v := ?_) rfl (by kernel_rfl) (by kernel_rfl) (by kernel_rfl) (fun _ _ _ h => h) (Or.inl ⟨by rfl, ?_⟩) hH ?_
            rotate_left
            · intro w hSw
              clear hSw
              go_simp
              try with_reducible rfl
            simp only [Act.put, List.setIfInBounds_toArray, List.set_cons_zero, List.set_cons_succ]
            refine wpAnyH_ready (rs := [11]) (by kernel_rfl) (by simp) ?_
            refine AllReadyH.cons (o := { dst := none, op := .store _ (.tmp 10) (.tmp 34), type := _, pos := _, after := _, guard := _ }) rfl (fun K hK => ?_) AllReadyH.nil
            rw [if_pos (by rfl)]
            refine wp_store_mid _ _ _ rfl u332q.heap.size _ u.all.toArray rfl rfl (h527q.out.thereOf u) (HZ.out u) (u.all_all) ?_
            simp only [Act.put]
            have h529q : Hid (Gd n w (u524q.setCells u332q.heap.size 0 u.all)) := h525q.out.asideAll (by omega) u
            have h530q : Hid (TAt (u524q.setCells u332q.heap.size 0 u.all) u3q.heap.size t) := h526q.out.asideAll (by omega) u
            have h531q : Hid (TAt (u524q.setCells u332q.heap.size 0 u.all) u332q.heap.size u) := h527q.out.setAll u
            have h532q : Hid (Bo (u524q.setCells u332q.heap.size 0 u.all) u492q.heap.size [.int .i64 0, .int .i64 0]) := h528q.out.asideAll (by omega) u
            clear h525q h526q h527q h528q
            refine hK.out _ _ h530q.out (fun hH => ?_)
            clear hK K
            generalize (u524q.setCells u332q.heap.size 0 u.all) = u533q at h529q h530q h531q h532q hH ⊢
            try simp only [Act.put, List.setIfInBounds_toArray, List.set_cons_zero, List.set_cons_succ]
            refine wpAnyH_ready (rs := [12]) (by kernel_rfl) (by simp) ?_
            refine AllReadyH.cons (o := { dst := none, op := .store _ (.tmp 11) (.tmp 35), type := _, pos := _, after := _, guard := _ }) rfl (fun K hK => ?_) AllReadyH.nil
            rw [if_pos (by rfl)]
            refine wp_store_mid _ _ _ rfl u492q.heap.size _ #[.int .i64 (1), .int .i64 (0)] rfl rfl h532q.out.there2 HA.out (two_one _ _) ?_
            simp only [Act.put]
            have h534q : Hid (Gd n w (u533q.setCells u492q.heap.size 0 [.int .i64 (1), .int .i64 (0)])) := h529q.out.asideL (by omega) 0 [.int .i64 (1), .int .i64 (0)]
            have h535q : Hid (TAt (u533q.setCells u492q.heap.size 0 [.int .i64 (1), .int .i64 (0)]) u3q.heap.size t) := h530q.out.asideL (by omega) 0 [.int .i64 (1), .int .i64 (0)]
            have h536q : Hid (TAt (u533q.setCells u492q.heap.size 0 [.int .i64 (1), .int .i64 (0)]) u332q.heap.size u) := h531q.out.asideL (by omega) 0 [.int .i64 (1), .int .i64 (0)]
            have h537q : Hid (Bo (u533q.setCells u492q.heap.size 0 [.int .i64 (1), .int .i64 (0)]) u492q.heap.size [.int .i64 (1), .int .i64 (0)]) := h532q.out.set2 (.int .i64 (1)) (.int .i64 (0))
            clear h529q h530q h531q h532q
            refine hK.out _ _ h535q.out (fun hH => ?_)
            clear hK K
            generalize (u533q.setCells u492q.heap.size 0 [.int .i64 (1), .int .i64 (0)]) = u538q at h534q h535q h536q h537q hH ⊢
            try simp only [Act.put, List.setIfInBounds_toArray, List.set_cons_zero, List.set_cons_succ]
            refine wpAnyH_done (by kernel_rfl) ?_ _
            go_wp2_with fail
            go_meet
            case rel => exact ⟨u332q.heap.size, u492q.heap.size, rfl, rfl, h534q, h535q, h536q, h537q, (by omega)⟩
          refine AllReadyH.cons (o := { dst := some 11, op := .alloc _, type := _, pos := _, after := _, guard := _ }) rfl (fun K hK => ?_) AllReadyH.nil
          have l539q : n ≤ u492q.heap.size := h489q.out.le
          have l540q : u3q.heap.size < u492q.heap.size := h490q.out.lt
          have l541q : u332q.heap.size < u492q.heap.size := h491q.out.lt
          go_simp
          have h542q : Hid (Gd n w (u492q.alloc (.cells #[.int .i64 0, .int .i64 0] 31))) := h489q.out.new (.cells #[.int .i64 0, .int .i64 0] 31)
          have h543q : Hid (TAt (u492q.alloc (.cells #[.int .i64 0, .int .i64 0] 31)) u3q.heap.size t) := h490q.out.new (.cells #[.int .i64 0, .int .i64 0] 31)
          have h544q : Hid (TAt (u492q.alloc (.cells #[.int .i64 0, .int .i64 0] 31)) u332q.heap.size Tb.zero) := h491q.out.new (.cells #[.int .i64 0, .int .i64 0] 31)
          clear h489q h490q h491q
          have h545q : Hid (Bo (u492q.alloc (.cells #[.int .i64 0, .int .i64 0] 31)) u492q.heap.size [.int .i64 0, .int .i64 0]) := Bo.born u492q [.int .i64 0, .int .i64 0] 31 (by simp)
          refine hK.out _ _ h543q.out (fun hH => ?_)
          clear hK K
          generalize (u492q.alloc (.cells #[.int .i64 0, .int .i64 0] 31)) = u546q at h542q h543q h544q h545q hH ⊢
          try simp only [Act.put, List.setIfInBounds_toArray, List.set_cons_zero, List.set_cons_succ]
          refine wpAnyH_ready (rs := [3]) (by kernel_rfl) (by simp) ?_
          refine AllReadyH.cons (o := { dst := some 31, op := _, type := _, pos := _, after := _, guard := _ }) rfl (fun K hK => ?_) AllReadyH.nil
          go_simp
          refine (Pr2.out _).mono ?_
          rintro e u547q ⟨rfl, hw⟩
          rw [hw]; clear hw u547q
          go_wp2_with fail
          refine hK.out _ _ h543q.out (fun hH => ?_)
          clear hK K
          try simp only [Act.put, List.setIfInBounds_toArray, List.set_cons_zero, List.set_cons_succ]
          refine wpAnyH_take (i := 4) (oi := { dst := some 32, op := .build _ #[(0, .const (.int .i64 1)), (1, .tmp 29), (2, .tmp 31)], type := _, pos := _, after := _, guard := _ }) (v := ?_) rfl (by kernel_rfl) (by kernel_rfl) (by kernel_rfl) (fun _ _ _ h => h) (Or.inl ⟨by rfl, ?_⟩) hH ?_
          rotate_left
          · intro w hSw
            clear hSw
            go_simp
            try with_reducible rfl
          simp only [Act.put, List.setIfInBounds_toArray, List.set_cons_zero, List.set_cons_succ]
          refine wpAnyH_ready (rs := [5]) (by kernel_rfl) (by simp) ?_
          refine AllReadyH.cons (o := { dst := some 33, op := _, type := _, pos := _, after := _, guard := _ }) rfl (fun K hK => ?_) AllReadyH.nil
          go_simp
          refine (DO _).mono ?_
          rintro e u548q ⟨rfl, hb⟩
          have h549q : Hid (Gd n w u548q) := h542q.out.later hb
          have h550q : Hid (TAt u548q u3q.heap.size t) := h543q.out.later hb
          have h551q : Hid (TAt u548q u332q.heap.size Tb.zero) := h544q.out.later hb
          have h552q : Hid (Bo u548q u492q.heap.size [.int .i64 0, .int .i64 0]) := h545q.out.later hb
          clear h542q h543q h544q h545q
          clear hb
          go_wp2_with fail
          refine hK.out _ _ h550q.out (fun hH => ?_)
          clear hK K
          try simp only [Act.put, List.setIfInBounds_toArray, List.set_cons_zero, List.set_cons_succ]
          refine wpAnyH_take (i := 6) (oi := { dst := some 27, op := .move (.tmp 33), type := _, pos := _, after := _, guard := _ }) (v := ?_) rfl (by kernel_rfl) (by kernel_rfl) (by kernel_rfl) (fun _ _ _ h => h) (Or.inl ⟨by rfl, ?_⟩) hH ?_
          rotate_left
          · intro w hSw
            clear hSw
            go_simp
            try with_reducible rfl
          simp only [Act.put, List.setIfInBounds_toArray, List.set_cons_zero, List.set_cons_succ]
          refine wpAnyH_take (i := 7) (oi := { dst := some 34, op := .extract (.tmp 27) 0, type := _, pos := _, after := _, guard := _ }) (v := ?_) rfl (by kernel_rfl) (by kernel_rfl) (by kernel_rfl) (fun _ _ _ h => h) (Or.inl ⟨by rfl, ?_⟩) hH ?_
          rotate_left
          · intro w hSw
            clear hSw
            go_simp
            try with_reducible rfl
          simp only [Act.put, List.setIfInBounds_toArray, List.set_cons_zero, List.set_cons_succ]
          refine wpAnyH_take (i := 8) (oi := { dst := some 35, op := .extract (.tmp 27) 1, type := _, pos := _, after := _, guard := _ }) (v := ?_) rfl (by kernel_rfl) (by kernel_rfl) (by kernel_rfl) (fun _ _ _ h => h) (Or.inl ⟨by rfl, ?_⟩) hH ?_
          rotate_left
          · intro w hSw
            clear hSw
            go_simp
            try with_reducible rfl
          simp only [Act.put, List.setIfInBounds_toArray, List.set_cons_zero, List.set_cons_succ]
          refine wpAnyH_ready (rs := [11]) (by kernel_rfl) (by simp) ?_
          refine AllReadyH.cons (o := { dst := none, op := .store _ (.tmp 10) (.tmp 34), type := _, pos := _, after := _, guard := _ }) rfl (fun K hK => ?_) AllReadyH.nil
          rw [if_pos (by rfl)]
          refine wp_store_mid _ _ _ rfl u332q.heap.size _ u.all.toArray rfl rfl (h551q.out.thereOf u) (HZ.out u) (u.all_all) ?_
          simp only [Act.put]
          have h553q : Hid (Gd n w (u548q.setCells u332q.heap.size 0 u.all)) := h549q.out.asideAll (by omega) u
          have h554q : Hid (TAt (u548q.setCells u332q.heap.size 0 u.all) u3q.heap.size t) := h550q.out.asideAll (by omega) u
          have h555q : Hid (TAt (u548q.setCells u332q.heap.size 0 u.all) u332q.heap.size u) := h551q.out.setAll u
          have h556q : Hid (Bo (u548q.setCells u332q.heap.size 0 u.all) u492q.heap.size [.int .i64 0, .int .i64 0]) := h552q.out.asideAll (by omega) u
          clear h549q h550q h551q h552q
          refine hK.out _ _ h554q.out (fun hH => ?_)
          clear hK K
          generalize (u548q.setCells u332q.heap.size 0 u.all) = u557q at h553q h554q h555q h556q hH ⊢
          try simp only [Act.put, List.setIfInBounds_toArray, List.set_cons_zero, List.set_cons_succ]
          refine wpAnyH_ready (rs := [12]) (by kernel_rfl) (by simp) ?_
          refine AllReadyH.cons (o := { dst := none, op := .store _ (.tmp 11) (.tmp 35), type := _, pos := _, after := _, guard := _ }) rfl (fun K hK => ?_) AllReadyH.nil
          rw [if_pos (by rfl)]
          refine wp_store_mid _ _ _ rfl u492q.heap.size _ #[.int .i64 (1), .int .i64 (0)] rfl rfl h556q.out.there2 HA.out (two_one _ _) ?_
          simp only [Act.put]
          have h558q : Hid (Gd n w (u557q.setCells u492q.heap.size 0 [.int .i64 (1), .int .i64 (0)])) := h553q.out.asideL (by omega) 0 [.int .i64 (1), .int .i64 (0)]
          have h559q : Hid (TAt (u557q.setCells u492q.heap.size 0 [.int .i64 (1), .int .i64 (0)]) u3q.heap.size t) := h554q.out.asideL (by omega) 0 [.int .i64 (1), .int .i64 (0)]
          have h560q : Hid (TAt (u557q.setCells u492q.heap.size 0 [.int .i64 (1), .int .i64 (0)]) u332q.heap.size u) := h555q.out.asideL (by omega) 0 [.int .i64 (1), .int .i64 (0)]
          have h561q : Hid (Bo (u557q.setCells u492q.heap.size 0 [.int .i64 (1), .int .i64 (0)]) u492q.heap.size [.int .i64 (1), .int .i64 (0)]) := h556q.out.set2 (.int .i64 (1)) (.int .i64 (0))
          clear h553q h554q h555q h556q
          refine hK.out _ _ h559q.out (fun hH => ?_)
          clear hK K
          generalize (u557q.setCells u492q.heap.size 0 [.int .i64 (1), .int .i64 (0)]) = u562q at h558q h559q h560q h561q hH ⊢
          try simp only [Act.put, List.setIfInBounds_toArray, List.set_cons_zero, List.set_cons_succ]
          refine wpAnyH_done (by kernel_rfl) ?_ _
          go_wp2_with fail
          go_meet
          case rel => exact ⟨u332q.heap.size, u492q.heap.size, rfl, rfl, h558q, h559q, h560q, h561q, (by omega)⟩
        refine AllReadyH.cons (o := { dst := some 11, op := .alloc _, type := _, pos := _, after := _, guard := _ }) rfl (fun K hK => ?_) AllReadyH.nil
        have l563q : n ≤ u332q.heap.size := h330q.out.le
        have l564q : u3q.heap.size < u332q.heap.size := h331q.out.lt
        go_simp
        have h565q : Hid (Gd n w (u332q.alloc (.cells #[.int .i64 0, .int .i64 0] 31))) := h330q.out.new (.cells #[.int .i64 0, .int .i64 0] 31)
        have h566q : Hid (TAt (u332q.alloc (.cells #[.int .i64 0, .int .i64 0] 31)) u3q.heap.size t) := h331q.out.new (.cells #[.int .i64 0, .int .i64 0] 31)
        clear h330q h331q
        have h567q : Hid (Bo (u332q.alloc (.cells #[.int .i64 0, .int .i64 0] 31)) u332q.heap.size [.int .i64 0, .int .i64 0]) := Bo.born u332q [.int .i64 0, .int .i64 0] 31 (by simp)
        refine hK.out _ _ h566q.out (fun hH => ?_)
        clear hK K
        generalize (u332q.alloc (.cells #[.int .i64 0, .int .i64 0] 31)) = u568q at h565q h566q h567q hH ⊢
        try simp only [Act.put, List.setIfInBounds_toArray, List.set_cons_zero, List.set_cons_succ]
        refine wpAnyH_ready (rs := [3, 9]) (by kernel_rfl) (by simp) ?_
        refine AllReadyH.cons (o := { dst := some 31, op := _, type := _, pos := _, after := _, guard := _ }) rfl (fun K hK => ?_) ?_
        · go_simp
          refine (Pr2.out _).mono ?_
          rintro e u569q ⟨rfl, hw⟩
          rw [hw]; clear hw u569q
          go_wp2_with fail
          refine hK.out _ _ h566q.out (fun hH => ?_)
          clear hK K
          try simp only [Act.put, List.setIfInBounds_toArray, List.set_cons_zero, List.set_cons_succ]
          refine wpAnyH_take (i := 4) (oi := { dst := some 32, op := .build _ #[(0, .const (.int .i64 1)), (1, .tmp 29), (2, .tmp 31)], type := _, pos := _, after := _, guard := _ }) (v := ?_) rfl (by kernel_rfl) (by kernel_rfl) (by kernel_rfl) (fun _ _ _ h => h) (Or.inl ⟨by rfl, ?_⟩) hH ?_
          rotate_left
          · intro w hSw
            clear hSw
            go_simp
            try with_reducible rfl
          simp only [Act.put, List.setIfInBounds_toArray, List.set_cons_zero, List.set_cons_succ]
          refine wpAnyH_ready (rs := [5, 9]) (by kernel_rfl) (by simp) ?_
          refine AllReadyH.cons (o := { dst := some 33, op := _, type := _, pos := _, after := _, guard := _ }) rfl (fun K hK => ?_) ?_
          · go_simp
            refine (DO _).mono ?_
            rintro e u570q ⟨rfl, hb⟩
            have h571q : Hid (Gd n w u570q) := h565q.out.later hb
            have h572q : Hid (TAt u570q u3q.heap.size t) := h566q.out.later hb
            have h573q : Hid (Bo u570q u332q.heap.size [.int .i64 0, .int .i64 0]) := h567q.out.later hb
            clear h565q h566q h567q
            clear hb
            go_wp2_with fail
            refine hK.out _ _ h572q.out (fun hH => ?_)
            clear hK K
            try simp only [Act.put, List.setIfInBounds_toArray, List.set_cons_zero, List.set_cons_succ]
            refine wpAnyH_take (i := 6) (oi := { dst := some 27, op := .move (.tmp 33), type := _, pos := _, after := _, guard := _ }) (v := ?_) rfl (by kernel_rfl) (by kernel_rfl) (by kernel_rfl) (fun _ _ _ h => h) (Or.inl ⟨by rfl, ?_⟩) hH ?_
            rotate_left
            · intro w hSw
              clear hSw
              go_simp
              try with_reducible rfl
            simp only [Act.put, List.setIfInBounds_toArray, List.set_cons_zero, List.set_cons_succ]
            refine wpAnyH_take (i := 7) (oi := { dst := some 34, op := .extract (.tmp 27) 0, type := _, pos := _, after := _, guard := _ }) (v := ?_) rfl (by kernel_rfl) (by kernel_rfl) (by kernel_rfl) (fun _ _ _ h => h) (Or.inl ⟨by rfl, ?_⟩) hH ?_
            rotate_left
            · intro w hSw
              clear hSw
              go_simp
              try with_reducible rfl
            simp only [Act.put, List.setIfInBounds_toArray, List.set_cons_zero, List.set_cons_succ]
            refine wpAnyH_take (i := 8) (oi := { dst := some 35, op := .extract (.tmp 27) 1, type := _, pos := _, after := _, guard := _ }) (v := ?_) rfl (by kernel_rfl) (by kernel_rfl) (by kernel_rfl) (fun _ _ _ h => h) (Or.inl ⟨by rfl, ?_⟩) hH ?_
            rotate_left
            · intro w hSw
              clear hSw
              go_simp
              try with_reducible rfl
            simp only [Act.put, List.setIfInBounds_toArray, List.set_cons_zero, List.set_cons_succ]
            refine wpAnyH_ready (rs := [9]) (by kernel_rfl) (by simp) ?_
            refine AllReadyH.cons (o := { dst := some 10, op := .alloc _, type := _, pos := _, after := _, guard := _ }) rfl (fun K hK => ?_) AllReadyH.nil
            have l574q : n ≤ u570q.heap.size := h571q.out.le
            have l575q : u3q.heap.size < u570q.heap.size := h572q.out.lt
            have l576q : u332q.heap.size < u570q.heap.size := h573q.out.lt
            go_simp
            have h577q : Hid (Gd n w (u570q.alloc (.cells #[.int .i64 0, .int .i64 0, .int .i64 0, .int .i64 0, .int .i64 0, .int .i64 0, .int .i64 0, .int .i64 0, .int .i64 0, .int .i64 0, .int .i64 0, .int .i64 0, .int .i64 0, .int .i64 0, .int .i64 0, .int .i64 0] 27))) := h571q.out.new (.cells #[.int .i64 0, .int .i64 0, .int .i64 0, .int .i64 0, .int .i64 0, .int .i64 0, .int .i64 0, .int .i64 0, .int .i64 0, .int .i64 0, .int .i64 0, .int .i64 0, .int .i64 0, .int .i64 0, .int .i64 0, .int .i64 0] 27)
            have h578q : Hid (TAt (u570q.alloc (.cells #[.int .i64 0, .int .i64 0, .int .i64 0, .int .i64 0, .int .i64 0, .int .i64 0, .int .i64 0, .int .i64 0, .int .i64 0, .int .i64 0, .int .i64 0, .int .i64 0, .int .i64 0, .int .i64 0, .int .i64 0, .int .i64 0] 27)) u3q.heap.size t) := h572q.out.new (.cells #[.int .i64 0, .int .i64 0, .int .i64 0, .int .i64 0, .int .i64 0, .int .i64 0, .int .i64 0, .int .i64 0, .int .i64 0, .int .i64 0, .int .i64 0, .int .i64 0, .int .i64 0, .int .i64 0, .int .i64 0, .int .i64 0] 27)
            have h579q : Hid (Bo (u570q.alloc (.cells #[.int .i64 0, .int .i64 0, .int .i64 0, .int .i64 0, .int .i64 0, .int .i64 0, .int .i64 0, .int .i64 0, .int .i64 0, .int .i64 0, .int .i64 0, .int .i64 0, .int .i64 0, .int .i64 0, .int .i64 0, .int .i64 0] 27)) u332q.heap.size [.int .i64 0, .int .i64 0]) := h573q.out.new (.cells #[.int .i64 0, .int .i64 0, .int .i64 0, .int .i64 0, .int .i64 0, .int .i64 0, .int .i64 0, .int .i64 0, .int .i64 0, .int .i64 0, .int .i64 0, .int .i64 0, .int .i64 0, .int .i64 0, .int .i64 0, .int .i64 0] 27)
            clear h571q h572q h573q
            have h580q : Hid (TAt (u570q.alloc (.cells #[.int .i64 0, .int .i64 0, .int .i64 0, .int .i64 0, .int .i64 0, .int .i64 0, .int .i64 0, .int .i64 0, .int .i64 0, .int .i64 0, .int .i64 0, .int .i64 0, .int .i64 0, .int .i64 0, .int .i64 0, .int .i64 0] 27)) u570q.heap.size Tb.zero) := TAt.bornZero u570q 27 (by simp)
            refine hK.out _ _ h578q.out (fun hH => ?_)
            clear hK K
            generalize (u570q.alloc (.cells #[.int .i64 0, .int .i64 0, .int .i64 0, .int .i64 0, .int .i64 0, .int .i64 0, .int .i64 0, .int .i64 0, .int .i64 0, .int .i64 0, .int .i64 0, .int .i64 0, .int .i64 0, .int .i64 0, .int .i64 0, .int .i64 0] 27)) = u581q at h577q h578q h579q h580q hH ⊢
            try simp only [Act.put, List.setIfInBounds_toArray, List.set_cons_zero, List.set_cons_succ]
            refine wpAnyH_ready (rs := [11]) (by kernel_rfl) (by simp) ?_
            refine AllReadyH.cons (o := { dst := none, op := .store _ (.tmp 10) (.tmp 34), type := _, pos := _, after := _, guard := _ }) rfl (fun K hK => ?_) AllReadyH.nil
            rw [if_pos (by rfl)]
            refine wp_store_mid _ _ _ rfl u570q.heap.size _ u.all.toArray rfl rfl (h580q.out.thereOf u) (HZ.out u) (u.all_all) ?_
            simp only [Act.put]
            have h582q : Hid (Gd n w (u581q.setCells u570q.heap.size 0 u.all)) := h577q.out.asideAll (by omega) u
            have h583q : Hid (TAt (u581q.setCells u570q.heap.size 0 u.all) u3q.heap.size t) := h578q.out.asideAll (by omega) u
            have h584q : Hid (Bo (u581q.setCells u570q.heap.size 0 u.all) u332q.heap.size [.int .i64 0, .int .i64 0]) := h579q.out.asideAll (by omega) u
            have h585q : Hid (TAt (u581q.setCells u570q.heap.size 0 u.all) u570q.heap.size u) := h580q.out.setAll u
            clear h577q h578q h579q h580q
            refine hK.out _ _ h583q.out (fun hH => ?_)
            clear hK K
            generalize (u581q.setCells u570q.heap.size 0 u.all) = u586q at h582q h583q h584q h585q hH ⊢
            try simp only [Act.put, List.setIfInBounds_toArray, List.set_cons_zero, List.set_cons_succ]
            refine wpAnyH_ready (rs := [12]) (by kernel_rfl) (by simp) ?_
            refine AllReadyH.cons (o := { dst := none, op := .store _ (.tmp 11) (.tmp 35), type := _, pos := _, after := _, guard := _ }) rfl (fun K hK => ?_) AllReadyH.nil
            rw [if_pos (by rfl)]
            refine wp_store_mid _ _ _ rfl u332q.heap.size _ #[.int .i64 (1), .int .i64 (0)] rfl rfl h584q.out.there2 HA.out (two_one _ _) ?_
            simp only [Act.put]
            have h587q : Hid (Gd n w (u586q.setCells u332q.heap.size 0 [.int .i64 (1), .int .i64 (0)])) := h582q.out.asideL (by omega) 0 [.int .i64 (1), .int .i64 (0)]
            have h588q : Hid (TAt (u586q.setCells u332q.heap.size 0 [.int .i64 (1), .int .i64 (0)]) u3q.heap.size t) := h583q.out.asideL (by omega) 0 [.int .i64 (1), .int .i64 (0)]
            have h589q : Hid (Bo (u586q.setCells u332q.heap.size 0 [.int .i64 (1), .int .i64 (0)]) u332q.heap.size [.int .i64 (1), .int .i64 (0)]) := h584q.out.set2 (.int .i64 (1)) (.int .i64 (0))
            have h590q : Hid (TAt (u586q.setCells u332q.heap.size 0 [.int .i64 (1), .int .i64 (0)]) u570q.heap.size u) := h585q.out.asideL (by omega) 0 [.int .i64 (1), .int .i64 (0)]
            clear h582q h583q h584q h585q
            refine hK.out _ _ h588q.out (fun hH => ?_)
            clear hK K
            generalize (u586q.setCells u332q.heap.size 0 [.int .i64 (1), .int .i64 (0)]) = u591q at h587q h588q h589q h590q hH ⊢
            try simp only [Act.put, List.setIfInBounds_toArray, List.set_cons_zero, List.set_cons_succ]
            refine wpAnyH_done (by kernel_rfl) ?_ _
            go_wp2_with fail
            go_meet
            case rel => exact ⟨u570q.heap.size, u332q.heap.size, rfl, rfl, h587q, h588q, h590q, h589q, (by omega)⟩
          refine AllReadyH.cons (o := { dst := some 10, op := .alloc _, type := _, pos := _, after := _, guard := _ }) rfl (fun K hK => ?_) AllReadyH.nil
          have l592q : n ≤ u568q.heap.size := h565q.out.le
          have l593q : u3q.heap.size < u568q.heap.size := h566q.out.lt
          have l594q : u332q.heap.size < u568q.heap.size := h567q.out.lt
          go_simp
          have h595q : Hid (Gd n w (u568q.alloc (.cells #[.int .i64 0, .int .i64 0, .int .i64 0, .int .i64 0, .int .i64 0, .int .i64 0, .int .i64 0, .int .i64 0, .int .i64 0, .int .i64 0, .int .i64 0, .int .i64 0, .int .i64 0, .int .i64 0, .int .i64 0, .int .i64 0] 27))) := h565q.out.new (.cells #[.int .i64 0, .int .i64 0, .int .i64 0, .int .i64 0, .int .i64 0, .int .i64 0, .int .i64 0, .int .i64 0, .int .i64 0, .int .i64 0, .int .i64 0, .int .i64 0, .int .i64 0, .int .i64 0, .int .i64 0, .int .i64 0] 27)
          have h596q : Hid (TAt (u568q.alloc (.cells #[.int .i64 0, .int .i64 0, .int .i64 0, .int .i64 0, .int .i64 0, .int .i64 0, .int .i64 0, .int .i64 0, .int .i64 0, .int .i64 0, .int .i64 0, .int .i64 0, .int .i64 0, .int .i64 0, .int .i64 0, .int .i64 0] 27)) u3q.heap.size t) := h566q.out.new (.cells #[.int .i64 0, .int .i64 0, .int .i64 0, .int .i64 0, .int .i64 0, .int .i64 0, .int .i64 0, .int .i64 0, .int .i64 0, .int .i64 0, .int .i64 0, .int .i64 0, .int .i64 0, .int .i64 0, .int .i64 0, .int .i64 0] 27)
          have h597q : Hid (Bo (u568q.alloc (.cells #[.int .i64 0, .int .i64 0, .int .i64 0, .int .i64 0, .int .i64 0, .int .i64 0, .int .i64 0, .int .i64 0, .int .i64 0, .int .i64 0, .int .i64 0, .int .i64 0, .int .i64 0, .int .i64 0, .int .i64 0, .int .i64 0] 27)) u332q.heap.size [.int .i64 0, .int .i64 0]) := h567q.out.new (.cells #[.int .i64 0, .int .i64 0, .int .i64 0, .int .i64 0, .int .i64 0, .int .i64 0, .int .i64 0, .int .i64 0, .int .i64 0, .int .i64 0, .int .i64 0, .int .i64 0, .int .i64 0, .int .i64 0, .int .i64 0, .int .i64 0] 27)
          clear h565q h566q h567q
          have h598q : Hid (TAt (u568q.alloc (.cells #[.int .i64 0, .int .i64 0, .int .i64 0, .int .i64 0, .int .i64 0, .int .i64 0, .int .i64 0, .int .i64 0, .int .i64 0, .int .i64 0, .int .i64 0, .int .i64 0, .int .i64 0, .int .i64 0, .int .i64 0, .int .i64 0] 27)) u568q.heap.size Tb.zero) := TAt.bornZero u568q 27 (by simp)
          refine hK.out _ _ h596q.out (fun hH => ?_)
          clear hK K
          generalize (u568q.alloc (.cells #[.int .i64 0, .int .i64 0, .int .i64 0, .int .i64 0, .int .i64 0, .int .i64 0, .int .i64 0, .int .i64 0, .int .i64 0, .int .i64 0, .int .i64 0, .int .i64 0, .int .i64 0, .int .i64 0, .int .i64 0, .int .i64 0] 27)) = u599q at h595q h596q h597q h598q hH ⊢
          try simp only [Act.put, List.setIfInBounds_toArray, List.set_cons_zero, List.set_cons_succ]
          refine wpAnyH_ready (rs := [5]) (by kernel_rfl) (by simp) ?_
          refine AllReadyH.cons (o := { dst := some 33, op := _, type := _, pos := _, after := _, guard := _ }) rfl (fun K hK => ?_) AllReadyH.nil
          go_simp
          refine (DO _).mono ?_
          rintro e u600q ⟨rfl, hb⟩
          have h601q : Hid (Gd n w u600q) := h595q.out.later hb
          have h602q : Hid (TAt u600q u3q.heap.size t) := h596q.out.later hb
          have h603q : Hid (Bo u600q u332q.heap.size [.int .i64 0, .int .i64 0]) := h597q.out.later hb
          have h604q : Hid (TAt u600q u568q.heap.size Tb.zero) := h598q.out.later hb
          clear h595q h596q h597q h598q
          clear hb
          go_wp2_with fail
          refine hK.out _ _ h602q.out (fun hH => ?_)
          clear hK K
          try simp only [Act.put, List.setIfInBounds_toArray, List.set_cons_zero, List.set_cons_succ]
          refine wpAnyH_take (i := 6) (oi := { dst := some 27, op := .move (.tmp 33), type := _, pos := _, after := _, guard := _ }) (v := ?_) rfl (by kernel_rfl) (by kernel_rfl) (by kernel_rfl) (fun _ _ _ h => h) (Or.inl ⟨by rfl, ?_⟩) hH ?_
          rotate_left
          · intro w hSw
            clear hSw
            go_simp
            try with_reducible rfl
          simp only [Act.put, List.setIfInBounds_toArray, List.set_cons_zero, List.set_cons_succ]
          refine wpAnyH_take (i := 7) (oi := { dst := some 34, op := .extract (.tmp 27) 0, type := _, pos := _, after := _, guard := _ }) (v := ?_) rfl (by kernel_rfl) (by kernel_rfl) (by kernel_rfl) (fun _ _ _ h => h) (Or.inl ⟨by rfl, ?_⟩) hH ?_
          rotate_left
          · intro w hSw
            clear hSw
            go_simp
            try with_reducible rfl
          simp only [Act.put, List.setIfInBounds_toArray, List.set_cons_zero, List.set_cons_succ]
          refine wpAnyH_take (i := 8) (oi := { dst := some 35, op := .extract (.tmp 27) 1, type := _, pos := _, after := _, guard := _ }) (v := ?_) rfl (by kernel_rfl) (by kernel_rfl) (by kernel_rfl) (fun _ _ _ h => h) (Or.inl ⟨by rfl, ?_⟩) hH ?_
          rotate_left
          · intro w hSw
            clear hSw
            go_simp
            try with_reducible rfl
          simp only [Act.put, List.setIfInBounds_toArray, List.set_cons_zero, List.set_cons_succ]
          refine wpAnyH_ready (rs := [11]) (by kernel_rfl) (by simp) ?_
          refine AllReadyH.cons (o := { dst := none, op := .store _ (.tmp 10) (.tmp 34), type := _, pos := _, after := _, guard := _ }) rfl (fun K hK => ?_) AllReadyH.nil
          rw [if_pos (by rfl)]
          refine wp_store_mid _ _ _ rfl u568q.heap.size _ u.all.toArray rfl rfl (h604q.out.thereOf u) (HZ.out u) (u.all_all) ?_
          simp only [Act.put]
          have h605q : Hid (Gd n w (u600q.setCells u568q.heap.size 0 u.all)) := h601q.out.asideAll (by omega) u
          have h606q : Hid (TAt (u600q.setCells u568q.heap.size 0 u.all) u3q.heap.size t) := h602q.out.asideAll (by omega) u
          have h607q : Hid (Bo (u600q.setCells u568q.heap.size 0 u.all) u332q.heap.size [.int .i64 0, .int .i64 0]) := h603q.out.asideAll (by omega) u
          have h608q : Hid (TAt (u600q.setCells u568q.heap.size 0 u.all) u568q.heap.size u) := h604q.out.setAll u
          clear h601q h602q h603q h604q
          refine hK.out _ _ h606q.out (fun hH => ?_)
          clear hK K
          generalize (u600q.setCells u568q.heap.size 0 u.all) = u609q at h605q h606q h607q h608q hH ⊢
          try simp only [Act.put, List.setIfInBounds_toArray, List.set_cons_zero, List.set_cons_succ]
          refine wpAnyH_ready (rs := [12]) (by kernel_rfl) (by simp) ?_
          refine AllReadyH.cons (o := { dst := none, op := .store _ (.tmp 11) (.tmp 35), type := _, pos := _, after := _, guard := _ }) rfl (fun K hK => ?_) AllReadyH.nil
          rw [if_pos (by rfl)]
          refine wp_store_mid _ _ _ rfl u332q.heap.size _ #[.int .i64 (1), .int .i64 (0)] rfl rfl h607q.out.there2 HA.out (two_one _ _) ?_
          simp only [Act.put]
          have h610q : Hid (Gd n w (u609q.setCells u332q.heap.size 0 [.int .i64 (1), .int .i64 (0)])) := h605q.out.asideL (by omega) 0 [.int .i64 (1), .int .i64 (0)]
          have h611q : Hid (TAt (u609q.setCells u332q.heap.size 0 [.int .i64 (1), .int .i64 (0)]) u3q.heap.size t) := h606q.out.asideL (by omega) 0 [.int .i64 (1), .int .i64 (0)]
          have h612q : Hid (Bo (u609q.setCells u332q.heap.size 0 [.int .i64 (1), .int .i64 (0)]) u332q.heap.size [.int .i64 (1), .int .i64 (0)]) := h607q.out.set2 (.int .i64 (1)) (.int .i64 (0))
          have h613q : Hid (TAt (u609q.setCells u332q.heap.size 0 [.int .i64 (1), .int .i64 (0)]) u568q.heap.size u) := h608q.out.asideL (by omega) 0 [.int .i64 (1), .int .i64 (0)]
          clear h605q h606q h607q h608q
          refine hK.out _ _ h611q.out (fun hH => ?_)
          clear hK K
          generalize (u609q.setCells u332q.heap.size 0 [.int .i64 (1), .int .i64 (0)]) = u614q at h610q h611q h612q h613q hH ⊢
          try simp only [Act.put, List.setIfInBounds_toArray, List.set_cons_zero, List.set_cons_succ]
          refine wpAnyH_done (by kernel_rfl) ?_ _
          go_wp2_with fail
          go_meet
          case rel => exact ⟨u568q.heap.size, u332q.heap.size, rfl, rfl, h610q, h611q, h613q, h612q, (by omega)⟩
        refine AllReadyH.cons (o := { dst := some 10, op := .alloc _, type := _, pos := _, after := _, guard := _ }) rfl (fun K hK => ?_) AllReadyH.nil
        have l615q : n ≤ u568q.heap.size := h565q.out.le
        have l616q : u3q.heap.size < u568q.heap.size := h566q.out.lt
        have l617q : u332q.heap.size < u568q.heap.size := h567q.out.lt
        go_simp
        have h618q : Hid (Gd n w (u568q.alloc (.cells #[.int .i64 0, .int .i64 0, .int .i64 0, .int .i64 0, .int .i64 0, .int .i64 0, .int .i64 0, .int .i64 0, .int .i64 0, .int .i64 0, .int .i64 0, .int .i64 0, .int .i64 0, .int .i64 0, .int .i64 0, .int .i64 0] 27))) := h565q.out.new (.cells #[.int .i64 0, .int .i64 0, .int .i64 0, .int .i64 0, .int .i64 0, .int .i64 0, .int .i64 0, .int .i64 0, .int .i64 0, .int .i64 0, .int .i64 0, .int .i64 0, .int .i64 0, .int .i64 0, .int .i64 0, .int .i64 0] 27)
        have h619q : Hid (TAt (u568q.alloc (.cells #[.int .i64 0, .int .i64 0, .int .i64 0, .int .i64 0, .int .i64 0, .int .i64 0, .int .i64 0, .int .i64 0, .int .i64 0, .int .i64 0, .int .i64 0, .int .i64 0, .int .i64 0, .int .i64 0, .int .i64 0, .int .i64 0] 27)) u3q.heap.size t) := h566q.out.new (.cells #[.int .i64 0, .int .i64 0, .int .i64 0, .int .i64 0, .int .i64 0, .int .i64 0, .int .i64 0, .int .i64 0, .int .i64 0, .int .i64 0, .int .i64 0, .int .i64 0, .int .i64 0, .int .i64 0, .int .i64 0, .int .i64 0] 27)
        have h620q : Hid (Bo (u568q.alloc (.cells #[.int .i64 0, .int .i64 0, .int .i64 0, .int .i64 0, .int .i64 0, .int .i64 0, .int .i64 0, .int .i64 0, .int .i64 0, .int .i64 0, .int .i64 0, .int .i64 0, .int .i64 0, .int .i64 0, .int .i64 0, .int .i64 0] 27)) u332q.heap.size [.int .i64 0, .int .i64 0]) := h567q.out.new (.cells #[.int .i64 0, .int .i64 0, .int .i64 0, .int .i64 0, .int .i64 0, .int .i64 0, .int .i64 0, .int .i64 0, .int .i64 0, .int .i64 0, .int .i64 0, .int .i64 0, .int .i64 0, .int .i64 0, .int .i64 0, .int .i64 0] 27)
        clear h565q h566q h567q
        have h621q : Hid (TAt (u568q.alloc (.cells #[.int .i64 0, .int .i64 0, .int .i64 0, .int .i64 0, .int .i64 0, .int .i64 0, .int .i64 0, .int .i64 0, .int .i64 0, .int .i64 0, .int .i64 0, .int .i64 0, .int .i64 0, .int .i64 0, .int .i64 0, .int .i64 0] 27)) u568q.heap.size Tb.zero) := TAt.bornZero u568q 27 (by simp)
        refine hK.out _ _ h619q.out (fun hH => ?_)
        clear hK K
        generalize (u568q.alloc (.cells #[.int .i64 0, .int .i64 0, .int .i64 0, .int .i64 0, .int .i64 0, .int .i64 0, .int .i64 0, .int .i64 0, .int .i64 0, .int .i64 0, .int .i64 0, .int .i64 0, .int .i64 0, .int .i64 0, .int .i64 0, .int .i64 0] 27)) = u622q at h618q h619q h620q h621q hH ⊢
        try simp only [Act.put, List.setIfInBounds_toArray, List.set_cons_zero, List.set_cons_succ]
        refine wpAnyH_ready (rs := [3]) (by kernel_rfl) (by simp) ?_
        refine AllReadyH.cons (o := { dst := some 31, op := _, type := _, pos := _, after := _, guard := _ }) rfl (fun K hK => ?_) AllReadyH.nil
        go_simp
        refine (Pr2.out _).mono ?_
        rintro e u623q ⟨rfl, hw⟩
        rw [hw]; clear hw u623q
        go_wp2_with fail
        refine hK.out _ _ h619q.out (fun hH => ?_)
        clear hK K
        try simp only [Act.put, List.setIfInBounds_toArray, List.set_cons_zero, List.set_cons_succ]
        refine wpAnyH_take (i := 4) (oi := { dst := some 32, op := .build _ #[(0, .const (.int .i64 1)), (1, .tmp 29), (2, .tmp 31)], type := _, pos := _, after := _, guard := _ }) (v := ?_) rfl (by kernel_rfl) (by kernel_rfl) (by kernel_rfl) (fun _ _ _ h => h) (Or.inl ⟨by rfl, ?_⟩) hH ?_
        rotate_left
        · intro w hSw
          clear hSw
          go_simp
          try with_reducible rfl
        simp only [Act.put, List.setIfInBounds_toArray, List.set_cons_zero, List.set_cons_succ]
        refine wpAnyH_ready (rs := [5]) (by kernel_rfl) (by simp) ?_
        refine AllReadyH.cons (o := { dst := some 33, op := _, type := _, pos := _, after := _, guard := _ }) rfl (fun K hK => ?_) AllReadyH.nil
        go_simp
        refine (DO _).mono ?_
        rintro e u624q ⟨rfl, hb⟩
        have h625q : Hid (Gd n w u624q) := h618q.out.later hb
        have h626q : Hid (TAt u624q u3q.heap.size t) := h619q.out.later hb
        have h627q : Hid (Bo u624q u332q.heap.size [.int .i64 0, .int .i64 0]) := h620q.out.later hb
        have h628q : Hid (TAt u624q u568q.heap.size Tb.zero) := h621q.out.later hb
        clear h618q h619q h620q h621q
        clear hb
        go_wp2_with fail
        refine hK.out _ _ h626q.out (fun hH => ?_)
        clear hK K
        try simp only [Act.put, List.setIfInBounds_toArray, List.set_cons_zero, List.set_cons_succ]
        refine wpAnyH_take (i := 6) (oi := { dst := some 27, op := .move (.tmp 33), type := _, pos := _, after := _, guard := _ }) (v := ?_) rfl (by kernel_rfl) (by kernel_rfl) (by kernel_rfl) (fun _ _ _ h => h) (Or.inl ⟨by rfl, ?_⟩) hH ?_
        rotate_left
        · intro w hSw
          clear hSw
          go_simp
          try with_reducible rfl
        simp only [Act.put, List.setIfInBounds_toArray, List.set_cons_zero, List.set_cons_succ]
        refine wpAnyH_take (i := 7) (oi := { dst := some 34, op := .extract (.tmp 27) 0, type := _, pos := _, after := _, guard := _ }) (v := ?_) rfl (by kernel_rfl) (by kernel_rfl) (by kernel_rfl) (fun _ _ _ h => h) (Or.inl ⟨by rfl, ?_⟩) hH ?_
        rotate_left
        · intro w hSw
          clear hSw
          go_simp
          try with_reducible rfl
        simp only [Act.put, List.setIfInBounds_toArray, List.set_cons_zero, List.set_cons_succ]
        refine wpAnyH_take (i := 8) (oi := { dst := some 35, op := .extract (.tmp 27) 1, type := _, pos := _, after := _, guard := _ }) (v := ?_) rfl (by kernel_rfl) (by kernel_rfl) (by kernel_rfl) (fun _ _ _ h => h) (Or.inl ⟨by rfl, ?_⟩) hH ?_
        rotate_left
        · intro w hSw
          clear hSw
          go_simp
          try with_reducible rfl
        simp only [Act.put, List.setIfInBounds_toArray, List.set_cons_zero, List.set_cons_succ]
        refine wpAnyH_ready (rs := [11]) (by kernel_rfl) (by simp) ?_
        refine AllReadyH.cons (o := { dst := none, op := .store _ (.tmp 10) (.tmp 34), type := _, pos := _, after := _, guard := _ }) rfl (fun K hK => ?_) AllReadyH.nil
        rw [if_pos (by rfl)]
        refine wp_store_mid _ _ _ rfl u568q.heap.size _ u.all.toArray rfl rfl (h628q.out.thereOf u) (HZ.out u) (u.all_all) ?_
        simp only [Act.put]
        have h629q : Hid (Gd n w (u624q.setCells u568q.heap.size 0 u.all)) := h625q.out.asideAll (by omega) u
        have h630q : Hid (TAt (u624q.setCells u568q.heap.size 0 u.all) u3q.heap.size t) := h626q.out.asideAll (by omega) u
        have h631q : Hid (Bo (u624q.setCells u568q.heap.size 0 u.all) u332q.heap.size [.int .i64 0, .int .i64 0]) := h627q.out.asideAll (by omega) u
        have h632q : Hid (TAt (u624q.setCells u568q.heap.size 0 u.all) u568q.heap.size u) := h628q.out.setAll u
        clear h625q h626q h627q h628q
        refine hK.out _ _ h630q.out (fun hH => ?_)
        clear hK K
        generalize (u624q.setCells u568q.heap.size 0 u.all) = u633q at h629q h630q h631q h632q hH ⊢
        try simp only [Act.put, List.setIfInBounds_toArray, List.set_cons_zero, List.set_cons_succ]
        refine wpAnyH_ready (rs := [12]) (by kernel_rfl) (by simp) ?_
        refine AllReadyH.cons (o := { dst := none, op := .store _ (.tmp 11) (.tmp 35), type := _, pos := _, after := _, guard := _ }) rfl (fun K hK => ?_) AllReadyH.nil
        rw [if_pos (by rfl)]
        refine wp_store_mid _ _ _ rfl u332q.heap.size _ #[.int .i64 (1), .int .i64 (0)] rfl rfl h631q.out.there2 HA.out (two_one _ _) ?_
        simp only [Act.put]
        have h634q : Hid (Gd n w (u633q.setCells u332q.heap.size 0 [.int .i64 (1), .int .i64 (0)])) := h629q.out.asideL (by omega) 0 [.int .i64 (1), .int .i64 (0)]
        have h635q : Hid (TAt (u633q.setCells u332q.heap.size 0 [.int .i64 (1), .int .i64 (0)]) u3q.heap.size t) := h630q.out.asideL (by omega) 0 [.int .i64 (1), .int .i64 (0)]
        have h636q : Hid (Bo (u633q.setCells u332q.heap.size 0 [.int .i64 (1), .int .i64 (0)]) u332q.heap.size [.int .i64 (1), .int .i64 (0)]) := h631q.out.set2 (.int .i64 (1)) (.int .i64 (0))
        have h637q : Hid (TAt (u633q.setCells u332q.heap.size 0 [.int .i64 (1), .int .i64 (0)]) u568q.heap.size u) := h632q.out.asideL (by omega) 0 [.int .i64 (1), .int .i64 (0)]
        clear h629q h630q h631q h632q
        refine hK.out _ _ h635q.out (fun hH => ?_)
        clear hK K
        generalize (u633q.setCells u332q.heap.size 0 [.int .i64 (1), .int .i64 (0)]) = u638q at h634q h635q h636q h637q hH ⊢
        try simp only [Act.put, List.setIfInBounds_toArray, List.set_cons_zero, List.set_cons_succ]
        refine wpAnyH_done (by kernel_rfl) ?_ _
        go_wp2_with fail
        go_meet
        case rel => exact ⟨u568q.heap.size, u332q.heap.size, rfl, rfl, h634q, h635q, h637q, h636q, (by omega)⟩
      case rest =>
        obtain ⟨b_u, b_a, rfl, rfl, h639q, h640q, h641q, h642q, hmore⟩ := hcut
        obtain ⟨hm1, hm2, hm3⟩ := hmore
        have c643q := h642q.out.at 0 rfl
        go_wp2_with (first
          | (refine wpList_load_mid rfl 27 _ rfl b_u _ rfl u.all _ h641q.out.range HD.out rfl (HS.out u) ?_))
        refine (DO2 _).mono ?_
        rintro e u644q ⟨rfl, hb⟩
        have h645q : Hid (Gd n w u644q) := h639q.out.later hb
        have h646q : Hid (TAt u644q u3q.heap.size t) := h640q.out.later hb
        have h647q : Hid (TAt u644q b_u u) := h641q.out.later hb
        have h648q : Hid (Bo u644q b_a [.int .i64 (1), .int .i64 (0)]) := h642q.out.later hb
        clear h639q h640q h641q h642q
        clear hb
        clear DO2
        have l649q : n ≤ u644q.heap.size := h645q.out.le
        have l650q : u3q.heap.size < u644q.heap.size := h646q.out.lt
        have l651q : b_u < u644q.heap.size := h647q.out.lt
        have l652q : b_a < u644q.heap.size := h648q.out.lt
        have h653q : Hid (Gd n w (u644q.alloc (.cells #[.int .i64 0, .int .i64 0] 31))) := h645q.out.new (.cells #[.int .i64 0, .int .i64 0] 31)
        have h654q : Hid (TAt (u644q.alloc (.cells #[.int .i64 0, .int .i64 0] 31)) u3q.heap.size t) := h646q.out.new (.cells #[.int .i64 0, .int .i64 0] 31)
        have h655q : Hid (TAt (u644q.alloc (.cells #[.int .i64 0, .int .i64 0] 31)) b_u u) := h647q.out.new (.cells #[.int .i64 0, .int .i64 0] 31)
        have h656q : Hid (Bo (u644q.alloc (.cells #[.int .i64 0, .int .i64 0] 31)) b_a [.int .i64 (1), .int .i64 (0)]) := h648q.out.new (.cells #[.int .i64 0, .int .i64 0] 31)
        clear h645q h646q h647q h648q
        have h657q : Hid (Bo (u644q.alloc (.cells #[.int .i64 0, .int .i64 0] 31)) u644q.heap.size [.int .i64 0, .int .i64 0]) := Bo.born u644q [.int .i64 0, .int .i64 0] 31 (by simp)
        go_wp2_with (first
          | (refine wpList_store_mid rfl 27 _ _ rfl b_u _ u2.all.toArray rfl rfl (h655q.out.thereOf u2) (HZ.out u2) (u2.all_all) ?_
             have h658q : Hid (Gd n w ((u644q.alloc (.cells #[.int .i64 0, .int .i64 0] 31)).setCells b_u 0 u2.all)) := h653q.out.asideAll (by omega) u2
             have h659q : Hid (TAt ((u644q.alloc (.cells #[.int .i64 0, .int .i64 0] 31)).setCells b_u 0 u2.all) u3q.heap.size t) := h654q.out.asideAll (by omega) u2
             have h660q : Hid (TAt ((u644q.alloc (.cells #[.int .i64 0, .int .i64 0] 31)).setCells b_u 0 u2.all) b_u u2) := h655q.out.setAll u2
             have h661q : Hid (Bo ((u644q.alloc (.cells #[.int .i64 0, .int .i64 0] 31)).setCells b_u 0 u2.all) b_a [.int .i64 (1), .int .i64 (0)]) := h656q.out.asideAll (by omega) u2
             have h662q : Hid (Bo ((u644q.alloc (.cells #[.int .i64 0, .int .i64 0] 31)).setCells b_u 0 u2.all) u644q.heap.size [.int .i64 0, .int .i64 0]) := h657q.out.asideAll (by omega) u2
             clear h653q h654q h655q h656q h657q
             generalize ((u644q.alloc (.cells #[.int .i64 0, .int .i64 0] 31)).setCells b_u 0 u2.all) = u663q at h658q h659q h660q h661q h662q  ⊢)
          | (refine wpList_store_mid rfl 31 _ _ rfl u644q.heap.size _ #[.int .i64 (1), .int .i64 (v)] rfl rfl h662q.out.there2 HA.out (two_one _ _) ?_
             have h664q : Hid (Gd n w (u663q.setCells u644q.heap.size 0 [.int .i64 (1), .int .i64 (v)])) := h658q.out.asideL (by omega) 0 [.int .i64 (1), .int .i64 (v)]
             have h665q : Hid (TAt (u663q.setCells u644q.heap.size 0 [.int .i64 (1), .int .i64 (v)]) u3q.heap.size t) := h659q.out.asideL (by omega) 0 [.int .i64 (1), .int .i64 (v)]
             have h666q : Hid (TAt (u663q.setCells u644q.heap.size 0 [.int .i64 (1), .int .i64 (v)]) b_u u2) := h660q.out.asideL (by omega) 0 [.int .i64 (1), .int .i64 (v)]
             have h667q : Hid (Bo (u663q.setCells u644q.heap.size 0 [.int .i64 (1), .int .i64 (v)]) b_a [.int .i64 (1), .int .i64 (0)]) := h661q.out.asideL (by omega) 0 [.int .i64 (1), .int .i64 (v)]
             have h668q : Hid (Bo (u663q.setCells u644q.heap.size 0 [.int .i64 (1), .int .i64 (v)]) u644q.heap.size [.int .i64 (1), .int .i64 (v)]) := h662q.out.set2 (.int .i64 (1)) (.int .i64 (v))
             clear h658q h659q h660q h661q h662q
             generalize (u663q.setCells u644q.heap.size 0 [.int .i64 (1), .int .i64 (v)]) = u669q at h664q h665q h666q h667q h668q  ⊢))
        have h670q : Hid (Gd n w u669q.drew) := h664q.out.drew
        have h671q : Hid (TAt u669q.drew u3q.heap.size t) := h665q.out.drew
        have h672q : Hid (TAt u669q.drew b_u u2) := h666q.out.drew
        have h673q : Hid (Bo u669q.drew b_a [.int .i64 (1), .int .i64 (0)]) := h667q.out.drew
        have h674q : Hid (Bo u669q.drew u644q.heap.size [.int .i64 (1), .int .i64 (v)]) := h668q.out.drew
        clear h664q h665q h666q h667q h668q
        refine wp_region_held_drew (S := fun w' => Bo w' u644q.heap.size [.int .i64 (1), .int .i64 (v)] ∧ TAt w' b_u u2 ∧ TAt w' u3q.heap.size t) (by kernel_rfl) ⟨h674q.out, h672q.out, h671q.out⟩ (fun hH => ?_)
        generalize u669q.drew = u675q at h670q h671q h672q h673q h674q hH ⊢
        refine wpAnyH_take (i := 0) (oi := { dst := some 54, op := .load _ (.tmp 12), type := _, pos := _, after := _, guard := _ }) (v := ?_) rfl (by kernel_rfl) (by kernel_rfl) (by kernel_rfl) (fun _ _ _ h => h) (Or.inl ⟨by rfl, ?_⟩) hH ?_
        rotate_left
        · intro w hSw
          have c676q := (hSw.1).at 0 rfl
          have c677q := (hSw.1).at 1 rfl
          clear hSw
          go_simp
          try with_reducible rfl
        simp only [Act.put, List.setIfInBounds_toArray, List.set_cons_zero, List.set_cons_succ]
        refine wpAnyH_take (i := 1) (oi := { dst := some 55, op := .move (.tmp 2), type := _, pos := _, after := _, guard := _ }) (v := ?_) rfl (by kernel_rfl) (by kernel_rfl) (by kernel_rfl) (fun _ _ _ h => h) (Or.inl ⟨by rfl, ?_⟩) hH ?_
        rotate_left
        · intro w hSw
          clear hSw
          go_simp
          try with_reducible rfl
        simp only [Act.put, List.setIfInBounds_toArray, List.set_cons_zero, List.set_cons_succ]
        refine wpAnyH_ready (rs := [2]) (by kernel_rfl) (by simp) ?_
        refine AllReadyH.cons (o := { dst := some 56, op := _, type := _, pos := _, after := _, guard := _ }) rfl (fun K hK => ?_) AllReadyH.nil
        go_simp
        refine (Pr2.out _).mono ?_
        rintro e u678q ⟨rfl, hw⟩
        rw [hw]; clear hw u678q
        go_wp2_with fail
        refine hK.out _ _ ⟨h674q.out, h672q.out, h671q.out⟩ (fun hH => ?_)
        clear hK K
        try simp only [Act.put, List.setIfInBounds_toArray, List.set_cons_zero, List.set_cons_succ]
        refine wpAnyH_take (i := 3) (oi := { dst := some 57, op := .build _ #[(0, .const (.int .i64 1)), (1, .tmp 56)], type := _, pos := _, after := _, guard := _ }) (v := ?_) rfl (by kernel_rfl) (by kernel_rfl) (by kernel_rfl) (fun _ _ _ h => h) (Or.inl ⟨by rfl, ?_⟩) hH ?_
        rotate_left
        · intro w hSw
          clear hSw
          go_simp
          try with_reducible rfl
        simp only [Act.put, List.setIfInBounds_toArray, List.set_cons_zero, List.set_cons_succ]
        refine wpAnyH_take (i := 4) (oi := { dst := some 58, op := .binOp .eql _ (.tmp 54) (.tmp 57) _, type := _, pos := _, after := _, guard := _ }) (v := ?_) rfl (by kernel_rfl) (by kernel_rfl) (by kernel_rfl) (fun _ _ _ h => h) (Or.inl ⟨by rfl, ?_⟩) hH ?_
        rotate_left
        · intro w hSw
          clear hSw
          go_simp
          try with_reducible rfl
        simp only [Act.put, List.setIfInBounds_toArray, List.set_cons_zero, List.set_cons_succ]
        refine wpAnyH_take (i := 5) (oi := { dst := some 59, op := .move (.tmp 58), type := _, pos := _, after := _, guard := _ }) (v := ?_) rfl (by kernel_rfl) (by kernel_rfl) (by kernel_rfl) (fun _ _ _ h => h) (Or.inl ⟨by rfl, ?_⟩) hH ?_
        rotate_left
        · intro w hSw
          clear hSw
          go_simp
          try with_reducible rfl
        simp only [Act.put, List.setIfInBounds_toArray, List.set_cons_zero, List.set_cons_succ]
        refine wpAnyH_take (i := 6) (oi := { dst := some 60, op := .load _ (.tmp 10), type := _, pos := _, after := _, guard := _ }) (v := _) rfl (by kernel_rfl) (by kernel_rfl) (by kernel_rfl) (fun _ _ _ h => h) (yieldsIf_load_mid (by rfl) _ _ rfl b_u _ rfl u2.all _ (fun _ h => (h.2.1).range) HD.out rfl (HS.out u2)) hH ?_
        simp only [Act.put, List.setIfInBounds_toArray, List.set_cons_zero, List.set_cons_succ]
        refine wpAnyH_ready (rs := [7]) (by kernel_rfl) (by simp) ?_
        refine AllReadyH.cons (o := { dst := some 61, op := _, type := _, pos := _, after := _, guard := _ }) rfl (fun K hK => ?_) AllReadyH.nil
        go_simp
        refine (RR _).mono ?_
        rintro e u679q ⟨rfl, hb⟩
        have h680q : Hid (Gd n w u679q) := h670q.out.later hb
        have h681q : Hid (TAt u679q u3q.heap.size t) := h671q.out.later hb
        have h682q : Hid (TAt u679q b_u u2) := h672q.out.later hb
        have h683q : Hid (Bo u679q b_a [.int .i64 (1), .int .i64 (0)]) := h673q.out.later hb
        have h684q : Hid (Bo u679q u644q.heap.size [.int .i64 (1), .int .i64 (v)]) := h674q.out.later hb
        clear h670q h671q h672q h673q h674q
        clear hb
        go_wp2_with fail
        refine hK.out _ _ ⟨h684q.out, h682q.out, h681q.out⟩ (fun hH => ?_)
        clear hK K
        try simp only [Act.put, List.setIfInBounds_toArray, List.set_cons_zero, List.set_cons_succ]
        refine wpAnyH_take (i := 8) (oi := { dst := some 62, op := .pick (.tmp 59) (.tmp 61) (.const (.bool false)), type := _, pos := _, after := _, guard := _ }) (v := ?_) rfl (by kernel_rfl) (by kernel_rfl) (by kernel_rfl) (fun _ _ _ h => h) (Or.inl ⟨by rfl, ?_⟩) hH ?_
        rotate_left
        · intro w hSw
          clear hSw
          go_simp
          try with_reducible rfl
        simp only [Act.put, List.setIfInBounds_toArray, List.set_cons_zero, List.set_cons_succ]
        refine wpAnyH_take (i := 9) (oi := { dst := some 63, op := .move (.tmp 62), type := _, pos := _, after := _, guard := _ }) (v := ?_) rfl (by kernel_rfl) (by kernel_rfl) (by kernel_rfl) (fun _ _ _ h => h) (Or.inl ⟨by rfl, ?_⟩) hH ?_
        rotate_left
        · intro w hSw
          clear hSw
          go_simp
          try with_reducible rfl
        simp only [Act.put, List.setIfInBounds_toArray, List.set_cons_zero, List.set_cons_succ]
        refine wpAnyH_take (i := 10) (oi := { dst := some 64, op := .load _ (.tmp 10), type := _, pos := _, after := _, guard := _ }) (v := _) rfl (by kernel_rfl) (by kernel_rfl) (by kernel_rfl) (fun _ _ _ h => h) (yieldsIf_load_mid (by rfl) _ _ rfl b_u _ rfl u2.all _ (fun _ h => (h.2.1).range) HD.out rfl (HS.out u2)) hH ?_
        simp only [Act.put, List.setIfInBounds_toArray, List.set_cons_zero, List.set_cons_succ]
        refine wpAnyH_take (i := 12) (oi := { dst := some 66, op := .load _ (.tmp 9), type := _, pos := _, after := _, guard := _ }) (v := _) rfl (by kernel_rfl) (by kernel_rfl) (by kernel_rfl) (fun _ _ _ h => h) (yieldsIf_load_mid (by rfl) _ _ rfl u3q.heap.size _ rfl t.all _ (fun _ h => (h.2.2).range) HD.out rfl (HS.out t)) hH ?_
        simp only [Act.put, List.setIfInBounds_toArray, List.set_cons_zero, List.set_cons_succ]
        refine wpAnyH_ready (rs := [11]) (by kernel_rfl) (by simp) ?_
        refine AllReadyH.cons (o := { dst := some 65, op := _, type := _, pos := _, after := _, guard := _ }) rfl (fun K hK => ?_) AllReadyH.nil
        go_simp
        refine (L1 _).mono ?_
        rintro e u685q ⟨rfl, hb⟩
        have h686q : Hid (Gd n w u685q) := h680q.out.later hb
        have h687q : Hid (TAt u685q u3q.heap.size t) := h681q.out.later hb
        have h688q : Hid (TAt u685q b_u u2) := h682q.out.later hb
        have h689q : Hid (Bo u685q b_a [.int .i64 (1), .int .i64 (0)]) := h683q.out.later hb
        have h690q : Hid (Bo u685q u644q.heap.size [.int .i64 (1), .int .i64 (v)]) := h684q.out.later hb
        clear h680q h681q h682q h683q h684q
        clear hb
        go_wp2_with fail
        refine hK.out _ _ ⟨h690q.out, h688q.out, h687q.out⟩ (fun hH => ?_)
        clear hK K
        try simp only [Act.put, List.setIfInBounds_toArray, List.set_cons_zero, List.set_cons_succ]
        refine wpAnyH_ready (rs := [13]) (by kernel_rfl) (by simp) ?_
        refine AllReadyH.cons (o := { dst := some 67, op := _, type := _, pos := _, after := _, guard := _ }) rfl (fun K hK => ?_) AllReadyH.nil
        go_simp
        refine (L2 _).mono ?_
        rintro e u691q ⟨rfl, hb⟩
        have h692q : Hid (Gd n w u691q) := h686q.out.later hb
        have h693q : Hid (TAt u691q u3q.heap.size t) := h687q.out.later hb
        have h694q : Hid (TAt u691q b_u u2) := h688q.out.later hb
        have h695q : Hid (Bo u691q b_a [.int .i64 (1), .int .i64 (0)]) := h689q.out.later hb
        have h696q : Hid (Bo u691q u644q.heap.size [.int .i64 (1), .int .i64 (v)]) := h690q.out.later hb
        clear h686q h687q h688q h689q h690q
        clear hb
        go_wp2_with fail
        refine hK.out _ _ ⟨h696q.out, h694q.out, h693q.out⟩ (fun hH => ?_)
        clear hK K
        try simp only [Act.put, List.setIfInBounds_toArray, List.set_cons_zero, List.set_cons_succ]
        refine wpAnyH_take (i := 14) (oi := { dst := some 68, op := .binOp .eql _ (.tmp 65) (.tmp 67) _, type := _, pos := _, after := _, guard := _ }) (v := ?_) rfl (by kernel_rfl) (by kernel_rfl) (by kernel_rfl) (fun _ _ _ h => h) (Or.inl ⟨by rfl, ?_⟩) hH ?_
        rotate_left
        · intro w hSw
          clear hSw
          go_simp
          try with_reducible rfl
        simp only [Act.put, List.setIfInBounds_toArray, List.set_cons_zero, List.set_cons_succ]
        refine wpAnyH_take (i := 15) (oi := { dst := some 69, op := .pick (.tmp 63) (.tmp 68) (.const (.bool false)), type := _, pos := _, after := _, guard := _ }) (v := ?_) rfl (by kernel_rfl) (by kernel_rfl) (by kernel_rfl) (fun _ _ _ h => h) (Or.inl ⟨by rfl, ?_⟩) hH ?_
        rotate_left
        · intro w hSw
          clear hSw
          go_simp
          try with_reducible rfl
        simp only [Act.put, List.setIfInBounds_toArray, List.set_cons_zero, List.set_cons_succ]
        refine wpAnyH_take (i := 16) (oi := { dst := some 70, op := .move (.tmp 69), type := _, pos := _, after := _, guard := _ }) (v := ?_) rfl (by kernel_rfl) (by kernel_rfl) (by kernel_rfl) (fun _ _ _ h => h) (Or.inl ⟨by rfl, ?_⟩) hH ?_
        rotate_left
        · intro w hSw
          clear hSw
          go_simp
          try with_reducible rfl
        simp only [Act.put, List.setIfInBounds_toArray, List.set_cons_zero, List.set_cons_succ]
        refine wpAnyH_take (i := 17) (oi := { dst := some 71, op := .load _ (.tmp 10), type := _, pos := _, after := _, guard := _ }) (v := _) rfl (by kernel_rfl) (by kernel_rfl) (by kernel_rfl) (fun _ _ _ h => h) (yieldsIf_load_mid (by rfl) _ _ rfl b_u _ rfl u2.all _ (fun _ h => (h.2.1).range) HD.out rfl (HS.out u2)) hH ?_
        simp only [Act.put, List.setIfInBounds_toArray, List.set_cons_zero, List.set_cons_succ]
        refine wpAnyH_take (i := 18) (oi := { dst := some 72, op := .move (.tmp 3), type := _, pos := _, after := _, guard := _ }) (v := ?_) rfl (by kernel_rfl) (by kernel_rfl) (by kernel_rfl) (fun _ _ _ h => h) (Or.inl ⟨by rfl, ?_⟩) hH ?_
        rotate_left
        · intro w hSw
          clear hSw
          go_simp
          try with_reducible rfl
        simp only [Act.put, List.setIfInBounds_toArray, List.set_cons_zero, List.set_cons_succ]
        refine wpAnyH_take (i := 20) (oi := { dst := some 74, op := .load _ (.tmp 9), type := _, pos := _, after := _, guard := _ }) (v := _) rfl (by kernel_rfl) (by kernel_rfl) (by kernel_rfl) (fun _ _ _ h => h) (yieldsIf_load_mid (by rfl) _ _ rfl u3q.heap.size _ rfl t.all _ (fun _ h => (h.2.2).range) HD.out rfl (HS.out t)) hH ?_
        simp only [Act.put, List.setIfInBounds_toArray, List.set_cons_zero, List.set_cons_succ]
        refine wpAnyH_take (i := 21) (oi := { dst := some 75, op := .move (.tmp 3), type := _, pos := _, after := _, guard := _ }) (v := ?_) rfl (by kernel_rfl) (by kernel_rfl) (by kernel_rfl) (fun _ _ _ h => h) (Or.inl ⟨by rfl, ?_⟩) hH ?_
        rotate_left
        · intro w hSw
          clear hSw
          go_simp
          try with_reducible rfl
        simp only [Act.put, List.setIfInBounds_toArray, List.set_cons_zero, List.set_cons_succ]
        refine wpAnyH_ready (rs := [19]) (by kernel_rfl) (by simp) ?_
        refine AllReadyH.cons (o := { dst := some 73, op := _, type := _, pos := _, after := _, guard := _ }) rfl (fun K hK => ?_) AllReadyH.nil
        go_simp
        refine (PU _).mono ?_
        rintro e u697q ⟨rfl, hb⟩
        have h698q : Hid (Gd n w u697q) := h692q.out.later hb
        have h699q : Hid (TAt u697q u3q.heap.size t) := h693q.out.later hb
        have h700q : Hid (TAt u697q b_u u2) := h694q.out.later hb
        have h701q : Hid (Bo u697q b_a [.int .i64 (1), .int .i64 (0)]) := h695q.out.later hb
        have h702q : Hid (Bo u697q u644q.heap.size [.int .i64 (1), .int .i64 (v)]) := h696q.out.later hb
        clear h692q h693q h694q h695q h696q
        clear hb
        go_wp2_with fail
        refine hK.out _ _ ⟨h702q.out, h700q.out, h699q.out⟩ (fun hH => ?_)
        clear hK K
        try simp only [Act.put, List.setIfInBounds_toArray, List.set_cons_zero, List.set_cons_succ]
        refine wpAnyH_ready (rs := [22]) (by kernel_rfl) (by simp) ?_
        refine AllReadyH.cons (o := { dst := some 76, op := _, type := _, pos := _, after := _, guard := _ }) rfl (fun K hK => ?_) AllReadyH.nil
        go_simp
        refine (PT _).mono ?_
        rintro e u703q ⟨rfl, hb⟩
        have h704q : Hid (Gd n w u703q) := h698q.out.later hb
        have h705q : Hid (TAt u703q u3q.heap.size t) := h699q.out.later hb
        have h706q : Hid (TAt u703q b_u u2) := h700q.out.later hb
        have h707q : Hid (Bo u703q b_a [.int .i64 (1), .int .i64 (0)]) := h701q.out.later hb
        have h708q : Hid (Bo u703q u644q.heap.size [.int .i64 (1), .int .i64 (v)]) := h702q.out.later hb
        clear h698q h699q h700q h701q h702q
        clear hb
        go_wp2_with fail
        refine hK.out _ _ ⟨h708q.out, h706q.out, h705q.out⟩ (fun hH => ?_)
        clear hK K
        try simp only [Act.put, List.setIfInBounds_toArray, List.set_cons_zero, List.set_cons_succ]
        refine wpAnyH_take (i := 23) (oi := { dst := some 77, op := .binOp .eql _ (.tmp 73) (.tmp 76) _, type := _, pos := _, after := _, guard := _ }) (v := ?_) rfl (by kernel_rfl) (by kernel_rfl) (by kernel_rfl) (fun _ _ _ h => h) (Or.inl ⟨by rfl, ?_⟩) hH ?_
        rotate_left
        · intro w hSw
          clear hSw
          go_simp
          try with_reducible rfl
        simp only [Act.put, List.setIfInBounds_toArray, List.set_cons_zero, List.set_cons_succ]
        refine wpAnyH_take (i := 24) (oi := { dst := some 78, op := .pick (.tmp 70) (.tmp 77) (.const (.bool false)), type := _, pos := _, after := _, guard := _ }) (v := ?_) rfl (by kernel_rfl) (by kernel_rfl) (by kernel_rfl) (fun _ _ _ h => h) (Or.inl ⟨by rfl, ?_⟩) hH ?_
        rotate_left
        · intro w hSw
          clear hSw
          go_simp
          try with_reducible rfl
        simp only [Act.put, List.setIfInBounds_toArray, List.set_cons_zero, List.set_cons_succ]
        refine wpAnyH_take (i := 25) (oi := { dst := some 79, op := .move (.tmp 78), type := _, pos := _, after := _, guard := _ }) (v := ?_) rfl (by kernel_rfl) (by kernel_rfl) (by kernel_rfl) (fun _ _ _ h => h) (Or.inl ⟨by rfl, ?_⟩) hH ?_
        rotate_left
        · intro w hSw
          clear hSw
          go_simp
          try with_reducible rfl
        simp only [Act.put, List.setIfInBounds_toArray, List.set_cons_zero, List.set_cons_succ]
        refine wpAnyH_take (i := 26) (oi := { dst := some 80, op := .load _ (.tmp 10), type := _, pos := _, after := _, guard := _ }) (v := _) rfl (by kernel_rfl) (by kernel_rfl) (by kernel_rfl) (fun _ _ _ h => h) (yieldsIf_load_mid (by rfl) _ _ rfl b_u _ rfl u2.all _ (fun _ h => (h.2.1).range) HD.out rfl (HS.out u2)) hH ?_
        simp only [Act.put, List.setIfInBounds_toArray, List.set_cons_zero, List.set_cons_succ]
        refine wpAnyH_take (i := 27) (oi := { dst := some 81, op := .move (.tmp 1), type := _, pos := _, after := _, guard := _ }) (v := ?_) rfl (by kernel_rfl) (by kernel_rfl) (by kernel_rfl) (fun _ _ _ h => h) (Or.inl ⟨by rfl, ?_⟩) hH ?_
        rotate_left
        · intro w hSw
          clear hSw
          go_simp
          try with_reducible rfl
        simp only [Act.put, List.setIfInBounds_toArray, List.set_cons_zero, List.set_cons_succ]
        refine wpAnyH_ready (rs := [28]) (by kernel_rfl) (by simp) ?_
        refine AllReadyH.cons (o := { dst := some 82, op := _, type := _, pos := _, after := _, guard := _ }) rfl (fun K hK => ?_) AllReadyH.nil
        go_simp
        refine (PG _).mono ?_
        rintro e u709q ⟨rfl, hb⟩
        have h710q : Hid (Gd n w u709q) := h704q.out.later hb
        have h711q : Hid (TAt u709q u3q.heap.size t) := h705q.out.later hb
        have h712q : Hid (TAt u709q b_u u2) := h706q.out.later hb
        have h713q : Hid (Bo u709q b_a [.int .i64 (1), .int .i64 (0)]) := h707q.out.later hb
        have h714q : Hid (Bo u709q u644q.heap.size [.int .i64 (1), .int .i64 (v)]) := h708q.out.later hb
        clear h704q h705q h706q h707q h708q
        clear hb
        go_wp2_with fail
        refine hK.out _ _ ⟨h714q.out, h712q.out, h711q.out⟩ (fun hH => ?_)
        clear hK K
        try simp only [Act.put, List.setIfInBounds_toArray, List.set_cons_zero, List.set_cons_succ]
        refine wpAnyH_take (i := 29) (oi := { dst := some 83, op := .field _ (.tmp 82) 0, type := _, pos := _, after := _, guard := _ }) (v := ?_) rfl (by kernel_rfl) (by kernel_rfl) (by kernel_rfl) (fun _ _ _ h => h) (Or.inl ⟨by rfl, ?_⟩) hH ?_
        rotate_left
        · intro w hSw
          clear hSw
          go_simp
          try with_reducible rfl
        simp only [Act.put, List.setIfInBounds_toArray, List.set_cons_zero, List.set_cons_succ]
        refine wpAnyH_take (i := 30) (oi := { dst := some 84, op := .binOp .eql _ (.tmp 83) (.const (.int .i64 4)) _, type := _, pos := _, after := _, guard := _ }) (v := ?_) rfl (by kernel_rfl) (by kernel_rfl) (by kernel_rfl) (fun _ _ _ h => h) (Or.inl ⟨by rfl, ?_⟩) hH ?_
        rotate_left
        · intro w hSw
          clear hSw
          go_simp
          try with_reducible rfl
        simp only [Act.put, List.setIfInBounds_toArray, List.set_cons_zero, List.set_cons_succ]
        refine wpAnyH_take (i := 31) (oi := { dst := some 85, op := .pick (.tmp 79) (.tmp 84) (.const (.bool false)), type := _, pos := _, after := _, guard := _ }) (v := ?_) rfl (by kernel_rfl) (by kernel_rfl) (by kernel_rfl) (fun _ _ _ h => h) (Or.inl ⟨by rfl, ?_⟩) hH ?_
        rotate_left
        · intro w hSw
          clear hSw
          go_simp
          try with_reducible rfl
        simp only [Act.put, List.setIfInBounds_toArray, List.set_cons_zero, List.set_cons_succ]
        refine wpAnyH_take (i := 32) (oi := { dst := some 8, op := .assign (.tmp 85), type := _, pos := _, after := _, guard := _ }) (v := ?_) rfl (by kernel_rfl) (by kernel_rfl) (by kernel_rfl) (fun _ _ _ h => h) (Or.inl ⟨by rfl, ?_⟩) hH ?_
        rotate_left
        · intro w hSw
          clear hSw
          go_simp
          try with_reducible rfl
        simp only [Act.put, List.setIfInBounds_toArray, List.set_cons_zero, List.set_cons_succ]
        refine wpAnyH_done (by kernel_rfl) ?_ _
        go_wp2
        go_ret
        exact ⟨rfl, h710q.out.2⟩
  · have m4 : (kc == 4) = false := by simp [hk4]
    have m5 : (kc != 4) = true := by simp [hk4]
    clear hk4
    go_wp2
    go_ret
    exact ⟨rfl, h14q.out.2⟩


set_option maxRecDepth 100000 in
theorem lifted (os : Os) (started : os.Started) (H : Type) (enc : TypeId × Value → H) :
    ReturnsInHanded {} Try.checked os 4 .any (Rows.tableBackSpec.pre6 enc Try.prog Try.f4 Rows.tableBackRow.domain false) (Rows.tableBackSpec.post enc Try.prog Try.f4 false true false false) := by
  refine returnsInHanded_of_change (C := Try.checked) own started (by kernel_rfl) Try.func4
    (ChangeSpec.witness6 (enc := enc) (C := Try.checked) false ⟨#[], #[.slice none 0 0, .int .i64 0, .int .i64 0, .int .i64 0], []⟩ 8 (by kernel_rfl) (by kernel_rfl) (by kernel_rfl) (by kernel_rfl)) ?_
  intro W base args ds gs before hval0 hW hcnd _
  have hval : ∀ (j : Nat) t v, Try.f4.params[j]? = some t → args[j]? = some v → Value.okWide Try.prog W .any base t v := hval0
  have hW' := hW
  obtain ⟨p, q, hA0, hV, rfl, hfz, hnd⟩ := hW
  have hA : DataW.TrodAll enc Try.prog W 0 (fun _ => true) true Try.f4.params.toList args.toList ds p := hA0
  rw [Try.params4] at hA hval
  obtain ⟨v0, vs0, d0, ds0, p0, q0, hargs, rfl, rfl, h0, r0⟩ := trodAll_cons hA
  obtain ⟨v1, vs1, d1, ds1, p1, q1, rfl, rfl, rfl, h1, r1⟩ := trodAll_cons r0
  obtain ⟨v2, vs2, d2, ds2, p2, q2, rfl, rfl, rfl, h2, r2⟩ := trodAll_cons r1
  obtain ⟨v3, vs3, d3, ds3, p3, q3, rfl, rfl, rfl, h3, r3⟩ := trodAll_cons r2
  obtain ⟨rfl, rfl, rfl⟩ := trodAll_nil r3
  obtain rfl : args = #[v0, v1, v2, v3] := by cases args; simp_all
  obtain ⟨rfl, rfl⟩ := trodVars_none hV
  obtain ⟨n0, D0⟩ := ops_of_trod (hval 0 22 v0 rfl rfl) h0
  obtain ⟨a1, rfl, rfl, rfl, w1⟩ := open_int Try.underlying3 (hval 1 3 v1 rfl rfl) h1
  obtain ⟨a2, rfl, rfl, rfl, w2⟩ := open_int Try.underlying3 (hval 2 3 v2 rfl rfl) h2
  obtain ⟨a3, rfl, rfl, rfl, w3⟩ := open_int Try.underlying3 (hval 3 3 v3 rfl rfl) h3
  have hlt := hW'.lt
  clear hA0 hval0
  refine (walk v0 n0 a1 a2 a3 w1 w2 w3 W  D0).mono fun e W' ⟨he, hg⟩ => ?_
  subst he
  exact ⟨_, rfl, post_below (pv := []) hW' (fun _ _ _ => (trodAll_cons_mk (shut_bool Try.underlying4 _) trodAll_mk0)) (fun sp hsp => (trodAll_cons_mk (ops_stay h0 hg (fun x hx => hlt x (by simp [hx])) (fun x hx => hsp x (by simp [hx]))) (trodAll_cons_mk (shut_int Try.underlying3 w1) (trodAll_cons_mk (shut_int Try.underlying3 w2) (trodAll_cons_mk (shut_int Try.underlying3 w3) trodAll_mk0))))) (fun _ _ => rfl) (by simp) (hg.frame _)⟩

theorem over : Rows.tableBackRow.holds Try.pinned (OpenSpec.ofChange Rows.tableBackSpec) :=
  OpenClaim.holds_of_wide 4 Try.f4 rfl rfl rfl rfl rfl rfl rfl ⟨rfl, rfl, rfl, rfl, rfl⟩ rfl rfl rfl rfl rfl (by kernel_rfl) Try.func4 (by kernel_rfl)
    (of_decide_eq_true (by kernel_rfl)) (by unfold Func.isWrapper; first | (rw [if_pos (by decide +kernel)]; kernel_rfl) | (rw [if_neg (by decide +kernel)]; exact ⟨rfl, rfl⟩))
    (fun os started H enc _ => lifted os started H enc)

theorem proved : Rows.TableBackSaid :=
  over
#print axioms proved
end Go.Proofs.Ytojnkfdodjcnfab.tableBack
