/- TableTakes is proved: for every list of operations and keys the call returns true (what is taken out is gone, and is told as Peek told it; all other keys have what they had). -/
import Derived.Test.YtojnkfdodjcnfaaRows
import Derived.Test.YtojnkfdodjcnfaaKf
import Derived.Test.YtojnkfdodjcnfaaTl
import Derived.Test.YtojnkfdodjcnfaaArgOps
import Derived.Deep.DeepCutAuto
import Derived.Deep.RegionHeld3

namespace Go.Proofs.Ytojnkfdodjcnfaa.tableTakes
open Go.ChangeShapes Go.WideShapes Go.ChangeAt Go.RowKit
set_option linter.unusedVariables false

theorem own : ownKnob Try.prog.godebug = none := by kernel_rfl

set_option maxHeartbeats 4000000 in
theorem walk (v0 : Value) (n0 : Nat) (a1 a2 : Int) (w1 : (Lit.int .i64 a1).wf = true) (w2 : (Lit.int .i64 a2).wf = true) (w : World) (D0 : Ops w v0 n0) :
    Calls Try.prog 7 #[v0, .int .i64 a1, .int .i64 a2] w fun e w' => e = .returned (.bool true) ∧ Below w.heap.size w w' := by
  obtain ⟨na, ea, hd⟩ := slots_array
  have HD : Hid _ := hd
  clear hd
  have HS : Hid (∀ t : Tb, (Try.prog.info? 29).map (·.size) = some t.all.length) := slots_size
  have HZ : Hid (∀ t : Tb, (Try.prog.info? 29).map (·.size) = some t.all.toArray.size) := slots_size2
  have HT : Hid ((Try.prog.info? 27).map (·.size) = some 2) := slot_size
  have HA : Hid ((Try.prog.info? 37).map (·.size) = some 2) := answer_size
  obtain ⟨fs, ha⟩ := answer_struct
  have HDA : Hid _ := ha
  clear ha
  have EQ := slots_equal
  have FD0 := field0
  have FD1 := field1
  have g0 : Hid (Gd w.heap.size w w) := Gd.refl w
  have HD0 : Hid (Ops w v0 n0) := D0
  clear D0
  clear w1 w2
  obtain ⟨r1, hr1, pr1⟩ := pick_12 a1
  have Pr1 : Hid _ := pr1
  clear pr1
  obtain ⟨r2, hr2, pr2⟩ := pick_12 a2
  have Pr2 : Hid _ := pr2
  clear pr2
  obtain ⟨k, ek⟩ : ∃ k : Int, 1 + (r1 : Int) = k := ⟨_, rfl⟩
  have hk1 : 1 ≤ k := by omega
  have hk2 : k ≤ 12 := by omega
  obtain ⟨q, eq⟩ : ∃ q : Int, 1 + (r2 : Int) = q := ⟨_, rfl⟩
  have hq1 : 1 ≤ q := by omega
  have hq2 : q ≤ 12 := by omega
  go_enter Try.func7, Try.ntmps7
  go_wp2_with fail
  generalize w.heap.size = n at g0 ⊢
  refine (tabled_is _).mono ?_
  rintro e u216q ⟨rfl, hb⟩
  have h217q : Hid (Gd n w u216q) := g0.out.later hb
  clear g0
  clear hb
  go_wp2_with fail
  refine (filled_is (HD0.out.later h217q.out.2)).mono ?_
  rintro e u218q ⟨t, hR, rfl, hb⟩
  have h219q : Hid (Gd n w u218q) := h217q.out.later hb
  clear h217q
  clear hb
  have R : Hid (RT t) := hR
  clear hR HD0
  have l220q : n ≤ u218q.heap.size := h219q.out.le
  have h221q : Hid (Gd n w (u218q.alloc (.cells #[.int .i64 0, .int .i64 0, .int .i64 0, .int .i64 0, .int .i64 0, .int .i64 0, .int .i64 0, .int .i64 0, .int .i64 0, .int .i64 0, .int .i64 0, .int .i64 0, .int .i64 0, .int .i64 0, .int .i64 0, .int .i64 0] 29))) := h219q.out.new (.cells #[.int .i64 0, .int .i64 0, .int .i64 0, .int .i64 0, .int .i64 0, .int .i64 0, .int .i64 0, .int .i64 0, .int .i64 0, .int .i64 0, .int .i64 0, .int .i64 0, .int .i64 0, .int .i64 0, .int .i64 0, .int .i64 0] 29)
  clear h219q
  have h222q : Hid (TAt (u218q.alloc (.cells #[.int .i64 0, .int .i64 0, .int .i64 0, .int .i64 0, .int .i64 0, .int .i64 0, .int .i64 0, .int .i64 0, .int .i64 0, .int .i64 0, .int .i64 0, .int .i64 0, .int .i64 0, .int .i64 0, .int .i64 0, .int .i64 0] 29)) u218q.heap.size Tb.zero) := TAt.bornZero u218q 29 (by simp)
  obtain ⟨⟨kc, ky⟩, hLK⟩ : ∃ r, look t k = r := ⟨_, rfl⟩
  have PK := peek_is t k (by omega) (by omega)
  rw [hLK] at PK
  dsimp only at PK
  have LK : Hid (look t k = (kc, ky)) := hLK
  clear hLK
  obtain ⟨⟨xc, xy⟩, hLQ⟩ : ∃ r, look t q = r := ⟨_, rfl⟩
  have PQ := peek_is t q (by omega) (by omega)
  rw [hLQ] at PQ
  dsimp only at PQ
  have LQ : Hid (look t q = (xc, xy)) := hLQ
  clear hLQ
  go_wp2_with (first
    | (refine wpList_store_mid rfl 29 _ _ rfl u218q.heap.size _ t.all.toArray rfl rfl (h222q.out.thereOf t) (HZ.out t) (t.all_all) ?_
       have h223q : Hid (Gd n w ((u218q.alloc (.cells #[.int .i64 0, .int .i64 0, .int .i64 0, .int .i64 0, .int .i64 0, .int .i64 0, .int .i64 0, .int .i64 0, .int .i64 0, .int .i64 0, .int .i64 0, .int .i64 0, .int .i64 0, .int .i64 0, .int .i64 0, .int .i64 0] 29)).setCells u218q.heap.size 0 t.all)) := h221q.out.asideAll (by omega) t
       have h224q : Hid (TAt ((u218q.alloc (.cells #[.int .i64 0, .int .i64 0, .int .i64 0, .int .i64 0, .int .i64 0, .int .i64 0, .int .i64 0, .int .i64 0, .int .i64 0, .int .i64 0, .int .i64 0, .int .i64 0, .int .i64 0, .int .i64 0, .int .i64 0, .int .i64 0] 29)).setCells u218q.heap.size 0 t.all) u218q.heap.size t) := h222q.out.setAll t
       clear h221q h222q
       generalize ((u218q.alloc (.cells #[.int .i64 0, .int .i64 0, .int .i64 0, .int .i64 0, .int .i64 0, .int .i64 0, .int .i64 0, .int .i64 0, .int .i64 0, .int .i64 0, .int .i64 0, .int .i64 0, .int .i64 0, .int .i64 0, .int .i64 0, .int .i64 0] 29)).setCells u218q.heap.size 0 t.all) = u225q at h223q h224q  ⊢))
  refine (Pr1.out _).mono ?_
  rintro e u226q ⟨rfl, hw⟩
  rw [hw]; clear hw u226q
  go_wp2_with fail
  refine (Pr2.out _).mono ?_
  rintro e u227q ⟨rfl, hw⟩
  rw [hw]; clear hw u227q
  go_wp2_with fail
  clear ek eq hr1 hr2 Pr1 Pr2
  obtain ⟨u, hu, hRU, hg, ho, -⟩ := takes R.out (k := k) (x := 0) hk1 (by omega)
  rw [LK.out] at hu
  have DO := tDo_eq t 2 k 0
  rw [show tdo t 2 k 0 = (u, kc, ky) from hu] at DO
  unfold Told at DO
  dsimp only at DO
  have RU : Hid (RT u) := hRU
  have HG : Hid (look u k = (4, 0)) := hg
  have HO : Hid (∀ j, j ≠ 0 → j ≠ k → look u j = look t j) := ho
  clear hu hRU hg ho
  go_cut [8, 9] (fun s8 s9 wx => ∃ b_a b_b : Nat, s8 = .pointer (some ⟨b_a, 0, none⟩) ∧ s9 = .pointer (some ⟨b_b, 0, none⟩) ∧ Hid (Gd n w wx) ∧ Hid (TAt wx u218q.heap.size t) ∧ Hid (Bo wx b_a [.int .i64 (kc), .int .i64 (ky)]) ∧ Hid (Bo wx b_b [.int .i64 (xc), .int .i64 (xy)]))
  case first =>
    have h228q : Hid (Gd n w u225q.drew) := h223q.out.drew
    have h229q : Hid (TAt u225q.drew u218q.heap.size t) := h224q.out.drew
    clear h223q h224q
    refine wp_region_held_drew (S := fun w' => TAt w' u218q.heap.size t) (by kernel_rfl) h229q.out (fun hH => ?_)
    generalize u225q.drew = u230q at h228q h229q hH ⊢
    refine wpAnyH_take (i := 0) (oi := { dst := some 22, op := .load _ (.tmp 7), type := _, pos := _, after := _, guard := _ }) (v := _) rfl (by kernel_rfl) (by kernel_rfl) (by kernel_rfl) (fun _ _ _ h => h) (yieldsIf_load_mid (by rfl) _ _ rfl u218q.heap.size _ rfl t.all _ (fun _ h => (h).range) HD.out rfl (HS.out t)) hH ?_
    simp only [Act.put, List.setIfInBounds_toArray, List.set_cons_zero, List.set_cons_succ]
    refine wpAnyH_take (i := 1) (oi := { dst := some 23, op := .move (.tmp 1), type := _, pos := _, after := _, guard := _ }) (v := ?_) rfl (by kernel_rfl) (by kernel_rfl) (by kernel_rfl) (fun _ _ _ h => h) (Or.inl ⟨by rfl, ?_⟩) hH ?_
    rotate_left
    · intro w hSw
      clear hSw
      go_simp
      try with_reducible rfl
    simp only [Act.put, List.setIfInBounds_toArray, List.set_cons_zero, List.set_cons_succ]
    refine wpAnyH_take (i := 3) (oi := { dst := some 25, op := .load _ (.tmp 7), type := _, pos := _, after := _, guard := _ }) (v := _) rfl (by kernel_rfl) (by kernel_rfl) (by kernel_rfl) (fun _ _ _ h => h) (yieldsIf_load_mid (by rfl) _ _ rfl u218q.heap.size _ rfl t.all _ (fun _ h => (h).range) HD.out rfl (HS.out t)) hH ?_
    simp only [Act.put, List.setIfInBounds_toArray, List.set_cons_zero, List.set_cons_succ]
    refine wpAnyH_take (i := 4) (oi := { dst := some 26, op := .move (.tmp 2), type := _, pos := _, after := _, guard := _ }) (v := ?_) rfl (by kernel_rfl) (by kernel_rfl) (by kernel_rfl) (fun _ _ _ h => h) (Or.inl ⟨by rfl, ?_⟩) hH ?_
    rotate_left
    · intro w hSw
      clear hSw
      go_simp
      try with_reducible rfl
    simp only [Act.put, List.setIfInBounds_toArray, List.set_cons_zero, List.set_cons_succ]
    refine wpAnyH_ready (rs := [2, 6, 7]) (by kernel_rfl) (by simp) ?_
    refine AllReadyH.cons (o := { dst := some 24, op := _, type := _, pos := _, after := _, guard := _ }) rfl (fun K hK => ?_) ?_
    · go_simp
      refine (PK _).mono ?_
      rintro e u231q ⟨rfl, hb⟩
      have h232q : Hid (Gd n w u231q) := h228q.out.later hb
      have h233q : Hid (TAt u231q u218q.heap.size t) := h229q.out.later hb
      clear h228q h229q
      clear hb
      go_wp2_with fail
      refine hK.out _ _ h233q.out (fun hH => ?_)
      clear hK K
      try simp only [Act.put, List.setIfInBounds_toArray, List.set_cons_zero, List.set_cons_succ]
      refine wpAnyH_ready (rs := [5, 6, 7]) (by kernel_rfl) (by simp) ?_
      refine AllReadyH.cons (o := { dst := some 27, op := _, type := _, pos := _, after := _, guard := _ }) rfl (fun K hK => ?_) ?_
      · go_simp
        refine (PQ _).mono ?_
        rintro e u234q ⟨rfl, hb⟩
        have h235q : Hid (Gd n w u234q) := h232q.out.later hb
        have h236q : Hid (TAt u234q u218q.heap.size t) := h233q.out.later hb
        clear h232q h233q
        clear hb
        go_wp2_with fail
        refine hK.out _ _ h236q.out (fun hH => ?_)
        clear hK K
        try simp only [Act.put, List.setIfInBounds_toArray, List.set_cons_zero, List.set_cons_succ]
        refine wpAnyH_ready (rs := [6, 7]) (by kernel_rfl) (by simp) ?_
        refine AllReadyH.cons (o := { dst := some 8, op := .alloc _, type := _, pos := _, after := _, guard := _ }) rfl (fun K hK => ?_) ?_
        · have l237q : n ≤ u234q.heap.size := h235q.out.le
          have l238q : u218q.heap.size < u234q.heap.size := h236q.out.lt
          go_simp
          have h239q : Hid (Gd n w (u234q.alloc (.cells #[.int .i64 0, .int .i64 0] 37))) := h235q.out.new (.cells #[.int .i64 0, .int .i64 0] 37)
          have h240q : Hid (TAt (u234q.alloc (.cells #[.int .i64 0, .int .i64 0] 37)) u218q.heap.size t) := h236q.out.new (.cells #[.int .i64 0, .int .i64 0] 37)
          clear h235q h236q
          have h241q : Hid (Bo (u234q.alloc (.cells #[.int .i64 0, .int .i64 0] 37)) u234q.heap.size [.int .i64 0, .int .i64 0]) := Bo.born u234q [.int .i64 0, .int .i64 0] 37 (by simp)
          refine hK.out _ _ h240q.out (fun hH => ?_)
          clear hK K
          generalize (u234q.alloc (.cells #[.int .i64 0, .int .i64 0] 37)) = u242q at h239q h240q h241q hH ⊢
          try simp only [Act.put, List.setIfInBounds_toArray, List.set_cons_zero, List.set_cons_succ]
          refine wpAnyH_ready (rs := [7]) (by kernel_rfl) (by simp) ?_
          refine AllReadyH.cons (o := { dst := some 9, op := .alloc _, type := _, pos := _, after := _, guard := _ }) rfl (fun K hK => ?_) AllReadyH.nil
          have l243q : n ≤ u242q.heap.size := h239q.out.le
          have l244q : u218q.heap.size < u242q.heap.size := h240q.out.lt
          have l245q : u234q.heap.size < u242q.heap.size := h241q.out.lt
          go_simp
          have h246q : Hid (Gd n w (u242q.alloc (.cells #[.int .i64 0, .int .i64 0] 37))) := h239q.out.new (.cells #[.int .i64 0, .int .i64 0] 37)
          have h247q : Hid (TAt (u242q.alloc (.cells #[.int .i64 0, .int .i64 0] 37)) u218q.heap.size t) := h240q.out.new (.cells #[.int .i64 0, .int .i64 0] 37)
          have h248q : Hid (Bo (u242q.alloc (.cells #[.int .i64 0, .int .i64 0] 37)) u234q.heap.size [.int .i64 0, .int .i64 0]) := h241q.out.new (.cells #[.int .i64 0, .int .i64 0] 37)
          clear h239q h240q h241q
          have h249q : Hid (Bo (u242q.alloc (.cells #[.int .i64 0, .int .i64 0] 37)) u242q.heap.size [.int .i64 0, .int .i64 0]) := Bo.born u242q [.int .i64 0, .int .i64 0] 37 (by simp)
          refine hK.out _ _ h247q.out (fun hH => ?_)
          clear hK K
          generalize (u242q.alloc (.cells #[.int .i64 0, .int .i64 0] 37)) = u250q at h246q h247q h248q h249q hH ⊢
          try simp only [Act.put, List.setIfInBounds_toArray, List.set_cons_zero, List.set_cons_succ]
          refine wpAnyH_ready (rs := [8]) (by kernel_rfl) (by simp) ?_
          refine AllReadyH.cons (o := { dst := none, op := .store _ (.tmp 8) (.tmp 24), type := _, pos := _, after := _, guard := _ }) rfl (fun K hK => ?_) AllReadyH.nil
          rw [if_pos (by rfl)]
          refine wp_store_mid _ _ _ rfl u234q.heap.size _ #[.int .i64 (kc), .int .i64 (ky)] rfl rfl h248q.out.there2 HA.out (two_one _ _) ?_
          simp only [Act.put]
          have h251q : Hid (Gd n w (u250q.setCells u234q.heap.size 0 [.int .i64 (kc), .int .i64 (ky)])) := h246q.out.asideL (by omega) 0 [.int .i64 (kc), .int .i64 (ky)]
          have h252q : Hid (TAt (u250q.setCells u234q.heap.size 0 [.int .i64 (kc), .int .i64 (ky)]) u218q.heap.size t) := h247q.out.asideL (by omega) 0 [.int .i64 (kc), .int .i64 (ky)]
          have h253q : Hid (Bo (u250q.setCells u234q.heap.size 0 [.int .i64 (kc), .int .i64 (ky)]) u234q.heap.size [.int .i64 (kc), .int .i64 (ky)]) := h248q.out.set2 (.int .i64 (kc)) (.int .i64 (ky))
          have h254q : Hid (Bo (u250q.setCells u234q.heap.size 0 [.int .i64 (kc), .int .i64 (ky)]) u242q.heap.size [.int .i64 0, .int .i64 0]) := h249q.out.asideL (by omega) 0 [.int .i64 (kc), .int .i64 (ky)]
          clear h246q h247q h248q h249q
          refine hK.out _ _ h252q.out (fun hH => ?_)
          clear hK K
          generalize (u250q.setCells u234q.heap.size 0 [.int .i64 (kc), .int .i64 (ky)]) = u255q at h251q h252q h253q h254q hH ⊢
          try simp only [Act.put, List.setIfInBounds_toArray, List.set_cons_zero, List.set_cons_succ]
          refine wpAnyH_ready (rs := [9]) (by kernel_rfl) (by simp) ?_
          refine AllReadyH.cons (o := { dst := none, op := .store _ (.tmp 9) (.tmp 27), type := _, pos := _, after := _, guard := _ }) rfl (fun K hK => ?_) AllReadyH.nil
          rw [if_pos (by rfl)]
          refine wp_store_mid _ _ _ rfl u242q.heap.size _ #[.int .i64 (xc), .int .i64 (xy)] rfl rfl h254q.out.there2 HA.out (two_one _ _) ?_
          simp only [Act.put]
          have h256q : Hid (Gd n w (u255q.setCells u242q.heap.size 0 [.int .i64 (xc), .int .i64 (xy)])) := h251q.out.asideL (by omega) 0 [.int .i64 (xc), .int .i64 (xy)]
          have h257q : Hid (TAt (u255q.setCells u242q.heap.size 0 [.int .i64 (xc), .int .i64 (xy)]) u218q.heap.size t) := h252q.out.asideL (by omega) 0 [.int .i64 (xc), .int .i64 (xy)]
          have h258q : Hid (Bo (u255q.setCells u242q.heap.size 0 [.int .i64 (xc), .int .i64 (xy)]) u234q.heap.size [.int .i64 (kc), .int .i64 (ky)]) := h253q.out.asideL (by omega) 0 [.int .i64 (xc), .int .i64 (xy)]
          have h259q : Hid (Bo (u255q.setCells u242q.heap.size 0 [.int .i64 (xc), .int .i64 (xy)]) u242q.heap.size [.int .i64 (xc), .int .i64 (xy)]) := h254q.out.set2 (.int .i64 (xc)) (.int .i64 (xy))
          clear h251q h252q h253q h254q
          refine hK.out _ _ h257q.out (fun hH => ?_)
          clear hK K
          generalize (u255q.setCells u242q.heap.size 0 [.int .i64 (xc), .int .i64 (xy)]) = u260q at h256q h257q h258q h259q hH ⊢
          try simp only [Act.put, List.setIfInBounds_toArray, List.set_cons_zero, List.set_cons_succ]
          refine wpAnyH_done (by kernel_rfl) ?_ _
          go_wp2_with fail
          go_meet
          case rel => exact ⟨u234q.heap.size, u242q.heap.size, rfl, rfl, h256q, h257q, h258q, h259q⟩
        refine AllReadyH.cons (o := { dst := some 9, op := .alloc _, type := _, pos := _, after := _, guard := _ }) rfl (fun K hK => ?_) AllReadyH.nil
        have l261q : n ≤ u234q.heap.size := h235q.out.le
        have l262q : u218q.heap.size < u234q.heap.size := h236q.out.lt
        go_simp
        have h263q : Hid (Gd n w (u234q.alloc (.cells #[.int .i64 0, .int .i64 0] 37))) := h235q.out.new (.cells #[.int .i64 0, .int .i64 0] 37)
        have h264q : Hid (TAt (u234q.alloc (.cells #[.int .i64 0, .int .i64 0] 37)) u218q.heap.size t) := h236q.out.new (.cells #[.int .i64 0, .int .i64 0] 37)
        clear h235q h236q
        have h265q : Hid (Bo (u234q.alloc (.cells #[.int .i64 0, .int .i64 0] 37)) u234q.heap.size [.int .i64 0, .int .i64 0]) := Bo.born u234q [.int .i64 0, .int .i64 0] 37 (by simp)
        refine hK.out _ _ h264q.out (fun hH => ?_)
        clear hK K
        generalize (u234q.alloc (.cells #[.int .i64 0, .int .i64 0] 37)) = u266q at h263q h264q h265q hH ⊢
        try simp only [Act.put, List.setIfInBounds_toArray, List.set_cons_zero, List.set_cons_succ]
        refine wpAnyH_ready (rs := [6]) (by kernel_rfl) (by simp) ?_
        refine AllReadyH.cons (o := { dst := some 8, op := .alloc _, type := _, pos := _, after := _, guard := _ }) rfl (fun K hK => ?_) AllReadyH.nil
        have l267q : n ≤ u266q.heap.size := h263q.out.le
        have l268q : u218q.heap.size < u266q.heap.size := h264q.out.lt
        have l269q : u234q.heap.size < u266q.heap.size := h265q.out.lt
        go_simp
        have h270q : Hid (Gd n w (u266q.alloc (.cells #[.int .i64 0, .int .i64 0] 37))) := h263q.out.new (.cells #[.int .i64 0, .int .i64 0] 37)
        have h271q : Hid (TAt (u266q.alloc (.cells #[.int .i64 0, .int .i64 0] 37)) u218q.heap.size t) := h264q.out.new (.cells #[.int .i64 0, .int .i64 0] 37)
        have h272q : Hid (Bo (u266q.alloc (.cells #[.int .i64 0, .int .i64 0] 37)) u234q.heap.size [.int .i64 0, .int .i64 0]) := h265q.out.new (.cells #[.int .i64 0, .int .i64 0] 37)
        clear h263q h264q h265q
        have h273q : Hid (Bo (u266q.alloc (.cells #[.int .i64 0, .int .i64 0] 37)) u266q.heap.size [.int .i64 0, .int .i64 0]) := Bo.born u266q [.int .i64 0, .int .i64 0] 37 (by simp)
        refine hK.out _ _ h271q.out (fun hH => ?_)
        clear hK K
        generalize (u266q.alloc (.cells #[.int .i64 0, .int .i64 0] 37)) = u274q at h270q h271q h272q h273q hH ⊢
        try simp only [Act.put, List.setIfInBounds_toArray, List.set_cons_zero, List.set_cons_succ]
        refine wpAnyH_ready (rs := [8]) (by kernel_rfl) (by simp) ?_
        refine AllReadyH.cons (o := { dst := none, op := .store _ (.tmp 8) (.tmp 24), type := _, pos := _, after := _, guard := _ }) rfl (fun K hK => ?_) AllReadyH.nil
        rw [if_pos (by rfl)]
        refine wp_store_mid _ _ _ rfl u266q.heap.size _ #[.int .i64 (kc), .int .i64 (ky)] rfl rfl h273q.out.there2 HA.out (two_one _ _) ?_
        simp only [Act.put]
        have h275q : Hid (Gd n w (u274q.setCells u266q.heap.size 0 [.int .i64 (kc), .int .i64 (ky)])) := h270q.out.asideL (by omega) 0 [.int .i64 (kc), .int .i64 (ky)]
        have h276q : Hid (TAt (u274q.setCells u266q.heap.size 0 [.int .i64 (kc), .int .i64 (ky)]) u218q.heap.size t) := h271q.out.asideL (by omega) 0 [.int .i64 (kc), .int .i64 (ky)]
        have h277q : Hid (Bo (u274q.setCells u266q.heap.size 0 [.int .i64 (kc), .int .i64 (ky)]) u234q.heap.size [.int .i64 0, .int .i64 0]) := h272q.out.asideL (by omega) 0 [.int .i64 (kc), .int .i64 (ky)]
        have h278q : Hid (Bo (u274q.setCells u266q.heap.size 0 [.int .i64 (kc), .int .i64 (ky)]) u266q.heap.size [.int .i64 (kc), .int .i64 (ky)]) := h273q.out.set2 (.int .i64 (kc)) (.int .i64 (ky))
        clear h270q h271q h272q h273q
        refine hK.out _ _ h276q.out (fun hH => ?_)
        clear hK K
        generalize (u274q.setCells u266q.heap.size 0 [.int .i64 (kc), .int .i64 (ky)]) = u279q at h275q h276q h277q h278q hH ⊢
        try simp only [Act.put, List.setIfInBounds_toArray, List.set_cons_zero, List.set_cons_succ]
        refine wpAnyH_ready (rs := [9]) (by kernel_rfl) (by simp) ?_
        refine AllReadyH.cons (o := { dst := none, op := .store _ (.tmp 9) (.tmp 27), type := _, pos := _, after := _, guard := _ }) rfl (fun K hK => ?_) AllReadyH.nil
        rw [if_pos (by rfl)]
        refine wp_store_mid _ _ _ rfl u234q.heap.size _ #[.int .i64 (xc), .int .i64 (xy)] rfl rfl h277q.out.there2 HA.out (two_one _ _) ?_
        simp only [Act.put]
        have h280q : Hid (Gd n w (u279q.setCells u234q.heap.size 0 [.int .i64 (xc), .int .i64 (xy)])) := h275q.out.asideL (by omega) 0 [.int .i64 (xc), .int .i64 (xy)]
        have h281q : Hid (TAt (u279q.setCells u234q.heap.size 0 [.int .i64 (xc), .int .i64 (xy)]) u218q.heap.size t) := h276q.out.asideL (by omega) 0 [.int .i64 (xc), .int .i64 (xy)]
        have h282q : Hid (Bo (u279q.setCells u234q.heap.size 0 [.int .i64 (xc), .int .i64 (xy)]) u234q.heap.size [.int .i64 (xc), .int .i64 (xy)]) := h277q.out.set2 (.int .i64 (xc)) (.int .i64 (xy))
        have h283q : Hid (Bo (u279q.setCells u234q.heap.size 0 [.int .i64 (xc), .int .i64 (xy)]) u266q.heap.size [.int .i64 (kc), .int .i64 (ky)]) := h278q.out.asideL (by omega) 0 [.int .i64 (xc), .int .i64 (xy)]
        clear h275q h276q h277q h278q
        refine hK.out _ _ h281q.out (fun hH => ?_)
        clear hK K
        generalize (u279q.setCells u234q.heap.size 0 [.int .i64 (xc), .int .i64 (xy)]) = u284q at h280q h281q h282q h283q hH ⊢
        try simp only [Act.put, List.setIfInBounds_toArray, List.set_cons_zero, List.set_cons_succ]
        refine wpAnyH_done (by kernel_rfl) ?_ _
        go_wp2_with fail
        go_meet
        case rel => exact ⟨u266q.heap.size, u234q.heap.size, rfl, rfl, h280q, h281q, h283q, h282q⟩
      refine AllReadyH.cons (o := { dst := some 8, op := .alloc _, type := _, pos := _, after := _, guard := _ }) rfl (fun K hK => ?_) ?_
      · have l285q : n ≤ u231q.heap.size := h232q.out.le
        have l286q : u218q.heap.size < u231q.heap.size := h233q.out.lt
        go_simp
        have h287q : Hid (Gd n w (u231q.alloc (.cells #[.int .i64 0, .int .i64 0] 37))) := h232q.out.new (.cells #[.int .i64 0, .int .i64 0] 37)
        have h288q : Hid (TAt (u231q.alloc (.cells #[.int .i64 0, .int .i64 0] 37)) u218q.heap.size t) := h233q.out.new (.cells #[.int .i64 0, .int .i64 0] 37)
        clear h232q h233q
        have h289q : Hid (Bo (u231q.alloc (.cells #[.int .i64 0, .int .i64 0] 37)) u231q.heap.size [.int .i64 0, .int .i64 0]) := Bo.born u231q [.int .i64 0, .int .i64 0] 37 (by simp)
        refine hK.out _ _ h288q.out (fun hH => ?_)
        clear hK K
        generalize (u231q.alloc (.cells #[.int .i64 0, .int .i64 0] 37)) = u290q at h287q h288q h289q hH ⊢
        try simp only [Act.put, List.setIfInBounds_toArray, List.set_cons_zero, List.set_cons_succ]
        refine wpAnyH_ready (rs := [5, 7]) (by kernel_rfl) (by simp) ?_
        refine AllReadyH.cons (o := { dst := some 27, op := _, type := _, pos := _, after := _, guard := _ }) rfl (fun K hK => ?_) ?_
        · go_simp
          refine (PQ _).mono ?_
          rintro e u291q ⟨rfl, hb⟩
          have h292q : Hid (Gd n w u291q) := h287q.out.later hb
          have h293q : Hid (TAt u291q u218q.heap.size t) := h288q.out.later hb
          have h294q : Hid (Bo u291q u231q.heap.size [.int .i64 0, .int .i64 0]) := h289q.out.later hb
          clear h287q h288q h289q
          clear hb
          go_wp2_with fail
          refine hK.out _ _ h293q.out (fun hH => ?_)
          clear hK K
          try simp only [Act.put, List.setIfInBounds_toArray, List.set_cons_zero, List.set_cons_succ]
          refine wpAnyH_ready (rs := [7]) (by kernel_rfl) (by simp) ?_
          refine AllReadyH.cons (o := { dst := some 9, op := .alloc _, type := _, pos := _, after := _, guard := _ }) rfl (fun K hK => ?_) AllReadyH.nil
          have l295q : n ≤ u291q.heap.size := h292q.out.le
          have l296q : u218q.heap.size < u291q.heap.size := h293q.out.lt
          have l297q : u231q.heap.size < u291q.heap.size := h294q.out.lt
          go_simp
          have h298q : Hid (Gd n w (u291q.alloc (.cells #[.int .i64 0, .int .i64 0] 37))) := h292q.out.new (.cells #[.int .i64 0, .int .i64 0] 37)
          have h299q : Hid (TAt (u291q.alloc (.cells #[.int .i64 0, .int .i64 0] 37)) u218q.heap.size t) := h293q.out.new (.cells #[.int .i64 0, .int .i64 0] 37)
          have h300q : Hid (Bo (u291q.alloc (.cells #[.int .i64 0, .int .i64 0] 37)) u231q.heap.size [.int .i64 0, .int .i64 0]) := h294q.out.new (.cells #[.int .i64 0, .int .i64 0] 37)
          clear h292q h293q h294q
          have h301q : Hid (Bo (u291q.alloc (.cells #[.int .i64 0, .int .i64 0] 37)) u291q.heap.size [.int .i64 0, .int .i64 0]) := Bo.born u291q [.int .i64 0, .int .i64 0] 37 (by simp)
          refine hK.out _ _ h299q.out (fun hH => ?_)
          clear hK K
          generalize (u291q.alloc (.cells #[.int .i64 0, .int .i64 0] 37)) = u302q at h298q h299q h300q h301q hH ⊢
          try simp only [Act.put, List.setIfInBounds_toArray, List.set_cons_zero, List.set_cons_succ]
          refine wpAnyH_ready (rs := [8]) (by kernel_rfl) (by simp) ?_
          refine AllReadyH.cons (o := { dst := none, op := .store _ (.tmp 8) (.tmp 24), type := _, pos := _, after := _, guard := _ }) rfl (fun K hK => ?_) AllReadyH.nil
          rw [if_pos (by rfl)]
          refine wp_store_mid _ _ _ rfl u231q.heap.size _ #[.int .i64 (kc), .int .i64 (ky)] rfl rfl h300q.out.there2 HA.out (two_one _ _) ?_
          simp only [Act.put]
          have h303q : Hid (Gd n w (u302q.setCells u231q.heap.size 0 [.int .i64 (kc), .int .i64 (ky)])) := h298q.out.asideL (by omega) 0 [.int .i64 (kc), .int .i64 (ky)]
          have h304q : Hid (TAt (u302q.setCells u231q.heap.size 0 [.int .i64 (kc), .int .i64 (ky)]) u218q.heap.size t) := h299q.out.asideL (by omega) 0 [.int .i64 (kc), .int .i64 (ky)]
          have h305q : Hid (Bo (u302q.setCells u231q.heap.size 0 [.int .i64 (kc), .int .i64 (ky)]) u231q.heap.size [.int .i64 (kc), .int .i64 (ky)]) := h300q.out.set2 (.int .i64 (kc)) (.int .i64 (ky))
          have h306q : Hid (Bo (u302q.setCells u231q.heap.size 0 [.int .i64 (kc), .int .i64 (ky)]) u291q.heap.size [.int .i64 0, .int .i64 0]) := h301q.out.asideL (by omega) 0 [.int .i64 (kc), .int .i64 (ky)]
          clear h298q h299q h300q h301q
          refine hK.out _ _ h304q.out (fun hH => ?_)
          clear hK K
          generalize (u302q.setCells u231q.heap.size 0 [.int .i64 (kc), .int .i64 (ky)]) = u307q at h303q h304q h305q h306q hH ⊢
          try simp only [Act.put, List.setIfInBounds_toArray, List.set_cons_zero, List.set_cons_succ]
          refine wpAnyH_ready (rs := [9]) (by kernel_rfl) (by simp) ?_
          refine AllReadyH.cons (o := { dst := none, op := .store _ (.tmp 9) (.tmp 27), type := _, pos := _, after := _, guard := _ }) rfl (fun K hK => ?_) AllReadyH.nil
          rw [if_pos (by rfl)]
          refine wp_store_mid _ _ _ rfl u291q.heap.size _ #[.int .i64 (xc), .int .i64 (xy)] rfl rfl h306q.out.there2 HA.out (two_one _ _) ?_
          simp only [Act.put]
          have h308q : Hid (Gd n w (u307q.setCells u291q.heap.size 0 [.int .i64 (xc), .int .i64 (xy)])) := h303q.out.asideL (by omega) 0 [.int .i64 (xc), .int .i64 (xy)]
          have h309q : Hid (TAt (u307q.setCells u291q.heap.size 0 [.int .i64 (xc), .int .i64 (xy)]) u218q.heap.size t) := h304q.out.asideL (by omega) 0 [.int .i64 (xc), .int .i64 (xy)]
          have h310q : Hid (Bo (u307q.setCells u291q.heap.size 0 [.int .i64 (xc), .int .i64 (xy)]) u231q.heap.size [.int .i64 (kc), .int .i64 (ky)]) := h305q.out.asideL (by omega) 0 [.int .i64 (xc), .int .i64 (xy)]
          have h311q : Hid (Bo (u307q.setCells u291q.heap.size 0 [.int .i64 (xc), .int .i64 (xy)]) u291q.heap.size [.int .i64 (xc), .int .i64 (xy)]) := h306q.out.set2 (.int .i64 (xc)) (.int .i64 (xy))
          clear h303q h304q h305q h306q
          refine hK.out _ _ h309q.out (fun hH => ?_)
          clear hK K
          generalize (u307q.setCells u291q.heap.size 0 [.int .i64 (xc), .int .i64 (xy)]) = u312q at h308q h309q h310q h311q hH ⊢
          try simp only [Act.put, List.setIfInBounds_toArray, List.set_cons_zero, List.set_cons_succ]
          refine wpAnyH_done (by kernel_rfl) ?_ _
          go_wp2_with fail
          go_meet
          case rel => exact ⟨u231q.heap.size, u291q.heap.size, rfl, rfl, h308q, h309q, h310q, h311q⟩
        refine AllReadyH.cons (o := { dst := some 9, op := .alloc _, type := _, pos := _, after := _, guard := _ }) rfl (fun K hK => ?_) AllReadyH.nil
        have l313q : n ≤ u290q.heap.size := h287q.out.le
        have l314q : u218q.heap.size < u290q.heap.size := h288q.out.lt
        have l315q : u231q.heap.size < u290q.heap.size := h289q.out.lt
        go_simp
        have h316q : Hid (Gd n w (u290q.alloc (.cells #[.int .i64 0, .int .i64 0] 37))) := h287q.out.new (.cells #[.int .i64 0, .int .i64 0] 37)
        have h317q : Hid (TAt (u290q.alloc (.cells #[.int .i64 0, .int .i64 0] 37)) u218q.heap.size t) := h288q.out.new (.cells #[.int .i64 0, .int .i64 0] 37)
        have h318q : Hid (Bo (u290q.alloc (.cells #[.int .i64 0, .int .i64 0] 37)) u231q.heap.size [.int .i64 0, .int .i64 0]) := h289q.out.new (.cells #[.int .i64 0, .int .i64 0] 37)
        clear h287q h288q h289q
        have h319q : Hid (Bo (u290q.alloc (.cells #[.int .i64 0, .int .i64 0] 37)) u290q.heap.size [.int .i64 0, .int .i64 0]) := Bo.born u290q [.int .i64 0, .int .i64 0] 37 (by simp)
        refine hK.out _ _ h317q.out (fun hH => ?_)
        clear hK K
        generalize (u290q.alloc (.cells #[.int .i64 0, .int .i64 0] 37)) = u320q at h316q h317q h318q h319q hH ⊢
        try simp only [Act.put, List.setIfInBounds_toArray, List.set_cons_zero, List.set_cons_succ]
        refine wpAnyH_ready (rs := [5]) (by kernel_rfl) (by simp) ?_
        refine AllReadyH.cons (o := { dst := some 27, op := _, type := _, pos := _, after := _, guard := _ }) rfl (fun K hK => ?_) AllReadyH.nil
        go_simp
        refine (PQ _).mono ?_
        rintro e u321q ⟨rfl, hb⟩
        have h322q : Hid (Gd n w u321q) := h316q.out.later hb
        have h323q : Hid (TAt u321q u218q.heap.size t) := h317q.out.later hb
        have h324q : Hid (Bo u321q u231q.heap.size [.int .i64 0, .int .i64 0]) := h318q.out.later hb
        have h325q : Hid (Bo u321q u290q.heap.size [.int .i64 0, .int .i64 0]) := h319q.out.later hb
        clear h316q h317q h318q h319q
        clear hb
        go_wp2_with fail
        refine hK.out _ _ h323q.out (fun hH => ?_)
        clear hK K
        try simp only [Act.put, List.setIfInBounds_toArray, List.set_cons_zero, List.set_cons_succ]
        refine wpAnyH_ready (rs := [8]) (by kernel_rfl) (by simp) ?_
        refine AllReadyH.cons (o := { dst := none, op := .store _ (.tmp 8) (.tmp 24), type := _, pos := _, after := _, guard := _ }) rfl (fun K hK => ?_) AllReadyH.nil
        rw [if_pos (by rfl)]
        refine wp_store_mid _ _ _ rfl u231q.heap.size _ #[.int .i64 (kc), .int .i64 (ky)] rfl rfl h324q.out.there2 HA.out (two_one _ _) ?_
        simp only [Act.put]
        have h326q : Hid (Gd n w (u321q.setCells u231q.heap.size 0 [.int .i64 (kc), .int .i64 (ky)])) := h322q.out.asideL (by omega) 0 [.int .i64 (kc), .int .i64 (ky)]
        have h327q : Hid (TAt (u321q.setCells u231q.heap.size 0 [.int .i64 (kc), .int .i64 (ky)]) u218q.heap.size t) := h323q.out.asideL (by omega) 0 [.int .i64 (kc), .int .i64 (ky)]
        have h328q : Hid (Bo (u321q.setCells u231q.heap.size 0 [.int .i64 (kc), .int .i64 (ky)]) u231q.heap.size [.int .i64 (kc), .int .i64 (ky)]) := h324q.out.set2 (.int .i64 (kc)) (.int .i64 (ky))
        have h329q : Hid (Bo (u321q.setCells u231q.heap.size 0 [.int .i64 (kc), .int .i64 (ky)]) u290q.heap.size [.int .i64 0, .int .i64 0]) := h325q.out.asideL (by omega) 0 [.int .i64 (kc), .int .i64 (ky)]
        clear h322q h323q h324q h325q
        refine hK.out _ _ h327q.out (fun hH => ?_)
        clear hK K
        generalize (u321q.setCells u231q.heap.size 0 [.int .i64 (kc), .int .i64 (ky)]) = u330q at h326q h327q h328q h329q hH ⊢
        try simp only [Act.put, List.setIfInBounds_toArray, List.set_cons_zero, List.set_cons_succ]
        refine wpAnyH_ready (rs := [9]) (by kernel_rfl) (by simp) ?_
        refine AllReadyH.cons (o := { dst := none, op := .store _ (.tmp 9) (.tmp 27), type := _, pos := _, after := _, guard := _ }) rfl (fun K hK => ?_) AllReadyH.nil
        rw [if_pos (by rfl)]
        refine wp_store_mid _ _ _ rfl u290q.heap.size _ #[.int .i64 (xc), .int .i64 (xy)] rfl rfl h329q.out.there2 HA.out (two_one _ _) ?_
        simp only [Act.put]
        have h331q : Hid (Gd n w (u330q.setCells u290q.heap.size 0 [.int .i64 (xc), .int .i64 (xy)])) := h326q.out.asideL (by omega) 0 [.int .i64 (xc), .int .i64 (xy)]
        have h332q : Hid (TAt (u330q.setCells u290q.heap.size 0 [.int .i64 (xc), .int .i64 (xy)]) u218q.heap.size t) := h327q.out.asideL (by omega) 0 [.int .i64 (xc), .int .i64 (xy)]
        have h333q : Hid (Bo (u330q.setCells u290q.heap.size 0 [.int .i64 (xc), .int .i64 (xy)]) u231q.heap.size [.int .i64 (kc), .int .i64 (ky)]) := h328q.out.asideL (by omega) 0 [.int .i64 (xc), .int .i64 (xy)]
        have h334q : Hid (Bo (u330q.setCells u290q.heap.size 0 [.int .i64 (xc), .int .i64 (xy)]) u290q.heap.size [.int .i64 (xc), .int .i64 (xy)]) := h329q.out.set2 (.int .i64 (xc)) (.int .i64 (xy))
        clear h326q h327q h328q h329q
        refine hK.out _ _ h332q.out (fun hH => ?_)
        clear hK K
        generalize (u330q.setCells u290q.heap.size 0 [.int .i64 (xc), .int .i64 (xy)]) = u335q at h331q h332q h333q h334q hH ⊢
        try simp only [Act.put, List.setIfInBounds_toArray, List.set_cons_zero, List.set_cons_succ]
        refine wpAnyH_done (by kernel_rfl) ?_ _
        go_wp2_with fail
        go_meet
        case rel => exact ⟨u231q.heap.size, u290q.heap.size, rfl, rfl, h331q, h332q, h333q, h334q⟩
      refine AllReadyH.cons (o := { dst := some 9, op := .alloc _, type := _, pos := _, after := _, guard := _ }) rfl (fun K hK => ?_) AllReadyH.nil
      have l336q : n ≤ u231q.heap.size := h232q.out.le
      have l337q : u218q.heap.size < u231q.heap.size := h233q.out.lt
      go_simp
      have h338q : Hid (Gd n w (u231q.alloc (.cells #[.int .i64 0, .int .i64 0] 37))) := h232q.out.new (.cells #[.int .i64 0, .int .i64 0] 37)
      have h339q : Hid (TAt (u231q.alloc (.cells #[.int .i64 0, .int .i64 0] 37)) u218q.heap.size t) := h233q.out.new (.cells #[.int .i64 0, .int .i64 0] 37)
      clear h232q h233q
      have h340q : Hid (Bo (u231q.alloc (.cells #[.int .i64 0, .int .i64 0] 37)) u231q.heap.size [.int .i64 0, .int .i64 0]) := Bo.born u231q [.int .i64 0, .int .i64 0] 37 (by simp)
      refine hK.out _ _ h339q.out (fun hH => ?_)
      clear hK K
      generalize (u231q.alloc (.cells #[.int .i64 0, .int .i64 0] 37)) = u341q at h338q h339q h340q hH ⊢
      try simp only [Act.put, List.setIfInBounds_toArray, List.set_cons_zero, List.set_cons_succ]
      refine wpAnyH_ready (rs := [5, 6]) (by kernel_rfl) (by simp) ?_
      refine AllReadyH.cons (o := { dst := some 27, op := _, type := _, pos := _, after := _, guard := _ }) rfl (fun K hK => ?_) ?_
      · go_simp
        refine (PQ _).mono ?_
        rintro e u342q ⟨rfl, hb⟩
        have h343q : Hid (Gd n w u342q) := h338q.out.later hb
        have h344q : Hid (TAt u342q u218q.heap.size t) := h339q.out.later hb
        have h345q : Hid (Bo u342q u231q.heap.size [.int .i64 0, .int .i64 0]) := h340q.out.later hb
        clear h338q h339q h340q
        clear hb
        go_wp2_with fail
        refine hK.out _ _ h344q.out (fun hH => ?_)
        clear hK K
        try simp only [Act.put, List.setIfInBounds_toArray, List.set_cons_zero, List.set_cons_succ]
        refine wpAnyH_ready (rs := [6]) (by kernel_rfl) (by simp) ?_
        refine AllReadyH.cons (o := { dst := some 8, op := .alloc _, type := _, pos := _, after := _, guard := _ }) rfl (fun K hK => ?_) AllReadyH.nil
        have l346q : n ≤ u342q.heap.size := h343q.out.le
        have l347q : u218q.heap.size < u342q.heap.size := h344q.out.lt
        have l348q : u231q.heap.size < u342q.heap.size := h345q.out.lt
        go_simp
        have h349q : Hid (Gd n w (u342q.alloc (.cells #[.int .i64 0, .int .i64 0] 37))) := h343q.out.new (.cells #[.int .i64 0, .int .i64 0] 37)
        have h350q : Hid (TAt (u342q.alloc (.cells #[.int .i64 0, .int .i64 0] 37)) u218q.heap.size t) := h344q.out.new (.cells #[.int .i64 0, .int .i64 0] 37)
        have h351q : Hid (Bo (u342q.alloc (.cells #[.int .i64 0, .int .i64 0] 37)) u231q.heap.size [.int .i64 0, .int .i64 0]) := h345q.out.new (.cells #[.int .i64 0, .int .i64 0] 37)
        clear h343q h344q h345q
        have h352q : Hid (Bo (u342q.alloc (.cells #[.int .i64 0, .int .i64 0] 37)) u342q.heap.size [.int .i64 0, .int .i64 0]) := Bo.born u342q [.int .i64 0, .int .i64 0] 37 (by simp)
        refine hK.out _ _ h350q.out (fun hH => ?_)
        clear hK K
        generalize (u342q.alloc (.cells #[.int .i64 0, .int .i64 0] 37)) = u353q at h349q h350q h351q h352q hH ⊢
        try simp only [Act.put, List.setIfInBounds_toArray, List.set_cons_zero, List.set_cons_succ]
        refine wpAnyH_ready (rs := [8]) (by kernel_rfl) (by simp) ?_
        refine AllReadyH.cons (o := { dst := none, op := .store _ (.tmp 8) (.tmp 24), type := _, pos := _, after := _, guard := _ }) rfl (fun K hK => ?_) AllReadyH.nil
        rw [if_pos (by rfl)]
        refine wp_store_mid _ _ _ rfl u342q.heap.size _ #[.int .i64 (kc), .int .i64 (ky)] rfl rfl h352q.out.there2 HA.out (two_one _ _) ?_
        simp only [Act.put]
        have h354q : Hid (Gd n w (u353q.setCells u342q.heap.size 0 [.int .i64 (kc), .int .i64 (ky)])) := h349q.out.asideL (by omega) 0 [.int .i64 (kc), .int .i64 (ky)]
        have h355q : Hid (TAt (u353q.setCells u342q.heap.size 0 [.int .i64 (kc), .int .i64 (ky)]) u218q.heap.size t) := h350q.out.asideL (by omega) 0 [.int .i64 (kc), .int .i64 (ky)]
        have h356q : Hid (Bo (u353q.setCells u342q.heap.size 0 [.int .i64 (kc), .int .i64 (ky)]) u231q.heap.size [.int .i64 0, .int .i64 0]) := h351q.out.asideL (by omega) 0 [.int .i64 (kc), .int .i64 (ky)]
        have h357q : Hid (Bo (u353q.setCells u342q.heap.size 0 [.int .i64 (kc), .int .i64 (ky)]) u342q.heap.size [.int .i64 (kc), .int .i64 (ky)]) := h352q.out.set2 (.int .i64 (kc)) (.int .i64 (ky))
        clear h349q h350q h351q h352q
        refine hK.out _ _ h355q.out (fun hH => ?_)
        clear hK K
        generalize (u353q.setCells u342q.heap.size 0 [.int .i64 (kc), .int .i64 (ky)]) = u358q at h354q h355q h356q h357q hH ⊢
        try simp only [Act.put, List.setIfInBounds_toArray, List.set_cons_zero, List.set_cons_succ]
        refine wpAnyH_ready (rs := [9]) (by kernel_rfl) (by simp) ?_
        refine AllReadyH.cons (o := { dst := none, op := .store _ (.tmp 9) (.tmp 27), type := _, pos := _, after := _, guard := _ }) rfl (fun K hK => ?_) AllReadyH.nil
        rw [if_pos (by rfl)]
        refine wp_store_mid _ _ _ rfl u231q.heap.size _ #[.int .i64 (xc), .int .i64 (xy)] rfl rfl h356q.out.there2 HA.out (two_one _ _) ?_
        simp only [Act.put]
        have h359q : Hid (Gd n w (u358q.setCells u231q.heap.size 0 [.int .i64 (xc), .int .i64 (xy)])) := h354q.out.asideL (by omega) 0 [.int .i64 (xc), .int .i64 (xy)]
        have h360q : Hid (TAt (u358q.setCells u231q.heap.size 0 [.int .i64 (xc), .int .i64 (xy)]) u218q.heap.size t) := h355q.out.asideL (by omega) 0 [.int .i64 (xc), .int .i64 (xy)]
        have h361q : Hid (Bo (u358q.setCells u231q.heap.size 0 [.int .i64 (xc), .int .i64 (xy)]) u231q.heap.size [.int .i64 (xc), .int .i64 (xy)]) := h356q.out.set2 (.int .i64 (xc)) (.int .i64 (xy))
        have h362q : Hid (Bo (u358q.setCells u231q.heap.size 0 [.int .i64 (xc), .int .i64 (xy)]) u342q.heap.size [.int .i64 (kc), .int .i64 (ky)]) := h357q.out.asideL (by omega) 0 [.int .i64 (xc), .int .i64 (xy)]
        clear h354q h355q h356q h357q
        refine hK.out _ _ h360q.out (fun hH => ?_)
        clear hK K
        generalize (u358q.setCells u231q.heap.size 0 [.int .i64 (xc), .int .i64 (xy)]) = u363q at h359q h360q h361q h362q hH ⊢
        try simp only [Act.put, List.setIfInBounds_toArray, List.set_cons_zero, List.set_cons_succ]
        refine wpAnyH_done (by kernel_rfl) ?_ _
        go_wp2_with fail
        go_meet
        case rel => exact ⟨u342q.heap.size, u231q.heap.size, rfl, rfl, h359q, h360q, h362q, h361q⟩
      refine AllReadyH.cons (o := { dst := some 8, op := .alloc _, type := _, pos := _, after := _, guard := _ }) rfl (fun K hK => ?_) AllReadyH.nil
      have l364q : n ≤ u341q.heap.size := h338q.out.le
      have l365q : u218q.heap.size < u341q.heap.size := h339q.out.lt
      have l366q : u231q.heap.size < u341q.heap.size := h340q.out.lt
      go_simp
      have h367q : Hid (Gd n w (u341q.alloc (.cells #[.int .i64 0, .int .i64 0] 37))) := h338q.out.new (.cells #[.int .i64 0, .int .i64 0] 37)
      have h368q : Hid (TAt (u341q.alloc (.cells #[.int .i64 0, .int .i64 0] 37)) u218q.heap.size t) := h339q.out.new (.cells #[.int .i64 0, .int .i64 0] 37)
      have h369q : Hid (Bo (u341q.alloc (.cells #[.int .i64 0, .int .i64 0] 37)) u231q.heap.size [.int .i64 0, .int .i64 0]) := h340q.out.new (.cells #[.int .i64 0, .int .i64 0] 37)
      clear h338q h339q h340q
      have h370q : Hid (Bo (u341q.alloc (.cells #[.int .i64 0, .int .i64 0] 37)) u341q.heap.size [.int .i64 0, .int .i64 0]) := Bo.born u341q [.int .i64 0, .int .i64 0] 37 (by simp)
      refine hK.out _ _ h368q.out (fun hH => ?_)
      clear hK K
      generalize (u341q.alloc (.cells #[.int .i64 0, .int .i64 0] 37)) = u371q at h367q h368q h369q h370q hH ⊢
      try simp only [Act.put, List.setIfInBounds_toArray, List.set_cons_zero, List.set_cons_succ]
      refine wpAnyH_ready (rs := [5]) (by kernel_rfl) (by simp) ?_
      refine AllReadyH.cons (o := { dst := some 27, op := _, type := _, pos := _, after := _, guard := _ }) rfl (fun K hK => ?_) AllReadyH.nil
      go_simp
      refine (PQ _).mono ?_
      rintro e u372q ⟨rfl, hb⟩
      have h373q : Hid (Gd n w u372q) := h367q.out.later hb
      have h374q : Hid (TAt u372q u218q.heap.size t) := h368q.out.later hb
      have h375q : Hid (Bo u372q u231q.heap.size [.int .i64 0, .int .i64 0]) := h369q.out.later hb
      have h376q : Hid (Bo u372q u341q.heap.size [.int .i64 0, .int .i64 0]) := h370q.out.later hb
      clear h367q h368q h369q h370q
      clear hb
      go_wp2_with fail
      refine hK.out _ _ h374q.out (fun hH => ?_)
      clear hK K
      try simp only [Act.put, List.setIfInBounds_toArray, List.set_cons_zero, List.set_cons_succ]
      refine wpAnyH_ready (rs := [8]) (by kernel_rfl) (by simp) ?_
      refine AllReadyH.cons (o := { dst := none, op := .store _ (.tmp 8) (.tmp 24), type := _, pos := _, after := _, guard := _ }) rfl (fun K hK => ?_) AllReadyH.nil
      rw [if_pos (by rfl)]
      refine wp_store_mid _ _ _ rfl u341q.heap.size _ #[.int .i64 (kc), .int .i64 (ky)] rfl rfl h376q.out.there2 HA.out (two_one _ _) ?_
      simp only [Act.put]
      have h377q : Hid (Gd n w (u372q.setCells u341q.heap.size 0 [.int .i64 (kc), .int .i64 (ky)])) := h373q.out.asideL (by omega) 0 [.int .i64 (kc), .int .i64 (ky)]
      have h378q : Hid (TAt (u372q.setCells u341q.heap.size 0 [.int .i64 (kc), .int .i64 (ky)]) u218q.heap.size t) := h374q.out.asideL (by omega) 0 [.int .i64 (kc), .int .i64 (ky)]
      have h379q : Hid (Bo (u372q.setCells u341q.heap.size 0 [.int .i64 (kc), .int .i64 (ky)]) u231q.heap.size [.int .i64 0, .int .i64 0]) := h375q.out.asideL (by omega) 0 [.int .i64 (kc), .int .i64 (ky)]
      have h380q : Hid (Bo (u372q.setCells u341q.heap.size 0 [.int .i64 (kc), .int .i64 (ky)]) u341q.heap.size [.int .i64 (kc), .int .i64 (ky)]) := h376q.out.set2 (.int .i64 (kc)) (.int .i64 (ky))
      clear h373q h374q h375q h376q
      refine hK.out _ _ h378q.out (fun hH => ?_)
      clear hK K
      generalize (u372q.setCells u341q.heap.size 0 [.int .i64 (kc), .int .i64 (ky)]) = u381q at h377q h378q h379q h380q hH ⊢
      try simp only [Act.put, List.setIfInBounds_toArray, List.set_cons_zero, List.set_cons_succ]
      refine wpAnyH_ready (rs := [9]) (by kernel_rfl) (by simp) ?_
      refine AllReadyH.cons (o := { dst := none, op := .store _ (.tmp 9) (.tmp 27), type := _, pos := _, after := _, guard := _ }) rfl (fun K hK => ?_) AllReadyH.nil
      rw [if_pos (by rfl)]
      refine wp_store_mid _ _ _ rfl u231q.heap.size _ #[.int .i64 (xc), .int .i64 (xy)] rfl rfl h379q.out.there2 HA.out (two_one _ _) ?_
      simp only [Act.put]
      have h382q : Hid (Gd n w (u381q.setCells u231q.heap.size 0 [.int .i64 (xc), .int .i64 (xy)])) := h377q.out.asideL (by omega) 0 [.int .i64 (xc), .int .i64 (xy)]
      have h383q : Hid (TAt (u381q.setCells u231q.heap.size 0 [.int .i64 (xc), .int .i64 (xy)]) u218q.heap.size t) := h378q.out.asideL (by omega) 0 [.int .i64 (xc), .int .i64 (xy)]
      have h384q : Hid (Bo (u381q.setCells u231q.heap.size 0 [.int .i64 (xc), .int .i64 (xy)]) u231q.heap.size [.int .i64 (xc), .int .i64 (xy)]) := h379q.out.set2 (.int .i64 (xc)) (.int .i64 (xy))
      have h385q : Hid (Bo (u381q.setCells u231q.heap.size 0 [.int .i64 (xc), .int .i64 (xy)]) u341q.heap.size [.int .i64 (kc), .int .i64 (ky)]) := h380q.out.asideL (by omega) 0 [.int .i64 (xc), .int .i64 (xy)]
      clear h377q h378q h379q h380q
      refine hK.out _ _ h383q.out (fun hH => ?_)
      clear hK K
      generalize (u381q.setCells u231q.heap.size 0 [.int .i64 (xc), .int .i64 (xy)]) = u386q at h382q h383q h384q h385q hH ⊢
      try simp only [Act.put, List.setIfInBounds_toArray, List.set_cons_zero, List.set_cons_succ]
      refine wpAnyH_done (by kernel_rfl) ?_ _
      go_wp2_with fail
      go_meet
      case rel => exact ⟨u341q.heap.size, u231q.heap.size, rfl, rfl, h382q, h383q, h385q, h384q⟩
    refine AllReadyH.cons (o := { dst := some 8, op := .alloc _, type := _, pos := _, after := _, guard := _ }) rfl (fun K hK => ?_) ?_
    · have l387q : n ≤ u230q.heap.size := h228q.out.le
      have l388q : u218q.heap.size < u230q.heap.size := h229q.out.lt
      go_simp
      have h389q : Hid (Gd n w (u230q.alloc (.cells #[.int .i64 0, .int .i64 0] 37))) := h228q.out.new (.cells #[.int .i64 0, .int .i64 0] 37)
      have h390q : Hid (TAt (u230q.alloc (.cells #[.int .i64 0, .int .i64 0] 37)) u218q.heap.size t) := h229q.out.new (.cells #[.int .i64 0, .int .i64 0] 37)
      clear h228q h229q
      have h391q : Hid (Bo (u230q.alloc (.cells #[.int .i64 0, .int .i64 0] 37)) u230q.heap.size [.int .i64 0, .int .i64 0]) := Bo.born u230q [.int .i64 0, .int .i64 0] 37 (by simp)
      refine hK.out _ _ h390q.out (fun hH => ?_)
      clear hK K
      generalize (u230q.alloc (.cells #[.int .i64 0, .int .i64 0] 37)) = u392q at h389q h390q h391q hH ⊢
      try simp only [Act.put, List.setIfInBounds_toArray, List.set_cons_zero, List.set_cons_succ]
      refine wpAnyH_ready (rs := [2, 7]) (by kernel_rfl) (by simp) ?_
      refine AllReadyH.cons (o := { dst := some 24, op := _, type := _, pos := _, after := _, guard := _ }) rfl (fun K hK => ?_) ?_
      · go_simp
        refine (PK _).mono ?_
        rintro e u393q ⟨rfl, hb⟩
        have h394q : Hid (Gd n w u393q) := h389q.out.later hb
        have h395q : Hid (TAt u393q u218q.heap.size t) := h390q.out.later hb
        have h396q : Hid (Bo u393q u230q.heap.size [.int .i64 0, .int .i64 0]) := h391q.out.later hb
        clear h389q h390q h391q
        clear hb
        go_wp2_with fail
        refine hK.out _ _ h395q.out (fun hH => ?_)
        clear hK K
        try simp only [Act.put, List.setIfInBounds_toArray, List.set_cons_zero, List.set_cons_succ]
        refine wpAnyH_ready (rs := [5, 7]) (by kernel_rfl) (by simp) ?_
        refine AllReadyH.cons (o := { dst := some 27, op := _, type := _, pos := _, after := _, guard := _ }) rfl (fun K hK => ?_) ?_
        · go_simp
          refine (PQ _).mono ?_
          rintro e u397q ⟨rfl, hb⟩
          have h398q : Hid (Gd n w u397q) := h394q.out.later hb
          have h399q : Hid (TAt u397q u218q.heap.size t) := h395q.out.later hb
          have h400q : Hid (Bo u397q u230q.heap.size [.int .i64 0, .int .i64 0]) := h396q.out.later hb
          clear h394q h395q h396q
          clear hb
          go_wp2_with fail
          refine hK.out _ _ h399q.out (fun hH => ?_)
          clear hK K
          try simp only [Act.put, List.setIfInBounds_toArray, List.set_cons_zero, List.set_cons_succ]
          refine wpAnyH_ready (rs := [7]) (by kernel_rfl) (by simp) ?_
          refine AllReadyH.cons (o := { dst := some 9, op := .alloc _, type := _, pos := _, after := _, guard := _ }) rfl (fun K hK => ?_) AllReadyH.nil
          have l401q : n ≤ u397q.heap.size := h398q.out.le
          have l402q : u218q.heap.size < u397q.heap.size := h399q.out.lt
          have l403q : u230q.heap.size < u397q.heap.size := h400q.out.lt
          go_simp
          have h404q : Hid (Gd n w (u397q.alloc (.cells #[.int .i64 0, .int .i64 0] 37))) := h398q.out.new (.cells #[.int .i64 0, .int .i64 0] 37)
          have h405q : Hid (TAt (u397q.alloc (.cells #[.int .i64 0, .int .i64 0] 37)) u218q.heap.size t) := h399q.out.new (.cells #[.int .i64 0, .int .i64 0] 37)
          have h406q : Hid (Bo (u397q.alloc (.cells #[.int .i64 0, .int .i64 0] 37)) u230q.heap.size [.int .i64 0, .int .i64 0]) := h400q.out.new (.cells #[.int .i64 0, .int .i64 0] 37)
          clear h398q h399q h400q
          have h407q : Hid (Bo (u397q.alloc (.cells #[.int .i64 0, .int .i64 0] 37)) u397q.heap.size [.int .i64 0, .int .i64 0]) := Bo.born u397q [.int .i64 0, .int .i64 0] 37 (by simp)
          refine hK.out _ _ h405q.out (fun hH => ?_)
          clear hK K
          generalize (u397q.alloc (.cells #[.int .i64 0, .int .i64 0] 37)) = u408q at h404q h405q h406q h407q hH ⊢
          try simp only [Act.put, List.setIfInBounds_toArray, List.set_cons_zero, List.set_cons_succ]
          refine wpAnyH_ready (rs := [8]) (by kernel_rfl) (by simp) ?_
          refine AllReadyH.cons (o := { dst := none, op := .store _ (.tmp 8) (.tmp 24), type := _, pos := _, after := _, guard := _ }) rfl (fun K hK => ?_) AllReadyH.nil
          rw [if_pos (by rfl)]
          refine wp_store_mid _ _ _ rfl u230q.heap.size _ #[.int .i64 (kc), .int .i64 (ky)] rfl rfl h406q.out.there2 HA.out (two_one _ _) ?_
          simp only [Act.put]
          have h409q : Hid (Gd n w (u408q.setCells u230q.heap.size 0 [.int .i64 (kc), .int .i64 (ky)])) := h404q.out.asideL (by omega) 0 [.int .i64 (kc), .int .i64 (ky)]
          have h410q : Hid (TAt (u408q.setCells u230q.heap.size 0 [.int .i64 (kc), .int .i64 (ky)]) u218q.heap.size t) := h405q.out.asideL (by omega) 0 [.int .i64 (kc), .int .i64 (ky)]
          have h411q : Hid (Bo (u408q.setCells u230q.heap.size 0 [.int .i64 (kc), .int .i64 (ky)]) u230q.heap.size [.int .i64 (kc), .int .i64 (ky)]) := h406q.out.set2 (.int .i64 (kc)) (.int .i64 (ky))
          have h412q : Hid (Bo (u408q.setCells u230q.heap.size 0 [.int .i64 (kc), .int .i64 (ky)]) u397q.heap.size [.int .i64 0, .int .i64 0]) := h407q.out.asideL (by omega) 0 [.int .i64 (kc), .int .i64 (ky)]
          clear h404q h405q h406q h407q
          refine hK.out _ _ h410q.out (fun hH => ?_)
          clear hK K
          generalize (u408q.setCells u230q.heap.size 0 [.int .i64 (kc), .int .i64 (ky)]) = u413q at h409q h410q h411q h412q hH ⊢
          try simp only [Act.put, List.setIfInBounds_toArray, List.set_cons_zero, List.set_cons_succ]
          refine wpAnyH_ready (rs := [9]) (by kernel_rfl) (by simp) ?_
          refine AllReadyH.cons (o := { dst := none, op := .store _ (.tmp 9) (.tmp 27), type := _, pos := _, after := _, guard := _ }) rfl (fun K hK => ?_) AllReadyH.nil
          rw [if_pos (by rfl)]
          refine wp_store_mid _ _ _ rfl u397q.heap.size _ #[.int .i64 (xc), .int .i64 (xy)] rfl rfl h412q.out.there2 HA.out (two_one _ _) ?_
          simp only [Act.put]
          have h414q : Hid (Gd n w (u413q.setCells u397q.heap.size 0 [.int .i64 (xc), .int .i64 (xy)])) := h409q.out.asideL (by omega) 0 [.int .i64 (xc), .int .i64 (xy)]
          have h415q : Hid (TAt (u413q.setCells u397q.heap.size 0 [.int .i64 (xc), .int .i64 (xy)]) u218q.heap.size t) := h410q.out.asideL (by omega) 0 [.int .i64 (xc), .int .i64 (xy)]
          have h416q : Hid (Bo (u413q.setCells u397q.heap.size 0 [.int .i64 (xc), .int .i64 (xy)]) u230q.heap.size [.int .i64 (kc), .int .i64 (ky)]) := h411q.out.asideL (by omega) 0 [.int .i64 (xc), .int .i64 (xy)]
          have h417q : Hid (Bo (u413q.setCells u397q.heap.size 0 [.int .i64 (xc), .int .i64 (xy)]) u397q.heap.size [.int .i64 (xc), .int .i64 (xy)]) := h412q.out.set2 (.int .i64 (xc)) (.int .i64 (xy))
          clear h409q h410q h411q h412q
          refine hK.out _ _ h415q.out (fun hH => ?_)
          clear hK K
          generalize (u413q.setCells u397q.heap.size 0 [.int .i64 (xc), .int .i64 (xy)]) = u418q at h414q h415q h416q h417q hH ⊢
          try simp only [Act.put, List.setIfInBounds_toArray, List.set_cons_zero, List.set_cons_succ]
          refine wpAnyH_done (by kernel_rfl) ?_ _
          go_wp2_with fail
          go_meet
          case rel => exact ⟨u230q.heap.size, u397q.heap.size, rfl, rfl, h414q, h415q, h416q, h417q⟩
        refine AllReadyH.cons (o := { dst := some 9, op := .alloc _, type := _, pos := _, after := _, guard := _ }) rfl (fun K hK => ?_) AllReadyH.nil
        have l419q : n ≤ u393q.heap.size := h394q.out.le
        have l420q : u218q.heap.size < u393q.heap.size := h395q.out.lt
        have l421q : u230q.heap.size < u393q.heap.size := h396q.out.lt
        go_simp
        have h422q : Hid (Gd n w (u393q.alloc (.cells #[.int .i64 0, .int .i64 0] 37))) := h394q.out.new (.cells #[.int .i64 0, .int .i64 0] 37)
        have h423q : Hid (TAt (u393q.alloc (.cells #[.int .i64 0, .int .i64 0] 37)) u218q.heap.size t) := h395q.out.new (.cells #[.int .i64 0, .int .i64 0] 37)
        have h424q : Hid (Bo (u393q.alloc (.cells #[.int .i64 0, .int .i64 0] 37)) u230q.heap.size [.int .i64 0, .int .i64 0]) := h396q.out.new (.cells #[.int .i64 0, .int .i64 0] 37)
        clear h394q h395q h396q
        have h425q : Hid (Bo (u393q.alloc (.cells #[.int .i64 0, .int .i64 0] 37)) u393q.heap.size [.int .i64 0, .int .i64 0]) := Bo.born u393q [.int .i64 0, .int .i64 0] 37 (by simp)
        refine hK.out _ _ h423q.out (fun hH => ?_)
        clear hK K
        generalize (u393q.alloc (.cells #[.int .i64 0, .int .i64 0] 37)) = u426q at h422q h423q h424q h425q hH ⊢
        try simp only [Act.put, List.setIfInBounds_toArray, List.set_cons_zero, List.set_cons_succ]
        refine wpAnyH_ready (rs := [5]) (by kernel_rfl) (by simp) ?_
        refine AllReadyH.cons (o := { dst := some 27, op := _, type := _, pos := _, after := _, guard := _ }) rfl (fun K hK => ?_) AllReadyH.nil
        go_simp
        refine (PQ _).mono ?_
        rintro e u427q ⟨rfl, hb⟩
        have h428q : Hid (Gd n w u427q) := h422q.out.later hb
        have h429q : Hid (TAt u427q u218q.heap.size t) := h423q.out.later hb
        have h430q : Hid (Bo u427q u230q.heap.size [.int .i64 0, .int .i64 0]) := h424q.out.later hb
        have h431q : Hid (Bo u427q u393q.heap.size [.int .i64 0, .int .i64 0]) := h425q.out.later hb
        clear h422q h423q h424q h425q
        clear hb
        go_wp2_with fail
        refine hK.out _ _ h429q.out (fun hH => ?_)
        clear hK K
        try simp only [Act.put, List.setIfInBounds_toArray, List.set_cons_zero, List.set_cons_succ]
        refine wpAnyH_ready (rs := [8]) (by kernel_rfl) (by simp) ?_
        refine AllReadyH.cons (o := { dst := none, op := .store _ (.tmp 8) (.tmp 24), type := _, pos := _, after := _, guard := _ }) rfl (fun K hK => ?_) AllReadyH.nil
        rw [if_pos (by rfl)]
        refine wp_store_mid _ _ _ rfl u230q.heap.size _ #[.int .i64 (kc), .int .i64 (ky)] rfl rfl h430q.out.there2 HA.out (two_one _ _) ?_
        simp only [Act.put]
        have h432q : Hid (Gd n w (u427q.setCells u230q.heap.size 0 [.int .i64 (kc), .int .i64 (ky)])) := h428q.out.asideL (by omega) 0 [.int .i64 (kc), .int .i64 (ky)]
        have h433q : Hid (TAt (u427q.setCells u230q.heap.size 0 [.int .i64 (kc), .int .i64 (ky)]) u218q.heap.size t) := h429q.out.asideL (by omega) 0 [.int .i64 (kc), .int .i64 (ky)]
        have h434q : Hid (Bo (u427q.setCells u230q.heap.size 0 [.int .i64 (kc), .int .i64 (ky)]) u230q.heap.size [.int .i64 (kc), .int .i64 (ky)]) := h430q.out.set2 (.int .i64 (kc)) (.int .i64 (ky))
        have h435q : Hid (Bo (u427q.setCells u230q.heap.size 0 [.int .i64 (kc), .int .i64 (ky)]) u393q.heap.size [.int .i64 0, .int .i64 0]) := h431q.out.asideL (by omega) 0 [.int .i64 (kc), .int .i64 (ky)]
        clear h428q h429q h430q h431q
        refine hK.out _ _ h433q.out (fun hH => ?_)
        clear hK K
        generalize (u427q.setCells u230q.heap.size 0 [.int .i64 (kc), .int .i64 (ky)]) = u436q at h432q h433q h434q h435q hH ⊢
        try simp only [Act.put, List.setIfInBounds_toArray, List.set_cons_zero, List.set_cons_succ]
        refine wpAnyH_ready (rs := [9]) (by kernel_rfl) (by simp) ?_
        refine AllReadyH.cons (o := { dst := none, op := .store _ (.tmp 9) (.tmp 27), type := _, pos := _, after := _, guard := _ }) rfl (fun K hK => ?_) AllReadyH.nil
        rw [if_pos (by rfl)]
        refine wp_store_mid _ _ _ rfl u393q.heap.size _ #[.int .i64 (xc), .int .i64 (xy)] rfl rfl h435q.out.there2 HA.out (two_one _ _) ?_
        simp only [Act.put]
        have h437q : Hid (Gd n w (u436q.setCells u393q.heap.size 0 [.int .i64 (xc), .int .i64 (xy)])) := h432q.out.asideL (by omega) 0 [.int .i64 (xc), .int .i64 (xy)]
        have h438q : Hid (TAt (u436q.setCells u393q.heap.size 0 [.int .i64 (xc), .int .i64 (xy)]) u218q.heap.size t) := h433q.out.asideL (by omega) 0 [.int .i64 (xc), .int .i64 (xy)]
        have h439q : Hid (Bo (u436q.setCells u393q.heap.size 0 [.int .i64 (xc), .int .i64 (xy)]) u230q.heap.size [.int .i64 (kc), .int .i64 (ky)]) := h434q.out.asideL (by omega) 0 [.int .i64 (xc), .int .i64 (xy)]
        have h440q : Hid (Bo (u436q.setCells u393q.heap.size 0 [.int .i64 (xc), .int .i64 (xy)]) u393q.heap.size [.int .i64 (xc), .int .i64 (xy)]) := h435q.out.set2 (.int .i64 (xc)) (.int .i64 (xy))
        clear h432q h433q h434q h435q
        refine hK.out _ _ h438q.out (fun hH => ?_)
        clear hK K
        generalize (u436q.setCells u393q.heap.size 0 [.int .i64 (xc), .int .i64 (xy)]) = u441q at h437q h438q h439q h440q hH ⊢
        try simp only [Act.put, List.setIfInBounds_toArray, List.set_cons_zero, List.set_cons_succ]
        refine wpAnyH_done (by kernel_rfl) ?_ _
        go_wp2_with fail
        go_meet
        case rel => exact ⟨u230q.heap.size, u393q.heap.size, rfl, rfl, h437q, h438q, h439q, h440q⟩
      refine AllReadyH.cons (o := { dst := some 9, op := .alloc _, type := _, pos := _, after := _, guard := _ }) rfl (fun K hK => ?_) AllReadyH.nil
      have l442q : n ≤ u392q.heap.size := h389q.out.le
      have l443q : u218q.heap.size < u392q.heap.size := h390q.out.lt
      have l444q : u230q.heap.size < u392q.heap.size := h391q.out.lt
      go_simp
      have h445q : Hid (Gd n w (u392q.alloc (.cells #[.int .i64 0, .int .i64 0] 37))) := h389q.out.new (.cells #[.int .i64 0, .int .i64 0] 37)
      have h446q : Hid (TAt (u392q.alloc (.cells #[.int .i64 0, .int .i64 0] 37)) u218q.heap.size t) := h390q.out.new (.cells #[.int .i64 0, .int .i64 0] 37)
      have h447q : Hid (Bo (u392q.alloc (.cells #[.int .i64 0, .int .i64 0] 37)) u230q.heap.size [.int .i64 0, .int .i64 0]) := h391q.out.new (.cells #[.int .i64 0, .int .i64 0] 37)
      clear h389q h390q h391q
      have h448q : Hid (Bo (u392q.alloc (.cells #[.int .i64 0, .int .i64 0] 37)) u392q.heap.size [.int .i64 0, .int .i64 0]) := Bo.born u392q [.int .i64 0, .int .i64 0] 37 (by simp)
      refine hK.out _ _ h446q.out (fun hH => ?_)
      clear hK K
      generalize (u392q.alloc (.cells #[.int .i64 0, .int .i64 0] 37)) = u449q at h445q h446q h447q h448q hH ⊢
      try simp only [Act.put, List.setIfInBounds_toArray, List.set_cons_zero, List.set_cons_succ]
      refine wpAnyH_ready (rs := [2]) (by kernel_rfl) (by simp) ?_
      refine AllReadyH.cons (o := { dst := some 24, op := _, type := _, pos := _, after := _, guard := _ }) rfl (fun K hK => ?_) AllReadyH.nil
      go_simp
      refine (PK _).mono ?_
      rintro e u450q ⟨rfl, hb⟩
      have h451q : Hid (Gd n w u450q) := h445q.out.later hb
      have h452q : Hid (TAt u450q u218q.heap.size t) := h446q.out.later hb
      have h453q : Hid (Bo u450q u230q.heap.size [.int .i64 0, .int .i64 0]) := h447q.out.later hb
      have h454q : Hid (Bo u450q u392q.heap.size [.int .i64 0, .int .i64 0]) := h448q.out.later hb
      clear h445q h446q h447q h448q
      clear hb
      go_wp2_with fail
      refine hK.out _ _ h452q.out (fun hH => ?_)
      clear hK K
      try simp only [Act.put, List.setIfInBounds_toArray, List.set_cons_zero, List.set_cons_succ]
      refine wpAnyH_ready (rs := [5]) (by kernel_rfl) (by simp) ?_
      refine AllReadyH.cons (o := { dst := some 27, op := _, type := _, pos := _, after := _, guard := _ }) rfl (fun K hK => ?_) AllReadyH.nil
      go_simp
      refine (PQ _).mono ?_
      rintro e u455q ⟨rfl, hb⟩
      have h456q : Hid (Gd n w u455q) := h451q.out.later hb
      have h457q : Hid (TAt u455q u218q.heap.size t) := h452q.out.later hb
      have h458q : Hid (Bo u455q u230q.heap.size [.int .i64 0, .int .i64 0]) := h453q.out.later hb
      have h459q : Hid (Bo u455q u392q.heap.size [.int .i64 0, .int .i64 0]) := h454q.out.later hb
      clear h451q h452q h453q h454q
      clear hb
      go_wp2_with fail
      refine hK.out _ _ h457q.out (fun hH => ?_)
      clear hK K
      try simp only [Act.put, List.setIfInBounds_toArray, List.set_cons_zero, List.set_cons_succ]
      refine wpAnyH_ready (rs := [8]) (by kernel_rfl) (by simp) ?_
      refine AllReadyH.cons (o := { dst := none, op := .store _ (.tmp 8) (.tmp 24), type := _, pos := _, after := _, guard := _ }) rfl (fun K hK => ?_) AllReadyH.nil
      rw [if_pos (by rfl)]
      refine wp_store_mid _ _ _ rfl u230q.heap.size _ #[.int .i64 (kc), .int .i64 (ky)] rfl rfl h458q.out.there2 HA.out (two_one _ _) ?_
      simp only [Act.put]
      have h460q : Hid (Gd n w (u455q.setCells u230q.heap.size 0 [.int .i64 (kc), .int .i64 (ky)])) := h456q.out.asideL (by omega) 0 [.int .i64 (kc), .int .i64 (ky)]
      have h461q : Hid (TAt (u455q.setCells u230q.heap.size 0 [.int .i64 (kc), .int .i64 (ky)]) u218q.heap.size t) := h457q.out.asideL (by omega) 0 [.int .i64 (kc), .int .i64 (ky)]
      have h462q : Hid (Bo (u455q.setCells u230q.heap.size 0 [.int .i64 (kc), .int .i64 (ky)]) u230q.heap.size [.int .i64 (kc), .int .i64 (ky)]) := h458q.out.set2 (.int .i64 (kc)) (.int .i64 (ky))
      have h463q : Hid (Bo (u455q.setCells u230q.heap.size 0 [.int .i64 (kc), .int .i64 (ky)]) u392q.heap.size [.int .i64 0, .int .i64 0]) := h459q.out.asideL (by omega) 0 [.int .i64 (kc), .int .i64 (ky)]
      clear h456q h457q h458q h459q
      refine hK.out _ _ h461q.out (fun hH => ?_)
      clear hK K
      generalize (u455q.setCells u230q.heap.size 0 [.int .i64 (kc), .int .i64 (ky)]) = u464q at h460q h461q h462q h463q hH ⊢
      try simp only [Act.put, List.setIfInBounds_toArray, List.set_cons_zero, List.set_cons_succ]
      refine wpAnyH_ready (rs := [9]) (by kernel_rfl) (by simp) ?_
      refine AllReadyH.cons (o := { dst := none, op := .store _ (.tmp 9) (.tmp 27), type := _, pos := _, after := _, guard := _ }) rfl (fun K hK => ?_) AllReadyH.nil
      rw [if_pos (by rfl)]
      refine wp_store_mid _ _ _ rfl u392q.heap.size _ #[.int .i64 (xc), .int .i64 (xy)] rfl rfl h463q.out.there2 HA.out (two_one _ _) ?_
      simp only [Act.put]
      have h465q : Hid (Gd n w (u464q.setCells u392q.heap.size 0 [.int .i64 (xc), .int .i64 (xy)])) := h460q.out.asideL (by omega) 0 [.int .i64 (xc), .int .i64 (xy)]
      have h466q : Hid (TAt (u464q.setCells u392q.heap.size 0 [.int .i64 (xc), .int .i64 (xy)]) u218q.heap.size t) := h461q.out.asideL (by omega) 0 [.int .i64 (xc), .int .i64 (xy)]
      have h467q : Hid (Bo (u464q.setCells u392q.heap.size 0 [.int .i64 (xc), .int .i64 (xy)]) u230q.heap.size [.int .i64 (kc), .int .i64 (ky)]) := h462q.out.asideL (by omega) 0 [.int .i64 (xc), .int .i64 (xy)]
      have h468q : Hid (Bo (u464q.setCells u392q.heap.size 0 [.int .i64 (xc), .int .i64 (xy)]) u392q.heap.size [.int .i64 (xc), .int .i64 (xy)]) := h463q.out.set2 (.int .i64 (xc)) (.int .i64 (xy))
      clear h460q h461q h462q h463q
      refine hK.out _ _ h466q.out (fun hH => ?_)
      clear hK K
      generalize (u464q.setCells u392q.heap.size 0 [.int .i64 (xc), .int .i64 (xy)]) = u469q at h465q h466q h467q h468q hH ⊢
      try simp only [Act.put, List.setIfInBounds_toArray, List.set_cons_zero, List.set_cons_succ]
      refine wpAnyH_done (by kernel_rfl) ?_ _
      go_wp2_with fail
      go_meet
      case rel => exact ⟨u230q.heap.size, u392q.heap.size, rfl, rfl, h465q, h466q, h467q, h468q⟩
    refine AllReadyH.cons (o := { dst := some 9, op := .alloc _, type := _, pos := _, after := _, guard := _ }) rfl (fun K hK => ?_) AllReadyH.nil
    have l470q : n ≤ u230q.heap.size := h228q.out.le
    have l471q : u218q.heap.size < u230q.heap.size := h229q.out.lt
    go_simp
    have h472q : Hid (Gd n w (u230q.alloc (.cells #[.int .i64 0, .int .i64 0] 37))) := h228q.out.new (.cells #[.int .i64 0, .int .i64 0] 37)
    have h473q : Hid (TAt (u230q.alloc (.cells #[.int .i64 0, .int .i64 0] 37)) u218q.heap.size t) := h229q.out.new (.cells #[.int .i64 0, .int .i64 0] 37)
    clear h228q h229q
    have h474q : Hid (Bo (u230q.alloc (.cells #[.int .i64 0, .int .i64 0] 37)) u230q.heap.size [.int .i64 0, .int .i64 0]) := Bo.born u230q [.int .i64 0, .int .i64 0] 37 (by simp)
    refine hK.out _ _ h473q.out (fun hH => ?_)
    clear hK K
    generalize (u230q.alloc (.cells #[.int .i64 0, .int .i64 0] 37)) = u475q at h472q h473q h474q hH ⊢
    try simp only [Act.put, List.setIfInBounds_toArray, List.set_cons_zero, List.set_cons_succ]
    refine wpAnyH_ready (rs := [2, 6]) (by kernel_rfl) (by simp) ?_
    refine AllReadyH.cons (o := { dst := some 24, op := _, type := _, pos := _, after := _, guard := _ }) rfl (fun K hK => ?_) ?_
    · go_simp
      refine (PK _).mono ?_
      rintro e u476q ⟨rfl, hb⟩
      have h477q : Hid (Gd n w u476q) := h472q.out.later hb
      have h478q : Hid (TAt u476q u218q.heap.size t) := h473q.out.later hb
      have h479q : Hid (Bo u476q u230q.heap.size [.int .i64 0, .int .i64 0]) := h474q.out.later hb
      clear h472q h473q h474q
      clear hb
      go_wp2_with fail
      refine hK.out _ _ h478q.out (fun hH => ?_)
      clear hK K
      try simp only [Act.put, List.setIfInBounds_toArray, List.set_cons_zero, List.set_cons_succ]
      refine wpAnyH_ready (rs := [5, 6]) (by kernel_rfl) (by simp) ?_
      refine AllReadyH.cons (o := { dst := some 27, op := _, type := _, pos := _, after := _, guard := _ }) rfl (fun K hK => ?_) ?_
      · go_simp
        refine (PQ _).mono ?_
        rintro e u480q ⟨rfl, hb⟩
        have h481q : Hid (Gd n w u480q) := h477q.out.later hb
        have h482q : Hid (TAt u480q u218q.heap.size t) := h478q.out.later hb
        have h483q : Hid (Bo u480q u230q.heap.size [.int .i64 0, .int .i64 0]) := h479q.out.later hb
        clear h477q h478q h479q
        clear hb
        go_wp2_with fail
        refine hK.out _ _ h482q.out (fun hH => ?_)
        clear hK K
        try simp only [Act.put, List.setIfInBounds_toArray, List.set_cons_zero, List.set_cons_succ]
        refine wpAnyH_ready (rs := [6]) (by kernel_rfl) (by simp) ?_
        refine AllReadyH.cons (o := { dst := some 8, op := .alloc _, type := _, pos := _, after := _, guard := _ }) rfl (fun K hK => ?_) AllReadyH.nil
        have l484q : n ≤ u480q.heap.size := h481q.out.le
        have l485q : u218q.heap.size < u480q.heap.size := h482q.out.lt
        have l486q : u230q.heap.size < u480q.heap.size := h483q.out.lt
        go_simp
        have h487q : Hid (Gd n w (u480q.alloc (.cells #[.int .i64 0, .int .i64 0] 37))) := h481q.out.new (.cells #[.int .i64 0, .int .i64 0] 37)
        have h488q : Hid (TAt (u480q.alloc (.cells #[.int .i64 0, .int .i64 0] 37)) u218q.heap.size t) := h482q.out.new (.cells #[.int .i64 0, .int .i64 0] 37)
        have h489q : Hid (Bo (u480q.alloc (.cells #[.int .i64 0, .int .i64 0] 37)) u230q.heap.size [.int .i64 0, .int .i64 0]) := h483q.out.new (.cells #[.int .i64 0, .int .i64 0] 37)
        clear h481q h482q h483q
        have h490q : Hid (Bo (u480q.alloc (.cells #[.int .i64 0, .int .i64 0] 37)) u480q.heap.size [.int .i64 0, .int .i64 0]) := Bo.born u480q [.int .i64 0, .int .i64 0] 37 (by simp)
        refine hK.out _ _ h488q.out (fun hH => ?_)
        clear hK K
        generalize (u480q.alloc (.cells #[.int .i64 0, .int .i64 0] 37)) = u491q at h487q h488q h489q h490q hH ⊢
        try simp only [Act.put, List.setIfInBounds_toArray, List.set_cons_zero, List.set_cons_succ]
        refine wpAnyH_ready (rs := [8]) (by kernel_rfl) (by simp) ?_
        refine AllReadyH.cons (o := { dst := none, op := .store _ (.tmp 8) (.tmp 24), type := _, pos := _, after := _, guard := _ }) rfl (fun K hK => ?_) AllReadyH.nil
        rw [if_pos (by rfl)]
        refine wp_store_mid _ _ _ rfl u480q.heap.size _ #[.int .i64 (kc), .int .i64 (ky)] rfl rfl h490q.out.there2 HA.out (two_one _ _) ?_
        simp only [Act.put]
        have h492q : Hid (Gd n w (u491q.setCells u480q.heap.size 0 [.int .i64 (kc), .int .i64 (ky)])) := h487q.out.asideL (by omega) 0 [.int .i64 (kc), .int .i64 (ky)]
        have h493q : Hid (TAt (u491q.setCells u480q.heap.size 0 [.int .i64 (kc), .int .i64 (ky)]) u218q.heap.size t) := h488q.out.asideL (by omega) 0 [.int .i64 (kc), .int .i64 (ky)]
        have h494q : Hid (Bo (u491q.setCells u480q.heap.size 0 [.int .i64 (kc), .int .i64 (ky)]) u230q.heap.size [.int .i64 0, .int .i64 0]) := h489q.out.asideL (by omega) 0 [.int .i64 (kc), .int .i64 (ky)]
        have h495q : Hid (Bo (u491q.setCells u480q.heap.size 0 [.int .i64 (kc), .int .i64 (ky)]) u480q.heap.size [.int .i64 (kc), .int .i64 (ky)]) := h490q.out.set2 (.int .i64 (kc)) (.int .i64 (ky))
        clear h487q h488q h489q h490q
        refine hK.out _ _ h493q.out (fun hH => ?_)
        clear hK K
        generalize (u491q.setCells u480q.heap.size 0 [.int .i64 (kc), .int .i64 (ky)]) = u496q at h492q h493q h494q h495q hH ⊢
        try simp only [Act.put, List.setIfInBounds_toArray, List.set_cons_zero, List.set_cons_succ]
        refine wpAnyH_ready (rs := [9]) (by kernel_rfl) (by simp) ?_
        refine AllReadyH.cons (o := { dst := none, op := .store _ (.tmp 9) (.tmp 27), type := _, pos := _, after := _, guard := _ }) rfl (fun K hK => ?_) AllReadyH.nil
        rw [if_pos (by rfl)]
        refine wp_store_mid _ _ _ rfl u230q.heap.size _ #[.int .i64 (xc), .int .i64 (xy)] rfl rfl h494q.out.there2 HA.out (two_one _ _) ?_
        simp only [Act.put]
        have h497q : Hid (Gd n w (u496q.setCells u230q.heap.size 0 [.int .i64 (xc), .int .i64 (xy)])) := h492q.out.asideL (by omega) 0 [.int .i64 (xc), .int .i64 (xy)]
        have h498q : Hid (TAt (u496q.setCells u230q.heap.size 0 [.int .i64 (xc), .int .i64 (xy)]) u218q.heap.size t) := h493q.out.asideL (by omega) 0 [.int .i64 (xc), .int .i64 (xy)]
        have h499q : Hid (Bo (u496q.setCells u230q.heap.size 0 [.int .i64 (xc), .int .i64 (xy)]) u230q.heap.size [.int .i64 (xc), .int .i64 (xy)]) := h494q.out.set2 (.int .i64 (xc)) (.int .i64 (xy))
        have h500q : Hid (Bo (u496q.setCells u230q.heap.size 0 [.int .i64 (xc), .int .i64 (xy)]) u480q.heap.size [.int .i64 (kc), .int .i64 (ky)]) := h495q.out.asideL (by omega) 0 [.int .i64 (xc), .int .i64 (xy)]
        clear h492q h493q h494q h495q
        refine hK.out _ _ h498q.out (fun hH => ?_)
        clear hK K
        generalize (u496q.setCells u230q.heap.size 0 [.int .i64 (xc), .int .i64 (xy)]) = u501q at h497q h498q h499q h500q hH ⊢
        try simp only [Act.put, List.setIfInBounds_toArray, List.set_cons_zero, List.set_cons_succ]
        refine wpAnyH_done (by kernel_rfl) ?_ _
        go_wp2_with fail
        go_meet
        case rel => exact ⟨u480q.heap.size, u230q.heap.size, rfl, rfl, h497q, h498q, h500q, h499q⟩
      refine AllReadyH.cons (o := { dst := some 8, op := .alloc _, type := _, pos := _, after := _, guard := _ }) rfl (fun K hK => ?_) AllReadyH.nil
      have l502q : n ≤ u476q.heap.size := h477q.out.le
      have l503q : u218q.heap.size < u476q.heap.size := h478q.out.lt
      have l504q : u230q.heap.size < u476q.heap.size := h479q.out.lt
      go_simp
      have h505q : Hid (Gd n w (u476q.alloc (.cells #[.int .i64 0, .int .i64 0] 37))) := h477q.out.new (.cells #[.int .i64 0, .int .i64 0] 37)
      have h506q : Hid (TAt (u476q.alloc (.cells #[.int .i64 0, .int .i64 0] 37)) u218q.heap.size t) := h478q.out.new (.cells #[.int .i64 0, .int .i64 0] 37)
      have h507q : Hid (Bo (u476q.alloc (.cells #[.int .i64 0, .int .i64 0] 37)) u230q.heap.size [.int .i64 0, .int .i64 0]) := h479q.out.new (.cells #[.int .i64 0, .int .i64 0] 37)
      clear h477q h478q h479q
      have h508q : Hid (Bo (u476q.alloc (.cells #[.int .i64 0, .int .i64 0] 37)) u476q.heap.size [.int .i64 0, .int .i64 0]) := Bo.born u476q [.int .i64 0, .int .i64 0] 37 (by simp)
      refine hK.out _ _ h506q.out (fun hH => ?_)
      clear hK K
      generalize (u476q.alloc (.cells #[.int .i64 0, .int .i64 0] 37)) = u509q at h505q h506q h507q h508q hH ⊢
      try simp only [Act.put, List.setIfInBounds_toArray, List.set_cons_zero, List.set_cons_succ]
      refine wpAnyH_ready (rs := [5]) (by kernel_rfl) (by simp) ?_
      refine AllReadyH.cons (o := { dst := some 27, op := _, type := _, pos := _, after := _, guard := _ }) rfl (fun K hK => ?_) AllReadyH.nil
      go_simp
      refine (PQ _).mono ?_
      rintro e u510q ⟨rfl, hb⟩
      have h511q : Hid (Gd n w u510q) := h505q.out.later hb
      have h512q : Hid (TAt u510q u218q.heap.size t) := h506q.out.later hb
      have h513q : Hid (Bo u510q u230q.heap.size [.int .i64 0, .int .i64 0]) := h507q.out.later hb
      have h514q : Hid (Bo u510q u476q.heap.size [.int .i64 0, .int .i64 0]) := h508q.out.later hb
      clear h505q h506q h507q h508q
      clear hb
      go_wp2_with fail
      refine hK.out _ _ h512q.out (fun hH => ?_)
      clear hK K
      try simp only [Act.put, List.setIfInBounds_toArray, List.set_cons_zero, List.set_cons_succ]
      refine wpAnyH_ready (rs := [8]) (by kernel_rfl) (by simp) ?_
      refine AllReadyH.cons (o := { dst := none, op := .store _ (.tmp 8) (.tmp 24), type := _, pos := _, after := _, guard := _ }) rfl (fun K hK => ?_) AllReadyH.nil
      rw [if_pos (by rfl)]
      refine wp_store_mid _ _ _ rfl u476q.heap.size _ #[.int .i64 (kc), .int .i64 (ky)] rfl rfl h514q.out.there2 HA.out (two_one _ _) ?_
      simp only [Act.put]
      have h515q : Hid (Gd n w (u510q.setCells u476q.heap.size 0 [.int .i64 (kc), .int .i64 (ky)])) := h511q.out.asideL (by omega) 0 [.int .i64 (kc), .int .i64 (ky)]
      have h516q : Hid (TAt (u510q.setCells u476q.heap.size 0 [.int .i64 (kc), .int .i64 (ky)]) u218q.heap.size t) := h512q.out.asideL (by omega) 0 [.int .i64 (kc), .int .i64 (ky)]
      have h517q : Hid (Bo (u510q.setCells u476q.heap.size 0 [.int .i64 (kc), .int .i64 (ky)]) u230q.heap.size [.int .i64 0, .int .i64 0]) := h513q.out.asideL (by omega) 0 [.int .i64 (kc), .int .i64 (ky)]
      have h518q : Hid (Bo (u510q.setCells u476q.heap.size 0 [.int .i64 (kc), .int .i64 (ky)]) u476q.heap.size [.int .i64 (kc), .int .i64 (ky)]) := h514q.out.set2 (.int .i64 (kc)) (.int .i64 (ky))
      clear h511q h512q h513q h514q
      refine hK.out _ _ h516q.out (fun hH => ?_)
      clear hK K
      generalize (u510q.setCells u476q.heap.size 0 [.int .i64 (kc), .int .i64 (ky)]) = u519q at h515q h516q h517q h518q hH ⊢
      try simp only [Act.put, List.setIfInBounds_toArray, List.set_cons_zero, List.set_cons_succ]
      refine wpAnyH_ready (rs := [9]) (by kernel_rfl) (by simp) ?_
      refine AllReadyH.cons (o := { dst := none, op := .store _ (.tmp 9) (.tmp 27), type := _, pos := _, after := _, guard := _ }) rfl (fun K hK => ?_) AllReadyH.nil
      rw [if_pos (by rfl)]
      refine wp_store_mid _ _ _ rfl u230q.heap.size _ #[.int .i64 (xc), .int .i64 (xy)] rfl rfl h517q.out.there2 HA.out (two_one _ _) ?_
      simp only [Act.put]
      have h520q : Hid (Gd n w (u519q.setCells u230q.heap.size 0 [.int .i64 (xc), .int .i64 (xy)])) := h515q.out.asideL (by omega) 0 [.int .i64 (xc), .int .i64 (xy)]
      have h521q : Hid (TAt (u519q.setCells u230q.heap.size 0 [.int .i64 (xc), .int .i64 (xy)]) u218q.heap.size t) := h516q.out.asideL (by omega) 0 [.int .i64 (xc), .int .i64 (xy)]
      have h522q : Hid (Bo (u519q.setCells u230q.heap.size 0 [.int .i64 (xc), .int .i64 (xy)]) u230q.heap.size [.int .i64 (xc), .int .i64 (xy)]) := h517q.out.set2 (.int .i64 (xc)) (.int .i64 (xy))
      have h523q : Hid (Bo (u519q.setCells u230q.heap.size 0 [.int .i64 (xc), .int .i64 (xy)]) u476q.heap.size [.int .i64 (kc), .int .i64 (ky)]) := h518q.out.asideL (by omega) 0 [.int .i64 (xc), .int .i64 (xy)]
      clear h515q h516q h517q h518q
      refine hK.out _ _ h521q.out (fun hH => ?_)
      clear hK K
      generalize (u519q.setCells u230q.heap.size 0 [.int .i64 (xc), .int .i64 (xy)]) = u524q at h520q h521q h522q h523q hH ⊢
      try simp only [Act.put, List.setIfInBounds_toArray, List.set_cons_zero, List.set_cons_succ]
      refine wpAnyH_done (by kernel_rfl) ?_ _
      go_wp2_with fail
      go_meet
      case rel => exact ⟨u476q.heap.size, u230q.heap.size, rfl, rfl, h520q, h521q, h523q, h522q⟩
    refine AllReadyH.cons (o := { dst := some 8, op := .alloc _, type := _, pos := _, after := _, guard := _ }) rfl (fun K hK => ?_) AllReadyH.nil
    have l525q : n ≤ u475q.heap.size := h472q.out.le
    have l526q : u218q.heap.size < u475q.heap.size := h473q.out.lt
    have l527q : u230q.heap.size < u475q.heap.size := h474q.out.lt
    go_simp
    have h528q : Hid (Gd n w (u475q.alloc (.cells #[.int .i64 0, .int .i64 0] 37))) := h472q.out.new (.cells #[.int .i64 0, .int .i64 0] 37)
    have h529q : Hid (TAt (u475q.alloc (.cells #[.int .i64 0, .int .i64 0] 37)) u218q.heap.size t) := h473q.out.new (.cells #[.int .i64 0, .int .i64 0] 37)
    have h530q : Hid (Bo (u475q.alloc (.cells #[.int .i64 0, .int .i64 0] 37)) u230q.heap.size [.int .i64 0, .int .i64 0]) := h474q.out.new (.cells #[.int .i64 0, .int .i64 0] 37)
    clear h472q h473q h474q
    have h531q : Hid (Bo (u475q.alloc (.cells #[.int .i64 0, .int .i64 0] 37)) u475q.heap.size [.int .i64 0, .int .i64 0]) := Bo.born u475q [.int .i64 0, .int .i64 0] 37 (by simp)
    refine hK.out _ _ h529q.out (fun hH => ?_)
    clear hK K
    generalize (u475q.alloc (.cells #[.int .i64 0, .int .i64 0] 37)) = u532q at h528q h529q h530q h531q hH ⊢
    try simp only [Act.put, List.setIfInBounds_toArray, List.set_cons_zero, List.set_cons_succ]
    refine wpAnyH_ready (rs := [2]) (by kernel_rfl) (by simp) ?_
    refine AllReadyH.cons (o := { dst := some 24, op := _, type := _, pos := _, after := _, guard := _ }) rfl (fun K hK => ?_) AllReadyH.nil
    go_simp
    refine (PK _).mono ?_
    rintro e u533q ⟨rfl, hb⟩
    have h534q : Hid (Gd n w u533q) := h528q.out.later hb
    have h535q : Hid (TAt u533q u218q.heap.size t) := h529q.out.later hb
    have h536q : Hid (Bo u533q u230q.heap.size [.int .i64 0, .int .i64 0]) := h530q.out.later hb
    have h537q : Hid (Bo u533q u475q.heap.size [.int .i64 0, .int .i64 0]) := h531q.out.later hb
    clear h528q h529q h530q h531q
    clear hb
    go_wp2_with fail
    refine hK.out _ _ h535q.out (fun hH => ?_)
    clear hK K
    try simp only [Act.put, List.setIfInBounds_toArray, List.set_cons_zero, List.set_cons_succ]
    refine wpAnyH_ready (rs := [5]) (by kernel_rfl) (by simp) ?_
    refine AllReadyH.cons (o := { dst := some 27, op := _, type := _, pos := _, after := _, guard := _ }) rfl (fun K hK => ?_) AllReadyH.nil
    go_simp
    refine (PQ _).mono ?_
    rintro e u538q ⟨rfl, hb⟩
    have h539q : Hid (Gd n w u538q) := h534q.out.later hb
    have h540q : Hid (TAt u538q u218q.heap.size t) := h535q.out.later hb
    have h541q : Hid (Bo u538q u230q.heap.size [.int .i64 0, .int .i64 0]) := h536q.out.later hb
    have h542q : Hid (Bo u538q u475q.heap.size [.int .i64 0, .int .i64 0]) := h537q.out.later hb
    clear h534q h535q h536q h537q
    clear hb
    go_wp2_with fail
    refine hK.out _ _ h540q.out (fun hH => ?_)
    clear hK K
    try simp only [Act.put, List.setIfInBounds_toArray, List.set_cons_zero, List.set_cons_succ]
    refine wpAnyH_ready (rs := [8]) (by kernel_rfl) (by simp) ?_
    refine AllReadyH.cons (o := { dst := none, op := .store _ (.tmp 8) (.tmp 24), type := _, pos := _, after := _, guard := _ }) rfl (fun K hK => ?_) AllReadyH.nil
    rw [if_pos (by rfl)]
    refine wp_store_mid _ _ _ rfl u475q.heap.size _ #[.int .i64 (kc), .int .i64 (ky)] rfl rfl h542q.out.there2 HA.out (two_one _ _) ?_
    simp only [Act.put]
    have h543q : Hid (Gd n w (u538q.setCells u475q.heap.size 0 [.int .i64 (kc), .int .i64 (ky)])) := h539q.out.asideL (by omega) 0 [.int .i64 (kc), .int .i64 (ky)]
    have h544q : Hid (TAt (u538q.setCells u475q.heap.size 0 [.int .i64 (kc), .int .i64 (ky)]) u218q.heap.size t) := h540q.out.asideL (by omega) 0 [.int .i64 (kc), .int .i64 (ky)]
    have h545q : Hid (Bo (u538q.setCells u475q.heap.size 0 [.int .i64 (kc), .int .i64 (ky)]) u230q.heap.size [.int .i64 0, .int .i64 0]) := h541q.out.asideL (by omega) 0 [.int .i64 (kc), .int .i64 (ky)]
    have h546q : Hid (Bo (u538q.setCells u475q.heap.size 0 [.int .i64 (kc), .int .i64 (ky)]) u475q.heap.size [.int .i64 (kc), .int .i64 (ky)]) := h542q.out.set2 (.int .i64 (kc)) (.int .i64 (ky))
    clear h539q h540q h541q h542q
    refine hK.out _ _ h544q.out (fun hH => ?_)
    clear hK K
    generalize (u538q.setCells u475q.heap.size 0 [.int .i64 (kc), .int .i64 (ky)]) = u547q at h543q h544q h545q h546q hH ⊢
    try simp only [Act.put, List.setIfInBounds_toArray, List.set_cons_zero, List.set_cons_succ]
    refine wpAnyH_ready (rs := [9]) (by kernel_rfl) (by simp) ?_
    refine AllReadyH.cons (o := { dst := none, op := .store _ (.tmp 9) (.tmp 27), type := _, pos := _, after := _, guard := _ }) rfl (fun K hK => ?_) AllReadyH.nil
    rw [if_pos (by rfl)]
    refine wp_store_mid _ _ _ rfl u230q.heap.size _ #[.int .i64 (xc), .int .i64 (xy)] rfl rfl h545q.out.there2 HA.out (two_one _ _) ?_
    simp only [Act.put]
    have h548q : Hid (Gd n w (u547q.setCells u230q.heap.size 0 [.int .i64 (xc), .int .i64 (xy)])) := h543q.out.asideL (by omega) 0 [.int .i64 (xc), .int .i64 (xy)]
    have h549q : Hid (TAt (u547q.setCells u230q.heap.size 0 [.int .i64 (xc), .int .i64 (xy)]) u218q.heap.size t) := h544q.out.asideL (by omega) 0 [.int .i64 (xc), .int .i64 (xy)]
    have h550q : Hid (Bo (u547q.setCells u230q.heap.size 0 [.int .i64 (xc), .int .i64 (xy)]) u230q.heap.size [.int .i64 (xc), .int .i64 (xy)]) := h545q.out.set2 (.int .i64 (xc)) (.int .i64 (xy))
    have h551q : Hid (Bo (u547q.setCells u230q.heap.size 0 [.int .i64 (xc), .int .i64 (xy)]) u475q.heap.size [.int .i64 (kc), .int .i64 (ky)]) := h546q.out.asideL (by omega) 0 [.int .i64 (xc), .int .i64 (xy)]
    clear h543q h544q h545q h546q
    refine hK.out _ _ h549q.out (fun hH => ?_)
    clear hK K
    generalize (u547q.setCells u230q.heap.size 0 [.int .i64 (xc), .int .i64 (xy)]) = u552q at h548q h549q h550q h551q hH ⊢
    try simp only [Act.put, List.setIfInBounds_toArray, List.set_cons_zero, List.set_cons_succ]
    refine wpAnyH_done (by kernel_rfl) ?_ _
    go_wp2_with fail
    go_meet
    case rel => exact ⟨u475q.heap.size, u230q.heap.size, rfl, rfl, h548q, h549q, h551q, h550q⟩
  case rest =>
    obtain ⟨b_a, b_b, rfl, rfl, h553q, h554q, h555q, h556q⟩ := hcut
    go_wp2_with (first
      | (refine wpList_load_mid rfl 29 _ rfl u218q.heap.size _ rfl t.all _ h554q.out.range HD.out rfl (HS.out t) ?_))
    refine (DO _).mono ?_
    rintro e u557q ⟨rfl, hb⟩
    have h558q : Hid (Gd n w u557q) := h553q.out.later hb
    have h559q : Hid (TAt u557q u218q.heap.size t) := h554q.out.later hb
    have h560q : Hid (Bo u557q b_a [.int .i64 (kc), .int .i64 (ky)]) := h555q.out.later hb
    have h561q : Hid (Bo u557q b_b [.int .i64 (xc), .int .i64 (xy)]) := h556q.out.later hb
    clear h553q h554q h555q h556q
    clear hb
    clear DO
    have l562q : n ≤ u557q.heap.size := h558q.out.le
    have l563q : u218q.heap.size < u557q.heap.size := h559q.out.lt
    have l564q : b_a < u557q.heap.size := h560q.out.lt
    have l565q : b_b < u557q.heap.size := h561q.out.lt
    have h566q : Hid (Gd n w (u557q.alloc (.cells #[.int .i64 0, .int .i64 0, .int .i64 0, .int .i64 0, .int .i64 0, .int .i64 0, .int .i64 0, .int .i64 0, .int .i64 0, .int .i64 0, .int .i64 0, .int .i64 0, .int .i64 0, .int .i64 0, .int .i64 0, .int .i64 0] 29))) := h558q.out.new (.cells #[.int .i64 0, .int .i64 0, .int .i64 0, .int .i64 0, .int .i64 0, .int .i64 0, .int .i64 0, .int .i64 0, .int .i64 0, .int .i64 0, .int .i64 0, .int .i64 0, .int .i64 0, .int .i64 0, .int .i64 0, .int .i64 0] 29)
    have h567q : Hid (TAt (u557q.alloc (.cells #[.int .i64 0, .int .i64 0, .int .i64 0, .int .i64 0, .int .i64 0, .int .i64 0, .int .i64 0, .int .i64 0, .int .i64 0, .int .i64 0, .int .i64 0, .int .i64 0, .int .i64 0, .int .i64 0, .int .i64 0, .int .i64 0] 29)) u218q.heap.size t) := h559q.out.new (.cells #[.int .i64 0, .int .i64 0, .int .i64 0, .int .i64 0, .int .i64 0, .int .i64 0, .int .i64 0, .int .i64 0, .int .i64 0, .int .i64 0, .int .i64 0, .int .i64 0, .int .i64 0, .int .i64 0, .int .i64 0, .int .i64 0] 29)
    have h568q : Hid (Bo (u557q.alloc (.cells #[.int .i64 0, .int .i64 0, .int .i64 0, .int .i64 0, .int .i64 0, .int .i64 0, .int .i64 0, .int .i64 0, .int .i64 0, .int .i64 0, .int .i64 0, .int .i64 0, .int .i64 0, .int .i64 0, .int .i64 0, .int .i64 0] 29)) b_a [.int .i64 (kc), .int .i64 (ky)]) := h560q.out.new (.cells #[.int .i64 0, .int .i64 0, .int .i64 0, .int .i64 0, .int .i64 0, .int .i64 0, .int .i64 0, .int .i64 0, .int .i64 0, .int .i64 0, .int .i64 0, .int .i64 0, .int .i64 0, .int .i64 0, .int .i64 0, .int .i64 0] 29)
    have h569q : Hid (Bo (u557q.alloc (.cells #[.int .i64 0, .int .i64 0, .int .i64 0, .int .i64 0, .int .i64 0, .int .i64 0, .int .i64 0, .int .i64 0, .int .i64 0, .int .i64 0, .int .i64 0, .int .i64 0, .int .i64 0, .int .i64 0, .int .i64 0, .int .i64 0] 29)) b_b [.int .i64 (xc), .int .i64 (xy)]) := h561q.out.new (.cells #[.int .i64 0, .int .i64 0, .int .i64 0, .int .i64 0, .int .i64 0, .int .i64 0, .int .i64 0, .int .i64 0, .int .i64 0, .int .i64 0, .int .i64 0, .int .i64 0, .int .i64 0, .int .i64 0, .int .i64 0, .int .i64 0] 29)
    clear h558q h559q h560q h561q
    have h570q : Hid (TAt (u557q.alloc (.cells #[.int .i64 0, .int .i64 0, .int .i64 0, .int .i64 0, .int .i64 0, .int .i64 0, .int .i64 0, .int .i64 0, .int .i64 0, .int .i64 0, .int .i64 0, .int .i64 0, .int .i64 0, .int .i64 0, .int .i64 0, .int .i64 0] 29)) u557q.heap.size Tb.zero) := TAt.bornZero u557q 29 (by simp)
    have h571q : Hid (Gd n w ((u557q.alloc (.cells #[.int .i64 0, .int .i64 0, .int .i64 0, .int .i64 0, .int .i64 0, .int .i64 0, .int .i64 0, .int .i64 0, .int .i64 0, .int .i64 0, .int .i64 0, .int .i64 0, .int .i64 0, .int .i64 0, .int .i64 0, .int .i64 0] 29)).alloc (.cells #[.int .i64 0, .int .i64 0] 37))) := h566q.out.new (.cells #[.int .i64 0, .int .i64 0] 37)
    have h572q : Hid (TAt ((u557q.alloc (.cells #[.int .i64 0, .int .i64 0, .int .i64 0, .int .i64 0, .int .i64 0, .int .i64 0, .int .i64 0, .int .i64 0, .int .i64 0, .int .i64 0, .int .i64 0, .int .i64 0, .int .i64 0, .int .i64 0, .int .i64 0, .int .i64 0] 29)).alloc (.cells #[.int .i64 0, .int .i64 0] 37)) u218q.heap.size t) := h567q.out.new (.cells #[.int .i64 0, .int .i64 0] 37)
    have h573q : Hid (Bo ((u557q.alloc (.cells #[.int .i64 0, .int .i64 0, .int .i64 0, .int .i64 0, .int .i64 0, .int .i64 0, .int .i64 0, .int .i64 0, .int .i64 0, .int .i64 0, .int .i64 0, .int .i64 0, .int .i64 0, .int .i64 0, .int .i64 0, .int .i64 0] 29)).alloc (.cells #[.int .i64 0, .int .i64 0] 37)) b_a [.int .i64 (kc), .int .i64 (ky)]) := h568q.out.new (.cells #[.int .i64 0, .int .i64 0] 37)
    have h574q : Hid (Bo ((u557q.alloc (.cells #[.int .i64 0, .int .i64 0, .int .i64 0, .int .i64 0, .int .i64 0, .int .i64 0, .int .i64 0, .int .i64 0, .int .i64 0, .int .i64 0, .int .i64 0, .int .i64 0, .int .i64 0, .int .i64 0, .int .i64 0, .int .i64 0] 29)).alloc (.cells #[.int .i64 0, .int .i64 0] 37)) b_b [.int .i64 (xc), .int .i64 (xy)]) := h569q.out.new (.cells #[.int .i64 0, .int .i64 0] 37)
    have h575q : Hid (TAt ((u557q.alloc (.cells #[.int .i64 0, .int .i64 0, .int .i64 0, .int .i64 0, .int .i64 0, .int .i64 0, .int .i64 0, .int .i64 0, .int .i64 0, .int .i64 0, .int .i64 0, .int .i64 0, .int .i64 0, .int .i64 0, .int .i64 0, .int .i64 0] 29)).alloc (.cells #[.int .i64 0, .int .i64 0] 37)) u557q.heap.size Tb.zero) := h570q.out.new (.cells #[.int .i64 0, .int .i64 0] 37)
    clear h566q h567q h568q h569q h570q
    have h576q : Hid (Bo ((u557q.alloc (.cells #[.int .i64 0, .int .i64 0, .int .i64 0, .int .i64 0, .int .i64 0, .int .i64 0, .int .i64 0, .int .i64 0, .int .i64 0, .int .i64 0, .int .i64 0, .int .i64 0, .int .i64 0, .int .i64 0, .int .i64 0, .int .i64 0] 29)).alloc (.cells #[.int .i64 0, .int .i64 0] 37)) (u557q.heap.size + 1) [.int .i64 0, .int .i64 0]) := Bo.born (u557q.alloc (.cells #[.int .i64 0, .int .i64 0, .int .i64 0, .int .i64 0, .int .i64 0, .int .i64 0, .int .i64 0, .int .i64 0, .int .i64 0, .int .i64 0, .int .i64 0, .int .i64 0, .int .i64 0, .int .i64 0, .int .i64 0, .int .i64 0] 29)) [.int .i64 0, .int .i64 0] 37 (by simp)
    go_wp2_with (first
      | (refine wpList_store_mid rfl 29 _ _ rfl u557q.heap.size _ u.all.toArray rfl rfl (h575q.out.thereOf u) (HZ.out u) (u.all_all) ?_
         have h577q : Hid (Gd n w (((u557q.alloc (.cells #[.int .i64 0, .int .i64 0, .int .i64 0, .int .i64 0, .int .i64 0, .int .i64 0, .int .i64 0, .int .i64 0, .int .i64 0, .int .i64 0, .int .i64 0, .int .i64 0, .int .i64 0, .int .i64 0, .int .i64 0, .int .i64 0] 29)).alloc (.cells #[.int .i64 0, .int .i64 0] 37)).setCells u557q.heap.size 0 u.all)) := h571q.out.asideAll (by omega) u
         have h578q : Hid (TAt (((u557q.alloc (.cells #[.int .i64 0, .int .i64 0, .int .i64 0, .int .i64 0, .int .i64 0, .int .i64 0, .int .i64 0, .int .i64 0, .int .i64 0, .int .i64 0, .int .i64 0, .int .i64 0, .int .i64 0, .int .i64 0, .int .i64 0, .int .i64 0] 29)).alloc (.cells #[.int .i64 0, .int .i64 0] 37)).setCells u557q.heap.size 0 u.all) u218q.heap.size t) := h572q.out.asideAll (by omega) u
         have h579q : Hid (Bo (((u557q.alloc (.cells #[.int .i64 0, .int .i64 0, .int .i64 0, .int .i64 0, .int .i64 0, .int .i64 0, .int .i64 0, .int .i64 0, .int .i64 0, .int .i64 0, .int .i64 0, .int .i64 0, .int .i64 0, .int .i64 0, .int .i64 0, .int .i64 0] 29)).alloc (.cells #[.int .i64 0, .int .i64 0] 37)).setCells u557q.heap.size 0 u.all) b_a [.int .i64 (kc), .int .i64 (ky)]) := h573q.out.asideAll (by omega) u
         have h580q : Hid (Bo (((u557q.alloc (.cells #[.int .i64 0, .int .i64 0, .int .i64 0, .int .i64 0, .int .i64 0, .int .i64 0, .int .i64 0, .int .i64 0, .int .i64 0, .int .i64 0, .int .i64 0, .int .i64 0, .int .i64 0, .int .i64 0, .int .i64 0, .int .i64 0] 29)).alloc (.cells #[.int .i64 0, .int .i64 0] 37)).setCells u557q.heap.size 0 u.all) b_b [.int .i64 (xc), .int .i64 (xy)]) := h574q.out.asideAll (by omega) u
         have h581q : Hid (TAt (((u557q.alloc (.cells #[.int .i64 0, .int .i64 0, .int .i64 0, .int .i64 0, .int .i64 0, .int .i64 0, .int .i64 0, .int .i64 0, .int .i64 0, .int .i64 0, .int .i64 0, .int .i64 0, .int .i64 0, .int .i64 0, .int .i64 0, .int .i64 0] 29)).alloc (.cells #[.int .i64 0, .int .i64 0] 37)).setCells u557q.heap.size 0 u.all) u557q.heap.size u) := h575q.out.setAll u
         have h582q : Hid (Bo (((u557q.alloc (.cells #[.int .i64 0, .int .i64 0, .int .i64 0, .int .i64 0, .int .i64 0, .int .i64 0, .int .i64 0, .int .i64 0, .int .i64 0, .int .i64 0, .int .i64 0, .int .i64 0, .int .i64 0, .int .i64 0, .int .i64 0, .int .i64 0] 29)).alloc (.cells #[.int .i64 0, .int .i64 0] 37)).setCells u557q.heap.size 0 u.all) (u557q.heap.size + 1) [.int .i64 0, .int .i64 0]) := h576q.out.asideAll (by omega) u
         clear h571q h572q h573q h574q h575q h576q
         generalize (((u557q.alloc (.cells #[.int .i64 0, .int .i64 0, .int .i64 0, .int .i64 0, .int .i64 0, .int .i64 0, .int .i64 0, .int .i64 0, .int .i64 0, .int .i64 0, .int .i64 0, .int .i64 0, .int .i64 0, .int .i64 0, .int .i64 0, .int .i64 0] 29)).alloc (.cells #[.int .i64 0, .int .i64 0] 37)).setCells u557q.heap.size 0 u.all) = u583q at h577q h578q h579q h580q h581q h582q  ⊢)
      | (refine wpList_store_mid rfl 37 _ _ rfl (u557q.heap.size + 1) _ #[.int .i64 (kc), .int .i64 (ky)] rfl rfl h582q.out.there2 HA.out (two_one _ _) ?_
         have h584q : Hid (Gd n w (u583q.setCells (u557q.heap.size + 1) 0 [.int .i64 (kc), .int .i64 (ky)])) := h577q.out.asideL (by omega) 0 [.int .i64 (kc), .int .i64 (ky)]
         have h585q : Hid (TAt (u583q.setCells (u557q.heap.size + 1) 0 [.int .i64 (kc), .int .i64 (ky)]) u218q.heap.size t) := h578q.out.asideL (by omega) 0 [.int .i64 (kc), .int .i64 (ky)]
         have h586q : Hid (Bo (u583q.setCells (u557q.heap.size + 1) 0 [.int .i64 (kc), .int .i64 (ky)]) b_a [.int .i64 (kc), .int .i64 (ky)]) := h579q.out.asideL (by omega) 0 [.int .i64 (kc), .int .i64 (ky)]
         have h587q : Hid (Bo (u583q.setCells (u557q.heap.size + 1) 0 [.int .i64 (kc), .int .i64 (ky)]) b_b [.int .i64 (xc), .int .i64 (xy)]) := h580q.out.asideL (by omega) 0 [.int .i64 (kc), .int .i64 (ky)]
         have h588q : Hid (TAt (u583q.setCells (u557q.heap.size + 1) 0 [.int .i64 (kc), .int .i64 (ky)]) u557q.heap.size u) := h581q.out.asideL (by omega) 0 [.int .i64 (kc), .int .i64 (ky)]
         have h589q : Hid (Bo (u583q.setCells (u557q.heap.size + 1) 0 [.int .i64 (kc), .int .i64 (ky)]) (u557q.heap.size + 1) [.int .i64 (kc), .int .i64 (ky)]) := h582q.out.set2 (.int .i64 (kc)) (.int .i64 (ky))
         clear h577q h578q h579q h580q h581q h582q
         generalize (u583q.setCells (u557q.heap.size + 1) 0 [.int .i64 (kc), .int .i64 (ky)]) = u590q at h584q h585q h586q h587q h588q h589q  ⊢))
    have PK2 := peek_is u k (by omega) (by omega)
    rw [show look u k = (4, 0) from HG.out] at PK2
    dsimp only at PK2
    by_cases hqk : q = k
    · have m : (q == k) = true := by simp [hqk]
      clear hqk
      have h591q : Hid (Gd n w u590q.drew) := h584q.out.drew
      have h592q : Hid (TAt u590q.drew u218q.heap.size t) := h585q.out.drew
      have h593q : Hid (Bo u590q.drew b_a [.int .i64 (kc), .int .i64 (ky)]) := h586q.out.drew
      have h594q : Hid (Bo u590q.drew b_b [.int .i64 (xc), .int .i64 (xy)]) := h587q.out.drew
      have h595q : Hid (TAt u590q.drew u557q.heap.size u) := h588q.out.drew
      have h596q : Hid (Bo u590q.drew (u557q.heap.size + 1) [.int .i64 (kc), .int .i64 (ky)]) := h589q.out.drew
      clear h584q h585q h586q h587q h588q h589q
      refine wp_region_held_drew (S := fun w' => Bo w' (u557q.heap.size + 1) [.int .i64 (kc), .int .i64 (ky)] ∧ Bo w' b_a [.int .i64 (kc), .int .i64 (ky)] ∧ TAt w' u557q.heap.size u ∧ Bo w' b_b [.int .i64 (xc), .int .i64 (xy)]) (by kernel_rfl) ⟨h596q.out, h593q.out, h595q.out, h594q.out⟩ (fun hH => ?_)
      generalize u590q.drew = u597q at h591q h592q h593q h594q h595q h596q hH ⊢
      refine wpAnyH_take (i := 0) (oi := { dst := some 35, op := .load _ (.tmp 11), type := _, pos := _, after := _, guard := _ }) (v := ?_) rfl (by kernel_rfl) (by kernel_rfl) (by kernel_rfl) (fun _ _ _ h => h) (Or.inl ⟨by rfl, ?_⟩) hH ?_
      rotate_left
      · intro w hSw
        have c598q := (hSw.1).at 0 rfl
        have c599q := (hSw.1).at 1 rfl
        clear hSw
        go_simp
        try with_reducible rfl
      simp only [Act.put, List.setIfInBounds_toArray, List.set_cons_zero, List.set_cons_succ]
      refine wpAnyH_take (i := 1) (oi := { dst := some 36, op := .load _ (.tmp 8), type := _, pos := _, after := _, guard := _ }) (v := ?_) rfl (by kernel_rfl) (by kernel_rfl) (by kernel_rfl) (fun _ _ _ h => h) (Or.inl ⟨by rfl, ?_⟩) hH ?_
      rotate_left
      · intro w hSw
        have c600q := (hSw.2.1).at 0 rfl
        have c601q := (hSw.2.1).at 1 rfl
        clear hSw
        go_simp
        try with_reducible rfl
      simp only [Act.put, List.setIfInBounds_toArray, List.set_cons_zero, List.set_cons_succ]
      refine wpAnyH_take (i := 2) (oi := { dst := some 37, op := .binOp .eql _ (.tmp 35) (.tmp 36) _, type := _, pos := _, after := _, guard := _ }) (v := ?_) rfl (by kernel_rfl) (by kernel_rfl) (by kernel_rfl) (fun _ _ _ h => h) (Or.inl ⟨by rfl, ?_⟩) hH ?_
      rotate_left
      · intro w hSw
        clear hSw
        go_simp
        try with_reducible rfl
      simp only [Act.put, List.setIfInBounds_toArray, List.set_cons_zero, List.set_cons_succ]
      refine wpAnyH_take (i := 3) (oi := { dst := some 38, op := .move (.tmp 37), type := _, pos := _, after := _, guard := _ }) (v := ?_) rfl (by kernel_rfl) (by kernel_rfl) (by kernel_rfl) (fun _ _ _ h => h) (Or.inl ⟨by rfl, ?_⟩) hH ?_
      rotate_left
      · intro w hSw
        clear hSw
        go_simp
        try with_reducible rfl
      simp only [Act.put, List.setIfInBounds_toArray, List.set_cons_zero, List.set_cons_succ]
      refine wpAnyH_take (i := 4) (oi := { dst := some 39, op := .load _ (.tmp 10), type := _, pos := _, after := _, guard := _ }) (v := _) rfl (by kernel_rfl) (by kernel_rfl) (by kernel_rfl) (fun _ _ _ h => h) (yieldsIf_load_mid (by rfl) _ _ rfl u557q.heap.size _ rfl u.all _ (fun _ h => (h.2.2.1).range) HD.out rfl (HS.out u)) hH ?_
      simp only [Act.put, List.setIfInBounds_toArray, List.set_cons_zero, List.set_cons_succ]
      refine wpAnyH_take (i := 5) (oi := { dst := some 40, op := .move (.tmp 1), type := _, pos := _, after := _, guard := _ }) (v := ?_) rfl (by kernel_rfl) (by kernel_rfl) (by kernel_rfl) (fun _ _ _ h => h) (Or.inl ⟨by rfl, ?_⟩) hH ?_
      rotate_left
      · intro w hSw
        clear hSw
        go_simp
        try with_reducible rfl
      simp only [Act.put, List.setIfInBounds_toArray, List.set_cons_zero, List.set_cons_succ]
      refine wpAnyH_take (i := 7) (oi := { dst := some 42, op := .build _ #[(0, .const (.int .i64 4))], type := _, pos := _, after := _, guard := _ }) (v := ?_) rfl (by kernel_rfl) (by kernel_rfl) (by kernel_rfl) (fun _ _ _ h => h) (Or.inl ⟨by rfl, ?_⟩) hH ?_
      rotate_left
      · intro w hSw
        clear hSw
        go_simp
        try with_reducible rfl
      simp only [Act.put, List.setIfInBounds_toArray, List.set_cons_zero, List.set_cons_succ]
      refine wpAnyH_ready (rs := [6]) (by kernel_rfl) (by simp) ?_
      refine AllReadyH.cons (o := { dst := some 41, op := _, type := _, pos := _, after := _, guard := _ }) rfl (fun K hK => ?_) AllReadyH.nil
      go_simp
      refine (PK2 _).mono ?_
      rintro e u602q ⟨rfl, hb⟩
      have h603q : Hid (Gd n w u602q) := h591q.out.later hb
      have h604q : Hid (TAt u602q u218q.heap.size t) := h592q.out.later hb
      have h605q : Hid (Bo u602q b_a [.int .i64 (kc), .int .i64 (ky)]) := h593q.out.later hb
      have h606q : Hid (Bo u602q b_b [.int .i64 (xc), .int .i64 (xy)]) := h594q.out.later hb
      have h607q : Hid (TAt u602q u557q.heap.size u) := h595q.out.later hb
      have h608q : Hid (Bo u602q (u557q.heap.size + 1) [.int .i64 (kc), .int .i64 (ky)]) := h596q.out.later hb
      clear h591q h592q h593q h594q h595q h596q
      clear hb
      go_wp2_with fail
      refine hK.out _ _ ⟨h608q.out, h605q.out, h607q.out, h606q.out⟩ (fun hH => ?_)
      clear hK K
      try simp only [Act.put, List.setIfInBounds_toArray, List.set_cons_zero, List.set_cons_succ]
      refine wpAnyH_take (i := 8) (oi := { dst := some 43, op := .binOp .eql _ (.tmp 41) (.tmp 42) _, type := _, pos := _, after := _, guard := _ }) (v := ?_) rfl (by kernel_rfl) (by kernel_rfl) (by kernel_rfl) (fun _ _ _ h => h) (Or.inl ⟨by rfl, ?_⟩) hH ?_
      rotate_left
      · intro w hSw
        clear hSw
        go_simp
        try with_reducible rfl
      simp only [Act.put, List.setIfInBounds_toArray, List.set_cons_zero, List.set_cons_succ]
      refine wpAnyH_take (i := 9) (oi := { dst := some 44, op := .pick (.tmp 38) (.tmp 43) (.const (.bool false)), type := _, pos := _, after := _, guard := _ }) (v := ?_) rfl (by kernel_rfl) (by kernel_rfl) (by kernel_rfl) (fun _ _ _ h => h) (Or.inl ⟨by rfl, ?_⟩) hH ?_
      rotate_left
      · intro w hSw
        clear hSw
        go_simp
        try with_reducible rfl
      simp only [Act.put, List.setIfInBounds_toArray, List.set_cons_zero, List.set_cons_succ]
      refine wpAnyH_take (i := 10) (oi := { dst := some 45, op := .move (.tmp 44), type := _, pos := _, after := _, guard := _ }) (v := ?_) rfl (by kernel_rfl) (by kernel_rfl) (by kernel_rfl) (fun _ _ _ h => h) (Or.inl ⟨by rfl, ?_⟩) hH ?_
      rotate_left
      · intro w hSw
        clear hSw
        go_simp
        try with_reducible rfl
      simp only [Act.put, List.setIfInBounds_toArray, List.set_cons_zero, List.set_cons_succ]
      refine wpAnyH_take (i := 11) (oi := { dst := some 46, op := .move (.tmp 2), type := _, pos := _, after := _, guard := _ }) (v := ?_) rfl (by kernel_rfl) (by kernel_rfl) (by kernel_rfl) (fun _ _ _ h => h) (Or.inl ⟨by rfl, ?_⟩) hH ?_
      rotate_left
      · intro w hSw
        clear hSw
        go_simp
        try with_reducible rfl
      simp only [Act.put, List.setIfInBounds_toArray, List.set_cons_zero, List.set_cons_succ]
      refine wpAnyH_take (i := 12) (oi := { dst := some 47, op := .move (.tmp 1), type := _, pos := _, after := _, guard := _ }) (v := ?_) rfl (by kernel_rfl) (by kernel_rfl) (by kernel_rfl) (fun _ _ _ h => h) (Or.inl ⟨by rfl, ?_⟩) hH ?_
      rotate_left
      · intro w hSw
        clear hSw
        go_simp
        try with_reducible rfl
      simp only [Act.put, List.setIfInBounds_toArray, List.set_cons_zero, List.set_cons_succ]
      refine wpAnyH_take (i := 13) (oi := { dst := some 48, op := .binOp .eql _ (.tmp 46) (.tmp 47) _, type := _, pos := _, after := _, guard := _ }) (v := ?_) rfl (by kernel_rfl) (by kernel_rfl) (by kernel_rfl) (fun _ _ _ h => h) (Or.inl ⟨by rfl, ?_⟩) hH ?_
      rotate_left
      · intro w hSw
        clear hSw
        go_simp
        try with_reducible rfl
      simp only [Act.put, List.setIfInBounds_toArray, List.set_cons_zero, List.set_cons_succ]
      refine wpAnyH_take (i := 14) (oi := { dst := some 49, op := .move (.tmp 48), type := _, pos := _, after := _, guard := _ }) (v := ?_) rfl (by kernel_rfl) (by kernel_rfl) (by kernel_rfl) (fun _ _ _ h => h) (Or.inl ⟨by rfl, ?_⟩) hH ?_
      rotate_left
      · intro w hSw
        clear hSw
        go_simp
        try with_reducible rfl
      simp only [Act.put, List.setIfInBounds_toArray, List.set_cons_zero, List.set_cons_succ]
      refine wpAnyH_take (i := 15) (oi := { dst := some 50, op := .load _ (.tmp 10), type := _, pos := _, after := _, guard := _ }) (v := _) rfl (by kernel_rfl) (by kernel_rfl) (by kernel_rfl) (fun _ _ _ h => h) (Or.inr ⟨by rfl, rfl⟩) hH ?_
      simp only [Act.put, List.setIfInBounds_toArray, List.set_cons_zero, List.set_cons_succ]
      refine wpAnyH_take (i := 16) (oi := { dst := some 51, op := .move (.tmp 2), type := _, pos := _, after := _, guard := _ }) (v := _) rfl (by kernel_rfl) (by kernel_rfl) (by kernel_rfl) (fun _ _ _ h => h) (Or.inr ⟨by rfl, rfl⟩) hH ?_
      simp only [Act.put, List.setIfInBounds_toArray, List.set_cons_zero, List.set_cons_succ]
      refine wpAnyH_take (i := 17) (oi := { dst := some 52, op := .call { callee := Callee.value (.func 20), args := #[.tmp 50, .tmp 51], argTypes := #[29, 3] }, type := _, pos := _, after := _, guard := _ }) (v := _) rfl (by kernel_rfl) (by kernel_rfl) (by kernel_rfl) (fun _ _ _ h => h) (Or.inr ⟨by rfl, rfl⟩) hH ?_
      simp only [Act.put, List.setIfInBounds_toArray, List.set_cons_zero, List.set_cons_succ]
      refine wpAnyH_take (i := 18) (oi := { dst := some 53, op := .load _ (.tmp 9), type := _, pos := _, after := _, guard := _ }) (v := _) rfl (by kernel_rfl) (by kernel_rfl) (by kernel_rfl) (fun _ _ _ h => h) (Or.inr ⟨by rfl, rfl⟩) hH ?_
      simp only [Act.put, List.setIfInBounds_toArray, List.set_cons_zero, List.set_cons_succ]
      refine wpAnyH_take (i := 19) (oi := { dst := some 54, op := .binOp .eql _ (.tmp 52) (.tmp 53) _, type := _, pos := _, after := _, guard := _ }) (v := _) rfl (by kernel_rfl) (by kernel_rfl) (by kernel_rfl) (fun _ _ _ h => h) (Or.inr ⟨by rfl, rfl⟩) hH ?_
      simp only [Act.put, List.setIfInBounds_toArray, List.set_cons_zero, List.set_cons_succ]
      refine wpAnyH_take (i := 20) (oi := { dst := some 55, op := .pick (.tmp 49) (.const (.bool true)) (.tmp 54), type := _, pos := _, after := _, guard := _ }) (v := ?_) rfl (by kernel_rfl) (by kernel_rfl) (by kernel_rfl) (fun _ _ _ h => h) (Or.inl ⟨by rfl, ?_⟩) hH ?_
      rotate_left
      · intro w hSw
        clear hSw
        go_simp
        try with_reducible rfl
      simp only [Act.put, List.setIfInBounds_toArray, List.set_cons_zero, List.set_cons_succ]
      refine wpAnyH_take (i := 21) (oi := { dst := some 56, op := .pick (.tmp 45) (.tmp 55) (.const (.bool false)), type := _, pos := _, after := _, guard := _ }) (v := ?_) rfl (by kernel_rfl) (by kernel_rfl) (by kernel_rfl) (fun _ _ _ h => h) (Or.inl ⟨by rfl, ?_⟩) hH ?_
      rotate_left
      · intro w hSw
        clear hSw
        go_simp
        try with_reducible rfl
      simp only [Act.put, List.setIfInBounds_toArray, List.set_cons_zero, List.set_cons_succ]
      refine wpAnyH_take (i := 22) (oi := { dst := some 6, op := .assign (.tmp 56), type := _, pos := _, after := _, guard := _ }) (v := ?_) rfl (by kernel_rfl) (by kernel_rfl) (by kernel_rfl) (fun _ _ _ h => h) (Or.inl ⟨by rfl, ?_⟩) hH ?_
      rotate_left
      · intro w hSw
        clear hSw
        go_simp
        try with_reducible rfl
      simp only [Act.put, List.setIfInBounds_toArray, List.set_cons_zero, List.set_cons_succ]
      refine wpAnyH_done (by kernel_rfl) ?_ _
      go_wp2
      go_ret
      exact ⟨rfl, h603q.out.2⟩
    · have m : (q == k) = false := by simp [hqk]
      have PQ2 := peek_is u q (by omega) (by omega)
      rw [show look u q = (xc, xy) from ((HO.out q (by omega) hqk).trans LQ.out)] at PQ2
      dsimp only at PQ2
      clear hqk
      have h609q : Hid (Gd n w u590q.drew) := h584q.out.drew
      have h610q : Hid (TAt u590q.drew u218q.heap.size t) := h585q.out.drew
      have h611q : Hid (Bo u590q.drew b_a [.int .i64 (kc), .int .i64 (ky)]) := h586q.out.drew
      have h612q : Hid (Bo u590q.drew b_b [.int .i64 (xc), .int .i64 (xy)]) := h587q.out.drew
      have h613q : Hid (TAt u590q.drew u557q.heap.size u) := h588q.out.drew
      have h614q : Hid (Bo u590q.drew (u557q.heap.size + 1) [.int .i64 (kc), .int .i64 (ky)]) := h589q.out.drew
      clear h584q h585q h586q h587q h588q h589q
      refine wp_region_held_drew (S := fun w' => Bo w' (u557q.heap.size + 1) [.int .i64 (kc), .int .i64 (ky)] ∧ Bo w' b_a [.int .i64 (kc), .int .i64 (ky)] ∧ TAt w' u557q.heap.size u ∧ Bo w' b_b [.int .i64 (xc), .int .i64 (xy)]) (by kernel_rfl) ⟨h614q.out, h611q.out, h613q.out, h612q.out⟩ (fun hH => ?_)
      generalize u590q.drew = u615q at h609q h610q h611q h612q h613q h614q hH ⊢
      refine wpAnyH_take (i := 0) (oi := { dst := some 35, op := .load _ (.tmp 11), type := _, pos := _, after := _, guard := _ }) (v := ?_) rfl (by kernel_rfl) (by kernel_rfl) (by kernel_rfl) (fun _ _ _ h => h) (Or.inl ⟨by rfl, ?_⟩) hH ?_
      rotate_left
      · intro w hSw
        have c616q := (hSw.1).at 0 rfl
        have c617q := (hSw.1).at 1 rfl
        clear hSw
        go_simp
        try with_reducible rfl
      simp only [Act.put, List.setIfInBounds_toArray, List.set_cons_zero, List.set_cons_succ]
      refine wpAnyH_take (i := 1) (oi := { dst := some 36, op := .load _ (.tmp 8), type := _, pos := _, after := _, guard := _ }) (v := ?_) rfl (by kernel_rfl) (by kernel_rfl) (by kernel_rfl) (fun _ _ _ h => h) (Or.inl ⟨by rfl, ?_⟩) hH ?_
      rotate_left
      · intro w hSw
        have c618q := (hSw.2.1).at 0 rfl
        have c619q := (hSw.2.1).at 1 rfl
        clear hSw
        go_simp
        try with_reducible rfl
      simp only [Act.put, List.setIfInBounds_toArray, List.set_cons_zero, List.set_cons_succ]
      refine wpAnyH_take (i := 2) (oi := { dst := some 37, op := .binOp .eql _ (.tmp 35) (.tmp 36) _, type := _, pos := _, after := _, guard := _ }) (v := ?_) rfl (by kernel_rfl) (by kernel_rfl) (by kernel_rfl) (fun _ _ _ h => h) (Or.inl ⟨by rfl, ?_⟩) hH ?_
      rotate_left
      · intro w hSw
        clear hSw
        go_simp
        try with_reducible rfl
      simp only [Act.put, List.setIfInBounds_toArray, List.set_cons_zero, List.set_cons_succ]
      refine wpAnyH_take (i := 3) (oi := { dst := some 38, op := .move (.tmp 37), type := _, pos := _, after := _, guard := _ }) (v := ?_) rfl (by kernel_rfl) (by kernel_rfl) (by kernel_rfl) (fun _ _ _ h => h) (Or.inl ⟨by rfl, ?_⟩) hH ?_
      rotate_left
      · intro w hSw
        clear hSw
        go_simp
        try with_reducible rfl
      simp only [Act.put, List.setIfInBounds_toArray, List.set_cons_zero, List.set_cons_succ]
      refine wpAnyH_take (i := 4) (oi := { dst := some 39, op := .load _ (.tmp 10), type := _, pos := _, after := _, guard := _ }) (v := _) rfl (by kernel_rfl) (by kernel_rfl) (by kernel_rfl) (fun _ _ _ h => h) (yieldsIf_load_mid (by rfl) _ _ rfl u557q.heap.size _ rfl u.all _ (fun _ h => (h.2.2.1).range) HD.out rfl (HS.out u)) hH ?_
      simp only [Act.put, List.setIfInBounds_toArray, List.set_cons_zero, List.set_cons_succ]
      refine wpAnyH_take (i := 5) (oi := { dst := some 40, op := .move (.tmp 1), type := _, pos := _, after := _, guard := _ }) (v := ?_) rfl (by kernel_rfl) (by kernel_rfl) (by kernel_rfl) (fun _ _ _ h => h) (Or.inl ⟨by rfl, ?_⟩) hH ?_
      rotate_left
      · intro w hSw
        clear hSw
        go_simp
        try with_reducible rfl
      simp only [Act.put, List.setIfInBounds_toArray, List.set_cons_zero, List.set_cons_succ]
      refine wpAnyH_take (i := 7) (oi := { dst := some 42, op := .build _ #[(0, .const (.int .i64 4))], type := _, pos := _, after := _, guard := _ }) (v := ?_) rfl (by kernel_rfl) (by kernel_rfl) (by kernel_rfl) (fun _ _ _ h => h) (Or.inl ⟨by rfl, ?_⟩) hH ?_
      rotate_left
      · intro w hSw
        clear hSw
        go_simp
        try with_reducible rfl
      simp only [Act.put, List.setIfInBounds_toArray, List.set_cons_zero, List.set_cons_succ]
      refine wpAnyH_ready (rs := [6]) (by kernel_rfl) (by simp) ?_
      refine AllReadyH.cons (o := { dst := some 41, op := _, type := _, pos := _, after := _, guard := _ }) rfl (fun K hK => ?_) AllReadyH.nil
      go_simp
      refine (PK2 _).mono ?_
      rintro e u620q ⟨rfl, hb⟩
      have h621q : Hid (Gd n w u620q) := h609q.out.later hb
      have h622q : Hid (TAt u620q u218q.heap.size t) := h610q.out.later hb
      have h623q : Hid (Bo u620q b_a [.int .i64 (kc), .int .i64 (ky)]) := h611q.out.later hb
      have h624q : Hid (Bo u620q b_b [.int .i64 (xc), .int .i64 (xy)]) := h612q.out.later hb
      have h625q : Hid (TAt u620q u557q.heap.size u) := h613q.out.later hb
      have h626q : Hid (Bo u620q (u557q.heap.size + 1) [.int .i64 (kc), .int .i64 (ky)]) := h614q.out.later hb
      clear h609q h610q h611q h612q h613q h614q
      clear hb
      go_wp2_with fail
      refine hK.out _ _ ⟨h626q.out, h623q.out, h625q.out, h624q.out⟩ (fun hH => ?_)
      clear hK K
      try simp only [Act.put, List.setIfInBounds_toArray, List.set_cons_zero, List.set_cons_succ]
      refine wpAnyH_take (i := 8) (oi := { dst := some 43, op := .binOp .eql _ (.tmp 41) (.tmp 42) _, type := _, pos := _, after := _, guard := _ }) (v := ?_) rfl (by kernel_rfl) (by kernel_rfl) (by kernel_rfl) (fun _ _ _ h => h) (Or.inl ⟨by rfl, ?_⟩) hH ?_
      rotate_left
      · intro w hSw
        clear hSw
        go_simp
        try with_reducible rfl
      simp only [Act.put, List.setIfInBounds_toArray, List.set_cons_zero, List.set_cons_succ]
      refine wpAnyH_take (i := 9) (oi := { dst := some 44, op := .pick (.tmp 38) (.tmp 43) (.const (.bool false)), type := _, pos := _, after := _, guard := _ }) (v := ?_) rfl (by kernel_rfl) (by kernel_rfl) (by kernel_rfl) (fun _ _ _ h => h) (Or.inl ⟨by rfl, ?_⟩) hH ?_
      rotate_left
      · intro w hSw
        clear hSw
        go_simp
        try with_reducible rfl
      simp only [Act.put, List.setIfInBounds_toArray, List.set_cons_zero, List.set_cons_succ]
      refine wpAnyH_take (i := 10) (oi := { dst := some 45, op := .move (.tmp 44), type := _, pos := _, after := _, guard := _ }) (v := ?_) rfl (by kernel_rfl) (by kernel_rfl) (by kernel_rfl) (fun _ _ _ h => h) (Or.inl ⟨by rfl, ?_⟩) hH ?_
      rotate_left
      · intro w hSw
        clear hSw
        go_simp
        try with_reducible rfl
      simp only [Act.put, List.setIfInBounds_toArray, List.set_cons_zero, List.set_cons_succ]
      refine wpAnyH_take (i := 11) (oi := { dst := some 46, op := .move (.tmp 2), type := _, pos := _, after := _, guard := _ }) (v := ?_) rfl (by kernel_rfl) (by kernel_rfl) (by kernel_rfl) (fun _ _ _ h => h) (Or.inl ⟨by rfl, ?_⟩) hH ?_
      rotate_left
      · intro w hSw
        clear hSw
        go_simp
        try with_reducible rfl
      simp only [Act.put, List.setIfInBounds_toArray, List.set_cons_zero, List.set_cons_succ]
      refine wpAnyH_take (i := 12) (oi := { dst := some 47, op := .move (.tmp 1), type := _, pos := _, after := _, guard := _ }) (v := ?_) rfl (by kernel_rfl) (by kernel_rfl) (by kernel_rfl) (fun _ _ _ h => h) (Or.inl ⟨by rfl, ?_⟩) hH ?_
      rotate_left
      · intro w hSw
        clear hSw
        go_simp
        try with_reducible rfl
      simp only [Act.put, List.setIfInBounds_toArray, List.set_cons_zero, List.set_cons_succ]
      refine wpAnyH_take (i := 13) (oi := { dst := some 48, op := .binOp .eql _ (.tmp 46) (.tmp 47) _, type := _, pos := _, after := _, guard := _ }) (v := ?_) rfl (by kernel_rfl) (by kernel_rfl) (by kernel_rfl) (fun _ _ _ h => h) (Or.inl ⟨by rfl, ?_⟩) hH ?_
      rotate_left
      · intro w hSw
        clear hSw
        go_simp
        try with_reducible rfl
      simp only [Act.put, List.setIfInBounds_toArray, List.set_cons_zero, List.set_cons_succ]
      refine wpAnyH_take (i := 14) (oi := { dst := some 49, op := .move (.tmp 48), type := _, pos := _, after := _, guard := _ }) (v := ?_) rfl (by kernel_rfl) (by kernel_rfl) (by kernel_rfl) (fun _ _ _ h => h) (Or.inl ⟨by rfl, ?_⟩) hH ?_
      rotate_left
      · intro w hSw
        clear hSw
        go_simp
        try with_reducible rfl
      simp only [Act.put, List.setIfInBounds_toArray, List.set_cons_zero, List.set_cons_succ]
      refine wpAnyH_take (i := 15) (oi := { dst := some 50, op := .load _ (.tmp 10), type := _, pos := _, after := _, guard := _ }) (v := _) rfl (by kernel_rfl) (by kernel_rfl) (by kernel_rfl) (fun _ _ _ h => h) (yieldsIf_load_mid (by rfl) _ _ rfl u557q.heap.size _ rfl u.all _ (fun _ h => (h.2.2.1).range) HD.out rfl (HS.out u)) hH ?_
      simp only [Act.put, List.setIfInBounds_toArray, List.set_cons_zero, List.set_cons_succ]
      refine wpAnyH_take (i := 16) (oi := { dst := some 51, op := .move (.tmp 2), type := _, pos := _, after := _, guard := _ }) (v := ?_) rfl (by kernel_rfl) (by kernel_rfl) (by kernel_rfl) (fun _ _ _ h => h) (Or.inl ⟨by rfl, ?_⟩) hH ?_
      rotate_left
      · intro w hSw
        clear hSw
        go_simp
        try with_reducible rfl
      simp only [Act.put, List.setIfInBounds_toArray, List.set_cons_zero, List.set_cons_succ]
      refine wpAnyH_take (i := 18) (oi := { dst := some 53, op := .load _ (.tmp 9), type := _, pos := _, after := _, guard := _ }) (v := ?_) rfl (by kernel_rfl) (by kernel_rfl) (by kernel_rfl) (fun _ _ _ h => h) (Or.inl ⟨by rfl, ?_⟩) hH ?_
      rotate_left
      · intro w hSw
        have c627q := (hSw.2.2.2).at 0 rfl
        have c628q := (hSw.2.2.2).at 1 rfl
        clear hSw
        go_simp
        try with_reducible rfl
      simp only [Act.put, List.setIfInBounds_toArray, List.set_cons_zero, List.set_cons_succ]
      refine wpAnyH_ready (rs := [17]) (by kernel_rfl) (by simp) ?_
      refine AllReadyH.cons (o := { dst := some 52, op := _, type := _, pos := _, after := _, guard := _ }) rfl (fun K hK => ?_) AllReadyH.nil
      go_simp
      refine (PQ2 _).mono ?_
      rintro e u629q ⟨rfl, hb⟩
      have h630q : Hid (Gd n w u629q) := h621q.out.later hb
      have h631q : Hid (TAt u629q u218q.heap.size t) := h622q.out.later hb
      have h632q : Hid (Bo u629q b_a [.int .i64 (kc), .int .i64 (ky)]) := h623q.out.later hb
      have h633q : Hid (Bo u629q b_b [.int .i64 (xc), .int .i64 (xy)]) := h624q.out.later hb
      have h634q : Hid (TAt u629q u557q.heap.size u) := h625q.out.later hb
      have h635q : Hid (Bo u629q (u557q.heap.size + 1) [.int .i64 (kc), .int .i64 (ky)]) := h626q.out.later hb
      clear h621q h622q h623q h624q h625q h626q
      clear hb
      go_wp2_with fail
      refine hK.out _ _ ⟨h635q.out, h632q.out, h634q.out, h633q.out⟩ (fun hH => ?_)
      clear hK K
      try simp only [Act.put, List.setIfInBounds_toArray, List.set_cons_zero, List.set_cons_succ]
      refine wpAnyH_take (i := 19) (oi := { dst := some 54, op := .binOp .eql _ (.tmp 52) (.tmp 53) _, type := _, pos := _, after := _, guard := _ }) (v := ?_) rfl (by kernel_rfl) (by kernel_rfl) (by kernel_rfl) (fun _ _ _ h => h) (Or.inl ⟨by rfl, ?_⟩) hH ?_
      rotate_left
      · intro w hSw
        clear hSw
        go_simp
        try with_reducible rfl
      simp only [Act.put, List.setIfInBounds_toArray, List.set_cons_zero, List.set_cons_succ]
      refine wpAnyH_take (i := 20) (oi := { dst := some 55, op := .pick (.tmp 49) (.const (.bool true)) (.tmp 54), type := _, pos := _, after := _, guard := _ }) (v := ?_) rfl (by kernel_rfl) (by kernel_rfl) (by kernel_rfl) (fun _ _ _ h => h) (Or.inl ⟨by rfl, ?_⟩) hH ?_
      rotate_left
      · intro w hSw
        clear hSw
        go_simp
        try with_reducible rfl
      simp only [Act.put, List.setIfInBounds_toArray, List.set_cons_zero, List.set_cons_succ]
      refine wpAnyH_take (i := 21) (oi := { dst := some 56, op := .pick (.tmp 45) (.tmp 55) (.const (.bool false)), type := _, pos := _, after := _, guard := _ }) (v := ?_) rfl (by kernel_rfl) (by kernel_rfl) (by kernel_rfl) (fun _ _ _ h => h) (Or.inl ⟨by rfl, ?_⟩) hH ?_
      rotate_left
      · intro w hSw
        clear hSw
        go_simp
        try with_reducible rfl
      simp only [Act.put, List.setIfInBounds_toArray, List.set_cons_zero, List.set_cons_succ]
      refine wpAnyH_take (i := 22) (oi := { dst := some 6, op := .assign (.tmp 56), type := _, pos := _, after := _, guard := _ }) (v := ?_) rfl (by kernel_rfl) (by kernel_rfl) (by kernel_rfl) (fun _ _ _ h => h) (Or.inl ⟨by rfl, ?_⟩) hH ?_
      rotate_left
      · intro w hSw
        clear hSw
        go_simp
        try with_reducible rfl
      simp only [Act.put, List.setIfInBounds_toArray, List.set_cons_zero, List.set_cons_succ]
      refine wpAnyH_done (by kernel_rfl) ?_ _
      go_wp2
      go_ret
      exact ⟨rfl, h630q.out.2⟩


set_option maxRecDepth 100000 in
theorem lifted (os : Os) (started : os.Started) (H : Type) (enc : TypeId × Value → H) :
    ReturnsInHanded {} Try.checked os 7 .any (Rows.tableTakesSpec.pre6 enc Try.prog Try.f7 Rows.tableTakesRow.domain false) (Rows.tableTakesSpec.post enc Try.prog Try.f7 false true false false) := by
  refine returnsInHanded_of_change (C := Try.checked) own started (by kernel_rfl) Try.func7
    (ChangeSpec.witness6 (enc := enc) (C := Try.checked) false ⟨#[], #[.slice none 0 0, .int .i64 0, .int .i64 0], []⟩ 8 (by kernel_rfl) (by kernel_rfl) (by kernel_rfl) (by kernel_rfl)) ?_
  intro W base args ds gs before hval0 hW hcnd _
  have hval : ∀ (j : Nat) t v, Try.f7.params[j]? = some t → args[j]? = some v → Value.okWide Try.prog W .any base t v := hval0
  have hW' := hW
  obtain ⟨p, q, hA0, hV, rfl, hfz, hnd⟩ := hW
  have hA : DataW.TrodAll enc Try.prog W 0 (fun _ => true) true Try.f7.params.toList args.toList ds p := hA0
  rw [Try.params7] at hA hval
  obtain ⟨v0, vs0, d0, ds0, p0, q0, hargs, rfl, rfl, h0, r0⟩ := trodAll_cons hA
  obtain ⟨v1, vs1, d1, ds1, p1, q1, rfl, rfl, rfl, h1, r1⟩ := trodAll_cons r0
  obtain ⟨v2, vs2, d2, ds2, p2, q2, rfl, rfl, rfl, h2, r2⟩ := trodAll_cons r1
  obtain ⟨rfl, rfl, rfl⟩ := trodAll_nil r2
  obtain rfl : args = #[v0, v1, v2] := by cases args; simp_all
  obtain ⟨rfl, rfl⟩ := trodVars_none hV
  obtain ⟨n0, D0⟩ := ops_of_trod (hval 0 43 v0 rfl rfl) h0
  obtain ⟨a1, rfl, rfl, rfl, w1⟩ := open_int Try.underlying3 (hval 1 3 v1 rfl rfl) h1
  obtain ⟨a2, rfl, rfl, rfl, w2⟩ := open_int Try.underlying3 (hval 2 3 v2 rfl rfl) h2
  have hlt := hW'.lt
  clear hA0 hval0
  refine (walk v0 n0 a1 a2 w1 w2 W  D0).mono fun e W' ⟨he, hg⟩ => ?_
  subst he
  exact ⟨_, rfl, post_below (pv := []) hW' (fun _ _ _ => (trodAll_cons_mk (shut_bool Try.underlying4 _) trodAll_mk0)) (fun sp hsp => (trodAll_cons_mk (ops_stay h0 hg (fun x hx => hlt x (by simp [hx])) (fun x hx => hsp x (by simp [hx]))) (trodAll_cons_mk (shut_int Try.underlying3 w1) (trodAll_cons_mk (shut_int Try.underlying3 w2) trodAll_mk0)))) (fun _ _ => rfl) (by simp) (hg.frame _)⟩

theorem over : Rows.tableTakesRow.holds Try.pinned (OpenSpec.ofChange Rows.tableTakesSpec) :=
  OpenClaim.holds_of_wide 7 Try.f7 rfl rfl rfl rfl rfl rfl rfl ⟨rfl, rfl, rfl, rfl, rfl⟩ rfl rfl rfl rfl rfl (by kernel_rfl) Try.func7 (by kernel_rfl)
    (of_decide_eq_true (by kernel_rfl)) (by unfold Func.isWrapper; first | (rw [if_pos (by decide +kernel)]; kernel_rfl) | (rw [if_neg (by decide +kernel)]; exact ⟨rfl, rfl⟩))
    (fun os started H enc _ => lifted os started H enc)

theorem proved : Rows.TableTakesSaid :=
  over
#print axioms proved
end Go.Proofs.Ytojnkfdodjcnfaa.tableTakes
