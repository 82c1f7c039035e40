/- TableBack is proved: for every list of operations, keys and value the call returns true (a new key that is put in, and taken out, leaves each key what it had). -/
import Derived.Test.YtojnkfdodjcnfabRows
import Derived.Test.YtojnkfdodjcnfabKf
import Derived.Test.YtojnkfdodjcnfabTl
import Derived.Test.YtojnkfdodjcnfabArgOps
import Derived.Deep.DeepCutAuto
import Derived.Deep.RegionHeld3

namespace Go.Proofs.Ytojnkfdodjcnfab.tableBack
open Go.ChangeShapes Go.WideShapes Go.ChangeAt Go.RowKit
set_option linter.unusedVariables false

theorem own : ownKnob Try.prog.godebug = none := by kernel_rfl

set_option maxHeartbeats 4000000 in
set_option maxRecDepth 20000 in
theorem walk (v0 : Value) (n0 : Nat) (a1 a2 a3 : Int) (w1 : (Lit.int .i64 a1).wf = true) (w2 : (Lit.int .i64 a2).wf = true) (w3 : (Lit.int .i64 a3).wf = true) (w : World) (D0 : Ops w v0 n0) :
    Calls Try.prog 4 #[v0, .int .i64 a1, .int .i64 a2, .int .i64 a3] w fun e w' => e = .returned (.bool true) ∧ Below w.heap.size w w' := by
  obtain ⟨na, ea, hd⟩ := slots_array
  have HD : Hid _ := hd
  clear hd
  have HS : Hid (∀ t : Tb, (Try.prog.info? 27).map (·.size) = some t.all.length) := slots_size
  have HZ : Hid (∀ t : Tb, (Try.prog.info? 27).map (·.size) = some t.all.toArray.size) := slots_size2
  have HT : Hid ((Try.prog.info? 25).map (·.size) = some 2) := slot_size
  have HA : Hid ((Try.prog.info? 31).map (·.size) = some 2) := answer_size
  obtain ⟨fs, ha⟩ := answer_struct
  have HDA : Hid _ := ha
  clear ha
  have EQ := slots_equal
  have FD0 := field0
  have FD1 := field1
  have g0 : Hid (Gd w.heap.size w w) := Gd.refl w
  have HD0 : Hid (Ops w v0 n0) := D0
  clear D0
  clear w1 w2 w3
  obtain ⟨r1, hr1, pr1⟩ := key_fun a1
  have Pr1 : Hid _ := pr1
  clear pr1
  obtain ⟨r2, hr2, pr2⟩ := pick_1000 a2
  have Pr2 : Hid _ := pr2
  clear pr2
  obtain ⟨r3, hr3, pr3⟩ := pick_12 a3
  have Pr3 : Hid _ := pr3
  clear pr3
  obtain ⟨k, ek⟩ : ∃ k : Int, 1 + (r1 : Int) = k := ⟨_, rfl⟩
  have hk1 : 1 ≤ k := by omega
  have hk2 : k ≤ 1000 := by omega
  obtain ⟨v, ev⟩ : ∃ v : Int, (r2 : Int) = v := ⟨_, rfl⟩
  have hv0 : 0 ≤ v := by omega
  have hv1 : v ≤ 4294967295 := by omega
  obtain ⟨q, eq⟩ : ∃ q : Int, 1 + (r3 : Int) = q := ⟨_, rfl⟩
  have hq1 : 1 ≤ q := by omega
  have hq2 : q ≤ 12 := by omega
  rw [ek] at Pr1
  rw [ev] at Pr2
  clear ek ev hr1 hr2
  go_enter Try.func4, Try.ntmps4
  go_wp2_with fail
  generalize w.heap.size = n at g0 ⊢
  refine (tabled_is _).mono ?_
  rintro e u1591q ⟨rfl, hb⟩
  have h1592q : Hid (Gd n w u1591q) := g0.out.later hb
  clear g0
  clear hb
  go_wp2_with fail
  refine (filled_is (HD0.out.later h1592q.out.2)).mono ?_
  rintro e u1593q ⟨t, hR, rfl, hb⟩
  have h1594q : Hid (Gd n w u1593q) := h1592q.out.later hb
  clear h1592q
  clear hb
  have R : Hid (RT t) := hR
  clear hR HD0
  have l1595q : n ≤ u1593q.heap.size := h1594q.out.le
  have h1596q : Hid (Gd n w (u1593q.alloc (.cells #[.int .i64 0, .int .i64 0, .int .i64 0, .int .i64 0, .int .i64 0, .int .i64 0, .int .i64 0, .int .i64 0, .int .i64 0, .int .i64 0, .int .i64 0, .int .i64 0, .int .i64 0, .int .i64 0, .int .i64 0, .int .i64 0] 27))) := h1594q.out.new (.cells #[.int .i64 0, .int .i64 0, .int .i64 0, .int .i64 0, .int .i64 0, .int .i64 0, .int .i64 0, .int .i64 0, .int .i64 0, .int .i64 0, .int .i64 0, .int .i64 0, .int .i64 0, .int .i64 0, .int .i64 0, .int .i64 0] 27)
  clear h1594q
  have h1597q : Hid (TAt (u1593q.alloc (.cells #[.int .i64 0, .int .i64 0, .int .i64 0, .int .i64 0, .int .i64 0, .int .i64 0, .int .i64 0, .int .i64 0, .int .i64 0, .int .i64 0, .int .i64 0, .int .i64 0, .int .i64 0, .int .i64 0, .int .i64 0, .int .i64 0] 27)) u1593q.heap.size Tb.zero) := TAt.bornZero u1593q 27 (by simp)
  obtain ⟨⟨kc, ky⟩, hLK⟩ : ∃ r, look t k = r := ⟨_, rfl⟩
  have PK := peek_is t k (by omega) (by omega)
  rw [hLK] at PK
  dsimp only at PK
  have LK : Hid (look t k = (kc, ky)) := hLK
  clear hLK
  go_wp2_with (first
    | (refine wpList_store_mid rfl 27 _ _ rfl u1593q.heap.size _ t.all.toArray rfl rfl (h1597q.out.thereOf t) (HZ.out t) (t.all_all) ?_
       have h1598q : Hid (Gd n w ((u1593q.alloc (.cells #[.int .i64 0, .int .i64 0, .int .i64 0, .int .i64 0, .int .i64 0, .int .i64 0, .int .i64 0, .int .i64 0, .int .i64 0, .int .i64 0, .int .i64 0, .int .i64 0, .int .i64 0, .int .i64 0, .int .i64 0, .int .i64 0] 27)).setCells u1593q.heap.size 0 t.all)) := h1596q.out.asideAll (by omega) t
       have h1599q : Hid (TAt ((u1593q.alloc (.cells #[.int .i64 0, .int .i64 0, .int .i64 0, .int .i64 0, .int .i64 0, .int .i64 0, .int .i64 0, .int .i64 0, .int .i64 0, .int .i64 0, .int .i64 0, .int .i64 0, .int .i64 0, .int .i64 0, .int .i64 0, .int .i64 0] 27)).setCells u1593q.heap.size 0 t.all) u1593q.heap.size t) := h1597q.out.setAll t
       clear h1596q h1597q
       generalize ((u1593q.alloc (.cells #[.int .i64 0, .int .i64 0, .int .i64 0, .int .i64 0, .int .i64 0, .int .i64 0, .int .i64 0, .int .i64 0, .int .i64 0, .int .i64 0, .int .i64 0, .int .i64 0, .int .i64 0, .int .i64 0, .int .i64 0, .int .i64 0] 27)).setCells u1593q.heap.size 0 t.all) = u1600q at h1598q h1599q  ⊢))
  refine (Pr1.out _).mono ?_
  rintro e u1601q ⟨rfl, hw⟩
  rw [hw]; clear hw u1601q
  go_wp2_with fail
  refine (Pr3.out _).mono ?_
  rintro e u1602q ⟨rfl, hw⟩
  rw [hw]; clear hw u1602q
  go_wp2_with (first
    | (refine wpList_load_mid rfl 27 _ rfl u1593q.heap.size _ rfl t.all _ h1599q.out.range HD.out rfl (HS.out t) ?_))
  clear eq hr3 Pr1 Pr3
  refine (PK _).mono ?_
  rintro e u1603q ⟨rfl, hb⟩
  have h1604q : Hid (Gd n w u1603q) := h1598q.out.later hb
  have h1605q : Hid (TAt u1603q u1593q.heap.size t) := h1599q.out.later hb
  clear h1598q h1599q
  clear hb
  clear PK
  by_cases hk4 : kc = 4
  · have hl4 : look t k = (4, 0) := by
      by_cases hh : t.k (place t k) = k
      · have e := LK.out; rw [look_has hh] at e; injection e with e1 e2; omega
      · exact look_hasnt hh
    have HL4 : Hid _ := hl4
    have m4 : (kc == 4) = true := by simp [hk4]
    have m5 : (kc != 4) = false := by simp [hk4]
    subst hk4
    clear hl4
    rcases puts R.out (k := k) (x := v) hk1 hk2 hv0 hv1 with ⟨hu, -, -⟩ | ⟨u, hu, hF⟩
    · have DO := tDo_eq t 1 k v
      rw [show tdo t 1 k v = (t, 3, 0) from hu] at DO
      unfold Told at DO
      dsimp only at DO
      clear hu
      go_wp2_with fail
      go_cut [10, 11] (fun s10 s11 wx => ∃ b_u b_a : Nat, s10 = .pointer (some ⟨b_u, 0, none⟩) ∧ s11 = .pointer (some ⟨b_a, 0, none⟩) ∧ Hid (Gd n w wx) ∧ Hid (TAt wx u1593q.heap.size t) ∧ Hid (TAt wx b_u t) ∧ Hid (Bo wx b_a [.int .i64 (3), .int .i64 (0)]))
      case first =>
        have h1606q : Hid (Gd n w u1603q.drew) := h1604q.out.drew
        have h1607q : Hid (TAt u1603q.drew u1593q.heap.size t) := h1605q.out.drew
        clear h1604q h1605q
        refine wp_region_held_drew (S := fun w' => TAt w' u1593q.heap.size t) (by kernel_rfl) h1607q.out (fun hH => ?_)
        generalize u1603q.drew = u1608q at h1606q h1607q hH ⊢
        refine wpAnyH_take (i := 0) (oi := { dst := some 28, op := .load _ (.tmp 9), type := _, pos := _, after := _, guard := _ }) (v := _) rfl (by kernel_rfl) (by kernel_rfl) (by kernel_rfl) (fun _ _ _ h => h) (yieldsIf_load_mid (by rfl) _ _ rfl u1593q.heap.size _ rfl t.all _ (fun _ h => (h).range) HD.out rfl (HS.out t)) hH ?_
        simp only [Act.put, List.setIfInBounds_toArray, List.set_cons_zero, List.set_cons_succ]
        refine wpAnyH_take (i := 1) (oi := { dst := some 29, op := .move (.tmp 1), type := _, pos := _, after := _, guard := _ }) (v := ?_) rfl (by kernel_rfl) (by kernel_rfl) (by kernel_rfl) (fun _ _ _ h => h) (Or.inl ⟨by rfl, ?_⟩) hH ?_
        rotate_left
        · intro w hSw
          clear hSw
          go_simp
          try with_reducible rfl
        simp only [Act.put, List.setIfInBounds_toArray, List.set_cons_zero, List.set_cons_succ]
        refine wpAnyH_take (i := 2) (oi := { dst := some 30, op := .move (.tmp 2), type := _, pos := _, after := _, guard := _ }) (v := ?_) rfl (by kernel_rfl) (by kernel_rfl) (by kernel_rfl) (fun _ _ _ h => h) (Or.inl ⟨by rfl, ?_⟩) hH ?_
        rotate_left
        · intro w hSw
          clear hSw
          go_simp
          try with_reducible rfl
        simp only [Act.put, List.setIfInBounds_toArray, List.set_cons_zero, List.set_cons_succ]
        refine wpAnyH_ready (rs := [3, 9, 10]) (by kernel_rfl) (by simp) ?_
        refine AllReadyH.cons (o := { dst := some 31, op := _, type := _, pos := _, after := _, guard := _ }) rfl (fun K hK => ?_) ?_
        · go_simp
          refine (Pr2.out _).mono ?_
          rintro e u1609q ⟨rfl, hw⟩
          rw [hw]; clear hw u1609q
          go_wp2_with fail
          refine hK.out _ _ h1607q.out (fun hH => ?_)
          clear hK K
          try simp only [Act.put, List.setIfInBounds_toArray, List.set_cons_zero, List.set_cons_succ]
          refine wpAnyH_take (i := 4) (oi := { dst := some 32, op := .build _ #[(0, .const (.int .i64 1)), (1, .tmp 29), (2, .tmp 31)], type := _, pos := _, after := _, guard := _ }) (v := ?_) rfl (by kernel_rfl) (by kernel_rfl) (by kernel_rfl) (fun _ _ _ h => h) (Or.inl ⟨by rfl, ?_⟩) hH ?_
          rotate_left
          · intro w hSw
            clear hSw
            go_simp
            try with_reducible rfl
          simp only [Act.put, List.setIfInBounds_toArray, List.set_cons_zero, List.set_cons_succ]
          refine wpAnyH_ready (rs := [5, 9, 10]) (by kernel_rfl) (by simp) ?_
          refine AllReadyH.cons (o := { dst := some 33, op := _, type := _, pos := _, after := _, guard := _ }) rfl (fun K hK => ?_) ?_
          · go_simp
            refine (DO _).mono ?_
            rintro e u1610q ⟨rfl, hb⟩
            have h1611q : Hid (Gd n w u1610q) := h1606q.out.later hb
            have h1612q : Hid (TAt u1610q u1593q.heap.size t) := h1607q.out.later hb
            clear h1606q h1607q
            clear hb
            go_wp2_with fail
            refine hK.out _ _ h1612q.out (fun hH => ?_)
            clear hK K
            try simp only [Act.put, List.setIfInBounds_toArray, List.set_cons_zero, List.set_cons_succ]
            refine wpAnyH_take (i := 6) (oi := { dst := some 27, op := .move (.tmp 33), type := _, pos := _, after := _, guard := _ }) (v := ?_) rfl (by kernel_rfl) (by kernel_rfl) (by kernel_rfl) (fun _ _ _ h => h) (Or.inl ⟨by rfl, ?_⟩) hH ?_
            rotate_left
            · intro w hSw
              clear hSw
              go_simp
              try with_reducible rfl
            simp only [Act.put, List.setIfInBounds_toArray, List.set_cons_zero, List.set_cons_succ]
            refine wpAnyH_take (i := 7) (oi := { dst := some 34, op := .extract (.tmp 27) 0, type := _, pos := _, after := _, guard := _ }) (v := ?_) rfl (by kernel_rfl) (by kernel_rfl) (by kernel_rfl) (fun _ _ _ h => h) (Or.inl ⟨by rfl, ?_⟩) hH ?_
            rotate_left
            · intro w hSw
              clear hSw
              go_simp
              try with_reducible rfl
            simp only [Act.put, List.setIfInBounds_toArray, List.set_cons_zero, List.set_cons_succ]
            refine wpAnyH_take (i := 8) (oi := { dst := some 35, op := .extract (.tmp 27) 1, type := _, pos := _, after := _, guard := _ }) (v := ?_) rfl (by kernel_rfl) (by kernel_rfl) (by kernel_rfl) (fun _ _ _ h => h) (Or.inl ⟨by rfl, ?_⟩) hH ?_
            rotate_left
            · intro w hSw
              clear hSw
              go_simp
              try with_reducible rfl
            simp only [Act.put, List.setIfInBounds_toArray, List.set_cons_zero, List.set_cons_succ]
            refine wpAnyH_ready (rs := [9, 10]) (by kernel_rfl) (by simp) ?_
            refine AllReadyH.cons (o := { dst := some 10, op := .alloc _, type := _, pos := _, after := _, guard := _ }) rfl (fun K hK => ?_) ?_
            · have l1613q : n ≤ u1610q.heap.size := h1611q.out.le
              have l1614q : u1593q.heap.size < u1610q.heap.size := h1612q.out.lt
              go_simp
              have h1615q : Hid (Gd n w (u1610q.alloc (.cells #[.int .i64 0, .int .i64 0, .int .i64 0, .int .i64 0, .int .i64 0, .int .i64 0, .int .i64 0, .int .i64 0, .int .i64 0, .int .i64 0, .int .i64 0, .int .i64 0, .int .i64 0, .int .i64 0, .int .i64 0, .int .i64 0] 27))) := h1611q.out.new (.cells #[.int .i64 0, .int .i64 0, .int .i64 0, .int .i64 0, .int .i64 0, .int .i64 0, .int .i64 0, .int .i64 0, .int .i64 0, .int .i64 0, .int .i64 0, .int .i64 0, .int .i64 0, .int .i64 0, .int .i64 0, .int .i64 0] 27)
              have h1616q : Hid (TAt (u1610q.alloc (.cells #[.int .i64 0, .int .i64 0, .int .i64 0, .int .i64 0, .int .i64 0, .int .i64 0, .int .i64 0, .int .i64 0, .int .i64 0, .int .i64 0, .int .i64 0, .int .i64 0, .int .i64 0, .int .i64 0, .int .i64 0, .int .i64 0] 27)) u1593q.heap.size t) := h1612q.out.new (.cells #[.int .i64 0, .int .i64 0, .int .i64 0, .int .i64 0, .int .i64 0, .int .i64 0, .int .i64 0, .int .i64 0, .int .i64 0, .int .i64 0, .int .i64 0, .int .i64 0, .int .i64 0, .int .i64 0, .int .i64 0, .int .i64 0] 27)
              clear h1611q h1612q
              have h1617q : Hid (TAt (u1610q.alloc (.cells #[.int .i64 0, .int .i64 0, .int .i64 0, .int .i64 0, .int .i64 0, .int .i64 0, .int .i64 0, .int .i64 0, .int .i64 0, .int .i64 0, .int .i64 0, .int .i64 0, .int .i64 0, .int .i64 0, .int .i64 0, .int .i64 0] 27)) u1610q.heap.size Tb.zero) := TAt.bornZero u1610q 27 (by simp)
              refine hK.out _ _ h1616q.out (fun hH => ?_)
              clear hK K
              generalize (u1610q.alloc (.cells #[.int .i64 0, .int .i64 0, .int .i64 0, .int .i64 0, .int .i64 0, .int .i64 0, .int .i64 0, .int .i64 0, .int .i64 0, .int .i64 0, .int .i64 0, .int .i64 0, .int .i64 0, .int .i64 0, .int .i64 0, .int .i64 0] 27)) = u1618q at h1615q h1616q h1617q hH ⊢
              try simp only [Act.put, List.setIfInBounds_toArray, List.set_cons_zero, List.set_cons_succ]
              refine wpAnyH_ready (rs := [10]) (by kernel_rfl) (by simp) ?_
              refine AllReadyH.cons (o := { dst := some 11, op := .alloc _, type := _, pos := _, after := _, guard := _ }) rfl (fun K hK => ?_) AllReadyH.nil
              have l1619q : n ≤ u1618q.heap.size := h1615q.out.le
              have l1620q : u1593q.heap.size < u1618q.heap.size := h1616q.out.lt
              have l1621q : u1610q.heap.size < u1618q.heap.size := h1617q.out.lt
              go_simp
              have h1622q : Hid (Gd n w (u1618q.alloc (.cells #[.int .i64 0, .int .i64 0] 31))) := h1615q.out.new (.cells #[.int .i64 0, .int .i64 0] 31)
              have h1623q : Hid (TAt (u1618q.alloc (.cells #[.int .i64 0, .int .i64 0] 31)) u1593q.heap.size t) := h1616q.out.new (.cells #[.int .i64 0, .int .i64 0] 31)
              have h1624q : Hid (TAt (u1618q.alloc (.cells #[.int .i64 0, .int .i64 0] 31)) u1610q.heap.size Tb.zero) := h1617q.out.new (.cells #[.int .i64 0, .int .i64 0] 31)
              clear h1615q h1616q h1617q
              have h1625q : Hid (Bo (u1618q.alloc (.cells #[.int .i64 0, .int .i64 0] 31)) u1618q.heap.size [.int .i64 0, .int .i64 0]) := Bo.born u1618q [.int .i64 0, .int .i64 0] 31 (by simp)
              refine hK.out _ _ h1623q.out (fun hH => ?_)
              clear hK K
              generalize (u1618q.alloc (.cells #[.int .i64 0, .int .i64 0] 31)) = u1626q at h1622q h1623q h1624q h1625q hH ⊢
              try simp only [Act.put, List.setIfInBounds_toArray, List.set_cons_zero, List.set_cons_succ]
              refine wpAnyH_ready (rs := [11]) (by kernel_rfl) (by simp) ?_
              refine AllReadyH.cons (o := { dst := none, op := .store _ (.tmp 10) (.tmp 34), type := _, pos := _, after := _, guard := _ }) rfl (fun K hK => ?_) AllReadyH.nil
              rw [if_pos (by rfl)]
              refine wp_store_mid _ _ _ rfl u1610q.heap.size _ t.all.toArray rfl rfl (h1624q.out.thereOf t) (HZ.out t) (t.all_all) ?_
              simp only [Act.put]
              have h1627q : Hid (Gd n w (u1626q.setCells u1610q.heap.size 0 t.all)) := h1622q.out.asideAll (by omega) t
              have h1628q : Hid (TAt (u1626q.setCells u1610q.heap.size 0 t.all) u1593q.heap.size t) := h1623q.out.asideAll (by omega) t
              have h1629q : Hid (TAt (u1626q.setCells u1610q.heap.size 0 t.all) u1610q.heap.size t) := h1624q.out.setAll t
              have h1630q : Hid (Bo (u1626q.setCells u1610q.heap.size 0 t.all) u1618q.heap.size [.int .i64 0, .int .i64 0]) := h1625q.out.asideAll (by omega) t
              clear h1622q h1623q h1624q h1625q
              refine hK.out _ _ h1628q.out (fun hH => ?_)
              clear hK K
              generalize (u1626q.setCells u1610q.heap.size 0 t.all) = u1631q at h1627q h1628q h1629q h1630q hH ⊢
              try simp only [Act.put, List.setIfInBounds_toArray, List.set_cons_zero, List.set_cons_succ]
              refine wpAnyH_ready (rs := [12]) (by kernel_rfl) (by simp) ?_
              refine AllReadyH.cons (o := { dst := none, op := .store _ (.tmp 11) (.tmp 35), type := _, pos := _, after := _, guard := _ }) rfl (fun K hK => ?_) AllReadyH.nil
              rw [if_pos (by rfl)]
              refine wp_store_mid _ _ _ rfl u1618q.heap.size _ #[.int .i64 (3), .int .i64 (0)] rfl rfl h1630q.out.there2 HA.out (two_one _ _) ?_
              simp only [Act.put]
              have h1632q : Hid (Gd n w (u1631q.setCells u1618q.heap.size 0 [.int .i64 (3), .int .i64 (0)])) := h1627q.out.asideL (by omega) 0 [.int .i64 (3), .int .i64 (0)]
              have h1633q : Hid (TAt (u1631q.setCells u1618q.heap.size 0 [.int .i64 (3), .int .i64 (0)]) u1593q.heap.size t) := h1628q.out.asideL (by omega) 0 [.int .i64 (3), .int .i64 (0)]
              have h1634q : Hid (TAt (u1631q.setCells u1618q.heap.size 0 [.int .i64 (3), .int .i64 (0)]) u1610q.heap.size t) := h1629q.out.asideL (by omega) 0 [.int .i64 (3), .int .i64 (0)]
              have h1635q : Hid (Bo (u1631q.setCells u1618q.heap.size 0 [.int .i64 (3), .int .i64 (0)]) u1618q.heap.size [.int .i64 (3), .int .i64 (0)]) := h1630q.out.set2 (.int .i64 (3)) (.int .i64 (0))
              clear h1627q h1628q h1629q h1630q
              refine hK.out _ _ h1633q.out (fun hH => ?_)
              clear hK K
              generalize (u1631q.setCells u1618q.heap.size 0 [.int .i64 (3), .int .i64 (0)]) = u1636q at h1632q h1633q h1634q h1635q hH ⊢
              try simp only [Act.put, List.setIfInBounds_toArray, List.set_cons_zero, List.set_cons_succ]
              refine wpAnyH_done (by kernel_rfl) ?_ _
              go_wp2_with fail
              go_meet
              case rel => exact ⟨u1610q.heap.size, u1618q.heap.size, rfl, rfl, h1632q, h1633q, h1634q, h1635q⟩
            refine AllReadyH.cons (o := { dst := some 11, op := .alloc _, type := _, pos := _, after := _, guard := _ }) rfl (fun K hK => ?_) AllReadyH.nil
            have l1637q : n ≤ u1610q.heap.size := h1611q.out.le
            have l1638q : u1593q.heap.size < u1610q.heap.size := h1612q.out.lt
            go_simp
            have h1639q : Hid (Gd n w (u1610q.alloc (.cells #[.int .i64 0, .int .i64 0] 31))) := h1611q.out.new (.cells #[.int .i64 0, .int .i64 0] 31)
            have h1640q : Hid (TAt (u1610q.alloc (.cells #[.int .i64 0, .int .i64 0] 31)) u1593q.heap.size t) := h1612q.out.new (.cells #[.int .i64 0, .int .i64 0] 31)
            clear h1611q h1612q
            have h1641q : Hid (Bo (u1610q.alloc (.cells #[.int .i64 0, .int .i64 0] 31)) u1610q.heap.size [.int .i64 0, .int .i64 0]) := Bo.born u1610q [.int .i64 0, .int .i64 0] 31 (by simp)
            refine hK.out _ _ h1640q.out (fun hH => ?_)
            clear hK K
            generalize (u1610q.alloc (.cells #[.int .i64 0, .int .i64 0] 31)) = u1642q at h1639q h1640q h1641q hH ⊢
            try simp only [Act.put, List.setIfInBounds_toArray, List.set_cons_zero, List.set_cons_succ]
            refine wpAnyH_ready (rs := [9]) (by kernel_rfl) (by simp) ?_
            refine AllReadyH.cons (o := { dst := some 10, op := .alloc _, type := _, pos := _, after := _, guard := _ }) rfl (fun K hK => ?_) AllReadyH.nil
            have l1643q : n ≤ u1642q.heap.size := h1639q.out.le
            have l1644q : u1593q.heap.size < u1642q.heap.size := h1640q.out.lt
            have l1645q : u1610q.heap.size < u1642q.heap.size := h1641q.out.lt
            go_simp
            have h1646q : Hid (Gd n w (u1642q.alloc (.cells #[.int .i64 0, .int .i64 0, .int .i64 0, .int .i64 0, .int .i64 0, .int .i64 0, .int .i64 0, .int .i64 0, .int .i64 0, .int .i64 0, .int .i64 0, .int .i64 0, .int .i64 0, .int .i64 0, .int .i64 0, .int .i64 0] 27))) := h1639q.out.new (.cells #[.int .i64 0, .int .i64 0, .int .i64 0, .int .i64 0, .int .i64 0, .int .i64 0, .int .i64 0, .int .i64 0, .int .i64 0, .int .i64 0, .int .i64 0, .int .i64 0, .int .i64 0, .int .i64 0, .int .i64 0, .int .i64 0] 27)
            have h1647q : Hid (TAt (u1642q.alloc (.cells #[.int .i64 0, .int .i64 0, .int .i64 0, .int .i64 0, .int .i64 0, .int .i64 0, .int .i64 0, .int .i64 0, .int .i64 0, .int .i64 0, .int .i64 0, .int .i64 0, .int .i64 0, .int .i64 0, .int .i64 0, .int .i64 0] 27)) u1593q.heap.size t) := h1640q.out.new (.cells #[.int .i64 0, .int .i64 0, .int .i64 0, .int .i64 0, .int .i64 0, .int .i64 0, .int .i64 0, .int .i64 0, .int .i64 0, .int .i64 0, .int .i64 0, .int .i64 0, .int .i64 0, .int .i64 0, .int .i64 0, .int .i64 0] 27)
            have h1648q : Hid (Bo (u1642q.alloc (.cells #[.int .i64 0, .int .i64 0, .int .i64 0, .int .i64 0, .int .i64 0, .int .i64 0, .int .i64 0, .int .i64 0, .int .i64 0, .int .i64 0, .int .i64 0, .int .i64 0, .int .i64 0, .int .i64 0, .int .i64 0, .int .i64 0] 27)) u1610q.heap.size [.int .i64 0, .int .i64 0]) := h1641q.out.new (.cells #[.int .i64 0, .int .i64 0, .int .i64 0, .int .i64 0, .int .i64 0, .int .i64 0, .int .i64 0, .int .i64 0, .int .i64 0, .int .i64 0, .int .i64 0, .int .i64 0, .int .i64 0, .int .i64 0, .int .i64 0, .int .i64 0] 27)
            clear h1639q h1640q h1641q
            have h1649q : Hid (TAt (u1642q.alloc (.cells #[.int .i64 0, .int .i64 0, .int .i64 0, .int .i64 0, .int .i64 0, .int .i64 0, .int .i64 0, .int .i64 0, .int .i64 0, .int .i64 0, .int .i64 0, .int .i64 0, .int .i64 0, .int .i64 0, .int .i64 0, .int .i64 0] 27)) u1642q.heap.size Tb.zero) := TAt.bornZero u1642q 27 (by simp)
            refine hK.out _ _ h1647q.out (fun hH => ?_)
            clear hK K
            generalize (u1642q.alloc (.cells #[.int .i64 0, .int .i64 0, .int .i64 0, .int .i64 0, .int .i64 0, .int .i64 0, .int .i64 0, .int .i64 0, .int .i64 0, .int .i64 0, .int .i64 0, .int .i64 0, .int .i64 0, .int .i64 0, .int .i64 0, .int .i64 0] 27)) = u1650q at h1646q h1647q h1648q h1649q hH ⊢
            try simp only [Act.put, List.setIfInBounds_toArray, List.set_cons_zero, List.set_cons_succ]
            refine wpAnyH_ready (rs := [11]) (by kernel_rfl) (by simp) ?_
            refine AllReadyH.cons (o := { dst := none, op := .store _ (.tmp 10) (.tmp 34), type := _, pos := _, after := _, guard := _ }) rfl (fun K hK => ?_) AllReadyH.nil
            rw [if_pos (by rfl)]
            refine wp_store_mid _ _ _ rfl u1642q.heap.size _ t.all.toArray rfl rfl (h1649q.out.thereOf t) (HZ.out t) (t.all_all) ?_
            simp only [Act.put]
            have h1651q : Hid (Gd n w (u1650q.setCells u1642q.heap.size 0 t.all)) := h1646q.out.asideAll (by omega) t
            have h1652q : Hid (TAt (u1650q.setCells u1642q.heap.size 0 t.all) u1593q.heap.size t) := h1647q.out.asideAll (by omega) t
            have h1653q : Hid (Bo (u1650q.setCells u1642q.heap.size 0 t.all) u1610q.heap.size [.int .i64 0, .int .i64 0]) := h1648q.out.asideAll (by omega) t
            have h1654q : Hid (TAt (u1650q.setCells u1642q.heap.size 0 t.all) u1642q.heap.size t) := h1649q.out.setAll t
            clear h1646q h1647q h1648q h1649q
            refine hK.out _ _ h1652q.out (fun hH => ?_)
            clear hK K
            generalize (u1650q.setCells u1642q.heap.size 0 t.all) = u1655q at h1651q h1652q h1653q h1654q hH ⊢
            try simp only [Act.put, List.setIfInBounds_toArray, List.set_cons_zero, List.set_cons_succ]
            refine wpAnyH_ready (rs := [12]) (by kernel_rfl) (by simp) ?_
            refine AllReadyH.cons (o := { dst := none, op := .store _ (.tmp 11) (.tmp 35), type := _, pos := _, after := _, guard := _ }) rfl (fun K hK => ?_) AllReadyH.nil
            rw [if_pos (by rfl)]
            refine wp_store_mid _ _ _ rfl u1610q.heap.size _ #[.int .i64 (3), .int .i64 (0)] rfl rfl h1653q.out.there2 HA.out (two_one _ _) ?_
            simp only [Act.put]
            have h1656q : Hid (Gd n w (u1655q.setCells u1610q.heap.size 0 [.int .i64 (3), .int .i64 (0)])) := h1651q.out.asideL (by omega) 0 [.int .i64 (3), .int .i64 (0)]
            have h1657q : Hid (TAt (u1655q.setCells u1610q.heap.size 0 [.int .i64 (3), .int .i64 (0)]) u1593q.heap.size t) := h1652q.out.asideL (by omega) 0 [.int .i64 (3), .int .i64 (0)]
            have h1658q : Hid (Bo (u1655q.setCells u1610q.heap.size 0 [.int .i64 (3), .int .i64 (0)]) u1610q.heap.size [.int .i64 (3), .int .i64 (0)]) := h1653q.out.set2 (.int .i64 (3)) (.int .i64 (0))
            have h1659q : Hid (TAt (u1655q.setCells u1610q.heap.size 0 [.int .i64 (3), .int .i64 (0)]) u1642q.heap.size t) := h1654q.out.asideL (by omega) 0 [.int .i64 (3), .int .i64 (0)]
            clear h1651q h1652q h1653q h1654q
            refine hK.out _ _ h1657q.out (fun hH => ?_)
            clear hK K
            generalize (u1655q.setCells u1610q.heap.size 0 [.int .i64 (3), .int .i64 (0)]) = u1660q at h1656q h1657q h1658q h1659q hH ⊢
            try simp only [Act.put, List.setIfInBounds_toArray, List.set_cons_zero, List.set_cons_succ]
            refine wpAnyH_done (by kernel_rfl) ?_ _
            go_wp2_with fail
            go_meet
            case rel => exact ⟨u1642q.heap.size, u1610q.heap.size, rfl, rfl, h1656q, h1657q, h1659q, h1658q⟩
          refine AllReadyH.cons (o := { dst := some 10, op := .alloc _, type := _, pos := _, after := _, guard := _ }) rfl (fun K hK => ?_) ?_
          · have l1661q : n ≤ u1608q.heap.size := h1606q.out.le
            have l1662q : u1593q.heap.size < u1608q.heap.size := h1607q.out.lt
            go_simp
            have h1663q : Hid (Gd n w (u1608q.alloc (.cells #[.int .i64 0, .int .i64 0, .int .i64 0, .int .i64 0, .int .i64 0, .int .i64 0, .int .i64 0, .int .i64 0, .int .i64 0, .int .i64 0, .int .i64 0, .int .i64 0, .int .i64 0, .int .i64 0, .int .i64 0, .int .i64 0] 27))) := h1606q.out.new (.cells #[.int .i64 0, .int .i64 0, .int .i64 0, .int .i64 0, .int .i64 0, .int .i64 0, .int .i64 0, .int .i64 0, .int .i64 0, .int .i64 0, .int .i64 0, .int .i64 0, .int .i64 0, .int .i64 0, .int .i64 0, .int .i64 0] 27)
            have h1664q : Hid (TAt (u1608q.alloc (.cells #[.int .i64 0, .int .i64 0, .int .i64 0, .int .i64 0, .int .i64 0, .int .i64 0, .int .i64 0, .int .i64 0, .int .i64 0, .int .i64 0, .int .i64 0, .int .i64 0, .int .i64 0, .int .i64 0, .int .i64 0, .int .i64 0] 27)) u1593q.heap.size t) := h1607q.out.new (.cells #[.int .i64 0, .int .i64 0, .int .i64 0, .int .i64 0, .int .i64 0, .int .i64 0, .int .i64 0, .int .i64 0, .int .i64 0, .int .i64 0, .int .i64 0, .int .i64 0, .int .i64 0, .int .i64 0, .int .i64 0, .int .i64 0] 27)
            clear h1606q h1607q
            have h1665q : Hid (TAt (u1608q.alloc (.cells #[.int .i64 0, .int .i64 0, .int .i64 0, .int .i64 0, .int .i64 0, .int .i64 0, .int .i64 0, .int .i64 0, .int .i64 0, .int .i64 0, .int .i64 0, .int .i64 0, .int .i64 0, .int .i64 0, .int .i64 0, .int .i64 0] 27)) u1608q.heap.size Tb.zero) := TAt.bornZero u1608q 27 (by simp)
            refine hK.out _ _ h1664q.out (fun hH => ?_)
            clear hK K
            generalize (u1608q.alloc (.cells #[.int .i64 0, .int .i64 0, .int .i64 0, .int .i64 0, .int .i64 0, .int .i64 0, .int .i64 0, .int .i64 0, .int .i64 0, .int .i64 0, .int .i64 0, .int .i64 0, .int .i64 0, .int .i64 0, .int .i64 0, .int .i64 0] 27)) = u1666q at h1663q h1664q h1665q hH ⊢
            try simp only [Act.put, List.setIfInBounds_toArray, List.set_cons_zero, List.set_cons_succ]
            refine wpAnyH_ready (rs := [5, 10]) (by kernel_rfl) (by simp) ?_
            refine AllReadyH.cons (o := { dst := some 33, op := _, type := _, pos := _, after := _, guard := _ }) rfl (fun K hK => ?_) ?_
            · go_simp
              refine (DO _).mono ?_
              rintro e u1667q ⟨rfl, hb⟩
              have h1668q : Hid (Gd n w u1667q) := h1663q.out.later hb
              have h1669q : Hid (TAt u1667q u1593q.heap.size t) := h1664q.out.later hb
              have h1670q : Hid (TAt u1667q u1608q.heap.size Tb.zero) := h1665q.out.later hb
              clear h1663q h1664q h1665q
              clear hb
              go_wp2_with fail
              refine hK.out _ _ h1669q.out (fun hH => ?_)
              clear hK K
              try simp only [Act.put, List.setIfInBounds_toArray, List.set_cons_zero, List.set_cons_succ]
              refine wpAnyH_take (i := 6) (oi := { dst := some 27, op := .move (.tmp 33), type := _, pos := _, after := _, guard := _ }) (v := ?_) rfl (by kernel_rfl) (by kernel_rfl) (by kernel_rfl) (fun _ _ _ h => h) (Or.inl ⟨by rfl, ?_⟩) hH ?_
              rotate_left
              · intro w hSw
                clear hSw
                go_simp
                try with_reducible rfl
              simp only [Act.put, List.setIfInBounds_toArray, List.set_cons_zero, List.set_cons_succ]
              refine wpAnyH_take (i := 7) (oi := { dst := some 34, op := .extract (.tmp 27) 0, type := _, pos := _, after := _, guard := _ }) (v := ?_) rfl (by kernel_rfl) (by kernel_rfl) (by kernel_rfl) (fun _ _ _ h => h) (Or.inl ⟨by rfl, ?_⟩) hH ?_
              rotate_left
              · intro w hSw
                clear hSw
                go_simp
                try with_reducible rfl
              simp only [Act.put, List.setIfInBounds_toArray, List.set_cons_zero, List.set_cons_succ]
              refine wpAnyH_take (i := 8) (oi := { dst := some 35, op := .extract (.tmp 27) 1, type := _, pos := _, after := _, guard := _ }) (v := ?_) rfl (by kernel_rfl) (by kernel_rfl) (by kernel_rfl) (fun _ _ _ h => h) (Or.inl ⟨by rfl, ?_⟩) hH ?_
              rotate_left
              · intro w hSw
                clear hSw
                go_simp
                try with_reducible rfl
              simp only [Act.put, List.setIfInBounds_toArray, List.set_cons_zero, List.set_cons_succ]
              refine wpAnyH_ready (rs := [10]) (by kernel_rfl) (by simp) ?_
              refine AllReadyH.cons (o := { dst := some 11, op := .alloc _, type := _, pos := _, after := _, guard := _ }) rfl (fun K hK => ?_) AllReadyH.nil
              have l1671q : n ≤ u1667q.heap.size := h1668q.out.le
              have l1672q : u1593q.heap.size < u1667q.heap.size := h1669q.out.lt
              have l1673q : u1608q.heap.size < u1667q.heap.size := h1670q.out.lt
              go_simp
              have h1674q : Hid (Gd n w (u1667q.alloc (.cells #[.int .i64 0, .int .i64 0] 31))) := h1668q.out.new (.cells #[.int .i64 0, .int .i64 0] 31)
              have h1675q : Hid (TAt (u1667q.alloc (.cells #[.int .i64 0, .int .i64 0] 31)) u1593q.heap.size t) := h1669q.out.new (.cells #[.int .i64 0, .int .i64 0] 31)
              have h1676q : Hid (TAt (u1667q.alloc (.cells #[.int .i64 0, .int .i64 0] 31)) u1608q.heap.size Tb.zero) := h1670q.out.new (.cells #[.int .i64 0, .int .i64 0] 31)
              clear h1668q h1669q h1670q
              have h1677q : Hid (Bo (u1667q.alloc (.cells #[.int .i64 0, .int .i64 0] 31)) u1667q.heap.size [.int .i64 0, .int .i64 0]) := Bo.born u1667q [.int .i64 0, .int .i64 0] 31 (by simp)
              refine hK.out _ _ h1675q.out (fun hH => ?_)
              clear hK K
              generalize (u1667q.alloc (.cells #[.int .i64 0, .int .i64 0] 31)) = u1678q at h1674q h1675q h1676q h1677q hH ⊢
              try simp only [Act.put, List.setIfInBounds_toArray, List.set_cons_zero, List.set_cons_succ]
              refine wpAnyH_ready (rs := [11]) (by kernel_rfl) (by simp) ?_
              refine AllReadyH.cons (o := { dst := none, op := .store _ (.tmp 10) (.tmp 34), type := _, pos := _, after := _, guard := _ }) rfl (fun K hK => ?_) AllReadyH.nil
              rw [if_pos (by rfl)]
              refine wp_store_mid _ _ _ rfl u1608q.heap.size _ t.all.toArray rfl rfl (h1676q.out.thereOf t) (HZ.out t) (t.all_all) ?_
              simp only [Act.put]
              have h1679q : Hid (Gd n w (u1678q.setCells u1608q.heap.size 0 t.all)) := h1674q.out.asideAll (by omega) t
              have h1680q : Hid (TAt (u1678q.setCells u1608q.heap.size 0 t.all) u1593q.heap.size t) := h1675q.out.asideAll (by omega) t
              have h1681q : Hid (TAt (u1678q.setCells u1608q.heap.size 0 t.all) u1608q.heap.size t) := h1676q.out.setAll t
              have h1682q : Hid (Bo (u1678q.setCells u1608q.heap.size 0 t.all) u1667q.heap.size [.int .i64 0, .int .i64 0]) := h1677q.out.asideAll (by omega) t
              clear h1674q h1675q h1676q h1677q
              refine hK.out _ _ h1680q.out (fun hH => ?_)
              clear hK K
              generalize (u1678q.setCells u1608q.heap.size 0 t.all) = u1683q at h1679q h1680q h1681q h1682q hH ⊢
              try simp only [Act.put, List.setIfInBounds_toArray, List.set_cons_zero, List.set_cons_succ]
              refine wpAnyH_ready (rs := [12]) (by kernel_rfl) (by simp) ?_
              refine AllReadyH.cons (o := { dst := none, op := .store _ (.tmp 11) (.tmp 35), type := _, pos := _, after := _, guard := _ }) rfl (fun K hK => ?_) AllReadyH.nil
              rw [if_pos (by rfl)]
              refine wp_store_mid _ _ _ rfl u1667q.heap.size _ #[.int .i64 (3), .int .i64 (0)] rfl rfl h1682q.out.there2 HA.out (two_one _ _) ?_
              simp only [Act.put]
              have h1684q : Hid (Gd n w (u1683q.setCells u1667q.heap.size 0 [.int .i64 (3), .int .i64 (0)])) := h1679q.out.asideL (by omega) 0 [.int .i64 (3), .int .i64 (0)]
              have h1685q : Hid (TAt (u1683q.setCells u1667q.heap.size 0 [.int .i64 (3), .int .i64 (0)]) u1593q.heap.size t) := h1680q.out.asideL (by omega) 0 [.int .i64 (3), .int .i64 (0)]
              have h1686q : Hid (TAt (u1683q.setCells u1667q.heap.size 0 [.int .i64 (3), .int .i64 (0)]) u1608q.heap.size t) := h1681q.out.asideL (by omega) 0 [.int .i64 (3), .int .i64 (0)]
              have h1687q : Hid (Bo (u1683q.setCells u1667q.heap.size 0 [.int .i64 (3), .int .i64 (0)]) u1667q.heap.size [.int .i64 (3), .int .i64 (0)]) := h1682q.out.set2 (.int .i64 (3)) (.int .i64 (0))
              clear h1679q h1680q h1681q h1682q
              refine hK.out _ _ h1685q.out (fun hH => ?_)
              clear hK K
              generalize (u1683q.setCells u1667q.heap.size 0 [.int .i64 (3), .int .i64 (0)]) = u1688q at h1684q h1685q h1686q h1687q hH ⊢
              try simp only [Act.put, List.setIfInBounds_toArray, List.set_cons_zero, List.set_cons_succ]
              refine wpAnyH_done (by kernel_rfl) ?_ _
              go_wp2_with fail
              go_meet
              case rel => exact ⟨u1608q.heap.size, u1667q.heap.size, rfl, rfl, h1684q, h1685q, h1686q, h1687q⟩
            refine AllReadyH.cons (o := { dst := some 11, op := .alloc _, type := _, pos := _, after := _, guard := _ }) rfl (fun K hK => ?_) AllReadyH.nil
            have l1689q : n ≤ u1666q.heap.size := h1663q.out.le
            have l1690q : u1593q.heap.size < u1666q.heap.size := h1664q.out.lt
            have l1691q : u1608q.heap.size < u1666q.heap.size := h1665q.out.lt
            go_simp
            have h1692q : Hid (Gd n w (u1666q.alloc (.cells #[.int .i64 0, .int .i64 0] 31))) := h1663q.out.new (.cells #[.int .i64 0, .int .i64 0] 31)
            have h1693q : Hid (TAt (u1666q.alloc (.cells #[.int .i64 0, .int .i64 0] 31)) u1593q.heap.size t) := h1664q.out.new (.cells #[.int .i64 0, .int .i64 0] 31)
            have h1694q : Hid (TAt (u1666q.alloc (.cells #[.int .i64 0, .int .i64 0] 31)) u1608q.heap.size Tb.zero) := h1665q.out.new (.cells #[.int .i64 0, .int .i64 0] 31)
            clear h1663q h1664q h1665q
            have h1695q : Hid (Bo (u1666q.alloc (.cells #[.int .i64 0, .int .i64 0] 31)) u1666q.heap.size [.int .i64 0, .int .i64 0]) := Bo.born u1666q [.int .i64 0, .int .i64 0] 31 (by simp)
            refine hK.out _ _ h1693q.out (fun hH => ?_)
            clear hK K
            generalize (u1666q.alloc (.cells #[.int .i64 0, .int .i64 0] 31)) = u1696q at h1692q h1693q h1694q h1695q hH ⊢
            try simp only [Act.put, List.setIfInBounds_toArray, List.set_cons_zero, List.set_cons_succ]
            refine wpAnyH_ready (rs := [5]) (by kernel_rfl) (by simp) ?_
            refine AllReadyH.cons (o := { dst := some 33, op := _, type := _, pos := _, after := _, guard := _ }) rfl (fun K hK => ?_) AllReadyH.nil
            go_simp
            refine (DO _).mono ?_
            rintro e u1697q ⟨rfl, hb⟩
            have h1698q : Hid (Gd n w u1697q) := h1692q.out.later hb
            have h1699q : Hid (TAt u1697q u1593q.heap.size t) := h1693q.out.later hb
            have h1700q : Hid (TAt u1697q u1608q.heap.size Tb.zero) := h1694q.out.later hb
            have h1701q : Hid (Bo u1697q u1666q.heap.size [.int .i64 0, .int .i64 0]) := h1695q.out.later hb
            clear h1692q h1693q h1694q h1695q
            clear hb
            go_wp2_with fail
            refine hK.out _ _ h1699q.out (fun hH => ?_)
            clear hK K
            try simp only [Act.put, List.setIfInBounds_toArray, List.set_cons_zero, List.set_cons_succ]
            refine wpAnyH_take (i := 6) (oi := { dst := some 27, op := .move (.tmp 33), type := _, pos := _, after := _, guard := _ }) (v := ?_) rfl (by kernel_rfl) (by kernel_rfl) (by kernel_rfl) (fun _ _ _ h => h) (Or.inl ⟨by rfl, ?_⟩) hH ?_
            rotate_left
            · intro w hSw
              clear hSw
              go_simp
              try with_reducible rfl
            simp only [Act.put, List.setIfInBounds_toArray, List.set_cons_zero, List.set_cons_succ]
            refine wpAnyH_take (i := 7) (oi := { dst := some 34, op := .extract (.tmp 27) 0, type := _, pos := _, after := _, guard := _ }) (v := ?_) rfl (by kernel_rfl) (by kernel_rfl) (by kernel_rfl) (fun _ _ _ h => h) (Or.inl ⟨by rfl, ?_⟩) hH ?_
            rotate_left
            · intro w hSw
              clear hSw
              go_simp
              try with_reducible rfl
            simp only [Act.put, List.setIfInBounds_toArray, List.set_cons_zero, List.set_cons_succ]
            refine wpAnyH_take (i := 8) (oi := { dst := some 35, op := .extract (.tmp 27) 1, type := _, pos := _, after := _, guard := _ }) (v := ?_) rfl (by kernel_rfl) (by kernel_rfl) (by kernel_rfl) (fun _ _ _ h => h) (Or.inl ⟨by rfl, ?_⟩) hH ?_
            rotate_left
            · intro w hSw
              clear hSw
              go_simp
              try with_reducible rfl
            simp only [Act.put, List.setIfInBounds_toArray, List.set_cons_zero, List.set_cons_succ]
            refine wpAnyH_ready (rs := [11]) (by kernel_rfl) (by simp) ?_
            refine AllReadyH.cons (o := { dst := none, op := .store _ (.tmp 10) (.tmp 34), type := _, pos := _, after := _, guard := _ }) rfl (fun K hK => ?_) AllReadyH.nil
            rw [if_pos (by rfl)]
            refine wp_store_mid _ _ _ rfl u1608q.heap.size _ t.all.toArray rfl rfl (h1700q.out.thereOf t) (HZ.out t) (t.all_all) ?_
            simp only [Act.put]
            have h1702q : Hid (Gd n w (u1697q.setCells u1608q.heap.size 0 t.all)) := h1698q.out.asideAll (by omega) t
            have h1703q : Hid (TAt (u1697q.setCells u1608q.heap.size 0 t.all) u1593q.heap.size t) := h1699q.out.asideAll (by omega) t
            have h1704q : Hid (TAt (u1697q.setCells u1608q.heap.size 0 t.all) u1608q.heap.size t) := h1700q.out.setAll t
            have h1705q : Hid (Bo (u1697q.setCells u1608q.heap.size 0 t.all) u1666q.heap.size [.int .i64 0, .int .i64 0]) := h1701q.out.asideAll (by omega) t
            clear h1698q h1699q h1700q h1701q
            refine hK.out _ _ h1703q.out (fun hH => ?_)
            clear hK K
            generalize (u1697q.setCells u1608q.heap.size 0 t.all) = u1706q at h1702q h1703q h1704q h1705q hH ⊢
            try simp only [Act.put, List.setIfInBounds_toArray, List.set_cons_zero, List.set_cons_succ]
            refine wpAnyH_ready (rs := [12]) (by kernel_rfl) (by simp) ?_
            refine AllReadyH.cons (o := { dst := none, op := .store _ (.tmp 11) (.tmp 35), type := _, pos := _, after := _, guard := _ }) rfl (fun K hK => ?_) AllReadyH.nil
            rw [if_pos (by rfl)]
            refine wp_store_mid _ _ _ rfl u1666q.heap.size _ #[.int .i64 (3), .int .i64 (0)] rfl rfl h1705q.out.there2 HA.out (two_one _ _) ?_
            simp only [Act.put]
            have h1707q : Hid (Gd n w (u1706q.setCells u1666q.heap.size 0 [.int .i64 (3), .int .i64 (0)])) := h1702q.out.asideL (by omega) 0 [.int .i64 (3), .int .i64 (0)]
            have h1708q : Hid (TAt (u1706q.setCells u1666q.heap.size 0 [.int .i64 (3), .int .i64 (0)]) u1593q.heap.size t) := h1703q.out.asideL (by omega) 0 [.int .i64 (3), .int .i64 (0)]
            have h1709q : Hid (TAt (u1706q.setCells u1666q.heap.size 0 [.int .i64 (3), .int .i64 (0)]) u1608q.heap.size t) := h1704q.out.asideL (by omega) 0 [.int .i64 (3), .int .i64 (0)]
            have h1710q : Hid (Bo (u1706q.setCells u1666q.heap.size 0 [.int .i64 (3), .int .i64 (0)]) u1666q.heap.size [.int .i64 (3), .int .i64 (0)]) := h1705q.out.set2 (.int .i64 (3)) (.int .i64 (0))
            clear h1702q h1703q h1704q h1705q
            refine hK.out _ _ h1708q.out (fun hH => ?_)
            clear hK K
            generalize (u1706q.setCells u1666q.heap.size 0 [.int .i64 (3), .int .i64 (0)]) = u1711q at h1707q h1708q h1709q h1710q hH ⊢
            try simp only [Act.put, List.setIfInBounds_toArray, List.set_cons_zero, List.set_cons_succ]
            refine wpAnyH_done (by kernel_rfl) ?_ _
            go_wp2_with fail
            go_meet
            case rel => exact ⟨u1608q.heap.size, u1666q.heap.size, rfl, rfl, h1707q, h1708q, h1709q, h1710q⟩
          refine AllReadyH.cons (o := { dst := some 11, op := .alloc _, type := _, pos := _, after := _, guard := _ }) rfl (fun K hK => ?_) AllReadyH.nil
          have l1712q : n ≤ u1608q.heap.size := h1606q.out.le
          have l1713q : u1593q.heap.size < u1608q.heap.size := h1607q.out.lt
          go_simp
          have h1714q : Hid (Gd n w (u1608q.alloc (.cells #[.int .i64 0, .int .i64 0] 31))) := h1606q.out.new (.cells #[.int .i64 0, .int .i64 0] 31)
          have h1715q : Hid (TAt (u1608q.alloc (.cells #[.int .i64 0, .int .i64 0] 31)) u1593q.heap.size t) := h1607q.out.new (.cells #[.int .i64 0, .int .i64 0] 31)
          clear h1606q h1607q
          have h1716q : Hid (Bo (u1608q.alloc (.cells #[.int .i64 0, .int .i64 0] 31)) u1608q.heap.size [.int .i64 0, .int .i64 0]) := Bo.born u1608q [.int .i64 0, .int .i64 0] 31 (by simp)
          refine hK.out _ _ h1715q.out (fun hH => ?_)
          clear hK K
          generalize (u1608q.alloc (.cells #[.int .i64 0, .int .i64 0] 31)) = u1717q at h1714q h1715q h1716q hH ⊢
          try simp only [Act.put, List.setIfInBounds_toArray, List.set_cons_zero, List.set_cons_succ]
          refine wpAnyH_ready (rs := [5, 9]) (by kernel_rfl) (by simp) ?_
          refine AllReadyH.cons (o := { dst := some 33, op := _, type := _, pos := _, after := _, guard := _ }) rfl (fun K hK => ?_) ?_
          · go_simp
            refine (DO _).mono ?_
            rintro e u1718q ⟨rfl, hb⟩
            have h1719q : Hid (Gd n w u1718q) := h1714q.out.later hb
            have h1720q : Hid (TAt u1718q u1593q.heap.size t) := h1715q.out.later hb
            have h1721q : Hid (Bo u1718q u1608q.heap.size [.int .i64 0, .int .i64 0]) := h1716q.out.later hb
            clear h1714q h1715q h1716q
            clear hb
            go_wp2_with fail
            refine hK.out _ _ h1720q.out (fun hH => ?_)
            clear hK K
            try simp only [Act.put, List.setIfInBounds_toArray, List.set_cons_zero, List.set_cons_succ]
            refine wpAnyH_take (i := 6) (oi := { dst := some 27, op := .move (.tmp 33), type := _, pos := _, after := _, guard := _ }) (v := ?_) rfl (by kernel_rfl) (by kernel_rfl) (by kernel_rfl) (fun _ _ _ h => h) (Or.inl ⟨by rfl, ?_⟩) hH ?_
            rotate_left
            · intro w hSw
              clear hSw
              go_simp
              try with_reducible rfl
            simp only [Act.put, List.setIfInBounds_toArray, List.set_cons_zero, List.set_cons_succ]
            refine wpAnyH_take (i := 7) (oi := { dst := some 34, op := .extract (.tmp 27) 0, type := _, pos := _, after := _, guard := _ }) (v := ?_) rfl (by kernel_rfl) (by kernel_rfl) (by kernel_rfl) (fun _ _ _ h => h) (Or.inl ⟨by rfl, ?_⟩) hH ?_
            rotate_left
            · intro w hSw
              clear hSw
              go_simp
              try with_reducible rfl
            simp only [Act.put, List.setIfInBounds_toArray, List.set_cons_zero, List.set_cons_succ]
            refine wpAnyH_take (i := 8) (oi := { dst := some 35, op := .extract (.tmp 27) 1, type := _, pos := _, after := _, guard := _ }) (v := ?_) rfl (by kernel_rfl) (by kernel_rfl) (by kernel_rfl) (fun _ _ _ h => h) (Or.inl ⟨by rfl, ?_⟩) hH ?_
            rotate_left
            · intro w hSw
              clear hSw
              go_simp
              try with_reducible rfl
            simp only [Act.put, List.setIfInBounds_toArray, List.set_cons_zero, List.set_cons_succ]
            refine wpAnyH_ready (rs := [9]) (by kernel_rfl) (by simp) ?_
            refine AllReadyH.cons (o := { dst := some 10, op := .alloc _, type := _, pos := _, after := _, guard := _ }) rfl (fun K hK => ?_) AllReadyH.nil
            have l1722q : n ≤ u1718q.heap.size := h1719q.out.le
            have l1723q : u1593q.heap.size < u1718q.heap.size := h1720q.out.lt
            have l1724q : u1608q.heap.size < u1718q.heap.size := h1721q.out.lt
            go_simp
            have h1725q : Hid (Gd n w (u1718q.alloc (.cells #[.int .i64 0, .int .i64 0, .int .i64 0, .int .i64 0, .int .i64 0, .int .i64 0, .int .i64 0, .int .i64 0, .int .i64 0, .int .i64 0, .int .i64 0, .int .i64 0, .int .i64 0, .int .i64 0, .int .i64 0, .int .i64 0] 27))) := h1719q.out.new (.cells #[.int .i64 0, .int .i64 0, .int .i64 0, .int .i64 0, .int .i64 0, .int .i64 0, .int .i64 0, .int .i64 0, .int .i64 0, .int .i64 0, .int .i64 0, .int .i64 0, .int .i64 0, .int .i64 0, .int .i64 0, .int .i64 0] 27)
            have h1726q : Hid (TAt (u1718q.alloc (.cells #[.int .i64 0, .int .i64 0, .int .i64 0, .int .i64 0, .int .i64 0, .int .i64 0, .int .i64 0, .int .i64 0, .int .i64 0, .int .i64 0, .int .i64 0, .int .i64 0, .int .i64 0, .int .i64 0, .int .i64 0, .int .i64 0] 27)) u1593q.heap.size t) := h1720q.out.new (.cells #[.int .i64 0, .int .i64 0, .int .i64 0, .int .i64 0, .int .i64 0, .int .i64 0, .int .i64 0, .int .i64 0, .int .i64 0, .int .i64 0, .int .i64 0, .int .i64 0, .int .i64 0, .int .i64 0, .int .i64 0, .int .i64 0] 27)
            have h1727q : Hid (Bo (u1718q.alloc (.cells #[.int .i64 0, .int .i64 0, .int .i64 0, .int .i64 0, .int .i64 0, .int .i64 0, .int .i64 0, .int .i64 0, .int .i64 0, .int .i64 0, .int .i64 0, .int .i64 0, .int .i64 0, .int .i64 0, .int .i64 0, .int .i64 0] 27)) u1608q.heap.size [.int .i64 0, .int .i64 0]) := h1721q.out.new (.cells #[.int .i64 0, .int .i64 0, .int .i64 0, .int .i64 0, .int .i64 0, .int .i64 0, .int .i64 0, .int .i64 0, .int .i64 0, .int .i64 0, .int .i64 0, .int .i64 0, .int .i64 0, .int .i64 0, .int .i64 0, .int .i64 0] 27)
            clear h1719q h1720q h1721q
            have h1728q : Hid (TAt (u1718q.alloc (.cells #[.int .i64 0, .int .i64 0, .int .i64 0, .int .i64 0, .int .i64 0, .int .i64 0, .int .i64 0, .int .i64 0, .int .i64 0, .int .i64 0, .int .i64 0, .int .i64 0, .int .i64 0, .int .i64 0, .int .i64 0, .int .i64 0] 27)) u1718q.heap.size Tb.zero) := TAt.bornZero u1718q 27 (by simp)
            refine hK.out _ _ h1726q.out (fun hH => ?_)
            clear hK K
            generalize (u1718q.alloc (.cells #[.int .i64 0, .int .i64 0, .int .i64 0, .int .i64 0, .int .i64 0, .int .i64 0, .int .i64 0, .int .i64 0, .int .i64 0, .int .i64 0, .int .i64 0, .int .i64 0, .int .i64 0, .int .i64 0, .int .i64 0, .int .i64 0] 27)) = u1729q at h1725q h1726q h1727q h1728q hH ⊢
            try simp only [Act.put, List.setIfInBounds_toArray, List.set_cons_zero, List.set_cons_succ]
            refine wpAnyH_ready (rs := [11]) (by kernel_rfl) (by simp) ?_
            refine AllReadyH.cons (o := { dst := none, op := .store _ (.tmp 10) (.tmp 34), type := _, pos := _, after := _, guard := _ }) rfl (fun K hK => ?_) AllReadyH.nil
            rw [if_pos (by rfl)]
            refine wp_store_mid _ _ _ rfl u1718q.heap.size _ t.all.toArray rfl rfl (h1728q.out.thereOf t) (HZ.out t) (t.all_all) ?_
            simp only [Act.put]
            have h1730q : Hid (Gd n w (u1729q.setCells u1718q.heap.size 0 t.all)) := h1725q.out.asideAll (by omega) t
            have h1731q : Hid (TAt (u1729q.setCells u1718q.heap.size 0 t.all) u1593q.heap.size t) := h1726q.out.asideAll (by omega) t
            have h1732q : Hid (Bo (u1729q.setCells u1718q.heap.size 0 t.all) u1608q.heap.size [.int .i64 0, .int .i64 0]) := h1727q.out.asideAll (by omega) t
            have h1733q : Hid (TAt (u1729q.setCells u1718q.heap.size 0 t.all) u1718q.heap.size t) := h1728q.out.setAll t
            clear h1725q h1726q h1727q h1728q
            refine hK.out _ _ h1731q.out (fun hH => ?_)
            clear hK K
            generalize (u1729q.setCells u1718q.heap.size 0 t.all) = u1734q at h1730q h1731q h1732q h1733q hH ⊢
            try simp only [Act.put, List.setIfInBounds_toArray, List.set_cons_zero, List.set_cons_succ]
            refine wpAnyH_ready (rs := [12]) (by kernel_rfl) (by simp) ?_
            refine AllReadyH.cons (o := { dst := none, op := .store _ (.tmp 11) (.tmp 35), type := _, pos := _, after := _, guard := _ }) rfl (fun K hK => ?_) AllReadyH.nil
            rw [if_pos (by rfl)]
            refine wp_store_mid _ _ _ rfl u1608q.heap.size _ #[.int .i64 (3), .int .i64 (0)] rfl rfl h1732q.out.there2 HA.out (two_one _ _) ?_
            simp only [Act.put]
            have h1735q : Hid (Gd n w (u1734q.setCells u1608q.heap.size 0 [.int .i64 (3), .int .i64 (0)])) := h1730q.out.asideL (by omega) 0 [.int .i64 (3), .int .i64 (0)]
            have h1736q : Hid (TAt (u1734q.setCells u1608q.heap.size 0 [.int .i64 (3), .int .i64 (0)]) u1593q.heap.size t) := h1731q.out.asideL (by omega) 0 [.int .i64 (3), .int .i64 (0)]
            have h1737q : Hid (Bo (u1734q.setCells u1608q.heap.size 0 [.int .i64 (3), .int .i64 (0)]) u1608q.heap.size [.int .i64 (3), .int .i64 (0)]) := h1732q.out.set2 (.int .i64 (3)) (.int .i64 (0))
            have h1738q : Hid (TAt (u1734q.setCells u1608q.heap.size 0 [.int .i64 (3), .int .i64 (0)]) u1718q.heap.size t) := h1733q.out.asideL (by omega) 0 [.int .i64 (3), .int .i64 (0)]
            clear h1730q h1731q h1732q h1733q
            refine hK.out _ _ h1736q.out (fun hH => ?_)
            clear hK K
            generalize (u1734q.setCells u1608q.heap.size 0 [.int .i64 (3), .int .i64 (0)]) = u1739q at h1735q h1736q h1737q h1738q hH ⊢
            try simp only [Act.put, List.setIfInBounds_toArray, List.set_cons_zero, List.set_cons_succ]
            refine wpAnyH_done (by kernel_rfl) ?_ _
            go_wp2_with fail
            go_meet
            case rel => exact ⟨u1718q.heap.size, u1608q.heap.size, rfl, rfl, h1735q, h1736q, h1738q, h1737q⟩
          refine AllReadyH.cons (o := { dst := some 10, op := .alloc _, type := _, pos := _, after := _, guard := _ }) rfl (fun K hK => ?_) AllReadyH.nil
          have l1740q : n ≤ u1717q.heap.size := h1714q.out.le
          have l1741q : u1593q.heap.size < u1717q.heap.size := h1715q.out.lt
          have l1742q : u1608q.heap.size < u1717q.heap.size := h1716q.out.lt
          go_simp
          have h1743q : Hid (Gd n w (u1717q.alloc (.cells #[.int .i64 0, .int .i64 0, .int .i64 0, .int .i64 0, .int .i64 0, .int .i64 0, .int .i64 0, .int .i64 0, .int .i64 0, .int .i64 0, .int .i64 0, .int .i64 0, .int .i64 0, .int .i64 0, .int .i64 0, .int .i64 0] 27))) := h1714q.out.new (.cells #[.int .i64 0, .int .i64 0, .int .i64 0, .int .i64 0, .int .i64 0, .int .i64 0, .int .i64 0, .int .i64 0, .int .i64 0, .int .i64 0, .int .i64 0, .int .i64 0, .int .i64 0, .int .i64 0, .int .i64 0, .int .i64 0] 27)
          have h1744q : Hid (TAt (u1717q.alloc (.cells #[.int .i64 0, .int .i64 0, .int .i64 0, .int .i64 0, .int .i64 0, .int .i64 0, .int .i64 0, .int .i64 0, .int .i64 0, .int .i64 0, .int .i64 0, .int .i64 0, .int .i64 0, .int .i64 0, .int .i64 0, .int .i64 0] 27)) u1593q.heap.size t) := h1715q.out.new (.cells #[.int .i64 0, .int .i64 0, .int .i64 0, .int .i64 0, .int .i64 0, .int .i64 0, .int .i64 0, .int .i64 0, .int .i64 0, .int .i64 0, .int .i64 0, .int .i64 0, .int .i64 0, .int .i64 0, .int .i64 0, .int .i64 0] 27)
          have h1745q : Hid (Bo (u1717q.alloc (.cells #[.int .i64 0, .int .i64 0, .int .i64 0, .int .i64 0, .int .i64 0, .int .i64 0, .int .i64 0, .int .i64 0, .int .i64 0, .int .i64 0, .int .i64 0, .int .i64 0, .int .i64 0, .int .i64 0, .int .i64 0, .int .i64 0] 27)) u1608q.heap.size [.int .i64 0, .int .i64 0]) := h1716q.out.new (.cells #[.int .i64 0, .int .i64 0, .int .i64 0, .int .i64 0, .int .i64 0, .int .i64 0, .int .i64 0, .int .i64 0, .int .i64 0, .int .i64 0, .int .i64 0, .int .i64 0, .int .i64 0, .int .i64 0, .int .i64 0, .int .i64 0] 27)
          clear h1714q h1715q h1716q
          have h1746q : Hid (TAt (u1717q.alloc (.cells #[.int .i64 0, .int .i64 0, .int .i64 0, .int .i64 0, .int .i64 0, .int .i64 0, .int .i64 0, .int .i64 0, .int .i64 0, .int .i64 0, .int .i64 0, .int .i64 0, .int .i64 0, .int .i64 0, .int .i64 0, .int .i64 0] 27)) u1717q.heap.size Tb.zero) := TAt.bornZero u1717q 27 (by simp)
          refine hK.out _ _ h1744q.out (fun hH => ?_)
          clear hK K
          generalize (u1717q.alloc (.cells #[.int .i64 0, .int .i64 0, .int .i64 0, .int .i64 0, .int .i64 0, .int .i64 0, .int .i64 0, .int .i64 0, .int .i64 0, .int .i64 0, .int .i64 0, .int .i64 0, .int .i64 0, .int .i64 0, .int .i64 0, .int .i64 0] 27)) = u1747q at h1743q h1744q h1745q h1746q hH ⊢
          try simp only [Act.put, List.setIfInBounds_toArray, List.set_cons_zero, List.set_cons_succ]
          refine wpAnyH_ready (rs := [5]) (by kernel_rfl) (by simp) ?_
          refine AllReadyH.cons (o := { dst := some 33, op := _, type := _, pos := _, after := _, guard := _ }) rfl (fun K hK => ?_) AllReadyH.nil
          go_simp
          refine (DO _).mono ?_
          rintro e u1748q ⟨rfl, hb⟩
          have h1749q : Hid (Gd n w u1748q) := h1743q.out.later hb
          have h1750q : Hid (TAt u1748q u1593q.heap.size t) := h1744q.out.later hb
          have h1751q : Hid (Bo u1748q u1608q.heap.size [.int .i64 0, .int .i64 0]) := h1745q.out.later hb
          have h1752q : Hid (TAt u1748q u1717q.heap.size Tb.zero) := h1746q.out.later hb
          clear h1743q h1744q h1745q h1746q
          clear hb
          go_wp2_with fail
          refine hK.out _ _ h1750q.out (fun hH => ?_)
          clear hK K
          try simp only [Act.put, List.setIfInBounds_toArray, List.set_cons_zero, List.set_cons_succ]
          refine wpAnyH_take (i := 6) (oi := { dst := some 27, op := .move (.tmp 33), type := _, pos := _, after := _, guard := _ }) (v := ?_) rfl (by kernel_rfl) (by kernel_rfl) (by kernel_rfl) (fun _ _ _ h => h) (Or.inl ⟨by rfl, ?_⟩) hH ?_
          rotate_left
          · intro w hSw
            clear hSw
            go_simp
            try with_reducible rfl
          simp only [Act.put, List.setIfInBounds_toArray, List.set_cons_zero, List.set_cons_succ]
          refine wpAnyH_take (i := 7) (oi := { dst := some 34, op := .extract (.tmp 27) 0, type := _, pos := _, after := _, guard := _ }) (v := ?_) rfl (by kernel_rfl) (by kernel_rfl) (by kernel_rfl) (fun _ _ _ h => h) (Or.inl ⟨by rfl, ?_⟩) hH ?_
          rotate_left
          · intro w hSw
            clear hSw
            go_simp
            try with_reducible rfl
          simp only [Act.put, List.setIfInBounds_toArray, List.set_cons_zero, List.set_cons_succ]
          refine wpAnyH_take (i := 8) (oi := { dst := some 35, op := .extract (.tmp 27) 1, type := _, pos := _, after := _, guard := _ }) (v := ?_) rfl (by kernel_rfl) (by kernel_rfl) (by kernel_rfl) (fun _ _ _ h => h) (Or.inl ⟨by rfl, ?_⟩) hH ?_
          rotate_left
          · intro w hSw
            clear hSw
            go_simp
            try with_reducible rfl
          simp only [Act.put, List.setIfInBounds_toArray, List.set_cons_zero, List.set_cons_succ]
          refine wpAnyH_ready (rs := [11]) (by kernel_rfl) (by simp) ?_
          refine AllReadyH.cons (o := { dst := none, op := .store _ (.tmp 10) (.tmp 34), type := _, pos := _, after := _, guard := _ }) rfl (fun K hK => ?_) AllReadyH.nil
          rw [if_pos (by rfl)]
          refine wp_store_mid _ _ _ rfl u1717q.heap.size _ t.all.toArray rfl rfl (h1752q.out.thereOf t) (HZ.out t) (t.all_all) ?_
          simp only [Act.put]
          have h1753q : Hid (Gd n w (u1748q.setCells u1717q.heap.size 0 t.all)) := h1749q.out.asideAll (by omega) t
          have h1754q : Hid (TAt (u1748q.setCells u1717q.heap.size 0 t.all) u1593q.heap.size t) := h1750q.out.asideAll (by omega) t
          have h1755q : Hid (Bo (u1748q.setCells u1717q.heap.size 0 t.all) u1608q.heap.size [.int .i64 0, .int .i64 0]) := h1751q.out.asideAll (by omega) t
          have h1756q : Hid (TAt (u1748q.setCells u1717q.heap.size 0 t.all) u1717q.heap.size t) := h1752q.out.setAll t
          clear h1749q h1750q h1751q h1752q
          refine hK.out _ _ h1754q.out (fun hH => ?_)
          clear hK K
          generalize (u1748q.setCells u1717q.heap.size 0 t.all) = u1757q at h1753q h1754q h1755q h1756q hH ⊢
          try simp only [Act.put, List.setIfInBounds_toArray, List.set_cons_zero, List.set_cons_succ]
          refine wpAnyH_ready (rs := [12]) (by kernel_rfl) (by simp) ?_
          refine AllReadyH.cons (o := { dst := none, op := .store _ (.tmp 11) (.tmp 35), type := _, pos := _, after := _, guard := _ }) rfl (fun K hK => ?_) AllReadyH.nil
          rw [if_pos (by rfl)]
          refine wp_store_mid _ _ _ rfl u1608q.heap.size _ #[.int .i64 (3), .int .i64 (0)] rfl rfl h1755q.out.there2 HA.out (two_one _ _) ?_
          simp only [Act.put]
          have h1758q : Hid (Gd n w (u1757q.setCells u1608q.heap.size 0 [.int .i64 (3), .int .i64 (0)])) := h1753q.out.asideL (by omega) 0 [.int .i64 (3), .int .i64 (0)]
          have h1759q : Hid (TAt (u1757q.setCells u1608q.heap.size 0 [.int .i64 (3), .int .i64 (0)]) u1593q.heap.size t) := h1754q.out.asideL (by omega) 0 [.int .i64 (3), .int .i64 (0)]
          have h1760q : Hid (Bo (u1757q.setCells u1608q.heap.size 0 [.int .i64 (3), .int .i64 (0)]) u1608q.heap.size [.int .i64 (3), .int .i64 (0)]) := h1755q.out.set2 (.int .i64 (3)) (.int .i64 (0))
          have h1761q : Hid (TAt (u1757q.setCells u1608q.heap.size 0 [.int .i64 (3), .int .i64 (0)]) u1717q.heap.size t) := h1756q.out.asideL (by omega) 0 [.int .i64 (3), .int .i64 (0)]
          clear h1753q h1754q h1755q h1756q
          refine hK.out _ _ h1759q.out (fun hH => ?_)
          clear hK K
          generalize (u1757q.setCells u1608q.heap.size 0 [.int .i64 (3), .int .i64 (0)]) = u1762q at h1758q h1759q h1760q h1761q hH ⊢
          try simp only [Act.put, List.setIfInBounds_toArray, List.set_cons_zero, List.set_cons_succ]
          refine wpAnyH_done (by kernel_rfl) ?_ _
          go_wp2_with fail
          go_meet
          case rel => exact ⟨u1717q.heap.size, u1608q.heap.size, rfl, rfl, h1758q, h1759q, h1761q, h1760q⟩
        refine AllReadyH.cons (o := { dst := some 10, op := .alloc _, type := _, pos := _, after := _, guard := _ }) rfl (fun K hK => ?_) ?_
        · have l1763q : n ≤ u1608q.heap.size := h1606q.out.le
          have l1764q : u1593q.heap.size < u1608q.heap.size := h1607q.out.lt
          go_simp
          have h1765q : Hid (Gd n w (u1608q.alloc (.cells #[.int .i64 0, .int .i64 0, .int .i64 0, .int .i64 0, .int .i64 0, .int .i64 0, .int .i64 0, .int .i64 0, .int .i64 0, .int .i64 0, .int .i64 0, .int .i64 0, .int .i64 0, .int .i64 0, .int .i64 0, .int .i64 0] 27))) := h1606q.out.new (.cells #[.int .i64 0, .int .i64 0, .int .i64 0, .int .i64 0, .int .i64 0, .int .i64 0, .int .i64 0, .int .i64 0, .int .i64 0, .int .i64 0, .int .i64 0, .int .i64 0, .int .i64 0, .int .i64 0, .int .i64 0, .int .i64 0] 27)
          have h1766q : Hid (TAt (u1608q.alloc (.cells #[.int .i64 0, .int .i64 0, .int .i64 0, .int .i64 0, .int .i64 0, .int .i64 0, .int .i64 0, .int .i64 0, .int .i64 0, .int .i64 0, .int .i64 0, .int .i64 0, .int .i64 0, .int .i64 0, .int .i64 0, .int .i64 0] 27)) u1593q.heap.size t) := h1607q.out.new (.cells #[.int .i64 0, .int .i64 0, .int .i64 0, .int .i64 0, .int .i64 0, .int .i64 0, .int .i64 0, .int .i64 0, .int .i64 0, .int .i64 0, .int .i64 0, .int .i64 0, .int .i64 0, .int .i64 0, .int .i64 0, .int .i64 0] 27)
          clear h1606q h1607q
          have h1767q : Hid (TAt (u1608q.alloc (.cells #[.int .i64 0, .int .i64 0, .int .i64 0, .int .i64 0, .int .i64 0, .int .i64 0, .int .i64 0, .int .i64 0, .int .i64 0, .int .i64 0, .int .i64 0, .int .i64 0, .int .i64 0, .int .i64 0, .int .i64 0, .int .i64 0] 27)) u1608q.heap.size Tb.zero) := TAt.bornZero u1608q 27 (by simp)
          refine hK.out _ _ h1766q.out (fun hH => ?_)
          clear hK K
          generalize (u1608q.alloc (.cells #[.int .i64 0, .int .i64 0, .int .i64 0, .int .i64 0, .int .i64 0, .int .i64 0, .int .i64 0, .int .i64 0, .int .i64 0, .int .i64 0, .int .i64 0, .int .i64 0, .int .i64 0, .int .i64 0, .int .i64 0, .int .i64 0] 27)) = u1768q at h1765q h1766q h1767q hH ⊢
          try simp only [Act.put, List.setIfInBounds_toArray, List.set_cons_zero, List.set_cons_succ]
          refine wpAnyH_ready (rs := [3, 10]) (by kernel_rfl) (by simp) ?_
          refine AllReadyH.cons (o := { dst := some 31, op := _, type := _, pos := _, after := _, guard := _ }) rfl (fun K hK => ?_) ?_
          · go_simp
            refine (Pr2.out _).mono ?_
            rintro e u1769q ⟨rfl, hw⟩
            rw [hw]; clear hw u1769q
            go_wp2_with fail
            refine hK.out _ _ h1766q.out (fun hH => ?_)
            clear hK K
            try simp only [Act.put, List.setIfInBounds_toArray, List.set_cons_zero, List.set_cons_succ]
            refine wpAnyH_take (i := 4) (oi := { dst := some 32, op := .build _ #[(0, .const (.int .i64 1)), (1, .tmp 29), (2, .tmp 31)], type := _, pos := _, after := _, guard := _ }) (v := ?_) rfl (by kernel_rfl) (by kernel_rfl) (by kernel_rfl) (fun _ _ _ h => h) (Or.inl ⟨by rfl, ?_⟩) hH ?_
            rotate_left
            · intro w hSw
              clear hSw
              go_simp
              try with_reducible rfl
            simp only [Act.put, List.setIfInBounds_toArray, List.set_cons_zero, List.set_cons_succ]
            refine wpAnyH_ready (rs := [5, 10]) (by kernel_rfl) (by simp) ?_
            refine AllReadyH.cons (o := { dst := some 33, op := _, type := _, pos := _, after := _, guard := _ }) rfl (fun K hK => ?_) ?_
            · go_simp
              refine (DO _).mono ?_
              rintro e u1770q ⟨rfl, hb⟩
              have h1771q : Hid (Gd n w u1770q) := h1765q.out.later hb
              have h1772q : Hid (TAt u1770q u1593q.heap.size t) := h1766q.out.later hb
              have h1773q : Hid (TAt u1770q u1608q.heap.size Tb.zero) := h1767q.out.later hb
              clear h1765q h1766q h1767q
              clear hb
              go_wp2_with fail
              refine hK.out _ _ h1772q.out (fun hH => ?_)
              clear hK K
              try simp only [Act.put, List.setIfInBounds_toArray, List.set_cons_zero, List.set_cons_succ]
              refine wpAnyH_take (i := 6) (oi := { dst := some 27, op := .move (.tmp 33), type := _, pos := _, after := _, guard := _ }) (v := ?_) rfl (by kernel_rfl) (by kernel_rfl) (by kernel_rfl) (fun _ _ _ h => h) (Or.inl ⟨by rfl, ?_⟩) hH ?_
              rotate_left
              · intro w hSw
                clear hSw
                go_simp
                try with_reducible rfl
              simp only [Act.put, List.setIfInBounds_toArray, List.set_cons_zero, List.set_cons_succ]
              refine wpAnyH_take (i := 7) (oi := { dst := some 34, op := .extract (.tmp 27) 0, type := _, pos := _, after := _, guard := _ }) (v := ?_) rfl (by kernel_rfl) (by kernel_rfl) (by kernel_rfl) (fun _ _ _ h => h) (Or.inl ⟨by rfl, ?_⟩) hH ?_
              rotate_left
              · intro w hSw
                clear hSw
                go_simp
                try with_reducible rfl
              simp only [Act.put, List.setIfInBounds_toArray, List.set_cons_zero, List.set_cons_succ]
              refine wpAnyH_take (i := 8) (oi := { dst := some 35, op := .extract (.tmp 27) 1, type := _, pos := _, after := _, guard := _ }) (v := ?_) rfl (by kernel_rfl) (by kernel_rfl) (by kernel_rfl) (fun _ _ _ h => h) (Or.inl ⟨by rfl, ?_⟩) hH ?_
              rotate_left
              · intro w hSw
                clear hSw
                go_simp
                try with_reducible rfl
              simp only [Act.put, List.setIfInBounds_toArray, List.set_cons_zero, List.set_cons_succ]
              refine wpAnyH_ready (rs := [10]) (by kernel_rfl) (by simp) ?_
              refine AllReadyH.cons (o := { dst := some 11, op := .alloc _, type := _, pos := _, after := _, guard := _ }) rfl (fun K hK => ?_) AllReadyH.nil
              have l1774q : n ≤ u1770q.heap.size := h1771q.out.le
              have l1775q : u1593q.heap.size < u1770q.heap.size := h1772q.out.lt
              have l1776q : u1608q.heap.size < u1770q.heap.size := h1773q.out.lt
              go_simp
              have h1777q : Hid (Gd n w (u1770q.alloc (.cells #[.int .i64 0, .int .i64 0] 31))) := h1771q.out.new (.cells #[.int .i64 0, .int .i64 0] 31)
              have h1778q : Hid (TAt (u1770q.alloc (.cells #[.int .i64 0, .int .i64 0] 31)) u1593q.heap.size t) := h1772q.out.new (.cells #[.int .i64 0, .int .i64 0] 31)
              have h1779q : Hid (TAt (u1770q.alloc (.cells #[.int .i64 0, .int .i64 0] 31)) u1608q.heap.size Tb.zero) := h1773q.out.new (.cells #[.int .i64 0, .int .i64 0] 31)
              clear h1771q h1772q h1773q
              have h1780q : Hid (Bo (u1770q.alloc (.cells #[.int .i64 0, .int .i64 0] 31)) u1770q.heap.size [.int .i64 0, .int .i64 0]) := Bo.born u1770q [.int .i64 0, .int .i64 0] 31 (by simp)
              refine hK.out _ _ h1778q.out (fun hH => ?_)
              clear hK K
              generalize (u1770q.alloc (.cells #[.int .i64 0, .int .i64 0] 31)) = u1781q at h1777q h1778q h1779q h1780q hH ⊢
              try simp only [Act.put, List.setIfInBounds_toArray, List.set_cons_zero, List.set_cons_succ]
              refine wpAnyH_ready (rs := [11]) (by kernel_rfl) (by simp) ?_
              refine AllReadyH.cons (o := { dst := none, op := .store _ (.tmp 10) (.tmp 34), type := _, pos := _, after := _, guard := _ }) rfl (fun K hK => ?_) AllReadyH.nil
              rw [if_pos (by rfl)]
              refine wp_store_mid _ _ _ rfl u1608q.heap.size _ t.all.toArray rfl rfl (h1779q.out.thereOf t) (HZ.out t) (t.all_all) ?_
              simp only [Act.put]
              have h1782q : Hid (Gd n w (u1781q.setCells u1608q.heap.size 0 t.all)) := h1777q.out.asideAll (by omega) t
              have h1783q : Hid (TAt (u1781q.setCells u1608q.heap.size 0 t.all) u1593q.heap.size t) := h1778q.out.asideAll (by omega) t
              have h1784q : Hid (TAt (u1781q.setCells u1608q.heap.size 0 t.all) u1608q.heap.size t) := h1779q.out.setAll t
              have h1785q : Hid (Bo (u1781q.setCells u1608q.heap.size 0 t.all) u1770q.heap.size [.int .i64 0, .int .i64 0]) := h1780q.out.asideAll (by omega) t
              clear h1777q h1778q h1779q h1780q
              refine hK.out _ _ h1783q.out (fun hH => ?_)
              clear hK K
              generalize (u1781q.setCells u1608q.heap.size 0 t.all) = u1786q at h1782q h1783q h1784q h1785q hH ⊢
              try simp only [Act.put, List.setIfInBounds_toArray, List.set_cons_zero, List.set_cons_succ]
              refine wpAnyH_ready (rs := [12]) (by kernel_rfl) (by simp) ?_
              refine AllReadyH.cons (o := { dst := none, op := .store _ (.tmp 11) (.tmp 35), type := _, pos := _, after := _, guard := _ }) rfl (fun K hK => ?_) AllReadyH.nil
              rw [if_pos (by rfl)]
              refine wp_store_mid _ _ _ rfl u1770q.heap.size _ #[.int .i64 (3), .int .i64 (0)] rfl rfl h1785q.out.there2 HA.out (two_one _ _) ?_
              simp only [Act.put]
              have h1787q : Hid (Gd n w (u1786q.setCells u1770q.heap.size 0 [.int .i64 (3), .int .i64 (0)])) := h1782q.out.asideL (by omega) 0 [.int .i64 (3), .int .i64 (0)]
              have h1788q : Hid (TAt (u1786q.setCells u1770q.heap.size 0 [.int .i64 (3), .int .i64 (0)]) u1593q.heap.size t) := h1783q.out.asideL (by omega) 0 [.int .i64 (3), .int .i64 (0)]
              have h1789q : Hid (TAt (u1786q.setCells u1770q.heap.size 0 [.int .i64 (3), .int .i64 (0)]) u1608q.heap.size t) := h1784q.out.asideL (by omega) 0 [.int .i64 (3), .int .i64 (0)]
              have h1790q : Hid (Bo (u1786q.setCells u1770q.heap.size 0 [.int .i64 (3), .int .i64 (0)]) u1770q.heap.size [.int .i64 (3), .int .i64 (0)]) := h1785q.out.set2 (.int .i64 (3)) (.int .i64 (0))
              clear h1782q h1783q h1784q h1785q
              refine hK.out _ _ h1788q.out (fun hH => ?_)
              clear hK K
              generalize (u1786q.setCells u1770q.heap.size 0 [.int .i64 (3), .int .i64 (0)]) = u1791q at h1787q h1788q h1789q h1790q hH ⊢
              try simp only [Act.put, List.setIfInBounds_toArray, List.set_cons_zero, List.set_cons_succ]
              refine wpAnyH_done (by kernel_rfl) ?_ _
              go_wp2_with fail
              go_meet
              case rel => exact ⟨u1608q.heap.size, u1770q.heap.size, rfl, rfl, h1787q, h1788q, h1789q, h1790q⟩
            refine AllReadyH.cons (o := { dst := some 11, op := .alloc _, type := _, pos := _, after := _, guard := _ }) rfl (fun K hK => ?_) AllReadyH.nil
            have l1792q : n ≤ u1768q.heap.size := h1765q.out.le
            have l1793q : u1593q.heap.size < u1768q.heap.size := h1766q.out.lt
            have l1794q : u1608q.heap.size < u1768q.heap.size := h1767q.out.lt
            go_simp
            have h1795q : Hid (Gd n w (u1768q.alloc (.cells #[.int .i64 0, .int .i64 0] 31))) := h1765q.out.new (.cells #[.int .i64 0, .int .i64 0] 31)
            have h1796q : Hid (TAt (u1768q.alloc (.cells #[.int .i64 0, .int .i64 0] 31)) u1593q.heap.size t) := h1766q.out.new (.cells #[.int .i64 0, .int .i64 0] 31)
            have h1797q : Hid (TAt (u1768q.alloc (.cells #[.int .i64 0, .int .i64 0] 31)) u1608q.heap.size Tb.zero) := h1767q.out.new (.cells #[.int .i64 0, .int .i64 0] 31)
            clear h1765q h1766q h1767q
            have h1798q : Hid (Bo (u1768q.alloc (.cells #[.int .i64 0, .int .i64 0] 31)) u1768q.heap.size [.int .i64 0, .int .i64 0]) := Bo.born u1768q [.int .i64 0, .int .i64 0] 31 (by simp)
            refine hK.out _ _ h1796q.out (fun hH => ?_)
            clear hK K
            generalize (u1768q.alloc (.cells #[.int .i64 0, .int .i64 0] 31)) = u1799q at h1795q h1796q h1797q h1798q hH ⊢
            try simp only [Act.put, List.setIfInBounds_toArray, List.set_cons_zero, List.set_cons_succ]
            refine wpAnyH_ready (rs := [5]) (by kernel_rfl) (by simp) ?_
            refine AllReadyH.cons (o := { dst := some 33, op := _, type := _, pos := _, after := _, guard := _ }) rfl (fun K hK => ?_) AllReadyH.nil
            go_simp
            refine (DO _).mono ?_
            rintro e u1800q ⟨rfl, hb⟩
            have h1801q : Hid (Gd n w u1800q) := h1795q.out.later hb
            have h1802q : Hid (TAt u1800q u1593q.heap.size t) := h1796q.out.later hb
            have h1803q : Hid (TAt u1800q u1608q.heap.size Tb.zero) := h1797q.out.later hb
            have h1804q : Hid (Bo u1800q u1768q.heap.size [.int .i64 0, .int .i64 0]) := h1798q.out.later hb
            clear h1795q h1796q h1797q h1798q
            clear hb
            go_wp2_with fail
            refine hK.out _ _ h1802q.out (fun hH => ?_)
            clear hK K
            try simp only [Act.put, List.setIfInBounds_toArray, List.set_cons_zero, List.set_cons_succ]
            refine wpAnyH_take (i := 6) (oi := { dst := some 27, op := .move (.tmp 33), type := _, pos := _, after := _, guard := _ }) (v := ?_) rfl (by kernel_rfl) (by kernel_rfl) (by kernel_rfl) (fun _ _ _ h => h) (Or.inl ⟨by rfl, ?_⟩) hH ?_
            rotate_left
            · intro w hSw
              clear hSw
              go_simp
              try with_reducible rfl
            simp only [Act.put, List.setIfInBounds_toArray, List.set_cons_zero, List.set_cons_succ]
            refine wpAnyH_take (i := 7) (oi := { dst := some 34, op := .extract (.tmp 27) 0, type := _, pos := _, after := _, guard := _ }) (v := ?_) rfl (by kernel_rfl) (by kernel_rfl) (by kernel_rfl) (fun _ _ _ h => h) (Or.inl ⟨by rfl, ?_⟩) hH ?_
            rotate_left
            · intro w hSw
              clear hSw
              go_simp
              try with_reducible rfl
            simp only [Act.put, List.setIfInBounds_toArray, List.set_cons_zero, List.set_cons_succ]
            refine wpAnyH_take (i := 8) (oi := { dst := some 35, op := .extract (.tmp 27) 1, type := _, pos := _, after := _, guard := _ }) (v := ?_) rfl (by kernel_rfl) (by kernel_rfl) (by kernel_rfl) (fun _ _ _ h => h) (Or.inl ⟨by rfl, ?_⟩) hH ?_
            rotate_left
            · intro w hSw
              clear hSw
              go_simp
              try with_reducible rfl
            simp only [Act.put, List.setIfInBounds_toArray, List.set_cons_zero, List.set_cons_succ]
            refine wpAnyH_ready (rs := [11]) (by kernel_rfl) (by simp) ?_
            refine AllReadyH.cons (o := { dst := none, op := .store _ (.tmp 10) (.tmp 34), type := _, pos := _, after := _, guard := _ }) rfl (fun K hK => ?_) AllReadyH.nil
            rw [if_pos (by rfl)]
            refine wp_store_mid _ _ _ rfl u1608q.heap.size _ t.all.toArray rfl rfl (h1803q.out.thereOf t) (HZ.out t) (t.all_all) ?_
            simp only [Act.put]
            have h1805q : Hid (Gd n w (u1800q.setCells u1608q.heap.size 0 t.all)) := h1801q.out.asideAll (by omega) t
            have h1806q : Hid (TAt (u1800q.setCells u1608q.heap.size 0 t.all) u1593q.heap.size t) := h1802q.out.asideAll (by omega) t
            have h1807q : Hid (TAt (u1800q.setCells u1608q.heap.size 0 t.all) u1608q.heap.size t) := h1803q.out.setAll t
            have h1808q : Hid (Bo (u1800q.setCells u1608q.heap.size 0 t.all) u1768q.heap.size [.int .i64 0, .int .i64 0]) := h1804q.out.asideAll (by omega) t
            clear h1801q h1802q h1803q h1804q
            refine hK.out _ _ h1806q.out (fun hH => ?_)
            clear hK K
            generalize (u1800q.setCells u1608q.heap.size 0 t.all) = u1809q at h1805q h1806q h1807q h1808q hH ⊢
            try simp only [Act.put, List.setIfInBounds_toArray, List.set_cons_zero, List.set_cons_succ]
            refine wpAnyH_ready (rs := [12]) (by kernel_rfl) (by simp) ?_
            refine AllReadyH.cons (o := { dst := none, op := .store _ (.tmp 11) (.tmp 35), type := _, pos := _, after := _, guard := _ }) rfl (fun K hK => ?_) AllReadyH.nil
            rw [if_pos (by rfl)]
            refine wp_store_mid _ _ _ rfl u1768q.heap.size _ #[.int .i64 (3), .int .i64 (0)] rfl rfl h1808q.out.there2 HA.out (two_one _ _) ?_
            simp only [Act.put]
            have h1810q : Hid (Gd n w (u1809q.setCells u1768q.heap.size 0 [.int .i64 (3), .int .i64 (0)])) := h1805q.out.asideL (by omega) 0 [.int .i64 (3), .int .i64 (0)]
            have h1811q : Hid (TAt (u1809q.setCells u1768q.heap.size 0 [.int .i64 (3), .int .i64 (0)]) u1593q.heap.size t) := h1806q.out.asideL (by omega) 0 [.int .i64 (3), .int .i64 (0)]
            have h1812q : Hid (TAt (u1809q.setCells u1768q.heap.size 0 [.int .i64 (3), .int .i64 (0)]) u1608q.heap.size t) := h1807q.out.asideL (by omega) 0 [.int .i64 (3), .int .i64 (0)]
            have h1813q : Hid (Bo (u1809q.setCells u1768q.heap.size 0 [.int .i64 (3), .int .i64 (0)]) u1768q.heap.size [.int .i64 (3), .int .i64 (0)]) := h1808q.out.set2 (.int .i64 (3)) (.int .i64 (0))
            clear h1805q h1806q h1807q h1808q
            refine hK.out _ _ h1811q.out (fun hH => ?_)
            clear hK K
            generalize (u1809q.setCells u1768q.heap.size 0 [.int .i64 (3), .int .i64 (0)]) = u1814q at h1810q h1811q h1812q h1813q hH ⊢
            try simp only [Act.put, List.setIfInBounds_toArray, List.set_cons_zero, List.set_cons_succ]
            refine wpAnyH_done (by kernel_rfl) ?_ _
            go_wp2_with fail
            go_meet
            case rel => exact ⟨u1608q.heap.size, u1768q.heap.size, rfl, rfl, h1810q, h1811q, h1812q, h1813q⟩
          refine AllReadyH.cons (o := { dst := some 11, op := .alloc _, type := _, pos := _, after := _, guard := _ }) rfl (fun K hK => ?_) AllReadyH.nil
          have l1815q : n ≤ u1768q.heap.size := h1765q.out.le
          have l1816q : u1593q.heap.size < u1768q.heap.size := h1766q.out.lt
          have l1817q : u1608q.heap.size < u1768q.heap.size := h1767q.out.lt
          go_simp
          have h1818q : Hid (Gd n w (u1768q.alloc (.cells #[.int .i64 0, .int .i64 0] 31))) := h1765q.out.new (.cells #[.int .i64 0, .int .i64 0] 31)
          have h1819q : Hid (TAt (u1768q.alloc (.cells #[.int .i64 0, .int .i64 0] 31)) u1593q.heap.size t) := h1766q.out.new (.cells #[.int .i64 0, .int .i64 0] 31)
          have h1820q : Hid (TAt (u1768q.alloc (.cells #[.int .i64 0, .int .i64 0] 31)) u1608q.heap.size Tb.zero) := h1767q.out.new (.cells #[.int .i64 0, .int .i64 0] 31)
          clear h1765q h1766q h1767q
          have h1821q : Hid (Bo (u1768q.alloc (.cells #[.int .i64 0, .int .i64 0] 31)) u1768q.heap.size [.int .i64 0, .int .i64 0]) := Bo.born u1768q [.int .i64 0, .int .i64 0] 31 (by simp)
          refine hK.out _ _ h1819q.out (fun hH => ?_)
          clear hK K
          generalize (u1768q.alloc (.cells #[.int .i64 0, .int .i64 0] 31)) = u1822q at h1818q h1819q h1820q h1821q hH ⊢
          try simp only [Act.put, List.setIfInBounds_toArray, List.set_cons_zero, List.set_cons_succ]
          refine wpAnyH_ready (rs := [3]) (by kernel_rfl) (by simp) ?_
          refine AllReadyH.cons (o := { dst := some 31, op := _, type := _, pos := _, after := _, guard := _ }) rfl (fun K hK => ?_) AllReadyH.nil
          go_simp
          refine (Pr2.out _).mono ?_
          rintro e u1823q ⟨rfl, hw⟩
          rw [hw]; clear hw u1823q
          go_wp2_with fail
          refine hK.out _ _ h1819q.out (fun hH => ?_)
          clear hK K
          try simp only [Act.put, List.setIfInBounds_toArray, List.set_cons_zero, List.set_cons_succ]
          refine wpAnyH_take (i := 4) (oi := { dst := some 32, op := .build _ #[(0, .const (.int .i64 1)), (1, .tmp 29), (2, .tmp 31)], type := _, pos := _, after := _, guard := _ }) (v := ?_) rfl (by kernel_rfl) (by kernel_rfl) (by kernel_rfl) (fun _ _ _ h => h) (Or.inl ⟨by rfl, ?_⟩) hH ?_
          rotate_left
          · intro w hSw
            clear hSw
            go_simp
            try with_reducible rfl
          simp only [Act.put, List.setIfInBounds_toArray, List.set_cons_zero, List.set_cons_succ]
          refine wpAnyH_ready (rs := [5]) (by kernel_rfl) (by simp) ?_
          refine AllReadyH.cons (o := { dst := some 33, op := _, type := _, pos := _, after := _, guard := _ }) rfl (fun K hK => ?_) AllReadyH.nil
          go_simp
          refine (DO _).mono ?_
          rintro e u1824q ⟨rfl, hb⟩
          have h1825q : Hid (Gd n w u1824q) := h1818q.out.later hb
          have h1826q : Hid (TAt u1824q u1593q.heap.size t) := h1819q.out.later hb
          have h1827q : Hid (TAt u1824q u1608q.heap.size Tb.zero) := h1820q.out.later hb
          have h1828q : Hid (Bo u1824q u1768q.heap.size [.int .i64 0, .int .i64 0]) := h1821q.out.later hb
          clear h1818q h1819q h1820q h1821q
          clear hb
          go_wp2_with fail
          refine hK.out _ _ h1826q.out (fun hH => ?_)
          clear hK K
          try simp only [Act.put, List.setIfInBounds_toArray, List.set_cons_zero, List.set_cons_succ]
          refine wpAnyH_take (i := 6) (oi := { dst := some 27, op := .move (.tmp 33), type := _, pos := _, after := _, guard := _ }) (v := ?_) rfl (by kernel_rfl) (by kernel_rfl) (by kernel_rfl) (fun _ _ _ h => h) (Or.inl ⟨by rfl, ?_⟩) hH ?_
          rotate_left
          · intro w hSw
            clear hSw
            go_simp
            try with_reducible rfl
          simp only [Act.put, List.setIfInBounds_toArray, List.set_cons_zero, List.set_cons_succ]
          refine wpAnyH_take (i := 7) (oi := { dst := some 34, op := .extract (.tmp 27) 0, type := _, pos := _, after := _, guard := _ }) (v := ?_) rfl (by kernel_rfl) (by kernel_rfl) (by kernel_rfl) (fun _ _ _ h => h) (Or.inl ⟨by rfl, ?_⟩) hH ?_
          rotate_left
          · intro w hSw
            clear hSw
            go_simp
            try with_reducible rfl
          simp only [Act.put, List.setIfInBounds_toArray, List.set_cons_zero, List.set_cons_succ]
          refine wpAnyH_take (i := 8) (oi := { dst := some 35, op := .extract (.tmp 27) 1, type := _, pos := _, after := _, guard := _ }) (v := ?_) rfl (by kernel_rfl) (by kernel_rfl) (by kernel_rfl) (fun _ _ _ h => h) (Or.inl ⟨by rfl, ?_⟩) hH ?_
          rotate_left
          · intro w hSw
            clear hSw
            go_simp
            try with_reducible rfl
          simp only [Act.put, List.setIfInBounds_toArray, List.set_cons_zero, List.set_cons_succ]
          refine wpAnyH_ready (rs := [11]) (by kernel_rfl) (by simp) ?_
          refine AllReadyH.cons (o := { dst := none, op := .store _ (.tmp 10) (.tmp 34), type := _, pos := _, after := _, guard := _ }) rfl (fun K hK => ?_) AllReadyH.nil
          rw [if_pos (by rfl)]
          refine wp_store_mid _ _ _ rfl u1608q.heap.size _ t.all.toArray rfl rfl (h1827q.out.thereOf t) (HZ.out t) (t.all_all) ?_
          simp only [Act.put]
          have h1829q : Hid (Gd n w (u1824q.setCells u1608q.heap.size 0 t.all)) := h1825q.out.asideAll (by omega) t
          have h1830q : Hid (TAt (u1824q.setCells u1608q.heap.size 0 t.all) u1593q.heap.size t) := h1826q.out.asideAll (by omega) t
          have h1831q : Hid (TAt (u1824q.setCells u1608q.heap.size 0 t.all) u1608q.heap.size t) := h1827q.out.setAll t
          have h1832q : Hid (Bo (u1824q.setCells u1608q.heap.size 0 t.all) u1768q.heap.size [.int .i64 0, .int .i64 0]) := h1828q.out.asideAll (by omega) t
          clear h1825q h1826q h1827q h1828q
          refine hK.out _ _ h1830q.out (fun hH => ?_)
          clear hK K
          generalize (u1824q.setCells u1608q.heap.size 0 t.all) = u1833q at h1829q h1830q h1831q h1832q hH ⊢
          try simp only [Act.put, List.setIfInBounds_toArray, List.set_cons_zero, List.set_cons_succ]
          refine wpAnyH_ready (rs := [12]) (by kernel_rfl) (by simp) ?_
          refine AllReadyH.cons (o := { dst := none, op := .store _ (.tmp 11) (.tmp 35), type := _, pos := _, after := _, guard := _ }) rfl (fun K hK => ?_) AllReadyH.nil
          rw [if_pos (by rfl)]
          refine wp_store_mid _ _ _ rfl u1768q.heap.size _ #[.int .i64 (3), .int .i64 (0)] rfl rfl h1832q.out.there2 HA.out (two_one _ _) ?_
          simp only [Act.put]
          have h1834q : Hid (Gd n w (u1833q.setCells u1768q.heap.size 0 [.int .i64 (3), .int .i64 (0)])) := h1829q.out.asideL (by omega) 0 [.int .i64 (3), .int .i64 (0)]
          have h1835q : Hid (TAt (u1833q.setCells u1768q.heap.size 0 [.int .i64 (3), .int .i64 (0)]) u1593q.heap.size t) := h1830q.out.asideL (by omega) 0 [.int .i64 (3), .int .i64 (0)]
          have h1836q : Hid (TAt (u1833q.setCells u1768q.heap.size 0 [.int .i64 (3), .int .i64 (0)]) u1608q.heap.size t) := h1831q.out.asideL (by omega) 0 [.int .i64 (3), .int .i64 (0)]
          have h1837q : Hid (Bo (u1833q.setCells u1768q.heap.size 0 [.int .i64 (3), .int .i64 (0)]) u1768q.heap.size [.int .i64 (3), .int .i64 (0)]) := h1832q.out.set2 (.int .i64 (3)) (.int .i64 (0))
          clear h1829q h1830q h1831q h1832q
          refine hK.out _ _ h1835q.out (fun hH => ?_)
          clear hK K
          generalize (u1833q.setCells u1768q.heap.size 0 [.int .i64 (3), .int .i64 (0)]) = u1838q at h1834q h1835q h1836q h1837q hH ⊢
          try simp only [Act.put, List.setIfInBounds_toArray, List.set_cons_zero, List.set_cons_succ]
          refine wpAnyH_done (by kernel_rfl) ?_ _
          go_wp2_with fail
          go_meet
          case rel => exact ⟨u1608q.heap.size, u1768q.heap.size, rfl, rfl, h1834q, h1835q, h1836q, h1837q⟩
        refine AllReadyH.cons (o := { dst := some 11, op := .alloc _, type := _, pos := _, after := _, guard := _ }) rfl (fun K hK => ?_) AllReadyH.nil
        have l1839q : n ≤ u1608q.heap.size := h1606q.out.le
        have l1840q : u1593q.heap.size < u1608q.heap.size := h1607q.out.lt
        go_simp
        have h1841q : Hid (Gd n w (u1608q.alloc (.cells #[.int .i64 0, .int .i64 0] 31))) := h1606q.out.new (.cells #[.int .i64 0, .int .i64 0] 31)
        have h1842q : Hid (TAt (u1608q.alloc (.cells #[.int .i64 0, .int .i64 0] 31)) u1593q.heap.size t) := h1607q.out.new (.cells #[.int .i64 0, .int .i64 0] 31)
        clear h1606q h1607q
        have h1843q : Hid (Bo (u1608q.alloc (.cells #[.int .i64 0, .int .i64 0] 31)) u1608q.heap.size [.int .i64 0, .int .i64 0]) := Bo.born u1608q [.int .i64 0, .int .i64 0] 31 (by simp)
        refine hK.out _ _ h1842q.out (fun hH => ?_)
        clear hK K
        generalize (u1608q.alloc (.cells #[.int .i64 0, .int .i64 0] 31)) = u1844q at h1841q h1842q h1843q hH ⊢
        try simp only [Act.put, List.setIfInBounds_toArray, List.set_cons_zero, List.set_cons_succ]
        refine wpAnyH_ready (rs := [3, 9]) (by kernel_rfl) (by simp) ?_
        refine AllReadyH.cons (o := { dst := some 31, op := _, type := _, pos := _, after := _, guard := _ }) rfl (fun K hK => ?_) ?_
        · go_simp
          refine (Pr2.out _).mono ?_
          rintro e u1845q ⟨rfl, hw⟩
          rw [hw]; clear hw u1845q
          go_wp2_with fail
          refine hK.out _ _ h1842q.out (fun hH => ?_)
          clear hK K
          try simp only [Act.put, List.setIfInBounds_toArray, List.set_cons_zero, List.set_cons_succ]
          refine wpAnyH_take (i := 4) (oi := { dst := some 32, op := .build _ #[(0, .const (.int .i64 1)), (1, .tmp 29), (2, .tmp 31)], type := _, pos := _, after := _, guard := _ }) (v := ?_) rfl (by kernel_rfl) (by kernel_rfl) (by kernel_rfl) (fun _ _ _ h => h) (Or.inl ⟨by rfl, ?_⟩) hH ?_
          rotate_left
          · intro w hSw
            clear hSw
            go_simp
            try with_reducible rfl
          simp only [Act.put, List.setIfInBounds_toArray, List.set_cons_zero, List.set_cons_succ]
          refine wpAnyH_ready (rs := [5, 9]) (by kernel_rfl) (by simp) ?_
          refine AllReadyH.cons (o := { dst := some 33, op := _, type := _, pos := _, after := _, guard := _ }) rfl (fun K hK => ?_) ?_
          · go_simp
            refine (DO _).mono ?_
            rintro e u1846q ⟨rfl, hb⟩
            have h1847q : Hid (Gd n w u1846q) := h1841q.out.later hb
            have h1848q : Hid (TAt u1846q u1593q.heap.size t) := h1842q.out.later hb
            have h1849q : Hid (Bo u1846q u1608q.heap.size [.int .i64 0, .int .i64 0]) := h1843q.out.later hb
            clear h1841q h1842q h1843q
            clear hb
            go_wp2_with fail
            refine hK.out _ _ h1848q.out (fun hH => ?_)
            clear hK K
            try simp only [Act.put, List.setIfInBounds_toArray, List.set_cons_zero, List.set_cons_succ]
            refine wpAnyH_take (i := 6) (oi := { dst := some 27, op := .move (.tmp 33), type := _, pos := _, after := _, guard := _ }) (v := ?_) rfl (by kernel_rfl) (by kernel_rfl) (by kernel_rfl) (fun _ _ _ h => h) (Or.inl ⟨by rfl, ?_⟩) hH ?_
            rotate_left
            · intro w hSw
              clear hSw
              go_simp
              try with_reducible rfl
            simp only [Act.put, List.setIfInBounds_toArray, List.set_cons_zero, List.set_cons_succ]
            refine wpAnyH_take (i := 7) (oi := { dst := some 34, op := .extract (.tmp 27) 0, type := _, pos := _, after := _, guard := _ }) (v := ?_) rfl (by kernel_rfl) (by kernel_rfl) (by kernel_rfl) (fun _ _ _ h => h) (Or.inl ⟨by rfl, ?_⟩) hH ?_
            rotate_left
            · intro w hSw
              clear hSw
              go_simp
              try with_reducible rfl
            simp only [Act.put, List.setIfInBounds_toArray, List.set_cons_zero, List.set_cons_succ]
            refine wpAnyH_take (i := 8) (oi := { dst := some 35, op := .extract (.tmp 27) 1, type := _, pos := _, after := _, guard := _ }) (v := ?_) rfl (by kernel_rfl) (by kernel_rfl) (by kernel_rfl) (fun _ _ _ h => h) (Or.inl ⟨by rfl, ?_⟩) hH ?_
            rotate_left
            · intro w hSw
              clear hSw
              go_simp
              try with_reducible rfl
            simp only [Act.put, List.setIfInBounds_toArray, List.set_cons_zero, List.set_cons_succ]
            refine wpAnyH_ready (rs := [9]) (by kernel_rfl) (by simp) ?_
            refine AllReadyH.cons (o := { dst := some 10, op := .alloc _, type := _, pos := _, after := _, guard := _ }) rfl (fun K hK => ?_) AllReadyH.nil
            have l1850q : n ≤ u1846q.heap.size := h1847q.out.le
            have l1851q : u1593q.heap.size < u1846q.heap.size := h1848q.out.lt
            have l1852q : u1608q.heap.size < u1846q.heap.size := h1849q.out.lt
            go_simp
            have h1853q : Hid (Gd n w (u1846q.alloc (.cells #[.int .i64 0, .int .i64 0, .int .i64 0, .int .i64 0, .int .i64 0, .int .i64 0, .int .i64 0, .int .i64 0, .int .i64 0, .int .i64 0, .int .i64 0, .int .i64 0, .int .i64 0, .int .i64 0, .int .i64 0, .int .i64 0] 27))) := h1847q.out.new (.cells #[.int .i64 0, .int .i64 0, .int .i64 0, .int .i64 0, .int .i64 0, .int .i64 0, .int .i64 0, .int .i64 0, .int .i64 0, .int .i64 0, .int .i64 0, .int .i64 0, .int .i64 0, .int .i64 0, .int .i64 0, .int .i64 0] 27)
            have h1854q : Hid (TAt (u1846q.alloc (.cells #[.int .i64 0, .int .i64 0, .int .i64 0, .int .i64 0, .int .i64 0, .int .i64 0, .int .i64 0, .int .i64 0, .int .i64 0, .int .i64 0, .int .i64 0, .int .i64 0, .int .i64 0, .int .i64 0, .int .i64 0, .int .i64 0] 27)) u1593q.heap.size t) := h1848q.out.new (.cells #[.int .i64 0, .int .i64 0, .int .i64 0, .int .i64 0, .int .i64 0, .int .i64 0, .int .i64 0, .int .i64 0, .int .i64 0, .int .i64 0, .int .i64 0, .int .i64 0, .int .i64 0, .int .i64 0, .int .i64 0, .int .i64 0] 27)
            have h1855q : Hid (Bo (u1846q.alloc (.cells #[.int .i64 0, .int .i64 0, .int .i64 0, .int .i64 0, .int .i64 0, .int .i64 0, .int .i64 0, .int .i64 0, .int .i64 0, .int .i64 0, .int .i64 0, .int .i64 0, .int .i64 0, .int .i64 0, .int .i64 0, .int .i64 0] 27)) u1608q.heap.size [.int .i64 0, .int .i64 0]) := h1849q.out.new (.cells #[.int .i64 0, .int .i64 0, .int .i64 0, .int .i64 0, .int .i64 0, .int .i64 0, .int .i64 0, .int .i64 0, .int .i64 0, .int .i64 0, .int .i64 0, .int .i64 0, .int .i64 0, .int .i64 0, .int .i64 0, .int .i64 0] 27)
            clear h1847q h1848q h1849q
            have h1856q : Hid (TAt (u1846q.alloc (.cells #[.int .i64 0, .int .i64 0, .int .i64 0, .int .i64 0, .int .i64 0, .int .i64 0, .int .i64 0, .int .i64 0, .int .i64 0, .int .i64 0, .int .i64 0, .int .i64 0, .int .i64 0, .int .i64 0, .int .i64 0, .int .i64 0] 27)) u1846q.heap.size Tb.zero) := TAt.bornZero u1846q 27 (by simp)
            refine hK.out _ _ h1854q.out (fun hH => ?_)
            clear hK K
            generalize (u1846q.alloc (.cells #[.int .i64 0, .int .i64 0, .int .i64 0, .int .i64 0, .int .i64 0, .int .i64 0, .int .i64 0, .int .i64 0, .int .i64 0, .int .i64 0, .int .i64 0, .int .i64 0, .int .i64 0, .int .i64 0, .int .i64 0, .int .i64 0] 27)) = u1857q at h1853q h1854q h1855q h1856q hH ⊢
            try simp only [Act.put, List.setIfInBounds_toArray, List.set_cons_zero, List.set_cons_succ]
            refine wpAnyH_ready (rs := [11]) (by kernel_rfl) (by simp) ?_
            refine AllReadyH.cons (o := { dst := none, op := .store _ (.tmp 10) (.tmp 34), type := _, pos := _, after := _, guard := _ }) rfl (fun K hK => ?_) AllReadyH.nil
            rw [if_pos (by rfl)]
            refine wp_store_mid _ _ _ rfl u1846q.heap.size _ t.all.toArray rfl rfl (h1856q.out.thereOf t) (HZ.out t) (t.all_all) ?_
            simp only [Act.put]
            have h1858q : Hid (Gd n w (u1857q.setCells u1846q.heap.size 0 t.all)) := h1853q.out.asideAll (by omega) t
            have h1859q : Hid (TAt (u1857q.setCells u1846q.heap.size 0 t.all) u1593q.heap.size t) := h1854q.out.asideAll (by omega) t
            have h1860q : Hid (Bo (u1857q.setCells u1846q.heap.size 0 t.all) u1608q.heap.size [.int .i64 0, .int .i64 0]) := h1855q.out.asideAll (by omega) t
            have h1861q : Hid (TAt (u1857q.setCells u1846q.heap.size 0 t.all) u1846q.heap.size t) := h1856q.out.setAll t
            clear h1853q h1854q h1855q h1856q
            refine hK.out _ _ h1859q.out (fun hH => ?_)
            clear hK K
            generalize (u1857q.setCells u1846q.heap.size 0 t.all) = u1862q at h1858q h1859q h1860q h1861q hH ⊢
            try simp only [Act.put, List.setIfInBounds_toArray, List.set_cons_zero, List.set_cons_succ]
            refine wpAnyH_ready (rs := [12]) (by kernel_rfl) (by simp) ?_
            refine AllReadyH.cons (o := { dst := none, op := .store _ (.tmp 11) (.tmp 35), type := _, pos := _, after := _, guard := _ }) rfl (fun K hK => ?_) AllReadyH.nil
            rw [if_pos (by rfl)]
            refine wp_store_mid _ _ _ rfl u1608q.heap.size _ #[.int .i64 (3), .int .i64 (0)] rfl rfl h1860q.out.there2 HA.out (two_one _ _) ?_
            simp only [Act.put]
            have h1863q : Hid (Gd n w (u1862q.setCells u1608q.heap.size 0 [.int .i64 (3), .int .i64 (0)])) := h1858q.out.asideL (by omega) 0 [.int .i64 (3), .int .i64 (0)]
            have h1864q : Hid (TAt (u1862q.setCells u1608q.heap.size 0 [.int .i64 (3), .int .i64 (0)]) u1593q.heap.size t) := h1859q.out.asideL (by omega) 0 [.int .i64 (3), .int .i64 (0)]
            have h1865q : Hid (Bo (u1862q.setCells u1608q.heap.size 0 [.int .i64 (3), .int .i64 (0)]) u1608q.heap.size [.int .i64 (3), .int .i64 (0)]) := h1860q.out.set2 (.int .i64 (3)) (.int .i64 (0))
            have h1866q : Hid (TAt (u1862q.setCells u1608q.heap.size 0 [.int .i64 (3), .int .i64 (0)]) u1846q.heap.size t) := h1861q.out.asideL (by omega) 0 [.int .i64 (3), .int .i64 (0)]
            clear h1858q h1859q h1860q h1861q
            refine hK.out _ _ h1864q.out (fun hH => ?_)
            clear hK K
            generalize (u1862q.setCells u1608q.heap.size 0 [.int .i64 (3), .int .i64 (0)]) = u1867q at h1863q h1864q h1865q h1866q hH ⊢
            try simp only [Act.put, List.setIfInBounds_toArray, List.set_cons_zero, List.set_cons_succ]
            refine wpAnyH_done (by kernel_rfl) ?_ _
            go_wp2_with fail
            go_meet
            case rel => exact ⟨u1846q.heap.size, u1608q.heap.size, rfl, rfl, h1863q, h1864q, h1866q, h1865q⟩
          refine AllReadyH.cons (o := { dst := some 10, op := .alloc _, type := _, pos := _, after := _, guard := _ }) rfl (fun K hK => ?_) AllReadyH.nil
          have l1868q : n ≤ u1844q.heap.size := h1841q.out.le
          have l1869q : u1593q.heap.size < u1844q.heap.size := h1842q.out.lt
          have l1870q : u1608q.heap.size < u1844q.heap.size := h1843q.out.lt
          go_simp
          have h1871q : Hid (Gd n w (u1844q.alloc (.cells #[.int .i64 0, .int .i64 0, .int .i64 0, .int .i64 0, .int .i64 0, .int .i64 0, .int .i64 0, .int .i64 0, .int .i64 0, .int .i64 0, .int .i64 0, .int .i64 0, .int .i64 0, .int .i64 0, .int .i64 0, .int .i64 0] 27))) := h1841q.out.new (.cells #[.int .i64 0, .int .i64 0, .int .i64 0, .int .i64 0, .int .i64 0, .int .i64 0, .int .i64 0, .int .i64 0, .int .i64 0, .int .i64 0, .int .i64 0, .int .i64 0, .int .i64 0, .int .i64 0, .int .i64 0, .int .i64 0] 27)
          have h1872q : Hid (TAt (u1844q.alloc (.cells #[.int .i64 0, .int .i64 0, .int .i64 0, .int .i64 0, .int .i64 0, .int .i64 0, .int .i64 0, .int .i64 0, .int .i64 0, .int .i64 0, .int .i64 0, .int .i64 0, .int .i64 0, .int .i64 0, .int .i64 0, .int .i64 0] 27)) u1593q.heap.size t) := h1842q.out.new (.cells #[.int .i64 0, .int .i64 0, .int .i64 0, .int .i64 0, .int .i64 0, .int .i64 0, .int .i64 0, .int .i64 0, .int .i64 0, .int .i64 0, .int .i64 0, .int .i64 0, .int .i64 0, .int .i64 0, .int .i64 0, .int .i64 0] 27)
          have h1873q : Hid (Bo (u1844q.alloc (.cells #[.int .i64 0, .int .i64 0, .int .i64 0, .int .i64 0, .int .i64 0, .int .i64 0, .int .i64 0, .int .i64 0, .int .i64 0, .int .i64 0, .int .i64 0, .int .i64 0, .int .i64 0, .int .i64 0, .int .i64 0, .int .i64 0] 27)) u1608q.heap.size [.int .i64 0, .int .i64 0]) := h1843q.out.new (.cells #[.int .i64 0, .int .i64 0, .int .i64 0, .int .i64 0, .int .i64 0, .int .i64 0, .int .i64 0, .int .i64 0, .int .i64 0, .int .i64 0, .int .i64 0, .int .i64 0, .int .i64 0, .int .i64 0, .int .i64 0, .int .i64 0] 27)
          clear h1841q h1842q h1843q
          have h1874q : Hid (TAt (u1844q.alloc (.cells #[.int .i64 0, .int .i64 0, .int .i64 0, .int .i64 0, .int .i64 0, .int .i64 0, .int .i64 0, .int .i64 0, .int .i64 0, .int .i64 0, .int .i64 0, .int .i64 0, .int .i64 0, .int .i64 0, .int .i64 0, .int .i64 0] 27)) u1844q.heap.size Tb.zero) := TAt.bornZero u1844q 27 (by simp)
          refine hK.out _ _ h1872q.out (fun hH => ?_)
          clear hK K
          generalize (u1844q.alloc (.cells #[.int .i64 0, .int .i64 0, .int .i64 0, .int .i64 0, .int .i64 0, .int .i64 0, .int .i64 0, .int .i64 0, .int .i64 0, .int .i64 0, .int .i64 0, .int .i64 0, .int .i64 0, .int .i64 0, .int .i64 0, .int .i64 0] 27)) = u1875q at h1871q h1872q h1873q h1874q hH ⊢
          try simp only [Act.put, List.setIfInBounds_toArray, List.set_cons_zero, List.set_cons_succ]
          refine wpAnyH_ready (rs := [5]) (by kernel_rfl) (by simp) ?_
          refine AllReadyH.cons (o := { dst := some 33, op := _, type := _, pos := _, after := _, guard := _ }) rfl (fun K hK => ?_) AllReadyH.nil
          go_simp
          refine (DO _).mono ?_
          rintro e u1876q ⟨rfl, hb⟩
          have h1877q : Hid (Gd n w u1876q) := h1871q.out.later hb
          have h1878q : Hid (TAt u1876q u1593q.heap.size t) := h1872q.out.later hb
          have h1879q : Hid (Bo u1876q u1608q.heap.size [.int .i64 0, .int .i64 0]) := h1873q.out.later hb
          have h1880q : Hid (TAt u1876q u1844q.heap.size Tb.zero) := h1874q.out.later hb
          clear h1871q h1872q h1873q h1874q
          clear hb
          go_wp2_with fail
          refine hK.out _ _ h1878q.out (fun hH => ?_)
          clear hK K
          try simp only [Act.put, List.setIfInBounds_toArray, List.set_cons_zero, List.set_cons_succ]
          refine wpAnyH_take (i := 6) (oi := { dst := some 27, op := .move (.tmp 33), type := _, pos := _, after := _, guard := _ }) (v := ?_) rfl (by kernel_rfl) (by kernel_rfl) (by kernel_rfl) (fun _ _ _ h => h) (Or.inl ⟨by rfl, ?_⟩) hH ?_
          rotate_left
          · intro w hSw
            clear hSw
            go_simp
            try with_reducible rfl
          simp only [Act.put, List.setIfInBounds_toArray, List.set_cons_zero, List.set_cons_succ]
          refine wpAnyH_take (i := 7) (oi := { dst := some 34, op := .extract (.tmp 27) 0, type := _, pos := _, after := _, guard := _ }) (v := ?_) rfl (by kernel_rfl) (by kernel_rfl) (by kernel_rfl) (fun _ _ _ h => h) (Or.inl ⟨by rfl, ?_⟩) hH ?_
          rotate_left
          · intro w hSw
            clear hSw
            go_simp
            try with_reducible rfl
          simp only [Act.put, List.setIfInBounds_toArray, List.set_cons_zero, List.set_cons_succ]
          refine wpAnyH_take (i := 8) (oi := { dst := some 35, op := .extract (.tmp 27) 1, type := _, pos := _, after := _, guard := _ }) (v := ?_) rfl (by kernel_rfl) (by kernel_rfl) (by kernel_rfl) (fun _ _ _ h => h) (Or.inl ⟨by rfl, ?_⟩) hH ?_
          rotate_left
          · intro w hSw
            clear hSw
            go_simp
            try with_reducible rfl
          simp only [Act.put, List.setIfInBounds_toArray, List.set_cons_zero, List.set_cons_succ]
          refine wpAnyH_ready (rs := [11]) (by kernel_rfl) (by simp) ?_
          refine AllReadyH.cons (o := { dst := none, op := .store _ (.tmp 10) (.tmp 34), type := _, pos := _, after := _, guard := _ }) rfl (fun K hK => ?_) AllReadyH.nil
          rw [if_pos (by rfl)]
          refine wp_store_mid _ _ _ rfl u1844q.heap.size _ t.all.toArray rfl rfl (h1880q.out.thereOf t) (HZ.out t) (t.all_all) ?_
          simp only [Act.put]
          have h1881q : Hid (Gd n w (u1876q.setCells u1844q.heap.size 0 t.all)) := h1877q.out.asideAll (by omega) t
          have h1882q : Hid (TAt (u1876q.setCells u1844q.heap.size 0 t.all) u1593q.heap.size t) := h1878q.out.asideAll (by omega) t
          have h1883q : Hid (Bo (u1876q.setCells u1844q.heap.size 0 t.all) u1608q.heap.size [.int .i64 0, .int .i64 0]) := h1879q.out.asideAll (by omega) t
          have h1884q : Hid (TAt (u1876q.setCells u1844q.heap.size 0 t.all) u1844q.heap.size t) := h1880q.out.setAll t
          clear h1877q h1878q h1879q h1880q
          refine hK.out _ _ h1882q.out (fun hH => ?_)
          clear hK K
          generalize (u1876q.setCells u1844q.heap.size 0 t.all) = u1885q at h1881q h1882q h1883q h1884q hH ⊢
          try simp only [Act.put, List.setIfInBounds_toArray, List.set_cons_zero, List.set_cons_succ]
          refine wpAnyH_ready (rs := [12]) (by kernel_rfl) (by simp) ?_
          refine AllReadyH.cons (o := { dst := none, op := .store _ (.tmp 11) (.tmp 35), type := _, pos := _, after := _, guard := _ }) rfl (fun K hK => ?_) AllReadyH.nil
          rw [if_pos (by rfl)]
          refine wp_store_mid _ _ _ rfl u1608q.heap.size _ #[.int .i64 (3), .int .i64 (0)] rfl rfl h1883q.out.there2 HA.out (two_one _ _) ?_
          simp only [Act.put]
          have h1886q : Hid (Gd n w (u1885q.setCells u1608q.heap.size 0 [.int .i64 (3), .int .i64 (0)])) := h1881q.out.asideL (by omega) 0 [.int .i64 (3), .int .i64 (0)]
          have h1887q : Hid (TAt (u1885q.setCells u1608q.heap.size 0 [.int .i64 (3), .int .i64 (0)]) u1593q.heap.size t) := h1882q.out.asideL (by omega) 0 [.int .i64 (3), .int .i64 (0)]
          have h1888q : Hid (Bo (u1885q.setCells u1608q.heap.size 0 [.int .i64 (3), .int .i64 (0)]) u1608q.heap.size [.int .i64 (3), .int .i64 (0)]) := h1883q.out.set2 (.int .i64 (3)) (.int .i64 (0))
          have h1889q : Hid (TAt (u1885q.setCells u1608q.heap.size 0 [.int .i64 (3), .int .i64 (0)]) u1844q.heap.size t) := h1884q.out.asideL (by omega) 0 [.int .i64 (3), .int .i64 (0)]
          clear h1881q h1882q h1883q h1884q
          refine hK.out _ _ h1887q.out (fun hH => ?_)
          clear hK K
          generalize (u1885q.setCells u1608q.heap.size 0 [.int .i64 (3), .int .i64 (0)]) = u1890q at h1886q h1887q h1888q h1889q hH ⊢
          try simp only [Act.put, List.setIfInBounds_toArray, List.set_cons_zero, List.set_cons_succ]
          refine wpAnyH_done (by kernel_rfl) ?_ _
          go_wp2_with fail
          go_meet
          case rel => exact ⟨u1844q.heap.size, u1608q.heap.size, rfl, rfl, h1886q, h1887q, h1889q, h1888q⟩
        refine AllReadyH.cons (o := { dst := some 10, op := .alloc _, type := _, pos := _, after := _, guard := _ }) rfl (fun K hK => ?_) AllReadyH.nil
        have l1891q : n ≤ u1844q.heap.size := h1841q.out.le
        have l1892q : u1593q.heap.size < u1844q.heap.size := h1842q.out.lt
        have l1893q : u1608q.heap.size < u1844q.heap.size := h1843q.out.lt
        go_simp
        have h1894q : Hid (Gd n w (u1844q.alloc (.cells #[.int .i64 0, .int .i64 0, .int .i64 0, .int .i64 0, .int .i64 0, .int .i64 0, .int .i64 0, .int .i64 0, .int .i64 0, .int .i64 0, .int .i64 0, .int .i64 0, .int .i64 0, .int .i64 0, .int .i64 0, .int .i64 0] 27))) := h1841q.out.new (.cells #[.int .i64 0, .int .i64 0, .int .i64 0, .int .i64 0, .int .i64 0, .int .i64 0, .int .i64 0, .int .i64 0, .int .i64 0, .int .i64 0, .int .i64 0, .int .i64 0, .int .i64 0, .int .i64 0, .int .i64 0, .int .i64 0] 27)
        have h1895q : Hid (TAt (u1844q.alloc (.cells #[.int .i64 0, .int .i64 0, .int .i64 0, .int .i64 0, .int .i64 0, .int .i64 0, .int .i64 0, .int .i64 0, .int .i64 0, .int .i64 0, .int .i64 0, .int .i64 0, .int .i64 0, .int .i64 0, .int .i64 0, .int .i64 0] 27)) u1593q.heap.size t) := h1842q.out.new (.cells #[.int .i64 0, .int .i64 0, .int .i64 0, .int .i64 0, .int .i64 0, .int .i64 0, .int .i64 0, .int .i64 0, .int .i64 0, .int .i64 0, .int .i64 0, .int .i64 0, .int .i64 0, .int .i64 0, .int .i64 0, .int .i64 0] 27)
        have h1896q : Hid (Bo (u1844q.alloc (.cells #[.int .i64 0, .int .i64 0, .int .i64 0, .int .i64 0, .int .i64 0, .int .i64 0, .int .i64 0, .int .i64 0, .int .i64 0, .int .i64 0, .int .i64 0, .int .i64 0, .int .i64 0, .int .i64 0, .int .i64 0, .int .i64 0] 27)) u1608q.heap.size [.int .i64 0, .int .i64 0]) := h1843q.out.new (.cells #[.int .i64 0, .int .i64 0, .int .i64 0, .int .i64 0, .int .i64 0, .int .i64 0, .int .i64 0, .int .i64 0, .int .i64 0, .int .i64 0, .int .i64 0, .int .i64 0, .int .i64 0, .int .i64 0, .int .i64 0, .int .i64 0] 27)
        clear h1841q h1842q h1843q
        have h1897q : Hid (TAt (u1844q.alloc (.cells #[.int .i64 0, .int .i64 0, .int .i64 0, .int .i64 0, .int .i64 0, .int .i64 0, .int .i64 0, .int .i64 0, .int .i64 0, .int .i64 0, .int .i64 0, .int .i64 0, .int .i64 0, .int .i64 0, .int .i64 0, .int .i64 0] 27)) u1844q.heap.size Tb.zero) := TAt.bornZero u1844q 27 (by simp)
        refine hK.out _ _ h1895q.out (fun hH => ?_)
        clear hK K
        generalize (u1844q.alloc (.cells #[.int .i64 0, .int .i64 0, .int .i64 0, .int .i64 0, .int .i64 0, .int .i64 0, .int .i64 0, .int .i64 0, .int .i64 0, .int .i64 0, .int .i64 0, .int .i64 0, .int .i64 0, .int .i64 0, .int .i64 0, .int .i64 0] 27)) = u1898q at h1894q h1895q h1896q h1897q hH ⊢
        try simp only [Act.put, List.setIfInBounds_toArray, List.set_cons_zero, List.set_cons_succ]
        refine wpAnyH_ready (rs := [3]) (by kernel_rfl) (by simp) ?_
        refine AllReadyH.cons (o := { dst := some 31, op := _, type := _, pos := _, after := _, guard := _ }) rfl (fun K hK => ?_) AllReadyH.nil
        go_simp
        refine (Pr2.out _).mono ?_
        rintro e u1899q ⟨rfl, hw⟩
        rw [hw]; clear hw u1899q
        go_wp2_with fail
        refine hK.out _ _ h1895q.out (fun hH => ?_)
        clear hK K
        try simp only [Act.put, List.setIfInBounds_toArray, List.set_cons_zero, List.set_cons_succ]
        refine wpAnyH_take (i := 4) (oi := { dst := some 32, op := .build _ #[(0, .const (.int .i64 1)), (1, .tmp 29), (2, .tmp 31)], type := _, pos := _, after := _, guard := _ }) (v := ?_) rfl (by kernel_rfl) (by kernel_rfl) (by kernel_rfl) (fun _ _ _ h => h) (Or.inl ⟨by rfl, ?_⟩) hH ?_
        rotate_left
        · intro w hSw
          clear hSw
          go_simp
          try with_reducible rfl
        simp only [Act.put, List.setIfInBounds_toArray, List.set_cons_zero, List.set_cons_succ]
        refine wpAnyH_ready (rs := [5]) (by kernel_rfl) (by simp) ?_
        refine AllReadyH.cons (o := { dst := some 33, op := _, type := _, pos := _, after := _, guard := _ }) rfl (fun K hK => ?_) AllReadyH.nil
        go_simp
        refine (DO _).mono ?_
        rintro e u1900q ⟨rfl, hb⟩
        have h1901q : Hid (Gd n w u1900q) := h1894q.out.later hb
        have h1902q : Hid (TAt u1900q u1593q.heap.size t) := h1895q.out.later hb
        have h1903q : Hid (Bo u1900q u1608q.heap.size [.int .i64 0, .int .i64 0]) := h1896q.out.later hb
        have h1904q : Hid (TAt u1900q u1844q.heap.size Tb.zero) := h1897q.out.later hb
        clear h1894q h1895q h1896q h1897q
        clear hb
        go_wp2_with fail
        refine hK.out _ _ h1902q.out (fun hH => ?_)
        clear hK K
        try simp only [Act.put, List.setIfInBounds_toArray, List.set_cons_zero, List.set_cons_succ]
        refine wpAnyH_take (i := 6) (oi := { dst := some 27, op := .move (.tmp 33), type := _, pos := _, after := _, guard := _ }) (v := ?_) rfl (by kernel_rfl) (by kernel_rfl) (by kernel_rfl) (fun _ _ _ h => h) (Or.inl ⟨by rfl, ?_⟩) hH ?_
        rotate_left
        · intro w hSw
          clear hSw
          go_simp
          try with_reducible rfl
        simp only [Act.put, List.setIfInBounds_toArray, List.set_cons_zero, List.set_cons_succ]
        refine wpAnyH_take (i := 7) (oi := { dst := some 34, op := .extract (.tmp 27) 0, type := _, pos := _, after := _, guard := _ }) (v := ?_) rfl (by kernel_rfl) (by kernel_rfl) (by kernel_rfl) (fun _ _ _ h => h) (Or.inl ⟨by rfl, ?_⟩) hH ?_
        rotate_left
        · intro w hSw
          clear hSw
          go_simp
          try with_reducible rfl
        simp only [Act.put, List.setIfInBounds_toArray, List.set_cons_zero, List.set_cons_succ]
        refine wpAnyH_take (i := 8) (oi := { dst := some 35, op := .extract (.tmp 27) 1, type := _, pos := _, after := _, guard := _ }) (v := ?_) rfl (by kernel_rfl) (by kernel_rfl) (by kernel_rfl) (fun _ _ _ h => h) (Or.inl ⟨by rfl, ?_⟩) hH ?_
        rotate_left
        · intro w hSw
          clear hSw
          go_simp
          try with_reducible rfl
        simp only [Act.put, List.setIfInBounds_toArray, List.set_cons_zero, List.set_cons_succ]
        refine wpAnyH_ready (rs := [11]) (by kernel_rfl) (by simp) ?_
        refine AllReadyH.cons (o := { dst := none, op := .store _ (.tmp 10) (.tmp 34), type := _, pos := _, after := _, guard := _ }) rfl (fun K hK => ?_) AllReadyH.nil
        rw [if_pos (by rfl)]
        refine wp_store_mid _ _ _ rfl u1844q.heap.size _ t.all.toArray rfl rfl (h1904q.out.thereOf t) (HZ.out t) (t.all_all) ?_
        simp only [Act.put]
        have h1905q : Hid (Gd n w (u1900q.setCells u1844q.heap.size 0 t.all)) := h1901q.out.asideAll (by omega) t
        have h1906q : Hid (TAt (u1900q.setCells u1844q.heap.size 0 t.all) u1593q.heap.size t) := h1902q.out.asideAll (by omega) t
        have h1907q : Hid (Bo (u1900q.setCells u1844q.heap.size 0 t.all) u1608q.heap.size [.int .i64 0, .int .i64 0]) := h1903q.out.asideAll (by omega) t
        have h1908q : Hid (TAt (u1900q.setCells u1844q.heap.size 0 t.all) u1844q.heap.size t) := h1904q.out.setAll t
        clear h1901q h1902q h1903q h1904q
        refine hK.out _ _ h1906q.out (fun hH => ?_)
        clear hK K
        generalize (u1900q.setCells u1844q.heap.size 0 t.all) = u1909q at h1905q h1906q h1907q h1908q hH ⊢
        try simp only [Act.put, List.setIfInBounds_toArray, List.set_cons_zero, List.set_cons_succ]
        refine wpAnyH_ready (rs := [12]) (by kernel_rfl) (by simp) ?_
        refine AllReadyH.cons (o := { dst := none, op := .store _ (.tmp 11) (.tmp 35), type := _, pos := _, after := _, guard := _ }) rfl (fun K hK => ?_) AllReadyH.nil
        rw [if_pos (by rfl)]
        refine wp_store_mid _ _ _ rfl u1608q.heap.size _ #[.int .i64 (3), .int .i64 (0)] rfl rfl h1907q.out.there2 HA.out (two_one _ _) ?_
        simp only [Act.put]
        have h1910q : Hid (Gd n w (u1909q.setCells u1608q.heap.size 0 [.int .i64 (3), .int .i64 (0)])) := h1905q.out.asideL (by omega) 0 [.int .i64 (3), .int .i64 (0)]
        have h1911q : Hid (TAt (u1909q.setCells u1608q.heap.size 0 [.int .i64 (3), .int .i64 (0)]) u1593q.heap.size t) := h1906q.out.asideL (by omega) 0 [.int .i64 (3), .int .i64 (0)]
        have h1912q : Hid (Bo (u1909q.setCells u1608q.heap.size 0 [.int .i64 (3), .int .i64 (0)]) u1608q.heap.size [.int .i64 (3), .int .i64 (0)]) := h1907q.out.set2 (.int .i64 (3)) (.int .i64 (0))
        have h1913q : Hid (TAt (u1909q.setCells u1608q.heap.size 0 [.int .i64 (3), .int .i64 (0)]) u1844q.heap.size t) := h1908q.out.asideL (by omega) 0 [.int .i64 (3), .int .i64 (0)]
        clear h1905q h1906q h1907q h1908q
        refine hK.out _ _ h1911q.out (fun hH => ?_)
        clear hK K
        generalize (u1909q.setCells u1608q.heap.size 0 [.int .i64 (3), .int .i64 (0)]) = u1914q at h1910q h1911q h1912q h1913q hH ⊢
        try simp only [Act.put, List.setIfInBounds_toArray, List.set_cons_zero, List.set_cons_succ]
        refine wpAnyH_done (by kernel_rfl) ?_ _
        go_wp2_with fail
        go_meet
        case rel => exact ⟨u1844q.heap.size, u1608q.heap.size, rfl, rfl, h1910q, h1911q, h1913q, h1912q⟩
      case rest =>
        obtain ⟨b_u, b_a, rfl, rfl, h1915q, h1916q, h1917q, h1918q⟩ := hcut
        have c1919q := h1918q.out.at 0 rfl
        go_wp2_with (first
          | (refine wpList_load_wanted (by rfl) 27 _ rfl b_u _ rfl t.all _ h1917q.out.range HD.out rfl (HS.out t) ?_)
          | (refine wpList_load_wanted (by rfl) 27 _ rfl u1593q.heap.size _ rfl t.all _ h1916q.out.range HD.out rfl (HS.out t) ?_))
        go_ret
        exact ⟨rfl, h1915q.out.2⟩
    · have DO := tDo_eq t 1 k v
      rw [show tdo t 1 k v = (u, 1, 0) from hu] at DO
      unfold Told at DO
      dsimp only at DO
      have hlu : len u = len t + 1 := by
        rw [hF.len, if_neg]
        intro hh; have e := HL4.out; rw [look_has hh] at e; injection e with e1 e2; omega
      obtain ⟨u2, hu2, hRU, hg, ho, hl2⟩ := takes hF.rt (k := k) (x := 0) hk1 hk2
      rw [hF.has] at hu2
      have DO2 := tDo_eq u 2 k 0
      rw [show tdo u 2 k 0 = (u2, 1, v) from hu2] at DO2
      unfold Told at DO2
      dsimp only at DO2
      have hlen : len u2 = len t := by have := hl2 v hF.has; omega
      have RU : Hid (RT u2) := hRU
      have RR := Right_is u2 true ⟨fun _ => RU.out, fun _ => rfl⟩
      obtain ⟨⟨xc, xy⟩, hq⟩ : ∃ r, look t q = r := ⟨_, rfl⟩
      have hq2' : look u2 q = (xc, xy) := by
        by_cases e : q = k
        · rw [e] at hq ⊢; rw [hg, ← hq, HL4.out]
        · rw [ho q (by omega) e, hF.other q (by omega) e, hq]
      have PT := peek_is t q (by omega) (by omega)
      rw [show look t q = (xc, xy) from hq] at PT
      dsimp only at PT
      have PU := peek_is u2 q (by omega) (by omega)
      rw [show look u2 q = (xc, xy) from hq2'] at PU
      dsimp only at PU
      have PG := peek_is u2 k (by omega) (by omega)
      rw [show look u2 k = (4, 0) from hg] at PG
      dsimp only at PG
      have L1 := Len_is u2
      have L2 := Len_is t
      rw [hlen] at L1
      generalize len t = l at L1 L2
      clear hu hF hlu hu2 hRU hg ho hl2 hlen hq hq2'
      go_wp2_with fail
      go_cut [10, 11] (fun s10 s11 wx => ∃ b_u b_a : Nat, s10 = .pointer (some ⟨b_u, 0, none⟩) ∧ s11 = .pointer (some ⟨b_a, 0, none⟩) ∧ Hid (Gd n w wx) ∧ Hid (TAt wx u1593q.heap.size t) ∧ Hid (TAt wx b_u u) ∧ Hid (Bo wx b_a [.int .i64 (1), .int .i64 (0)]) ∧ (n ≤ b_u ∧ u1593q.heap.size < b_u ∧ b_u ≠ b_a))
      case first =>
        have h1920q : Hid (Gd n w u1603q.drew) := h1604q.out.drew
        have h1921q : Hid (TAt u1603q.drew u1593q.heap.size t) := h1605q.out.drew
        clear h1604q h1605q
        refine wp_region_held_drew (S := fun w' => TAt w' u1593q.heap.size t) (by kernel_rfl) h1921q.out (fun hH => ?_)
        generalize u1603q.drew = u1922q at h1920q h1921q hH ⊢
        refine wpAnyH_take (i := 0) (oi := { dst := some 28, op := .load _ (.tmp 9), type := _, pos := _, after := _, guard := _ }) (v := _) rfl (by kernel_rfl) (by kernel_rfl) (by kernel_rfl) (fun _ _ _ h => h) (yieldsIf_load_mid (by rfl) _ _ rfl u1593q.heap.size _ rfl t.all _ (fun _ h => (h).range) HD.out rfl (HS.out t)) hH ?_
        simp only [Act.put, List.setIfInBounds_toArray, List.set_cons_zero, List.set_cons_succ]
        refine wpAnyH_take (i := 1) (oi := { dst := some 29, op := .move (.tmp 1), type := _, pos := _, after := _, guard := _ }) (v := ?_) rfl (by kernel_rfl) (by kernel_rfl) (by kernel_rfl) (fun _ _ _ h => h) (Or.inl ⟨by rfl, ?_⟩) hH ?_
        rotate_left
        · intro w hSw
          clear hSw
          go_simp
          try with_reducible rfl
        simp only [Act.put, List.setIfInBounds_toArray, List.set_cons_zero, List.set_cons_succ]
        refine wpAnyH_take (i := 2) (oi := { dst := some 30, op := .move (.tmp 2), type := _, pos := _, after := _, guard := _ }) (v := ?_) rfl (by kernel_rfl) (by kernel_rfl) (by kernel_rfl) (fun _ _ _ h => h) (Or.inl ⟨by rfl, ?_⟩) hH ?_
        rotate_left
        · intro w hSw
          clear hSw
          go_simp
          try with_reducible rfl
        simp only [Act.put, List.setIfInBounds_toArray, List.set_cons_zero, List.set_cons_succ]
        refine wpAnyH_ready (rs := [3, 9, 10]) (by kernel_rfl) (by simp) ?_
        refine AllReadyH.cons (o := { dst := some 31, op := _, type := _, pos := _, after := _, guard := _ }) rfl (fun K hK => ?_) ?_
        · go_simp
          refine (Pr2.out _).mono ?_
          rintro e u1923q ⟨rfl, hw⟩
          rw [hw]; clear hw u1923q
          go_wp2_with fail
          refine hK.out _ _ h1921q.out (fun hH => ?_)
          clear hK K
          try simp only [Act.put, List.setIfInBounds_toArray, List.set_cons_zero, List.set_cons_succ]
          refine wpAnyH_take (i := 4) (oi := { dst := some 32, op := .build _ #[(0, .const (.int .i64 1)), (1, .tmp 29), (2, .tmp 31)], type := _, pos := _, after := _, guard := _ }) (v := ?_) rfl (by kernel_rfl) (by kernel_rfl) (by kernel_rfl) (fun _ _ _ h => h) (Or.inl ⟨by rfl, ?_⟩) hH ?_
          rotate_left
          · intro w hSw
            clear hSw
            go_simp
            try with_reducible rfl
          simp only [Act.put, List.setIfInBounds_toArray, List.set_cons_zero, List.set_cons_succ]
          refine wpAnyH_ready (rs := [5, 9, 10]) (by kernel_rfl) (by simp) ?_
          refine AllReadyH.cons (o := { dst := some 33, op := _, type := _, pos := _, after := _, guard := _ }) rfl (fun K hK => ?_) ?_
          · go_simp
            refine (DO _).mono ?_
            rintro e u1924q ⟨rfl, hb⟩
            have h1925q : Hid (Gd n w u1924q) := h1920q.out.later hb
            have h1926q : Hid (TAt u1924q u1593q.heap.size t) := h1921q.out.later hb
            clear h1920q h1921q
            clear hb
            go_wp2_with fail
            refine hK.out _ _ h1926q.out (fun hH => ?_)
            clear hK K
            try simp only [Act.put, List.setIfInBounds_toArray, List.set_cons_zero, List.set_cons_succ]
            refine wpAnyH_take (i := 6) (oi := { dst := some 27, op := .move (.tmp 33), type := _, pos := _, after := _, guard := _ }) (v := ?_) rfl (by kernel_rfl) (by kernel_rfl) (by kernel_rfl) (fun _ _ _ h => h) (Or.inl ⟨by rfl, ?_⟩) hH ?_
            rotate_left
            · intro w hSw
              clear hSw
              go_simp
              try with_reducible rfl
            simp only [Act.put, List.setIfInBounds_toArray, List.set_cons_zero, List.set_cons_succ]
            refine wpAnyH_take (i := 7) (oi := { dst := some 34, op := .extract (.tmp 27) 0, type := _, pos := _, after := _, guard := _ }) (v := ?_) rfl (by kernel_rfl) (by kernel_rfl) (by kernel_rfl) (fun _ _ _ h => h) (Or.inl ⟨by rfl, ?_⟩) hH ?_
            rotate_left
            · intro w hSw
              clear hSw
              go_simp
              try with_reducible rfl
            simp only [Act.put, List.setIfInBounds_toArray, List.set_cons_zero, List.set_cons_succ]
            refine wpAnyH_take (i := 8) (oi := { dst := some 35, op := .extract (.tmp 27) 1, type := _, pos := _, after := _, guard := _ }) (v := ?_) rfl (by kernel_rfl) (by kernel_rfl) (by kernel_rfl) (fun _ _ _ h => h) (Or.inl ⟨by rfl, ?_⟩) hH ?_
            rotate_left
            · intro w hSw
              clear hSw
              go_simp
              try with_reducible rfl
            simp only [Act.put, List.setIfInBounds_toArray, List.set_cons_zero, List.set_cons_succ]
            refine wpAnyH_ready (rs := [9, 10]) (by kernel_rfl) (by simp) ?_
            refine AllReadyH.cons (o := { dst := some 10, op := .alloc _, type := _, pos := _, after := _, guard := _ }) rfl (fun K hK => ?_) ?_
            · have l1927q : n ≤ u1924q.heap.size := h1925q.out.le
              have l1928q : u1593q.heap.size < u1924q.heap.size := h1926q.out.lt
              go_simp
              have h1929q : Hid (Gd n w (u1924q.alloc (.cells #[.int .i64 0, .int .i64 0, .int .i64 0, .int .i64 0, .int .i64 0, .int .i64 0, .int .i64 0, .int .i64 0, .int .i64 0, .int .i64 0, .int .i64 0, .int .i64 0, .int .i64 0, .int .i64 0, .int .i64 0, .int .i64 0] 27))) := h1925q.out.new (.cells #[.int .i64 0, .int .i64 0, .int .i64 0, .int .i64 0, .int .i64 0, .int .i64 0, .int .i64 0, .int .i64 0, .int .i64 0, .int .i64 0, .int .i64 0, .int .i64 0, .int .i64 0, .int .i64 0, .int .i64 0, .int .i64 0] 27)
              have h1930q : Hid (TAt (u1924q.alloc (.cells #[.int .i64 0, .int .i64 0, .int .i64 0, .int .i64 0, .int .i64 0, .int .i64 0, .int .i64 0, .int .i64 0, .int .i64 0, .int .i64 0, .int .i64 0, .int .i64 0, .int .i64 0, .int .i64 0, .int .i64 0, .int .i64 0] 27)) u1593q.heap.size t) := h1926q.out.new (.cells #[.int .i64 0, .int .i64 0, .int .i64 0, .int .i64 0, .int .i64 0, .int .i64 0, .int .i64 0, .int .i64 0, .int .i64 0, .int .i64 0, .int .i64 0, .int .i64 0, .int .i64 0, .int .i64 0, .int .i64 0, .int .i64 0] 27)
              clear h1925q h1926q
              have h1931q : Hid (TAt (u1924q.alloc (.cells #[.int .i64 0, .int .i64 0, .int .i64 0, .int .i64 0, .int .i64 0, .int .i64 0, .int .i64 0, .int .i64 0, .int .i64 0, .int .i64 0, .int .i64 0, .int .i64 0, .int .i64 0, .int .i64 0, .int .i64 0, .int .i64 0] 27)) u1924q.heap.size Tb.zero) := TAt.bornZero u1924q 27 (by simp)
              refine hK.out _ _ h1930q.out (fun hH => ?_)
              clear hK K
              generalize (u1924q.alloc (.cells #[.int .i64 0, .int .i64 0, .int .i64 0, .int .i64 0, .int .i64 0, .int .i64 0, .int .i64 0, .int .i64 0, .int .i64 0, .int .i64 0, .int .i64 0, .int .i64 0, .int .i64 0, .int .i64 0, .int .i64 0, .int .i64 0] 27)) = u1932q at h1929q h1930q h1931q hH ⊢
              try simp only [Act.put, List.setIfInBounds_toArray, List.set_cons_zero, List.set_cons_succ]
              refine wpAnyH_ready (rs := [10]) (by kernel_rfl) (by simp) ?_
              refine AllReadyH.cons (o := { dst := some 11, op := .alloc _, type := _, pos := _, after := _, guard := _ }) rfl (fun K hK => ?_) AllReadyH.nil
              have l1933q : n ≤ u1932q.heap.size := h1929q.out.le
              have l1934q : u1593q.heap.size < u1932q.heap.size := h1930q.out.lt
              have l1935q : u1924q.heap.size < u1932q.heap.size := h1931q.out.lt
              go_simp
              have h1936q : Hid (Gd n w (u1932q.alloc (.cells #[.int .i64 0, .int .i64 0] 31))) := h1929q.out.new (.cells #[.int .i64 0, .int .i64 0] 31)
              have h1937q : Hid (TAt (u1932q.alloc (.cells #[.int .i64 0, .int .i64 0] 31)) u1593q.heap.size t) := h1930q.out.new (.cells #[.int .i64 0, .int .i64 0] 31)
              have h1938q : Hid (TAt (u1932q.alloc (.cells #[.int .i64 0, .int .i64 0] 31)) u1924q.heap.size Tb.zero) := h1931q.out.new (.cells #[.int .i64 0, .int .i64 0] 31)
              clear h1929q h1930q h1931q
              have h1939q : Hid (Bo (u1932q.alloc (.cells #[.int .i64 0, .int .i64 0] 31)) u1932q.heap.size [.int .i64 0, .int .i64 0]) := Bo.born u1932q [.int .i64 0, .int .i64 0] 31 (by simp)
              refine hK.out _ _ h1937q.out (fun hH => ?_)
              clear hK K
              generalize (u1932q.alloc (.cells #[.int .i64 0, .int .i64 0] 31)) = u1940q at h1936q h1937q h1938q h1939q hH ⊢
              try simp only [Act.put, List.setIfInBounds_toArray, List.set_cons_zero, List.set_cons_succ]
              refine wpAnyH_ready (rs := [11]) (by kernel_rfl) (by simp) ?_
              refine AllReadyH.cons (o := { dst := none, op := .store _ (.tmp 10) (.tmp 34), type := _, pos := _, after := _, guard := _ }) rfl (fun K hK => ?_) AllReadyH.nil
              rw [if_pos (by rfl)]
              refine wp_store_mid _ _ _ rfl u1924q.heap.size _ u.all.toArray rfl rfl (h1938q.out.thereOf u) (HZ.out u) (u.all_all) ?_
              simp only [Act.put]
              have h1941q : Hid (Gd n w (u1940q.setCells u1924q.heap.size 0 u.all)) := h1936q.out.asideAll (by omega) u
              have h1942q : Hid (TAt (u1940q.setCells u1924q.heap.size 0 u.all) u1593q.heap.size t) := h1937q.out.asideAll (by omega) u
              have h1943q : Hid (TAt (u1940q.setCells u1924q.heap.size 0 u.all) u1924q.heap.size u) := h1938q.out.setAll u
              have h1944q : Hid (Bo (u1940q.setCells u1924q.heap.size 0 u.all) u1932q.heap.size [.int .i64 0, .int .i64 0]) := h1939q.out.asideAll (by omega) u
              clear h1936q h1937q h1938q h1939q
              refine hK.out _ _ h1942q.out (fun hH => ?_)
              clear hK K
              generalize (u1940q.setCells u1924q.heap.size 0 u.all) = u1945q at h1941q h1942q h1943q h1944q hH ⊢
              try simp only [Act.put, List.setIfInBounds_toArray, List.set_cons_zero, List.set_cons_succ]
              refine wpAnyH_ready (rs := [12]) (by kernel_rfl) (by simp) ?_
              refine AllReadyH.cons (o := { dst := none, op := .store _ (.tmp 11) (.tmp 35), type := _, pos := _, after := _, guard := _ }) rfl (fun K hK => ?_) AllReadyH.nil
              rw [if_pos (by rfl)]
              refine wp_store_mid _ _ _ rfl u1932q.heap.size _ #[.int .i64 (1), .int .i64 (0)] rfl rfl h1944q.out.there2 HA.out (two_one _ _) ?_
              simp only [Act.put]
              have h1946q : Hid (Gd n w (u1945q.setCells u1932q.heap.size 0 [.int .i64 (1), .int .i64 (0)])) := h1941q.out.asideL (by omega) 0 [.int .i64 (1), .int .i64 (0)]
              have h1947q : Hid (TAt (u1945q.setCells u1932q.heap.size 0 [.int .i64 (1), .int .i64 (0)]) u1593q.heap.size t) := h1942q.out.asideL (by omega) 0 [.int .i64 (1), .int .i64 (0)]
              have h1948q : Hid (TAt (u1945q.setCells u1932q.heap.size 0 [.int .i64 (1), .int .i64 (0)]) u1924q.heap.size u) := h1943q.out.asideL (by omega) 0 [.int .i64 (1), .int .i64 (0)]
              have h1949q : Hid (Bo (u1945q.setCells u1932q.heap.size 0 [.int .i64 (1), .int .i64 (0)]) u1932q.heap.size [.int .i64 (1), .int .i64 (0)]) := h1944q.out.set2 (.int .i64 (1)) (.int .i64 (0))
              clear h1941q h1942q h1943q h1944q
              refine hK.out _ _ h1947q.out (fun hH => ?_)
              clear hK K
              generalize (u1945q.setCells u1932q.heap.size 0 [.int .i64 (1), .int .i64 (0)]) = u1950q at h1946q h1947q h1948q h1949q hH ⊢
              try simp only [Act.put, List.setIfInBounds_toArray, List.set_cons_zero, List.set_cons_succ]
              refine wpAnyH_done (by kernel_rfl) ?_ _
              go_wp2_with fail
              go_meet
              case rel => exact ⟨u1924q.heap.size, u1932q.heap.size, rfl, rfl, h1946q, h1947q, h1948q, h1949q, (by omega)⟩
            refine AllReadyH.cons (o := { dst := some 11, op := .alloc _, type := _, pos := _, after := _, guard := _ }) rfl (fun K hK => ?_) AllReadyH.nil
            have l1951q : n ≤ u1924q.heap.size := h1925q.out.le
            have l1952q : u1593q.heap.size < u1924q.heap.size := h1926q.out.lt
            go_simp
            have h1953q : Hid (Gd n w (u1924q.alloc (.cells #[.int .i64 0, .int .i64 0] 31))) := h1925q.out.new (.cells #[.int .i64 0, .int .i64 0] 31)
            have h1954q : Hid (TAt (u1924q.alloc (.cells #[.int .i64 0, .int .i64 0] 31)) u1593q.heap.size t) := h1926q.out.new (.cells #[.int .i64 0, .int .i64 0] 31)
            clear h1925q h1926q
            have h1955q : Hid (Bo (u1924q.alloc (.cells #[.int .i64 0, .int .i64 0] 31)) u1924q.heap.size [.int .i64 0, .int .i64 0]) := Bo.born u1924q [.int .i64 0, .int .i64 0] 31 (by simp)
            refine hK.out _ _ h1954q.out (fun hH => ?_)
            clear hK K
            generalize (u1924q.alloc (.cells #[.int .i64 0, .int .i64 0] 31)) = u1956q at h1953q h1954q h1955q hH ⊢
            try simp only [Act.put, List.setIfInBounds_toArray, List.set_cons_zero, List.set_cons_succ]
            refine wpAnyH_ready (rs := [9]) (by kernel_rfl) (by simp) ?_
            refine AllReadyH.cons (o := { dst := some 10, op := .alloc _, type := _, pos := _, after := _, guard := _ }) rfl (fun K hK => ?_) AllReadyH.nil
            have l1957q : n ≤ u1956q.heap.size := h1953q.out.le
            have l1958q : u1593q.heap.size < u1956q.heap.size := h1954q.out.lt
            have l1959q : u1924q.heap.size < u1956q.heap.size := h1955q.out.lt
            go_simp
            have h1960q : Hid (Gd n w (u1956q.alloc (.cells #[.int .i64 0, .int .i64 0, .int .i64 0, .int .i64 0, .int .i64 0, .int .i64 0, .int .i64 0, .int .i64 0, .int .i64 0, .int .i64 0, .int .i64 0, .int .i64 0, .int .i64 0, .int .i64 0, .int .i64 0, .int .i64 0] 27))) := h1953q.out.new (.cells #[.int .i64 0, .int .i64 0, .int .i64 0, .int .i64 0, .int .i64 0, .int .i64 0, .int .i64 0, .int .i64 0, .int .i64 0, .int .i64 0, .int .i64 0, .int .i64 0, .int .i64 0, .int .i64 0, .int .i64 0, .int .i64 0] 27)
            have h1961q : Hid (TAt (u1956q.alloc (.cells #[.int .i64 0, .int .i64 0, .int .i64 0, .int .i64 0, .int .i64 0, .int .i64 0, .int .i64 0, .int .i64 0, .int .i64 0, .int .i64 0, .int .i64 0, .int .i64 0, .int .i64 0, .int .i64 0, .int .i64 0, .int .i64 0] 27)) u1593q.heap.size t) := h1954q.out.new (.cells #[.int .i64 0, .int .i64 0, .int .i64 0, .int .i64 0, .int .i64 0, .int .i64 0, .int .i64 0, .int .i64 0, .int .i64 0, .int .i64 0, .int .i64 0, .int .i64 0, .int .i64 0, .int .i64 0, .int .i64 0, .int .i64 0] 27)
            have h1962q : Hid (Bo (u1956q.alloc (.cells #[.int .i64 0, .int .i64 0, .int .i64 0, .int .i64 0, .int .i64 0, .int .i64 0, .int .i64 0, .int .i64 0, .int .i64 0, .int .i64 0, .int .i64 0, .int .i64 0, .int .i64 0, .int .i64 0, .int .i64 0, .int .i64 0] 27)) u1924q.heap.size [.int .i64 0, .int .i64 0]) := h1955q.out.new (.cells #[.int .i64 0, .int .i64 0, .int .i64 0, .int .i64 0, .int .i64 0, .int .i64 0, .int .i64 0, .int .i64 0, .int .i64 0, .int .i64 0, .int .i64 0, .int .i64 0, .int .i64 0, .int .i64 0, .int .i64 0, .int .i64 0] 27)
            clear h1953q h1954q h1955q
            have h1963q : Hid (TAt (u1956q.alloc (.cells #[.int .i64 0, .int .i64 0, .int .i64 0, .int .i64 0, .int .i64 0, .int .i64 0, .int .i64 0, .int .i64 0, .int .i64 0, .int .i64 0, .int .i64 0, .int .i64 0, .int .i64 0, .int .i64 0, .int .i64 0, .int .i64 0] 27)) u1956q.heap.size Tb.zero) := TAt.bornZero u1956q 27 (by simp)
            refine hK.out _ _ h1961q.out (fun hH => ?_)
            clear hK K
            generalize (u1956q.alloc (.cells #[.int .i64 0, .int .i64 0, .int .i64 0, .int .i64 0, .int .i64 0, .int .i64 0, .int .i64 0, .int .i64 0, .int .i64 0, .int .i64 0, .int .i64 0, .int .i64 0, .int .i64 0, .int .i64 0, .int .i64 0, .int .i64 0] 27)) = u1964q at h1960q h1961q h1962q h1963q hH ⊢
            try simp only [Act.put, List.setIfInBounds_toArray, List.set_cons_zero, List.set_cons_succ]
            refine wpAnyH_ready (rs := [11]) (by kernel_rfl) (by simp) ?_
            refine AllReadyH.cons (o := { dst := none, op := .store _ (.tmp 10) (.tmp 34), type := _, pos := _, after := _, guard := _ }) rfl (fun K hK => ?_) AllReadyH.nil
            rw [if_pos (by rfl)]
            refine wp_store_mid _ _ _ rfl u1956q.heap.size _ u.all.toArray rfl rfl (h1963q.out.thereOf u) (HZ.out u) (u.all_all) ?_
            simp only [Act.put]
            have h1965q : Hid (Gd n w (u1964q.setCells u1956q.heap.size 0 u.all)) := h1960q.out.asideAll (by omega) u
            have h1966q : Hid (TAt (u1964q.setCells u1956q.heap.size 0 u.all) u1593q.heap.size t) := h1961q.out.asideAll (by omega) u
            have h1967q : Hid (Bo (u1964q.setCells u1956q.heap.size 0 u.all) u1924q.heap.size [.int .i64 0, .int .i64 0]) := h1962q.out.asideAll (by omega) u
            have h1968q : Hid (TAt (u1964q.setCells u1956q.heap.size 0 u.all) u1956q.heap.size u) := h1963q.out.setAll u
            clear h1960q h1961q h1962q h1963q
            refine hK.out _ _ h1966q.out (fun hH => ?_)
            clear hK K
            generalize (u1964q.setCells u1956q.heap.size 0 u.all) = u1969q at h1965q h1966q h1967q h1968q hH ⊢
            try simp only [Act.put, List.setIfInBounds_toArray, List.set_cons_zero, List.set_cons_succ]
            refine wpAnyH_ready (rs := [12]) (by kernel_rfl) (by simp) ?_
            refine AllReadyH.cons (o := { dst := none, op := .store _ (.tmp 11) (.tmp 35), type := _, pos := _, after := _, guard := _ }) rfl (fun K hK => ?_) AllReadyH.nil
            rw [if_pos (by rfl)]
            refine wp_store_mid _ _ _ rfl u1924q.heap.size _ #[.int .i64 (1), .int .i64 (0)] rfl rfl h1967q.out.there2 HA.out (two_one _ _) ?_
            simp only [Act.put]
            have h1970q : Hid (Gd n w (u1969q.setCells u1924q.heap.size 0 [.int .i64 (1), .int .i64 (0)])) := h1965q.out.asideL (by omega) 0 [.int .i64 (1), .int .i64 (0)]
            have h1971q : Hid (TAt (u1969q.setCells u1924q.heap.size 0 [.int .i64 (1), .int .i64 (0)]) u1593q.heap.size t) := h1966q.out.asideL (by omega) 0 [.int .i64 (1), .int .i64 (0)]
            have h1972q : Hid (Bo (u1969q.setCells u1924q.heap.size 0 [.int .i64 (1), .int .i64 (0)]) u1924q.heap.size [.int .i64 (1), .int .i64 (0)]) := h1967q.out.set2 (.int .i64 (1)) (.int .i64 (0))
            have h1973q : Hid (TAt (u1969q.setCells u1924q.heap.size 0 [.int .i64 (1), .int .i64 (0)]) u1956q.heap.size u) := h1968q.out.asideL (by omega) 0 [.int .i64 (1), .int .i64 (0)]
            clear h1965q h1966q h1967q h1968q
            refine hK.out _ _ h1971q.out (fun hH => ?_)
            clear hK K
            generalize (u1969q.setCells u1924q.heap.size 0 [.int .i64 (1), .int .i64 (0)]) = u1974q at h1970q h1971q h1972q h1973q hH ⊢
            try simp only [Act.put, List.setIfInBounds_toArray, List.set_cons_zero, List.set_cons_succ]
            refine wpAnyH_done (by kernel_rfl) ?_ _
            go_wp2_with fail
            go_meet
            case rel => exact ⟨u1956q.heap.size, u1924q.heap.size, rfl, rfl, h1970q, h1971q, h1973q, h1972q, (by omega)⟩
          refine AllReadyH.cons (o := { dst := some 10, op := .alloc _, type := _, pos := _, after := _, guard := _ }) rfl (fun K hK => ?_) ?_
          · have l1975q : n ≤ u1922q.heap.size := h1920q.out.le
            have l1976q : u1593q.heap.size < u1922q.heap.size := h1921q.out.lt
            go_simp
            have h1977q : Hid (Gd n w (u1922q.alloc (.cells #[.int .i64 0, .int .i64 0, .int .i64 0, .int .i64 0, .int .i64 0, .int .i64 0, .int .i64 0, .int .i64 0, .int .i64 0, .int .i64 0, .int .i64 0, .int .i64 0, .int .i64 0, .int .i64 0, .int .i64 0, .int .i64 0] 27))) := h1920q.out.new (.cells #[.int .i64 0, .int .i64 0, .int .i64 0, .int .i64 0, .int .i64 0, .int .i64 0, .int .i64 0, .int .i64 0, .int .i64 0, .int .i64 0, .int .i64 0, .int .i64 0, .int .i64 0, .int .i64 0, .int .i64 0, .int .i64 0] 27)
            have h1978q : Hid (TAt (u1922q.alloc (.cells #[.int .i64 0, .int .i64 0, .int .i64 0, .int .i64 0, .int .i64 0, .int .i64 0, .int .i64 0, .int .i64 0, .int .i64 0, .int .i64 0, .int .i64 0, .int .i64 0, .int .i64 0, .int .i64 0, .int .i64 0, .int .i64 0] 27)) u1593q.heap.size t) := h1921q.out.new (.cells #[.int .i64 0, .int .i64 0, .int .i64 0, .int .i64 0, .int .i64 0, .int .i64 0, .int .i64 0, .int .i64 0, .int .i64 0, .int .i64 0, .int .i64 0, .int .i64 0, .int .i64 0, .int .i64 0, .int .i64 0, .int .i64 0] 27)
            clear h1920q h1921q
            have h1979q : Hid (TAt (u1922q.alloc (.cells #[.int .i64 0, .int .i64 0, .int .i64 0, .int .i64 0, .int .i64 0, .int .i64 0, .int .i64 0, .int .i64 0, .int .i64 0, .int .i64 0, .int .i64 0, .int .i64 0, .int .i64 0, .int .i64 0, .int .i64 0, .int .i64 0] 27)) u1922q.heap.size Tb.zero) := TAt.bornZero u1922q 27 (by simp)
            refine hK.out _ _ h1978q.out (fun hH => ?_)
            clear hK K
            generalize (u1922q.alloc (.cells #[.int .i64 0, .int .i64 0, .int .i64 0, .int .i64 0, .int .i64 0, .int .i64 0, .int .i64 0, .int .i64 0, .int .i64 0, .int .i64 0, .int .i64 0, .int .i64 0, .int .i64 0, .int .i64 0, .int .i64 0, .int .i64 0] 27)) = u1980q at h1977q h1978q h1979q hH ⊢
            try simp only [Act.put, List.setIfInBounds_toArray, List.set_cons_zero, List.set_cons_succ]
            refine wpAnyH_ready (rs := [5, 10]) (by kernel_rfl) (by simp) ?_
            refine AllReadyH.cons (o := { dst := some 33, op := _, type := _, pos := _, after := _, guard := _ }) rfl (fun K hK => ?_) ?_
            · go_simp
              refine (DO _).mono ?_
              rintro e u1981q ⟨rfl, hb⟩
              have h1982q : Hid (Gd n w u1981q) := h1977q.out.later hb
              have h1983q : Hid (TAt u1981q u1593q.heap.size t) := h1978q.out.later hb
              have h1984q : Hid (TAt u1981q u1922q.heap.size Tb.zero) := h1979q.out.later hb
              clear h1977q h1978q h1979q
              clear hb
              go_wp2_with fail
              refine hK.out _ _ h1983q.out (fun hH => ?_)
              clear hK K
              try simp only [Act.put, List.setIfInBounds_toArray, List.set_cons_zero, List.set_cons_succ]
              refine wpAnyH_take (i := 6) (oi := { dst := some 27, op := .move (.tmp 33), type := _, pos := _, after := _, guard := _ }) (v := ?_) rfl (by kernel_rfl) (by kernel_rfl) (by kernel_rfl) (fun _ _ _ h => h) (Or.inl ⟨by rfl, ?_⟩) hH ?_
              rotate_left
              · intro w hSw
                clear hSw
                go_simp
                try with_reducible rfl
              simp only [Act.put, List.setIfInBounds_toArray, List.set_cons_zero, List.set_cons_succ]
              refine wpAnyH_take (i := 7) (oi := { dst := some 34, op := .extract (.tmp 27) 0, type := _, pos := _, after := _, guard := _ }) (v := ?_) rfl (by kernel_rfl) (by kernel_rfl) (by kernel_rfl) (fun _ _ _ h => h) (Or.inl ⟨by rfl, ?_⟩) hH ?_
              rotate_left
              · intro w hSw
                clear hSw
                go_simp
                try with_reducible rfl
              simp only [Act.put, List.setIfInBounds_toArray, List.set_cons_zero, List.set_cons_succ]
              refine wpAnyH_take (i := 8) (oi := { dst := some 35, op := .extract (.tmp 27) 1, type := _, pos := _, after := _, guard := _ }) (v := ?_) rfl (by kernel_rfl) (by kernel_rfl) (by kernel_rfl) (fun _ _ _ h => h) (Or.inl ⟨by rfl, ?_⟩) hH ?_
              rotate_left
              · intro w hSw
                clear hSw
                go_simp
                try with_reducible rfl
              simp only [Act.put, List.setIfInBounds_toArray, List.set_cons_zero, List.set_cons_succ]
              refine wpAnyH_ready (rs := [10]) (by kernel_rfl) (by simp) ?_
              refine AllReadyH.cons (o := { dst := some 11, op := .alloc _, type := _, pos := _, after := _, guard := _ }) rfl (fun K hK => ?_) AllReadyH.nil
              have l1985q : n ≤ u1981q.heap.size := h1982q.out.le
              have l1986q : u1593q.heap.size < u1981q.heap.size := h1983q.out.lt
              have l1987q : u1922q.heap.size < u1981q.heap.size := h1984q.out.lt
              go_simp
              have h1988q : Hid (Gd n w (u1981q.alloc (.cells #[.int .i64 0, .int .i64 0] 31))) := h1982q.out.new (.cells #[.int .i64 0, .int .i64 0] 31)
              have h1989q : Hid (TAt (u1981q.alloc (.cells #[.int .i64 0, .int .i64 0] 31)) u1593q.heap.size t) := h1983q.out.new (.cells #[.int .i64 0, .int .i64 0] 31)
              have h1990q : Hid (TAt (u1981q.alloc (.cells #[.int .i64 0, .int .i64 0] 31)) u1922q.heap.size Tb.zero) := h1984q.out.new (.cells #[.int .i64 0, .int .i64 0] 31)
              clear h1982q h1983q h1984q
              have h1991q : Hid (Bo (u1981q.alloc (.cells #[.int .i64 0, .int .i64 0] 31)) u1981q.heap.size [.int .i64 0, .int .i64 0]) := Bo.born u1981q [.int .i64 0, .int .i64 0] 31 (by simp)
              refine hK.out _ _ h1989q.out (fun hH => ?_)
              clear hK K
              generalize (u1981q.alloc (.cells #[.int .i64 0, .int .i64 0] 31)) = u1992q at h1988q h1989q h1990q h1991q hH ⊢
              try simp only [Act.put, List.setIfInBounds_toArray, List.set_cons_zero, List.set_cons_succ]
              refine wpAnyH_ready (rs := [11]) (by kernel_rfl) (by simp) ?_
              refine AllReadyH.cons (o := { dst := none, op := .store _ (.tmp 10) (.tmp 34), type := _, pos := _, after := _, guard := _ }) rfl (fun K hK => ?_) AllReadyH.nil
              rw [if_pos (by rfl)]
              refine wp_store_mid _ _ _ rfl u1922q.heap.size _ u.all.toArray rfl rfl (h1990q.out.thereOf u) (HZ.out u) (u.all_all) ?_
              simp only [Act.put]
              have h1993q : Hid (Gd n w (u1992q.setCells u1922q.heap.size 0 u.all)) := h1988q.out.asideAll (by omega) u
              have h1994q : Hid (TAt (u1992q.setCells u1922q.heap.size 0 u.all) u1593q.heap.size t) := h1989q.out.asideAll (by omega) u
              have h1995q : Hid (TAt (u1992q.setCells u1922q.heap.size 0 u.all) u1922q.heap.size u) := h1990q.out.setAll u
              have h1996q : Hid (Bo (u1992q.setCells u1922q.heap.size 0 u.all) u1981q.heap.size [.int .i64 0, .int .i64 0]) := h1991q.out.asideAll (by omega) u
              clear h1988q h1989q h1990q h1991q
              refine hK.out _ _ h1994q.out (fun hH => ?_)
              clear hK K
              generalize (u1992q.setCells u1922q.heap.size 0 u.all) = u1997q at h1993q h1994q h1995q h1996q hH ⊢
              try simp only [Act.put, List.setIfInBounds_toArray, List.set_cons_zero, List.set_cons_succ]
              refine wpAnyH_ready (rs := [12]) (by kernel_rfl) (by simp) ?_
              refine AllReadyH.cons (o := { dst := none, op := .store _ (.tmp 11) (.tmp 35), type := _, pos := _, after := _, guard := _ }) rfl (fun K hK => ?_) AllReadyH.nil
              rw [if_pos (by rfl)]
              refine wp_store_mid _ _ _ rfl u1981q.heap.size _ #[.int .i64 (1), .int .i64 (0)] rfl rfl h1996q.out.there2 HA.out (two_one _ _) ?_
              simp only [Act.put]
              have h1998q : Hid (Gd n w (u1997q.setCells u1981q.heap.size 0 [.int .i64 (1), .int .i64 (0)])) := h1993q.out.asideL (by omega) 0 [.int .i64 (1), .int .i64 (0)]
              have h1999q : Hid (TAt (u1997q.setCells u1981q.heap.size 0 [.int .i64 (1), .int .i64 (0)]) u1593q.heap.size t) := h1994q.out.asideL (by omega) 0 [.int .i64 (1), .int .i64 (0)]
              have h2000q : Hid (TAt (u1997q.setCells u1981q.heap.size 0 [.int .i64 (1), .int .i64 (0)]) u1922q.heap.size u) := h1995q.out.asideL (by omega) 0 [.int .i64 (1), .int .i64 (0)]
              have h2001q : Hid (Bo (u1997q.setCells u1981q.heap.size 0 [.int .i64 (1), .int .i64 (0)]) u1981q.heap.size [.int .i64 (1), .int .i64 (0)]) := h1996q.out.set2 (.int .i64 (1)) (.int .i64 (0))
              clear h1993q h1994q h1995q h1996q
              refine hK.out _ _ h1999q.out (fun hH => ?_)
              clear hK K
              generalize (u1997q.setCells u1981q.heap.size 0 [.int .i64 (1), .int .i64 (0)]) = u2002q at h1998q h1999q h2000q h2001q hH ⊢
              try simp only [Act.put, List.setIfInBounds_toArray, List.set_cons_zero, List.set_cons_succ]
              refine wpAnyH_done (by kernel_rfl) ?_ _
              go_wp2_with fail
              go_meet
              case rel => exact ⟨u1922q.heap.size, u1981q.heap.size, rfl, rfl, h1998q, h1999q, h2000q, h2001q, (by omega)⟩
            refine AllReadyH.cons (o := { dst := some 11, op := .alloc _, type := _, pos := _, after := _, guard := _ }) rfl (fun K hK => ?_) AllReadyH.nil
            have l2003q : n ≤ u1980q.heap.size := h1977q.out.le
            have l2004q : u1593q.heap.size < u1980q.heap.size := h1978q.out.lt
            have l2005q : u1922q.heap.size < u1980q.heap.size := h1979q.out.lt
            go_simp
            have h2006q : Hid (Gd n w (u1980q.alloc (.cells #[.int .i64 0, .int .i64 0] 31))) := h1977q.out.new (.cells #[.int .i64 0, .int .i64 0] 31)
            have h2007q : Hid (TAt (u1980q.alloc (.cells #[.int .i64 0, .int .i64 0] 31)) u1593q.heap.size t) := h1978q.out.new (.cells #[.int .i64 0, .int .i64 0] 31)
            have h2008q : Hid (TAt (u1980q.alloc (.cells #[.int .i64 0, .int .i64 0] 31)) u1922q.heap.size Tb.zero) := h1979q.out.new (.cells #[.int .i64 0, .int .i64 0] 31)
            clear h1977q h1978q h1979q
            have h2009q : Hid (Bo (u1980q.alloc (.cells #[.int .i64 0, .int .i64 0] 31)) u1980q.heap.size [.int .i64 0, .int .i64 0]) := Bo.born u1980q [.int .i64 0, .int .i64 0] 31 (by simp)
            refine hK.out _ _ h2007q.out (fun hH => ?_)
            clear hK K
            generalize (u1980q.alloc (.cells #[.int .i64 0, .int .i64 0] 31)) = u2010q at h2006q h2007q h2008q h2009q hH ⊢
            try simp only [Act.put, List.setIfInBounds_toArray, List.set_cons_zero, List.set_cons_succ]
            refine wpAnyH_ready (rs := [5]) (by kernel_rfl) (by simp) ?_
            refine AllReadyH.cons (o := { dst := some 33, op := _, type := _, pos := _, after := _, guard := _ }) rfl (fun K hK => ?_) AllReadyH.nil
            go_simp
            refine (DO _).mono ?_
            rintro e u2011q ⟨rfl, hb⟩
            have h2012q : Hid (Gd n w u2011q) := h2006q.out.later hb
            have h2013q : Hid (TAt u2011q u1593q.heap.size t) := h2007q.out.later hb
            have h2014q : Hid (TAt u2011q u1922q.heap.size Tb.zero) := h2008q.out.later hb
            have h2015q : Hid (Bo u2011q u1980q.heap.size [.int .i64 0, .int .i64 0]) := h2009q.out.later hb
            clear h2006q h2007q h2008q h2009q
            clear hb
            go_wp2_with fail
            refine hK.out _ _ h2013q.out (fun hH => ?_)
            clear hK K
            try simp only [Act.put, List.setIfInBounds_toArray, List.set_cons_zero, List.set_cons_succ]
            refine wpAnyH_take (i := 6) (oi := { dst := some 27, op := .move (.tmp 33), type := _, pos := _, after := _, guard := _ }) (v := ?_) rfl (by kernel_rfl) (by kernel_rfl) (by kernel_rfl) (fun _ _ _ h => h) (Or.inl ⟨by rfl, ?_⟩) hH ?_
            rotate_left
            · intro w hSw
              clear hSw
              go_simp
              try with_reducible rfl
            simp only [Act.put, List.setIfInBounds_toArray, List.set_cons_zero, List.set_cons_succ]
            refine wpAnyH_take (i := 7) (oi := { dst := some 34, op := .extract (.tmp 27) 0, type := _, pos := _, after := _, guard := _ }) (v := ?_) rfl (by kernel_rfl) (by kernel_rfl) (by kernel_rfl) (fun _ _ _ h => h) (Or.inl ⟨by rfl, ?_⟩) hH ?_
            rotate_left
            · intro w hSw
              clear hSw
              go_simp
              try with_reducible rfl
            simp only [Act.put, List.setIfInBounds_toArray, List.set_cons_zero, List.set_cons_succ]
            refine wpAnyH_take (i := 8) (oi := { dst := some 35, op := .extract (.tmp 27) 1, type := _, pos := _, after := _, guard := _ }) (v := ?_) rfl (by kernel_rfl) (by kernel_rfl) (by kernel_rfl) (fun _ _ _ h => h) (Or.inl ⟨by rfl, ?_⟩) hH ?_
            rotate_left
            · intro w hSw
              clear hSw
              go_simp
              try with_reducible rfl
            simp only [Act.put, List.setIfInBounds_toArray, List.set_cons_zero, List.set_cons_succ]
            refine wpAnyH_ready (rs := [11]) (by kernel_rfl) (by simp) ?_
            refine AllReadyH.cons (o := { dst := none, op := .store _ (.tmp 10) (.tmp 34), type := _, pos := _, after := _, guard := _ }) rfl (fun K hK => ?_) AllReadyH.nil
            rw [if_pos (by rfl)]
            refine wp_store_mid _ _ _ rfl u1922q.heap.size _ u.all.toArray rfl rfl (h2014q.out.thereOf u) (HZ.out u) (u.all_all) ?_
            simp only [Act.put]
            have h2016q : Hid (Gd n w (u2011q.setCells u1922q.heap.size 0 u.all)) := h2012q.out.asideAll (by omega) u
            have h2017q : Hid (TAt (u2011q.setCells u1922q.heap.size 0 u.all) u1593q.heap.size t) := h2013q.out.asideAll (by omega) u
            have h2018q : Hid (TAt (u2011q.setCells u1922q.heap.size 0 u.all) u1922q.heap.size u) := h2014q.out.setAll u
            have h2019q : Hid (Bo (u2011q.setCells u1922q.heap.size 0 u.all) u1980q.heap.size [.int .i64 0, .int .i64 0]) := h2015q.out.asideAll (by omega) u
            clear h2012q h2013q h2014q h2015q
            refine hK.out _ _ h2017q.out (fun hH => ?_)
            clear hK K
            generalize (u2011q.setCells u1922q.heap.size 0 u.all) = u2020q at h2016q h2017q h2018q h2019q hH ⊢
            try simp only [Act.put, List.setIfInBounds_toArray, List.set_cons_zero, List.set_cons_succ]
            refine wpAnyH_ready (rs := [12]) (by kernel_rfl) (by simp) ?_
            refine AllReadyH.cons (o := { dst := none, op := .store _ (.tmp 11) (.tmp 35), type := _, pos := _, after := _, guard := _ }) rfl (fun K hK => ?_) AllReadyH.nil
            rw [if_pos (by rfl)]
            refine wp_store_mid _ _ _ rfl u1980q.heap.size _ #[.int .i64 (1), .int .i64 (0)] rfl rfl h2019q.out.there2 HA.out (two_one _ _) ?_
            simp only [Act.put]
            have h2021q : Hid (Gd n w (u2020q.setCells u1980q.heap.size 0 [.int .i64 (1), .int .i64 (0)])) := h2016q.out.asideL (by omega) 0 [.int .i64 (1), .int .i64 (0)]
            have h2022q : Hid (TAt (u2020q.setCells u1980q.heap.size 0 [.int .i64 (1), .int .i64 (0)]) u1593q.heap.size t) := h2017q.out.asideL (by omega) 0 [.int .i64 (1), .int .i64 (0)]
            have h2023q : Hid (TAt (u2020q.setCells u1980q.heap.size 0 [.int .i64 (1), .int .i64 (0)]) u1922q.heap.size u) := h2018q.out.asideL (by omega) 0 [.int .i64 (1), .int .i64 (0)]
            have h2024q : Hid (Bo (u2020q.setCells u1980q.heap.size 0 [.int .i64 (1), .int .i64 (0)]) u1980q.heap.size [.int .i64 (1), .int .i64 (0)]) := h2019q.out.set2 (.int .i64 (1)) (.int .i64 (0))
            clear h2016q h2017q h2018q h2019q
            refine hK.out _ _ h2022q.out (fun hH => ?_)
            clear hK K
            generalize (u2020q.setCells u1980q.heap.size 0 [.int .i64 (1), .int .i64 (0)]) = u2025q at h2021q h2022q h2023q h2024q hH ⊢
            try simp only [Act.put, List.setIfInBounds_toArray, List.set_cons_zero, List.set_cons_succ]
            refine wpAnyH_done (by kernel_rfl) ?_ _
            go_wp2_with fail
            go_meet
            case rel => exact ⟨u1922q.heap.size, u1980q.heap.size, rfl, rfl, h2021q, h2022q, h2023q, h2024q, (by omega)⟩
          refine AllReadyH.cons (o := { dst := some 11, op := .alloc _, type := _, pos := _, after := _, guard := _ }) rfl (fun K hK => ?_) AllReadyH.nil
          have l2026q : n ≤ u1922q.heap.size := h1920q.out.le
          have l2027q : u1593q.heap.size < u1922q.heap.size := h1921q.out.lt
          go_simp
          have h2028q : Hid (Gd n w (u1922q.alloc (.cells #[.int .i64 0, .int .i64 0] 31))) := h1920q.out.new (.cells #[.int .i64 0, .int .i64 0] 31)
          have h2029q : Hid (TAt (u1922q.alloc (.cells #[.int .i64 0, .int .i64 0] 31)) u1593q.heap.size t) := h1921q.out.new (.cells #[.int .i64 0, .int .i64 0] 31)
          clear h1920q h1921q
          have h2030q : Hid (Bo (u1922q.alloc (.cells #[.int .i64 0, .int .i64 0] 31)) u1922q.heap.size [.int .i64 0, .int .i64 0]) := Bo.born u1922q [.int .i64 0, .int .i64 0] 31 (by simp)
          refine hK.out _ _ h2029q.out (fun hH => ?_)
          clear hK K
          generalize (u1922q.alloc (.cells #[.int .i64 0, .int .i64 0] 31)) = u2031q at h2028q h2029q h2030q hH ⊢
          try simp only [Act.put, List.setIfInBounds_toArray, List.set_cons_zero, List.set_cons_succ]
          refine wpAnyH_ready (rs := [5, 9]) (by kernel_rfl) (by simp) ?_
          refine AllReadyH.cons (o := { dst := some 33, op := _, type := _, pos := _, after := _, guard := _ }) rfl (fun K hK => ?_) ?_
          · go_simp
            refine (DO _).mono ?_
            rintro e u2032q ⟨rfl, hb⟩
            have h2033q : Hid (Gd n w u2032q) := h2028q.out.later hb
            have h2034q : Hid (TAt u2032q u1593q.heap.size t) := h2029q.out.later hb
            have h2035q : Hid (Bo u2032q u1922q.heap.size [.int .i64 0, .int .i64 0]) := h2030q.out.later hb
            clear h2028q h2029q h2030q
            clear hb
            go_wp2_with fail
            refine hK.out _ _ h2034q.out (fun hH => ?_)
            clear hK K
            try simp only [Act.put, List.setIfInBounds_toArray, List.set_cons_zero, List.set_cons_succ]
            refine wpAnyH_take (i := 6) (oi := { dst := some 27, op := .move (.tmp 33), type := _, pos := _, after := _, guard := _ }) (v := ?_) rfl (by kernel_rfl) (by kernel_rfl) (by kernel_rfl) (fun _ _ _ h => h) (Or.inl ⟨by rfl, ?_⟩) hH ?_
            rotate_left
            · intro w hSw
              clear hSw
              go_simp
              try with_reducible rfl
            simp only [Act.put, List.setIfInBounds_toArray, List.set_cons_zero, List.set_cons_succ]
            refine wpAnyH_take (i := 7) (oi := { dst := some 34, op := .extract (.tmp 27) 0, type := _, pos := _, after := _, guard := _ }) (v := ?_) rfl (by kernel_rfl) (by kernel_rfl) (by kernel_rfl) (fun _ _ _ h => h) (Or.inl ⟨by rfl, ?_⟩) hH ?_
            rotate_left
            · intro w hSw
              clear hSw
              go_simp
              try with_reducible rfl
            simp only [Act.put, List.setIfInBounds_toArray, List.set_cons_zero, List.set_cons_succ]
            refine wpAnyH_take (i := 8) (oi := { dst := some 35, op := .extract (.tmp 27) 1, type := _, pos := _, after := _, guard := _ }) (v := ?_) rfl (by kernel_rfl) (by kernel_rfl) (by kernel_rfl) (fun _ _ _ h => h) (Or.inl ⟨by rfl, ?_⟩) hH ?_
            rotate_left
            · intro w hSw
              clear hSw
              go_simp
              try with_reducible rfl
            simp only [Act.put, List.setIfInBounds_toArray, List.set_cons_zero, List.set_cons_succ]
            refine wpAnyH_ready (rs := [9]) (by kernel_rfl) (by simp) ?_
            refine AllReadyH.cons (o := { dst := some 10, op := .alloc _, type := _, pos := _, after := _, guard := _ }) rfl (fun K hK => ?_) AllReadyH.nil
            have l2036q : n ≤ u2032q.heap.size := h2033q.out.le
            have l2037q : u1593q.heap.size < u2032q.heap.size := h2034q.out.lt
            have l2038q : u1922q.heap.size < u2032q.heap.size := h2035q.out.lt
            go_simp
            have h2039q : Hid (Gd n w (u2032q.alloc (.cells #[.int .i64 0, .int .i64 0, .int .i64 0, .int .i64 0, .int .i64 0, .int .i64 0, .int .i64 0, .int .i64 0, .int .i64 0, .int .i64 0, .int .i64 0, .int .i64 0, .int .i64 0, .int .i64 0, .int .i64 0, .int .i64 0] 27))) := h2033q.out.new (.cells #[.int .i64 0, .int .i64 0, .int .i64 0, .int .i64 0, .int .i64 0, .int .i64 0, .int .i64 0, .int .i64 0, .int .i64 0, .int .i64 0, .int .i64 0, .int .i64 0, .int .i64 0, .int .i64 0, .int .i64 0, .int .i64 0] 27)
            have h2040q : Hid (TAt (u2032q.alloc (.cells #[.int .i64 0, .int .i64 0, .int .i64 0, .int .i64 0, .int .i64 0, .int .i64 0, .int .i64 0, .int .i64 0, .int .i64 0, .int .i64 0, .int .i64 0, .int .i64 0, .int .i64 0, .int .i64 0, .int .i64 0, .int .i64 0] 27)) u1593q.heap.size t) := h2034q.out.new (.cells #[.int .i64 0, .int .i64 0, .int .i64 0, .int .i64 0, .int .i64 0, .int .i64 0, .int .i64 0, .int .i64 0, .int .i64 0, .int .i64 0, .int .i64 0, .int .i64 0, .int .i64 0, .int .i64 0, .int .i64 0, .int .i64 0] 27)
            have h2041q : Hid (Bo (u2032q.alloc (.cells #[.int .i64 0, .int .i64 0, .int .i64 0, .int .i64 0, .int .i64 0, .int .i64 0, .int .i64 0, .int .i64 0, .int .i64 0, .int .i64 0, .int .i64 0, .int .i64 0, .int .i64 0, .int .i64 0, .int .i64 0, .int .i64 0] 27)) u1922q.heap.size [.int .i64 0, .int .i64 0]) := h2035q.out.new (.cells #[.int .i64 0, .int .i64 0, .int .i64 0, .int .i64 0, .int .i64 0, .int .i64 0, .int .i64 0, .int .i64 0, .int .i64 0, .int .i64 0, .int .i64 0, .int .i64 0, .int .i64 0, .int .i64 0, .int .i64 0, .int .i64 0] 27)
            clear h2033q h2034q h2035q
            have h2042q : Hid (TAt (u2032q.alloc (.cells #[.int .i64 0, .int .i64 0, .int .i64 0, .int .i64 0, .int .i64 0, .int .i64 0, .int .i64 0, .int .i64 0, .int .i64 0, .int .i64 0, .int .i64 0, .int .i64 0, .int .i64 0, .int .i64 0, .int .i64 0, .int .i64 0] 27)) u2032q.heap.size Tb.zero) := TAt.bornZero u2032q 27 (by simp)
            refine hK.out _ _ h2040q.out (fun hH => ?_)
            clear hK K
            generalize (u2032q.alloc (.cells #[.int .i64 0, .int .i64 0, .int .i64 0, .int .i64 0, .int .i64 0, .int .i64 0, .int .i64 0, .int .i64 0, .int .i64 0, .int .i64 0, .int .i64 0, .int .i64 0, .int .i64 0, .int .i64 0, .int .i64 0, .int .i64 0] 27)) = u2043q at h2039q h2040q h2041q h2042q hH ⊢
            try simp only [Act.put, List.setIfInBounds_toArray, List.set_cons_zero, List.set_cons_succ]
            refine wpAnyH_ready (rs := [11]) (by kernel_rfl) (by simp) ?_
            refine AllReadyH.cons (o := { dst := none, op := .store _ (.tmp 10) (.tmp 34), type := _, pos := _, after := _, guard := _ }) rfl (fun K hK => ?_) AllReadyH.nil
            rw [if_pos (by rfl)]
            refine wp_store_mid _ _ _ rfl u2032q.heap.size _ u.all.toArray rfl rfl (h2042q.out.thereOf u) (HZ.out u) (u.all_all) ?_
            simp only [Act.put]
            have h2044q : Hid (Gd n w (u2043q.setCells u2032q.heap.size 0 u.all)) := h2039q.out.asideAll (by omega) u
            have h2045q : Hid (TAt (u2043q.setCells u2032q.heap.size 0 u.all) u1593q.heap.size t) := h2040q.out.asideAll (by omega) u
            have h2046q : Hid (Bo (u2043q.setCells u2032q.heap.size 0 u.all) u1922q.heap.size [.int .i64 0, .int .i64 0]) := h2041q.out.asideAll (by omega) u
            have h2047q : Hid (TAt (u2043q.setCells u2032q.heap.size 0 u.all) u2032q.heap.size u) := h2042q.out.setAll u
            clear h2039q h2040q h2041q h2042q
            refine hK.out _ _ h2045q.out (fun hH => ?_)
            clear hK K
            generalize (u2043q.setCells u2032q.heap.size 0 u.all) = u2048q at h2044q h2045q h2046q h2047q hH ⊢
            try simp only [Act.put, List.setIfInBounds_toArray, List.set_cons_zero, List.set_cons_succ]
            refine wpAnyH_ready (rs := [12]) (by kernel_rfl) (by simp) ?_
            refine AllReadyH.cons (o := { dst := none, op := .store _ (.tmp 11) (.tmp 35), type := _, pos := _, after := _, guard := _ }) rfl (fun K hK => ?_) AllReadyH.nil
            rw [if_pos (by rfl)]
            refine wp_store_mid _ _ _ rfl u1922q.heap.size _ #[.int .i64 (1), .int .i64 (0)] rfl rfl h2046q.out.there2 HA.out (two_one _ _) ?_
            simp only [Act.put]
            have h2049q : Hid (Gd n w (u2048q.setCells u1922q.heap.size 0 [.int .i64 (1), .int .i64 (0)])) := h2044q.out.asideL (by omega) 0 [.int .i64 (1), .int .i64 (0)]
            have h2050q : Hid (TAt (u2048q.setCells u1922q.heap.size 0 [.int .i64 (1), .int .i64 (0)]) u1593q.heap.size t) := h2045q.out.asideL (by omega) 0 [.int .i64 (1), .int .i64 (0)]
            have h2051q : Hid (Bo (u2048q.setCells u1922q.heap.size 0 [.int .i64 (1), .int .i64 (0)]) u1922q.heap.size [.int .i64 (1), .int .i64 (0)]) := h2046q.out.set2 (.int .i64 (1)) (.int .i64 (0))
            have h2052q : Hid (TAt (u2048q.setCells u1922q.heap.size 0 [.int .i64 (1), .int .i64 (0)]) u2032q.heap.size u) := h2047q.out.asideL (by omega) 0 [.int .i64 (1), .int .i64 (0)]
            clear h2044q h2045q h2046q h2047q
            refine hK.out _ _ h2050q.out (fun hH => ?_)
            clear hK K
            generalize (u2048q.setCells u1922q.heap.size 0 [.int .i64 (1), .int .i64 (0)]) = u2053q at h2049q h2050q h2051q h2052q hH ⊢
            try simp only [Act.put, List.setIfInBounds_toArray, List.set_cons_zero, List.set_cons_succ]
            refine wpAnyH_done (by kernel_rfl) ?_ _
            go_wp2_with fail
            go_meet
            case rel => exact ⟨u2032q.heap.size, u1922q.heap.size, rfl, rfl, h2049q, h2050q, h2052q, h2051q, (by omega)⟩
          refine AllReadyH.cons (o := { dst := some 10, op := .alloc _, type := _, pos := _, after := _, guard := _ }) rfl (fun K hK => ?_) AllReadyH.nil
          have l2054q : n ≤ u2031q.heap.size := h2028q.out.le
          have l2055q : u1593q.heap.size < u2031q.heap.size := h2029q.out.lt
          have l2056q : u1922q.heap.size < u2031q.heap.size := h2030q.out.lt
          go_simp
          have h2057q : Hid (Gd n w (u2031q.alloc (.cells #[.int .i64 0, .int .i64 0, .int .i64 0, .int .i64 0, .int .i64 0, .int .i64 0, .int .i64 0, .int .i64 0, .int .i64 0, .int .i64 0, .int .i64 0, .int .i64 0, .int .i64 0, .int .i64 0, .int .i64 0, .int .i64 0] 27))) := h2028q.out.new (.cells #[.int .i64 0, .int .i64 0, .int .i64 0, .int .i64 0, .int .i64 0, .int .i64 0, .int .i64 0, .int .i64 0, .int .i64 0, .int .i64 0, .int .i64 0, .int .i64 0, .int .i64 0, .int .i64 0, .int .i64 0, .int .i64 0] 27)
          have h2058q : Hid (TAt (u2031q.alloc (.cells #[.int .i64 0, .int .i64 0, .int .i64 0, .int .i64 0, .int .i64 0, .int .i64 0, .int .i64 0, .int .i64 0, .int .i64 0, .int .i64 0, .int .i64 0, .int .i64 0, .int .i64 0, .int .i64 0, .int .i64 0, .int .i64 0] 27)) u1593q.heap.size t) := h2029q.out.new (.cells #[.int .i64 0, .int .i64 0, .int .i64 0, .int .i64 0, .int .i64 0, .int .i64 0, .int .i64 0, .int .i64 0, .int .i64 0, .int .i64 0, .int .i64 0, .int .i64 0, .int .i64 0, .int .i64 0, .int .i64 0, .int .i64 0] 27)
          have h2059q : Hid (Bo (u2031q.alloc (.cells #[.int .i64 0, .int .i64 0, .int .i64 0, .int .i64 0, .int .i64 0, .int .i64 0, .int .i64 0, .int .i64 0, .int .i64 0, .int .i64 0, .int .i64 0, .int .i64 0, .int .i64 0, .int .i64 0, .int .i64 0, .int .i64 0] 27)) u1922q.heap.size [.int .i64 0, .int .i64 0]) := h2030q.out.new (.cells #[.int .i64 0, .int .i64 0, .int .i64 0, .int .i64 0, .int .i64 0, .int .i64 0, .int .i64 0, .int .i64 0, .int .i64 0, .int .i64 0, .int .i64 0, .int .i64 0, .int .i64 0, .int .i64 0, .int .i64 0, .int .i64 0] 27)
          clear h2028q h2029q h2030q
          have h2060q : Hid (TAt (u2031q.alloc (.cells #[.int .i64 0, .int .i64 0, .int .i64 0, .int .i64 0, .int .i64 0, .int .i64 0, .int .i64 0, .int .i64 0, .int .i64 0, .int .i64 0, .int .i64 0, .int .i64 0, .int .i64 0, .int .i64 0, .int .i64 0, .int .i64 0] 27)) u2031q.heap.size Tb.zero) := TAt.bornZero u2031q 27 (by simp)
          refine hK.out _ _ h2058q.out (fun hH => ?_)
          clear hK K
          generalize (u2031q.alloc (.cells #[.int .i64 0, .int .i64 0, .int .i64 0, .int .i64 0, .int .i64 0, .int .i64 0, .int .i64 0, .int .i64 0, .int .i64 0, .int .i64 0, .int .i64 0, .int .i64 0, .int .i64 0, .int .i64 0, .int .i64 0, .int .i64 0] 27)) = u2061q at h2057q h2058q h2059q h2060q hH ⊢
          try simp only [Act.put, List.setIfInBounds_toArray, List.set_cons_zero, List.set_cons_succ]
          refine wpAnyH_ready (rs := [5]) (by kernel_rfl) (by simp) ?_
          refine AllReadyH.cons (o := { dst := some 33, op := _, type := _, pos := _, after := _, guard := _ }) rfl (fun K hK => ?_) AllReadyH.nil
          go_simp
          refine (DO _).mono ?_
          rintro e u2062q ⟨rfl, hb⟩
          have h2063q : Hid (Gd n w u2062q) := h2057q.out.later hb
          have h2064q : Hid (TAt u2062q u1593q.heap.size t) := h2058q.out.later hb
          have h2065q : Hid (Bo u2062q u1922q.heap.size [.int .i64 0, .int .i64 0]) := h2059q.out.later hb
          have h2066q : Hid (TAt u2062q u2031q.heap.size Tb.zero) := h2060q.out.later hb
          clear h2057q h2058q h2059q h2060q
          clear hb
          go_wp2_with fail
          refine hK.out _ _ h2064q.out (fun hH => ?_)
          clear hK K
          try simp only [Act.put, List.setIfInBounds_toArray, List.set_cons_zero, List.set_cons_succ]
          refine wpAnyH_take (i := 6) (oi := { dst := some 27, op := .move (.tmp 33), type := _, pos := _, after := _, guard := _ }) (v := ?_) rfl (by kernel_rfl) (by kernel_rfl) (by kernel_rfl) (fun _ _ _ h => h) (Or.inl ⟨by rfl, ?_⟩) hH ?_
          rotate_left
          · intro w hSw
            clear hSw
            go_simp
            try with_reducible rfl
          simp only [Act.put, List.setIfInBounds_toArray, List.set_cons_zero, List.set_cons_succ]
          refine wpAnyH_take (i := 7) (oi := { dst := some 34, op := .extract (.tmp 27) 0, type := _, pos := _, after := _, guard := _ }) (v := ?_) rfl (by kernel_rfl) (by kernel_rfl) (by kernel_rfl) (fun _ _ _ h => h) (Or.inl ⟨by rfl, ?_⟩) hH ?_
          rotate_left
          · intro w hSw
            clear hSw
            go_simp
            try with_reducible rfl
          simp only [Act.put, List.setIfInBounds_toArray, List.set_cons_zero, List.set_cons_succ]
          refine wpAnyH_take (i := 8) (oi := { dst := some 35, op := .extract (.tmp 27) 1, type := _, pos := _, after := _, guard := _ }) (v := ?_) rfl (by kernel_rfl) (by kernel_rfl) (by kernel_rfl) (fun _ _ _ h => h) (Or.inl ⟨by rfl, ?_⟩) hH ?_
          rotate_left
          · intro w hSw
            clear hSw
            go_simp
            try with_reducible rfl
          simp only [Act.put, List.setIfInBounds_toArray, List.set_cons_zero, List.set_cons_succ]
          refine wpAnyH_ready (rs := [11]) (by kernel_rfl) (by simp) ?_
          refine AllReadyH.cons (o := { dst := none, op := .store _ (.tmp 10) (.tmp 34), type := _, pos := _, after := _, guard := _ }) rfl (fun K hK => ?_) AllReadyH.nil
          rw [if_pos (by rfl)]
          refine wp_store_mid _ _ _ rfl u2031q.heap.size _ u.all.toArray rfl rfl (h2066q.out.thereOf u) (HZ.out u) (u.all_all) ?_
          simp only [Act.put]
          have h2067q : Hid (Gd n w (u2062q.setCells u2031q.heap.size 0 u.all)) := h2063q.out.asideAll (by omega) u
          have h2068q : Hid (TAt (u2062q.setCells u2031q.heap.size 0 u.all) u1593q.heap.size t) := h2064q.out.asideAll (by omega) u
          have h2069q : Hid (Bo (u2062q.setCells u2031q.heap.size 0 u.all) u1922q.heap.size [.int .i64 0, .int .i64 0]) := h2065q.out.asideAll (by omega) u
          have h2070q : Hid (TAt (u2062q.setCells u2031q.heap.size 0 u.all) u2031q.heap.size u) := h2066q.out.setAll u
          clear h2063q h2064q h2065q h2066q
          refine hK.out _ _ h2068q.out (fun hH => ?_)
          clear hK K
          generalize (u2062q.setCells u2031q.heap.size 0 u.all) = u2071q at h2067q h2068q h2069q h2070q hH ⊢
          try simp only [Act.put, List.setIfInBounds_toArray, List.set_cons_zero, List.set_cons_succ]
          refine wpAnyH_ready (rs := [12]) (by kernel_rfl) (by simp) ?_
          refine AllReadyH.cons (o := { dst := none, op := .store _ (.tmp 11) (.tmp 35), type := _, pos := _, after := _, guard := _ }) rfl (fun K hK => ?_) AllReadyH.nil
          rw [if_pos (by rfl)]
          refine wp_store_mid _ _ _ rfl u1922q.heap.size _ #[.int .i64 (1), .int .i64 (0)] rfl rfl h2069q.out.there2 HA.out (two_one _ _) ?_
          simp only [Act.put]
          have h2072q : Hid (Gd n w (u2071q.setCells u1922q.heap.size 0 [.int .i64 (1), .int .i64 (0)])) := h2067q.out.asideL (by omega) 0 [.int .i64 (1), .int .i64 (0)]
          have h2073q : Hid (TAt (u2071q.setCells u1922q.heap.size 0 [.int .i64 (1), .int .i64 (0)]) u1593q.heap.size t) := h2068q.out.asideL (by omega) 0 [.int .i64 (1), .int .i64 (0)]
          have h2074q : Hid (Bo (u2071q.setCells u1922q.heap.size 0 [.int .i64 (1), .int .i64 (0)]) u1922q.heap.size [.int .i64 (1), .int .i64 (0)]) := h2069q.out.set2 (.int .i64 (1)) (.int .i64 (0))
          have h2075q : Hid (TAt (u2071q.setCells u1922q.heap.size 0 [.int .i64 (1), .int .i64 (0)]) u2031q.heap.size u) := h2070q.out.asideL (by omega) 0 [.int .i64 (1), .int .i64 (0)]
          clear h2067q h2068q h2069q h2070q
          refine hK.out _ _ h2073q.out (fun hH => ?_)
          clear hK K
          generalize (u2071q.setCells u1922q.heap.size 0 [.int .i64 (1), .int .i64 (0)]) = u2076q at h2072q h2073q h2074q h2075q hH ⊢
          try simp only [Act.put, List.setIfInBounds_toArray, List.set_cons_zero, List.set_cons_succ]
          refine wpAnyH_done (by kernel_rfl) ?_ _
          go_wp2_with fail
          go_meet
          case rel => exact ⟨u2031q.heap.size, u1922q.heap.size, rfl, rfl, h2072q, h2073q, h2075q, h2074q, (by omega)⟩
        refine AllReadyH.cons (o := { dst := some 10, op := .alloc _, type := _, pos := _, after := _, guard := _ }) rfl (fun K hK => ?_) ?_
        · have l2077q : n ≤ u1922q.heap.size := h1920q.out.le
          have l2078q : u1593q.heap.size < u1922q.heap.size := h1921q.out.lt
          go_simp
          have h2079q : Hid (Gd n w (u1922q.alloc (.cells #[.int .i64 0, .int .i64 0, .int .i64 0, .int .i64 0, .int .i64 0, .int .i64 0, .int .i64 0, .int .i64 0, .int .i64 0, .int .i64 0, .int .i64 0, .int .i64 0, .int .i64 0, .int .i64 0, .int .i64 0, .int .i64 0] 27))) := h1920q.out.new (.cells #[.int .i64 0, .int .i64 0, .int .i64 0, .int .i64 0, .int .i64 0, .int .i64 0, .int .i64 0, .int .i64 0, .int .i64 0, .int .i64 0, .int .i64 0, .int .i64 0, .int .i64 0, .int .i64 0, .int .i64 0, .int .i64 0] 27)
          have h2080q : Hid (TAt (u1922q.alloc (.cells #[.int .i64 0, .int .i64 0, .int .i64 0, .int .i64 0, .int .i64 0, .int .i64 0, .int .i64 0, .int .i64 0, .int .i64 0, .int .i64 0, .int .i64 0, .int .i64 0, .int .i64 0, .int .i64 0, .int .i64 0, .int .i64 0] 27)) u1593q.heap.size t) := h1921q.out.new (.cells #[.int .i64 0, .int .i64 0, .int .i64 0, .int .i64 0, .int .i64 0, .int .i64 0, .int .i64 0, .int .i64 0, .int .i64 0, .int .i64 0, .int .i64 0, .int .i64 0, .int .i64 0, .int .i64 0, .int .i64 0, .int .i64 0] 27)
          clear h1920q h1921q
          have h2081q : Hid (TAt (u1922q.alloc (.cells #[.int .i64 0, .int .i64 0, .int .i64 0, .int .i64 0, .int .i64 0, .int .i64 0, .int .i64 0, .int .i64 0, .int .i64 0, .int .i64 0, .int .i64 0, .int .i64 0, .int .i64 0, .int .i64 0, .int .i64 0, .int .i64 0] 27)) u1922q.heap.size Tb.zero) := TAt.bornZero u1922q 27 (by simp)
          refine hK.out _ _ h2080q.out (fun hH => ?_)
          clear hK K
          generalize (u1922q.alloc (.cells #[.int .i64 0, .int .i64 0, .int .i64 0, .int .i64 0, .int .i64 0, .int .i64 0, .int .i64 0, .int .i64 0, .int .i64 0, .int .i64 0, .int .i64 0, .int .i64 0, .int .i64 0, .int .i64 0, .int .i64 0, .int .i64 0] 27)) = u2082q at h2079q h2080q h2081q hH ⊢
          try simp only [Act.put, List.setIfInBounds_toArray, List.set_cons_zero, List.set_cons_succ]
          refine wpAnyH_ready (rs := [3, 10]) (by kernel_rfl) (by simp) ?_
          refine AllReadyH.cons (o := { dst := some 31, op := _, type := _, pos := _, after := _, guard := _ }) rfl (fun K hK => ?_) ?_
          · go_simp
            refine (Pr2.out _).mono ?_
            rintro e u2083q ⟨rfl, hw⟩
            rw [hw]; clear hw u2083q
            go_wp2_with fail
            refine hK.out _ _ h2080q.out (fun hH => ?_)
            clear hK K
            try simp only [Act.put, List.setIfInBounds_toArray, List.set_cons_zero, List.set_cons_succ]
            refine wpAnyH_take (i := 4) (oi := { dst := some 32, op := .build _ #[(0, .const (.int .i64 1)), (1, .tmp 29), (2, .tmp 31)], type := _, pos := _, after := _, guard := _ }) (v := ?_) rfl (by kernel_rfl) (by kernel_rfl) (by kernel_rfl) (fun _ _ _ h => h) (Or.inl ⟨by rfl, ?_⟩) hH ?_
            rotate_left
            · intro w hSw
              clear hSw
              go_simp
              try with_reducible rfl
            simp only [Act.put, List.setIfInBounds_toArray, List.set_cons_zero, List.set_cons_succ]
            refine wpAnyH_ready (rs := [5, 10]) (by kernel_rfl) (by simp) ?_
            refine AllReadyH.cons (o := { dst := some 33, op := _, type := _, pos := _, after := _, guard := _ }) rfl (fun K hK => ?_) ?_
            · go_simp
              refine (DO _).mono ?_
              rintro e u2084q ⟨rfl, hb⟩
              have h2085q : Hid (Gd n w u2084q) := h2079q.out.later hb
              have h2086q : Hid (TAt u2084q u1593q.heap.size t) := h2080q.out.later hb
              have h2087q : Hid (TAt u2084q u1922q.heap.size Tb.zero) := h2081q.out.later hb
              clear h2079q h2080q h2081q
              clear hb
              go_wp2_with fail
              refine hK.out _ _ h2086q.out (fun hH => ?_)
              clear hK K
              try simp only [Act.put, List.setIfInBounds_toArray, List.set_cons_zero, List.set_cons_succ]
              refine wpAnyH_take (i := 6) (oi := { dst := some 27, op := .move (.tmp 33), type := _, pos := _, after := _, guard := _ }) (v := ?_) rfl (by kernel_rfl) (by kernel_rfl) (by kernel_rfl) (fun _ _ _ h => h) (Or.inl ⟨by rfl, ?_⟩) hH ?_
              rotate_left
              · intro w hSw
                clear hSw
                go_simp
                try with_reducible rfl
              simp only [Act.put, List.setIfInBounds_toArray, List.set_cons_zero, List.set_cons_succ]
              refine wpAnyH_take (i := 7) (oi := { dst := some 34, op := .extract (.tmp 27) 0, type := _, pos := _, after := _, guard := _ }) (v := ?_) rfl (by kernel_rfl) (by kernel_rfl) (by kernel_rfl) (fun _ _ _ h => h) (Or.inl ⟨by rfl, ?_⟩) hH ?_
              rotate_left
              · intro w hSw
                clear hSw
                go_simp
                try with_reducible rfl
              simp only [Act.put, List.setIfInBounds_toArray, List.set_cons_zero, List.set_cons_succ]
              refine wpAnyH_take (i := 8) (oi := { dst := some 35, op := .extract (.tmp 27) 1, type := _, pos := _, after := _, guard := _ }) (v := ?_) rfl (by kernel_rfl) (by kernel_rfl) (by kernel_rfl) (fun _ _ _ h => h) (Or.inl ⟨by rfl, ?_⟩) hH ?_
              rotate_left
              · intro w hSw
                clear hSw
                go_simp
                try with_reducible rfl
              simp only [Act.put, List.setIfInBounds_toArray, List.set_cons_zero, List.set_cons_succ]
              refine wpAnyH_ready (rs := [10]) (by kernel_rfl) (by simp) ?_
              refine AllReadyH.cons (o := { dst := some 11, op := .alloc _, type := _, pos := _, after := _, guard := _ }) rfl (fun K hK => ?_) AllReadyH.nil
              have l2088q : n ≤ u2084q.heap.size := h2085q.out.le
              have l2089q : u1593q.heap.size < u2084q.heap.size := h2086q.out.lt
              have l2090q : u1922q.heap.size < u2084q.heap.size := h2087q.out.lt
              go_simp
              have h2091q : Hid (Gd n w (u2084q.alloc (.cells #[.int .i64 0, .int .i64 0] 31))) := h2085q.out.new (.cells #[.int .i64 0, .int .i64 0] 31)
              have h2092q : Hid (TAt (u2084q.alloc (.cells #[.int .i64 0, .int .i64 0] 31)) u1593q.heap.size t) := h2086q.out.new (.cells #[.int .i64 0, .int .i64 0] 31)
              have h2093q : Hid (TAt (u2084q.alloc (.cells #[.int .i64 0, .int .i64 0] 31)) u1922q.heap.size Tb.zero) := h2087q.out.new (.cells #[.int .i64 0, .int .i64 0] 31)
              clear h2085q h2086q h2087q
              have h2094q : Hid (Bo (u2084q.alloc (.cells #[.int .i64 0, .int .i64 0] 31)) u2084q.heap.size [.int .i64 0, .int .i64 0]) := Bo.born u2084q [.int .i64 0, .int .i64 0] 31 (by simp)
              refine hK.out _ _ h2092q.out (fun hH => ?_)
              clear hK K
              generalize (u2084q.alloc (.cells #[.int .i64 0, .int .i64 0] 31)) = u2095q at h2091q h2092q h2093q h2094q hH ⊢
              try simp only [Act.put, List.setIfInBounds_toArray, List.set_cons_zero, List.set_cons_succ]
              refine wpAnyH_ready (rs := [11]) (by kernel_rfl) (by simp) ?_
              refine AllReadyH.cons (o := { dst := none, op := .store _ (.tmp 10) (.tmp 34), type := _, pos := _, after := _, guard := _ }) rfl (fun K hK => ?_) AllReadyH.nil
              rw [if_pos (by rfl)]
              refine wp_store_mid _ _ _ rfl u1922q.heap.size _ u.all.toArray rfl rfl (h2093q.out.thereOf u) (HZ.out u) (u.all_all) ?_
              simp only [Act.put]
              have h2096q : Hid (Gd n w (u2095q.setCells u1922q.heap.size 0 u.all)) := h2091q.out.asideAll (by omega) u
              have h2097q : Hid (TAt (u2095q.setCells u1922q.heap.size 0 u.all) u1593q.heap.size t) := h2092q.out.asideAll (by omega) u
              have h2098q : Hid (TAt (u2095q.setCells u1922q.heap.size 0 u.all) u1922q.heap.size u) := h2093q.out.setAll u
              have h2099q : Hid (Bo (u2095q.setCells u1922q.heap.size 0 u.all) u2084q.heap.size [.int .i64 0, .int .i64 0]) := h2094q.out.asideAll (by omega) u
              clear h2091q h2092q h2093q h2094q
              refine hK.out _ _ h2097q.out (fun hH => ?_)
              clear hK K
              generalize (u2095q.setCells u1922q.heap.size 0 u.all) = u2100q at h2096q h2097q h2098q h2099q hH ⊢
              try simp only [Act.put, List.setIfInBounds_toArray, List.set_cons_zero, List.set_cons_succ]
              refine wpAnyH_ready (rs := [12]) (by kernel_rfl) (by simp) ?_
              refine AllReadyH.cons (o := { dst := none, op := .store _ (.tmp 11) (.tmp 35), type := _, pos := _, after := _, guard := _ }) rfl (fun K hK => ?_) AllReadyH.nil
              rw [if_pos (by rfl)]
              refine wp_store_mid _ _ _ rfl u2084q.heap.size _ #[.int .i64 (1), .int .i64 (0)] rfl rfl h2099q.out.there2 HA.out (two_one _ _) ?_
              simp only [Act.put]
              have h2101q : Hid (Gd n w (u2100q.setCells u2084q.heap.size 0 [.int .i64 (1), .int .i64 (0)])) := h2096q.out.asideL (by omega) 0 [.int .i64 (1), .int .i64 (0)]
              have h2102q : Hid (TAt (u2100q.setCells u2084q.heap.size 0 [.int .i64 (1), .int .i64 (0)]) u1593q.heap.size t) := h2097q.out.asideL (by omega) 0 [.int .i64 (1), .int .i64 (0)]
              have h2103q : Hid (TAt (u2100q.setCells u2084q.heap.size 0 [.int .i64 (1), .int .i64 (0)]) u1922q.heap.size u) := h2098q.out.asideL (by omega) 0 [.int .i64 (1), .int .i64 (0)]
              have h2104q : Hid (Bo (u2100q.setCells u2084q.heap.size 0 [.int .i64 (1), .int .i64 (0)]) u2084q.heap.size [.int .i64 (1), .int .i64 (0)]) := h2099q.out.set2 (.int .i64 (1)) (.int .i64 (0))
              clear h2096q h2097q h2098q h2099q
              refine hK.out _ _ h2102q.out (fun hH => ?_)
              clear hK K
              generalize (u2100q.setCells u2084q.heap.size 0 [.int .i64 (1), .int .i64 (0)]) = u2105q at h2101q h2102q h2103q h2104q hH ⊢
              try simp only [Act.put, List.setIfInBounds_toArray, List.set_cons_zero, List.set_cons_succ]
              refine wpAnyH_done (by kernel_rfl) ?_ _
              go_wp2_with fail
              go_meet
              case rel => exact ⟨u1922q.heap.size, u2084q.heap.size, rfl, rfl, h2101q, h2102q, h2103q, h2104q, (by omega)⟩
            refine AllReadyH.cons (o := { dst := some 11, op := .alloc _, type := _, pos := _, after := _, guard := _ }) rfl (fun K hK => ?_) AllReadyH.nil
            have l2106q : n ≤ u2082q.heap.size := h2079q.out.le
            have l2107q : u1593q.heap.size < u2082q.heap.size := h2080q.out.lt
            have l2108q : u1922q.heap.size < u2082q.heap.size := h2081q.out.lt
            go_simp
            have h2109q : Hid (Gd n w (u2082q.alloc (.cells #[.int .i64 0, .int .i64 0] 31))) := h2079q.out.new (.cells #[.int .i64 0, .int .i64 0] 31)
            have h2110q : Hid (TAt (u2082q.alloc (.cells #[.int .i64 0, .int .i64 0] 31)) u1593q.heap.size t) := h2080q.out.new (.cells #[.int .i64 0, .int .i64 0] 31)
            have h2111q : Hid (TAt (u2082q.alloc (.cells #[.int .i64 0, .int .i64 0] 31)) u1922q.heap.size Tb.zero) := h2081q.out.new (.cells #[.int .i64 0, .int .i64 0] 31)
            clear h2079q h2080q h2081q
            have h2112q : Hid (Bo (u2082q.alloc (.cells #[.int .i64 0, .int .i64 0] 31)) u2082q.heap.size [.int .i64 0, .int .i64 0]) := Bo.born u2082q [.int .i64 0, .int .i64 0] 31 (by simp)
            refine hK.out _ _ h2110q.out (fun hH => ?_)
            clear hK K
            generalize (u2082q.alloc (.cells #[.int .i64 0, .int .i64 0] 31)) = u2113q at h2109q h2110q h2111q h2112q hH ⊢
            try simp only [Act.put, List.setIfInBounds_toArray, List.set_cons_zero, List.set_cons_succ]
            refine wpAnyH_ready (rs := [5]) (by kernel_rfl) (by simp) ?_
            refine AllReadyH.cons (o := { dst := some 33, op := _, type := _, pos := _, after := _, guard := _ }) rfl (fun K hK => ?_) AllReadyH.nil
            go_simp
            refine (DO _).mono ?_
            rintro e u2114q ⟨rfl, hb⟩
            have h2115q : Hid (Gd n w u2114q) := h2109q.out.later hb
            have h2116q : Hid (TAt u2114q u1593q.heap.size t) := h2110q.out.later hb
            have h2117q : Hid (TAt u2114q u1922q.heap.size Tb.zero) := h2111q.out.later hb
            have h2118q : Hid (Bo u2114q u2082q.heap.size [.int .i64 0, .int .i64 0]) := h2112q.out.later hb
            clear h2109q h2110q h2111q h2112q
            clear hb
            go_wp2_with fail
            refine hK.out _ _ h2116q.out (fun hH => ?_)
            clear hK K
            try simp only [Act.put, List.setIfInBounds_toArray, List.set_cons_zero, List.set_cons_succ]
            refine wpAnyH_take (i := 6) (oi := { dst := some 27, op := .move (.tmp 33), type := _, pos := _, after := _, guard := _ }) (v := ?_) rfl (by kernel_rfl) (by kernel_rfl) (by kernel_rfl) (fun _ _ _ h => h) (Or.inl ⟨by rfl, ?_⟩) hH ?_
            rotate_left
            · intro w hSw
              clear hSw
              go_simp
              try with_reducible rfl
            simp only [Act.put, List.setIfInBounds_toArray, List.set_cons_zero, List.set_cons_succ]
            refine wpAnyH_take (i := 7) (oi := { dst := some 34, op := .extract (.tmp 27) 0, type := _, pos := _, after := _, guard := _ }) (v := ?_) rfl (by kernel_rfl) (by kernel_rfl) (by kernel_rfl) (fun _ _ _ h => h) (Or.inl ⟨by rfl, ?_⟩) hH ?_
            rotate_left
            · intro w hSw
              clear hSw
              go_simp
              try with_reducible rfl
            simp only [Act.put, List.setIfInBounds_toArray, List.set_cons_zero, List.set_cons_succ]
            refine wpAnyH_take (i := 8) (oi := { dst := some 35, op := .extract (.tmp 27) 1, type := _, pos := _, after := _, guard := _ }) (v := ?_) rfl (by kernel_rfl) (by kernel_rfl) (by kernel_rfl) (fun _ _ _ h => h) (Or.inl ⟨by rfl, ?_⟩) hH ?_
            rotate_left
            · intro w hSw
              clear hSw
              go_simp
              try with_reducible rfl
            simp only [Act.put, List.setIfInBounds_toArray, List.set_cons_zero, List.set_cons_succ]
            refine wpAnyH_ready (rs := [11]) (by kernel_rfl) (by simp) ?_
            refine AllReadyH.cons (o := { dst := none, op := .store _ (.tmp 10) (.tmp 34), type := _, pos := _, after := _, guard := _ }) rfl (fun K hK => ?_) AllReadyH.nil
            rw [if_pos (by rfl)]
            refine wp_store_mid _ _ _ rfl u1922q.heap.size _ u.all.toArray rfl rfl (h2117q.out.thereOf u) (HZ.out u) (u.all_all) ?_
            simp only [Act.put]
            have h2119q : Hid (Gd n w (u2114q.setCells u1922q.heap.size 0 u.all)) := h2115q.out.asideAll (by omega) u
            have h2120q : Hid (TAt (u2114q.setCells u1922q.heap.size 0 u.all) u1593q.heap.size t) := h2116q.out.asideAll (by omega) u
            have h2121q : Hid (TAt (u2114q.setCells u1922q.heap.size 0 u.all) u1922q.heap.size u) := h2117q.out.setAll u
            have h2122q : Hid (Bo (u2114q.setCells u1922q.heap.size 0 u.all) u2082q.heap.size [.int .i64 0, .int .i64 0]) := h2118q.out.asideAll (by omega) u
            clear h2115q h2116q h2117q h2118q
            refine hK.out _ _ h2120q.out (fun hH => ?_)
            clear hK K
            generalize (u2114q.setCells u1922q.heap.size 0 u.all) = u2123q at h2119q h2120q h2121q h2122q hH ⊢
            try simp only [Act.put, List.setIfInBounds_toArray, List.set_cons_zero, List.set_cons_succ]
            refine wpAnyH_ready (rs := [12]) (by kernel_rfl) (by simp) ?_
            refine AllReadyH.cons (o := { dst := none, op := .store _ (.tmp 11) (.tmp 35), type := _, pos := _, after := _, guard := _ }) rfl (fun K hK => ?_) AllReadyH.nil
            rw [if_pos (by rfl)]
            refine wp_store_mid _ _ _ rfl u2082q.heap.size _ #[.int .i64 (1), .int .i64 (0)] rfl rfl h2122q.out.there2 HA.out (two_one _ _) ?_
            simp only [Act.put]
            have h2124q : Hid (Gd n w (u2123q.setCells u2082q.heap.size 0 [.int .i64 (1), .int .i64 (0)])) := h2119q.out.asideL (by omega) 0 [.int .i64 (1), .int .i64 (0)]
            have h2125q : Hid (TAt (u2123q.setCells u2082q.heap.size 0 [.int .i64 (1), .int .i64 (0)]) u1593q.heap.size t) := h2120q.out.asideL (by omega) 0 [.int .i64 (1), .int .i64 (0)]
            have h2126q : Hid (TAt (u2123q.setCells u2082q.heap.size 0 [.int .i64 (1), .int .i64 (0)]) u1922q.heap.size u) := h2121q.out.asideL (by omega) 0 [.int .i64 (1), .int .i64 (0)]
            have h2127q : Hid (Bo (u2123q.setCells u2082q.heap.size 0 [.int .i64 (1), .int .i64 (0)]) u2082q.heap.size [.int .i64 (1), .int .i64 (0)]) := h2122q.out.set2 (.int .i64 (1)) (.int .i64 (0))
            clear h2119q h2120q h2121q h2122q
            refine hK.out _ _ h2125q.out (fun hH => ?_)
            clear hK K
            generalize (u2123q.setCells u2082q.heap.size 0 [.int .i64 (1), .int .i64 (0)]) = u2128q at h2124q h2125q h2126q h2127q hH ⊢
            try simp only [Act.put, List.setIfInBounds_toArray, List.set_cons_zero, List.set_cons_succ]
            refine wpAnyH_done (by kernel_rfl) ?_ _
            go_wp2_with fail
            go_meet
            case rel => exact ⟨u1922q.heap.size, u2082q.heap.size, rfl, rfl, h2124q, h2125q, h2126q, h2127q, (by omega)⟩
          refine AllReadyH.cons (o := { dst := some 11, op := .alloc _, type := _, pos := _, after := _, guard := _ }) rfl (fun K hK => ?_) AllReadyH.nil
          have l2129q : n ≤ u2082q.heap.size := h2079q.out.le
          have l2130q : u1593q.heap.size < u2082q.heap.size := h2080q.out.lt
          have l2131q : u1922q.heap.size < u2082q.heap.size := h2081q.out.lt
          go_simp
          have h2132q : Hid (Gd n w (u2082q.alloc (.cells #[.int .i64 0, .int .i64 0] 31))) := h2079q.out.new (.cells #[.int .i64 0, .int .i64 0] 31)
          have h2133q : Hid (TAt (u2082q.alloc (.cells #[.int .i64 0, .int .i64 0] 31)) u1593q.heap.size t) := h2080q.out.new (.cells #[.int .i64 0, .int .i64 0] 31)
          have h2134q : Hid (TAt (u2082q.alloc (.cells #[.int .i64 0, .int .i64 0] 31)) u1922q.heap.size Tb.zero) := h2081q.out.new (.cells #[.int .i64 0, .int .i64 0] 31)
          clear h2079q h2080q h2081q
          have h2135q : Hid (Bo (u2082q.alloc (.cells #[.int .i64 0, .int .i64 0] 31)) u2082q.heap.size [.int .i64 0, .int .i64 0]) := Bo.born u2082q [.int .i64 0, .int .i64 0] 31 (by simp)
          refine hK.out _ _ h2133q.out (fun hH => ?_)
          clear hK K
          generalize (u2082q.alloc (.cells #[.int .i64 0, .int .i64 0] 31)) = u2136q at h2132q h2133q h2134q h2135q hH ⊢
          try simp only [Act.put, List.setIfInBounds_toArray, List.set_cons_zero, List.set_cons_succ]
          refine wpAnyH_ready (rs := [3]) (by kernel_rfl) (by simp) ?_
          refine AllReadyH.cons (o := { dst := some 31, op := _, type := _, pos := _, after := _, guard := _ }) rfl (fun K hK => ?_) AllReadyH.nil
          go_simp
          refine (Pr2.out _).mono ?_
          rintro e u2137q ⟨rfl, hw⟩
          rw [hw]; clear hw u2137q
          go_wp2_with fail
          refine hK.out _ _ h2133q.out (fun hH => ?_)
          clear hK K
          try simp only [Act.put, List.setIfInBounds_toArray, List.set_cons_zero, List.set_cons_succ]
          refine wpAnyH_take (i := 4) (oi := { dst := some 32, op := .build _ #[(0, .const (.int .i64 1)), (1, .tmp 29), (2, .tmp 31)], type := _, pos := _, after := _, guard := _ }) (v := ?_) rfl (by kernel_rfl) (by kernel_rfl) (by kernel_rfl) (fun _ _ _ h => h) (Or.inl ⟨by rfl, ?_⟩) hH ?_
          rotate_left
          · intro w hSw
            clear hSw
            go_simp
            try with_reducible rfl
          simp only [Act.put, List.setIfInBounds_toArray, List.set_cons_zero, List.set_cons_succ]
          refine wpAnyH_ready (rs := [5]) (by kernel_rfl) (by simp) ?_
          refine AllReadyH.cons (o := { dst := some 33, op := _, type := _, pos := _, after := _, guard := _ }) rfl (fun K hK => ?_) AllReadyH.nil
          go_simp
          refine (DO _).mono ?_
          rintro e u2138q ⟨rfl, hb⟩
          have h2139q : Hid (Gd n w u2138q) := h2132q.out.later hb
          have h2140q : Hid (TAt u2138q u1593q.heap.size t) := h2133q.out.later hb
          have h2141q : Hid (TAt u2138q u1922q.heap.size Tb.zero) := h2134q.out.later hb
          have h2142q : Hid (Bo u2138q u2082q.heap.size [.int .i64 0, .int .i64 0]) := h2135q.out.later hb
          clear h2132q h2133q h2134q h2135q
          clear hb
          go_wp2_with fail
          refine hK.out _ _ h2140q.out (fun hH => ?_)
          clear hK K
          try simp only [Act.put, List.setIfInBounds_toArray, List.set_cons_zero, List.set_cons_succ]
          refine wpAnyH_take (i := 6) (oi := { dst := some 27, op := .move (.tmp 33), type := _, pos := _, after := _, guard := _ }) (v := ?_) rfl (by kernel_rfl) (by kernel_rfl) (by kernel_rfl) (fun _ _ _ h => h) (Or.inl ⟨by rfl, ?_⟩) hH ?_
          rotate_left
          · intro w hSw
            clear hSw
            go_simp
            try with_reducible rfl
          simp only [Act.put, List.setIfInBounds_toArray, List.set_cons_zero, List.set_cons_succ]
          refine wpAnyH_take (i := 7) (oi := { dst := some 34, op := .extract (.tmp 27) 0, type := _, pos := _, after := _, guard := _ }) (v := ?_) rfl (by kernel_rfl) (by kernel_rfl) (by kernel_rfl) (fun _ _ _ h => h) (Or.inl ⟨by rfl, ?_⟩) hH ?_
          rotate_left
          · intro w hSw
            clear hSw
            go_simp
            try with_reducible rfl
          simp only [Act.put, List.setIfInBounds_toArray, List.set_cons_zero, List.set_cons_succ]
          refine wpAnyH_take (i := 8) (oi := { dst := some 35, op := .extract (.tmp 27) 1, type := _, pos := _, after := _, guard := _ }) (v := ?_) rfl (by kernel_rfl) (by kernel_rfl) (by kernel_rfl) (fun _ _ _ h => h) (Or.inl ⟨by rfl, ?_⟩) hH ?_
          rotate_left
          · intro w hSw
            clear hSw
            go_simp
            try with_reducible rfl
          simp only [Act.put, List.setIfInBounds_toArray, List.set_cons_zero, List.set_cons_succ]
          refine wpAnyH_ready (rs := [11]) (by kernel_rfl) (by simp) ?_
          refine AllReadyH.cons (o := { dst := none, op := .store _ (.tmp 10) (.tmp 34), type := _, pos := _, after := _, guard := _ }) rfl (fun K hK => ?_) AllReadyH.nil
          rw [if_pos (by rfl)]
          refine wp_store_mid _ _ _ rfl u1922q.heap.size _ u.all.toArray rfl rfl (h2141q.out.thereOf u) (HZ.out u) (u.all_all) ?_
          simp only [Act.put]
          have h2143q : Hid (Gd n w (u2138q.setCells u1922q.heap.size 0 u.all)) := h2139q.out.asideAll (by omega) u
          have h2144q : Hid (TAt (u2138q.setCells u1922q.heap.size 0 u.all) u1593q.heap.size t) := h2140q.out.asideAll (by omega) u
          have h2145q : Hid (TAt (u2138q.setCells u1922q.heap.size 0 u.all) u1922q.heap.size u) := h2141q.out.setAll u
          have h2146q : Hid (Bo (u2138q.setCells u1922q.heap.size 0 u.all) u2082q.heap.size [.int .i64 0, .int .i64 0]) := h2142q.out.asideAll (by omega) u
          clear h2139q h2140q h2141q h2142q
          refine hK.out _ _ h2144q.out (fun hH => ?_)
          clear hK K
          generalize (u2138q.setCells u1922q.heap.size 0 u.all) = u2147q at h2143q h2144q h2145q h2146q hH ⊢
          try simp only [Act.put, List.setIfInBounds_toArray, List.set_cons_zero, List.set_cons_succ]
          refine wpAnyH_ready (rs := [12]) (by kernel_rfl) (by simp) ?_
          refine AllReadyH.cons (o := { dst := none, op := .store _ (.tmp 11) (.tmp 35), type := _, pos := _, after := _, guard := _ }) rfl (fun K hK => ?_) AllReadyH.nil
          rw [if_pos (by rfl)]
          refine wp_store_mid _ _ _ rfl u2082q.heap.size _ #[.int .i64 (1), .int .i64 (0)] rfl rfl h2146q.out.there2 HA.out (two_one _ _) ?_
          simp only [Act.put]
          have h2148q : Hid (Gd n w (u2147q.setCells u2082q.heap.size 0 [.int .i64 (1), .int .i64 (0)])) := h2143q.out.asideL (by omega) 0 [.int .i64 (1), .int .i64 (0)]
          have h2149q : Hid (TAt (u2147q.setCells u2082q.heap.size 0 [.int .i64 (1), .int .i64 (0)]) u1593q.heap.size t) := h2144q.out.asideL (by omega) 0 [.int .i64 (1), .int .i64 (0)]
          have h2150q : Hid (TAt (u2147q.setCells u2082q.heap.size 0 [.int .i64 (1), .int .i64 (0)]) u1922q.heap.size u) := h2145q.out.asideL (by omega) 0 [.int .i64 (1), .int .i64 (0)]
          have h2151q : Hid (Bo (u2147q.setCells u2082q.heap.size 0 [.int .i64 (1), .int .i64 (0)]) u2082q.heap.size [.int .i64 (1), .int .i64 (0)]) := h2146q.out.set2 (.int .i64 (1)) (.int .i64 (0))
          clear h2143q h2144q h2145q h2146q
          refine hK.out _ _ h2149q.out (fun hH => ?_)
          clear hK K
          generalize (u2147q.setCells u2082q.heap.size 0 [.int .i64 (1), .int .i64 (0)]) = u2152q at h2148q h2149q h2150q h2151q hH ⊢
          try simp only [Act.put, List.setIfInBounds_toArray, List.set_cons_zero, List.set_cons_succ]
          refine wpAnyH_done (by kernel_rfl) ?_ _
          go_wp2_with fail
          go_meet
          case rel => exact ⟨u1922q.heap.size, u2082q.heap.size, rfl, rfl, h2148q, h2149q, h2150q, h2151q, (by omega)⟩
        refine AllReadyH.cons (o := { dst := some 11, op := .alloc _, type := _, pos := _, after := _, guard := _ }) rfl (fun K hK => ?_) AllReadyH.nil
        have l2153q : n ≤ u1922q.heap.size := h1920q.out.le
        have l2154q : u1593q.heap.size < u1922q.heap.size := h1921q.out.lt
        go_simp
        have h2155q : Hid (Gd n w (u1922q.alloc (.cells #[.int .i64 0, .int .i64 0] 31))) := h1920q.out.new (.cells #[.int .i64 0, .int .i64 0] 31)
        have h2156q : Hid (TAt (u1922q.alloc (.cells #[.int .i64 0, .int .i64 0] 31)) u1593q.heap.size t) := h1921q.out.new (.cells #[.int .i64 0, .int .i64 0] 31)
        clear h1920q h1921q
        have h2157q : Hid (Bo (u1922q.alloc (.cells #[.int .i64 0, .int .i64 0] 31)) u1922q.heap.size [.int .i64 0, .int .i64 0]) := Bo.born u1922q [.int .i64 0, .int .i64 0] 31 (by simp)
        refine hK.out _ _ h2156q.out (fun hH => ?_)
        clear hK K
        generalize (u1922q.alloc (.cells #[.int .i64 0, .int .i64 0] 31)) = u2158q at h2155q h2156q h2157q hH ⊢
        try simp only [Act.put, List.setIfInBounds_toArray, List.set_cons_zero, List.set_cons_succ]
        refine wpAnyH_ready (rs := [3, 9]) (by kernel_rfl) (by simp) ?_
        refine AllReadyH.cons (o := { dst := some 31, op := _, type := _, pos := _, after := _, guard := _ }) rfl (fun K hK => ?_) ?_
        · go_simp
          refine (Pr2.out _).mono ?_
          rintro e u2159q ⟨rfl, hw⟩
          rw [hw]; clear hw u2159q
          go_wp2_with fail
          refine hK.out _ _ h2156q.out (fun hH => ?_)
          clear hK K
          try simp only [Act.put, List.setIfInBounds_toArray, List.set_cons_zero, List.set_cons_succ]
          refine wpAnyH_take (i := 4) (oi := { dst := some 32, op := .build _ #[(0, .const (.int .i64 1)), (1, .tmp 29), (2, .tmp 31)], type := _, pos := _, after := _, guard := _ }) (v := ?_) rfl (by kernel_rfl) (by kernel_rfl) (by kernel_rfl) (fun _ _ _ h => h) (Or.inl ⟨by rfl, ?_⟩) hH ?_
          rotate_left
          · intro w hSw
            clear hSw
            go_simp
            try with_reducible rfl
          simp only [Act.put, List.setIfInBounds_toArray, List.set_cons_zero, List.set_cons_succ]
          refine wpAnyH_ready (rs := [5, 9]) (by kernel_rfl) (by simp) ?_
          refine AllReadyH.cons (o := { dst := some 33, op := _, type := _, pos := _, after := _, guard := _ }) rfl (fun K hK => ?_) ?_
          · go_simp
            refine (DO _).mono ?_
            rintro e u2160q ⟨rfl, hb⟩
            have h2161q : Hid (Gd n w u2160q) := h2155q.out.later hb
            have h2162q : Hid (TAt u2160q u1593q.heap.size t) := h2156q.out.later hb
            have h2163q : Hid (Bo u2160q u1922q.heap.size [.int .i64 0, .int .i64 0]) := h2157q.out.later hb
            clear h2155q h2156q h2157q
            clear hb
            go_wp2_with fail
            refine hK.out _ _ h2162q.out (fun hH => ?_)
            clear hK K
            try simp only [Act.put, List.setIfInBounds_toArray, List.set_cons_zero, List.set_cons_succ]
            refine wpAnyH_take (i := 6) (oi := { dst := some 27, op := .move (.tmp 33), type := _, pos := _, after := _, guard := _ }) (v := ?_) rfl (by kernel_rfl) (by kernel_rfl) (by kernel_rfl) (fun _ _ _ h => h) (Or.inl ⟨by rfl, ?_⟩) hH ?_
            rotate_left
            · intro w hSw
              clear hSw
              go_simp
              try with_reducible rfl
            simp only [Act.put, List.setIfInBounds_toArray, List.set_cons_zero, List.set_cons_succ]
            refine wpAnyH_take (i := 7) (oi := { dst := some 34, op := .extract (.tmp 27) 0, type := _, pos := _, after := _, guard := _ }) (v := ?_) rfl (by kernel_rfl) (by kernel_rfl) (by kernel_rfl) (fun _ _ _ h => h) (Or.inl ⟨by rfl, ?_⟩) hH ?_
            rotate_left
            · intro w hSw
              clear hSw
              go_simp
              try with_reducible rfl
            simp only [Act.put, List.setIfInBounds_toArray, List.set_cons_zero, List.set_cons_succ]
            refine wpAnyH_take (i := 8) (oi := { dst := some 35, op := .extract (.tmp 27) 1, type := _, pos := _, after := _, guard := _ }) (v := ?_) rfl (by kernel_rfl) (by kernel_rfl) (by kernel_rfl) (fun _ _ _ h => h) (Or.inl ⟨by rfl, ?_⟩) hH ?_
            rotate_left
            · intro w hSw
              clear hSw
              go_simp
              try with_reducible rfl
            simp only [Act.put, List.setIfInBounds_toArray, List.set_cons_zero, List.set_cons_succ]
            refine wpAnyH_ready (rs := [9]) (by kernel_rfl) (by simp) ?_
            refine AllReadyH.cons (o := { dst := some 10, op := .alloc _, type := _, pos := _, after := _, guard := _ }) rfl (fun K hK => ?_) AllReadyH.nil
            have l2164q : n ≤ u2160q.heap.size := h2161q.out.le
            have l2165q : u1593q.heap.size < u2160q.heap.size := h2162q.out.lt
            have l2166q : u1922q.heap.size < u2160q.heap.size := h2163q.out.lt
            go_simp
            have h2167q : Hid (Gd n w (u2160q.alloc (.cells #[.int .i64 0, .int .i64 0, .int .i64 0, .int .i64 0, .int .i64 0, .int .i64 0, .int .i64 0, .int .i64 0, .int .i64 0, .int .i64 0, .int .i64 0, .int .i64 0, .int .i64 0, .int .i64 0, .int .i64 0, .int .i64 0] 27))) := h2161q.out.new (.cells #[.int .i64 0, .int .i64 0, .int .i64 0, .int .i64 0, .int .i64 0, .int .i64 0, .int .i64 0, .int .i64 0, .int .i64 0, .int .i64 0, .int .i64 0, .int .i64 0, .int .i64 0, .int .i64 0, .int .i64 0, .int .i64 0] 27)
            have h2168q : Hid (TAt (u2160q.alloc (.cells #[.int .i64 0, .int .i64 0, .int .i64 0, .int .i64 0, .int .i64 0, .int .i64 0, .int .i64 0, .int .i64 0, .int .i64 0, .int .i64 0, .int .i64 0, .int .i64 0, .int .i64 0, .int .i64 0, .int .i64 0, .int .i64 0] 27)) u1593q.heap.size t) := h2162q.out.new (.cells #[.int .i64 0, .int .i64 0, .int .i64 0, .int .i64 0, .int .i64 0, .int .i64 0, .int .i64 0, .int .i64 0, .int .i64 0, .int .i64 0, .int .i64 0, .int .i64 0, .int .i64 0, .int .i64 0, .int .i64 0, .int .i64 0] 27)
            have h2169q : Hid (Bo (u2160q.alloc (.cells #[.int .i64 0, .int .i64 0, .int .i64 0, .int .i64 0, .int .i64 0, .int .i64 0, .int .i64 0, .int .i64 0, .int .i64 0, .int .i64 0, .int .i64 0, .int .i64 0, .int .i64 0, .int .i64 0, .int .i64 0, .int .i64 0] 27)) u1922q.heap.size [.int .i64 0, .int .i64 0]) := h2163q.out.new (.cells #[.int .i64 0, .int .i64 0, .int .i64 0, .int .i64 0, .int .i64 0, .int .i64 0, .int .i64 0, .int .i64 0, .int .i64 0, .int .i64 0, .int .i64 0, .int .i64 0, .int .i64 0, .int .i64 0, .int .i64 0, .int .i64 0] 27)
            clear h2161q h2162q h2163q
            have h2170q : Hid (TAt (u2160q.alloc (.cells #[.int .i64 0, .int .i64 0, .int .i64 0, .int .i64 0, .int .i64 0, .int .i64 0, .int .i64 0, .int .i64 0, .int .i64 0, .int .i64 0, .int .i64 0, .int .i64 0, .int .i64 0, .int .i64 0, .int .i64 0, .int .i64 0] 27)) u2160q.heap.size Tb.zero) := TAt.bornZero u2160q 27 (by simp)
            refine hK.out _ _ h2168q.out (fun hH => ?_)
            clear hK K
            generalize (u2160q.alloc (.cells #[.int .i64 0, .int .i64 0, .int .i64 0, .int .i64 0, .int .i64 0, .int .i64 0, .int .i64 0, .int .i64 0, .int .i64 0, .int .i64 0, .int .i64 0, .int .i64 0, .int .i64 0, .int .i64 0, .int .i64 0, .int .i64 0] 27)) = u2171q at h2167q h2168q h2169q h2170q hH ⊢
            try simp only [Act.put, List.setIfInBounds_toArray, List.set_cons_zero, List.set_cons_succ]
            refine wpAnyH_ready (rs := [11]) (by kernel_rfl) (by simp) ?_
            refine AllReadyH.cons (o := { dst := none, op := .store _ (.tmp 10) (.tmp 34), type := _, pos := _, after := _, guard := _ }) rfl (fun K hK => ?_) AllReadyH.nil
            rw [if_pos (by rfl)]
            refine wp_store_mid _ _ _ rfl u2160q.heap.size _ u.all.toArray rfl rfl (h2170q.out.thereOf u) (HZ.out u) (u.all_all) ?_
            simp only [Act.put]
            have h2172q : Hid (Gd n w (u2171q.setCells u2160q.heap.size 0 u.all)) := h2167q.out.asideAll (by omega) u
            have h2173q : Hid (TAt (u2171q.setCells u2160q.heap.size 0 u.all) u1593q.heap.size t) := h2168q.out.asideAll (by omega) u
            have h2174q : Hid (Bo (u2171q.setCells u2160q.heap.size 0 u.all) u1922q.heap.size [.int .i64 0, .int .i64 0]) := h2169q.out.asideAll (by omega) u
            have h2175q : Hid (TAt (u2171q.setCells u2160q.heap.size 0 u.all) u2160q.heap.size u) := h2170q.out.setAll u
            clear h2167q h2168q h2169q h2170q
            refine hK.out _ _ h2173q.out (fun hH => ?_)
            clear hK K
            generalize (u2171q.setCells u2160q.heap.size 0 u.all) = u2176q at h2172q h2173q h2174q h2175q hH ⊢
            try simp only [Act.put, List.setIfInBounds_toArray, List.set_cons_zero, List.set_cons_succ]
            refine wpAnyH_ready (rs := [12]) (by kernel_rfl) (by simp) ?_
            refine AllReadyH.cons (o := { dst := none, op := .store _ (.tmp 11) (.tmp 35), type := _, pos := _, after := _, guard := _ }) rfl (fun K hK => ?_) AllReadyH.nil
            rw [if_pos (by rfl)]
            refine wp_store_mid _ _ _ rfl u1922q.heap.size _ #[.int .i64 (1), .int .i64 (0)] rfl rfl h2174q.out.there2 HA.out (two_one _ _) ?_
            simp only [Act.put]
            have h2177q : Hid (Gd n w (u2176q.setCells u1922q.heap.size 0 [.int .i64 (1), .int .i64 (0)])) := h2172q.out.asideL (by omega) 0 [.int .i64 (1), .int .i64 (0)]
            have h2178q : Hid (TAt (u2176q.setCells u1922q.heap.size 0 [.int .i64 (1), .int .i64 (0)]) u1593q.heap.size t) := h2173q.out.asideL (by omega) 0 [.int .i64 (1), .int .i64 (0)]
            have h2179q : Hid (Bo (u2176q.setCells u1922q.heap.size 0 [.int .i64 (1), .int .i64 (0)]) u1922q.heap.size [.int .i64 (1), .int .i64 (0)]) := h2174q.out.set2 (.int .i64 (1)) (.int .i64 (0))
            have h2180q : Hid (TAt (u2176q.setCells u1922q.heap.size 0 [.int .i64 (1), .int .i64 (0)]) u2160q.heap.size u) := h2175q.out.asideL (by omega) 0 [.int .i64 (1), .int .i64 (0)]
            clear h2172q h2173q h2174q h2175q
            refine hK.out _ _ h2178q.out (fun hH => ?_)
            clear hK K
            generalize (u2176q.setCells u1922q.heap.size 0 [.int .i64 (1), .int .i64 (0)]) = u2181q at h2177q h2178q h2179q h2180q hH ⊢
            try simp only [Act.put, List.setIfInBounds_toArray, List.set_cons_zero, List.set_cons_succ]
            refine wpAnyH_done (by kernel_rfl) ?_ _
            go_wp2_with fail
            go_meet
            case rel => exact ⟨u2160q.heap.size, u1922q.heap.size, rfl, rfl, h2177q, h2178q, h2180q, h2179q, (by omega)⟩
          refine AllReadyH.cons (o := { dst := some 10, op := .alloc _, type := _, pos := _, after := _, guard := _ }) rfl (fun K hK => ?_) AllReadyH.nil
          have l2182q : n ≤ u2158q.heap.size := h2155q.out.le
          have l2183q : u1593q.heap.size < u2158q.heap.size := h2156q.out.lt
          have l2184q : u1922q.heap.size < u2158q.heap.size := h2157q.out.lt
          go_simp
          have h2185q : Hid (Gd n w (u2158q.alloc (.cells #[.int .i64 0, .int .i64 0, .int .i64 0, .int .i64 0, .int .i64 0, .int .i64 0, .int .i64 0, .int .i64 0, .int .i64 0, .int .i64 0, .int .i64 0, .int .i64 0, .int .i64 0, .int .i64 0, .int .i64 0, .int .i64 0] 27))) := h2155q.out.new (.cells #[.int .i64 0, .int .i64 0, .int .i64 0, .int .i64 0, .int .i64 0, .int .i64 0, .int .i64 0, .int .i64 0, .int .i64 0, .int .i64 0, .int .i64 0, .int .i64 0, .int .i64 0, .int .i64 0, .int .i64 0, .int .i64 0] 27)
          have h2186q : Hid (TAt (u2158q.alloc (.cells #[.int .i64 0, .int .i64 0, .int .i64 0, .int .i64 0, .int .i64 0, .int .i64 0, .int .i64 0, .int .i64 0, .int .i64 0, .int .i64 0, .int .i64 0, .int .i64 0, .int .i64 0, .int .i64 0, .int .i64 0, .int .i64 0] 27)) u1593q.heap.size t) := h2156q.out.new (.cells #[.int .i64 0, .int .i64 0, .int .i64 0, .int .i64 0, .int .i64 0, .int .i64 0, .int .i64 0, .int .i64 0, .int .i64 0, .int .i64 0, .int .i64 0, .int .i64 0, .int .i64 0, .int .i64 0, .int .i64 0, .int .i64 0] 27)
          have h2187q : Hid (Bo (u2158q.alloc (.cells #[.int .i64 0, .int .i64 0, .int .i64 0, .int .i64 0, .int .i64 0, .int .i64 0, .int .i64 0, .int .i64 0, .int .i64 0, .int .i64 0, .int .i64 0, .int .i64 0, .int .i64 0, .int .i64 0, .int .i64 0, .int .i64 0] 27)) u1922q.heap.size [.int .i64 0, .int .i64 0]) := h2157q.out.new (.cells #[.int .i64 0, .int .i64 0, .int .i64 0, .int .i64 0, .int .i64 0, .int .i64 0, .int .i64 0, .int .i64 0, .int .i64 0, .int .i64 0, .int .i64 0, .int .i64 0, .int .i64 0, .int .i64 0, .int .i64 0, .int .i64 0] 27)
          clear h2155q h2156q h2157q
          have h2188q : Hid (TAt (u2158q.alloc (.cells #[.int .i64 0, .int .i64 0, .int .i64 0, .int .i64 0, .int .i64 0, .int .i64 0, .int .i64 0, .int .i64 0, .int .i64 0, .int .i64 0, .int .i64 0, .int .i64 0, .int .i64 0, .int .i64 0, .int .i64 0, .int .i64 0] 27)) u2158q.heap.size Tb.zero) := TAt.bornZero u2158q 27 (by simp)
          refine hK.out _ _ h2186q.out (fun hH => ?_)
          clear hK K
          generalize (u2158q.alloc (.cells #[.int .i64 0, .int .i64 0, .int .i64 0, .int .i64 0, .int .i64 0, .int .i64 0, .int .i64 0, .int .i64 0, .int .i64 0, .int .i64 0, .int .i64 0, .int .i64 0, .int .i64 0, .int .i64 0, .int .i64 0, .int .i64 0] 27)) = u2189q at h2185q h2186q h2187q h2188q hH ⊢
          try simp only [Act.put, List.setIfInBounds_toArray, List.set_cons_zero, List.set_cons_succ]
          refine wpAnyH_ready (rs := [5]) (by kernel_rfl) (by simp) ?_
          refine AllReadyH.cons (o := { dst := some 33, op := _, type := _, pos := _, after := _, guard := _ }) rfl (fun K hK => ?_) AllReadyH.nil
          go_simp
          refine (DO _).mono ?_
          rintro e u2190q ⟨rfl, hb⟩
          have h2191q : Hid (Gd n w u2190q) := h2185q.out.later hb
          have h2192q : Hid (TAt u2190q u1593q.heap.size t) := h2186q.out.later hb
          have h2193q : Hid (Bo u2190q u1922q.heap.size [.int .i64 0, .int .i64 0]) := h2187q.out.later hb
          have h2194q : Hid (TAt u2190q u2158q.heap.size Tb.zero) := h2188q.out.later hb
          clear h2185q h2186q h2187q h2188q
          clear hb
          go_wp2_with fail
          refine hK.out _ _ h2192q.out (fun hH => ?_)
          clear hK K
          try simp only [Act.put, List.setIfInBounds_toArray, List.set_cons_zero, List.set_cons_succ]
          refine wpAnyH_take (i := 6) (oi := { dst := some 27, op := .move (.tmp 33), type := _, pos := _, after := _, guard := _ }) (v := ?_) rfl (by kernel_rfl) (by kernel_rfl) (by kernel_rfl) (fun _ _ _ h => h) (Or.inl ⟨by rfl, ?_⟩) hH ?_
          rotate_left
          · intro w hSw
            clear hSw
            go_simp
            try with_reducible rfl
          simp only [Act.put, List.setIfInBounds_toArray, List.set_cons_zero, List.set_cons_succ]
          refine wpAnyH_take (i := 7) (oi := { dst := some 34, op := .extract (.tmp 27) 0, type := _, pos := _, after := _, guard := _ }) (v := ?_) rfl (by kernel_rfl) (by kernel_rfl) (by kernel_rfl) (fun _ _ _ h => h) (Or.inl ⟨by rfl, ?_⟩) hH ?_
          rotate_left
          · intro w hSw
            clear hSw
            go_simp
            try with_reducible rfl
          simp only [Act.put, List.setIfInBounds_toArray, List.set_cons_zero, List.set_cons_succ]
          refine wpAnyH_take (i := 8) (oi := { dst := some 35, op := .extract (.tmp 27) 1, type := _, pos := _, after := _, guard := _ }) (v := ?_) rfl (by kernel_rfl) (by kernel_rfl) (by kernel_rfl) (fun _ _ _ h => h) (Or.inl ⟨by rfl, ?_⟩) hH ?_
          rotate_left
          · intro w hSw
            clear hSw
            go_simp
            try with_reducible rfl
          simp only [Act.put, List.setIfInBounds_toArray, List.set_cons_zero, List.set_cons_succ]
          refine wpAnyH_ready (rs := [11]) (by kernel_rfl) (by simp) ?_
          refine AllReadyH.cons (o := { dst := none, op := .store _ (.tmp 10) (.tmp 34), type := _, pos := _, after := _, guard := _ }) rfl (fun K hK => ?_) AllReadyH.nil
          rw [if_pos (by rfl)]
          refine wp_store_mid _ _ _ rfl u2158q.heap.size _ u.all.toArray rfl rfl (h2194q.out.thereOf u) (HZ.out u) (u.all_all) ?_
          simp only [Act.put]
          have h2195q : Hid (Gd n w (u2190q.setCells u2158q.heap.size 0 u.all)) := h2191q.out.asideAll (by omega) u
          have h2196q : Hid (TAt (u2190q.setCells u2158q.heap.size 0 u.all) u1593q.heap.size t) := h2192q.out.asideAll (by omega) u
          have h2197q : Hid (Bo (u2190q.setCells u2158q.heap.size 0 u.all) u1922q.heap.size [.int .i64 0, .int .i64 0]) := h2193q.out.asideAll (by omega) u
          have h2198q : Hid (TAt (u2190q.setCells u2158q.heap.size 0 u.all) u2158q.heap.size u) := h2194q.out.setAll u
          clear h2191q h2192q h2193q h2194q
          refine hK.out _ _ h2196q.out (fun hH => ?_)
          clear hK K
          generalize (u2190q.setCells u2158q.heap.size 0 u.all) = u2199q at h2195q h2196q h2197q h2198q hH ⊢
          try simp only [Act.put, List.setIfInBounds_toArray, List.set_cons_zero, List.set_cons_succ]
          refine wpAnyH_ready (rs := [12]) (by kernel_rfl) (by simp) ?_
          refine AllReadyH.cons (o := { dst := none, op := .store _ (.tmp 11) (.tmp 35), type := _, pos := _, after := _, guard := _ }) rfl (fun K hK => ?_) AllReadyH.nil
          rw [if_pos (by rfl)]
          refine wp_store_mid _ _ _ rfl u1922q.heap.size _ #[.int .i64 (1), .int .i64 (0)] rfl rfl h2197q.out.there2 HA.out (two_one _ _) ?_
          simp only [Act.put]
          have h2200q : Hid (Gd n w (u2199q.setCells u1922q.heap.size 0 [.int .i64 (1), .int .i64 (0)])) := h2195q.out.asideL (by omega) 0 [.int .i64 (1), .int .i64 (0)]
          have h2201q : Hid (TAt (u2199q.setCells u1922q.heap.size 0 [.int .i64 (1), .int .i64 (0)]) u1593q.heap.size t) := h2196q.out.asideL (by omega) 0 [.int .i64 (1), .int .i64 (0)]
          have h2202q : Hid (Bo (u2199q.setCells u1922q.heap.size 0 [.int .i64 (1), .int .i64 (0)]) u1922q.heap.size [.int .i64 (1), .int .i64 (0)]) := h2197q.out.set2 (.int .i64 (1)) (.int .i64 (0))
          have h2203q : Hid (TAt (u2199q.setCells u1922q.heap.size 0 [.int .i64 (1), .int .i64 (0)]) u2158q.heap.size u) := h2198q.out.asideL (by omega) 0 [.int .i64 (1), .int .i64 (0)]
          clear h2195q h2196q h2197q h2198q
          refine hK.out _ _ h2201q.out (fun hH => ?_)
          clear hK K
          generalize (u2199q.setCells u1922q.heap.size 0 [.int .i64 (1), .int .i64 (0)]) = u2204q at h2200q h2201q h2202q h2203q hH ⊢
          try simp only [Act.put, List.setIfInBounds_toArray, List.set_cons_zero, List.set_cons_succ]
          refine wpAnyH_done (by kernel_rfl) ?_ _
          go_wp2_with fail
          go_meet
          case rel => exact ⟨u2158q.heap.size, u1922q.heap.size, rfl, rfl, h2200q, h2201q, h2203q, h2202q, (by omega)⟩
        refine AllReadyH.cons (o := { dst := some 10, op := .alloc _, type := _, pos := _, after := _, guard := _ }) rfl (fun K hK => ?_) AllReadyH.nil
        have l2205q : n ≤ u2158q.heap.size := h2155q.out.le
        have l2206q : u1593q.heap.size < u2158q.heap.size := h2156q.out.lt
        have l2207q : u1922q.heap.size < u2158q.heap.size := h2157q.out.lt
        go_simp
        have h2208q : Hid (Gd n w (u2158q.alloc (.cells #[.int .i64 0, .int .i64 0, .int .i64 0, .int .i64 0, .int .i64 0, .int .i64 0, .int .i64 0, .int .i64 0, .int .i64 0, .int .i64 0, .int .i64 0, .int .i64 0, .int .i64 0, .int .i64 0, .int .i64 0, .int .i64 0] 27))) := h2155q.out.new (.cells #[.int .i64 0, .int .i64 0, .int .i64 0, .int .i64 0, .int .i64 0, .int .i64 0, .int .i64 0, .int .i64 0, .int .i64 0, .int .i64 0, .int .i64 0, .int .i64 0, .int .i64 0, .int .i64 0, .int .i64 0, .int .i64 0] 27)
        have h2209q : Hid (TAt (u2158q.alloc (.cells #[.int .i64 0, .int .i64 0, .int .i64 0, .int .i64 0, .int .i64 0, .int .i64 0, .int .i64 0, .int .i64 0, .int .i64 0, .int .i64 0, .int .i64 0, .int .i64 0, .int .i64 0, .int .i64 0, .int .i64 0, .int .i64 0] 27)) u1593q.heap.size t) := h2156q.out.new (.cells #[.int .i64 0, .int .i64 0, .int .i64 0, .int .i64 0, .int .i64 0, .int .i64 0, .int .i64 0, .int .i64 0, .int .i64 0, .int .i64 0, .int .i64 0, .int .i64 0, .int .i64 0, .int .i64 0, .int .i64 0, .int .i64 0] 27)
        have h2210q : Hid (Bo (u2158q.alloc (.cells #[.int .i64 0, .int .i64 0, .int .i64 0, .int .i64 0, .int .i64 0, .int .i64 0, .int .i64 0, .int .i64 0, .int .i64 0, .int .i64 0, .int .i64 0, .int .i64 0, .int .i64 0, .int .i64 0, .int .i64 0, .int .i64 0] 27)) u1922q.heap.size [.int .i64 0, .int .i64 0]) := h2157q.out.new (.cells #[.int .i64 0, .int .i64 0, .int .i64 0, .int .i64 0, .int .i64 0, .int .i64 0, .int .i64 0, .int .i64 0, .int .i64 0, .int .i64 0, .int .i64 0, .int .i64 0, .int .i64 0, .int .i64 0, .int .i64 0, .int .i64 0] 27)
        clear h2155q h2156q h2157q
        have h2211q : Hid (TAt (u2158q.alloc (.cells #[.int .i64 0, .int .i64 0, .int .i64 0, .int .i64 0, .int .i64 0, .int .i64 0, .int .i64 0, .int .i64 0, .int .i64 0, .int .i64 0, .int .i64 0, .int .i64 0, .int .i64 0, .int .i64 0, .int .i64 0, .int .i64 0] 27)) u2158q.heap.size Tb.zero) := TAt.bornZero u2158q 27 (by simp)
        refine hK.out _ _ h2209q.out (fun hH => ?_)
        clear hK K
        generalize (u2158q.alloc (.cells #[.int .i64 0, .int .i64 0, .int .i64 0, .int .i64 0, .int .i64 0, .int .i64 0, .int .i64 0, .int .i64 0, .int .i64 0, .int .i64 0, .int .i64 0, .int .i64 0, .int .i64 0, .int .i64 0, .int .i64 0, .int .i64 0] 27)) = u2212q at h2208q h2209q h2210q h2211q hH ⊢
        try simp only [Act.put, List.setIfInBounds_toArray, List.set_cons_zero, List.set_cons_succ]
        refine wpAnyH_ready (rs := [3]) (by kernel_rfl) (by simp) ?_
        refine AllReadyH.cons (o := { dst := some 31, op := _, type := _, pos := _, after := _, guard := _ }) rfl (fun K hK => ?_) AllReadyH.nil
        go_simp
        refine (Pr2.out _).mono ?_
        rintro e u2213q ⟨rfl, hw⟩
        rw [hw]; clear hw u2213q
        go_wp2_with fail
        refine hK.out _ _ h2209q.out (fun hH => ?_)
        clear hK K
        try simp only [Act.put, List.setIfInBounds_toArray, List.set_cons_zero, List.set_cons_succ]
        refine wpAnyH_take (i := 4) (oi := { dst := some 32, op := .build _ #[(0, .const (.int .i64 1)), (1, .tmp 29), (2, .tmp 31)], type := _, pos := _, after := _, guard := _ }) (v := ?_) rfl (by kernel_rfl) (by kernel_rfl) (by kernel_rfl) (fun _ _ _ h => h) (Or.inl ⟨by rfl, ?_⟩) hH ?_
        rotate_left
        · intro w hSw
          clear hSw
          go_simp
          try with_reducible rfl
        simp only [Act.put, List.setIfInBounds_toArray, List.set_cons_zero, List.set_cons_succ]
        refine wpAnyH_ready (rs := [5]) (by kernel_rfl) (by simp) ?_
        refine AllReadyH.cons (o := { dst := some 33, op := _, type := _, pos := _, after := _, guard := _ }) rfl (fun K hK => ?_) AllReadyH.nil
        go_simp
        refine (DO _).mono ?_
        rintro e u2214q ⟨rfl, hb⟩
        have h2215q : Hid (Gd n w u2214q) := h2208q.out.later hb
        have h2216q : Hid (TAt u2214q u1593q.heap.size t) := h2209q.out.later hb
        have h2217q : Hid (Bo u2214q u1922q.heap.size [.int .i64 0, .int .i64 0]) := h2210q.out.later hb
        have h2218q : Hid (TAt u2214q u2158q.heap.size Tb.zero) := h2211q.out.later hb
        clear h2208q h2209q h2210q h2211q
        clear hb
        go_wp2_with fail
        refine hK.out _ _ h2216q.out (fun hH => ?_)
        clear hK K
        try simp only [Act.put, List.setIfInBounds_toArray, List.set_cons_zero, List.set_cons_succ]
        refine wpAnyH_take (i := 6) (oi := { dst := some 27, op := .move (.tmp 33), type := _, pos := _, after := _, guard := _ }) (v := ?_) rfl (by kernel_rfl) (by kernel_rfl) (by kernel_rfl) (fun _ _ _ h => h) (Or.inl ⟨by rfl, ?_⟩) hH ?_
        rotate_left
        · intro w hSw
          clear hSw
          go_simp
          try with_reducible rfl
        simp only [Act.put, List.setIfInBounds_toArray, List.set_cons_zero, List.set_cons_succ]
        refine wpAnyH_take (i := 7) (oi := { dst := some 34, op := .extract (.tmp 27) 0, type := _, pos := _, after := _, guard := _ }) (v := ?_) rfl (by kernel_rfl) (by kernel_rfl) (by kernel_rfl) (fun _ _ _ h => h) (Or.inl ⟨by rfl, ?_⟩) hH ?_
        rotate_left
        · intro w hSw
          clear hSw
          go_simp
          try with_reducible rfl
        simp only [Act.put, List.setIfInBounds_toArray, List.set_cons_zero, List.set_cons_succ]
        refine wpAnyH_take (i := 8) (oi := { dst := some 35, op := .extract (.tmp 27) 1, type := _, pos := _, after := _, guard := _ }) (v := ?_) rfl (by kernel_rfl) (by kernel_rfl) (by kernel_rfl) (fun _ _ _ h => h) (Or.inl ⟨by rfl, ?_⟩) hH ?_
        rotate_left
        · intro w hSw
          clear hSw
          go_simp
          try with_reducible rfl
        simp only [Act.put, List.setIfInBounds_toArray, List.set_cons_zero, List.set_cons_succ]
        refine wpAnyH_ready (rs := [11]) (by kernel_rfl) (by simp) ?_
        refine AllReadyH.cons (o := { dst := none, op := .store _ (.tmp 10) (.tmp 34), type := _, pos := _, after := _, guard := _ }) rfl (fun K hK => ?_) AllReadyH.nil
        rw [if_pos (by rfl)]
        refine wp_store_mid _ _ _ rfl u2158q.heap.size _ u.all.toArray rfl rfl (h2218q.out.thereOf u) (HZ.out u) (u.all_all) ?_
        simp only [Act.put]
        have h2219q : Hid (Gd n w (u2214q.setCells u2158q.heap.size 0 u.all)) := h2215q.out.asideAll (by omega) u
        have h2220q : Hid (TAt (u2214q.setCells u2158q.heap.size 0 u.all) u1593q.heap.size t) := h2216q.out.asideAll (by omega) u
        have h2221q : Hid (Bo (u2214q.setCells u2158q.heap.size 0 u.all) u1922q.heap.size [.int .i64 0, .int .i64 0]) := h2217q.out.asideAll (by omega) u
        have h2222q : Hid (TAt (u2214q.setCells u2158q.heap.size 0 u.all) u2158q.heap.size u) := h2218q.out.setAll u
        clear h2215q h2216q h2217q h2218q
        refine hK.out _ _ h2220q.out (fun hH => ?_)
        clear hK K
        generalize (u2214q.setCells u2158q.heap.size 0 u.all) = u2223q at h2219q h2220q h2221q h2222q hH ⊢
        try simp only [Act.put, List.setIfInBounds_toArray, List.set_cons_zero, List.set_cons_succ]
        refine wpAnyH_ready (rs := [12]) (by kernel_rfl) (by simp) ?_
        refine AllReadyH.cons (o := { dst := none, op := .store _ (.tmp 11) (.tmp 35), type := _, pos := _, after := _, guard := _ }) rfl (fun K hK => ?_) AllReadyH.nil
        rw [if_pos (by rfl)]
        refine wp_store_mid _ _ _ rfl u1922q.heap.size _ #[.int .i64 (1), .int .i64 (0)] rfl rfl h2221q.out.there2 HA.out (two_one _ _) ?_
        simp only [Act.put]
        have h2224q : Hid (Gd n w (u2223q.setCells u1922q.heap.size 0 [.int .i64 (1), .int .i64 (0)])) := h2219q.out.asideL (by omega) 0 [.int .i64 (1), .int .i64 (0)]
        have h2225q : Hid (TAt (u2223q.setCells u1922q.heap.size 0 [.int .i64 (1), .int .i64 (0)]) u1593q.heap.size t) := h2220q.out.asideL (by omega) 0 [.int .i64 (1), .int .i64 (0)]
        have h2226q : Hid (Bo (u2223q.setCells u1922q.heap.size 0 [.int .i64 (1), .int .i64 (0)]) u1922q.heap.size [.int .i64 (1), .int .i64 (0)]) := h2221q.out.set2 (.int .i64 (1)) (.int .i64 (0))
        have h2227q : Hid (TAt (u2223q.setCells u1922q.heap.size 0 [.int .i64 (1), .int .i64 (0)]) u2158q.heap.size u) := h2222q.out.asideL (by omega) 0 [.int .i64 (1), .int .i64 (0)]
        clear h2219q h2220q h2221q h2222q
        refine hK.out _ _ h2225q.out (fun hH => ?_)
        clear hK K
        generalize (u2223q.setCells u1922q.heap.size 0 [.int .i64 (1), .int .i64 (0)]) = u2228q at h2224q h2225q h2226q h2227q hH ⊢
        try simp only [Act.put, List.setIfInBounds_toArray, List.set_cons_zero, List.set_cons_succ]
        refine wpAnyH_done (by kernel_rfl) ?_ _
        go_wp2_with fail
        go_meet
        case rel => exact ⟨u2158q.heap.size, u1922q.heap.size, rfl, rfl, h2224q, h2225q, h2227q, h2226q, (by omega)⟩
      case rest =>
        obtain ⟨b_u, b_a, rfl, rfl, h2229q, h2230q, h2231q, h2232q, hmore⟩ := hcut
        obtain ⟨hm1, hm2, hm3⟩ := hmore
        have c2233q := h2232q.out.at 0 rfl
        go_wp2_with (first
          | (refine wpList_load_mid rfl 27 _ rfl b_u _ rfl u.all _ h2231q.out.range HD.out rfl (HS.out u) ?_))
        refine (DO2 _).mono ?_
        rintro e u2234q ⟨rfl, hb⟩
        have h2235q : Hid (Gd n w u2234q) := h2229q.out.later hb
        have h2236q : Hid (TAt u2234q u1593q.heap.size t) := h2230q.out.later hb
        have h2237q : Hid (TAt u2234q b_u u) := h2231q.out.later hb
        have h2238q : Hid (Bo u2234q b_a [.int .i64 (1), .int .i64 (0)]) := h2232q.out.later hb
        clear h2229q h2230q h2231q h2232q
        clear hb
        clear DO2
        have l2239q : n ≤ u2234q.heap.size := h2235q.out.le
        have l2240q : u1593q.heap.size < u2234q.heap.size := h2236q.out.lt
        have l2241q : b_u < u2234q.heap.size := h2237q.out.lt
        have l2242q : b_a < u2234q.heap.size := h2238q.out.lt
        have h2243q : Hid (Gd n w (u2234q.alloc (.cells #[.int .i64 0, .int .i64 0] 31))) := h2235q.out.new (.cells #[.int .i64 0, .int .i64 0] 31)
        have h2244q : Hid (TAt (u2234q.alloc (.cells #[.int .i64 0, .int .i64 0] 31)) u1593q.heap.size t) := h2236q.out.new (.cells #[.int .i64 0, .int .i64 0] 31)
        have h2245q : Hid (TAt (u2234q.alloc (.cells #[.int .i64 0, .int .i64 0] 31)) b_u u) := h2237q.out.new (.cells #[.int .i64 0, .int .i64 0] 31)
        have h2246q : Hid (Bo (u2234q.alloc (.cells #[.int .i64 0, .int .i64 0] 31)) b_a [.int .i64 (1), .int .i64 (0)]) := h2238q.out.new (.cells #[.int .i64 0, .int .i64 0] 31)
        clear h2235q h2236q h2237q h2238q
        have h2247q : Hid (Bo (u2234q.alloc (.cells #[.int .i64 0, .int .i64 0] 31)) u2234q.heap.size [.int .i64 0, .int .i64 0]) := Bo.born u2234q [.int .i64 0, .int .i64 0] 31 (by simp)
        go_wp2_with (first
          | (refine wpList_store_mid rfl 27 _ _ rfl b_u _ u2.all.toArray rfl rfl (h2245q.out.thereOf u2) (HZ.out u2) (u2.all_all) ?_
             have h2248q : Hid (Gd n w ((u2234q.alloc (.cells #[.int .i64 0, .int .i64 0] 31)).setCells b_u 0 u2.all)) := h2243q.out.asideAll (by omega) u2
             have h2249q : Hid (TAt ((u2234q.alloc (.cells #[.int .i64 0, .int .i64 0] 31)).setCells b_u 0 u2.all) u1593q.heap.size t) := h2244q.out.asideAll (by omega) u2
             have h2250q : Hid (TAt ((u2234q.alloc (.cells #[.int .i64 0, .int .i64 0] 31)).setCells b_u 0 u2.all) b_u u2) := h2245q.out.setAll u2
             have h2251q : Hid (Bo ((u2234q.alloc (.cells #[.int .i64 0, .int .i64 0] 31)).setCells b_u 0 u2.all) b_a [.int .i64 (1), .int .i64 (0)]) := h2246q.out.asideAll (by omega) u2
             have h2252q : Hid (Bo ((u2234q.alloc (.cells #[.int .i64 0, .int .i64 0] 31)).setCells b_u 0 u2.all) u2234q.heap.size [.int .i64 0, .int .i64 0]) := h2247q.out.asideAll (by omega) u2
             clear h2243q h2244q h2245q h2246q h2247q
             generalize ((u2234q.alloc (.cells #[.int .i64 0, .int .i64 0] 31)).setCells b_u 0 u2.all) = u2253q at h2248q h2249q h2250q h2251q h2252q  ⊢)
          | (refine wpList_store_mid rfl 31 _ _ rfl u2234q.heap.size _ #[.int .i64 (1), .int .i64 (v)] rfl rfl h2252q.out.there2 HA.out (two_one _ _) ?_
             have h2254q : Hid (Gd n w (u2253q.setCells u2234q.heap.size 0 [.int .i64 (1), .int .i64 (v)])) := h2248q.out.asideL (by omega) 0 [.int .i64 (1), .int .i64 (v)]
             have h2255q : Hid (TAt (u2253q.setCells u2234q.heap.size 0 [.int .i64 (1), .int .i64 (v)]) u1593q.heap.size t) := h2249q.out.asideL (by omega) 0 [.int .i64 (1), .int .i64 (v)]
             have h2256q : Hid (TAt (u2253q.setCells u2234q.heap.size 0 [.int .i64 (1), .int .i64 (v)]) b_u u2) := h2250q.out.asideL (by omega) 0 [.int .i64 (1), .int .i64 (v)]
             have h2257q : Hid (Bo (u2253q.setCells u2234q.heap.size 0 [.int .i64 (1), .int .i64 (v)]) b_a [.int .i64 (1), .int .i64 (0)]) := h2251q.out.asideL (by omega) 0 [.int .i64 (1), .int .i64 (v)]
             have h2258q : Hid (Bo (u2253q.setCells u2234q.heap.size 0 [.int .i64 (1), .int .i64 (v)]) u2234q.heap.size [.int .i64 (1), .int .i64 (v)]) := h2252q.out.set2 (.int .i64 (1)) (.int .i64 (v))
             clear h2248q h2249q h2250q h2251q h2252q
             generalize (u2253q.setCells u2234q.heap.size 0 [.int .i64 (1), .int .i64 (v)]) = u2259q at h2254q h2255q h2256q h2257q h2258q  ⊢))
        have h2260q : Hid (Gd n w u2259q.drew) := h2254q.out.drew
        have h2261q : Hid (TAt u2259q.drew u1593q.heap.size t) := h2255q.out.drew
        have h2262q : Hid (TAt u2259q.drew b_u u2) := h2256q.out.drew
        have h2263q : Hid (Bo u2259q.drew b_a [.int .i64 (1), .int .i64 (0)]) := h2257q.out.drew
        have h2264q : Hid (Bo u2259q.drew u2234q.heap.size [.int .i64 (1), .int .i64 (v)]) := h2258q.out.drew
        clear h2254q h2255q h2256q h2257q h2258q
        refine wp_region_held_drew (S := fun w' => Bo w' u2234q.heap.size [.int .i64 (1), .int .i64 (v)] ∧ TAt w' b_u u2 ∧ TAt w' u1593q.heap.size t) (by kernel_rfl) ⟨h2264q.out, h2262q.out, h2261q.out⟩ (fun hH => ?_)
        generalize u2259q.drew = u2265q at h2260q h2261q h2262q h2263q h2264q hH ⊢
        refine wpAnyH_take (i := 0) (oi := { dst := some 54, op := .load _ (.tmp 12), type := _, pos := _, after := _, guard := _ }) (v := ?_) rfl (by kernel_rfl) (by kernel_rfl) (by kernel_rfl) (fun _ _ _ h => h) (Or.inl ⟨by rfl, ?_⟩) hH ?_
        rotate_left
        · intro w hSw
          have c2266q := (hSw.1).at 0 rfl
          have c2267q := (hSw.1).at 1 rfl
          clear hSw
          go_simp
          try with_reducible rfl
        simp only [Act.put, List.setIfInBounds_toArray, List.set_cons_zero, List.set_cons_succ]
        refine wpAnyH_take (i := 1) (oi := { dst := some 55, op := .move (.tmp 2), type := _, pos := _, after := _, guard := _ }) (v := ?_) rfl (by kernel_rfl) (by kernel_rfl) (by kernel_rfl) (fun _ _ _ h => h) (Or.inl ⟨by rfl, ?_⟩) hH ?_
        rotate_left
        · intro w hSw
          clear hSw
          go_simp
          try with_reducible rfl
        simp only [Act.put, List.setIfInBounds_toArray, List.set_cons_zero, List.set_cons_succ]
        refine wpAnyH_ready (rs := [2]) (by kernel_rfl) (by simp) ?_
        refine AllReadyH.cons (o := { dst := some 56, op := _, type := _, pos := _, after := _, guard := _ }) rfl (fun K hK => ?_) AllReadyH.nil
        go_simp
        refine (Pr2.out _).mono ?_
        rintro e u2268q ⟨rfl, hw⟩
        rw [hw]; clear hw u2268q
        go_wp2_with fail
        refine hK.out _ _ ⟨h2264q.out, h2262q.out, h2261q.out⟩ (fun hH => ?_)
        clear hK K
        try simp only [Act.put, List.setIfInBounds_toArray, List.set_cons_zero, List.set_cons_succ]
        refine wpAnyH_take (i := 3) (oi := { dst := some 57, op := .build _ #[(0, .const (.int .i64 1)), (1, .tmp 56)], type := _, pos := _, after := _, guard := _ }) (v := ?_) rfl (by kernel_rfl) (by kernel_rfl) (by kernel_rfl) (fun _ _ _ h => h) (Or.inl ⟨by rfl, ?_⟩) hH ?_
        rotate_left
        · intro w hSw
          clear hSw
          go_simp
          try with_reducible rfl
        simp only [Act.put, List.setIfInBounds_toArray, List.set_cons_zero, List.set_cons_succ]
        refine wpAnyH_take (i := 4) (oi := { dst := some 58, op := .binOp .eql _ (.tmp 54) (.tmp 57) _, type := _, pos := _, after := _, guard := _ }) (v := ?_) rfl (by kernel_rfl) (by kernel_rfl) (by kernel_rfl) (fun _ _ _ h => h) (Or.inl ⟨by rfl, ?_⟩) hH ?_
        rotate_left
        · intro w hSw
          clear hSw
          go_simp
          try with_reducible rfl
        simp only [Act.put, List.setIfInBounds_toArray, List.set_cons_zero, List.set_cons_succ]
        refine wpAnyH_take (i := 5) (oi := { dst := some 59, op := .move (.tmp 58), type := _, pos := _, after := _, guard := _ }) (v := ?_) rfl (by kernel_rfl) (by kernel_rfl) (by kernel_rfl) (fun _ _ _ h => h) (Or.inl ⟨by rfl, ?_⟩) hH ?_
        rotate_left
        · intro w hSw
          clear hSw
          go_simp
          try with_reducible rfl
        simp only [Act.put, List.setIfInBounds_toArray, List.set_cons_zero, List.set_cons_succ]
        refine wpAnyH_take (i := 6) (oi := { dst := some 60, op := .load _ (.tmp 10), type := _, pos := _, after := _, guard := _ }) (v := _) rfl (by kernel_rfl) (by kernel_rfl) (by kernel_rfl) (fun _ _ _ h => h) (yieldsIf_load_mid (by rfl) _ _ rfl b_u _ rfl u2.all _ (fun _ h => (h.2.1).range) HD.out rfl (HS.out u2)) hH ?_
        simp only [Act.put, List.setIfInBounds_toArray, List.set_cons_zero, List.set_cons_succ]
        refine wpAnyH_ready (rs := [7]) (by kernel_rfl) (by simp) ?_
        refine AllReadyH.cons (o := { dst := some 61, op := _, type := _, pos := _, after := _, guard := _ }) rfl (fun K hK => ?_) AllReadyH.nil
        go_simp
        refine (RR _).mono ?_
        rintro e u2269q ⟨rfl, hb⟩
        have h2270q : Hid (Gd n w u2269q) := h2260q.out.later hb
        have h2271q : Hid (TAt u2269q u1593q.heap.size t) := h2261q.out.later hb
        have h2272q : Hid (TAt u2269q b_u u2) := h2262q.out.later hb
        have h2273q : Hid (Bo u2269q b_a [.int .i64 (1), .int .i64 (0)]) := h2263q.out.later hb
        have h2274q : Hid (Bo u2269q u2234q.heap.size [.int .i64 (1), .int .i64 (v)]) := h2264q.out.later hb
        clear h2260q h2261q h2262q h2263q h2264q
        clear hb
        go_wp2_with fail
        refine hK.out _ _ ⟨h2274q.out, h2272q.out, h2271q.out⟩ (fun hH => ?_)
        clear hK K
        try simp only [Act.put, List.setIfInBounds_toArray, List.set_cons_zero, List.set_cons_succ]
        refine wpAnyH_take (i := 8) (oi := { dst := some 62, op := .pick (.tmp 59) (.tmp 61) (.const (.bool false)), type := _, pos := _, after := _, guard := _ }) (v := ?_) rfl (by kernel_rfl) (by kernel_rfl) (by kernel_rfl) (fun _ _ _ h => h) (Or.inl ⟨by rfl, ?_⟩) hH ?_
        rotate_left
        · intro w hSw
          clear hSw
          go_simp
          try with_reducible rfl
        simp only [Act.put, List.setIfInBounds_toArray, List.set_cons_zero, List.set_cons_succ]
        refine wpAnyH_take (i := 9) (oi := { dst := some 63, op := .move (.tmp 62), type := _, pos := _, after := _, guard := _ }) (v := ?_) rfl (by kernel_rfl) (by kernel_rfl) (by kernel_rfl) (fun _ _ _ h => h) (Or.inl ⟨by rfl, ?_⟩) hH ?_
        rotate_left
        · intro w hSw
          clear hSw
          go_simp
          try with_reducible rfl
        simp only [Act.put, List.setIfInBounds_toArray, List.set_cons_zero, List.set_cons_succ]
        refine wpAnyH_take (i := 10) (oi := { dst := some 64, op := .load _ (.tmp 10), type := _, pos := _, after := _, guard := _ }) (v := _) rfl (by kernel_rfl) (by kernel_rfl) (by kernel_rfl) (fun _ _ _ h => h) (yieldsIf_load_mid (by rfl) _ _ rfl b_u _ rfl u2.all _ (fun _ h => (h.2.1).range) HD.out rfl (HS.out u2)) hH ?_
        simp only [Act.put, List.setIfInBounds_toArray, List.set_cons_zero, List.set_cons_succ]
        refine wpAnyH_take (i := 12) (oi := { dst := some 66, op := .load _ (.tmp 9), type := _, pos := _, after := _, guard := _ }) (v := _) rfl (by kernel_rfl) (by kernel_rfl) (by kernel_rfl) (fun _ _ _ h => h) (yieldsIf_load_mid (by rfl) _ _ rfl u1593q.heap.size _ rfl t.all _ (fun _ h => (h.2.2).range) HD.out rfl (HS.out t)) hH ?_
        simp only [Act.put, List.setIfInBounds_toArray, List.set_cons_zero, List.set_cons_succ]
        refine wpAnyH_ready (rs := [11]) (by kernel_rfl) (by simp) ?_
        refine AllReadyH.cons (o := { dst := some 65, op := _, type := _, pos := _, after := _, guard := _ }) rfl (fun K hK => ?_) AllReadyH.nil
        go_simp
        refine (L1 _).mono ?_
        rintro e u2275q ⟨rfl, hb⟩
        have h2276q : Hid (Gd n w u2275q) := h2270q.out.later hb
        have h2277q : Hid (TAt u2275q u1593q.heap.size t) := h2271q.out.later hb
        have h2278q : Hid (TAt u2275q b_u u2) := h2272q.out.later hb
        have h2279q : Hid (Bo u2275q b_a [.int .i64 (1), .int .i64 (0)]) := h2273q.out.later hb
        have h2280q : Hid (Bo u2275q u2234q.heap.size [.int .i64 (1), .int .i64 (v)]) := h2274q.out.later hb
        clear h2270q h2271q h2272q h2273q h2274q
        clear hb
        go_wp2_with fail
        refine hK.out _ _ ⟨h2280q.out, h2278q.out, h2277q.out⟩ (fun hH => ?_)
        clear hK K
        try simp only [Act.put, List.setIfInBounds_toArray, List.set_cons_zero, List.set_cons_succ]
        refine wpAnyH_ready (rs := [13]) (by kernel_rfl) (by simp) ?_
        refine AllReadyH.cons (o := { dst := some 67, op := _, type := _, pos := _, after := _, guard := _ }) rfl (fun K hK => ?_) AllReadyH.nil
        go_simp
        refine (L2 _).mono ?_
        rintro e u2281q ⟨rfl, hb⟩
        have h2282q : Hid (Gd n w u2281q) := h2276q.out.later hb
        have h2283q : Hid (TAt u2281q u1593q.heap.size t) := h2277q.out.later hb
        have h2284q : Hid (TAt u2281q b_u u2) := h2278q.out.later hb
        have h2285q : Hid (Bo u2281q b_a [.int .i64 (1), .int .i64 (0)]) := h2279q.out.later hb
        have h2286q : Hid (Bo u2281q u2234q.heap.size [.int .i64 (1), .int .i64 (v)]) := h2280q.out.later hb
        clear h2276q h2277q h2278q h2279q h2280q
        clear hb
        go_wp2_with fail
        refine hK.out _ _ ⟨h2286q.out, h2284q.out, h2283q.out⟩ (fun hH => ?_)
        clear hK K
        try simp only [Act.put, List.setIfInBounds_toArray, List.set_cons_zero, List.set_cons_succ]
        refine wpAnyH_take (i := 14) (oi := { dst := some 68, op := .binOp .eql _ (.tmp 65) (.tmp 67) _, type := _, pos := _, after := _, guard := _ }) (v := ?_) rfl (by kernel_rfl) (by kernel_rfl) (by kernel_rfl) (fun _ _ _ h => h) (Or.inl ⟨by rfl, ?_⟩) hH ?_
        rotate_left
        · intro w hSw
          clear hSw
          go_simp
          try with_reducible rfl
        simp only [Act.put, List.setIfInBounds_toArray, List.set_cons_zero, List.set_cons_succ]
        refine wpAnyH_take (i := 15) (oi := { dst := some 69, op := .pick (.tmp 63) (.tmp 68) (.const (.bool false)), type := _, pos := _, after := _, guard := _ }) (v := ?_) rfl (by kernel_rfl) (by kernel_rfl) (by kernel_rfl) (fun _ _ _ h => h) (Or.inl ⟨by rfl, ?_⟩) hH ?_
        rotate_left
        · intro w hSw
          clear hSw
          go_simp
          try with_reducible rfl
        simp only [Act.put, List.setIfInBounds_toArray, List.set_cons_zero, List.set_cons_succ]
        refine wpAnyH_take (i := 16) (oi := { dst := some 70, op := .move (.tmp 69), type := _, pos := _, after := _, guard := _ }) (v := ?_) rfl (by kernel_rfl) (by kernel_rfl) (by kernel_rfl) (fun _ _ _ h => h) (Or.inl ⟨by rfl, ?_⟩) hH ?_
        rotate_left
        · intro w hSw
          clear hSw
          go_simp
          try with_reducible rfl
        simp only [Act.put, List.setIfInBounds_toArray, List.set_cons_zero, List.set_cons_succ]
        refine wpAnyH_take (i := 17) (oi := { dst := some 71, op := .load _ (.tmp 10), type := _, pos := _, after := _, guard := _ }) (v := _) rfl (by kernel_rfl) (by kernel_rfl) (by kernel_rfl) (fun _ _ _ h => h) (yieldsIf_load_mid (by rfl) _ _ rfl b_u _ rfl u2.all _ (fun _ h => (h.2.1).range) HD.out rfl (HS.out u2)) hH ?_
        simp only [Act.put, List.setIfInBounds_toArray, List.set_cons_zero, List.set_cons_succ]
        refine wpAnyH_take (i := 18) (oi := { dst := some 72, op := .move (.tmp 3), type := _, pos := _, after := _, guard := _ }) (v := ?_) rfl (by kernel_rfl) (by kernel_rfl) (by kernel_rfl) (fun _ _ _ h => h) (Or.inl ⟨by rfl, ?_⟩) hH ?_
        rotate_left
        · intro w hSw
          clear hSw
          go_simp
          try with_reducible rfl
        simp only [Act.put, List.setIfInBounds_toArray, List.set_cons_zero, List.set_cons_succ]
        refine wpAnyH_take (i := 20) (oi := { dst := some 74, op := .load _ (.tmp 9), type := _, pos := _, after := _, guard := _ }) (v := _) rfl (by kernel_rfl) (by kernel_rfl) (by kernel_rfl) (fun _ _ _ h => h) (yieldsIf_load_mid (by rfl) _ _ rfl u1593q.heap.size _ rfl t.all _ (fun _ h => (h.2.2).range) HD.out rfl (HS.out t)) hH ?_
        simp only [Act.put, List.setIfInBounds_toArray, List.set_cons_zero, List.set_cons_succ]
        refine wpAnyH_take (i := 21) (oi := { dst := some 75, op := .move (.tmp 3), type := _, pos := _, after := _, guard := _ }) (v := ?_) rfl (by kernel_rfl) (by kernel_rfl) (by kernel_rfl) (fun _ _ _ h => h) (Or.inl ⟨by rfl, ?_⟩) hH ?_
        rotate_left
        · intro w hSw
          clear hSw
          go_simp
          try with_reducible rfl
        simp only [Act.put, List.setIfInBounds_toArray, List.set_cons_zero, List.set_cons_succ]
        refine wpAnyH_ready (rs := [19]) (by kernel_rfl) (by simp) ?_
        refine AllReadyH.cons (o := { dst := some 73, op := _, type := _, pos := _, after := _, guard := _ }) rfl (fun K hK => ?_) AllReadyH.nil
        go_simp
        refine (PU _).mono ?_
        rintro e u2287q ⟨rfl, hb⟩
        have h2288q : Hid (Gd n w u2287q) := h2282q.out.later hb
        have h2289q : Hid (TAt u2287q u1593q.heap.size t) := h2283q.out.later hb
        have h2290q : Hid (TAt u2287q b_u u2) := h2284q.out.later hb
        have h2291q : Hid (Bo u2287q b_a [.int .i64 (1), .int .i64 (0)]) := h2285q.out.later hb
        have h2292q : Hid (Bo u2287q u2234q.heap.size [.int .i64 (1), .int .i64 (v)]) := h2286q.out.later hb
        clear h2282q h2283q h2284q h2285q h2286q
        clear hb
        go_wp2_with fail
        refine hK.out _ _ ⟨h2292q.out, h2290q.out, h2289q.out⟩ (fun hH => ?_)
        clear hK K
        try simp only [Act.put, List.setIfInBounds_toArray, List.set_cons_zero, List.set_cons_succ]
        refine wpAnyH_ready (rs := [22]) (by kernel_rfl) (by simp) ?_
        refine AllReadyH.cons (o := { dst := some 76, op := _, type := _, pos := _, after := _, guard := _ }) rfl (fun K hK => ?_) AllReadyH.nil
        go_simp
        refine (PT _).mono ?_
        rintro e u2293q ⟨rfl, hb⟩
        have h2294q : Hid (Gd n w u2293q) := h2288q.out.later hb
        have h2295q : Hid (TAt u2293q u1593q.heap.size t) := h2289q.out.later hb
        have h2296q : Hid (TAt u2293q b_u u2) := h2290q.out.later hb
        have h2297q : Hid (Bo u2293q b_a [.int .i64 (1), .int .i64 (0)]) := h2291q.out.later hb
        have h2298q : Hid (Bo u2293q u2234q.heap.size [.int .i64 (1), .int .i64 (v)]) := h2292q.out.later hb
        clear h2288q h2289q h2290q h2291q h2292q
        clear hb
        go_wp2_with fail
        refine hK.out _ _ ⟨h2298q.out, h2296q.out, h2295q.out⟩ (fun hH => ?_)
        clear hK K
        try simp only [Act.put, List.setIfInBounds_toArray, List.set_cons_zero, List.set_cons_succ]
        refine wpAnyH_take (i := 23) (oi := { dst := some 77, op := .binOp .eql _ (.tmp 73) (.tmp 76) _, type := _, pos := _, after := _, guard := _ }) (v := ?_) rfl (by kernel_rfl) (by kernel_rfl) (by kernel_rfl) (fun _ _ _ h => h) (Or.inl ⟨by rfl, ?_⟩) hH ?_
        rotate_left
        · intro w hSw
          clear hSw
          go_simp
          try with_reducible rfl
        simp only [Act.put, List.setIfInBounds_toArray, List.set_cons_zero, List.set_cons_succ]
        refine wpAnyH_take (i := 24) (oi := { dst := some 78, op := .pick (.tmp 70) (.tmp 77) (.const (.bool false)), type := _, pos := _, after := _, guard := _ }) (v := ?_) rfl (by kernel_rfl) (by kernel_rfl) (by kernel_rfl) (fun _ _ _ h => h) (Or.inl ⟨by rfl, ?_⟩) hH ?_
        rotate_left
        · intro w hSw
          clear hSw
          go_simp
          try with_reducible rfl
        simp only [Act.put, List.setIfInBounds_toArray, List.set_cons_zero, List.set_cons_succ]
        refine wpAnyH_take (i := 25) (oi := { dst := some 79, op := .move (.tmp 78), type := _, pos := _, after := _, guard := _ }) (v := ?_) rfl (by kernel_rfl) (by kernel_rfl) (by kernel_rfl) (fun _ _ _ h => h) (Or.inl ⟨by rfl, ?_⟩) hH ?_
        rotate_left
        · intro w hSw
          clear hSw
          go_simp
          try with_reducible rfl
        simp only [Act.put, List.setIfInBounds_toArray, List.set_cons_zero, List.set_cons_succ]
        refine wpAnyH_take (i := 26) (oi := { dst := some 80, op := .load _ (.tmp 10), type := _, pos := _, after := _, guard := _ }) (v := _) rfl (by kernel_rfl) (by kernel_rfl) (by kernel_rfl) (fun _ _ _ h => h) (yieldsIf_load_mid (by rfl) _ _ rfl b_u _ rfl u2.all _ (fun _ h => (h.2.1).range) HD.out rfl (HS.out u2)) hH ?_
        simp only [Act.put, List.setIfInBounds_toArray, List.set_cons_zero, List.set_cons_succ]
        refine wpAnyH_take (i := 27) (oi := { dst := some 81, op := .move (.tmp 1), type := _, pos := _, after := _, guard := _ }) (v := ?_) rfl (by kernel_rfl) (by kernel_rfl) (by kernel_rfl) (fun _ _ _ h => h) (Or.inl ⟨by rfl, ?_⟩) hH ?_
        rotate_left
        · intro w hSw
          clear hSw
          go_simp
          try with_reducible rfl
        simp only [Act.put, List.setIfInBounds_toArray, List.set_cons_zero, List.set_cons_succ]
        refine wpAnyH_ready (rs := [28]) (by kernel_rfl) (by simp) ?_
        refine AllReadyH.cons (o := { dst := some 82, op := _, type := _, pos := _, after := _, guard := _ }) rfl (fun K hK => ?_) AllReadyH.nil
        go_simp
        refine (PG _).mono ?_
        rintro e u2299q ⟨rfl, hb⟩
        have h2300q : Hid (Gd n w u2299q) := h2294q.out.later hb
        have h2301q : Hid (TAt u2299q u1593q.heap.size t) := h2295q.out.later hb
        have h2302q : Hid (TAt u2299q b_u u2) := h2296q.out.later hb
        have h2303q : Hid (Bo u2299q b_a [.int .i64 (1), .int .i64 (0)]) := h2297q.out.later hb
        have h2304q : Hid (Bo u2299q u2234q.heap.size [.int .i64 (1), .int .i64 (v)]) := h2298q.out.later hb
        clear h2294q h2295q h2296q h2297q h2298q
        clear hb
        go_wp2_with fail
        refine hK.out _ _ ⟨h2304q.out, h2302q.out, h2301q.out⟩ (fun hH => ?_)
        clear hK K
        try simp only [Act.put, List.setIfInBounds_toArray, List.set_cons_zero, List.set_cons_succ]
        refine wpAnyH_take (i := 29) (oi := { dst := some 83, op := .field _ (.tmp 82) 0, type := _, pos := _, after := _, guard := _ }) (v := ?_) rfl (by kernel_rfl) (by kernel_rfl) (by kernel_rfl) (fun _ _ _ h => h) (Or.inl ⟨by rfl, ?_⟩) hH ?_
        rotate_left
        · intro w hSw
          clear hSw
          go_simp
          try with_reducible rfl
        simp only [Act.put, List.setIfInBounds_toArray, List.set_cons_zero, List.set_cons_succ]
        refine wpAnyH_take (i := 30) (oi := { dst := some 84, op := .binOp .eql _ (.tmp 83) (.const (.int .i64 4)) _, type := _, pos := _, after := _, guard := _ }) (v := ?_) rfl (by kernel_rfl) (by kernel_rfl) (by kernel_rfl) (fun _ _ _ h => h) (Or.inl ⟨by rfl, ?_⟩) hH ?_
        rotate_left
        · intro w hSw
          clear hSw
          go_simp
          try with_reducible rfl
        simp only [Act.put, List.setIfInBounds_toArray, List.set_cons_zero, List.set_cons_succ]
        refine wpAnyH_take (i := 31) (oi := { dst := some 85, op := .pick (.tmp 79) (.tmp 84) (.const (.bool false)), type := _, pos := _, after := _, guard := _ }) (v := ?_) rfl (by kernel_rfl) (by kernel_rfl) (by kernel_rfl) (fun _ _ _ h => h) (Or.inl ⟨by rfl, ?_⟩) hH ?_
        rotate_left
        · intro w hSw
          clear hSw
          go_simp
          try with_reducible rfl
        simp only [Act.put, List.setIfInBounds_toArray, List.set_cons_zero, List.set_cons_succ]
        refine wpAnyH_take (i := 32) (oi := { dst := some 8, op := .assign (.tmp 85), type := _, pos := _, after := _, guard := _ }) (v := ?_) rfl (by kernel_rfl) (by kernel_rfl) (by kernel_rfl) (fun _ _ _ h => h) (Or.inl ⟨by rfl, ?_⟩) hH ?_
        rotate_left
        · intro w hSw
          clear hSw
          go_simp
          try with_reducible rfl
        simp only [Act.put, List.setIfInBounds_toArray, List.set_cons_zero, List.set_cons_succ]
        refine wpAnyH_done (by kernel_rfl) ?_ _
        go_wp2
        go_ret
        exact ⟨rfl, h2300q.out.2⟩
  · have m4 : (kc == 4) = false := by simp [hk4]
    have m5 : (kc != 4) = true := by simp [hk4]
    clear hk4
    go_wp2
    go_ret
    exact ⟨rfl, h1604q.out.2⟩


set_option maxRecDepth 100000 in
theorem lifted (os : Os) (started : os.Started) (H : Type) (enc : TypeId × Value → H) :
    ReturnsInHanded {} Try.checked os 4 .any (Rows.tableBackSpec.pre6 enc Try.prog Try.f4 Rows.tableBackRow.domain false) (Rows.tableBackSpec.post enc Try.prog Try.f4 false true false false) := by
  refine returnsInHanded_of_change (C := Try.checked) own started (by kernel_rfl) Try.func4
    (ChangeSpec.witness6 (enc := enc) (C := Try.checked) false ⟨#[], #[.slice none 0 0, .int .i64 0, .int .i64 0, .int .i64 0], []⟩ 8 (by kernel_rfl) (by kernel_rfl) (by kernel_rfl) (by kernel_rfl)) ?_
  intro W base args ds gs before hval0 hW hcnd _
  have hval : ∀ (j : Nat) t v, Try.f4.params[j]? = some t → args[j]? = some v → Value.okWide Try.prog W .any base t v := hval0
  have hW' := hW
  obtain ⟨p, q, hA0, hV, rfl, hfz, hnd⟩ := hW
  have hA : DataW.TrodAll enc Try.prog W 0 (fun _ => true) true Try.f4.params.toList args.toList ds p := hA0
  rw [Try.params4] at hA hval
  obtain ⟨v0, vs0, d0, ds0, p0, q0, hargs, rfl, rfl, h0, r0⟩ := trodAll_cons hA
  obtain ⟨v1, vs1, d1, ds1, p1, q1, rfl, rfl, rfl, h1, r1⟩ := trodAll_cons r0
  obtain ⟨v2, vs2, d2, ds2, p2, q2, rfl, rfl, rfl, h2, r2⟩ := trodAll_cons r1
  obtain ⟨v3, vs3, d3, ds3, p3, q3, rfl, rfl, rfl, h3, r3⟩ := trodAll_cons r2
  obtain ⟨rfl, rfl, rfl⟩ := trodAll_nil r3
  obtain rfl : args = #[v0, v1, v2, v3] := by cases args; simp_all
  obtain ⟨rfl, rfl⟩ := trodVars_none hV
  obtain ⟨n0, D0⟩ := ops_of_trod (hval 0 22 v0 rfl rfl) h0
  obtain ⟨a1, rfl, rfl, rfl, w1⟩ := open_int Try.underlying3 (hval 1 3 v1 rfl rfl) h1
  obtain ⟨a2, rfl, rfl, rfl, w2⟩ := open_int Try.underlying3 (hval 2 3 v2 rfl rfl) h2
  obtain ⟨a3, rfl, rfl, rfl, w3⟩ := open_int Try.underlying3 (hval 3 3 v3 rfl rfl) h3
  have hlt := hW'.lt
  clear hA0 hval0
  refine (walk v0 n0 a1 a2 a3 w1 w2 w3 W  D0).mono fun e W' ⟨he, hg⟩ => ?_
  subst he
  exact ⟨_, rfl, post_below (pv := []) hW' (fun _ _ _ => (trodAll_cons_mk (shut_bool Try.underlying4 _) trodAll_mk0)) (fun sp hsp => (trodAll_cons_mk (ops_stay h0 hg (fun x hx => hlt x (by simp [hx])) (fun x hx => hsp x (by simp [hx]))) (trodAll_cons_mk (shut_int Try.underlying3 w1) (trodAll_cons_mk (shut_int Try.underlying3 w2) (trodAll_cons_mk (shut_int Try.underlying3 w3) trodAll_mk0))))) (fun _ _ => rfl) (by simp) (hg.frame _)⟩

theorem over : Rows.tableBackRow.holds Try.pinned (OpenSpec.ofChange Rows.tableBackSpec) :=
  OpenClaim.holds_of_wide 4 Try.f4 rfl rfl rfl rfl rfl rfl rfl ⟨rfl, rfl, rfl, rfl, rfl⟩ rfl rfl rfl rfl rfl (by kernel_rfl) Try.func4 (by kernel_rfl)
    (of_decide_eq_true (by kernel_rfl)) (by unfold Func.isWrapper; first | (rw [if_pos (by decide +kernel)]; kernel_rfl) | (rw [if_neg (by decide +kernel)]; exact ⟨rfl, rfl⟩))
    (fun os started H enc _ => lifted os started H enc)

theorem proved : Rows.TableBackSaid :=
  over
#print axioms proved
end Go.Proofs.Ytojnkfdodjcnfab.tableBack
