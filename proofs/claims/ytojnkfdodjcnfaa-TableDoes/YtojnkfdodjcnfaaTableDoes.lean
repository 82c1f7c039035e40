/- TableDoes is proved: for every array of slots and every operation the call returns true (with a table the program does what the document does, and answers so; slots that are no table are let be, by the law's own words). -/
import Derived.Test.YtojnkfdodjcnfaaRows
import Derived.Test.YtojnkfdodjcnfaaRf4
import Derived.Test.YtojnkfdodjcnfaaTe
import Derived.Test.YtojnkfdodjcnfaaArgT
import Derived.Deep.DeepCutAuto
import Derived.Deep.RegionHeld3

namespace Go.Proofs.Ytojnkfdodjcnfaa.tableDoes
open Go.ChangeShapes Go.WideShapes Go.ChangeAt Go.RowKit
set_option linter.unusedVariables false

theorem own : ownKnob Try.prog.godebug = none := by kernel_rfl

set_option maxHeartbeats 4000000 in
set_option maxRecDepth 20000 in
theorem walk (t0 : Tb) (a1 b1 c1 : Int) (wa1 : (Lit.int .i64 a1).wf = true) (wb1 : (Lit.int .i64 b1).wf = true) (wc1 : (Lit.int .i64 c1).wf = true) (w : World) :
    Calls Try.prog 4 #[.agg t0.all.toArray, .agg #[.int .i64 a1, .int .i64 b1, .int .i64 c1]] w fun e w' => e = .returned (.bool true) ∧ Below w.heap.size w w' := by
  obtain ⟨na, ea, hd⟩ := slots_array
  have HD : Hid _ := hd
  clear hd
  have HS : Hid (∀ t : Tb, (Try.prog.info? 29).map (·.size) = some t.all.length) := slots_size
  have HZ : Hid (∀ t : Tb, (Try.prog.info? 29).map (·.size) = some t.all.toArray.size) := slots_size2
  have HT : Hid ((Try.prog.info? 27).map (·.size) = some 2) := slot_size
  have HA : Hid ((Try.prog.info? 37).map (·.size) = some 2) := answer_size
  obtain ⟨fs, ha⟩ := answer_struct
  have HDA : Hid _ := ha
  clear ha
  have g0 : Hid (Gd w.heap.size w w) := Gd.refl w
  have h1q : Hid (Gd w.heap.size w (w.alloc (.cells t0.all.toArray 25))) := g0.out.new (.cells t0.all.toArray 25)
  clear g0
  have h2q : Hid (TAt (w.alloc (.cells t0.all.toArray 25)) w.heap.size t0) := TAt.bornAt w t0 _ (by simp)
  have h3q : Hid (Gd w.heap.size w ((w.alloc (.cells t0.all.toArray 25)).alloc (.cells #[.int .i64 a1, .int .i64 b1, .int .i64 c1] 35))) := h1q.out.new (.cells #[.int .i64 a1, .int .i64 b1, .int .i64 c1] 35)
  have h4q : Hid (TAt ((w.alloc (.cells t0.all.toArray 25)).alloc (.cells #[.int .i64 a1, .int .i64 b1, .int .i64 c1] 35)) w.heap.size t0) := h2q.out.new (.cells #[.int .i64 a1, .int .i64 b1, .int .i64 c1] 35)
  clear h1q h2q
  have h5q : Hid (Bo ((w.alloc (.cells t0.all.toArray 25)).alloc (.cells #[.int .i64 a1, .int .i64 b1, .int .i64 c1] 35)) (w.heap.size + 1) [.int .i64 a1, .int .i64 b1, .int .i64 c1]) := Bo.born (w.alloc (.cells t0.all.toArray 25)) [.int .i64 a1, .int .i64 b1, .int .i64 c1] 35 (by simp)
  obtain ⟨nr, er, hdr⟩ := rslots_array
  have HDr : Hid _ := hdr
  clear hdr wa1 wb1 wc1
  have HSr : Hid (∀ t : Tb, (Try.prog.info? 25).map (·.size) = some t.all.length) := rslots_size
  have HZr : Hid (∀ t : Tb, (Try.prog.info? 25).map (·.size) = some t.all.toArray.size) := rslots_size2
  have EQ := slots_equal
  go_enter Try.func4, Try.ntmps4
  go_wp2_with (first
    | (refine wpList_load_mid rfl 25 _ rfl w.heap.size _ rfl t0.all _ h4q.out.range HDr.out rfl (HSr.out t0) ?_))
  generalize ((w.alloc (.cells t0.all.toArray 25)).alloc (.cells #[.int .i64 a1, .int .i64 b1, .int .i64 c1] 35)) = W at h3q h4q h5q ⊢
  generalize w.heap.size = n at h3q h4q h5q ⊢
  by_cases hR : RT t0
  · have RR := RRight_is t0 true ⟨fun _ => hR, fun _ => rfl⟩
    have RD := RTable_eq hR a1 b1 c1
    have PD := tDo_eq t0 a1 b1 c1
    obtain ⟨⟨u, c, y⟩, hu⟩ : ∃ r, tdo t0 a1 b1 c1 = r := ⟨_, rfl⟩
    rw [hu] at RD PD
    unfold Told at RD PD
    dsimp only at RD PD
    have SO := slotsOf_is t0
    have SU := slotsOf_is u
    clear hR hu
    refine (RR _).mono ?_
    rintro e u6q ⟨rfl, hb⟩
    have h7q : Hid (Gd n w u6q) := h3q.out.later hb
    have h8q : Hid (TAt u6q n t0) := h4q.out.later hb
    have h9q : Hid (Bo u6q (n + 1) [.int .i64 a1, .int .i64 b1, .int .i64 c1]) := h5q.out.later hb
    clear h3q h4q h5q
    clear hb
    clear RR
    have d0 := h9q.out.at 0 rfl
    have d1 := h9q.out.at 1 rfl
    have d2 := h9q.out.at 2 rfl
    go_wp2_with (first
      | (refine wpList_load_mid rfl 25 _ rfl n _ rfl t0.all _ h8q.out.range HDr.out rfl (HSr.out t0) ?_))
    refine (RD _).mono ?_
    rintro e u10q ⟨rfl, hb⟩
    have h11q : Hid (Gd n w u10q) := h7q.out.later hb
    have h12q : Hid (TAt u10q n t0) := h8q.out.later hb
    have h13q : Hid (Bo u10q (n + 1) [.int .i64 a1, .int .i64 b1, .int .i64 c1]) := h9q.out.later hb
    clear h7q h8q h9q
    clear hb
    clear RD d0 d1 d2
    have l14q : n ≤ u10q.heap.size := h11q.out.le
    have l15q : n < u10q.heap.size := h12q.out.lt
    have l16q : (n + 1) < u10q.heap.size := h13q.out.lt
    have h17q : Hid (Gd n w (u10q.alloc (.cells #[.int .i64 0, .int .i64 0, .int .i64 0, .int .i64 0, .int .i64 0, .int .i64 0, .int .i64 0, .int .i64 0, .int .i64 0, .int .i64 0, .int .i64 0, .int .i64 0, .int .i64 0, .int .i64 0, .int .i64 0, .int .i64 0] 25))) := h11q.out.new (.cells #[.int .i64 0, .int .i64 0, .int .i64 0, .int .i64 0, .int .i64 0, .int .i64 0, .int .i64 0, .int .i64 0, .int .i64 0, .int .i64 0, .int .i64 0, .int .i64 0, .int .i64 0, .int .i64 0, .int .i64 0, .int .i64 0] 25)
    have h18q : Hid (TAt (u10q.alloc (.cells #[.int .i64 0, .int .i64 0, .int .i64 0, .int .i64 0, .int .i64 0, .int .i64 0, .int .i64 0, .int .i64 0, .int .i64 0, .int .i64 0, .int .i64 0, .int .i64 0, .int .i64 0, .int .i64 0, .int .i64 0, .int .i64 0] 25)) n t0) := h12q.out.new (.cells #[.int .i64 0, .int .i64 0, .int .i64 0, .int .i64 0, .int .i64 0, .int .i64 0, .int .i64 0, .int .i64 0, .int .i64 0, .int .i64 0, .int .i64 0, .int .i64 0, .int .i64 0, .int .i64 0, .int .i64 0, .int .i64 0] 25)
    have h19q : Hid (Bo (u10q.alloc (.cells #[.int .i64 0, .int .i64 0, .int .i64 0, .int .i64 0, .int .i64 0, .int .i64 0, .int .i64 0, .int .i64 0, .int .i64 0, .int .i64 0, .int .i64 0, .int .i64 0, .int .i64 0, .int .i64 0, .int .i64 0, .int .i64 0] 25)) (n + 1) [.int .i64 a1, .int .i64 b1, .int .i64 c1]) := h13q.out.new (.cells #[.int .i64 0, .int .i64 0, .int .i64 0, .int .i64 0, .int .i64 0, .int .i64 0, .int .i64 0, .int .i64 0, .int .i64 0, .int .i64 0, .int .i64 0, .int .i64 0, .int .i64 0, .int .i64 0, .int .i64 0, .int .i64 0] 25)
    clear h11q h12q h13q
    have h20q : Hid (TAt (u10q.alloc (.cells #[.int .i64 0, .int .i64 0, .int .i64 0, .int .i64 0, .int .i64 0, .int .i64 0, .int .i64 0, .int .i64 0, .int .i64 0, .int .i64 0, .int .i64 0, .int .i64 0, .int .i64 0, .int .i64 0, .int .i64 0, .int .i64 0] 25)) u10q.heap.size Tb.zero) := TAt.bornZero u10q 25 (by simp)
    have h21q : Hid (Gd n w ((u10q.alloc (.cells #[.int .i64 0, .int .i64 0, .int .i64 0, .int .i64 0, .int .i64 0, .int .i64 0, .int .i64 0, .int .i64 0, .int .i64 0, .int .i64 0, .int .i64 0, .int .i64 0, .int .i64 0, .int .i64 0, .int .i64 0, .int .i64 0] 25)).alloc (.cells #[.int .i64 0, .int .i64 0] 37))) := h17q.out.new (.cells #[.int .i64 0, .int .i64 0] 37)
    have h22q : Hid (TAt ((u10q.alloc (.cells #[.int .i64 0, .int .i64 0, .int .i64 0, .int .i64 0, .int .i64 0, .int .i64 0, .int .i64 0, .int .i64 0, .int .i64 0, .int .i64 0, .int .i64 0, .int .i64 0, .int .i64 0, .int .i64 0, .int .i64 0, .int .i64 0] 25)).alloc (.cells #[.int .i64 0, .int .i64 0] 37)) n t0) := h18q.out.new (.cells #[.int .i64 0, .int .i64 0] 37)
    have h23q : Hid (Bo ((u10q.alloc (.cells #[.int .i64 0, .int .i64 0, .int .i64 0, .int .i64 0, .int .i64 0, .int .i64 0, .int .i64 0, .int .i64 0, .int .i64 0, .int .i64 0, .int .i64 0, .int .i64 0, .int .i64 0, .int .i64 0, .int .i64 0, .int .i64 0] 25)).alloc (.cells #[.int .i64 0, .int .i64 0] 37)) (n + 1) [.int .i64 a1, .int .i64 b1, .int .i64 c1]) := h19q.out.new (.cells #[.int .i64 0, .int .i64 0] 37)
    have h24q : Hid (TAt ((u10q.alloc (.cells #[.int .i64 0, .int .i64 0, .int .i64 0, .int .i64 0, .int .i64 0, .int .i64 0, .int .i64 0, .int .i64 0, .int .i64 0, .int .i64 0, .int .i64 0, .int .i64 0, .int .i64 0, .int .i64 0, .int .i64 0, .int .i64 0] 25)).alloc (.cells #[.int .i64 0, .int .i64 0] 37)) u10q.heap.size Tb.zero) := h20q.out.new (.cells #[.int .i64 0, .int .i64 0] 37)
    clear h17q h18q h19q h20q
    have h25q : Hid (Bo ((u10q.alloc (.cells #[.int .i64 0, .int .i64 0, .int .i64 0, .int .i64 0, .int .i64 0, .int .i64 0, .int .i64 0, .int .i64 0, .int .i64 0, .int .i64 0, .int .i64 0, .int .i64 0, .int .i64 0, .int .i64 0, .int .i64 0, .int .i64 0] 25)).alloc (.cells #[.int .i64 0, .int .i64 0] 37)) (u10q.heap.size + 1) [.int .i64 0, .int .i64 0]) := Bo.born (u10q.alloc (.cells #[.int .i64 0, .int .i64 0, .int .i64 0, .int .i64 0, .int .i64 0, .int .i64 0, .int .i64 0, .int .i64 0, .int .i64 0, .int .i64 0, .int .i64 0, .int .i64 0, .int .i64 0, .int .i64 0, .int .i64 0, .int .i64 0] 25)) [.int .i64 0, .int .i64 0] 37 (by simp)
    go_wp2_with (first
      | (refine wpList_store_mid rfl 25 _ _ rfl u10q.heap.size _ u.all.toArray rfl rfl (h24q.out.thereOf u) (HZr.out u) (u.all_all) ?_
         have h26q : Hid (Gd n w (((u10q.alloc (.cells #[.int .i64 0, .int .i64 0, .int .i64 0, .int .i64 0, .int .i64 0, .int .i64 0, .int .i64 0, .int .i64 0, .int .i64 0, .int .i64 0, .int .i64 0, .int .i64 0, .int .i64 0, .int .i64 0, .int .i64 0, .int .i64 0] 25)).alloc (.cells #[.int .i64 0, .int .i64 0] 37)).setCells u10q.heap.size 0 u.all)) := h21q.out.asideAll (by omega) u
         have h27q : Hid (TAt (((u10q.alloc (.cells #[.int .i64 0, .int .i64 0, .int .i64 0, .int .i64 0, .int .i64 0, .int .i64 0, .int .i64 0, .int .i64 0, .int .i64 0, .int .i64 0, .int .i64 0, .int .i64 0, .int .i64 0, .int .i64 0, .int .i64 0, .int .i64 0] 25)).alloc (.cells #[.int .i64 0, .int .i64 0] 37)).setCells u10q.heap.size 0 u.all) n t0) := h22q.out.asideAll (by omega) u
         have h28q : Hid (Bo (((u10q.alloc (.cells #[.int .i64 0, .int .i64 0, .int .i64 0, .int .i64 0, .int .i64 0, .int .i64 0, .int .i64 0, .int .i64 0, .int .i64 0, .int .i64 0, .int .i64 0, .int .i64 0, .int .i64 0, .int .i64 0, .int .i64 0, .int .i64 0] 25)).alloc (.cells #[.int .i64 0, .int .i64 0] 37)).setCells u10q.heap.size 0 u.all) (n + 1) [.int .i64 a1, .int .i64 b1, .int .i64 c1]) := h23q.out.asideAll (by omega) u
         have h29q : Hid (TAt (((u10q.alloc (.cells #[.int .i64 0, .int .i64 0, .int .i64 0, .int .i64 0, .int .i64 0, .int .i64 0, .int .i64 0, .int .i64 0, .int .i64 0, .int .i64 0, .int .i64 0, .int .i64 0, .int .i64 0, .int .i64 0, .int .i64 0, .int .i64 0] 25)).alloc (.cells #[.int .i64 0, .int .i64 0] 37)).setCells u10q.heap.size 0 u.all) u10q.heap.size u) := h24q.out.setAll u
         have h30q : Hid (Bo (((u10q.alloc (.cells #[.int .i64 0, .int .i64 0, .int .i64 0, .int .i64 0, .int .i64 0, .int .i64 0, .int .i64 0, .int .i64 0, .int .i64 0, .int .i64 0, .int .i64 0, .int .i64 0, .int .i64 0, .int .i64 0, .int .i64 0, .int .i64 0] 25)).alloc (.cells #[.int .i64 0, .int .i64 0] 37)).setCells u10q.heap.size 0 u.all) (u10q.heap.size + 1) [.int .i64 0, .int .i64 0]) := h25q.out.asideAll (by omega) u
         clear h21q h22q h23q h24q h25q
         generalize (((u10q.alloc (.cells #[.int .i64 0, .int .i64 0, .int .i64 0, .int .i64 0, .int .i64 0, .int .i64 0, .int .i64 0, .int .i64 0, .int .i64 0, .int .i64 0, .int .i64 0, .int .i64 0, .int .i64 0, .int .i64 0, .int .i64 0, .int .i64 0] 25)).alloc (.cells #[.int .i64 0, .int .i64 0] 37)).setCells u10q.heap.size 0 u.all) = u31q at h26q h27q h28q h29q h30q  ⊢)
      | (refine wpList_store_mid rfl 37 _ _ rfl (u10q.heap.size + 1) _ #[.int .i64 (c), .int .i64 (y)] rfl rfl h30q.out.there2 HA.out (two_one _ _) ?_
         have h32q : Hid (Gd n w (u31q.setCells (u10q.heap.size + 1) 0 [.int .i64 (c), .int .i64 (y)])) := h26q.out.asideL (by omega) 0 [.int .i64 (c), .int .i64 (y)]
         have h33q : Hid (TAt (u31q.setCells (u10q.heap.size + 1) 0 [.int .i64 (c), .int .i64 (y)]) n t0) := h27q.out.asideL (by omega) 0 [.int .i64 (c), .int .i64 (y)]
         have h34q : Hid (Bo (u31q.setCells (u10q.heap.size + 1) 0 [.int .i64 (c), .int .i64 (y)]) (n + 1) [.int .i64 a1, .int .i64 b1, .int .i64 c1]) := h28q.out.asideL (by omega) 0 [.int .i64 (c), .int .i64 (y)]
         have h35q : Hid (TAt (u31q.setCells (u10q.heap.size + 1) 0 [.int .i64 (c), .int .i64 (y)]) u10q.heap.size u) := h29q.out.asideL (by omega) 0 [.int .i64 (c), .int .i64 (y)]
         have h36q : Hid (Bo (u31q.setCells (u10q.heap.size + 1) 0 [.int .i64 (c), .int .i64 (y)]) (u10q.heap.size + 1) [.int .i64 (c), .int .i64 (y)]) := h30q.out.set2 (.int .i64 (c)) (.int .i64 (y))
         clear h26q h27q h28q h29q h30q
         generalize (u31q.setCells (u10q.heap.size + 1) 0 [.int .i64 (c), .int .i64 (y)]) = u37q at h32q h33q h34q h35q h36q  ⊢))
    simp only [Act.put]
    go_cut [7, 8] (fun s7 s8 wx => ∃ b_b b_z : Nat, s7 = .pointer (some ⟨b_b, 0, none⟩) ∧ s8 = .pointer (some ⟨b_z, 0, none⟩) ∧ Hid (Gd n w wx) ∧ Hid (TAt wx u10q.heap.size u) ∧ Hid (Bo wx (u10q.heap.size + 1) [.int .i64 (c), .int .i64 (y)]) ∧ Hid (TAt wx b_b u) ∧ Hid (Bo wx b_z [.int .i64 (c), .int .i64 (y)]))
    case first =>
      have h38q : Hid (Gd n w u37q.drew) := h32q.out.drew
      have h39q : Hid (TAt u37q.drew n t0) := h33q.out.drew
      have h40q : Hid (Bo u37q.drew (n + 1) [.int .i64 a1, .int .i64 b1, .int .i64 c1]) := h34q.out.drew
      have h41q : Hid (TAt u37q.drew u10q.heap.size u) := h35q.out.drew
      have h42q : Hid (Bo u37q.drew (u10q.heap.size + 1) [.int .i64 (c), .int .i64 (y)]) := h36q.out.drew
      clear h32q h33q h34q h35q h36q
      refine wp_region_held_drew (S := fun w' => TAt w' n t0 ∧ Bo w' (n + 1) [.int .i64 a1, .int .i64 b1, .int .i64 c1]) (by kernel_rfl) ⟨h39q.out, h40q.out⟩ (fun hH => ?_)
      generalize u37q.drew = u43q at h38q h39q h40q h41q h42q hH ⊢
      refine wpAnyH_take (i := 0) (oi := { dst := some 19, op := .load _ (.tmp 2), type := _, pos := _, after := _, guard := _ }) (v := _) rfl (by kernel_rfl) (by kernel_rfl) (by kernel_rfl) (fun _ _ _ h => h) (yieldsIf_load_mid (by rfl) _ _ rfl n _ rfl t0.all _ (fun _ h => (h.1).range) HDr.out rfl (HSr.out t0)) hH ?_
      simp only [Act.put, List.setIfInBounds_toArray, List.set_cons_zero, List.set_cons_succ]
      refine wpAnyH_take (i := 2) (oi := { dst := some 21, op := .load _ (.tmp 3), type := _, pos := _, after := _, guard := _ }) (v := ?_) rfl (by kernel_rfl) (by kernel_rfl) (by kernel_rfl) (fun _ _ _ h => h) (Or.inl ⟨by rfl, ?_⟩) hH ?_
      rotate_left
      · intro w hSw
        have c44q := (hSw.2).at 0 rfl
        have c45q := (hSw.2).at 1 rfl
        have c46q := (hSw.2).at 2 rfl
        clear hSw
        go_simp
        try with_reducible rfl
      simp only [Act.put, List.setIfInBounds_toArray, List.set_cons_zero, List.set_cons_succ]
      refine wpAnyH_ready (rs := [1, 7, 8]) (by kernel_rfl) (by simp) ?_
      refine AllReadyH.cons (o := { dst := some 20, op := _, type := _, pos := _, after := _, guard := _ }) rfl (fun K hK => ?_) ?_
      · go_simp
        refine (SO _).mono ?_
        rintro e u47q ⟨rfl, hb⟩
        have h48q : Hid (Gd n w u47q) := h38q.out.later hb
        have h49q : Hid (TAt u47q n t0) := h39q.out.later hb
        have h50q : Hid (Bo u47q (n + 1) [.int .i64 a1, .int .i64 b1, .int .i64 c1]) := h40q.out.later hb
        have h51q : Hid (TAt u47q u10q.heap.size u) := h41q.out.later hb
        have h52q : Hid (Bo u47q (u10q.heap.size + 1) [.int .i64 (c), .int .i64 (y)]) := h42q.out.later hb
        clear h38q h39q h40q h41q h42q
        clear hb
        go_wp2_with fail
        refine hK.out _ _ ⟨h49q.out, h50q.out⟩ (fun hH => ?_)
        clear hK K
        try simp only [Act.put, List.setIfInBounds_toArray, List.set_cons_zero, List.set_cons_succ]
        refine wpAnyH_ready (rs := [3, 7, 8]) (by kernel_rfl) (by simp) ?_
        refine AllReadyH.cons (o := { dst := some 22, op := _, type := _, pos := _, after := _, guard := _ }) rfl (fun K hK => ?_) ?_
        · go_simp
          refine (PD _).mono ?_
          rintro e u53q ⟨rfl, hb⟩
          have h54q : Hid (Gd n w u53q) := h48q.out.later hb
          have h55q : Hid (TAt u53q n t0) := h49q.out.later hb
          have h56q : Hid (Bo u53q (n + 1) [.int .i64 a1, .int .i64 b1, .int .i64 c1]) := h50q.out.later hb
          have h57q : Hid (TAt u53q u10q.heap.size u) := h51q.out.later hb
          have h58q : Hid (Bo u53q (u10q.heap.size + 1) [.int .i64 (c), .int .i64 (y)]) := h52q.out.later hb
          clear h48q h49q h50q h51q h52q
          clear hb
          go_wp2_with fail
          refine hK.out _ _ ⟨h55q.out, h56q.out⟩ (fun hH => ?_)
          clear hK K
          try simp only [Act.put, List.setIfInBounds_toArray, List.set_cons_zero, List.set_cons_succ]
          refine wpAnyH_take (i := 4) (oi := { dst := some 18, op := .move (.tmp 22), type := _, pos := _, after := _, guard := _ }) (v := ?_) rfl (by kernel_rfl) (by kernel_rfl) (by kernel_rfl) (fun _ _ _ h => h) (Or.inl ⟨by rfl, ?_⟩) hH ?_
          rotate_left
          · intro w hSw
            clear hSw
            go_simp
            try with_reducible rfl
          simp only [Act.put, List.setIfInBounds_toArray, List.set_cons_zero, List.set_cons_succ]
          refine wpAnyH_take (i := 5) (oi := { dst := some 23, op := .extract (.tmp 18) 0, type := _, pos := _, after := _, guard := _ }) (v := ?_) rfl (by kernel_rfl) (by kernel_rfl) (by kernel_rfl) (fun _ _ _ h => h) (Or.inl ⟨by rfl, ?_⟩) hH ?_
          rotate_left
          · intro w hSw
            clear hSw
            go_simp
            try with_reducible rfl
          simp only [Act.put, List.setIfInBounds_toArray, List.set_cons_zero, List.set_cons_succ]
          refine wpAnyH_take (i := 6) (oi := { dst := some 24, op := .extract (.tmp 18) 1, type := _, pos := _, after := _, guard := _ }) (v := ?_) rfl (by kernel_rfl) (by kernel_rfl) (by kernel_rfl) (fun _ _ _ h => h) (Or.inl ⟨by rfl, ?_⟩) hH ?_
          rotate_left
          · intro w hSw
            clear hSw
            go_simp
            try with_reducible rfl
          simp only [Act.put, List.setIfInBounds_toArray, List.set_cons_zero, List.set_cons_succ]
          refine wpAnyH_ready (rs := [7, 8]) (by kernel_rfl) (by simp) ?_
          refine AllReadyH.cons (o := { dst := some 7, op := .alloc _, type := _, pos := _, after := _, guard := _ }) rfl (fun K hK => ?_) ?_
          · have l59q : n ≤ u53q.heap.size := h54q.out.le
            have l60q : n < u53q.heap.size := h55q.out.lt
            have l61q : (n + 1) < u53q.heap.size := h56q.out.lt
            have l62q : u10q.heap.size < u53q.heap.size := h57q.out.lt
            have l63q : (u10q.heap.size + 1) < u53q.heap.size := h58q.out.lt
            go_simp
            have h64q : Hid (Gd n w (u53q.alloc (.cells #[.int .i64 0, .int .i64 0, .int .i64 0, .int .i64 0, .int .i64 0, .int .i64 0, .int .i64 0, .int .i64 0, .int .i64 0, .int .i64 0, .int .i64 0, .int .i64 0, .int .i64 0, .int .i64 0, .int .i64 0, .int .i64 0] 29))) := h54q.out.new (.cells #[.int .i64 0, .int .i64 0, .int .i64 0, .int .i64 0, .int .i64 0, .int .i64 0, .int .i64 0, .int .i64 0, .int .i64 0, .int .i64 0, .int .i64 0, .int .i64 0, .int .i64 0, .int .i64 0, .int .i64 0, .int .i64 0] 29)
            have h65q : Hid (TAt (u53q.alloc (.cells #[.int .i64 0, .int .i64 0, .int .i64 0, .int .i64 0, .int .i64 0, .int .i64 0, .int .i64 0, .int .i64 0, .int .i64 0, .int .i64 0, .int .i64 0, .int .i64 0, .int .i64 0, .int .i64 0, .int .i64 0, .int .i64 0] 29)) n t0) := h55q.out.new (.cells #[.int .i64 0, .int .i64 0, .int .i64 0, .int .i64 0, .int .i64 0, .int .i64 0, .int .i64 0, .int .i64 0, .int .i64 0, .int .i64 0, .int .i64 0, .int .i64 0, .int .i64 0, .int .i64 0, .int .i64 0, .int .i64 0] 29)
            have h66q : Hid (Bo (u53q.alloc (.cells #[.int .i64 0, .int .i64 0, .int .i64 0, .int .i64 0, .int .i64 0, .int .i64 0, .int .i64 0, .int .i64 0, .int .i64 0, .int .i64 0, .int .i64 0, .int .i64 0, .int .i64 0, .int .i64 0, .int .i64 0, .int .i64 0] 29)) (n + 1) [.int .i64 a1, .int .i64 b1, .int .i64 c1]) := h56q.out.new (.cells #[.int .i64 0, .int .i64 0, .int .i64 0, .int .i64 0, .int .i64 0, .int .i64 0, .int .i64 0, .int .i64 0, .int .i64 0, .int .i64 0, .int .i64 0, .int .i64 0, .int .i64 0, .int .i64 0, .int .i64 0, .int .i64 0] 29)
            have h67q : Hid (TAt (u53q.alloc (.cells #[.int .i64 0, .int .i64 0, .int .i64 0, .int .i64 0, .int .i64 0, .int .i64 0, .int .i64 0, .int .i64 0, .int .i64 0, .int .i64 0, .int .i64 0, .int .i64 0, .int .i64 0, .int .i64 0, .int .i64 0, .int .i64 0] 29)) u10q.heap.size u) := h57q.out.new (.cells #[.int .i64 0, .int .i64 0, .int .i64 0, .int .i64 0, .int .i64 0, .int .i64 0, .int .i64 0, .int .i64 0, .int .i64 0, .int .i64 0, .int .i64 0, .int .i64 0, .int .i64 0, .int .i64 0, .int .i64 0, .int .i64 0] 29)
            have h68q : Hid (Bo (u53q.alloc (.cells #[.int .i64 0, .int .i64 0, .int .i64 0, .int .i64 0, .int .i64 0, .int .i64 0, .int .i64 0, .int .i64 0, .int .i64 0, .int .i64 0, .int .i64 0, .int .i64 0, .int .i64 0, .int .i64 0, .int .i64 0, .int .i64 0] 29)) (u10q.heap.size + 1) [.int .i64 (c), .int .i64 (y)]) := h58q.out.new (.cells #[.int .i64 0, .int .i64 0, .int .i64 0, .int .i64 0, .int .i64 0, .int .i64 0, .int .i64 0, .int .i64 0, .int .i64 0, .int .i64 0, .int .i64 0, .int .i64 0, .int .i64 0, .int .i64 0, .int .i64 0, .int .i64 0] 29)
            clear h54q h55q h56q h57q h58q
            have h69q : Hid (TAt (u53q.alloc (.cells #[.int .i64 0, .int .i64 0, .int .i64 0, .int .i64 0, .int .i64 0, .int .i64 0, .int .i64 0, .int .i64 0, .int .i64 0, .int .i64 0, .int .i64 0, .int .i64 0, .int .i64 0, .int .i64 0, .int .i64 0, .int .i64 0] 29)) u53q.heap.size Tb.zero) := TAt.bornZero u53q 29 (by simp)
            refine hK.out _ _ ⟨h65q.out, h66q.out⟩ (fun hH => ?_)
            clear hK K
            generalize (u53q.alloc (.cells #[.int .i64 0, .int .i64 0, .int .i64 0, .int .i64 0, .int .i64 0, .int .i64 0, .int .i64 0, .int .i64 0, .int .i64 0, .int .i64 0, .int .i64 0, .int .i64 0, .int .i64 0, .int .i64 0, .int .i64 0, .int .i64 0] 29)) = u70q at h64q h65q h66q h67q h68q h69q hH ⊢
            try simp only [Act.put, List.setIfInBounds_toArray, List.set_cons_zero, List.set_cons_succ]
            refine wpAnyH_ready (rs := [8]) (by kernel_rfl) (by simp) ?_
            refine AllReadyH.cons (o := { dst := some 8, op := .alloc _, type := _, pos := _, after := _, guard := _ }) rfl (fun K hK => ?_) AllReadyH.nil
            have l71q : n ≤ u70q.heap.size := h64q.out.le
            have l72q : n < u70q.heap.size := h65q.out.lt
            have l73q : (n + 1) < u70q.heap.size := h66q.out.lt
            have l74q : u10q.heap.size < u70q.heap.size := h67q.out.lt
            have l75q : (u10q.heap.size + 1) < u70q.heap.size := h68q.out.lt
            have l76q : u53q.heap.size < u70q.heap.size := h69q.out.lt
            go_simp
            have h77q : Hid (Gd n w (u70q.alloc (.cells #[.int .i64 0, .int .i64 0] 37))) := h64q.out.new (.cells #[.int .i64 0, .int .i64 0] 37)
            have h78q : Hid (TAt (u70q.alloc (.cells #[.int .i64 0, .int .i64 0] 37)) n t0) := h65q.out.new (.cells #[.int .i64 0, .int .i64 0] 37)
            have h79q : Hid (Bo (u70q.alloc (.cells #[.int .i64 0, .int .i64 0] 37)) (n + 1) [.int .i64 a1, .int .i64 b1, .int .i64 c1]) := h66q.out.new (.cells #[.int .i64 0, .int .i64 0] 37)
            have h80q : Hid (TAt (u70q.alloc (.cells #[.int .i64 0, .int .i64 0] 37)) u10q.heap.size u) := h67q.out.new (.cells #[.int .i64 0, .int .i64 0] 37)
            have h81q : Hid (Bo (u70q.alloc (.cells #[.int .i64 0, .int .i64 0] 37)) (u10q.heap.size + 1) [.int .i64 (c), .int .i64 (y)]) := h68q.out.new (.cells #[.int .i64 0, .int .i64 0] 37)
            have h82q : Hid (TAt (u70q.alloc (.cells #[.int .i64 0, .int .i64 0] 37)) u53q.heap.size Tb.zero) := h69q.out.new (.cells #[.int .i64 0, .int .i64 0] 37)
            clear h64q h65q h66q h67q h68q h69q
            have h83q : Hid (Bo (u70q.alloc (.cells #[.int .i64 0, .int .i64 0] 37)) u70q.heap.size [.int .i64 0, .int .i64 0]) := Bo.born u70q [.int .i64 0, .int .i64 0] 37 (by simp)
            refine hK.out _ _ ⟨h78q.out, h79q.out⟩ (fun hH => ?_)
            clear hK K
            generalize (u70q.alloc (.cells #[.int .i64 0, .int .i64 0] 37)) = u84q at h77q h78q h79q h80q h81q h82q h83q hH ⊢
            try simp only [Act.put, List.setIfInBounds_toArray, List.set_cons_zero, List.set_cons_succ]
            refine wpAnyH_ready (rs := [9]) (by kernel_rfl) (by simp) ?_
            refine AllReadyH.cons (o := { dst := none, op := .store _ (.tmp 7) (.tmp 23), type := _, pos := _, after := _, guard := _ }) rfl (fun K hK => ?_) AllReadyH.nil
            rw [if_pos (by rfl)]
            refine wp_store_mid _ _ _ rfl u53q.heap.size _ u.all.toArray rfl rfl (h82q.out.thereOf u) (HZ.out u) (u.all_all) ?_
            simp only [Act.put]
            have h85q : Hid (Gd n w (u84q.setCells u53q.heap.size 0 u.all)) := h77q.out.asideAll (by omega) u
            have h86q : Hid (TAt (u84q.setCells u53q.heap.size 0 u.all) n t0) := h78q.out.asideAll (by omega) u
            have h87q : Hid (Bo (u84q.setCells u53q.heap.size 0 u.all) (n + 1) [.int .i64 a1, .int .i64 b1, .int .i64 c1]) := h79q.out.asideAll (by omega) u
            have h88q : Hid (TAt (u84q.setCells u53q.heap.size 0 u.all) u10q.heap.size u) := h80q.out.asideAll (by omega) u
            have h89q : Hid (Bo (u84q.setCells u53q.heap.size 0 u.all) (u10q.heap.size + 1) [.int .i64 (c), .int .i64 (y)]) := h81q.out.asideAll (by omega) u
            have h90q : Hid (TAt (u84q.setCells u53q.heap.size 0 u.all) u53q.heap.size u) := h82q.out.setAll u
            have h91q : Hid (Bo (u84q.setCells u53q.heap.size 0 u.all) u70q.heap.size [.int .i64 0, .int .i64 0]) := h83q.out.asideAll (by omega) u
            clear h77q h78q h79q h80q h81q h82q h83q
            refine hK.out _ _ ⟨h86q.out, h87q.out⟩ (fun hH => ?_)
            clear hK K
            generalize (u84q.setCells u53q.heap.size 0 u.all) = u92q at h85q h86q h87q h88q h89q h90q h91q hH ⊢
            try simp only [Act.put, List.setIfInBounds_toArray, List.set_cons_zero, List.set_cons_succ]
            refine wpAnyH_ready (rs := [10]) (by kernel_rfl) (by simp) ?_
            refine AllReadyH.cons (o := { dst := none, op := .store _ (.tmp 8) (.tmp 24), type := _, pos := _, after := _, guard := _ }) rfl (fun K hK => ?_) AllReadyH.nil
            rw [if_pos (by rfl)]
            refine wp_store_mid _ _ _ rfl u70q.heap.size _ #[.int .i64 (c), .int .i64 (y)] rfl rfl h91q.out.there2 HA.out (two_one _ _) ?_
            simp only [Act.put]
            have h93q : Hid (Gd n w (u92q.setCells u70q.heap.size 0 [.int .i64 (c), .int .i64 (y)])) := h85q.out.asideL (by omega) 0 [.int .i64 (c), .int .i64 (y)]
            have h94q : Hid (TAt (u92q.setCells u70q.heap.size 0 [.int .i64 (c), .int .i64 (y)]) n t0) := h86q.out.asideL (by omega) 0 [.int .i64 (c), .int .i64 (y)]
            have h95q : Hid (Bo (u92q.setCells u70q.heap.size 0 [.int .i64 (c), .int .i64 (y)]) (n + 1) [.int .i64 a1, .int .i64 b1, .int .i64 c1]) := h87q.out.asideL (by omega) 0 [.int .i64 (c), .int .i64 (y)]
            have h96q : Hid (TAt (u92q.setCells u70q.heap.size 0 [.int .i64 (c), .int .i64 (y)]) u10q.heap.size u) := h88q.out.asideL (by omega) 0 [.int .i64 (c), .int .i64 (y)]
            have h97q : Hid (Bo (u92q.setCells u70q.heap.size 0 [.int .i64 (c), .int .i64 (y)]) (u10q.heap.size + 1) [.int .i64 (c), .int .i64 (y)]) := h89q.out.asideL (by omega) 0 [.int .i64 (c), .int .i64 (y)]
            have h98q : Hid (TAt (u92q.setCells u70q.heap.size 0 [.int .i64 (c), .int .i64 (y)]) u53q.heap.size u) := h90q.out.asideL (by omega) 0 [.int .i64 (c), .int .i64 (y)]
            have h99q : Hid (Bo (u92q.setCells u70q.heap.size 0 [.int .i64 (c), .int .i64 (y)]) u70q.heap.size [.int .i64 (c), .int .i64 (y)]) := h91q.out.set2 (.int .i64 (c)) (.int .i64 (y))
            clear h85q h86q h87q h88q h89q h90q h91q
            refine hK.out _ _ ⟨h94q.out, h95q.out⟩ (fun hH => ?_)
            clear hK K
            generalize (u92q.setCells u70q.heap.size 0 [.int .i64 (c), .int .i64 (y)]) = u100q at h93q h94q h95q h96q h97q h98q h99q hH ⊢
            try simp only [Act.put, List.setIfInBounds_toArray, List.set_cons_zero, List.set_cons_succ]
            refine wpAnyH_done (by kernel_rfl) ?_ _
            go_wp2_with fail
            go_meet
            case rel => exact ⟨u53q.heap.size, u70q.heap.size, rfl, rfl, h93q, h96q, h97q, h98q, h99q⟩
          refine AllReadyH.cons (o := { dst := some 8, op := .alloc _, type := _, pos := _, after := _, guard := _ }) rfl (fun K hK => ?_) AllReadyH.nil
          have l101q : n ≤ u53q.heap.size := h54q.out.le
          have l102q : n < u53q.heap.size := h55q.out.lt
          have l103q : (n + 1) < u53q.heap.size := h56q.out.lt
          have l104q : u10q.heap.size < u53q.heap.size := h57q.out.lt
          have l105q : (u10q.heap.size + 1) < u53q.heap.size := h58q.out.lt
          go_simp
          have h106q : Hid (Gd n w (u53q.alloc (.cells #[.int .i64 0, .int .i64 0] 37))) := h54q.out.new (.cells #[.int .i64 0, .int .i64 0] 37)
          have h107q : Hid (TAt (u53q.alloc (.cells #[.int .i64 0, .int .i64 0] 37)) n t0) := h55q.out.new (.cells #[.int .i64 0, .int .i64 0] 37)
          have h108q : Hid (Bo (u53q.alloc (.cells #[.int .i64 0, .int .i64 0] 37)) (n + 1) [.int .i64 a1, .int .i64 b1, .int .i64 c1]) := h56q.out.new (.cells #[.int .i64 0, .int .i64 0] 37)
          have h109q : Hid (TAt (u53q.alloc (.cells #[.int .i64 0, .int .i64 0] 37)) u10q.heap.size u) := h57q.out.new (.cells #[.int .i64 0, .int .i64 0] 37)
          have h110q : Hid (Bo (u53q.alloc (.cells #[.int .i64 0, .int .i64 0] 37)) (u10q.heap.size + 1) [.int .i64 (c), .int .i64 (y)]) := h58q.out.new (.cells #[.int .i64 0, .int .i64 0] 37)
          clear h54q h55q h56q h57q h58q
          have h111q : Hid (Bo (u53q.alloc (.cells #[.int .i64 0, .int .i64 0] 37)) u53q.heap.size [.int .i64 0, .int .i64 0]) := Bo.born u53q [.int .i64 0, .int .i64 0] 37 (by simp)
          refine hK.out _ _ ⟨h107q.out, h108q.out⟩ (fun hH => ?_)
          clear hK K
          generalize (u53q.alloc (.cells #[.int .i64 0, .int .i64 0] 37)) = u112q at h106q h107q h108q h109q h110q h111q hH ⊢
          try simp only [Act.put, List.setIfInBounds_toArray, List.set_cons_zero, List.set_cons_succ]
          refine wpAnyH_ready (rs := [7]) (by kernel_rfl) (by simp) ?_
          refine AllReadyH.cons (o := { dst := some 7, op := .alloc _, type := _, pos := _, after := _, guard := _ }) rfl (fun K hK => ?_) AllReadyH.nil
          have l113q : n ≤ u112q.heap.size := h106q.out.le
          have l114q : n < u112q.heap.size := h107q.out.lt
          have l115q : (n + 1) < u112q.heap.size := h108q.out.lt
          have l116q : u10q.heap.size < u112q.heap.size := h109q.out.lt
          have l117q : (u10q.heap.size + 1) < u112q.heap.size := h110q.out.lt
          have l118q : u53q.heap.size < u112q.heap.size := h111q.out.lt
          go_simp
          have h119q : Hid (Gd n w (u112q.alloc (.cells #[.int .i64 0, .int .i64 0, .int .i64 0, .int .i64 0, .int .i64 0, .int .i64 0, .int .i64 0, .int .i64 0, .int .i64 0, .int .i64 0, .int .i64 0, .int .i64 0, .int .i64 0, .int .i64 0, .int .i64 0, .int .i64 0] 29))) := h106q.out.new (.cells #[.int .i64 0, .int .i64 0, .int .i64 0, .int .i64 0, .int .i64 0, .int .i64 0, .int .i64 0, .int .i64 0, .int .i64 0, .int .i64 0, .int .i64 0, .int .i64 0, .int .i64 0, .int .i64 0, .int .i64 0, .int .i64 0] 29)
          have h120q : Hid (TAt (u112q.alloc (.cells #[.int .i64 0, .int .i64 0, .int .i64 0, .int .i64 0, .int .i64 0, .int .i64 0, .int .i64 0, .int .i64 0, .int .i64 0, .int .i64 0, .int .i64 0, .int .i64 0, .int .i64 0, .int .i64 0, .int .i64 0, .int .i64 0] 29)) n t0) := h107q.out.new (.cells #[.int .i64 0, .int .i64 0, .int .i64 0, .int .i64 0, .int .i64 0, .int .i64 0, .int .i64 0, .int .i64 0, .int .i64 0, .int .i64 0, .int .i64 0, .int .i64 0, .int .i64 0, .int .i64 0, .int .i64 0, .int .i64 0] 29)
          have h121q : Hid (Bo (u112q.alloc (.cells #[.int .i64 0, .int .i64 0, .int .i64 0, .int .i64 0, .int .i64 0, .int .i64 0, .int .i64 0, .int .i64 0, .int .i64 0, .int .i64 0, .int .i64 0, .int .i64 0, .int .i64 0, .int .i64 0, .int .i64 0, .int .i64 0] 29)) (n + 1) [.int .i64 a1, .int .i64 b1, .int .i64 c1]) := h108q.out.new (.cells #[.int .i64 0, .int .i64 0, .int .i64 0, .int .i64 0, .int .i64 0, .int .i64 0, .int .i64 0, .int .i64 0, .int .i64 0, .int .i64 0, .int .i64 0, .int .i64 0, .int .i64 0, .int .i64 0, .int .i64 0, .int .i64 0] 29)
          have h122q : Hid (TAt (u112q.alloc (.cells #[.int .i64 0, .int .i64 0, .int .i64 0, .int .i64 0, .int .i64 0, .int .i64 0, .int .i64 0, .int .i64 0, .int .i64 0, .int .i64 0, .int .i64 0, .int .i64 0, .int .i64 0, .int .i64 0, .int .i64 0, .int .i64 0] 29)) u10q.heap.size u) := h109q.out.new (.cells #[.int .i64 0, .int .i64 0, .int .i64 0, .int .i64 0, .int .i64 0, .int .i64 0, .int .i64 0, .int .i64 0, .int .i64 0, .int .i64 0, .int .i64 0, .int .i64 0, .int .i64 0, .int .i64 0, .int .i64 0, .int .i64 0] 29)
          have h123q : Hid (Bo (u112q.alloc (.cells #[.int .i64 0, .int .i64 0, .int .i64 0, .int .i64 0, .int .i64 0, .int .i64 0, .int .i64 0, .int .i64 0, .int .i64 0, .int .i64 0, .int .i64 0, .int .i64 0, .int .i64 0, .int .i64 0, .int .i64 0, .int .i64 0] 29)) (u10q.heap.size + 1) [.int .i64 (c), .int .i64 (y)]) := h110q.out.new (.cells #[.int .i64 0, .int .i64 0, .int .i64 0, .int .i64 0, .int .i64 0, .int .i64 0, .int .i64 0, .int .i64 0, .int .i64 0, .int .i64 0, .int .i64 0, .int .i64 0, .int .i64 0, .int .i64 0, .int .i64 0, .int .i64 0] 29)
          have h124q : Hid (Bo (u112q.alloc (.cells #[.int .i64 0, .int .i64 0, .int .i64 0, .int .i64 0, .int .i64 0, .int .i64 0, .int .i64 0, .int .i64 0, .int .i64 0, .int .i64 0, .int .i64 0, .int .i64 0, .int .i64 0, .int .i64 0, .int .i64 0, .int .i64 0] 29)) u53q.heap.size [.int .i64 0, .int .i64 0]) := h111q.out.new (.cells #[.int .i64 0, .int .i64 0, .int .i64 0, .int .i64 0, .int .i64 0, .int .i64 0, .int .i64 0, .int .i64 0, .int .i64 0, .int .i64 0, .int .i64 0, .int .i64 0, .int .i64 0, .int .i64 0, .int .i64 0, .int .i64 0] 29)
          clear h106q h107q h108q h109q h110q h111q
          have h125q : Hid (TAt (u112q.alloc (.cells #[.int .i64 0, .int .i64 0, .int .i64 0, .int .i64 0, .int .i64 0, .int .i64 0, .int .i64 0, .int .i64 0, .int .i64 0, .int .i64 0, .int .i64 0, .int .i64 0, .int .i64 0, .int .i64 0, .int .i64 0, .int .i64 0] 29)) u112q.heap.size Tb.zero) := TAt.bornZero u112q 29 (by simp)
          refine hK.out _ _ ⟨h120q.out, h121q.out⟩ (fun hH => ?_)
          clear hK K
          generalize (u112q.alloc (.cells #[.int .i64 0, .int .i64 0, .int .i64 0, .int .i64 0, .int .i64 0, .int .i64 0, .int .i64 0, .int .i64 0, .int .i64 0, .int .i64 0, .int .i64 0, .int .i64 0, .int .i64 0, .int .i64 0, .int .i64 0, .int .i64 0] 29)) = u126q at h119q h120q h121q h122q h123q h124q h125q hH ⊢
          try simp only [Act.put, List.setIfInBounds_toArray, List.set_cons_zero, List.set_cons_succ]
          refine wpAnyH_ready (rs := [9]) (by kernel_rfl) (by simp) ?_
          refine AllReadyH.cons (o := { dst := none, op := .store _ (.tmp 7) (.tmp 23), type := _, pos := _, after := _, guard := _ }) rfl (fun K hK => ?_) AllReadyH.nil
          rw [if_pos (by rfl)]
          refine wp_store_mid _ _ _ rfl u112q.heap.size _ u.all.toArray rfl rfl (h125q.out.thereOf u) (HZ.out u) (u.all_all) ?_
          simp only [Act.put]
          have h127q : Hid (Gd n w (u126q.setCells u112q.heap.size 0 u.all)) := h119q.out.asideAll (by omega) u
          have h128q : Hid (TAt (u126q.setCells u112q.heap.size 0 u.all) n t0) := h120q.out.asideAll (by omega) u
          have h129q : Hid (Bo (u126q.setCells u112q.heap.size 0 u.all) (n + 1) [.int .i64 a1, .int .i64 b1, .int .i64 c1]) := h121q.out.asideAll (by omega) u
          have h130q : Hid (TAt (u126q.setCells u112q.heap.size 0 u.all) u10q.heap.size u) := h122q.out.asideAll (by omega) u
          have h131q : Hid (Bo (u126q.setCells u112q.heap.size 0 u.all) (u10q.heap.size + 1) [.int .i64 (c), .int .i64 (y)]) := h123q.out.asideAll (by omega) u
          have h132q : Hid (Bo (u126q.setCells u112q.heap.size 0 u.all) u53q.heap.size [.int .i64 0, .int .i64 0]) := h124q.out.asideAll (by omega) u
          have h133q : Hid (TAt (u126q.setCells u112q.heap.size 0 u.all) u112q.heap.size u) := h125q.out.setAll u
          clear h119q h120q h121q h122q h123q h124q h125q
          refine hK.out _ _ ⟨h128q.out, h129q.out⟩ (fun hH => ?_)
          clear hK K
          generalize (u126q.setCells u112q.heap.size 0 u.all) = u134q at h127q h128q h129q h130q h131q h132q h133q hH ⊢
          try simp only [Act.put, List.setIfInBounds_toArray, List.set_cons_zero, List.set_cons_succ]
          refine wpAnyH_ready (rs := [10]) (by kernel_rfl) (by simp) ?_
          refine AllReadyH.cons (o := { dst := none, op := .store _ (.tmp 8) (.tmp 24), type := _, pos := _, after := _, guard := _ }) rfl (fun K hK => ?_) AllReadyH.nil
          rw [if_pos (by rfl)]
          refine wp_store_mid _ _ _ rfl u53q.heap.size _ #[.int .i64 (c), .int .i64 (y)] rfl rfl h132q.out.there2 HA.out (two_one _ _) ?_
          simp only [Act.put]
          have h135q : Hid (Gd n w (u134q.setCells u53q.heap.size 0 [.int .i64 (c), .int .i64 (y)])) := h127q.out.asideL (by omega) 0 [.int .i64 (c), .int .i64 (y)]
          have h136q : Hid (TAt (u134q.setCells u53q.heap.size 0 [.int .i64 (c), .int .i64 (y)]) n t0) := h128q.out.asideL (by omega) 0 [.int .i64 (c), .int .i64 (y)]
          have h137q : Hid (Bo (u134q.setCells u53q.heap.size 0 [.int .i64 (c), .int .i64 (y)]) (n + 1) [.int .i64 a1, .int .i64 b1, .int .i64 c1]) := h129q.out.asideL (by omega) 0 [.int .i64 (c), .int .i64 (y)]
          have h138q : Hid (TAt (u134q.setCells u53q.heap.size 0 [.int .i64 (c), .int .i64 (y)]) u10q.heap.size u) := h130q.out.asideL (by omega) 0 [.int .i64 (c), .int .i64 (y)]
          have h139q : Hid (Bo (u134q.setCells u53q.heap.size 0 [.int .i64 (c), .int .i64 (y)]) (u10q.heap.size + 1) [.int .i64 (c), .int .i64 (y)]) := h131q.out.asideL (by omega) 0 [.int .i64 (c), .int .i64 (y)]
          have h140q : Hid (Bo (u134q.setCells u53q.heap.size 0 [.int .i64 (c), .int .i64 (y)]) u53q.heap.size [.int .i64 (c), .int .i64 (y)]) := h132q.out.set2 (.int .i64 (c)) (.int .i64 (y))
          have h141q : Hid (TAt (u134q.setCells u53q.heap.size 0 [.int .i64 (c), .int .i64 (y)]) u112q.heap.size u) := h133q.out.asideL (by omega) 0 [.int .i64 (c), .int .i64 (y)]
          clear h127q h128q h129q h130q h131q h132q h133q
          refine hK.out _ _ ⟨h136q.out, h137q.out⟩ (fun hH => ?_)
          clear hK K
          generalize (u134q.setCells u53q.heap.size 0 [.int .i64 (c), .int .i64 (y)]) = u142q at h135q h136q h137q h138q h139q h140q h141q hH ⊢
          try simp only [Act.put, List.setIfInBounds_toArray, List.set_cons_zero, List.set_cons_succ]
          refine wpAnyH_done (by kernel_rfl) ?_ _
          go_wp2_with fail
          go_meet
          case rel => exact ⟨u112q.heap.size, u53q.heap.size, rfl, rfl, h135q, h138q, h139q, h141q, h140q⟩
        refine AllReadyH.cons (o := { dst := some 7, op := .alloc _, type := _, pos := _, after := _, guard := _ }) rfl (fun K hK => ?_) ?_
        · have l143q : n ≤ u47q.heap.size := h48q.out.le
          have l144q : n < u47q.heap.size := h49q.out.lt
          have l145q : (n + 1) < u47q.heap.size := h50q.out.lt
          have l146q : u10q.heap.size < u47q.heap.size := h51q.out.lt
          have l147q : (u10q.heap.size + 1) < u47q.heap.size := h52q.out.lt
          go_simp
          have h148q : Hid (Gd n w (u47q.alloc (.cells #[.int .i64 0, .int .i64 0, .int .i64 0, .int .i64 0, .int .i64 0, .int .i64 0, .int .i64 0, .int .i64 0, .int .i64 0, .int .i64 0, .int .i64 0, .int .i64 0, .int .i64 0, .int .i64 0, .int .i64 0, .int .i64 0] 29))) := h48q.out.new (.cells #[.int .i64 0, .int .i64 0, .int .i64 0, .int .i64 0, .int .i64 0, .int .i64 0, .int .i64 0, .int .i64 0, .int .i64 0, .int .i64 0, .int .i64 0, .int .i64 0, .int .i64 0, .int .i64 0, .int .i64 0, .int .i64 0] 29)
          have h149q : Hid (TAt (u47q.alloc (.cells #[.int .i64 0, .int .i64 0, .int .i64 0, .int .i64 0, .int .i64 0, .int .i64 0, .int .i64 0, .int .i64 0, .int .i64 0, .int .i64 0, .int .i64 0, .int .i64 0, .int .i64 0, .int .i64 0, .int .i64 0, .int .i64 0] 29)) n t0) := h49q.out.new (.cells #[.int .i64 0, .int .i64 0, .int .i64 0, .int .i64 0, .int .i64 0, .int .i64 0, .int .i64 0, .int .i64 0, .int .i64 0, .int .i64 0, .int .i64 0, .int .i64 0, .int .i64 0, .int .i64 0, .int .i64 0, .int .i64 0] 29)
          have h150q : Hid (Bo (u47q.alloc (.cells #[.int .i64 0, .int .i64 0, .int .i64 0, .int .i64 0, .int .i64 0, .int .i64 0, .int .i64 0, .int .i64 0, .int .i64 0, .int .i64 0, .int .i64 0, .int .i64 0, .int .i64 0, .int .i64 0, .int .i64 0, .int .i64 0] 29)) (n + 1) [.int .i64 a1, .int .i64 b1, .int .i64 c1]) := h50q.out.new (.cells #[.int .i64 0, .int .i64 0, .int .i64 0, .int .i64 0, .int .i64 0, .int .i64 0, .int .i64 0, .int .i64 0, .int .i64 0, .int .i64 0, .int .i64 0, .int .i64 0, .int .i64 0, .int .i64 0, .int .i64 0, .int .i64 0] 29)
          have h151q : Hid (TAt (u47q.alloc (.cells #[.int .i64 0, .int .i64 0, .int .i64 0, .int .i64 0, .int .i64 0, .int .i64 0, .int .i64 0, .int .i64 0, .int .i64 0, .int .i64 0, .int .i64 0, .int .i64 0, .int .i64 0, .int .i64 0, .int .i64 0, .int .i64 0] 29)) u10q.heap.size u) := h51q.out.new (.cells #[.int .i64 0, .int .i64 0, .int .i64 0, .int .i64 0, .int .i64 0, .int .i64 0, .int .i64 0, .int .i64 0, .int .i64 0, .int .i64 0, .int .i64 0, .int .i64 0, .int .i64 0, .int .i64 0, .int .i64 0, .int .i64 0] 29)
          have h152q : Hid (Bo (u47q.alloc (.cells #[.int .i64 0, .int .i64 0, .int .i64 0, .int .i64 0, .int .i64 0, .int .i64 0, .int .i64 0, .int .i64 0, .int .i64 0, .int .i64 0, .int .i64 0, .int .i64 0, .int .i64 0, .int .i64 0, .int .i64 0, .int .i64 0] 29)) (u10q.heap.size + 1) [.int .i64 (c), .int .i64 (y)]) := h52q.out.new (.cells #[.int .i64 0, .int .i64 0, .int .i64 0, .int .i64 0, .int .i64 0, .int .i64 0, .int .i64 0, .int .i64 0, .int .i64 0, .int .i64 0, .int .i64 0, .int .i64 0, .int .i64 0, .int .i64 0, .int .i64 0, .int .i64 0] 29)
          clear h48q h49q h50q h51q h52q
          have h153q : Hid (TAt (u47q.alloc (.cells #[.int .i64 0, .int .i64 0, .int .i64 0, .int .i64 0, .int .i64 0, .int .i64 0, .int .i64 0, .int .i64 0, .int .i64 0, .int .i64 0, .int .i64 0, .int .i64 0, .int .i64 0, .int .i64 0, .int .i64 0, .int .i64 0] 29)) u47q.heap.size Tb.zero) := TAt.bornZero u47q 29 (by simp)
          refine hK.out _ _ ⟨h149q.out, h150q.out⟩ (fun hH => ?_)
          clear hK K
          generalize (u47q.alloc (.cells #[.int .i64 0, .int .i64 0, .int .i64 0, .int .i64 0, .int .i64 0, .int .i64 0, .int .i64 0, .int .i64 0, .int .i64 0, .int .i64 0, .int .i64 0, .int .i64 0, .int .i64 0, .int .i64 0, .int .i64 0, .int .i64 0] 29)) = u154q at h148q h149q h150q h151q h152q h153q hH ⊢
          try simp only [Act.put, List.setIfInBounds_toArray, List.set_cons_zero, List.set_cons_succ]
          refine wpAnyH_ready (rs := [3, 8]) (by kernel_rfl) (by simp) ?_
          refine AllReadyH.cons (o := { dst := some 22, op := _, type := _, pos := _, after := _, guard := _ }) rfl (fun K hK => ?_) ?_
          · go_simp
            refine (PD _).mono ?_
            rintro e u155q ⟨rfl, hb⟩
            have h156q : Hid (Gd n w u155q) := h148q.out.later hb
            have h157q : Hid (TAt u155q n t0) := h149q.out.later hb
            have h158q : Hid (Bo u155q (n + 1) [.int .i64 a1, .int .i64 b1, .int .i64 c1]) := h150q.out.later hb
            have h159q : Hid (TAt u155q u10q.heap.size u) := h151q.out.later hb
            have h160q : Hid (Bo u155q (u10q.heap.size + 1) [.int .i64 (c), .int .i64 (y)]) := h152q.out.later hb
            have h161q : Hid (TAt u155q u47q.heap.size Tb.zero) := h153q.out.later hb
            clear h148q h149q h150q h151q h152q h153q
            clear hb
            go_wp2_with fail
            refine hK.out _ _ ⟨h157q.out, h158q.out⟩ (fun hH => ?_)
            clear hK K
            try simp only [Act.put, List.setIfInBounds_toArray, List.set_cons_zero, List.set_cons_succ]
            refine wpAnyH_take (i := 4) (oi := { dst := some 18, op := .move (.tmp 22), type := _, pos := _, after := _, guard := _ }) (v := ?_) rfl (by kernel_rfl) (by kernel_rfl) (by kernel_rfl) (fun _ _ _ h => h) (Or.inl ⟨by rfl, ?_⟩) hH ?_
            rotate_left
            · intro w hSw
              clear hSw
              go_simp
              try with_reducible rfl
            simp only [Act.put, List.setIfInBounds_toArray, List.set_cons_zero, List.set_cons_succ]
            refine wpAnyH_take (i := 5) (oi := { dst := some 23, op := .extract (.tmp 18) 0, type := _, pos := _, after := _, guard := _ }) (v := ?_) rfl (by kernel_rfl) (by kernel_rfl) (by kernel_rfl) (fun _ _ _ h => h) (Or.inl ⟨by rfl, ?_⟩) hH ?_
            rotate_left
            · intro w hSw
              clear hSw
              go_simp
              try with_reducible rfl
            simp only [Act.put, List.setIfInBounds_toArray, List.set_cons_zero, List.set_cons_succ]
            refine wpAnyH_take (i := 6) (oi := { dst := some 24, op := .extract (.tmp 18) 1, type := _, pos := _, after := _, guard := _ }) (v := ?_) rfl (by kernel_rfl) (by kernel_rfl) (by kernel_rfl) (fun _ _ _ h => h) (Or.inl ⟨by rfl, ?_⟩) hH ?_
            rotate_left
            · intro w hSw
              clear hSw
              go_simp
              try with_reducible rfl
            simp only [Act.put, List.setIfInBounds_toArray, List.set_cons_zero, List.set_cons_succ]
            refine wpAnyH_ready (rs := [8]) (by kernel_rfl) (by simp) ?_
            refine AllReadyH.cons (o := { dst := some 8, op := .alloc _, type := _, pos := _, after := _, guard := _ }) rfl (fun K hK => ?_) AllReadyH.nil
            have l162q : n ≤ u155q.heap.size := h156q.out.le
            have l163q : n < u155q.heap.size := h157q.out.lt
            have l164q : (n + 1) < u155q.heap.size := h158q.out.lt
            have l165q : u10q.heap.size < u155q.heap.size := h159q.out.lt
            have l166q : (u10q.heap.size + 1) < u155q.heap.size := h160q.out.lt
            have l167q : u47q.heap.size < u155q.heap.size := h161q.out.lt
            go_simp
            have h168q : Hid (Gd n w (u155q.alloc (.cells #[.int .i64 0, .int .i64 0] 37))) := h156q.out.new (.cells #[.int .i64 0, .int .i64 0] 37)
            have h169q : Hid (TAt (u155q.alloc (.cells #[.int .i64 0, .int .i64 0] 37)) n t0) := h157q.out.new (.cells #[.int .i64 0, .int .i64 0] 37)
            have h170q : Hid (Bo (u155q.alloc (.cells #[.int .i64 0, .int .i64 0] 37)) (n + 1) [.int .i64 a1, .int .i64 b1, .int .i64 c1]) := h158q.out.new (.cells #[.int .i64 0, .int .i64 0] 37)
            have h171q : Hid (TAt (u155q.alloc (.cells #[.int .i64 0, .int .i64 0] 37)) u10q.heap.size u) := h159q.out.new (.cells #[.int .i64 0, .int .i64 0] 37)
            have h172q : Hid (Bo (u155q.alloc (.cells #[.int .i64 0, .int .i64 0] 37)) (u10q.heap.size + 1) [.int .i64 (c), .int .i64 (y)]) := h160q.out.new (.cells #[.int .i64 0, .int .i64 0] 37)
            have h173q : Hid (TAt (u155q.alloc (.cells #[.int .i64 0, .int .i64 0] 37)) u47q.heap.size Tb.zero) := h161q.out.new (.cells #[.int .i64 0, .int .i64 0] 37)
            clear h156q h157q h158q h159q h160q h161q
            have h174q : Hid (Bo (u155q.alloc (.cells #[.int .i64 0, .int .i64 0] 37)) u155q.heap.size [.int .i64 0, .int .i64 0]) := Bo.born u155q [.int .i64 0, .int .i64 0] 37 (by simp)
            refine hK.out _ _ ⟨h169q.out, h170q.out⟩ (fun hH => ?_)
            clear hK K
            generalize (u155q.alloc (.cells #[.int .i64 0, .int .i64 0] 37)) = u175q at h168q h169q h170q h171q h172q h173q h174q hH ⊢
            try simp only [Act.put, List.setIfInBounds_toArray, List.set_cons_zero, List.set_cons_succ]
            refine wpAnyH_ready (rs := [9]) (by kernel_rfl) (by simp) ?_
            refine AllReadyH.cons (o := { dst := none, op := .store _ (.tmp 7) (.tmp 23), type := _, pos := _, after := _, guard := _ }) rfl (fun K hK => ?_) AllReadyH.nil
            rw [if_pos (by rfl)]
            refine wp_store_mid _ _ _ rfl u47q.heap.size _ u.all.toArray rfl rfl (h173q.out.thereOf u) (HZ.out u) (u.all_all) ?_
            simp only [Act.put]
            have h176q : Hid (Gd n w (u175q.setCells u47q.heap.size 0 u.all)) := h168q.out.asideAll (by omega) u
            have h177q : Hid (TAt (u175q.setCells u47q.heap.size 0 u.all) n t0) := h169q.out.asideAll (by omega) u
            have h178q : Hid (Bo (u175q.setCells u47q.heap.size 0 u.all) (n + 1) [.int .i64 a1, .int .i64 b1, .int .i64 c1]) := h170q.out.asideAll (by omega) u
            have h179q : Hid (TAt (u175q.setCells u47q.heap.size 0 u.all) u10q.heap.size u) := h171q.out.asideAll (by omega) u
            have h180q : Hid (Bo (u175q.setCells u47q.heap.size 0 u.all) (u10q.heap.size + 1) [.int .i64 (c), .int .i64 (y)]) := h172q.out.asideAll (by omega) u
            have h181q : Hid (TAt (u175q.setCells u47q.heap.size 0 u.all) u47q.heap.size u) := h173q.out.setAll u
            have h182q : Hid (Bo (u175q.setCells u47q.heap.size 0 u.all) u155q.heap.size [.int .i64 0, .int .i64 0]) := h174q.out.asideAll (by omega) u
            clear h168q h169q h170q h171q h172q h173q h174q
            refine hK.out _ _ ⟨h177q.out, h178q.out⟩ (fun hH => ?_)
            clear hK K
            generalize (u175q.setCells u47q.heap.size 0 u.all) = u183q at h176q h177q h178q h179q h180q h181q h182q hH ⊢
            try simp only [Act.put, List.setIfInBounds_toArray, List.set_cons_zero, List.set_cons_succ]
            refine wpAnyH_ready (rs := [10]) (by kernel_rfl) (by simp) ?_
            refine AllReadyH.cons (o := { dst := none, op := .store _ (.tmp 8) (.tmp 24), type := _, pos := _, after := _, guard := _ }) rfl (fun K hK => ?_) AllReadyH.nil
            rw [if_pos (by rfl)]
            refine wp_store_mid _ _ _ rfl u155q.heap.size _ #[.int .i64 (c), .int .i64 (y)] rfl rfl h182q.out.there2 HA.out (two_one _ _) ?_
            simp only [Act.put]
            have h184q : Hid (Gd n w (u183q.setCells u155q.heap.size 0 [.int .i64 (c), .int .i64 (y)])) := h176q.out.asideL (by omega) 0 [.int .i64 (c), .int .i64 (y)]
            have h185q : Hid (TAt (u183q.setCells u155q.heap.size 0 [.int .i64 (c), .int .i64 (y)]) n t0) := h177q.out.asideL (by omega) 0 [.int .i64 (c), .int .i64 (y)]
            have h186q : Hid (Bo (u183q.setCells u155q.heap.size 0 [.int .i64 (c), .int .i64 (y)]) (n + 1) [.int .i64 a1, .int .i64 b1, .int .i64 c1]) := h178q.out.asideL (by omega) 0 [.int .i64 (c), .int .i64 (y)]
            have h187q : Hid (TAt (u183q.setCells u155q.heap.size 0 [.int .i64 (c), .int .i64 (y)]) u10q.heap.size u) := h179q.out.asideL (by omega) 0 [.int .i64 (c), .int .i64 (y)]
            have h188q : Hid (Bo (u183q.setCells u155q.heap.size 0 [.int .i64 (c), .int .i64 (y)]) (u10q.heap.size + 1) [.int .i64 (c), .int .i64 (y)]) := h180q.out.asideL (by omega) 0 [.int .i64 (c), .int .i64 (y)]
            have h189q : Hid (TAt (u183q.setCells u155q.heap.size 0 [.int .i64 (c), .int .i64 (y)]) u47q.heap.size u) := h181q.out.asideL (by omega) 0 [.int .i64 (c), .int .i64 (y)]
            have h190q : Hid (Bo (u183q.setCells u155q.heap.size 0 [.int .i64 (c), .int .i64 (y)]) u155q.heap.size [.int .i64 (c), .int .i64 (y)]) := h182q.out.set2 (.int .i64 (c)) (.int .i64 (y))
            clear h176q h177q h178q h179q h180q h181q h182q
            refine hK.out _ _ ⟨h185q.out, h186q.out⟩ (fun hH => ?_)
            clear hK K
            generalize (u183q.setCells u155q.heap.size 0 [.int .i64 (c), .int .i64 (y)]) = u191q at h184q h185q h186q h187q h188q h189q h190q hH ⊢
            try simp only [Act.put, List.setIfInBounds_toArray, List.set_cons_zero, List.set_cons_succ]
            refine wpAnyH_done (by kernel_rfl) ?_ _
            go_wp2_with fail
            go_meet
            case rel => exact ⟨u47q.heap.size, u155q.heap.size, rfl, rfl, h184q, h187q, h188q, h189q, h190q⟩
          refine AllReadyH.cons (o := { dst := some 8, op := .alloc _, type := _, pos := _, after := _, guard := _ }) rfl (fun K hK => ?_) AllReadyH.nil
          have l192q : n ≤ u154q.heap.size := h148q.out.le
          have l193q : n < u154q.heap.size := h149q.out.lt
          have l194q : (n + 1) < u154q.heap.size := h150q.out.lt
          have l195q : u10q.heap.size < u154q.heap.size := h151q.out.lt
          have l196q : (u10q.heap.size + 1) < u154q.heap.size := h152q.out.lt
          have l197q : u47q.heap.size < u154q.heap.size := h153q.out.lt
          go_simp
          have h198q : Hid (Gd n w (u154q.alloc (.cells #[.int .i64 0, .int .i64 0] 37))) := h148q.out.new (.cells #[.int .i64 0, .int .i64 0] 37)
          have h199q : Hid (TAt (u154q.alloc (.cells #[.int .i64 0, .int .i64 0] 37)) n t0) := h149q.out.new (.cells #[.int .i64 0, .int .i64 0] 37)
          have h200q : Hid (Bo (u154q.alloc (.cells #[.int .i64 0, .int .i64 0] 37)) (n + 1) [.int .i64 a1, .int .i64 b1, .int .i64 c1]) := h150q.out.new (.cells #[.int .i64 0, .int .i64 0] 37)
          have h201q : Hid (TAt (u154q.alloc (.cells #[.int .i64 0, .int .i64 0] 37)) u10q.heap.size u) := h151q.out.new (.cells #[.int .i64 0, .int .i64 0] 37)
          have h202q : Hid (Bo (u154q.alloc (.cells #[.int .i64 0, .int .i64 0] 37)) (u10q.heap.size + 1) [.int .i64 (c), .int .i64 (y)]) := h152q.out.new (.cells #[.int .i64 0, .int .i64 0] 37)
          have h203q : Hid (TAt (u154q.alloc (.cells #[.int .i64 0, .int .i64 0] 37)) u47q.heap.size Tb.zero) := h153q.out.new (.cells #[.int .i64 0, .int .i64 0] 37)
          clear h148q h149q h150q h151q h152q h153q
          have h204q : Hid (Bo (u154q.alloc (.cells #[.int .i64 0, .int .i64 0] 37)) u154q.heap.size [.int .i64 0, .int .i64 0]) := Bo.born u154q [.int .i64 0, .int .i64 0] 37 (by simp)
          refine hK.out _ _ ⟨h199q.out, h200q.out⟩ (fun hH => ?_)
          clear hK K
          generalize (u154q.alloc (.cells #[.int .i64 0, .int .i64 0] 37)) = u205q at h198q h199q h200q h201q h202q h203q h204q hH ⊢
          try simp only [Act.put, List.setIfInBounds_toArray, List.set_cons_zero, List.set_cons_succ]
          refine wpAnyH_ready (rs := [3]) (by kernel_rfl) (by simp) ?_
          refine AllReadyH.cons (o := { dst := some 22, op := _, type := _, pos := _, after := _, guard := _ }) rfl (fun K hK => ?_) AllReadyH.nil
          go_simp
          refine (PD _).mono ?_
          rintro e u206q ⟨rfl, hb⟩
          have h207q : Hid (Gd n w u206q) := h198q.out.later hb
          have h208q : Hid (TAt u206q n t0) := h199q.out.later hb
          have h209q : Hid (Bo u206q (n + 1) [.int .i64 a1, .int .i64 b1, .int .i64 c1]) := h200q.out.later hb
          have h210q : Hid (TAt u206q u10q.heap.size u) := h201q.out.later hb
          have h211q : Hid (Bo u206q (u10q.heap.size + 1) [.int .i64 (c), .int .i64 (y)]) := h202q.out.later hb
          have h212q : Hid (TAt u206q u47q.heap.size Tb.zero) := h203q.out.later hb
          have h213q : Hid (Bo u206q u154q.heap.size [.int .i64 0, .int .i64 0]) := h204q.out.later hb
          clear h198q h199q h200q h201q h202q h203q h204q
          clear hb
          go_wp2_with fail
          refine hK.out _ _ ⟨h208q.out, h209q.out⟩ (fun hH => ?_)
          clear hK K
          try simp only [Act.put, List.setIfInBounds_toArray, List.set_cons_zero, List.set_cons_succ]
          refine wpAnyH_take (i := 4) (oi := { dst := some 18, op := .move (.tmp 22), type := _, pos := _, after := _, guard := _ }) (v := ?_) rfl (by kernel_rfl) (by kernel_rfl) (by kernel_rfl) (fun _ _ _ h => h) (Or.inl ⟨by rfl, ?_⟩) hH ?_
          rotate_left
          · intro w hSw
            clear hSw
            go_simp
            try with_reducible rfl
          simp only [Act.put, List.setIfInBounds_toArray, List.set_cons_zero, List.set_cons_succ]
          refine wpAnyH_take (i := 5) (oi := { dst := some 23, op := .extract (.tmp 18) 0, type := _, pos := _, after := _, guard := _ }) (v := ?_) rfl (by kernel_rfl) (by kernel_rfl) (by kernel_rfl) (fun _ _ _ h => h) (Or.inl ⟨by rfl, ?_⟩) hH ?_
          rotate_left
          · intro w hSw
            clear hSw
            go_simp
            try with_reducible rfl
          simp only [Act.put, List.setIfInBounds_toArray, List.set_cons_zero, List.set_cons_succ]
          refine wpAnyH_take (i := 6) (oi := { dst := some 24, op := .extract (.tmp 18) 1, type := _, pos := _, after := _, guard := _ }) (v := ?_) rfl (by kernel_rfl) (by kernel_rfl) (by kernel_rfl) (fun _ _ _ h => h) (Or.inl ⟨by rfl, ?_⟩) hH ?_
          rotate_left
          · intro w hSw
            clear hSw
            go_simp
            try with_reducible rfl
          simp only [Act.put, List.setIfInBounds_toArray, List.set_cons_zero, List.set_cons_succ]
          refine wpAnyH_ready (rs := [9]) (by kernel_rfl) (by simp) ?_
          refine AllReadyH.cons (o := { dst := none, op := .store _ (.tmp 7) (.tmp 23), type := _, pos := _, after := _, guard := _ }) rfl (fun K hK => ?_) AllReadyH.nil
          rw [if_pos (by rfl)]
          refine wp_store_mid _ _ _ rfl u47q.heap.size _ u.all.toArray rfl rfl (h212q.out.thereOf u) (HZ.out u) (u.all_all) ?_
          simp only [Act.put]
          have h214q : Hid (Gd n w (u206q.setCells u47q.heap.size 0 u.all)) := h207q.out.asideAll (by omega) u
          have h215q : Hid (TAt (u206q.setCells u47q.heap.size 0 u.all) n t0) := h208q.out.asideAll (by omega) u
          have h216q : Hid (Bo (u206q.setCells u47q.heap.size 0 u.all) (n + 1) [.int .i64 a1, .int .i64 b1, .int .i64 c1]) := h209q.out.asideAll (by omega) u
          have h217q : Hid (TAt (u206q.setCells u47q.heap.size 0 u.all) u10q.heap.size u) := h210q.out.asideAll (by omega) u
          have h218q : Hid (Bo (u206q.setCells u47q.heap.size 0 u.all) (u10q.heap.size + 1) [.int .i64 (c), .int .i64 (y)]) := h211q.out.asideAll (by omega) u
          have h219q : Hid (TAt (u206q.setCells u47q.heap.size 0 u.all) u47q.heap.size u) := h212q.out.setAll u
          have h220q : Hid (Bo (u206q.setCells u47q.heap.size 0 u.all) u154q.heap.size [.int .i64 0, .int .i64 0]) := h213q.out.asideAll (by omega) u
          clear h207q h208q h209q h210q h211q h212q h213q
          refine hK.out _ _ ⟨h215q.out, h216q.out⟩ (fun hH => ?_)
          clear hK K
          generalize (u206q.setCells u47q.heap.size 0 u.all) = u221q at h214q h215q h216q h217q h218q h219q h220q hH ⊢
          try simp only [Act.put, List.setIfInBounds_toArray, List.set_cons_zero, List.set_cons_succ]
          refine wpAnyH_ready (rs := [10]) (by kernel_rfl) (by simp) ?_
          refine AllReadyH.cons (o := { dst := none, op := .store _ (.tmp 8) (.tmp 24), type := _, pos := _, after := _, guard := _ }) rfl (fun K hK => ?_) AllReadyH.nil
          rw [if_pos (by rfl)]
          refine wp_store_mid _ _ _ rfl u154q.heap.size _ #[.int .i64 (c), .int .i64 (y)] rfl rfl h220q.out.there2 HA.out (two_one _ _) ?_
          simp only [Act.put]
          have h222q : Hid (Gd n w (u221q.setCells u154q.heap.size 0 [.int .i64 (c), .int .i64 (y)])) := h214q.out.asideL (by omega) 0 [.int .i64 (c), .int .i64 (y)]
          have h223q : Hid (TAt (u221q.setCells u154q.heap.size 0 [.int .i64 (c), .int .i64 (y)]) n t0) := h215q.out.asideL (by omega) 0 [.int .i64 (c), .int .i64 (y)]
          have h224q : Hid (Bo (u221q.setCells u154q.heap.size 0 [.int .i64 (c), .int .i64 (y)]) (n + 1) [.int .i64 a1, .int .i64 b1, .int .i64 c1]) := h216q.out.asideL (by omega) 0 [.int .i64 (c), .int .i64 (y)]
          have h225q : Hid (TAt (u221q.setCells u154q.heap.size 0 [.int .i64 (c), .int .i64 (y)]) u10q.heap.size u) := h217q.out.asideL (by omega) 0 [.int .i64 (c), .int .i64 (y)]
          have h226q : Hid (Bo (u221q.setCells u154q.heap.size 0 [.int .i64 (c), .int .i64 (y)]) (u10q.heap.size + 1) [.int .i64 (c), .int .i64 (y)]) := h218q.out.asideL (by omega) 0 [.int .i64 (c), .int .i64 (y)]
          have h227q : Hid (TAt (u221q.setCells u154q.heap.size 0 [.int .i64 (c), .int .i64 (y)]) u47q.heap.size u) := h219q.out.asideL (by omega) 0 [.int .i64 (c), .int .i64 (y)]
          have h228q : Hid (Bo (u221q.setCells u154q.heap.size 0 [.int .i64 (c), .int .i64 (y)]) u154q.heap.size [.int .i64 (c), .int .i64 (y)]) := h220q.out.set2 (.int .i64 (c)) (.int .i64 (y))
          clear h214q h215q h216q h217q h218q h219q h220q
          refine hK.out _ _ ⟨h223q.out, h224q.out⟩ (fun hH => ?_)
          clear hK K
          generalize (u221q.setCells u154q.heap.size 0 [.int .i64 (c), .int .i64 (y)]) = u229q at h222q h223q h224q h225q h226q h227q h228q hH ⊢
          try simp only [Act.put, List.setIfInBounds_toArray, List.set_cons_zero, List.set_cons_succ]
          refine wpAnyH_done (by kernel_rfl) ?_ _
          go_wp2_with fail
          go_meet
          case rel => exact ⟨u47q.heap.size, u154q.heap.size, rfl, rfl, h222q, h225q, h226q, h227q, h228q⟩
        refine AllReadyH.cons (o := { dst := some 8, op := .alloc _, type := _, pos := _, after := _, guard := _ }) rfl (fun K hK => ?_) AllReadyH.nil
        have l230q : n ≤ u47q.heap.size := h48q.out.le
        have l231q : n < u47q.heap.size := h49q.out.lt
        have l232q : (n + 1) < u47q.heap.size := h50q.out.lt
        have l233q : u10q.heap.size < u47q.heap.size := h51q.out.lt
        have l234q : (u10q.heap.size + 1) < u47q.heap.size := h52q.out.lt
        go_simp
        have h235q : Hid (Gd n w (u47q.alloc (.cells #[.int .i64 0, .int .i64 0] 37))) := h48q.out.new (.cells #[.int .i64 0, .int .i64 0] 37)
        have h236q : Hid (TAt (u47q.alloc (.cells #[.int .i64 0, .int .i64 0] 37)) n t0) := h49q.out.new (.cells #[.int .i64 0, .int .i64 0] 37)
        have h237q : Hid (Bo (u47q.alloc (.cells #[.int .i64 0, .int .i64 0] 37)) (n + 1) [.int .i64 a1, .int .i64 b1, .int .i64 c1]) := h50q.out.new (.cells #[.int .i64 0, .int .i64 0] 37)
        have h238q : Hid (TAt (u47q.alloc (.cells #[.int .i64 0, .int .i64 0] 37)) u10q.heap.size u) := h51q.out.new (.cells #[.int .i64 0, .int .i64 0] 37)
        have h239q : Hid (Bo (u47q.alloc (.cells #[.int .i64 0, .int .i64 0] 37)) (u10q.heap.size + 1) [.int .i64 (c), .int .i64 (y)]) := h52q.out.new (.cells #[.int .i64 0, .int .i64 0] 37)
        clear h48q h49q h50q h51q h52q
        have h240q : Hid (Bo (u47q.alloc (.cells #[.int .i64 0, .int .i64 0] 37)) u47q.heap.size [.int .i64 0, .int .i64 0]) := Bo.born u47q [.int .i64 0, .int .i64 0] 37 (by simp)
        refine hK.out _ _ ⟨h236q.out, h237q.out⟩ (fun hH => ?_)
        clear hK K
        generalize (u47q.alloc (.cells #[.int .i64 0, .int .i64 0] 37)) = u241q at h235q h236q h237q h238q h239q h240q hH ⊢
        try simp only [Act.put, List.setIfInBounds_toArray, List.set_cons_zero, List.set_cons_succ]
        refine wpAnyH_ready (rs := [3, 7]) (by kernel_rfl) (by simp) ?_
        refine AllReadyH.cons (o := { dst := some 22, op := _, type := _, pos := _, after := _, guard := _ }) rfl (fun K hK => ?_) ?_
        · go_simp
          refine (PD _).mono ?_
          rintro e u242q ⟨rfl, hb⟩
          have h243q : Hid (Gd n w u242q) := h235q.out.later hb
          have h244q : Hid (TAt u242q n t0) := h236q.out.later hb
          have h245q : Hid (Bo u242q (n + 1) [.int .i64 a1, .int .i64 b1, .int .i64 c1]) := h237q.out.later hb
          have h246q : Hid (TAt u242q u10q.heap.size u) := h238q.out.later hb
          have h247q : Hid (Bo u242q (u10q.heap.size + 1) [.int .i64 (c), .int .i64 (y)]) := h239q.out.later hb
          have h248q : Hid (Bo u242q u47q.heap.size [.int .i64 0, .int .i64 0]) := h240q.out.later hb
          clear h235q h236q h237q h238q h239q h240q
          clear hb
          go_wp2_with fail
          refine hK.out _ _ ⟨h244q.out, h245q.out⟩ (fun hH => ?_)
          clear hK K
          try simp only [Act.put, List.setIfInBounds_toArray, List.set_cons_zero, List.set_cons_succ]
          refine wpAnyH_take (i := 4) (oi := { dst := some 18, op := .move (.tmp 22), type := _, pos := _, after := _, guard := _ }) (v := ?_) rfl (by kernel_rfl) (by kernel_rfl) (by kernel_rfl) (fun _ _ _ h => h) (Or.inl ⟨by rfl, ?_⟩) hH ?_
          rotate_left
          · intro w hSw
            clear hSw
            go_simp
            try with_reducible rfl
          simp only [Act.put, List.setIfInBounds_toArray, List.set_cons_zero, List.set_cons_succ]
          refine wpAnyH_take (i := 5) (oi := { dst := some 23, op := .extract (.tmp 18) 0, type := _, pos := _, after := _, guard := _ }) (v := ?_) rfl (by kernel_rfl) (by kernel_rfl) (by kernel_rfl) (fun _ _ _ h => h) (Or.inl ⟨by rfl, ?_⟩) hH ?_
          rotate_left
          · intro w hSw
            clear hSw
            go_simp
            try with_reducible rfl
          simp only [Act.put, List.setIfInBounds_toArray, List.set_cons_zero, List.set_cons_succ]
          refine wpAnyH_take (i := 6) (oi := { dst := some 24, op := .extract (.tmp 18) 1, type := _, pos := _, after := _, guard := _ }) (v := ?_) rfl (by kernel_rfl) (by kernel_rfl) (by kernel_rfl) (fun _ _ _ h => h) (Or.inl ⟨by rfl, ?_⟩) hH ?_
          rotate_left
          · intro w hSw
            clear hSw
            go_simp
            try with_reducible rfl
          simp only [Act.put, List.setIfInBounds_toArray, List.set_cons_zero, List.set_cons_succ]
          refine wpAnyH_ready (rs := [7]) (by kernel_rfl) (by simp) ?_
          refine AllReadyH.cons (o := { dst := some 7, op := .alloc _, type := _, pos := _, after := _, guard := _ }) rfl (fun K hK => ?_) AllReadyH.nil
          have l249q : n ≤ u242q.heap.size := h243q.out.le
          have l250q : n < u242q.heap.size := h244q.out.lt
          have l251q : (n + 1) < u242q.heap.size := h245q.out.lt
          have l252q : u10q.heap.size < u242q.heap.size := h246q.out.lt
          have l253q : (u10q.heap.size + 1) < u242q.heap.size := h247q.out.lt
          have l254q : u47q.heap.size < u242q.heap.size := h248q.out.lt
          go_simp
          have h255q : Hid (Gd n w (u242q.alloc (.cells #[.int .i64 0, .int .i64 0, .int .i64 0, .int .i64 0, .int .i64 0, .int .i64 0, .int .i64 0, .int .i64 0, .int .i64 0, .int .i64 0, .int .i64 0, .int .i64 0, .int .i64 0, .int .i64 0, .int .i64 0, .int .i64 0] 29))) := h243q.out.new (.cells #[.int .i64 0, .int .i64 0, .int .i64 0, .int .i64 0, .int .i64 0, .int .i64 0, .int .i64 0, .int .i64 0, .int .i64 0, .int .i64 0, .int .i64 0, .int .i64 0, .int .i64 0, .int .i64 0, .int .i64 0, .int .i64 0] 29)
          have h256q : Hid (TAt (u242q.alloc (.cells #[.int .i64 0, .int .i64 0, .int .i64 0, .int .i64 0, .int .i64 0, .int .i64 0, .int .i64 0, .int .i64 0, .int .i64 0, .int .i64 0, .int .i64 0, .int .i64 0, .int .i64 0, .int .i64 0, .int .i64 0, .int .i64 0] 29)) n t0) := h244q.out.new (.cells #[.int .i64 0, .int .i64 0, .int .i64 0, .int .i64 0, .int .i64 0, .int .i64 0, .int .i64 0, .int .i64 0, .int .i64 0, .int .i64 0, .int .i64 0, .int .i64 0, .int .i64 0, .int .i64 0, .int .i64 0, .int .i64 0] 29)
          have h257q : Hid (Bo (u242q.alloc (.cells #[.int .i64 0, .int .i64 0, .int .i64 0, .int .i64 0, .int .i64 0, .int .i64 0, .int .i64 0, .int .i64 0, .int .i64 0, .int .i64 0, .int .i64 0, .int .i64 0, .int .i64 0, .int .i64 0, .int .i64 0, .int .i64 0] 29)) (n + 1) [.int .i64 a1, .int .i64 b1, .int .i64 c1]) := h245q.out.new (.cells #[.int .i64 0, .int .i64 0, .int .i64 0, .int .i64 0, .int .i64 0, .int .i64 0, .int .i64 0, .int .i64 0, .int .i64 0, .int .i64 0, .int .i64 0, .int .i64 0, .int .i64 0, .int .i64 0, .int .i64 0, .int .i64 0] 29)
          have h258q : Hid (TAt (u242q.alloc (.cells #[.int .i64 0, .int .i64 0, .int .i64 0, .int .i64 0, .int .i64 0, .int .i64 0, .int .i64 0, .int .i64 0, .int .i64 0, .int .i64 0, .int .i64 0, .int .i64 0, .int .i64 0, .int .i64 0, .int .i64 0, .int .i64 0] 29)) u10q.heap.size u) := h246q.out.new (.cells #[.int .i64 0, .int .i64 0, .int .i64 0, .int .i64 0, .int .i64 0, .int .i64 0, .int .i64 0, .int .i64 0, .int .i64 0, .int .i64 0, .int .i64 0, .int .i64 0, .int .i64 0, .int .i64 0, .int .i64 0, .int .i64 0] 29)
          have h259q : Hid (Bo (u242q.alloc (.cells #[.int .i64 0, .int .i64 0, .int .i64 0, .int .i64 0, .int .i64 0, .int .i64 0, .int .i64 0, .int .i64 0, .int .i64 0, .int .i64 0, .int .i64 0, .int .i64 0, .int .i64 0, .int .i64 0, .int .i64 0, .int .i64 0] 29)) (u10q.heap.size + 1) [.int .i64 (c), .int .i64 (y)]) := h247q.out.new (.cells #[.int .i64 0, .int .i64 0, .int .i64 0, .int .i64 0, .int .i64 0, .int .i64 0, .int .i64 0, .int .i64 0, .int .i64 0, .int .i64 0, .int .i64 0, .int .i64 0, .int .i64 0, .int .i64 0, .int .i64 0, .int .i64 0] 29)
          have h260q : Hid (Bo (u242q.alloc (.cells #[.int .i64 0, .int .i64 0, .int .i64 0, .int .i64 0, .int .i64 0, .int .i64 0, .int .i64 0, .int .i64 0, .int .i64 0, .int .i64 0, .int .i64 0, .int .i64 0, .int .i64 0, .int .i64 0, .int .i64 0, .int .i64 0] 29)) u47q.heap.size [.int .i64 0, .int .i64 0]) := h248q.out.new (.cells #[.int .i64 0, .int .i64 0, .int .i64 0, .int .i64 0, .int .i64 0, .int .i64 0, .int .i64 0, .int .i64 0, .int .i64 0, .int .i64 0, .int .i64 0, .int .i64 0, .int .i64 0, .int .i64 0, .int .i64 0, .int .i64 0] 29)
          clear h243q h244q h245q h246q h247q h248q
          have h261q : Hid (TAt (u242q.alloc (.cells #[.int .i64 0, .int .i64 0, .int .i64 0, .int .i64 0, .int .i64 0, .int .i64 0, .int .i64 0, .int .i64 0, .int .i64 0, .int .i64 0, .int .i64 0, .int .i64 0, .int .i64 0, .int .i64 0, .int .i64 0, .int .i64 0] 29)) u242q.heap.size Tb.zero) := TAt.bornZero u242q 29 (by simp)
          refine hK.out _ _ ⟨h256q.out, h257q.out⟩ (fun hH => ?_)
          clear hK K
          generalize (u242q.alloc (.cells #[.int .i64 0, .int .i64 0, .int .i64 0, .int .i64 0, .int .i64 0, .int .i64 0, .int .i64 0, .int .i64 0, .int .i64 0, .int .i64 0, .int .i64 0, .int .i64 0, .int .i64 0, .int .i64 0, .int .i64 0, .int .i64 0] 29)) = u262q at h255q h256q h257q h258q h259q h260q h261q hH ⊢
          try simp only [Act.put, List.setIfInBounds_toArray, List.set_cons_zero, List.set_cons_succ]
          refine wpAnyH_ready (rs := [9]) (by kernel_rfl) (by simp) ?_
          refine AllReadyH.cons (o := { dst := none, op := .store _ (.tmp 7) (.tmp 23), type := _, pos := _, after := _, guard := _ }) rfl (fun K hK => ?_) AllReadyH.nil
          rw [if_pos (by rfl)]
          refine wp_store_mid _ _ _ rfl u242q.heap.size _ u.all.toArray rfl rfl (h261q.out.thereOf u) (HZ.out u) (u.all_all) ?_
          simp only [Act.put]
          have h263q : Hid (Gd n w (u262q.setCells u242q.heap.size 0 u.all)) := h255q.out.asideAll (by omega) u
          have h264q : Hid (TAt (u262q.setCells u242q.heap.size 0 u.all) n t0) := h256q.out.asideAll (by omega) u
          have h265q : Hid (Bo (u262q.setCells u242q.heap.size 0 u.all) (n + 1) [.int .i64 a1, .int .i64 b1, .int .i64 c1]) := h257q.out.asideAll (by omega) u
          have h266q : Hid (TAt (u262q.setCells u242q.heap.size 0 u.all) u10q.heap.size u) := h258q.out.asideAll (by omega) u
          have h267q : Hid (Bo (u262q.setCells u242q.heap.size 0 u.all) (u10q.heap.size + 1) [.int .i64 (c), .int .i64 (y)]) := h259q.out.asideAll (by omega) u
          have h268q : Hid (Bo (u262q.setCells u242q.heap.size 0 u.all) u47q.heap.size [.int .i64 0, .int .i64 0]) := h260q.out.asideAll (by omega) u
          have h269q : Hid (TAt (u262q.setCells u242q.heap.size 0 u.all) u242q.heap.size u) := h261q.out.setAll u
          clear h255q h256q h257q h258q h259q h260q h261q
          refine hK.out _ _ ⟨h264q.out, h265q.out⟩ (fun hH => ?_)
          clear hK K
          generalize (u262q.setCells u242q.heap.size 0 u.all) = u270q at h263q h264q h265q h266q h267q h268q h269q hH ⊢
          try simp only [Act.put, List.setIfInBounds_toArray, List.set_cons_zero, List.set_cons_succ]
          refine wpAnyH_ready (rs := [10]) (by kernel_rfl) (by simp) ?_
          refine AllReadyH.cons (o := { dst := none, op := .store _ (.tmp 8) (.tmp 24), type := _, pos := _, after := _, guard := _ }) rfl (fun K hK => ?_) AllReadyH.nil
          rw [if_pos (by rfl)]
          refine wp_store_mid _ _ _ rfl u47q.heap.size _ #[.int .i64 (c), .int .i64 (y)] rfl rfl h268q.out.there2 HA.out (two_one _ _) ?_
          simp only [Act.put]
          have h271q : Hid (Gd n w (u270q.setCells u47q.heap.size 0 [.int .i64 (c), .int .i64 (y)])) := h263q.out.asideL (by omega) 0 [.int .i64 (c), .int .i64 (y)]
          have h272q : Hid (TAt (u270q.setCells u47q.heap.size 0 [.int .i64 (c), .int .i64 (y)]) n t0) := h264q.out.asideL (by omega) 0 [.int .i64 (c), .int .i64 (y)]
          have h273q : Hid (Bo (u270q.setCells u47q.heap.size 0 [.int .i64 (c), .int .i64 (y)]) (n + 1) [.int .i64 a1, .int .i64 b1, .int .i64 c1]) := h265q.out.asideL (by omega) 0 [.int .i64 (c), .int .i64 (y)]
          have h274q : Hid (TAt (u270q.setCells u47q.heap.size 0 [.int .i64 (c), .int .i64 (y)]) u10q.heap.size u) := h266q.out.asideL (by omega) 0 [.int .i64 (c), .int .i64 (y)]
          have h275q : Hid (Bo (u270q.setCells u47q.heap.size 0 [.int .i64 (c), .int .i64 (y)]) (u10q.heap.size + 1) [.int .i64 (c), .int .i64 (y)]) := h267q.out.asideL (by omega) 0 [.int .i64 (c), .int .i64 (y)]
          have h276q : Hid (Bo (u270q.setCells u47q.heap.size 0 [.int .i64 (c), .int .i64 (y)]) u47q.heap.size [.int .i64 (c), .int .i64 (y)]) := h268q.out.set2 (.int .i64 (c)) (.int .i64 (y))
          have h277q : Hid (TAt (u270q.setCells u47q.heap.size 0 [.int .i64 (c), .int .i64 (y)]) u242q.heap.size u) := h269q.out.asideL (by omega) 0 [.int .i64 (c), .int .i64 (y)]
          clear h263q h264q h265q h266q h267q h268q h269q
          refine hK.out _ _ ⟨h272q.out, h273q.out⟩ (fun hH => ?_)
          clear hK K
          generalize (u270q.setCells u47q.heap.size 0 [.int .i64 (c), .int .i64 (y)]) = u278q at h271q h272q h273q h274q h275q h276q h277q hH ⊢
          try simp only [Act.put, List.setIfInBounds_toArray, List.set_cons_zero, List.set_cons_succ]
          refine wpAnyH_done (by kernel_rfl) ?_ _
          go_wp2_with fail
          go_meet
          case rel => exact ⟨u242q.heap.size, u47q.heap.size, rfl, rfl, h271q, h274q, h275q, h277q, h276q⟩
        refine AllReadyH.cons (o := { dst := some 7, op := .alloc _, type := _, pos := _, after := _, guard := _ }) rfl (fun K hK => ?_) AllReadyH.nil
        have l279q : n ≤ u241q.heap.size := h235q.out.le
        have l280q : n < u241q.heap.size := h236q.out.lt
        have l281q : (n + 1) < u241q.heap.size := h237q.out.lt
        have l282q : u10q.heap.size < u241q.heap.size := h238q.out.lt
        have l283q : (u10q.heap.size + 1) < u241q.heap.size := h239q.out.lt
        have l284q : u47q.heap.size < u241q.heap.size := h240q.out.lt
        go_simp
        have h285q : Hid (Gd n w (u241q.alloc (.cells #[.int .i64 0, .int .i64 0, .int .i64 0, .int .i64 0, .int .i64 0, .int .i64 0, .int .i64 0, .int .i64 0, .int .i64 0, .int .i64 0, .int .i64 0, .int .i64 0, .int .i64 0, .int .i64 0, .int .i64 0, .int .i64 0] 29))) := h235q.out.new (.cells #[.int .i64 0, .int .i64 0, .int .i64 0, .int .i64 0, .int .i64 0, .int .i64 0, .int .i64 0, .int .i64 0, .int .i64 0, .int .i64 0, .int .i64 0, .int .i64 0, .int .i64 0, .int .i64 0, .int .i64 0, .int .i64 0] 29)
        have h286q : Hid (TAt (u241q.alloc (.cells #[.int .i64 0, .int .i64 0, .int .i64 0, .int .i64 0, .int .i64 0, .int .i64 0, .int .i64 0, .int .i64 0, .int .i64 0, .int .i64 0, .int .i64 0, .int .i64 0, .int .i64 0, .int .i64 0, .int .i64 0, .int .i64 0] 29)) n t0) := h236q.out.new (.cells #[.int .i64 0, .int .i64 0, .int .i64 0, .int .i64 0, .int .i64 0, .int .i64 0, .int .i64 0, .int .i64 0, .int .i64 0, .int .i64 0, .int .i64 0, .int .i64 0, .int .i64 0, .int .i64 0, .int .i64 0, .int .i64 0] 29)
        have h287q : Hid (Bo (u241q.alloc (.cells #[.int .i64 0, .int .i64 0, .int .i64 0, .int .i64 0, .int .i64 0, .int .i64 0, .int .i64 0, .int .i64 0, .int .i64 0, .int .i64 0, .int .i64 0, .int .i64 0, .int .i64 0, .int .i64 0, .int .i64 0, .int .i64 0] 29)) (n + 1) [.int .i64 a1, .int .i64 b1, .int .i64 c1]) := h237q.out.new (.cells #[.int .i64 0, .int .i64 0, .int .i64 0, .int .i64 0, .int .i64 0, .int .i64 0, .int .i64 0, .int .i64 0, .int .i64 0, .int .i64 0, .int .i64 0, .int .i64 0, .int .i64 0, .int .i64 0, .int .i64 0, .int .i64 0] 29)
        have h288q : Hid (TAt (u241q.alloc (.cells #[.int .i64 0, .int .i64 0, .int .i64 0, .int .i64 0, .int .i64 0, .int .i64 0, .int .i64 0, .int .i64 0, .int .i64 0, .int .i64 0, .int .i64 0, .int .i64 0, .int .i64 0, .int .i64 0, .int .i64 0, .int .i64 0] 29)) u10q.heap.size u) := h238q.out.new (.cells #[.int .i64 0, .int .i64 0, .int .i64 0, .int .i64 0, .int .i64 0, .int .i64 0, .int .i64 0, .int .i64 0, .int .i64 0, .int .i64 0, .int .i64 0, .int .i64 0, .int .i64 0, .int .i64 0, .int .i64 0, .int .i64 0] 29)
        have h289q : Hid (Bo (u241q.alloc (.cells #[.int .i64 0, .int .i64 0, .int .i64 0, .int .i64 0, .int .i64 0, .int .i64 0, .int .i64 0, .int .i64 0, .int .i64 0, .int .i64 0, .int .i64 0, .int .i64 0, .int .i64 0, .int .i64 0, .int .i64 0, .int .i64 0] 29)) (u10q.heap.size + 1) [.int .i64 (c), .int .i64 (y)]) := h239q.out.new (.cells #[.int .i64 0, .int .i64 0, .int .i64 0, .int .i64 0, .int .i64 0, .int .i64 0, .int .i64 0, .int .i64 0, .int .i64 0, .int .i64 0, .int .i64 0, .int .i64 0, .int .i64 0, .int .i64 0, .int .i64 0, .int .i64 0] 29)
        have h290q : Hid (Bo (u241q.alloc (.cells #[.int .i64 0, .int .i64 0, .int .i64 0, .int .i64 0, .int .i64 0, .int .i64 0, .int .i64 0, .int .i64 0, .int .i64 0, .int .i64 0, .int .i64 0, .int .i64 0, .int .i64 0, .int .i64 0, .int .i64 0, .int .i64 0] 29)) u47q.heap.size [.int .i64 0, .int .i64 0]) := h240q.out.new (.cells #[.int .i64 0, .int .i64 0, .int .i64 0, .int .i64 0, .int .i64 0, .int .i64 0, .int .i64 0, .int .i64 0, .int .i64 0, .int .i64 0, .int .i64 0, .int .i64 0, .int .i64 0, .int .i64 0, .int .i64 0, .int .i64 0] 29)
        clear h235q h236q h237q h238q h239q h240q
        have h291q : Hid (TAt (u241q.alloc (.cells #[.int .i64 0, .int .i64 0, .int .i64 0, .int .i64 0, .int .i64 0, .int .i64 0, .int .i64 0, .int .i64 0, .int .i64 0, .int .i64 0, .int .i64 0, .int .i64 0, .int .i64 0, .int .i64 0, .int .i64 0, .int .i64 0] 29)) u241q.heap.size Tb.zero) := TAt.bornZero u241q 29 (by simp)
        refine hK.out _ _ ⟨h286q.out, h287q.out⟩ (fun hH => ?_)
        clear hK K
        generalize (u241q.alloc (.cells #[.int .i64 0, .int .i64 0, .int .i64 0, .int .i64 0, .int .i64 0, .int .i64 0, .int .i64 0, .int .i64 0, .int .i64 0, .int .i64 0, .int .i64 0, .int .i64 0, .int .i64 0, .int .i64 0, .int .i64 0, .int .i64 0] 29)) = u292q at h285q h286q h287q h288q h289q h290q h291q hH ⊢
        try simp only [Act.put, List.setIfInBounds_toArray, List.set_cons_zero, List.set_cons_succ]
        refine wpAnyH_ready (rs := [3]) (by kernel_rfl) (by simp) ?_
        refine AllReadyH.cons (o := { dst := some 22, op := _, type := _, pos := _, after := _, guard := _ }) rfl (fun K hK => ?_) AllReadyH.nil
        go_simp
        refine (PD _).mono ?_
        rintro e u293q ⟨rfl, hb⟩
        have h294q : Hid (Gd n w u293q) := h285q.out.later hb
        have h295q : Hid (TAt u293q n t0) := h286q.out.later hb
        have h296q : Hid (Bo u293q (n + 1) [.int .i64 a1, .int .i64 b1, .int .i64 c1]) := h287q.out.later hb
        have h297q : Hid (TAt u293q u10q.heap.size u) := h288q.out.later hb
        have h298q : Hid (Bo u293q (u10q.heap.size + 1) [.int .i64 (c), .int .i64 (y)]) := h289q.out.later hb
        have h299q : Hid (Bo u293q u47q.heap.size [.int .i64 0, .int .i64 0]) := h290q.out.later hb
        have h300q : Hid (TAt u293q u241q.heap.size Tb.zero) := h291q.out.later hb
        clear h285q h286q h287q h288q h289q h290q h291q
        clear hb
        go_wp2_with fail
        refine hK.out _ _ ⟨h295q.out, h296q.out⟩ (fun hH => ?_)
        clear hK K
        try simp only [Act.put, List.setIfInBounds_toArray, List.set_cons_zero, List.set_cons_succ]
        refine wpAnyH_take (i := 4) (oi := { dst := some 18, op := .move (.tmp 22), type := _, pos := _, after := _, guard := _ }) (v := ?_) rfl (by kernel_rfl) (by kernel_rfl) (by kernel_rfl) (fun _ _ _ h => h) (Or.inl ⟨by rfl, ?_⟩) hH ?_
        rotate_left
        · intro w hSw
          clear hSw
          go_simp
          try with_reducible rfl
        simp only [Act.put, List.setIfInBounds_toArray, List.set_cons_zero, List.set_cons_succ]
        refine wpAnyH_take (i := 5) (oi := { dst := some 23, op := .extract (.tmp 18) 0, type := _, pos := _, after := _, guard := _ }) (v := ?_) rfl (by kernel_rfl) (by kernel_rfl) (by kernel_rfl) (fun _ _ _ h => h) (Or.inl ⟨by rfl, ?_⟩) hH ?_
        rotate_left
        · intro w hSw
          clear hSw
          go_simp
          try with_reducible rfl
        simp only [Act.put, List.setIfInBounds_toArray, List.set_cons_zero, List.set_cons_succ]
        refine wpAnyH_take (i := 6) (oi := { dst := some 24, op := .extract (.tmp 18) 1, type := _, pos := _, after := _, guard := _ }) (v := ?_) rfl (by kernel_rfl) (by kernel_rfl) (by kernel_rfl) (fun _ _ _ h => h) (Or.inl ⟨by rfl, ?_⟩) hH ?_
        rotate_left
        · intro w hSw
          clear hSw
          go_simp
          try with_reducible rfl
        simp only [Act.put, List.setIfInBounds_toArray, List.set_cons_zero, List.set_cons_succ]
        refine wpAnyH_ready (rs := [9]) (by kernel_rfl) (by simp) ?_
        refine AllReadyH.cons (o := { dst := none, op := .store _ (.tmp 7) (.tmp 23), type := _, pos := _, after := _, guard := _ }) rfl (fun K hK => ?_) AllReadyH.nil
        rw [if_pos (by rfl)]
        refine wp_store_mid _ _ _ rfl u241q.heap.size _ u.all.toArray rfl rfl (h300q.out.thereOf u) (HZ.out u) (u.all_all) ?_
        simp only [Act.put]
        have h301q : Hid (Gd n w (u293q.setCells u241q.heap.size 0 u.all)) := h294q.out.asideAll (by omega) u
        have h302q : Hid (TAt (u293q.setCells u241q.heap.size 0 u.all) n t0) := h295q.out.asideAll (by omega) u
        have h303q : Hid (Bo (u293q.setCells u241q.heap.size 0 u.all) (n + 1) [.int .i64 a1, .int .i64 b1, .int .i64 c1]) := h296q.out.asideAll (by omega) u
        have h304q : Hid (TAt (u293q.setCells u241q.heap.size 0 u.all) u10q.heap.size u) := h297q.out.asideAll (by omega) u
        have h305q : Hid (Bo (u293q.setCells u241q.heap.size 0 u.all) (u10q.heap.size + 1) [.int .i64 (c), .int .i64 (y)]) := h298q.out.asideAll (by omega) u
        have h306q : Hid (Bo (u293q.setCells u241q.heap.size 0 u.all) u47q.heap.size [.int .i64 0, .int .i64 0]) := h299q.out.asideAll (by omega) u
        have h307q : Hid (TAt (u293q.setCells u241q.heap.size 0 u.all) u241q.heap.size u) := h300q.out.setAll u
        clear h294q h295q h296q h297q h298q h299q h300q
        refine hK.out _ _ ⟨h302q.out, h303q.out⟩ (fun hH => ?_)
        clear hK K
        generalize (u293q.setCells u241q.heap.size 0 u.all) = u308q at h301q h302q h303q h304q h305q h306q h307q hH ⊢
        try simp only [Act.put, List.setIfInBounds_toArray, List.set_cons_zero, List.set_cons_succ]
        refine wpAnyH_ready (rs := [10]) (by kernel_rfl) (by simp) ?_
        refine AllReadyH.cons (o := { dst := none, op := .store _ (.tmp 8) (.tmp 24), type := _, pos := _, after := _, guard := _ }) rfl (fun K hK => ?_) AllReadyH.nil
        rw [if_pos (by rfl)]
        refine wp_store_mid _ _ _ rfl u47q.heap.size _ #[.int .i64 (c), .int .i64 (y)] rfl rfl h306q.out.there2 HA.out (two_one _ _) ?_
        simp only [Act.put]
        have h309q : Hid (Gd n w (u308q.setCells u47q.heap.size 0 [.int .i64 (c), .int .i64 (y)])) := h301q.out.asideL (by omega) 0 [.int .i64 (c), .int .i64 (y)]
        have h310q : Hid (TAt (u308q.setCells u47q.heap.size 0 [.int .i64 (c), .int .i64 (y)]) n t0) := h302q.out.asideL (by omega) 0 [.int .i64 (c), .int .i64 (y)]
        have h311q : Hid (Bo (u308q.setCells u47q.heap.size 0 [.int .i64 (c), .int .i64 (y)]) (n + 1) [.int .i64 a1, .int .i64 b1, .int .i64 c1]) := h303q.out.asideL (by omega) 0 [.int .i64 (c), .int .i64 (y)]
        have h312q : Hid (TAt (u308q.setCells u47q.heap.size 0 [.int .i64 (c), .int .i64 (y)]) u10q.heap.size u) := h304q.out.asideL (by omega) 0 [.int .i64 (c), .int .i64 (y)]
        have h313q : Hid (Bo (u308q.setCells u47q.heap.size 0 [.int .i64 (c), .int .i64 (y)]) (u10q.heap.size + 1) [.int .i64 (c), .int .i64 (y)]) := h305q.out.asideL (by omega) 0 [.int .i64 (c), .int .i64 (y)]
        have h314q : Hid (Bo (u308q.setCells u47q.heap.size 0 [.int .i64 (c), .int .i64 (y)]) u47q.heap.size [.int .i64 (c), .int .i64 (y)]) := h306q.out.set2 (.int .i64 (c)) (.int .i64 (y))
        have h315q : Hid (TAt (u308q.setCells u47q.heap.size 0 [.int .i64 (c), .int .i64 (y)]) u241q.heap.size u) := h307q.out.asideL (by omega) 0 [.int .i64 (c), .int .i64 (y)]
        clear h301q h302q h303q h304q h305q h306q h307q
        refine hK.out _ _ ⟨h310q.out, h311q.out⟩ (fun hH => ?_)
        clear hK K
        generalize (u308q.setCells u47q.heap.size 0 [.int .i64 (c), .int .i64 (y)]) = u316q at h309q h310q h311q h312q h313q h314q h315q hH ⊢
        try simp only [Act.put, List.setIfInBounds_toArray, List.set_cons_zero, List.set_cons_succ]
        refine wpAnyH_done (by kernel_rfl) ?_ _
        go_wp2_with fail
        go_meet
        case rel => exact ⟨u241q.heap.size, u47q.heap.size, rfl, rfl, h309q, h312q, h313q, h315q, h314q⟩
      refine AllReadyH.cons (o := { dst := some 7, op := .alloc _, type := _, pos := _, after := _, guard := _ }) rfl (fun K hK => ?_) ?_
      · have l317q : n ≤ u43q.heap.size := h38q.out.le
        have l318q : n < u43q.heap.size := h39q.out.lt
        have l319q : (n + 1) < u43q.heap.size := h40q.out.lt
        have l320q : u10q.heap.size < u43q.heap.size := h41q.out.lt
        have l321q : (u10q.heap.size + 1) < u43q.heap.size := h42q.out.lt
        go_simp
        have h322q : Hid (Gd n w (u43q.alloc (.cells #[.int .i64 0, .int .i64 0, .int .i64 0, .int .i64 0, .int .i64 0, .int .i64 0, .int .i64 0, .int .i64 0, .int .i64 0, .int .i64 0, .int .i64 0, .int .i64 0, .int .i64 0, .int .i64 0, .int .i64 0, .int .i64 0] 29))) := h38q.out.new (.cells #[.int .i64 0, .int .i64 0, .int .i64 0, .int .i64 0, .int .i64 0, .int .i64 0, .int .i64 0, .int .i64 0, .int .i64 0, .int .i64 0, .int .i64 0, .int .i64 0, .int .i64 0, .int .i64 0, .int .i64 0, .int .i64 0] 29)
        have h323q : Hid (TAt (u43q.alloc (.cells #[.int .i64 0, .int .i64 0, .int .i64 0, .int .i64 0, .int .i64 0, .int .i64 0, .int .i64 0, .int .i64 0, .int .i64 0, .int .i64 0, .int .i64 0, .int .i64 0, .int .i64 0, .int .i64 0, .int .i64 0, .int .i64 0] 29)) n t0) := h39q.out.new (.cells #[.int .i64 0, .int .i64 0, .int .i64 0, .int .i64 0, .int .i64 0, .int .i64 0, .int .i64 0, .int .i64 0, .int .i64 0, .int .i64 0, .int .i64 0, .int .i64 0, .int .i64 0, .int .i64 0, .int .i64 0, .int .i64 0] 29)
        have h324q : Hid (Bo (u43q.alloc (.cells #[.int .i64 0, .int .i64 0, .int .i64 0, .int .i64 0, .int .i64 0, .int .i64 0, .int .i64 0, .int .i64 0, .int .i64 0, .int .i64 0, .int .i64 0, .int .i64 0, .int .i64 0, .int .i64 0, .int .i64 0, .int .i64 0] 29)) (n + 1) [.int .i64 a1, .int .i64 b1, .int .i64 c1]) := h40q.out.new (.cells #[.int .i64 0, .int .i64 0, .int .i64 0, .int .i64 0, .int .i64 0, .int .i64 0, .int .i64 0, .int .i64 0, .int .i64 0, .int .i64 0, .int .i64 0, .int .i64 0, .int .i64 0, .int .i64 0, .int .i64 0, .int .i64 0] 29)
        have h325q : Hid (TAt (u43q.alloc (.cells #[.int .i64 0, .int .i64 0, .int .i64 0, .int .i64 0, .int .i64 0, .int .i64 0, .int .i64 0, .int .i64 0, .int .i64 0, .int .i64 0, .int .i64 0, .int .i64 0, .int .i64 0, .int .i64 0, .int .i64 0, .int .i64 0] 29)) u10q.heap.size u) := h41q.out.new (.cells #[.int .i64 0, .int .i64 0, .int .i64 0, .int .i64 0, .int .i64 0, .int .i64 0, .int .i64 0, .int .i64 0, .int .i64 0, .int .i64 0, .int .i64 0, .int .i64 0, .int .i64 0, .int .i64 0, .int .i64 0, .int .i64 0] 29)
        have h326q : Hid (Bo (u43q.alloc (.cells #[.int .i64 0, .int .i64 0, .int .i64 0, .int .i64 0, .int .i64 0, .int .i64 0, .int .i64 0, .int .i64 0, .int .i64 0, .int .i64 0, .int .i64 0, .int .i64 0, .int .i64 0, .int .i64 0, .int .i64 0, .int .i64 0] 29)) (u10q.heap.size + 1) [.int .i64 (c), .int .i64 (y)]) := h42q.out.new (.cells #[.int .i64 0, .int .i64 0, .int .i64 0, .int .i64 0, .int .i64 0, .int .i64 0, .int .i64 0, .int .i64 0, .int .i64 0, .int .i64 0, .int .i64 0, .int .i64 0, .int .i64 0, .int .i64 0, .int .i64 0, .int .i64 0] 29)
        clear h38q h39q h40q h41q h42q
        have h327q : Hid (TAt (u43q.alloc (.cells #[.int .i64 0, .int .i64 0, .int .i64 0, .int .i64 0, .int .i64 0, .int .i64 0, .int .i64 0, .int .i64 0, .int .i64 0, .int .i64 0, .int .i64 0, .int .i64 0, .int .i64 0, .int .i64 0, .int .i64 0, .int .i64 0] 29)) u43q.heap.size Tb.zero) := TAt.bornZero u43q 29 (by simp)
        refine hK.out _ _ ⟨h323q.out, h324q.out⟩ (fun hH => ?_)
        clear hK K
        generalize (u43q.alloc (.cells #[.int .i64 0, .int .i64 0, .int .i64 0, .int .i64 0, .int .i64 0, .int .i64 0, .int .i64 0, .int .i64 0, .int .i64 0, .int .i64 0, .int .i64 0, .int .i64 0, .int .i64 0, .int .i64 0, .int .i64 0, .int .i64 0] 29)) = u328q at h322q h323q h324q h325q h326q h327q hH ⊢
        try simp only [Act.put, List.setIfInBounds_toArray, List.set_cons_zero, List.set_cons_succ]
        refine wpAnyH_ready (rs := [1, 8]) (by kernel_rfl) (by simp) ?_
        refine AllReadyH.cons (o := { dst := some 20, op := _, type := _, pos := _, after := _, guard := _ }) rfl (fun K hK => ?_) ?_
        · go_simp
          refine (SO _).mono ?_
          rintro e u329q ⟨rfl, hb⟩
          have h330q : Hid (Gd n w u329q) := h322q.out.later hb
          have h331q : Hid (TAt u329q n t0) := h323q.out.later hb
          have h332q : Hid (Bo u329q (n + 1) [.int .i64 a1, .int .i64 b1, .int .i64 c1]) := h324q.out.later hb
          have h333q : Hid (TAt u329q u10q.heap.size u) := h325q.out.later hb
          have h334q : Hid (Bo u329q (u10q.heap.size + 1) [.int .i64 (c), .int .i64 (y)]) := h326q.out.later hb
          have h335q : Hid (TAt u329q u43q.heap.size Tb.zero) := h327q.out.later hb
          clear h322q h323q h324q h325q h326q h327q
          clear hb
          go_wp2_with fail
          refine hK.out _ _ ⟨h331q.out, h332q.out⟩ (fun hH => ?_)
          clear hK K
          try simp only [Act.put, List.setIfInBounds_toArray, List.set_cons_zero, List.set_cons_succ]
          refine wpAnyH_ready (rs := [3, 8]) (by kernel_rfl) (by simp) ?_
          refine AllReadyH.cons (o := { dst := some 22, op := _, type := _, pos := _, after := _, guard := _ }) rfl (fun K hK => ?_) ?_
          · go_simp
            refine (PD _).mono ?_
            rintro e u336q ⟨rfl, hb⟩
            have h337q : Hid (Gd n w u336q) := h330q.out.later hb
            have h338q : Hid (TAt u336q n t0) := h331q.out.later hb
            have h339q : Hid (Bo u336q (n + 1) [.int .i64 a1, .int .i64 b1, .int .i64 c1]) := h332q.out.later hb
            have h340q : Hid (TAt u336q u10q.heap.size u) := h333q.out.later hb
            have h341q : Hid (Bo u336q (u10q.heap.size + 1) [.int .i64 (c), .int .i64 (y)]) := h334q.out.later hb
            have h342q : Hid (TAt u336q u43q.heap.size Tb.zero) := h335q.out.later hb
            clear h330q h331q h332q h333q h334q h335q
            clear hb
            go_wp2_with fail
            refine hK.out _ _ ⟨h338q.out, h339q.out⟩ (fun hH => ?_)
            clear hK K
            try simp only [Act.put, List.setIfInBounds_toArray, List.set_cons_zero, List.set_cons_succ]
            refine wpAnyH_take (i := 4) (oi := { dst := some 18, op := .move (.tmp 22), type := _, pos := _, after := _, guard := _ }) (v := ?_) rfl (by kernel_rfl) (by kernel_rfl) (by kernel_rfl) (fun _ _ _ h => h) (Or.inl ⟨by rfl, ?_⟩) hH ?_
            rotate_left
            · intro w hSw
              clear hSw
              go_simp
              try with_reducible rfl
            simp only [Act.put, List.setIfInBounds_toArray, List.set_cons_zero, List.set_cons_succ]
            refine wpAnyH_take (i := 5) (oi := { dst := some 23, op := .extract (.tmp 18) 0, type := _, pos := _, after := _, guard := _ }) (v := ?_) rfl (by kernel_rfl) (by kernel_rfl) (by kernel_rfl) (fun _ _ _ h => h) (Or.inl ⟨by rfl, ?_⟩) hH ?_
            rotate_left
            · intro w hSw
              clear hSw
              go_simp
              try with_reducible rfl
            simp only [Act.put, List.setIfInBounds_toArray, List.set_cons_zero, List.set_cons_succ]
            refine wpAnyH_take (i := 6) (oi := { dst := some 24, op := .extract (.tmp 18) 1, type := _, pos := _, after := _, guard := _ }) (v := ?_) rfl (by kernel_rfl) (by kernel_rfl) (by kernel_rfl) (fun _ _ _ h => h) (Or.inl ⟨by rfl, ?_⟩) hH ?_
            rotate_left
            · intro w hSw
              clear hSw
              go_simp
              try with_reducible rfl
            simp only [Act.put, List.setIfInBounds_toArray, List.set_cons_zero, List.set_cons_succ]
            refine wpAnyH_ready (rs := [8]) (by kernel_rfl) (by simp) ?_
            refine AllReadyH.cons (o := { dst := some 8, op := .alloc _, type := _, pos := _, after := _, guard := _ }) rfl (fun K hK => ?_) AllReadyH.nil
            have l343q : n ≤ u336q.heap.size := h337q.out.le
            have l344q : n < u336q.heap.size := h338q.out.lt
            have l345q : (n + 1) < u336q.heap.size := h339q.out.lt
            have l346q : u10q.heap.size < u336q.heap.size := h340q.out.lt
            have l347q : (u10q.heap.size + 1) < u336q.heap.size := h341q.out.lt
            have l348q : u43q.heap.size < u336q.heap.size := h342q.out.lt
            go_simp
            have h349q : Hid (Gd n w (u336q.alloc (.cells #[.int .i64 0, .int .i64 0] 37))) := h337q.out.new (.cells #[.int .i64 0, .int .i64 0] 37)
            have h350q : Hid (TAt (u336q.alloc (.cells #[.int .i64 0, .int .i64 0] 37)) n t0) := h338q.out.new (.cells #[.int .i64 0, .int .i64 0] 37)
            have h351q : Hid (Bo (u336q.alloc (.cells #[.int .i64 0, .int .i64 0] 37)) (n + 1) [.int .i64 a1, .int .i64 b1, .int .i64 c1]) := h339q.out.new (.cells #[.int .i64 0, .int .i64 0] 37)
            have h352q : Hid (TAt (u336q.alloc (.cells #[.int .i64 0, .int .i64 0] 37)) u10q.heap.size u) := h340q.out.new (.cells #[.int .i64 0, .int .i64 0] 37)
            have h353q : Hid (Bo (u336q.alloc (.cells #[.int .i64 0, .int .i64 0] 37)) (u10q.heap.size + 1) [.int .i64 (c), .int .i64 (y)]) := h341q.out.new (.cells #[.int .i64 0, .int .i64 0] 37)
            have h354q : Hid (TAt (u336q.alloc (.cells #[.int .i64 0, .int .i64 0] 37)) u43q.heap.size Tb.zero) := h342q.out.new (.cells #[.int .i64 0, .int .i64 0] 37)
            clear h337q h338q h339q h340q h341q h342q
            have h355q : Hid (Bo (u336q.alloc (.cells #[.int .i64 0, .int .i64 0] 37)) u336q.heap.size [.int .i64 0, .int .i64 0]) := Bo.born u336q [.int .i64 0, .int .i64 0] 37 (by simp)
            refine hK.out _ _ ⟨h350q.out, h351q.out⟩ (fun hH => ?_)
            clear hK K
            generalize (u336q.alloc (.cells #[.int .i64 0, .int .i64 0] 37)) = u356q at h349q h350q h351q h352q h353q h354q h355q hH ⊢
            try simp only [Act.put, List.setIfInBounds_toArray, List.set_cons_zero, List.set_cons_succ]
            refine wpAnyH_ready (rs := [9]) (by kernel_rfl) (by simp) ?_
            refine AllReadyH.cons (o := { dst := none, op := .store _ (.tmp 7) (.tmp 23), type := _, pos := _, after := _, guard := _ }) rfl (fun K hK => ?_) AllReadyH.nil
            rw [if_pos (by rfl)]
            refine wp_store_mid _ _ _ rfl u43q.heap.size _ u.all.toArray rfl rfl (h354q.out.thereOf u) (HZ.out u) (u.all_all) ?_
            simp only [Act.put]
            have h357q : Hid (Gd n w (u356q.setCells u43q.heap.size 0 u.all)) := h349q.out.asideAll (by omega) u
            have h358q : Hid (TAt (u356q.setCells u43q.heap.size 0 u.all) n t0) := h350q.out.asideAll (by omega) u
            have h359q : Hid (Bo (u356q.setCells u43q.heap.size 0 u.all) (n + 1) [.int .i64 a1, .int .i64 b1, .int .i64 c1]) := h351q.out.asideAll (by omega) u
            have h360q : Hid (TAt (u356q.setCells u43q.heap.size 0 u.all) u10q.heap.size u) := h352q.out.asideAll (by omega) u
            have h361q : Hid (Bo (u356q.setCells u43q.heap.size 0 u.all) (u10q.heap.size + 1) [.int .i64 (c), .int .i64 (y)]) := h353q.out.asideAll (by omega) u
            have h362q : Hid (TAt (u356q.setCells u43q.heap.size 0 u.all) u43q.heap.size u) := h354q.out.setAll u
            have h363q : Hid (Bo (u356q.setCells u43q.heap.size 0 u.all) u336q.heap.size [.int .i64 0, .int .i64 0]) := h355q.out.asideAll (by omega) u
            clear h349q h350q h351q h352q h353q h354q h355q
            refine hK.out _ _ ⟨h358q.out, h359q.out⟩ (fun hH => ?_)
            clear hK K
            generalize (u356q.setCells u43q.heap.size 0 u.all) = u364q at h357q h358q h359q h360q h361q h362q h363q hH ⊢
            try simp only [Act.put, List.setIfInBounds_toArray, List.set_cons_zero, List.set_cons_succ]
            refine wpAnyH_ready (rs := [10]) (by kernel_rfl) (by simp) ?_
            refine AllReadyH.cons (o := { dst := none, op := .store _ (.tmp 8) (.tmp 24), type := _, pos := _, after := _, guard := _ }) rfl (fun K hK => ?_) AllReadyH.nil
            rw [if_pos (by rfl)]
            refine wp_store_mid _ _ _ rfl u336q.heap.size _ #[.int .i64 (c), .int .i64 (y)] rfl rfl h363q.out.there2 HA.out (two_one _ _) ?_
            simp only [Act.put]
            have h365q : Hid (Gd n w (u364q.setCells u336q.heap.size 0 [.int .i64 (c), .int .i64 (y)])) := h357q.out.asideL (by omega) 0 [.int .i64 (c), .int .i64 (y)]
            have h366q : Hid (TAt (u364q.setCells u336q.heap.size 0 [.int .i64 (c), .int .i64 (y)]) n t0) := h358q.out.asideL (by omega) 0 [.int .i64 (c), .int .i64 (y)]
            have h367q : Hid (Bo (u364q.setCells u336q.heap.size 0 [.int .i64 (c), .int .i64 (y)]) (n + 1) [.int .i64 a1, .int .i64 b1, .int .i64 c1]) := h359q.out.asideL (by omega) 0 [.int .i64 (c), .int .i64 (y)]
            have h368q : Hid (TAt (u364q.setCells u336q.heap.size 0 [.int .i64 (c), .int .i64 (y)]) u10q.heap.size u) := h360q.out.asideL (by omega) 0 [.int .i64 (c), .int .i64 (y)]
            have h369q : Hid (Bo (u364q.setCells u336q.heap.size 0 [.int .i64 (c), .int .i64 (y)]) (u10q.heap.size + 1) [.int .i64 (c), .int .i64 (y)]) := h361q.out.asideL (by omega) 0 [.int .i64 (c), .int .i64 (y)]
            have h370q : Hid (TAt (u364q.setCells u336q.heap.size 0 [.int .i64 (c), .int .i64 (y)]) u43q.heap.size u) := h362q.out.asideL (by omega) 0 [.int .i64 (c), .int .i64 (y)]
            have h371q : Hid (Bo (u364q.setCells u336q.heap.size 0 [.int .i64 (c), .int .i64 (y)]) u336q.heap.size [.int .i64 (c), .int .i64 (y)]) := h363q.out.set2 (.int .i64 (c)) (.int .i64 (y))
            clear h357q h358q h359q h360q h361q h362q h363q
            refine hK.out _ _ ⟨h366q.out, h367q.out⟩ (fun hH => ?_)
            clear hK K
            generalize (u364q.setCells u336q.heap.size 0 [.int .i64 (c), .int .i64 (y)]) = u372q at h365q h366q h367q h368q h369q h370q h371q hH ⊢
            try simp only [Act.put, List.setIfInBounds_toArray, List.set_cons_zero, List.set_cons_succ]
            refine wpAnyH_done (by kernel_rfl) ?_ _
            go_wp2_with fail
            go_meet
            case rel => exact ⟨u43q.heap.size, u336q.heap.size, rfl, rfl, h365q, h368q, h369q, h370q, h371q⟩
          refine AllReadyH.cons (o := { dst := some 8, op := .alloc _, type := _, pos := _, after := _, guard := _ }) rfl (fun K hK => ?_) AllReadyH.nil
          have l373q : n ≤ u329q.heap.size := h330q.out.le
          have l374q : n < u329q.heap.size := h331q.out.lt
          have l375q : (n + 1) < u329q.heap.size := h332q.out.lt
          have l376q : u10q.heap.size < u329q.heap.size := h333q.out.lt
          have l377q : (u10q.heap.size + 1) < u329q.heap.size := h334q.out.lt
          have l378q : u43q.heap.size < u329q.heap.size := h335q.out.lt
          go_simp
          have h379q : Hid (Gd n w (u329q.alloc (.cells #[.int .i64 0, .int .i64 0] 37))) := h330q.out.new (.cells #[.int .i64 0, .int .i64 0] 37)
          have h380q : Hid (TAt (u329q.alloc (.cells #[.int .i64 0, .int .i64 0] 37)) n t0) := h331q.out.new (.cells #[.int .i64 0, .int .i64 0] 37)
          have h381q : Hid (Bo (u329q.alloc (.cells #[.int .i64 0, .int .i64 0] 37)) (n + 1) [.int .i64 a1, .int .i64 b1, .int .i64 c1]) := h332q.out.new (.cells #[.int .i64 0, .int .i64 0] 37)
          have h382q : Hid (TAt (u329q.alloc (.cells #[.int .i64 0, .int .i64 0] 37)) u10q.heap.size u) := h333q.out.new (.cells #[.int .i64 0, .int .i64 0] 37)
          have h383q : Hid (Bo (u329q.alloc (.cells #[.int .i64 0, .int .i64 0] 37)) (u10q.heap.size + 1) [.int .i64 (c), .int .i64 (y)]) := h334q.out.new (.cells #[.int .i64 0, .int .i64 0] 37)
          have h384q : Hid (TAt (u329q.alloc (.cells #[.int .i64 0, .int .i64 0] 37)) u43q.heap.size Tb.zero) := h335q.out.new (.cells #[.int .i64 0, .int .i64 0] 37)
          clear h330q h331q h332q h333q h334q h335q
          have h385q : Hid (Bo (u329q.alloc (.cells #[.int .i64 0, .int .i64 0] 37)) u329q.heap.size [.int .i64 0, .int .i64 0]) := Bo.born u329q [.int .i64 0, .int .i64 0] 37 (by simp)
          refine hK.out _ _ ⟨h380q.out, h381q.out⟩ (fun hH => ?_)
          clear hK K
          generalize (u329q.alloc (.cells #[.int .i64 0, .int .i64 0] 37)) = u386q at h379q h380q h381q h382q h383q h384q h385q hH ⊢
          try simp only [Act.put, List.setIfInBounds_toArray, List.set_cons_zero, List.set_cons_succ]
          refine wpAnyH_ready (rs := [3]) (by kernel_rfl) (by simp) ?_
          refine AllReadyH.cons (o := { dst := some 22, op := _, type := _, pos := _, after := _, guard := _ }) rfl (fun K hK => ?_) AllReadyH.nil
          go_simp
          refine (PD _).mono ?_
          rintro e u387q ⟨rfl, hb⟩
          have h388q : Hid (Gd n w u387q) := h379q.out.later hb
          have h389q : Hid (TAt u387q n t0) := h380q.out.later hb
          have h390q : Hid (Bo u387q (n + 1) [.int .i64 a1, .int .i64 b1, .int .i64 c1]) := h381q.out.later hb
          have h391q : Hid (TAt u387q u10q.heap.size u) := h382q.out.later hb
          have h392q : Hid (Bo u387q (u10q.heap.size + 1) [.int .i64 (c), .int .i64 (y)]) := h383q.out.later hb
          have h393q : Hid (TAt u387q u43q.heap.size Tb.zero) := h384q.out.later hb
          have h394q : Hid (Bo u387q u329q.heap.size [.int .i64 0, .int .i64 0]) := h385q.out.later hb
          clear h379q h380q h381q h382q h383q h384q h385q
          clear hb
          go_wp2_with fail
          refine hK.out _ _ ⟨h389q.out, h390q.out⟩ (fun hH => ?_)
          clear hK K
          try simp only [Act.put, List.setIfInBounds_toArray, List.set_cons_zero, List.set_cons_succ]
          refine wpAnyH_take (i := 4) (oi := { dst := some 18, op := .move (.tmp 22), type := _, pos := _, after := _, guard := _ }) (v := ?_) rfl (by kernel_rfl) (by kernel_rfl) (by kernel_rfl) (fun _ _ _ h => h) (Or.inl ⟨by rfl, ?_⟩) hH ?_
          rotate_left
          · intro w hSw
            clear hSw
            go_simp
            try with_reducible rfl
          simp only [Act.put, List.setIfInBounds_toArray, List.set_cons_zero, List.set_cons_succ]
          refine wpAnyH_take (i := 5) (oi := { dst := some 23, op := .extract (.tmp 18) 0, type := _, pos := _, after := _, guard := _ }) (v := ?_) rfl (by kernel_rfl) (by kernel_rfl) (by kernel_rfl) (fun _ _ _ h => h) (Or.inl ⟨by rfl, ?_⟩) hH ?_
          rotate_left
          · intro w hSw
            clear hSw
            go_simp
            try with_reducible rfl
          simp only [Act.put, List.setIfInBounds_toArray, List.set_cons_zero, List.set_cons_succ]
          refine wpAnyH_take (i := 6) (oi := { dst := some 24, op := .extract (.tmp 18) 1, type := _, pos := _, after := _, guard := _ }) (v := ?_) rfl (by kernel_rfl) (by kernel_rfl) (by kernel_rfl) (fun _ _ _ h => h) (Or.inl ⟨by rfl, ?_⟩) hH ?_
          rotate_left
          · intro w hSw
            clear hSw
            go_simp
            try with_reducible rfl
          simp only [Act.put, List.setIfInBounds_toArray, List.set_cons_zero, List.set_cons_succ]
          refine wpAnyH_ready (rs := [9]) (by kernel_rfl) (by simp) ?_
          refine AllReadyH.cons (o := { dst := none, op := .store _ (.tmp 7) (.tmp 23), type := _, pos := _, after := _, guard := _ }) rfl (fun K hK => ?_) AllReadyH.nil
          rw [if_pos (by rfl)]
          refine wp_store_mid _ _ _ rfl u43q.heap.size _ u.all.toArray rfl rfl (h393q.out.thereOf u) (HZ.out u) (u.all_all) ?_
          simp only [Act.put]
          have h395q : Hid (Gd n w (u387q.setCells u43q.heap.size 0 u.all)) := h388q.out.asideAll (by omega) u
          have h396q : Hid (TAt (u387q.setCells u43q.heap.size 0 u.all) n t0) := h389q.out.asideAll (by omega) u
          have h397q : Hid (Bo (u387q.setCells u43q.heap.size 0 u.all) (n + 1) [.int .i64 a1, .int .i64 b1, .int .i64 c1]) := h390q.out.asideAll (by omega) u
          have h398q : Hid (TAt (u387q.setCells u43q.heap.size 0 u.all) u10q.heap.size u) := h391q.out.asideAll (by omega) u
          have h399q : Hid (Bo (u387q.setCells u43q.heap.size 0 u.all) (u10q.heap.size + 1) [.int .i64 (c), .int .i64 (y)]) := h392q.out.asideAll (by omega) u
          have h400q : Hid (TAt (u387q.setCells u43q.heap.size 0 u.all) u43q.heap.size u) := h393q.out.setAll u
          have h401q : Hid (Bo (u387q.setCells u43q.heap.size 0 u.all) u329q.heap.size [.int .i64 0, .int .i64 0]) := h394q.out.asideAll (by omega) u
          clear h388q h389q h390q h391q h392q h393q h394q
          refine hK.out _ _ ⟨h396q.out, h397q.out⟩ (fun hH => ?_)
          clear hK K
          generalize (u387q.setCells u43q.heap.size 0 u.all) = u402q at h395q h396q h397q h398q h399q h400q h401q hH ⊢
          try simp only [Act.put, List.setIfInBounds_toArray, List.set_cons_zero, List.set_cons_succ]
          refine wpAnyH_ready (rs := [10]) (by kernel_rfl) (by simp) ?_
          refine AllReadyH.cons (o := { dst := none, op := .store _ (.tmp 8) (.tmp 24), type := _, pos := _, after := _, guard := _ }) rfl (fun K hK => ?_) AllReadyH.nil
          rw [if_pos (by rfl)]
          refine wp_store_mid _ _ _ rfl u329q.heap.size _ #[.int .i64 (c), .int .i64 (y)] rfl rfl h401q.out.there2 HA.out (two_one _ _) ?_
          simp only [Act.put]
          have h403q : Hid (Gd n w (u402q.setCells u329q.heap.size 0 [.int .i64 (c), .int .i64 (y)])) := h395q.out.asideL (by omega) 0 [.int .i64 (c), .int .i64 (y)]
          have h404q : Hid (TAt (u402q.setCells u329q.heap.size 0 [.int .i64 (c), .int .i64 (y)]) n t0) := h396q.out.asideL (by omega) 0 [.int .i64 (c), .int .i64 (y)]
          have h405q : Hid (Bo (u402q.setCells u329q.heap.size 0 [.int .i64 (c), .int .i64 (y)]) (n + 1) [.int .i64 a1, .int .i64 b1, .int .i64 c1]) := h397q.out.asideL (by omega) 0 [.int .i64 (c), .int .i64 (y)]
          have h406q : Hid (TAt (u402q.setCells u329q.heap.size 0 [.int .i64 (c), .int .i64 (y)]) u10q.heap.size u) := h398q.out.asideL (by omega) 0 [.int .i64 (c), .int .i64 (y)]
          have h407q : Hid (Bo (u402q.setCells u329q.heap.size 0 [.int .i64 (c), .int .i64 (y)]) (u10q.heap.size + 1) [.int .i64 (c), .int .i64 (y)]) := h399q.out.asideL (by omega) 0 [.int .i64 (c), .int .i64 (y)]
          have h408q : Hid (TAt (u402q.setCells u329q.heap.size 0 [.int .i64 (c), .int .i64 (y)]) u43q.heap.size u) := h400q.out.asideL (by omega) 0 [.int .i64 (c), .int .i64 (y)]
          have h409q : Hid (Bo (u402q.setCells u329q.heap.size 0 [.int .i64 (c), .int .i64 (y)]) u329q.heap.size [.int .i64 (c), .int .i64 (y)]) := h401q.out.set2 (.int .i64 (c)) (.int .i64 (y))
          clear h395q h396q h397q h398q h399q h400q h401q
          refine hK.out _ _ ⟨h404q.out, h405q.out⟩ (fun hH => ?_)
          clear hK K
          generalize (u402q.setCells u329q.heap.size 0 [.int .i64 (c), .int .i64 (y)]) = u410q at h403q h404q h405q h406q h407q h408q h409q hH ⊢
          try simp only [Act.put, List.setIfInBounds_toArray, List.set_cons_zero, List.set_cons_succ]
          refine wpAnyH_done (by kernel_rfl) ?_ _
          go_wp2_with fail
          go_meet
          case rel => exact ⟨u43q.heap.size, u329q.heap.size, rfl, rfl, h403q, h406q, h407q, h408q, h409q⟩
        refine AllReadyH.cons (o := { dst := some 8, op := .alloc _, type := _, pos := _, after := _, guard := _ }) rfl (fun K hK => ?_) AllReadyH.nil
        have l411q : n ≤ u328q.heap.size := h322q.out.le
        have l412q : n < u328q.heap.size := h323q.out.lt
        have l413q : (n + 1) < u328q.heap.size := h324q.out.lt
        have l414q : u10q.heap.size < u328q.heap.size := h325q.out.lt
        have l415q : (u10q.heap.size + 1) < u328q.heap.size := h326q.out.lt
        have l416q : u43q.heap.size < u328q.heap.size := h327q.out.lt
        go_simp
        have h417q : Hid (Gd n w (u328q.alloc (.cells #[.int .i64 0, .int .i64 0] 37))) := h322q.out.new (.cells #[.int .i64 0, .int .i64 0] 37)
        have h418q : Hid (TAt (u328q.alloc (.cells #[.int .i64 0, .int .i64 0] 37)) n t0) := h323q.out.new (.cells #[.int .i64 0, .int .i64 0] 37)
        have h419q : Hid (Bo (u328q.alloc (.cells #[.int .i64 0, .int .i64 0] 37)) (n + 1) [.int .i64 a1, .int .i64 b1, .int .i64 c1]) := h324q.out.new (.cells #[.int .i64 0, .int .i64 0] 37)
        have h420q : Hid (TAt (u328q.alloc (.cells #[.int .i64 0, .int .i64 0] 37)) u10q.heap.size u) := h325q.out.new (.cells #[.int .i64 0, .int .i64 0] 37)
        have h421q : Hid (Bo (u328q.alloc (.cells #[.int .i64 0, .int .i64 0] 37)) (u10q.heap.size + 1) [.int .i64 (c), .int .i64 (y)]) := h326q.out.new (.cells #[.int .i64 0, .int .i64 0] 37)
        have h422q : Hid (TAt (u328q.alloc (.cells #[.int .i64 0, .int .i64 0] 37)) u43q.heap.size Tb.zero) := h327q.out.new (.cells #[.int .i64 0, .int .i64 0] 37)
        clear h322q h323q h324q h325q h326q h327q
        have h423q : Hid (Bo (u328q.alloc (.cells #[.int .i64 0, .int .i64 0] 37)) u328q.heap.size [.int .i64 0, .int .i64 0]) := Bo.born u328q [.int .i64 0, .int .i64 0] 37 (by simp)
        refine hK.out _ _ ⟨h418q.out, h419q.out⟩ (fun hH => ?_)
        clear hK K
        generalize (u328q.alloc (.cells #[.int .i64 0, .int .i64 0] 37)) = u424q at h417q h418q h419q h420q h421q h422q h423q hH ⊢
        try simp only [Act.put, List.setIfInBounds_toArray, List.set_cons_zero, List.set_cons_succ]
        refine wpAnyH_ready (rs := [1]) (by kernel_rfl) (by simp) ?_
        refine AllReadyH.cons (o := { dst := some 20, op := _, type := _, pos := _, after := _, guard := _ }) rfl (fun K hK => ?_) AllReadyH.nil
        go_simp
        refine (SO _).mono ?_
        rintro e u425q ⟨rfl, hb⟩
        have h426q : Hid (Gd n w u425q) := h417q.out.later hb
        have h427q : Hid (TAt u425q n t0) := h418q.out.later hb
        have h428q : Hid (Bo u425q (n + 1) [.int .i64 a1, .int .i64 b1, .int .i64 c1]) := h419q.out.later hb
        have h429q : Hid (TAt u425q u10q.heap.size u) := h420q.out.later hb
        have h430q : Hid (Bo u425q (u10q.heap.size + 1) [.int .i64 (c), .int .i64 (y)]) := h421q.out.later hb
        have h431q : Hid (TAt u425q u43q.heap.size Tb.zero) := h422q.out.later hb
        have h432q : Hid (Bo u425q u328q.heap.size [.int .i64 0, .int .i64 0]) := h423q.out.later hb
        clear h417q h418q h419q h420q h421q h422q h423q
        clear hb
        go_wp2_with fail
        refine hK.out _ _ ⟨h427q.out, h428q.out⟩ (fun hH => ?_)
        clear hK K
        try simp only [Act.put, List.setIfInBounds_toArray, List.set_cons_zero, List.set_cons_succ]
        refine wpAnyH_ready (rs := [3]) (by kernel_rfl) (by simp) ?_
        refine AllReadyH.cons (o := { dst := some 22, op := _, type := _, pos := _, after := _, guard := _ }) rfl (fun K hK => ?_) AllReadyH.nil
        go_simp
        refine (PD _).mono ?_
        rintro e u433q ⟨rfl, hb⟩
        have h434q : Hid (Gd n w u433q) := h426q.out.later hb
        have h435q : Hid (TAt u433q n t0) := h427q.out.later hb
        have h436q : Hid (Bo u433q (n + 1) [.int .i64 a1, .int .i64 b1, .int .i64 c1]) := h428q.out.later hb
        have h437q : Hid (TAt u433q u10q.heap.size u) := h429q.out.later hb
        have h438q : Hid (Bo u433q (u10q.heap.size + 1) [.int .i64 (c), .int .i64 (y)]) := h430q.out.later hb
        have h439q : Hid (TAt u433q u43q.heap.size Tb.zero) := h431q.out.later hb
        have h440q : Hid (Bo u433q u328q.heap.size [.int .i64 0, .int .i64 0]) := h432q.out.later hb
        clear h426q h427q h428q h429q h430q h431q h432q
        clear hb
        go_wp2_with fail
        refine hK.out _ _ ⟨h435q.out, h436q.out⟩ (fun hH => ?_)
        clear hK K
        try simp only [Act.put, List.setIfInBounds_toArray, List.set_cons_zero, List.set_cons_succ]
        refine wpAnyH_take (i := 4) (oi := { dst := some 18, op := .move (.tmp 22), type := _, pos := _, after := _, guard := _ }) (v := ?_) rfl (by kernel_rfl) (by kernel_rfl) (by kernel_rfl) (fun _ _ _ h => h) (Or.inl ⟨by rfl, ?_⟩) hH ?_
        rotate_left
        · intro w hSw
          clear hSw
          go_simp
          try with_reducible rfl
        simp only [Act.put, List.setIfInBounds_toArray, List.set_cons_zero, List.set_cons_succ]
        refine wpAnyH_take (i := 5) (oi := { dst := some 23, op := .extract (.tmp 18) 0, type := _, pos := _, after := _, guard := _ }) (v := ?_) rfl (by kernel_rfl) (by kernel_rfl) (by kernel_rfl) (fun _ _ _ h => h) (Or.inl ⟨by rfl, ?_⟩) hH ?_
        rotate_left
        · intro w hSw
          clear hSw
          go_simp
          try with_reducible rfl
        simp only [Act.put, List.setIfInBounds_toArray, List.set_cons_zero, List.set_cons_succ]
        refine wpAnyH_take (i := 6) (oi := { dst := some 24, op := .extract (.tmp 18) 1, type := _, pos := _, after := _, guard := _ }) (v := ?_) rfl (by kernel_rfl) (by kernel_rfl) (by kernel_rfl) (fun _ _ _ h => h) (Or.inl ⟨by rfl, ?_⟩) hH ?_
        rotate_left
        · intro w hSw
          clear hSw
          go_simp
          try with_reducible rfl
        simp only [Act.put, List.setIfInBounds_toArray, List.set_cons_zero, List.set_cons_succ]
        refine wpAnyH_ready (rs := [9]) (by kernel_rfl) (by simp) ?_
        refine AllReadyH.cons (o := { dst := none, op := .store _ (.tmp 7) (.tmp 23), type := _, pos := _, after := _, guard := _ }) rfl (fun K hK => ?_) AllReadyH.nil
        rw [if_pos (by rfl)]
        refine wp_store_mid _ _ _ rfl u43q.heap.size _ u.all.toArray rfl rfl (h439q.out.thereOf u) (HZ.out u) (u.all_all) ?_
        simp only [Act.put]
        have h441q : Hid (Gd n w (u433q.setCells u43q.heap.size 0 u.all)) := h434q.out.asideAll (by omega) u
        have h442q : Hid (TAt (u433q.setCells u43q.heap.size 0 u.all) n t0) := h435q.out.asideAll (by omega) u
        have h443q : Hid (Bo (u433q.setCells u43q.heap.size 0 u.all) (n + 1) [.int .i64 a1, .int .i64 b1, .int .i64 c1]) := h436q.out.asideAll (by omega) u
        have h444q : Hid (TAt (u433q.setCells u43q.heap.size 0 u.all) u10q.heap.size u) := h437q.out.asideAll (by omega) u
        have h445q : Hid (Bo (u433q.setCells u43q.heap.size 0 u.all) (u10q.heap.size + 1) [.int .i64 (c), .int .i64 (y)]) := h438q.out.asideAll (by omega) u
        have h446q : Hid (TAt (u433q.setCells u43q.heap.size 0 u.all) u43q.heap.size u) := h439q.out.setAll u
        have h447q : Hid (Bo (u433q.setCells u43q.heap.size 0 u.all) u328q.heap.size [.int .i64 0, .int .i64 0]) := h440q.out.asideAll (by omega) u
        clear h434q h435q h436q h437q h438q h439q h440q
        refine hK.out _ _ ⟨h442q.out, h443q.out⟩ (fun hH => ?_)
        clear hK K
        generalize (u433q.setCells u43q.heap.size 0 u.all) = u448q at h441q h442q h443q h444q h445q h446q h447q hH ⊢
        try simp only [Act.put, List.setIfInBounds_toArray, List.set_cons_zero, List.set_cons_succ]
        refine wpAnyH_ready (rs := [10]) (by kernel_rfl) (by simp) ?_
        refine AllReadyH.cons (o := { dst := none, op := .store _ (.tmp 8) (.tmp 24), type := _, pos := _, after := _, guard := _ }) rfl (fun K hK => ?_) AllReadyH.nil
        rw [if_pos (by rfl)]
        refine wp_store_mid _ _ _ rfl u328q.heap.size _ #[.int .i64 (c), .int .i64 (y)] rfl rfl h447q.out.there2 HA.out (two_one _ _) ?_
        simp only [Act.put]
        have h449q : Hid (Gd n w (u448q.setCells u328q.heap.size 0 [.int .i64 (c), .int .i64 (y)])) := h441q.out.asideL (by omega) 0 [.int .i64 (c), .int .i64 (y)]
        have h450q : Hid (TAt (u448q.setCells u328q.heap.size 0 [.int .i64 (c), .int .i64 (y)]) n t0) := h442q.out.asideL (by omega) 0 [.int .i64 (c), .int .i64 (y)]
        have h451q : Hid (Bo (u448q.setCells u328q.heap.size 0 [.int .i64 (c), .int .i64 (y)]) (n + 1) [.int .i64 a1, .int .i64 b1, .int .i64 c1]) := h443q.out.asideL (by omega) 0 [.int .i64 (c), .int .i64 (y)]
        have h452q : Hid (TAt (u448q.setCells u328q.heap.size 0 [.int .i64 (c), .int .i64 (y)]) u10q.heap.size u) := h444q.out.asideL (by omega) 0 [.int .i64 (c), .int .i64 (y)]
        have h453q : Hid (Bo (u448q.setCells u328q.heap.size 0 [.int .i64 (c), .int .i64 (y)]) (u10q.heap.size + 1) [.int .i64 (c), .int .i64 (y)]) := h445q.out.asideL (by omega) 0 [.int .i64 (c), .int .i64 (y)]
        have h454q : Hid (TAt (u448q.setCells u328q.heap.size 0 [.int .i64 (c), .int .i64 (y)]) u43q.heap.size u) := h446q.out.asideL (by omega) 0 [.int .i64 (c), .int .i64 (y)]
        have h455q : Hid (Bo (u448q.setCells u328q.heap.size 0 [.int .i64 (c), .int .i64 (y)]) u328q.heap.size [.int .i64 (c), .int .i64 (y)]) := h447q.out.set2 (.int .i64 (c)) (.int .i64 (y))
        clear h441q h442q h443q h444q h445q h446q h447q
        refine hK.out _ _ ⟨h450q.out, h451q.out⟩ (fun hH => ?_)
        clear hK K
        generalize (u448q.setCells u328q.heap.size 0 [.int .i64 (c), .int .i64 (y)]) = u456q at h449q h450q h451q h452q h453q h454q h455q hH ⊢
        try simp only [Act.put, List.setIfInBounds_toArray, List.set_cons_zero, List.set_cons_succ]
        refine wpAnyH_done (by kernel_rfl) ?_ _
        go_wp2_with fail
        go_meet
        case rel => exact ⟨u43q.heap.size, u328q.heap.size, rfl, rfl, h449q, h452q, h453q, h454q, h455q⟩
      refine AllReadyH.cons (o := { dst := some 8, op := .alloc _, type := _, pos := _, after := _, guard := _ }) rfl (fun K hK => ?_) AllReadyH.nil
      have l457q : n ≤ u43q.heap.size := h38q.out.le
      have l458q : n < u43q.heap.size := h39q.out.lt
      have l459q : (n + 1) < u43q.heap.size := h40q.out.lt
      have l460q : u10q.heap.size < u43q.heap.size := h41q.out.lt
      have l461q : (u10q.heap.size + 1) < u43q.heap.size := h42q.out.lt
      go_simp
      have h462q : Hid (Gd n w (u43q.alloc (.cells #[.int .i64 0, .int .i64 0] 37))) := h38q.out.new (.cells #[.int .i64 0, .int .i64 0] 37)
      have h463q : Hid (TAt (u43q.alloc (.cells #[.int .i64 0, .int .i64 0] 37)) n t0) := h39q.out.new (.cells #[.int .i64 0, .int .i64 0] 37)
      have h464q : Hid (Bo (u43q.alloc (.cells #[.int .i64 0, .int .i64 0] 37)) (n + 1) [.int .i64 a1, .int .i64 b1, .int .i64 c1]) := h40q.out.new (.cells #[.int .i64 0, .int .i64 0] 37)
      have h465q : Hid (TAt (u43q.alloc (.cells #[.int .i64 0, .int .i64 0] 37)) u10q.heap.size u) := h41q.out.new (.cells #[.int .i64 0, .int .i64 0] 37)
      have h466q : Hid (Bo (u43q.alloc (.cells #[.int .i64 0, .int .i64 0] 37)) (u10q.heap.size + 1) [.int .i64 (c), .int .i64 (y)]) := h42q.out.new (.cells #[.int .i64 0, .int .i64 0] 37)
      clear h38q h39q h40q h41q h42q
      have h467q : Hid (Bo (u43q.alloc (.cells #[.int .i64 0, .int .i64 0] 37)) u43q.heap.size [.int .i64 0, .int .i64 0]) := Bo.born u43q [.int .i64 0, .int .i64 0] 37 (by simp)
      refine hK.out _ _ ⟨h463q.out, h464q.out⟩ (fun hH => ?_)
      clear hK K
      generalize (u43q.alloc (.cells #[.int .i64 0, .int .i64 0] 37)) = u468q at h462q h463q h464q h465q h466q h467q hH ⊢
      try simp only [Act.put, List.setIfInBounds_toArray, List.set_cons_zero, List.set_cons_succ]
      refine wpAnyH_ready (rs := [1, 7]) (by kernel_rfl) (by simp) ?_
      refine AllReadyH.cons (o := { dst := some 20, op := _, type := _, pos := _, after := _, guard := _ }) rfl (fun K hK => ?_) ?_
      · go_simp
        refine (SO _).mono ?_
        rintro e u469q ⟨rfl, hb⟩
        have h470q : Hid (Gd n w u469q) := h462q.out.later hb
        have h471q : Hid (TAt u469q n t0) := h463q.out.later hb
        have h472q : Hid (Bo u469q (n + 1) [.int .i64 a1, .int .i64 b1, .int .i64 c1]) := h464q.out.later hb
        have h473q : Hid (TAt u469q u10q.heap.size u) := h465q.out.later hb
        have h474q : Hid (Bo u469q (u10q.heap.size + 1) [.int .i64 (c), .int .i64 (y)]) := h466q.out.later hb
        have h475q : Hid (Bo u469q u43q.heap.size [.int .i64 0, .int .i64 0]) := h467q.out.later hb
        clear h462q h463q h464q h465q h466q h467q
        clear hb
        go_wp2_with fail
        refine hK.out _ _ ⟨h471q.out, h472q.out⟩ (fun hH => ?_)
        clear hK K
        try simp only [Act.put, List.setIfInBounds_toArray, List.set_cons_zero, List.set_cons_succ]
        refine wpAnyH_ready (rs := [3, 7]) (by kernel_rfl) (by simp) ?_
        refine AllReadyH.cons (o := { dst := some 22, op := _, type := _, pos := _, after := _, guard := _ }) rfl (fun K hK => ?_) ?_
        · go_simp
          refine (PD _).mono ?_
          rintro e u476q ⟨rfl, hb⟩
          have h477q : Hid (Gd n w u476q) := h470q.out.later hb
          have h478q : Hid (TAt u476q n t0) := h471q.out.later hb
          have h479q : Hid (Bo u476q (n + 1) [.int .i64 a1, .int .i64 b1, .int .i64 c1]) := h472q.out.later hb
          have h480q : Hid (TAt u476q u10q.heap.size u) := h473q.out.later hb
          have h481q : Hid (Bo u476q (u10q.heap.size + 1) [.int .i64 (c), .int .i64 (y)]) := h474q.out.later hb
          have h482q : Hid (Bo u476q u43q.heap.size [.int .i64 0, .int .i64 0]) := h475q.out.later hb
          clear h470q h471q h472q h473q h474q h475q
          clear hb
          go_wp2_with fail
          refine hK.out _ _ ⟨h478q.out, h479q.out⟩ (fun hH => ?_)
          clear hK K
          try simp only [Act.put, List.setIfInBounds_toArray, List.set_cons_zero, List.set_cons_succ]
          refine wpAnyH_take (i := 4) (oi := { dst := some 18, op := .move (.tmp 22), type := _, pos := _, after := _, guard := _ }) (v := ?_) rfl (by kernel_rfl) (by kernel_rfl) (by kernel_rfl) (fun _ _ _ h => h) (Or.inl ⟨by rfl, ?_⟩) hH ?_
          rotate_left
          · intro w hSw
            clear hSw
            go_simp
            try with_reducible rfl
          simp only [Act.put, List.setIfInBounds_toArray, List.set_cons_zero, List.set_cons_succ]
          refine wpAnyH_take (i := 5) (oi := { dst := some 23, op := .extract (.tmp 18) 0, type := _, pos := _, after := _, guard := _ }) (v := ?_) rfl (by kernel_rfl) (by kernel_rfl) (by kernel_rfl) (fun _ _ _ h => h) (Or.inl ⟨by rfl, ?_⟩) hH ?_
          rotate_left
          · intro w hSw
            clear hSw
            go_simp
            try with_reducible rfl
          simp only [Act.put, List.setIfInBounds_toArray, List.set_cons_zero, List.set_cons_succ]
          refine wpAnyH_take (i := 6) (oi := { dst := some 24, op := .extract (.tmp 18) 1, type := _, pos := _, after := _, guard := _ }) (v := ?_) rfl (by kernel_rfl) (by kernel_rfl) (by kernel_rfl) (fun _ _ _ h => h) (Or.inl ⟨by rfl, ?_⟩) hH ?_
          rotate_left
          · intro w hSw
            clear hSw
            go_simp
            try with_reducible rfl
          simp only [Act.put, List.setIfInBounds_toArray, List.set_cons_zero, List.set_cons_succ]
          refine wpAnyH_ready (rs := [7]) (by kernel_rfl) (by simp) ?_
          refine AllReadyH.cons (o := { dst := some 7, op := .alloc _, type := _, pos := _, after := _, guard := _ }) rfl (fun K hK => ?_) AllReadyH.nil
          have l483q : n ≤ u476q.heap.size := h477q.out.le
          have l484q : n < u476q.heap.size := h478q.out.lt
          have l485q : (n + 1) < u476q.heap.size := h479q.out.lt
          have l486q : u10q.heap.size < u476q.heap.size := h480q.out.lt
          have l487q : (u10q.heap.size + 1) < u476q.heap.size := h481q.out.lt
          have l488q : u43q.heap.size < u476q.heap.size := h482q.out.lt
          go_simp
          have h489q : Hid (Gd n w (u476q.alloc (.cells #[.int .i64 0, .int .i64 0, .int .i64 0, .int .i64 0, .int .i64 0, .int .i64 0, .int .i64 0, .int .i64 0, .int .i64 0, .int .i64 0, .int .i64 0, .int .i64 0, .int .i64 0, .int .i64 0, .int .i64 0, .int .i64 0] 29))) := h477q.out.new (.cells #[.int .i64 0, .int .i64 0, .int .i64 0, .int .i64 0, .int .i64 0, .int .i64 0, .int .i64 0, .int .i64 0, .int .i64 0, .int .i64 0, .int .i64 0, .int .i64 0, .int .i64 0, .int .i64 0, .int .i64 0, .int .i64 0] 29)
          have h490q : Hid (TAt (u476q.alloc (.cells #[.int .i64 0, .int .i64 0, .int .i64 0, .int .i64 0, .int .i64 0, .int .i64 0, .int .i64 0, .int .i64 0, .int .i64 0, .int .i64 0, .int .i64 0, .int .i64 0, .int .i64 0, .int .i64 0, .int .i64 0, .int .i64 0] 29)) n t0) := h478q.out.new (.cells #[.int .i64 0, .int .i64 0, .int .i64 0, .int .i64 0, .int .i64 0, .int .i64 0, .int .i64 0, .int .i64 0, .int .i64 0, .int .i64 0, .int .i64 0, .int .i64 0, .int .i64 0, .int .i64 0, .int .i64 0, .int .i64 0] 29)
          have h491q : Hid (Bo (u476q.alloc (.cells #[.int .i64 0, .int .i64 0, .int .i64 0, .int .i64 0, .int .i64 0, .int .i64 0, .int .i64 0, .int .i64 0, .int .i64 0, .int .i64 0, .int .i64 0, .int .i64 0, .int .i64 0, .int .i64 0, .int .i64 0, .int .i64 0] 29)) (n + 1) [.int .i64 a1, .int .i64 b1, .int .i64 c1]) := h479q.out.new (.cells #[.int .i64 0, .int .i64 0, .int .i64 0, .int .i64 0, .int .i64 0, .int .i64 0, .int .i64 0, .int .i64 0, .int .i64 0, .int .i64 0, .int .i64 0, .int .i64 0, .int .i64 0, .int .i64 0, .int .i64 0, .int .i64 0] 29)
          have h492q : Hid (TAt (u476q.alloc (.cells #[.int .i64 0, .int .i64 0, .int .i64 0, .int .i64 0, .int .i64 0, .int .i64 0, .int .i64 0, .int .i64 0, .int .i64 0, .int .i64 0, .int .i64 0, .int .i64 0, .int .i64 0, .int .i64 0, .int .i64 0, .int .i64 0] 29)) u10q.heap.size u) := h480q.out.new (.cells #[.int .i64 0, .int .i64 0, .int .i64 0, .int .i64 0, .int .i64 0, .int .i64 0, .int .i64 0, .int .i64 0, .int .i64 0, .int .i64 0, .int .i64 0, .int .i64 0, .int .i64 0, .int .i64 0, .int .i64 0, .int .i64 0] 29)
          have h493q : Hid (Bo (u476q.alloc (.cells #[.int .i64 0, .int .i64 0, .int .i64 0, .int .i64 0, .int .i64 0, .int .i64 0, .int .i64 0, .int .i64 0, .int .i64 0, .int .i64 0, .int .i64 0, .int .i64 0, .int .i64 0, .int .i64 0, .int .i64 0, .int .i64 0] 29)) (u10q.heap.size + 1) [.int .i64 (c), .int .i64 (y)]) := h481q.out.new (.cells #[.int .i64 0, .int .i64 0, .int .i64 0, .int .i64 0, .int .i64 0, .int .i64 0, .int .i64 0, .int .i64 0, .int .i64 0, .int .i64 0, .int .i64 0, .int .i64 0, .int .i64 0, .int .i64 0, .int .i64 0, .int .i64 0] 29)
          have h494q : Hid (Bo (u476q.alloc (.cells #[.int .i64 0, .int .i64 0, .int .i64 0, .int .i64 0, .int .i64 0, .int .i64 0, .int .i64 0, .int .i64 0, .int .i64 0, .int .i64 0, .int .i64 0, .int .i64 0, .int .i64 0, .int .i64 0, .int .i64 0, .int .i64 0] 29)) u43q.heap.size [.int .i64 0, .int .i64 0]) := h482q.out.new (.cells #[.int .i64 0, .int .i64 0, .int .i64 0, .int .i64 0, .int .i64 0, .int .i64 0, .int .i64 0, .int .i64 0, .int .i64 0, .int .i64 0, .int .i64 0, .int .i64 0, .int .i64 0, .int .i64 0, .int .i64 0, .int .i64 0] 29)
          clear h477q h478q h479q h480q h481q h482q
          have h495q : Hid (TAt (u476q.alloc (.cells #[.int .i64 0, .int .i64 0, .int .i64 0, .int .i64 0, .int .i64 0, .int .i64 0, .int .i64 0, .int .i64 0, .int .i64 0, .int .i64 0, .int .i64 0, .int .i64 0, .int .i64 0, .int .i64 0, .int .i64 0, .int .i64 0] 29)) u476q.heap.size Tb.zero) := TAt.bornZero u476q 29 (by simp)
          refine hK.out _ _ ⟨h490q.out, h491q.out⟩ (fun hH => ?_)
          clear hK K
          generalize (u476q.alloc (.cells #[.int .i64 0, .int .i64 0, .int .i64 0, .int .i64 0, .int .i64 0, .int .i64 0, .int .i64 0, .int .i64 0, .int .i64 0, .int .i64 0, .int .i64 0, .int .i64 0, .int .i64 0, .int .i64 0, .int .i64 0, .int .i64 0] 29)) = u496q at h489q h490q h491q h492q h493q h494q h495q hH ⊢
          try simp only [Act.put, List.setIfInBounds_toArray, List.set_cons_zero, List.set_cons_succ]
          refine wpAnyH_ready (rs := [9]) (by kernel_rfl) (by simp) ?_
          refine AllReadyH.cons (o := { dst := none, op := .store _ (.tmp 7) (.tmp 23), type := _, pos := _, after := _, guard := _ }) rfl (fun K hK => ?_) AllReadyH.nil
          rw [if_pos (by rfl)]
          refine wp_store_mid _ _ _ rfl u476q.heap.size _ u.all.toArray rfl rfl (h495q.out.thereOf u) (HZ.out u) (u.all_all) ?_
          simp only [Act.put]
          have h497q : Hid (Gd n w (u496q.setCells u476q.heap.size 0 u.all)) := h489q.out.asideAll (by omega) u
          have h498q : Hid (TAt (u496q.setCells u476q.heap.size 0 u.all) n t0) := h490q.out.asideAll (by omega) u
          have h499q : Hid (Bo (u496q.setCells u476q.heap.size 0 u.all) (n + 1) [.int .i64 a1, .int .i64 b1, .int .i64 c1]) := h491q.out.asideAll (by omega) u
          have h500q : Hid (TAt (u496q.setCells u476q.heap.size 0 u.all) u10q.heap.size u) := h492q.out.asideAll (by omega) u
          have h501q : Hid (Bo (u496q.setCells u476q.heap.size 0 u.all) (u10q.heap.size + 1) [.int .i64 (c), .int .i64 (y)]) := h493q.out.asideAll (by omega) u
          have h502q : Hid (Bo (u496q.setCells u476q.heap.size 0 u.all) u43q.heap.size [.int .i64 0, .int .i64 0]) := h494q.out.asideAll (by omega) u
          have h503q : Hid (TAt (u496q.setCells u476q.heap.size 0 u.all) u476q.heap.size u) := h495q.out.setAll u
          clear h489q h490q h491q h492q h493q h494q h495q
          refine hK.out _ _ ⟨h498q.out, h499q.out⟩ (fun hH => ?_)
          clear hK K
          generalize (u496q.setCells u476q.heap.size 0 u.all) = u504q at h497q h498q h499q h500q h501q h502q h503q hH ⊢
          try simp only [Act.put, List.setIfInBounds_toArray, List.set_cons_zero, List.set_cons_succ]
          refine wpAnyH_ready (rs := [10]) (by kernel_rfl) (by simp) ?_
          refine AllReadyH.cons (o := { dst := none, op := .store _ (.tmp 8) (.tmp 24), type := _, pos := _, after := _, guard := _ }) rfl (fun K hK => ?_) AllReadyH.nil
          rw [if_pos (by rfl)]
          refine wp_store_mid _ _ _ rfl u43q.heap.size _ #[.int .i64 (c), .int .i64 (y)] rfl rfl h502q.out.there2 HA.out (two_one _ _) ?_
          simp only [Act.put]
          have h505q : Hid (Gd n w (u504q.setCells u43q.heap.size 0 [.int .i64 (c), .int .i64 (y)])) := h497q.out.asideL (by omega) 0 [.int .i64 (c), .int .i64 (y)]
          have h506q : Hid (TAt (u504q.setCells u43q.heap.size 0 [.int .i64 (c), .int .i64 (y)]) n t0) := h498q.out.asideL (by omega) 0 [.int .i64 (c), .int .i64 (y)]
          have h507q : Hid (Bo (u504q.setCells u43q.heap.size 0 [.int .i64 (c), .int .i64 (y)]) (n + 1) [.int .i64 a1, .int .i64 b1, .int .i64 c1]) := h499q.out.asideL (by omega) 0 [.int .i64 (c), .int .i64 (y)]
          have h508q : Hid (TAt (u504q.setCells u43q.heap.size 0 [.int .i64 (c), .int .i64 (y)]) u10q.heap.size u) := h500q.out.asideL (by omega) 0 [.int .i64 (c), .int .i64 (y)]
          have h509q : Hid (Bo (u504q.setCells u43q.heap.size 0 [.int .i64 (c), .int .i64 (y)]) (u10q.heap.size + 1) [.int .i64 (c), .int .i64 (y)]) := h501q.out.asideL (by omega) 0 [.int .i64 (c), .int .i64 (y)]
          have h510q : Hid (Bo (u504q.setCells u43q.heap.size 0 [.int .i64 (c), .int .i64 (y)]) u43q.heap.size [.int .i64 (c), .int .i64 (y)]) := h502q.out.set2 (.int .i64 (c)) (.int .i64 (y))
          have h511q : Hid (TAt (u504q.setCells u43q.heap.size 0 [.int .i64 (c), .int .i64 (y)]) u476q.heap.size u) := h503q.out.asideL (by omega) 0 [.int .i64 (c), .int .i64 (y)]
          clear h497q h498q h499q h500q h501q h502q h503q
          refine hK.out _ _ ⟨h506q.out, h507q.out⟩ (fun hH => ?_)
          clear hK K
          generalize (u504q.setCells u43q.heap.size 0 [.int .i64 (c), .int .i64 (y)]) = u512q at h505q h506q h507q h508q h509q h510q h511q hH ⊢
          try simp only [Act.put, List.setIfInBounds_toArray, List.set_cons_zero, List.set_cons_succ]
          refine wpAnyH_done (by kernel_rfl) ?_ _
          go_wp2_with fail
          go_meet
          case rel => exact ⟨u476q.heap.size, u43q.heap.size, rfl, rfl, h505q, h508q, h509q, h511q, h510q⟩
        refine AllReadyH.cons (o := { dst := some 7, op := .alloc _, type := _, pos := _, after := _, guard := _ }) rfl (fun K hK => ?_) AllReadyH.nil
        have l513q : n ≤ u469q.heap.size := h470q.out.le
        have l514q : n < u469q.heap.size := h471q.out.lt
        have l515q : (n + 1) < u469q.heap.size := h472q.out.lt
        have l516q : u10q.heap.size < u469q.heap.size := h473q.out.lt
        have l517q : (u10q.heap.size + 1) < u469q.heap.size := h474q.out.lt
        have l518q : u43q.heap.size < u469q.heap.size := h475q.out.lt
        go_simp
        have h519q : Hid (Gd n w (u469q.alloc (.cells #[.int .i64 0, .int .i64 0, .int .i64 0, .int .i64 0, .int .i64 0, .int .i64 0, .int .i64 0, .int .i64 0, .int .i64 0, .int .i64 0, .int .i64 0, .int .i64 0, .int .i64 0, .int .i64 0, .int .i64 0, .int .i64 0] 29))) := h470q.out.new (.cells #[.int .i64 0, .int .i64 0, .int .i64 0, .int .i64 0, .int .i64 0, .int .i64 0, .int .i64 0, .int .i64 0, .int .i64 0, .int .i64 0, .int .i64 0, .int .i64 0, .int .i64 0, .int .i64 0, .int .i64 0, .int .i64 0] 29)
        have h520q : Hid (TAt (u469q.alloc (.cells #[.int .i64 0, .int .i64 0, .int .i64 0, .int .i64 0, .int .i64 0, .int .i64 0, .int .i64 0, .int .i64 0, .int .i64 0, .int .i64 0, .int .i64 0, .int .i64 0, .int .i64 0, .int .i64 0, .int .i64 0, .int .i64 0] 29)) n t0) := h471q.out.new (.cells #[.int .i64 0, .int .i64 0, .int .i64 0, .int .i64 0, .int .i64 0, .int .i64 0, .int .i64 0, .int .i64 0, .int .i64 0, .int .i64 0, .int .i64 0, .int .i64 0, .int .i64 0, .int .i64 0, .int .i64 0, .int .i64 0] 29)
        have h521q : Hid (Bo (u469q.alloc (.cells #[.int .i64 0, .int .i64 0, .int .i64 0, .int .i64 0, .int .i64 0, .int .i64 0, .int .i64 0, .int .i64 0, .int .i64 0, .int .i64 0, .int .i64 0, .int .i64 0, .int .i64 0, .int .i64 0, .int .i64 0, .int .i64 0] 29)) (n + 1) [.int .i64 a1, .int .i64 b1, .int .i64 c1]) := h472q.out.new (.cells #[.int .i64 0, .int .i64 0, .int .i64 0, .int .i64 0, .int .i64 0, .int .i64 0, .int .i64 0, .int .i64 0, .int .i64 0, .int .i64 0, .int .i64 0, .int .i64 0, .int .i64 0, .int .i64 0, .int .i64 0, .int .i64 0] 29)
        have h522q : Hid (TAt (u469q.alloc (.cells #[.int .i64 0, .int .i64 0, .int .i64 0, .int .i64 0, .int .i64 0, .int .i64 0, .int .i64 0, .int .i64 0, .int .i64 0, .int .i64 0, .int .i64 0, .int .i64 0, .int .i64 0, .int .i64 0, .int .i64 0, .int .i64 0] 29)) u10q.heap.size u) := h473q.out.new (.cells #[.int .i64 0, .int .i64 0, .int .i64 0, .int .i64 0, .int .i64 0, .int .i64 0, .int .i64 0, .int .i64 0, .int .i64 0, .int .i64 0, .int .i64 0, .int .i64 0, .int .i64 0, .int .i64 0, .int .i64 0, .int .i64 0] 29)
        have h523q : Hid (Bo (u469q.alloc (.cells #[.int .i64 0, .int .i64 0, .int .i64 0, .int .i64 0, .int .i64 0, .int .i64 0, .int .i64 0, .int .i64 0, .int .i64 0, .int .i64 0, .int .i64 0, .int .i64 0, .int .i64 0, .int .i64 0, .int .i64 0, .int .i64 0] 29)) (u10q.heap.size + 1) [.int .i64 (c), .int .i64 (y)]) := h474q.out.new (.cells #[.int .i64 0, .int .i64 0, .int .i64 0, .int .i64 0, .int .i64 0, .int .i64 0, .int .i64 0, .int .i64 0, .int .i64 0, .int .i64 0, .int .i64 0, .int .i64 0, .int .i64 0, .int .i64 0, .int .i64 0, .int .i64 0] 29)
        have h524q : Hid (Bo (u469q.alloc (.cells #[.int .i64 0, .int .i64 0, .int .i64 0, .int .i64 0, .int .i64 0, .int .i64 0, .int .i64 0, .int .i64 0, .int .i64 0, .int .i64 0, .int .i64 0, .int .i64 0, .int .i64 0, .int .i64 0, .int .i64 0, .int .i64 0] 29)) u43q.heap.size [.int .i64 0, .int .i64 0]) := h475q.out.new (.cells #[.int .i64 0, .int .i64 0, .int .i64 0, .int .i64 0, .int .i64 0, .int .i64 0, .int .i64 0, .int .i64 0, .int .i64 0, .int .i64 0, .int .i64 0, .int .i64 0, .int .i64 0, .int .i64 0, .int .i64 0, .int .i64 0] 29)
        clear h470q h471q h472q h473q h474q h475q
        have h525q : Hid (TAt (u469q.alloc (.cells #[.int .i64 0, .int .i64 0, .int .i64 0, .int .i64 0, .int .i64 0, .int .i64 0, .int .i64 0, .int .i64 0, .int .i64 0, .int .i64 0, .int .i64 0, .int .i64 0, .int .i64 0, .int .i64 0, .int .i64 0, .int .i64 0] 29)) u469q.heap.size Tb.zero) := TAt.bornZero u469q 29 (by simp)
        refine hK.out _ _ ⟨h520q.out, h521q.out⟩ (fun hH => ?_)
        clear hK K
        generalize (u469q.alloc (.cells #[.int .i64 0, .int .i64 0, .int .i64 0, .int .i64 0, .int .i64 0, .int .i64 0, .int .i64 0, .int .i64 0, .int .i64 0, .int .i64 0, .int .i64 0, .int .i64 0, .int .i64 0, .int .i64 0, .int .i64 0, .int .i64 0] 29)) = u526q at h519q h520q h521q h522q h523q h524q h525q hH ⊢
        try simp only [Act.put, List.setIfInBounds_toArray, List.set_cons_zero, List.set_cons_succ]
        refine wpAnyH_ready (rs := [3]) (by kernel_rfl) (by simp) ?_
        refine AllReadyH.cons (o := { dst := some 22, op := _, type := _, pos := _, after := _, guard := _ }) rfl (fun K hK => ?_) AllReadyH.nil
        go_simp
        refine (PD _).mono ?_
        rintro e u527q ⟨rfl, hb⟩
        have h528q : Hid (Gd n w u527q) := h519q.out.later hb
        have h529q : Hid (TAt u527q n t0) := h520q.out.later hb
        have h530q : Hid (Bo u527q (n + 1) [.int .i64 a1, .int .i64 b1, .int .i64 c1]) := h521q.out.later hb
        have h531q : Hid (TAt u527q u10q.heap.size u) := h522q.out.later hb
        have h532q : Hid (Bo u527q (u10q.heap.size + 1) [.int .i64 (c), .int .i64 (y)]) := h523q.out.later hb
        have h533q : Hid (Bo u527q u43q.heap.size [.int .i64 0, .int .i64 0]) := h524q.out.later hb
        have h534q : Hid (TAt u527q u469q.heap.size Tb.zero) := h525q.out.later hb
        clear h519q h520q h521q h522q h523q h524q h525q
        clear hb
        go_wp2_with fail
        refine hK.out _ _ ⟨h529q.out, h530q.out⟩ (fun hH => ?_)
        clear hK K
        try simp only [Act.put, List.setIfInBounds_toArray, List.set_cons_zero, List.set_cons_succ]
        refine wpAnyH_take (i := 4) (oi := { dst := some 18, op := .move (.tmp 22), type := _, pos := _, after := _, guard := _ }) (v := ?_) rfl (by kernel_rfl) (by kernel_rfl) (by kernel_rfl) (fun _ _ _ h => h) (Or.inl ⟨by rfl, ?_⟩) hH ?_
        rotate_left
        · intro w hSw
          clear hSw
          go_simp
          try with_reducible rfl
        simp only [Act.put, List.setIfInBounds_toArray, List.set_cons_zero, List.set_cons_succ]
        refine wpAnyH_take (i := 5) (oi := { dst := some 23, op := .extract (.tmp 18) 0, type := _, pos := _, after := _, guard := _ }) (v := ?_) rfl (by kernel_rfl) (by kernel_rfl) (by kernel_rfl) (fun _ _ _ h => h) (Or.inl ⟨by rfl, ?_⟩) hH ?_
        rotate_left
        · intro w hSw
          clear hSw
          go_simp
          try with_reducible rfl
        simp only [Act.put, List.setIfInBounds_toArray, List.set_cons_zero, List.set_cons_succ]
        refine wpAnyH_take (i := 6) (oi := { dst := some 24, op := .extract (.tmp 18) 1, type := _, pos := _, after := _, guard := _ }) (v := ?_) rfl (by kernel_rfl) (by kernel_rfl) (by kernel_rfl) (fun _ _ _ h => h) (Or.inl ⟨by rfl, ?_⟩) hH ?_
        rotate_left
        · intro w hSw
          clear hSw
          go_simp
          try with_reducible rfl
        simp only [Act.put, List.setIfInBounds_toArray, List.set_cons_zero, List.set_cons_succ]
        refine wpAnyH_ready (rs := [9]) (by kernel_rfl) (by simp) ?_
        refine AllReadyH.cons (o := { dst := none, op := .store _ (.tmp 7) (.tmp 23), type := _, pos := _, after := _, guard := _ }) rfl (fun K hK => ?_) AllReadyH.nil
        rw [if_pos (by rfl)]
        refine wp_store_mid _ _ _ rfl u469q.heap.size _ u.all.toArray rfl rfl (h534q.out.thereOf u) (HZ.out u) (u.all_all) ?_
        simp only [Act.put]
        have h535q : Hid (Gd n w (u527q.setCells u469q.heap.size 0 u.all)) := h528q.out.asideAll (by omega) u
        have h536q : Hid (TAt (u527q.setCells u469q.heap.size 0 u.all) n t0) := h529q.out.asideAll (by omega) u
        have h537q : Hid (Bo (u527q.setCells u469q.heap.size 0 u.all) (n + 1) [.int .i64 a1, .int .i64 b1, .int .i64 c1]) := h530q.out.asideAll (by omega) u
        have h538q : Hid (TAt (u527q.setCells u469q.heap.size 0 u.all) u10q.heap.size u) := h531q.out.asideAll (by omega) u
        have h539q : Hid (Bo (u527q.setCells u469q.heap.size 0 u.all) (u10q.heap.size + 1) [.int .i64 (c), .int .i64 (y)]) := h532q.out.asideAll (by omega) u
        have h540q : Hid (Bo (u527q.setCells u469q.heap.size 0 u.all) u43q.heap.size [.int .i64 0, .int .i64 0]) := h533q.out.asideAll (by omega) u
        have h541q : Hid (TAt (u527q.setCells u469q.heap.size 0 u.all) u469q.heap.size u) := h534q.out.setAll u
        clear h528q h529q h530q h531q h532q h533q h534q
        refine hK.out _ _ ⟨h536q.out, h537q.out⟩ (fun hH => ?_)
        clear hK K
        generalize (u527q.setCells u469q.heap.size 0 u.all) = u542q at h535q h536q h537q h538q h539q h540q h541q hH ⊢
        try simp only [Act.put, List.setIfInBounds_toArray, List.set_cons_zero, List.set_cons_succ]
        refine wpAnyH_ready (rs := [10]) (by kernel_rfl) (by simp) ?_
        refine AllReadyH.cons (o := { dst := none, op := .store _ (.tmp 8) (.tmp 24), type := _, pos := _, after := _, guard := _ }) rfl (fun K hK => ?_) AllReadyH.nil
        rw [if_pos (by rfl)]
        refine wp_store_mid _ _ _ rfl u43q.heap.size _ #[.int .i64 (c), .int .i64 (y)] rfl rfl h540q.out.there2 HA.out (two_one _ _) ?_
        simp only [Act.put]
        have h543q : Hid (Gd n w (u542q.setCells u43q.heap.size 0 [.int .i64 (c), .int .i64 (y)])) := h535q.out.asideL (by omega) 0 [.int .i64 (c), .int .i64 (y)]
        have h544q : Hid (TAt (u542q.setCells u43q.heap.size 0 [.int .i64 (c), .int .i64 (y)]) n t0) := h536q.out.asideL (by omega) 0 [.int .i64 (c), .int .i64 (y)]
        have h545q : Hid (Bo (u542q.setCells u43q.heap.size 0 [.int .i64 (c), .int .i64 (y)]) (n + 1) [.int .i64 a1, .int .i64 b1, .int .i64 c1]) := h537q.out.asideL (by omega) 0 [.int .i64 (c), .int .i64 (y)]
        have h546q : Hid (TAt (u542q.setCells u43q.heap.size 0 [.int .i64 (c), .int .i64 (y)]) u10q.heap.size u) := h538q.out.asideL (by omega) 0 [.int .i64 (c), .int .i64 (y)]
        have h547q : Hid (Bo (u542q.setCells u43q.heap.size 0 [.int .i64 (c), .int .i64 (y)]) (u10q.heap.size + 1) [.int .i64 (c), .int .i64 (y)]) := h539q.out.asideL (by omega) 0 [.int .i64 (c), .int .i64 (y)]
        have h548q : Hid (Bo (u542q.setCells u43q.heap.size 0 [.int .i64 (c), .int .i64 (y)]) u43q.heap.size [.int .i64 (c), .int .i64 (y)]) := h540q.out.set2 (.int .i64 (c)) (.int .i64 (y))
        have h549q : Hid (TAt (u542q.setCells u43q.heap.size 0 [.int .i64 (c), .int .i64 (y)]) u469q.heap.size u) := h541q.out.asideL (by omega) 0 [.int .i64 (c), .int .i64 (y)]
        clear h535q h536q h537q h538q h539q h540q h541q
        refine hK.out _ _ ⟨h544q.out, h545q.out⟩ (fun hH => ?_)
        clear hK K
        generalize (u542q.setCells u43q.heap.size 0 [.int .i64 (c), .int .i64 (y)]) = u550q at h543q h544q h545q h546q h547q h548q h549q hH ⊢
        try simp only [Act.put, List.setIfInBounds_toArray, List.set_cons_zero, List.set_cons_succ]
        refine wpAnyH_done (by kernel_rfl) ?_ _
        go_wp2_with fail
        go_meet
        case rel => exact ⟨u469q.heap.size, u43q.heap.size, rfl, rfl, h543q, h546q, h547q, h549q, h548q⟩
      refine AllReadyH.cons (o := { dst := some 7, op := .alloc _, type := _, pos := _, after := _, guard := _ }) rfl (fun K hK => ?_) AllReadyH.nil
      have l551q : n ≤ u468q.heap.size := h462q.out.le
      have l552q : n < u468q.heap.size := h463q.out.lt
      have l553q : (n + 1) < u468q.heap.size := h464q.out.lt
      have l554q : u10q.heap.size < u468q.heap.size := h465q.out.lt
      have l555q : (u10q.heap.size + 1) < u468q.heap.size := h466q.out.lt
      have l556q : u43q.heap.size < u468q.heap.size := h467q.out.lt
      go_simp
      have h557q : Hid (Gd n w (u468q.alloc (.cells #[.int .i64 0, .int .i64 0, .int .i64 0, .int .i64 0, .int .i64 0, .int .i64 0, .int .i64 0, .int .i64 0, .int .i64 0, .int .i64 0, .int .i64 0, .int .i64 0, .int .i64 0, .int .i64 0, .int .i64 0, .int .i64 0] 29))) := h462q.out.new (.cells #[.int .i64 0, .int .i64 0, .int .i64 0, .int .i64 0, .int .i64 0, .int .i64 0, .int .i64 0, .int .i64 0, .int .i64 0, .int .i64 0, .int .i64 0, .int .i64 0, .int .i64 0, .int .i64 0, .int .i64 0, .int .i64 0] 29)
      have h558q : Hid (TAt (u468q.alloc (.cells #[.int .i64 0, .int .i64 0, .int .i64 0, .int .i64 0, .int .i64 0, .int .i64 0, .int .i64 0, .int .i64 0, .int .i64 0, .int .i64 0, .int .i64 0, .int .i64 0, .int .i64 0, .int .i64 0, .int .i64 0, .int .i64 0] 29)) n t0) := h463q.out.new (.cells #[.int .i64 0, .int .i64 0, .int .i64 0, .int .i64 0, .int .i64 0, .int .i64 0, .int .i64 0, .int .i64 0, .int .i64 0, .int .i64 0, .int .i64 0, .int .i64 0, .int .i64 0, .int .i64 0, .int .i64 0, .int .i64 0] 29)
      have h559q : Hid (Bo (u468q.alloc (.cells #[.int .i64 0, .int .i64 0, .int .i64 0, .int .i64 0, .int .i64 0, .int .i64 0, .int .i64 0, .int .i64 0, .int .i64 0, .int .i64 0, .int .i64 0, .int .i64 0, .int .i64 0, .int .i64 0, .int .i64 0, .int .i64 0] 29)) (n + 1) [.int .i64 a1, .int .i64 b1, .int .i64 c1]) := h464q.out.new (.cells #[.int .i64 0, .int .i64 0, .int .i64 0, .int .i64 0, .int .i64 0, .int .i64 0, .int .i64 0, .int .i64 0, .int .i64 0, .int .i64 0, .int .i64 0, .int .i64 0, .int .i64 0, .int .i64 0, .int .i64 0, .int .i64 0] 29)
      have h560q : Hid (TAt (u468q.alloc (.cells #[.int .i64 0, .int .i64 0, .int .i64 0, .int .i64 0, .int .i64 0, .int .i64 0, .int .i64 0, .int .i64 0, .int .i64 0, .int .i64 0, .int .i64 0, .int .i64 0, .int .i64 0, .int .i64 0, .int .i64 0, .int .i64 0] 29)) u10q.heap.size u) := h465q.out.new (.cells #[.int .i64 0, .int .i64 0, .int .i64 0, .int .i64 0, .int .i64 0, .int .i64 0, .int .i64 0, .int .i64 0, .int .i64 0, .int .i64 0, .int .i64 0, .int .i64 0, .int .i64 0, .int .i64 0, .int .i64 0, .int .i64 0] 29)
      have h561q : Hid (Bo (u468q.alloc (.cells #[.int .i64 0, .int .i64 0, .int .i64 0, .int .i64 0, .int .i64 0, .int .i64 0, .int .i64 0, .int .i64 0, .int .i64 0, .int .i64 0, .int .i64 0, .int .i64 0, .int .i64 0, .int .i64 0, .int .i64 0, .int .i64 0] 29)) (u10q.heap.size + 1) [.int .i64 (c), .int .i64 (y)]) := h466q.out.new (.cells #[.int .i64 0, .int .i64 0, .int .i64 0, .int .i64 0, .int .i64 0, .int .i64 0, .int .i64 0, .int .i64 0, .int .i64 0, .int .i64 0, .int .i64 0, .int .i64 0, .int .i64 0, .int .i64 0, .int .i64 0, .int .i64 0] 29)
      have h562q : Hid (Bo (u468q.alloc (.cells #[.int .i64 0, .int .i64 0, .int .i64 0, .int .i64 0, .int .i64 0, .int .i64 0, .int .i64 0, .int .i64 0, .int .i64 0, .int .i64 0, .int .i64 0, .int .i64 0, .int .i64 0, .int .i64 0, .int .i64 0, .int .i64 0] 29)) u43q.heap.size [.int .i64 0, .int .i64 0]) := h467q.out.new (.cells #[.int .i64 0, .int .i64 0, .int .i64 0, .int .i64 0, .int .i64 0, .int .i64 0, .int .i64 0, .int .i64 0, .int .i64 0, .int .i64 0, .int .i64 0, .int .i64 0, .int .i64 0, .int .i64 0, .int .i64 0, .int .i64 0] 29)
      clear h462q h463q h464q h465q h466q h467q
      have h563q : Hid (TAt (u468q.alloc (.cells #[.int .i64 0, .int .i64 0, .int .i64 0, .int .i64 0, .int .i64 0, .int .i64 0, .int .i64 0, .int .i64 0, .int .i64 0, .int .i64 0, .int .i64 0, .int .i64 0, .int .i64 0, .int .i64 0, .int .i64 0, .int .i64 0] 29)) u468q.heap.size Tb.zero) := TAt.bornZero u468q 29 (by simp)
      refine hK.out _ _ ⟨h558q.out, h559q.out⟩ (fun hH => ?_)
      clear hK K
      generalize (u468q.alloc (.cells #[.int .i64 0, .int .i64 0, .int .i64 0, .int .i64 0, .int .i64 0, .int .i64 0, .int .i64 0, .int .i64 0, .int .i64 0, .int .i64 0, .int .i64 0, .int .i64 0, .int .i64 0, .int .i64 0, .int .i64 0, .int .i64 0] 29)) = u564q at h557q h558q h559q h560q h561q h562q h563q hH ⊢
      try simp only [Act.put, List.setIfInBounds_toArray, List.set_cons_zero, List.set_cons_succ]
      refine wpAnyH_ready (rs := [1]) (by kernel_rfl) (by simp) ?_
      refine AllReadyH.cons (o := { dst := some 20, op := _, type := _, pos := _, after := _, guard := _ }) rfl (fun K hK => ?_) AllReadyH.nil
      go_simp
      refine (SO _).mono ?_
      rintro e u565q ⟨rfl, hb⟩
      have h566q : Hid (Gd n w u565q) := h557q.out.later hb
      have h567q : Hid (TAt u565q n t0) := h558q.out.later hb
      have h568q : Hid (Bo u565q (n + 1) [.int .i64 a1, .int .i64 b1, .int .i64 c1]) := h559q.out.later hb
      have h569q : Hid (TAt u565q u10q.heap.size u) := h560q.out.later hb
      have h570q : Hid (Bo u565q (u10q.heap.size + 1) [.int .i64 (c), .int .i64 (y)]) := h561q.out.later hb
      have h571q : Hid (Bo u565q u43q.heap.size [.int .i64 0, .int .i64 0]) := h562q.out.later hb
      have h572q : Hid (TAt u565q u468q.heap.size Tb.zero) := h563q.out.later hb
      clear h557q h558q h559q h560q h561q h562q h563q
      clear hb
      go_wp2_with fail
      refine hK.out _ _ ⟨h567q.out, h568q.out⟩ (fun hH => ?_)
      clear hK K
      try simp only [Act.put, List.setIfInBounds_toArray, List.set_cons_zero, List.set_cons_succ]
      refine wpAnyH_ready (rs := [3]) (by kernel_rfl) (by simp) ?_
      refine AllReadyH.cons (o := { dst := some 22, op := _, type := _, pos := _, after := _, guard := _ }) rfl (fun K hK => ?_) AllReadyH.nil
      go_simp
      refine (PD _).mono ?_
      rintro e u573q ⟨rfl, hb⟩
      have h574q : Hid (Gd n w u573q) := h566q.out.later hb
      have h575q : Hid (TAt u573q n t0) := h567q.out.later hb
      have h576q : Hid (Bo u573q (n + 1) [.int .i64 a1, .int .i64 b1, .int .i64 c1]) := h568q.out.later hb
      have h577q : Hid (TAt u573q u10q.heap.size u) := h569q.out.later hb
      have h578q : Hid (Bo u573q (u10q.heap.size + 1) [.int .i64 (c), .int .i64 (y)]) := h570q.out.later hb
      have h579q : Hid (Bo u573q u43q.heap.size [.int .i64 0, .int .i64 0]) := h571q.out.later hb
      have h580q : Hid (TAt u573q u468q.heap.size Tb.zero) := h572q.out.later hb
      clear h566q h567q h568q h569q h570q h571q h572q
      clear hb
      go_wp2_with fail
      refine hK.out _ _ ⟨h575q.out, h576q.out⟩ (fun hH => ?_)
      clear hK K
      try simp only [Act.put, List.setIfInBounds_toArray, List.set_cons_zero, List.set_cons_succ]
      refine wpAnyH_take (i := 4) (oi := { dst := some 18, op := .move (.tmp 22), type := _, pos := _, after := _, guard := _ }) (v := ?_) rfl (by kernel_rfl) (by kernel_rfl) (by kernel_rfl) (fun _ _ _ h => h) (Or.inl ⟨by rfl, ?_⟩) hH ?_
      rotate_left
      · intro w hSw
        clear hSw
        go_simp
        try with_reducible rfl
      simp only [Act.put, List.setIfInBounds_toArray, List.set_cons_zero, List.set_cons_succ]
      refine wpAnyH_take (i := 5) (oi := { dst := some 23, op := .extract (.tmp 18) 0, type := _, pos := _, after := _, guard := _ }) (v := ?_) rfl (by kernel_rfl) (by kernel_rfl) (by kernel_rfl) (fun _ _ _ h => h) (Or.inl ⟨by rfl, ?_⟩) hH ?_
      rotate_left
      · intro w hSw
        clear hSw
        go_simp
        try with_reducible rfl
      simp only [Act.put, List.setIfInBounds_toArray, List.set_cons_zero, List.set_cons_succ]
      refine wpAnyH_take (i := 6) (oi := { dst := some 24, op := .extract (.tmp 18) 1, type := _, pos := _, after := _, guard := _ }) (v := ?_) rfl (by kernel_rfl) (by kernel_rfl) (by kernel_rfl) (fun _ _ _ h => h) (Or.inl ⟨by rfl, ?_⟩) hH ?_
      rotate_left
      · intro w hSw
        clear hSw
        go_simp
        try with_reducible rfl
      simp only [Act.put, List.setIfInBounds_toArray, List.set_cons_zero, List.set_cons_succ]
      refine wpAnyH_ready (rs := [9]) (by kernel_rfl) (by simp) ?_
      refine AllReadyH.cons (o := { dst := none, op := .store _ (.tmp 7) (.tmp 23), type := _, pos := _, after := _, guard := _ }) rfl (fun K hK => ?_) AllReadyH.nil
      rw [if_pos (by rfl)]
      refine wp_store_mid _ _ _ rfl u468q.heap.size _ u.all.toArray rfl rfl (h580q.out.thereOf u) (HZ.out u) (u.all_all) ?_
      simp only [Act.put]
      have h581q : Hid (Gd n w (u573q.setCells u468q.heap.size 0 u.all)) := h574q.out.asideAll (by omega) u
      have h582q : Hid (TAt (u573q.setCells u468q.heap.size 0 u.all) n t0) := h575q.out.asideAll (by omega) u
      have h583q : Hid (Bo (u573q.setCells u468q.heap.size 0 u.all) (n + 1) [.int .i64 a1, .int .i64 b1, .int .i64 c1]) := h576q.out.asideAll (by omega) u
      have h584q : Hid (TAt (u573q.setCells u468q.heap.size 0 u.all) u10q.heap.size u) := h577q.out.asideAll (by omega) u
      have h585q : Hid (Bo (u573q.setCells u468q.heap.size 0 u.all) (u10q.heap.size + 1) [.int .i64 (c), .int .i64 (y)]) := h578q.out.asideAll (by omega) u
      have h586q : Hid (Bo (u573q.setCells u468q.heap.size 0 u.all) u43q.heap.size [.int .i64 0, .int .i64 0]) := h579q.out.asideAll (by omega) u
      have h587q : Hid (TAt (u573q.setCells u468q.heap.size 0 u.all) u468q.heap.size u) := h580q.out.setAll u
      clear h574q h575q h576q h577q h578q h579q h580q
      refine hK.out _ _ ⟨h582q.out, h583q.out⟩ (fun hH => ?_)
      clear hK K
      generalize (u573q.setCells u468q.heap.size 0 u.all) = u588q at h581q h582q h583q h584q h585q h586q h587q hH ⊢
      try simp only [Act.put, List.setIfInBounds_toArray, List.set_cons_zero, List.set_cons_succ]
      refine wpAnyH_ready (rs := [10]) (by kernel_rfl) (by simp) ?_
      refine AllReadyH.cons (o := { dst := none, op := .store _ (.tmp 8) (.tmp 24), type := _, pos := _, after := _, guard := _ }) rfl (fun K hK => ?_) AllReadyH.nil
      rw [if_pos (by rfl)]
      refine wp_store_mid _ _ _ rfl u43q.heap.size _ #[.int .i64 (c), .int .i64 (y)] rfl rfl h586q.out.there2 HA.out (two_one _ _) ?_
      simp only [Act.put]
      have h589q : Hid (Gd n w (u588q.setCells u43q.heap.size 0 [.int .i64 (c), .int .i64 (y)])) := h581q.out.asideL (by omega) 0 [.int .i64 (c), .int .i64 (y)]
      have h590q : Hid (TAt (u588q.setCells u43q.heap.size 0 [.int .i64 (c), .int .i64 (y)]) n t0) := h582q.out.asideL (by omega) 0 [.int .i64 (c), .int .i64 (y)]
      have h591q : Hid (Bo (u588q.setCells u43q.heap.size 0 [.int .i64 (c), .int .i64 (y)]) (n + 1) [.int .i64 a1, .int .i64 b1, .int .i64 c1]) := h583q.out.asideL (by omega) 0 [.int .i64 (c), .int .i64 (y)]
      have h592q : Hid (TAt (u588q.setCells u43q.heap.size 0 [.int .i64 (c), .int .i64 (y)]) u10q.heap.size u) := h584q.out.asideL (by omega) 0 [.int .i64 (c), .int .i64 (y)]
      have h593q : Hid (Bo (u588q.setCells u43q.heap.size 0 [.int .i64 (c), .int .i64 (y)]) (u10q.heap.size + 1) [.int .i64 (c), .int .i64 (y)]) := h585q.out.asideL (by omega) 0 [.int .i64 (c), .int .i64 (y)]
      have h594q : Hid (Bo (u588q.setCells u43q.heap.size 0 [.int .i64 (c), .int .i64 (y)]) u43q.heap.size [.int .i64 (c), .int .i64 (y)]) := h586q.out.set2 (.int .i64 (c)) (.int .i64 (y))
      have h595q : Hid (TAt (u588q.setCells u43q.heap.size 0 [.int .i64 (c), .int .i64 (y)]) u468q.heap.size u) := h587q.out.asideL (by omega) 0 [.int .i64 (c), .int .i64 (y)]
      clear h581q h582q h583q h584q h585q h586q h587q
      refine hK.out _ _ ⟨h590q.out, h591q.out⟩ (fun hH => ?_)
      clear hK K
      generalize (u588q.setCells u43q.heap.size 0 [.int .i64 (c), .int .i64 (y)]) = u596q at h589q h590q h591q h592q h593q h594q h595q hH ⊢
      try simp only [Act.put, List.setIfInBounds_toArray, List.set_cons_zero, List.set_cons_succ]
      refine wpAnyH_done (by kernel_rfl) ?_ _
      go_wp2_with fail
      go_meet
      case rel => exact ⟨u468q.heap.size, u43q.heap.size, rfl, rfl, h589q, h592q, h593q, h595q, h594q⟩
    case rest =>
      obtain ⟨b_b, b_z, rfl, rfl, h597q, h598q, h599q, h600q, h601q⟩ := hcut
      go_wp2_with fail
      have h602q : Hid (Gd n w wc.drew) := h597q.out.drew
      have h603q : Hid (TAt wc.drew u10q.heap.size u) := h598q.out.drew
      have h604q : Hid (Bo wc.drew (u10q.heap.size + 1) [.int .i64 (c), .int .i64 (y)]) := h599q.out.drew
      have h605q : Hid (TAt wc.drew b_b u) := h600q.out.drew
      have h606q : Hid (Bo wc.drew b_z [.int .i64 (c), .int .i64 (y)]) := h601q.out.drew
      clear h597q h598q h599q h600q h601q
      refine wp_region_held_drew (S := fun w' => TAt w' b_b u ∧ TAt w' u10q.heap.size u ∧ Bo w' (u10q.heap.size + 1) [.int .i64 (c), .int .i64 (y)] ∧ Bo w' b_z [.int .i64 (c), .int .i64 (y)]) (by kernel_rfl) ⟨h605q.out, h603q.out, h604q.out, h606q.out⟩ (fun hH => ?_)
      generalize wc.drew = u607q at h602q h603q h604q h605q h606q hH ⊢
      refine wpAnyH_take (i := 0) (oi := { dst := some 25, op := .load _ (.tmp 7), type := _, pos := _, after := _, guard := _ }) (v := _) rfl (by kernel_rfl) (by kernel_rfl) (by kernel_rfl) (fun _ _ _ h => h) (yieldsIf_load_mid (by rfl) _ _ rfl b_b _ rfl u.all _ (fun _ h => (h.1).range) HD.out rfl (HS.out u)) hH ?_
      simp only [Act.put, List.setIfInBounds_toArray, List.set_cons_zero, List.set_cons_succ]
      refine wpAnyH_take (i := 1) (oi := { dst := some 26, op := .load _ (.tmp 5), type := _, pos := _, after := _, guard := _ }) (v := _) rfl (by kernel_rfl) (by kernel_rfl) (by kernel_rfl) (fun _ _ _ h => h) (yieldsIf_load_mid (by rfl) _ _ rfl u10q.heap.size _ rfl u.all _ (fun _ h => (h.2.1).range) HDr.out rfl (HSr.out u)) hH ?_
      simp only [Act.put, List.setIfInBounds_toArray, List.set_cons_zero, List.set_cons_succ]
      refine wpAnyH_ready (rs := [2]) (by kernel_rfl) (by simp) ?_
      refine AllReadyH.cons (o := { dst := some 27, op := _, type := _, pos := _, after := _, guard := _ }) rfl (fun K hK => ?_) AllReadyH.nil
      go_simp
      refine (SU _).mono ?_
      rintro e u608q ⟨rfl, hb⟩
      have h609q : Hid (Gd n w u608q) := h602q.out.later hb
      have h610q : Hid (TAt u608q u10q.heap.size u) := h603q.out.later hb
      have h611q : Hid (Bo u608q (u10q.heap.size + 1) [.int .i64 (c), .int .i64 (y)]) := h604q.out.later hb
      have h612q : Hid (TAt u608q b_b u) := h605q.out.later hb
      have h613q : Hid (Bo u608q b_z [.int .i64 (c), .int .i64 (y)]) := h606q.out.later hb
      clear h602q h603q h604q h605q h606q
      clear hb
      go_wp2_with fail
      refine hK.out _ _ ⟨h612q.out, h610q.out, h611q.out, h613q.out⟩ (fun hH => ?_)
      clear hK K
      try simp only [Act.put, List.setIfInBounds_toArray, List.set_cons_zero, List.set_cons_succ]
      refine wpAnyH_take (i := 3) (oi := { dst := some 28, op := .binOp .eql _ (.tmp 25) (.tmp 27) _, type := _, pos := _, after := _, guard := _ }) (v := ?_) rfl (by kernel_rfl) (by kernel_rfl) (by kernel_rfl) (fun _ _ _ h => h) (Or.inl ⟨by rfl, ?_⟩) hH ?_
      rotate_left
      · intro w hSw
        clear hSw
        go_simp
        try with_reducible rfl
      simp only [Act.put, List.setIfInBounds_toArray, List.set_cons_zero, List.set_cons_succ]
      refine wpAnyH_take (i := 4) (oi := { dst := some 29, op := .move (.tmp 28), type := _, pos := _, after := _, guard := _ }) (v := ?_) rfl (by kernel_rfl) (by kernel_rfl) (by kernel_rfl) (fun _ _ _ h => h) (Or.inl ⟨by rfl, ?_⟩) hH ?_
      rotate_left
      · intro w hSw
        clear hSw
        go_simp
        try with_reducible rfl
      simp only [Act.put, List.setIfInBounds_toArray, List.set_cons_zero, List.set_cons_succ]
      refine wpAnyH_take (i := 5) (oi := { dst := some 30, op := .load _ (.tmp 6), type := _, pos := _, after := _, guard := _ }) (v := ?_) rfl (by kernel_rfl) (by kernel_rfl) (by kernel_rfl) (fun _ _ _ h => h) (Or.inl ⟨by rfl, ?_⟩) hH ?_
      rotate_left
      · intro w hSw
        have c614q := (hSw.2.2.1).at 0 rfl
        have c615q := (hSw.2.2.1).at 1 rfl
        clear hSw
        go_simp
        try with_reducible rfl
      simp only [Act.put, List.setIfInBounds_toArray, List.set_cons_zero, List.set_cons_succ]
      refine wpAnyH_take (i := 6) (oi := { dst := some 31, op := .load _ (.tmp 8), type := _, pos := _, after := _, guard := _ }) (v := ?_) rfl (by kernel_rfl) (by kernel_rfl) (by kernel_rfl) (fun _ _ _ h => h) (Or.inl ⟨by rfl, ?_⟩) hH ?_
      rotate_left
      · intro w hSw
        have c616q := (hSw.2.2.2).at 0 rfl
        have c617q := (hSw.2.2.2).at 1 rfl
        clear hSw
        go_simp
        try with_reducible rfl
      simp only [Act.put, List.setIfInBounds_toArray, List.set_cons_zero, List.set_cons_succ]
      refine wpAnyH_take (i := 7) (oi := { dst := some 32, op := .binOp .eql _ (.tmp 30) (.tmp 31) _, type := _, pos := _, after := _, guard := _ }) (v := ?_) rfl (by kernel_rfl) (by kernel_rfl) (by kernel_rfl) (fun _ _ _ h => h) (Or.inl ⟨by rfl, ?_⟩) hH ?_
      rotate_left
      · intro w hSw
        clear hSw
        go_simp
        try with_reducible rfl
      simp only [Act.put, List.setIfInBounds_toArray, List.set_cons_zero, List.set_cons_succ]
      refine wpAnyH_take (i := 8) (oi := { dst := some 33, op := .pick (.tmp 29) (.tmp 32) (.const (.bool false)), type := _, pos := _, after := _, guard := _ }) (v := ?_) rfl (by kernel_rfl) (by kernel_rfl) (by kernel_rfl) (fun _ _ _ h => h) (Or.inl ⟨by rfl, ?_⟩) hH ?_
      rotate_left
      · intro w hSw
        clear hSw
        go_simp
        try with_reducible rfl
      simp only [Act.put, List.setIfInBounds_toArray, List.set_cons_zero, List.set_cons_succ]
      refine wpAnyH_take (i := 9) (oi := { dst := some 4, op := .assign (.tmp 33), type := _, pos := _, after := _, guard := _ }) (v := ?_) rfl (by kernel_rfl) (by kernel_rfl) (by kernel_rfl) (fun _ _ _ h => h) (Or.inl ⟨by rfl, ?_⟩) hH ?_
      rotate_left
      · intro w hSw
        clear hSw
        go_simp
        try with_reducible rfl
      simp only [Act.put, List.setIfInBounds_toArray, List.set_cons_zero, List.set_cons_succ]
      refine wpAnyH_done (by kernel_rfl) ?_ _
      go_wp2
      go_ret
      exact ⟨rfl, h609q.out.2⟩
  · have RR := RRight_is t0 false ⟨fun e => (by cases e), fun e => absurd e hR⟩
    clear hR
    refine (RR _).mono ?_
    rintro e u618q ⟨rfl, hb⟩
    have h619q : Hid (Gd n w u618q) := h3q.out.later hb
    have h620q : Hid (TAt u618q n t0) := h4q.out.later hb
    have h621q : Hid (Bo u618q (n + 1) [.int .i64 a1, .int .i64 b1, .int .i64 c1]) := h5q.out.later hb
    clear h3q h4q h5q
    clear hb
    clear RR
    go_wp2
    go_ret
    exact ⟨rfl, h619q.out.2⟩


set_option maxRecDepth 100000 in
theorem lifted (os : Os) (started : os.Started) (H : Type) (enc : TypeId × Value → H) :
    ReturnsInHanded {} Try.checked os 4 .any (Rows.tableDoesSpec.pre6 enc Try.prog Try.f4 Rows.tableDoesRow.domain false) (Rows.tableDoesSpec.post enc Try.prog Try.f4 false true false false) := by
  refine returnsInHanded_of_change (C := Try.checked) own started (by kernel_rfl) Try.func4
    (ChangeSpec.witness6 (enc := enc) (C := Try.checked) false ⟨#[], #[.agg #[.int .i64 0, .int .i64 0, .int .i64 0, .int .i64 0, .int .i64 0, .int .i64 0, .int .i64 0, .int .i64 0, .int .i64 0, .int .i64 0, .int .i64 0, .int .i64 0, .int .i64 0, .int .i64 0, .int .i64 0, .int .i64 0], .agg #[.int .i64 0, .int .i64 0, .int .i64 0]], []⟩ 8 (by kernel_rfl) (by kernel_rfl) (by kernel_rfl) (by kernel_rfl)) ?_
  intro W base args ds gs before hval0 hW hcnd _
  have hval : ∀ (j : Nat) t v, Try.f4.params[j]? = some t → args[j]? = some v → Value.okWide Try.prog W .any base t v := hval0
  have hW' := hW
  obtain ⟨p, q, hA0, hV, rfl, hfz, hnd⟩ := hW
  have hA : DataW.TrodAll enc Try.prog W 0 (fun _ => true) true Try.f4.params.toList args.toList ds p := hA0
  rw [Try.params4] at hA hval
  obtain ⟨v0, vs0, d0, ds0, p0, q0, hargs, rfl, rfl, h0, r0⟩ := trodAll_cons hA
  obtain ⟨v1, vs1, d1, ds1, p1, q1, rfl, rfl, rfl, h1, r1⟩ := trodAll_cons r0
  obtain ⟨rfl, rfl, rfl⟩ := trodAll_nil r1
  obtain rfl : args = #[v0, v1] := by cases args; simp_all
  obtain ⟨rfl, rfl⟩ := trodVars_none hV
  obtain ⟨t0, rfl⟩ := slots_of_trod (hval 0 25 v0 rfl rfl) h0
  obtain ⟨a1, b1, c1, rfl, wa1, wb1, wc1⟩ := op_of_trod (hval 1 35 v1 rfl rfl) h1
  have hlt := hW'.lt
  clear hA0 hval0
  refine (walk t0 a1 b1 c1 wa1 wb1 wc1 W  ).mono fun e W' ⟨he, hg⟩ => ?_
  subst he
  exact ⟨_, rfl, post_below (pv := []) hW' (fun _ _ _ => (trodAll_cons_mk (shut_bool Try.underlying4 _) trodAll_mk0)) (fun sp hsp => (trodAll_cons_mk (slots_stay h0 hg (fun x hx => hlt x (by simp [hx])) (fun x hx => hsp x (by simp [hx]))) (trodAll_cons_mk (op_stay h1 hg (fun x hx => hlt x (by simp [hx])) (fun x hx => hsp x (by simp [hx]))) trodAll_mk0))) (fun _ _ => rfl) (by simp) (hg.frame _)⟩

theorem over : Rows.tableDoesRow.holds Try.pinned (OpenSpec.ofChange Rows.tableDoesSpec) :=
  OpenClaim.holds_of_wide 4 Try.f4 rfl rfl rfl rfl rfl rfl rfl ⟨rfl, rfl, rfl, rfl, rfl⟩ rfl rfl rfl rfl rfl (by kernel_rfl) Try.func4 (by kernel_rfl)
    (of_decide_eq_true (by kernel_rfl)) (by unfold Func.isWrapper; first | (rw [if_pos (by decide +kernel)]; kernel_rfl) | (rw [if_neg (by decide +kernel)]; exact ⟨rfl, rfl⟩))
    (fun os started H enc _ => lifted os started H enc)

theorem proved : Rows.TableDoesSaid :=
  over
#print axioms proved
end Go.Proofs.Ytojnkfdodjcnfaa.tableDoes
