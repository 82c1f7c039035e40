/- BatchLegal is proved: for every number of a kind and every two lists of deeds the call returns true (deeds of batches from nothing on are those of the object, and come to it); the library's handle of the type error stands as the program's text lays it. -/
import Derived.Test.YteogbpaaacmllabGreatDoorRows
import Derived.Test.YteogbpaaacmllabGreatDoorPk08
import Derived.Test.YteogbpaaacmllabGreatDoorPk12
import Derived.Test.YteogbpaaacmllabGreatDoorPk11
import Derived.Test.YteogbpaaacmllabGreatDoorPk04
import Derived.Test.YteogbpaaacmllabGreatDoorPk07
import Derived.Test.YteogbpaaacmllabGreatDoorPk00
import Derived.Test.YteogbpaaacmllabGreatDoorCards
import Derived.Deep.DeepCutAuto
import Derived.Deep.RegionHeld3
import Derived.SevenTiedAt

namespace Go.Proofs.YteogbpaaacmllabGreatDoor.Tab.batchLegal
set_option maxRecDepth 20000
open Go.ChangeShapes Go.WideShapes Go.ChangeAt Go.RowKit
set_option linter.unusedVariables false

set_option maxHeartbeats 16000000 in
set_option maxRecDepth 20000 in
theorem walk (a0 : Int) (v1 : Value) (n1 : Nat) (v2 : Value) (n2 : Nat) (w0 : (Lit.int .i64 a0).wf = true) (w : World) (hT : HandleAt w) (D : Dds w v1 n1) (E : Dds w v2 n2) :
    Calls Tryz.prog 3 #[.int .i64 a0, v1, v2] w fun e w' => e = .returned (.bool true) ∧ Below w.heap.size w w' := by
  have HT : Hid (HandleAt w) := hT
  clear w0 hT
  have RC : Hid (∀ w : World, _) := recorded_is
  have BC : Hid (∀ w : World, _) := batched_is
  obtain ⟨kk, k1, k6, hko⟩ := kindOf_is a0
  have KO : Hid _ := hko
  clear hko
  have D1 : Hid (Dds w v1 n1) := D
  have D2 : Hid (Dds w v2 n2) := E
  have K16 : Hid (1 ≤ kk ∧ kk ≤ 6) := ⟨k1, k6⟩
  have NW : Hid (∀ w : World, _) := recNew_yes k1 k6
  have L0 : Hid (Lg kk (newR kk) [] 0) := Lg.new k1 k6
  clear D E k1 k6
  obtain ⟨r0, hr0⟩ : ∃ r, r = newR kk := ⟨_, rfl⟩
  rw [← hr0] at NW L0
  clear hr0
  have hM : Hid _ := (Ms.nil w)
  go_enter Tryz.func3, Tryz.ntmps3
  go_wp2_with fail
  refine (BC.out _).mono ?_
  rintro e W ⟨rfl, hb⟩
  replace hM := hid (hM.out.later hb)
  clear hb
  go_wp2_with fail
  refine (RC.out _).mono ?_
  rintro e W ⟨rfl, hb⟩
  replace hM := hid (hM.out.later hb)
  clear hb
  go_wp2_with fail
  refine (judged_is _ (HT.out.below hM.out.below)).mono ?_
  rintro e W ⟨rfl, hb⟩
  replace hM := hid (hM.out.later hb)
  clear hb
  go_wp2_with fail
  refine (KO.out _).mono ?_
  rintro e ux ⟨rfl, hw⟩
  rw [hw]; clear hw ux
  go_wp2_with fail
  refine (NW.out _).mono ?_
  rintro e W ⟨rfl, hb⟩
  replace hM := hid (hM.out.later hb)
  clear hb
  generalize hsz : w.heap.size = n at hM ⊢
  clear hsz
  obtain ⟨bx1, hbx1⟩ : ∃ q, q = W.heap.size := ⟨_, rfl⟩
  replace hM := hid (hM.out.bornR rl_zero.symm 27 (b := bx1) hbx1)
  have Hbx1 : Hid _ := hbx1
  clear hbx1
  go_wp2_with (first
    | (rw [← Hbx1.out]; refine sR rfl (hM.out.at 0 rfl) rfl ((rwR wz).len (rwR r0)) (rwR r0) ?_
       replace hM := hid (hM.out.put 0 rfl (rl r0) ((rwR wz).len (rwR r0)))
       generalize World.setCells _ _ _ _ = W at hM ⊢))
  replace hM := hid (hM.out.drew)
  refine wp_region_held_drew (S := fun w' => Bo w' bx1 (rl r0)) (by kernel_rfl) (hM.out.at 0 rfl) (fun hH => ?_)
  generalize World.drew _ = W at hM hH  ⊢
  refine tkR 0 rfl hH (fun _ h => h) (rwR r0) ?_
  simp only [Act.put, p1, p2, p3]
  refine tk 1 rfl hH ?_
  simp only [Act.put, p1, p2, p3]
  refine rdn [2, 8] ?_
  refine rdc rfl (fun K hK => ?_) ?_
  · go_simp
    refine (asksFor_aq (Dds.later D1.out hM.out.below)).mono ?_
    rintro e W ⟨a1, c1, n1, q1, hn1, hg1, rfl, hA, hb⟩
    replace hM := hid (hM.out.later hb)
    clear hb
    have hA : Hid _ := hid hA
    have HN1 : Hid (n1 ≤ 12) := hn1
    have HG1 : Hid _ := hid hg1
    clear hn1 hg1
    go_wp2_with fail
    refine hK.out _ _ (hM.out.at 0 rfl) (fun hH => ?_)
    clear hK K
    try simp only [Act.put, p1, p2, p3]
    refine rdn [3, 8] ?_
    refine rdc rfl (fun K hK => ?_) ?_
    · go_simp
      refine (do_lg L0.out hA.out (by have := HN1.out; omega) HG1.out).mono ?_
      rintro e W ⟨o1, b1, d1, rfl, ho, hl, hb⟩
      clear ho 
      replace hM := hid (hM.out.later hb)
      have hL1 : Hid _ := hid hl
      clear hb hl hA
      have LG1 : Hid _ := hid (((L0.out.run (by have := HN1.out; omega) HG1.out).bump (by have := HN1.out; omega)))
      have DL1 : Hid _ := hid (dn_length r0 q1 n1)
      obtain ⟨s1, hs1⟩ : ∃ z, z = bump (st r0 q1 n1) := ⟨_, rfl⟩
      obtain ⟨l1, hd1⟩ : ∃ z, z = dn r0 q1 n1 := ⟨_, rfl⟩
      rw [← hs1, ← hd1] at LG1
      rw [← hd1] at hL1 DL1
      rw [← hs1, ← hd1]
      clear hs1 hd1
      go_wp2_with fail
      refine hK.out _ _ (hM.out.at 0 rfl) (fun hH => ?_)
      clear hK K
      try simp only [Act.put, p1, p2, p3]
      refine tk 4 rfl hH ?_
      simp only [Act.put, p1, p2, p3]
      refine tk 5 rfl hH ?_
      simp only [Act.put, p1, p2, p3]
      refine tk 6 rfl hH ?_
      simp only [Act.put, p1, p2, p3]
      refine tk 7 rfl hH ?_
      simp only [Act.put, p1, p2, p3]
      refine rd1 8 rfl (fun K hK => ?_)
      go_simp
      obtain ⟨bq2, hbq2⟩ : ∃ q, q = W.heap.size := ⟨_, rfl⟩
      have Hpo1 : Hid (o1 ≠ some bq2) := hid fun h => by have := hL1.out.lt _ h; omega
      replace hM := hid (hM.out.bornR rl_zero.symm 27 (b := bq2) hbq2)
      have hb := hM.out.step
      replace hL1 := hid (hL1.out.later hb)
      clear hb
      rw [← hbq2]
      clear hbq2
      refine hK.out _ _ (hM.out.at 1 rfl) (fun hH => ?_)
      clear hK K
      generalize World.alloc _ _ = W at hM hH hL1 ⊢
      try simp only [Act.put, p1, p2, p3]
      refine rd1 9 rfl (fun K hK => ?_)
      refine stR rfl (hM.out.at 0 rfl) ((rwR wz).len (rwR s1)) (rwR s1) ?_
      simp only [Act.put]
      replace hL1 := hid (hL1.out.asideL Hpo1.out 0 (rl s1))
      replace hM := hid (hM.out.put 0 rfl (rl s1) ((rwR wz).len (rwR s1)))
      refine hK.out _ _ (hM.out.at 1 rfl) (fun hH => ?_)
      clear hK K
      generalize World.setCells _ _ _ _ = W at hM hH hL1 ⊢
      try simp only [Act.put, p1, p2, p3]
      refine tk 10 rfl hH ?_
      simp only [Act.put, p1, p2, p3]
      refine tk 11 rfl hH ?_
      simp only [Act.put, p1, p2, p3]
      refine wpAnyH_done (by kernel_rfl) ?_ _
      go_wp2_with fail
      replace hM := hid (hM.out.drew)
      replace hL1 := hid (hL1.out.drew)
      refine wp_region_held_drew (S := fun w' => Bo w' bq2 (rl s1)) (by kernel_rfl) (hM.out.at 0 rfl) (fun hH => ?_)
      generalize World.drew _ = W at hM hH hL1 ⊢
      refine tkR 0 rfl hH (fun _ h => h) (rwR s1) ?_
      simp only [Act.put, p1, p2, p3]
      refine tk 1 rfl hH ?_
      simp only [Act.put, p1, p2, p3]
      refine rdn [2, 8] ?_
      refine rdc rfl (fun K hK => ?_) ?_
      · go_simp
        refine (asksFor_aq (Dds.later D2.out hM.out.below)).mono ?_
        rintro e W ⟨a2, c2, n2, q2, hn2, hg2, rfl, hA, hb⟩
        replace hM := hid (hM.out.later hb)
        replace hL1 := hid (hL1.out.later hb)
        clear hb
        have hA : Hid _ := hid hA
        have HN2 : Hid (n2 ≤ 12) := hn2
        have HG2 : Hid _ := hid hg2
        clear hn2 hg2
        go_wp2_with fail
        refine hK.out _ _ (hM.out.at 0 rfl) (fun hH => ?_)
        clear hK K
        try simp only [Act.put, p1, p2, p3]
        refine rdn [3, 8] ?_
        refine rdc rfl (fun K hK => ?_) ?_
        · go_simp
          have hlp := hM.out.len 0 rfl
          refine (do_lg LG1.out hA.out (by have := HN2.out; have := HN1.out; omega) HG2.out).mono ?_
          rintro e W ⟨o2, b2, d2, rfl, ho, hl, hb⟩
          have Hpo2 : Hid (o2 ≠ some bq2) := hid fun h => by have := ho _ h; omega
          clear ho hlp
          replace hM := hid (hM.out.later hb)
          replace hL1 := hid (hL1.out.later hb)
          have hL2 : Hid _ := hid hl
          clear hb hl hA
          have LG2 : Hid _ := hid (((LG1.out.run (by have := HN2.out; have := HN1.out; omega) HG2.out).bump (by have := HN2.out; have := HN1.out; omega)))
          have DL2 : Hid _ := hid (dn_length s1 q2 n2)
          obtain ⟨s2, hs2⟩ : ∃ z, z = bump (st s1 q2 n2) := ⟨_, rfl⟩
          obtain ⟨l2, hd2⟩ : ∃ z, z = dn s1 q2 n2 := ⟨_, rfl⟩
          rw [← hs2, ← hd2] at LG2
          rw [← hd2] at hL2 DL2
          rw [← hs2, ← hd2]
          clear hs2 hd2
          go_wp2_with fail
          refine hK.out _ _ (hM.out.at 0 rfl) (fun hH => ?_)
          clear hK K
          try simp only [Act.put, p1, p2, p3]
          refine tk 4 rfl hH ?_
          simp only [Act.put, p1, p2, p3]
          refine tk 5 rfl hH ?_
          simp only [Act.put, p1, p2, p3]
          refine tk 6 rfl hH ?_
          simp only [Act.put, p1, p2, p3]
          refine tk 7 rfl hH ?_
          simp only [Act.put, p1, p2, p3]
          refine rd1 8 rfl (fun K hK => ?_)
          go_simp
          obtain ⟨bq3, hbq3⟩ : ∃ q, q = W.heap.size := ⟨_, rfl⟩
          have Hp2o1 : Hid (o1 ≠ some bq3) := hid fun h => by have := hL1.out.lt _ h; omega
          have Hp2o2 : Hid (o2 ≠ some bq3) := hid fun h => by have := hL2.out.lt _ h; omega
          replace hM := hid (hM.out.bornR rl_zero.symm 27 (b := bq3) hbq3)
          have hb := hM.out.step
          replace hL1 := hid (hL1.out.later hb)
          replace hL2 := hid (hL2.out.later hb)
          clear hb
          rw [← hbq3]
          clear hbq3
          refine hK.out _ _ (hM.out.at 1 rfl) (fun hH => ?_)
          clear hK K
          generalize World.alloc _ _ = W at hM hH hL1 hL2 ⊢
          try simp only [Act.put, p1, p2, p3]
          refine rd1 9 rfl (fun K hK => ?_)
          refine stR rfl (hM.out.at 0 rfl) ((rwR wz).len (rwR s2)) (rwR s2) ?_
          simp only [Act.put]
          replace hL1 := hid (hL1.out.asideL Hp2o1.out 0 (rl s2))
          replace hL2 := hid (hL2.out.asideL Hp2o2.out 0 (rl s2))
          replace hM := hid (hM.out.put 0 rfl (rl s2) ((rwR wz).len (rwR s2)))
          refine hK.out _ _ (hM.out.at 1 rfl) (fun hH => ?_)
          clear hK K
          generalize World.setCells _ _ _ _ = W at hM hH hL1 hL2 ⊢
          try simp only [Act.put, p1, p2, p3]
          refine tk 10 rfl hH ?_
          simp only [Act.put, p1, p2, p3]
          refine tk 11 rfl hH ?_
          simp only [Act.put, p1, p2, p3]
          refine wpAnyH_done (by kernel_rfl) ?_ _
          have LL : Hid (Lg kk s2 (l1 ++ l2) _) := LG2
          obtain ⟨N2, hN2⟩ : ∃ z, z = (l1 ++ l2).length := ⟨_, rfl⟩
          have HLN : Hid (l1.length + l2.length = N2 ∧ N2 ≤ 24) := hid (by rw [hN2, List.length_append]; have h1 := DL1.out; have h2 := DL2.out; have h3 := HN1.out; have h4 := HN2.out; exact ⟨rfl, by omega⟩)
          have fA : wrap64 ((l1.length : Int) + (l2.length : Int)) = (N2 : Int) := by have := HLN.out; unfold wrap64; omega
          have fC : IntKind.i64.wrap (N2 : Int) = (N2 : Int) := by have := HLN.out; rw [IntKind.wrap_i64]; omega
          have H28 : Hid (s2 28 = N2) := hid (by rw [LL.out.cnt, hN2])
          have LEG : Hid (∀ {v : Value} {w : World} (D : Dq w v (l1 ++ l2).length (qof (l1 ++ l2))), Calls Tryz.prog 11 #[.int .i64 (kk : Nat), v] w (LegalY w (ob s2))) := fun {v w} D => by
            have h := legal_yes K16.out.1 K16.out.2 D LL.out.ok
            unfold LegalY at h ⊢
            rw [wl_congr LL.out.obj] at h
            exact h
          have OBJ : Hid (∀ w : World, _) := recObject_is s2
          have RIG : Hid (∀ w : World, _) := recRight_is LL.out.isr.u64 (v := true) ⟨fun _ => LL.out.isr, fun _ => rfl⟩
          have U28 : Hid _ := hid LL.out.isr
          have EE := cells_equal (ob s2)
          generalize ob s2 = cz at *
          go_wp2_with fail
          obtain ⟨bc, hbc⟩ : ∃ q, q = W.heap.size := ⟨_, rfl⟩
          replace hM := hid (hM.out.born [.slice b1 l1.length d1, .slice b2 l2.length d2] 22 hbc)
          have hbs := hM.out.step
          replace hL1 := hid (hL1.out.later hbs)
          replace hL2 := hid (hL2.out.later hbs)
          clear hbs
          rw [← hbc]
          clear hbc
          change Hid (Ms n w (W.alloc (.cells #[.slice b1 l1.length d1, .slice b2 l2.length d2] 22)) _ []) at hM
          generalize World.alloc _ _ = W at hM hL1 hL2 ⊢
          refine (ConcatD_two ((hM.out.at 0 rfl).cell 0 _ rfl) ((hM.out.at 0 rfl).cell 1 _ rfl) hL1.out.at hL2.out.at (by have := HLN.out; omega)).mono ?_
          rintro e W ⟨v6, rfl, hO6, hb⟩
          replace hM := hid (hM.out.later hb)
          have hO6 : Hid _ := hid hO6
          clear hb hL1 hL2
          go_wp2_with fail
          refine (LEG.out (hO6.out.ld.dq (by have := HLN.out; omega))).mono ?_
          rintro e W ⟨rfl, hb⟩
          replace hM := hid (hM.out.later hb)
          clear hb hO6
          obtain ⟨bx4, hbx4⟩ : ∃ q, q = W.heap.size := ⟨_, rfl⟩
          replace hM := hid (hM.out.bornR wz_all.symm 37 (b := bx4) hbx4)
          have Hbx4 : Hid _ := hbx4
          clear hbx4
          go_wp2_with (first
            | (rw [← Hbx4.out]; refine sR rfl (hM.out.at 0 rfl) rfl ((rwC wz).len (rwC cz)) (rwC cz) ?_
               replace hM := hid (hM.out.put 0 rfl (wl cz) ((rwC wz).len (rwC cz)))
               generalize World.setCells _ _ _ _ = W at hM ⊢))
          replace hM := hid (hM.out.drew)
          refine wp_region_held_drew (S := fun w' => Bo w' bx4 (wl cz) ∧ Bo w' bq3 (rl s2)) (by kernel_rfl) ⟨hM.out.at 0 rfl, hM.out.at 2 rfl⟩ (fun hH => ?_)
          generalize World.drew _ = W at hM hH  ⊢
          refine tk 0 rfl hH ?_
          simp only [Act.put, p1, p2, p3]
          refine tk 1 rfl hH ?_
          simp only [Act.put, p1, p2, p3]
          refine tk 2 rfl hH ?_
          simp only [Act.put, p1, p2, p3]
          refine tkR 3 rfl hH (fun _ h => h.1) (rwC cz) ?_
          simp only [Act.put, p1, p2, p3]
          refine tkR 4 rfl hH (fun _ h => h.2) (rwR s2) ?_
          simp only [Act.put, p1, p2, p3]
          refine rd1 5 rfl (fun K hK => ?_)
          go_simp
          refine (OBJ.out _).mono ?_
          rintro e W ⟨rfl, hb⟩
          replace hM := hid (hM.out.later hb)
          clear hb
          go_wp2_with fail
          refine hK.out _ _ ⟨hM.out.at 0 rfl, hM.out.at 2 rfl⟩ (fun hH => ?_)
          clear hK K
          try simp only [Act.put, p1, p2, p3]
          refine tk 6 rfl hH ?_
          simp only [Act.put, p1, p2, p3]
          refine tk 7 rfl hH ?_
          simp only [Act.put, p1, p2, p3]
          refine tk 8 rfl hH ?_
          simp only [Act.put, p1, p2, p3]
          refine tk 9 rfl hH ?_
          simp only [Act.put, p1, p2, p3]
          refine tk 10 rfl hH ?_ (by intro w h; have c0 := h.2.rwordx (show 28 < 32 by decide) H28.out; clear h; go_simp; try with_reducible rfl)
          simp only [Act.put, p1, p2, p3]
          refine tk 11 rfl hH ?_
          simp only [Act.put, p1, p2, p3]
          refine tk 12 rfl hH ?_
          simp only [Act.put, p1, p2, p3]
          refine tk 13 rfl hH ?_
          simp only [Act.put, p1, p2, p3]
          refine tk 14 rfl hH ?_
          simp only [Act.put, p1, p2, p3]
          refine tk 15 rfl hH ?_
          simp only [Act.put, p1, p2, p3]
          refine tk 16 rfl hH ?_
          simp only [Act.put, p1, p2, p3]
          refine tk 17 rfl hH ?_
          simp only [Act.put, p1, p2, p3]
          refine tk 18 rfl hH ?_
          simp only [Act.put, p1, p2, p3]
          refine tk 19 rfl hH ?_
          simp only [Act.put, p1, p2, p3]
          refine tkR 20 rfl hH (fun _ h => h.2) (rwR s2) ?_
          simp only [Act.put, p1, p2, p3]
          refine rd1 21 rfl (fun K hK => ?_)
          go_simp
          refine (RIG.out _).mono ?_
          rintro e W ⟨rfl, hb⟩
          replace hM := hid (hM.out.later hb)
          clear hb
          go_wp2_with fail
          refine hK.out _ _ ⟨hM.out.at 0 rfl, hM.out.at 2 rfl⟩ (fun hH => ?_)
          clear hK K
          try simp only [Act.put, p1, p2, p3]
          refine tk 22 rfl hH ?_
          simp only [Act.put, p1, p2, p3]
          refine tk 23 rfl hH ?_
          simp only [Act.put, p1, p2, p3]
          refine wpAnyH_done (by kernel_rfl) ?_ _
          go_wp2
          go_ret
          exact ⟨rfl, hM.out.below⟩
        refine rdc rfl (fun K hK => ?_) AllReadyH.nil
        go_simp
        obtain ⟨bq3, hbq3⟩ : ∃ q, q = W.heap.size := ⟨_, rfl⟩
        have Hp2o1 : Hid (o1 ≠ some bq3) := hid fun h => by have := hL1.out.lt _ h; omega
        replace hM := hid (hM.out.bornR rl_zero.symm 27 (b := bq3) hbq3)
        have hb := hM.out.step
        replace hL1 := hid (hL1.out.later hb)
        replace hA := hid (hA.out.later hb)
        clear hb
        rw [← hbq3]
        clear hbq3
        refine hK.out _ _ (hM.out.at 1 rfl) (fun hH => ?_)
        clear hK K
        generalize World.alloc _ _ = W at hM hH hL1 hA ⊢
        try simp only [Act.put, p1, p2, p3]
        refine rd1 3 rfl (fun K hK => ?_)
        go_simp
        have hlp2 := hM.out.len 0 rfl
        have hlp := hM.out.len 1 rfl
        refine (do_lg LG1.out hA.out (by have := HN2.out; have := HN1.out; omega) HG2.out).mono ?_
        rintro e W ⟨o2, b2, d2, rfl, ho, hl, hb⟩
        have Hp2o2 : Hid (o2 ≠ some bq3) := hid fun h => by have := ho _ h; omega
        have Hpo2 : Hid (o2 ≠ some bq2) := hid fun h => by have := ho _ h; omega
        clear ho hlp2 hlp
        replace hM := hid (hM.out.later hb)
        replace hL1 := hid (hL1.out.later hb)
        have hL2 : Hid _ := hid hl
        clear hb hl hA
        have LG2 : Hid _ := hid (((LG1.out.run (by have := HN2.out; have := HN1.out; omega) HG2.out).bump (by have := HN2.out; have := HN1.out; omega)))
        have DL2 : Hid _ := hid (dn_length s1 q2 n2)
        obtain ⟨s2, hs2⟩ : ∃ z, z = bump (st s1 q2 n2) := ⟨_, rfl⟩
        obtain ⟨l2, hd2⟩ : ∃ z, z = dn s1 q2 n2 := ⟨_, rfl⟩
        rw [← hs2, ← hd2] at LG2
        rw [← hd2] at hL2 DL2
        rw [← hs2, ← hd2]
        clear hs2 hd2
        go_wp2_with fail
        refine hK.out _ _ (hM.out.at 1 rfl) (fun hH => ?_)
        clear hK K
        try simp only [Act.put, p1, p2, p3]
        refine tk 4 rfl hH ?_
        simp only [Act.put, p1, p2, p3]
        refine tk 5 rfl hH ?_
        simp only [Act.put, p1, p2, p3]
        refine tk 6 rfl hH ?_
        simp only [Act.put, p1, p2, p3]
        refine tk 7 rfl hH ?_
        simp only [Act.put, p1, p2, p3]
        refine rd1 9 rfl (fun K hK => ?_)
        refine stR rfl (hM.out.at 0 rfl) ((rwR wz).len (rwR s2)) (rwR s2) ?_
        simp only [Act.put]
        replace hL1 := hid (hL1.out.asideL Hp2o1.out 0 (rl s2))
        replace hL2 := hid (hL2.out.asideL Hp2o2.out 0 (rl s2))
        replace hM := hid (hM.out.put 0 rfl (rl s2) ((rwR wz).len (rwR s2)))
        refine hK.out _ _ (hM.out.at 1 rfl) (fun hH => ?_)
        clear hK K
        generalize World.setCells _ _ _ _ = W at hM hH hL1 hL2 ⊢
        try simp only [Act.put, p1, p2, p3]
        refine tk 10 rfl hH ?_
        simp only [Act.put, p1, p2, p3]
        refine tk 11 rfl hH ?_
        simp only [Act.put, p1, p2, p3]
        refine wpAnyH_done (by kernel_rfl) ?_ _
        have LL : Hid (Lg kk s2 (l1 ++ l2) _) := LG2
        obtain ⟨N2, hN2⟩ : ∃ z, z = (l1 ++ l2).length := ⟨_, rfl⟩
        have HLN : Hid (l1.length + l2.length = N2 ∧ N2 ≤ 24) := hid (by rw [hN2, List.length_append]; have h1 := DL1.out; have h2 := DL2.out; have h3 := HN1.out; have h4 := HN2.out; exact ⟨rfl, by omega⟩)
        have fA : wrap64 ((l1.length : Int) + (l2.length : Int)) = (N2 : Int) := by have := HLN.out; unfold wrap64; omega
        have fC : IntKind.i64.wrap (N2 : Int) = (N2 : Int) := by have := HLN.out; rw [IntKind.wrap_i64]; omega
        have H28 : Hid (s2 28 = N2) := hid (by rw [LL.out.cnt, hN2])
        have LEG : Hid (∀ {v : Value} {w : World} (D : Dq w v (l1 ++ l2).length (qof (l1 ++ l2))), Calls Tryz.prog 11 #[.int .i64 (kk : Nat), v] w (LegalY w (ob s2))) := fun {v w} D => by
          have h := legal_yes K16.out.1 K16.out.2 D LL.out.ok
          unfold LegalY at h ⊢
          rw [wl_congr LL.out.obj] at h
          exact h
        have OBJ : Hid (∀ w : World, _) := recObject_is s2
        have RIG : Hid (∀ w : World, _) := recRight_is LL.out.isr.u64 (v := true) ⟨fun _ => LL.out.isr, fun _ => rfl⟩
        have U28 : Hid _ := hid LL.out.isr
        have EE := cells_equal (ob s2)
        generalize ob s2 = cz at *
        go_wp2_with fail
        obtain ⟨bc, hbc⟩ : ∃ q, q = W.heap.size := ⟨_, rfl⟩
        replace hM := hid (hM.out.born [.slice b1 l1.length d1, .slice b2 l2.length d2] 22 hbc)
        have hbs := hM.out.step
        replace hL1 := hid (hL1.out.later hbs)
        replace hL2 := hid (hL2.out.later hbs)
        clear hbs
        rw [← hbc]
        clear hbc
        change Hid (Ms n w (W.alloc (.cells #[.slice b1 l1.length d1, .slice b2 l2.length d2] 22)) _ []) at hM
        generalize World.alloc _ _ = W at hM hL1 hL2 ⊢
        refine (ConcatD_two ((hM.out.at 0 rfl).cell 0 _ rfl) ((hM.out.at 0 rfl).cell 1 _ rfl) hL1.out.at hL2.out.at (by have := HLN.out; omega)).mono ?_
        rintro e W ⟨v6, rfl, hO6, hb⟩
        replace hM := hid (hM.out.later hb)
        have hO6 : Hid _ := hid hO6
        clear hb hL1 hL2
        go_wp2_with fail
        refine (LEG.out (hO6.out.ld.dq (by have := HLN.out; omega))).mono ?_
        rintro e W ⟨rfl, hb⟩
        replace hM := hid (hM.out.later hb)
        clear hb hO6
        obtain ⟨bx4, hbx4⟩ : ∃ q, q = W.heap.size := ⟨_, rfl⟩
        replace hM := hid (hM.out.bornR wz_all.symm 37 (b := bx4) hbx4)
        have Hbx4 : Hid _ := hbx4
        clear hbx4
        go_wp2_with (first
          | (rw [← Hbx4.out]; refine sR rfl (hM.out.at 0 rfl) rfl ((rwC wz).len (rwC cz)) (rwC cz) ?_
             replace hM := hid (hM.out.put 0 rfl (wl cz) ((rwC wz).len (rwC cz)))
             generalize World.setCells _ _ _ _ = W at hM ⊢))
        replace hM := hid (hM.out.drew)
        refine wp_region_held_drew (S := fun w' => Bo w' bx4 (wl cz) ∧ Bo w' bq3 (rl s2)) (by kernel_rfl) ⟨hM.out.at 0 rfl, hM.out.at 2 rfl⟩ (fun hH => ?_)
        generalize World.drew _ = W at hM hH  ⊢
        refine tk 0 rfl hH ?_
        simp only [Act.put, p1, p2, p3]
        refine tk 1 rfl hH ?_
        simp only [Act.put, p1, p2, p3]
        refine tk 2 rfl hH ?_
        simp only [Act.put, p1, p2, p3]
        refine tkR 3 rfl hH (fun _ h => h.1) (rwC cz) ?_
        simp only [Act.put, p1, p2, p3]
        refine tkR 4 rfl hH (fun _ h => h.2) (rwR s2) ?_
        simp only [Act.put, p1, p2, p3]
        refine rd1 5 rfl (fun K hK => ?_)
        go_simp
        refine (OBJ.out _).mono ?_
        rintro e W ⟨rfl, hb⟩
        replace hM := hid (hM.out.later hb)
        clear hb
        go_wp2_with fail
        refine hK.out _ _ ⟨hM.out.at 0 rfl, hM.out.at 2 rfl⟩ (fun hH => ?_)
        clear hK K
        try simp only [Act.put, p1, p2, p3]
        refine tk 6 rfl hH ?_
        simp only [Act.put, p1, p2, p3]
        refine tk 7 rfl hH ?_
        simp only [Act.put, p1, p2, p3]
        refine tk 8 rfl hH ?_
        simp only [Act.put, p1, p2, p3]
        refine tk 9 rfl hH ?_
        simp only [Act.put, p1, p2, p3]
        refine tk 10 rfl hH ?_ (by intro w h; have c0 := h.2.rwordx (show 28 < 32 by decide) H28.out; clear h; go_simp; try with_reducible rfl)
        simp only [Act.put, p1, p2, p3]
        refine tk 11 rfl hH ?_
        simp only [Act.put, p1, p2, p3]
        refine tk 12 rfl hH ?_
        simp only [Act.put, p1, p2, p3]
        refine tk 13 rfl hH ?_
        simp only [Act.put, p1, p2, p3]
        refine tk 14 rfl hH ?_
        simp only [Act.put, p1, p2, p3]
        refine tk 15 rfl hH ?_
        simp only [Act.put, p1, p2, p3]
        refine tk 16 rfl hH ?_
        simp only [Act.put, p1, p2, p3]
        refine tk 17 rfl hH ?_
        simp only [Act.put, p1, p2, p3]
        refine tk 18 rfl hH ?_
        simp only [Act.put, p1, p2, p3]
        refine tk 19 rfl hH ?_
        simp only [Act.put, p1, p2, p3]
        refine tkR 20 rfl hH (fun _ h => h.2) (rwR s2) ?_
        simp only [Act.put, p1, p2, p3]
        refine rd1 21 rfl (fun K hK => ?_)
        go_simp
        refine (RIG.out _).mono ?_
        rintro e W ⟨rfl, hb⟩
        replace hM := hid (hM.out.later hb)
        clear hb
        go_wp2_with fail
        refine hK.out _ _ ⟨hM.out.at 0 rfl, hM.out.at 2 rfl⟩ (fun hH => ?_)
        clear hK K
        try simp only [Act.put, p1, p2, p3]
        refine tk 22 rfl hH ?_
        simp only [Act.put, p1, p2, p3]
        refine tk 23 rfl hH ?_
        simp only [Act.put, p1, p2, p3]
        refine wpAnyH_done (by kernel_rfl) ?_ _
        go_wp2
        go_ret
        exact ⟨rfl, hM.out.below⟩
      refine rdc rfl (fun K hK => ?_) AllReadyH.nil
      go_simp
      obtain ⟨bq3, hbq3⟩ : ∃ q, q = W.heap.size := ⟨_, rfl⟩
      have Hp2o1 : Hid (o1 ≠ some bq3) := hid fun h => by have := hL1.out.lt _ h; omega
      replace hM := hid (hM.out.bornR rl_zero.symm 27 (b := bq3) hbq3)
      have hb := hM.out.step
      replace hL1 := hid (hL1.out.later hb)
      clear hb
      rw [← hbq3]
      clear hbq3
      refine hK.out _ _ (hM.out.at 1 rfl) (fun hH => ?_)
      clear hK K
      generalize World.alloc _ _ = W at hM hH hL1 ⊢
      try simp only [Act.put, p1, p2, p3]
      refine rd1 2 rfl (fun K hK => ?_)
      go_simp
      refine (asksFor_aq (Dds.later D2.out hM.out.below)).mono ?_
      rintro e W ⟨a2, c2, n2, q2, hn2, hg2, rfl, hA, hb⟩
      replace hM := hid (hM.out.later hb)
      replace hL1 := hid (hL1.out.later hb)
      clear hb
      have hA : Hid _ := hid hA
      have HN2 : Hid (n2 ≤ 12) := hn2
      have HG2 : Hid _ := hid hg2
      clear hn2 hg2
      go_wp2_with fail
      refine hK.out _ _ (hM.out.at 1 rfl) (fun hH => ?_)
      clear hK K
      try simp only [Act.put, p1, p2, p3]
      refine rd1 3 rfl (fun K hK => ?_)
      go_simp
      have hlp2 := hM.out.len 0 rfl
      have hlp := hM.out.len 1 rfl
      refine (do_lg LG1.out hA.out (by have := HN2.out; have := HN1.out; omega) HG2.out).mono ?_
      rintro e W ⟨o2, b2, d2, rfl, ho, hl, hb⟩
      have Hp2o2 : Hid (o2 ≠ some bq3) := hid fun h => by have := ho _ h; omega
      have Hpo2 : Hid (o2 ≠ some bq2) := hid fun h => by have := ho _ h; omega
      clear ho hlp2 hlp
      replace hM := hid (hM.out.later hb)
      replace hL1 := hid (hL1.out.later hb)
      have hL2 : Hid _ := hid hl
      clear hb hl hA
      have LG2 : Hid _ := hid (((LG1.out.run (by have := HN2.out; have := HN1.out; omega) HG2.out).bump (by have := HN2.out; have := HN1.out; omega)))
      have DL2 : Hid _ := hid (dn_length s1 q2 n2)
      obtain ⟨s2, hs2⟩ : ∃ z, z = bump (st s1 q2 n2) := ⟨_, rfl⟩
      obtain ⟨l2, hd2⟩ : ∃ z, z = dn s1 q2 n2 := ⟨_, rfl⟩
      rw [← hs2, ← hd2] at LG2
      rw [← hd2] at hL2 DL2
      rw [← hs2, ← hd2]
      clear hs2 hd2
      go_wp2_with fail
      refine hK.out _ _ (hM.out.at 1 rfl) (fun hH => ?_)
      clear hK K
      try simp only [Act.put, p1, p2, p3]
      refine tk 4 rfl hH ?_
      simp only [Act.put, p1, p2, p3]
      refine tk 5 rfl hH ?_
      simp only [Act.put, p1, p2, p3]
      refine tk 6 rfl hH ?_
      simp only [Act.put, p1, p2, p3]
      refine tk 7 rfl hH ?_
      simp only [Act.put, p1, p2, p3]
      refine rd1 9 rfl (fun K hK => ?_)
      refine stR rfl (hM.out.at 0 rfl) ((rwR wz).len (rwR s2)) (rwR s2) ?_
      simp only [Act.put]
      replace hL1 := hid (hL1.out.asideL Hp2o1.out 0 (rl s2))
      replace hL2 := hid (hL2.out.asideL Hp2o2.out 0 (rl s2))
      replace hM := hid (hM.out.put 0 rfl (rl s2) ((rwR wz).len (rwR s2)))
      refine hK.out _ _ (hM.out.at 1 rfl) (fun hH => ?_)
      clear hK K
      generalize World.setCells _ _ _ _ = W at hM hH hL1 hL2 ⊢
      try simp only [Act.put, p1, p2, p3]
      refine tk 10 rfl hH ?_
      simp only [Act.put, p1, p2, p3]
      refine tk 11 rfl hH ?_
      simp only [Act.put, p1, p2, p3]
      refine wpAnyH_done (by kernel_rfl) ?_ _
      have LL : Hid (Lg kk s2 (l1 ++ l2) _) := LG2
      obtain ⟨N2, hN2⟩ : ∃ z, z = (l1 ++ l2).length := ⟨_, rfl⟩
      have HLN : Hid (l1.length + l2.length = N2 ∧ N2 ≤ 24) := hid (by rw [hN2, List.length_append]; have h1 := DL1.out; have h2 := DL2.out; have h3 := HN1.out; have h4 := HN2.out; exact ⟨rfl, by omega⟩)
      have fA : wrap64 ((l1.length : Int) + (l2.length : Int)) = (N2 : Int) := by have := HLN.out; unfold wrap64; omega
      have fC : IntKind.i64.wrap (N2 : Int) = (N2 : Int) := by have := HLN.out; rw [IntKind.wrap_i64]; omega
      have H28 : Hid (s2 28 = N2) := hid (by rw [LL.out.cnt, hN2])
      have LEG : Hid (∀ {v : Value} {w : World} (D : Dq w v (l1 ++ l2).length (qof (l1 ++ l2))), Calls Tryz.prog 11 #[.int .i64 (kk : Nat), v] w (LegalY w (ob s2))) := fun {v w} D => by
        have h := legal_yes K16.out.1 K16.out.2 D LL.out.ok
        unfold LegalY at h ⊢
        rw [wl_congr LL.out.obj] at h
        exact h
      have OBJ : Hid (∀ w : World, _) := recObject_is s2
      have RIG : Hid (∀ w : World, _) := recRight_is LL.out.isr.u64 (v := true) ⟨fun _ => LL.out.isr, fun _ => rfl⟩
      have U28 : Hid _ := hid LL.out.isr
      have EE := cells_equal (ob s2)
      generalize ob s2 = cz at *
      go_wp2_with fail
      obtain ⟨bc, hbc⟩ : ∃ q, q = W.heap.size := ⟨_, rfl⟩
      replace hM := hid (hM.out.born [.slice b1 l1.length d1, .slice b2 l2.length d2] 22 hbc)
      have hbs := hM.out.step
      replace hL1 := hid (hL1.out.later hbs)
      replace hL2 := hid (hL2.out.later hbs)
      clear hbs
      rw [← hbc]
      clear hbc
      change Hid (Ms n w (W.alloc (.cells #[.slice b1 l1.length d1, .slice b2 l2.length d2] 22)) _ []) at hM
      generalize World.alloc _ _ = W at hM hL1 hL2 ⊢
      refine (ConcatD_two ((hM.out.at 0 rfl).cell 0 _ rfl) ((hM.out.at 0 rfl).cell 1 _ rfl) hL1.out.at hL2.out.at (by have := HLN.out; omega)).mono ?_
      rintro e W ⟨v6, rfl, hO6, hb⟩
      replace hM := hid (hM.out.later hb)
      have hO6 : Hid _ := hid hO6
      clear hb hL1 hL2
      go_wp2_with fail
      refine (LEG.out (hO6.out.ld.dq (by have := HLN.out; omega))).mono ?_
      rintro e W ⟨rfl, hb⟩
      replace hM := hid (hM.out.later hb)
      clear hb hO6
      obtain ⟨bx4, hbx4⟩ : ∃ q, q = W.heap.size := ⟨_, rfl⟩
      replace hM := hid (hM.out.bornR wz_all.symm 37 (b := bx4) hbx4)
      have Hbx4 : Hid _ := hbx4
      clear hbx4
      go_wp2_with (first
        | (rw [← Hbx4.out]; refine sR rfl (hM.out.at 0 rfl) rfl ((rwC wz).len (rwC cz)) (rwC cz) ?_
           replace hM := hid (hM.out.put 0 rfl (wl cz) ((rwC wz).len (rwC cz)))
           generalize World.setCells _ _ _ _ = W at hM ⊢))
      replace hM := hid (hM.out.drew)
      refine wp_region_held_drew (S := fun w' => Bo w' bx4 (wl cz) ∧ Bo w' bq3 (rl s2)) (by kernel_rfl) ⟨hM.out.at 0 rfl, hM.out.at 2 rfl⟩ (fun hH => ?_)
      generalize World.drew _ = W at hM hH  ⊢
      refine tk 0 rfl hH ?_
      simp only [Act.put, p1, p2, p3]
      refine tk 1 rfl hH ?_
      simp only [Act.put, p1, p2, p3]
      refine tk 2 rfl hH ?_
      simp only [Act.put, p1, p2, p3]
      refine tkR 3 rfl hH (fun _ h => h.1) (rwC cz) ?_
      simp only [Act.put, p1, p2, p3]
      refine tkR 4 rfl hH (fun _ h => h.2) (rwR s2) ?_
      simp only [Act.put, p1, p2, p3]
      refine rd1 5 rfl (fun K hK => ?_)
      go_simp
      refine (OBJ.out _).mono ?_
      rintro e W ⟨rfl, hb⟩
      replace hM := hid (hM.out.later hb)
      clear hb
      go_wp2_with fail
      refine hK.out _ _ ⟨hM.out.at 0 rfl, hM.out.at 2 rfl⟩ (fun hH => ?_)
      clear hK K
      try simp only [Act.put, p1, p2, p3]
      refine tk 6 rfl hH ?_
      simp only [Act.put, p1, p2, p3]
      refine tk 7 rfl hH ?_
      simp only [Act.put, p1, p2, p3]
      refine tk 8 rfl hH ?_
      simp only [Act.put, p1, p2, p3]
      refine tk 9 rfl hH ?_
      simp only [Act.put, p1, p2, p3]
      refine tk 10 rfl hH ?_ (by intro w h; have c0 := h.2.rwordx (show 28 < 32 by decide) H28.out; clear h; go_simp; try with_reducible rfl)
      simp only [Act.put, p1, p2, p3]
      refine tk 11 rfl hH ?_
      simp only [Act.put, p1, p2, p3]
      refine tk 12 rfl hH ?_
      simp only [Act.put, p1, p2, p3]
      refine tk 13 rfl hH ?_
      simp only [Act.put, p1, p2, p3]
      refine tk 14 rfl hH ?_
      simp only [Act.put, p1, p2, p3]
      refine tk 15 rfl hH ?_
      simp only [Act.put, p1, p2, p3]
      refine tk 16 rfl hH ?_
      simp only [Act.put, p1, p2, p3]
      refine tk 17 rfl hH ?_
      simp only [Act.put, p1, p2, p3]
      refine tk 18 rfl hH ?_
      simp only [Act.put, p1, p2, p3]
      refine tk 19 rfl hH ?_
      simp only [Act.put, p1, p2, p3]
      refine tkR 20 rfl hH (fun _ h => h.2) (rwR s2) ?_
      simp only [Act.put, p1, p2, p3]
      refine rd1 21 rfl (fun K hK => ?_)
      go_simp
      refine (RIG.out _).mono ?_
      rintro e W ⟨rfl, hb⟩
      replace hM := hid (hM.out.later hb)
      clear hb
      go_wp2_with fail
      refine hK.out _ _ ⟨hM.out.at 0 rfl, hM.out.at 2 rfl⟩ (fun hH => ?_)
      clear hK K
      try simp only [Act.put, p1, p2, p3]
      refine tk 22 rfl hH ?_
      simp only [Act.put, p1, p2, p3]
      refine tk 23 rfl hH ?_
      simp only [Act.put, p1, p2, p3]
      refine wpAnyH_done (by kernel_rfl) ?_ _
      go_wp2
      go_ret
      exact ⟨rfl, hM.out.below⟩
    refine rdc rfl (fun K hK => ?_) AllReadyH.nil
    go_simp
    obtain ⟨bq2, hbq2⟩ : ∃ q, q = W.heap.size := ⟨_, rfl⟩
    replace hM := hid (hM.out.bornR rl_zero.symm 27 (b := bq2) hbq2)
    have hb := hM.out.step
    replace hA := hid (hA.out.later hb)
    clear hb
    rw [← hbq2]
    clear hbq2
    refine hK.out _ _ (hM.out.at 1 rfl) (fun hH => ?_)
    clear hK K
    generalize World.alloc _ _ = W at hM hH hA ⊢
    try simp only [Act.put, p1, p2, p3]
    refine rd1 3 rfl (fun K hK => ?_)
    go_simp
    have hlp := hM.out.len 0 rfl
    refine (do_lg L0.out hA.out (by have := HN1.out; omega) HG1.out).mono ?_
    rintro e W ⟨o1, b1, d1, rfl, ho, hl, hb⟩
    have Hpo1 : Hid (o1 ≠ some bq2) := hid fun h => by have := ho _ h; omega
    clear ho hlp
    replace hM := hid (hM.out.later hb)
    have hL1 : Hid _ := hid hl
    clear hb hl hA
    have LG1 : Hid _ := hid (((L0.out.run (by have := HN1.out; omega) HG1.out).bump (by have := HN1.out; omega)))
    have DL1 : Hid _ := hid (dn_length r0 q1 n1)
    obtain ⟨s1, hs1⟩ : ∃ z, z = bump (st r0 q1 n1) := ⟨_, rfl⟩
    obtain ⟨l1, hd1⟩ : ∃ z, z = dn r0 q1 n1 := ⟨_, rfl⟩
    rw [← hs1, ← hd1] at LG1
    rw [← hd1] at hL1 DL1
    rw [← hs1, ← hd1]
    clear hs1 hd1
    go_wp2_with fail
    refine hK.out _ _ (hM.out.at 1 rfl) (fun hH => ?_)
    clear hK K
    try simp only [Act.put, p1, p2, p3]
    refine tk 4 rfl hH ?_
    simp only [Act.put, p1, p2, p3]
    refine tk 5 rfl hH ?_
    simp only [Act.put, p1, p2, p3]
    refine tk 6 rfl hH ?_
    simp only [Act.put, p1, p2, p3]
    refine tk 7 rfl hH ?_
    simp only [Act.put, p1, p2, p3]
    refine rd1 9 rfl (fun K hK => ?_)
    refine stR rfl (hM.out.at 0 rfl) ((rwR wz).len (rwR s1)) (rwR s1) ?_
    simp only [Act.put]
    replace hL1 := hid (hL1.out.asideL Hpo1.out 0 (rl s1))
    replace hM := hid (hM.out.put 0 rfl (rl s1) ((rwR wz).len (rwR s1)))
    refine hK.out _ _ (hM.out.at 1 rfl) (fun hH => ?_)
    clear hK K
    generalize World.setCells _ _ _ _ = W at hM hH hL1 ⊢
    try simp only [Act.put, p1, p2, p3]
    refine tk 10 rfl hH ?_
    simp only [Act.put, p1, p2, p3]
    refine tk 11 rfl hH ?_
    simp only [Act.put, p1, p2, p3]
    refine wpAnyH_done (by kernel_rfl) ?_ _
    go_wp2_with fail
    replace hM := hid (hM.out.drew)
    replace hL1 := hid (hL1.out.drew)
    refine wp_region_held_drew (S := fun w' => Bo w' bq2 (rl s1)) (by kernel_rfl) (hM.out.at 0 rfl) (fun hH => ?_)
    generalize World.drew _ = W at hM hH hL1 ⊢
    refine tkR 0 rfl hH (fun _ h => h) (rwR s1) ?_
    simp only [Act.put, p1, p2, p3]
    refine tk 1 rfl hH ?_
    simp only [Act.put, p1, p2, p3]
    refine rdn [2, 8] ?_
    refine rdc rfl (fun K hK => ?_) ?_
    · go_simp
      refine (asksFor_aq (Dds.later D2.out hM.out.below)).mono ?_
      rintro e W ⟨a2, c2, n2, q2, hn2, hg2, rfl, hA, hb⟩
      replace hM := hid (hM.out.later hb)
      replace hL1 := hid (hL1.out.later hb)
      clear hb
      have hA : Hid _ := hid hA
      have HN2 : Hid (n2 ≤ 12) := hn2
      have HG2 : Hid _ := hid hg2
      clear hn2 hg2
      go_wp2_with fail
      refine hK.out _ _ (hM.out.at 0 rfl) (fun hH => ?_)
      clear hK K
      try simp only [Act.put, p1, p2, p3]
      refine rdn [3, 8] ?_
      refine rdc rfl (fun K hK => ?_) ?_
      · go_simp
        have hlp := hM.out.len 0 rfl
        refine (do_lg LG1.out hA.out (by have := HN2.out; have := HN1.out; omega) HG2.out).mono ?_
        rintro e W ⟨o2, b2, d2, rfl, ho, hl, hb⟩
        have Hpo2 : Hid (o2 ≠ some bq2) := hid fun h => by have := ho _ h; omega
        clear ho hlp
        replace hM := hid (hM.out.later hb)
        replace hL1 := hid (hL1.out.later hb)
        have hL2 : Hid _ := hid hl
        clear hb hl hA
        have LG2 : Hid _ := hid (((LG1.out.run (by have := HN2.out; have := HN1.out; omega) HG2.out).bump (by have := HN2.out; have := HN1.out; omega)))
        have DL2 : Hid _ := hid (dn_length s1 q2 n2)
        obtain ⟨s2, hs2⟩ : ∃ z, z = bump (st s1 q2 n2) := ⟨_, rfl⟩
        obtain ⟨l2, hd2⟩ : ∃ z, z = dn s1 q2 n2 := ⟨_, rfl⟩
        rw [← hs2, ← hd2] at LG2
        rw [← hd2] at hL2 DL2
        rw [← hs2, ← hd2]
        clear hs2 hd2
        go_wp2_with fail
        refine hK.out _ _ (hM.out.at 0 rfl) (fun hH => ?_)
        clear hK K
        try simp only [Act.put, p1, p2, p3]
        refine tk 4 rfl hH ?_
        simp only [Act.put, p1, p2, p3]
        refine tk 5 rfl hH ?_
        simp only [Act.put, p1, p2, p3]
        refine tk 6 rfl hH ?_
        simp only [Act.put, p1, p2, p3]
        refine tk 7 rfl hH ?_
        simp only [Act.put, p1, p2, p3]
        refine rd1 8 rfl (fun K hK => ?_)
        go_simp
        obtain ⟨bq3, hbq3⟩ : ∃ q, q = W.heap.size := ⟨_, rfl⟩
        have Hp2o1 : Hid (o1 ≠ some bq3) := hid fun h => by have := hL1.out.lt _ h; omega
        have Hp2o2 : Hid (o2 ≠ some bq3) := hid fun h => by have := hL2.out.lt _ h; omega
        replace hM := hid (hM.out.bornR rl_zero.symm 27 (b := bq3) hbq3)
        have hb := hM.out.step
        replace hL1 := hid (hL1.out.later hb)
        replace hL2 := hid (hL2.out.later hb)
        clear hb
        rw [← hbq3]
        clear hbq3
        refine hK.out _ _ (hM.out.at 1 rfl) (fun hH => ?_)
        clear hK K
        generalize World.alloc _ _ = W at hM hH hL1 hL2 ⊢
        try simp only [Act.put, p1, p2, p3]
        refine rd1 9 rfl (fun K hK => ?_)
        refine stR rfl (hM.out.at 0 rfl) ((rwR wz).len (rwR s2)) (rwR s2) ?_
        simp only [Act.put]
        replace hL1 := hid (hL1.out.asideL Hp2o1.out 0 (rl s2))
        replace hL2 := hid (hL2.out.asideL Hp2o2.out 0 (rl s2))
        replace hM := hid (hM.out.put 0 rfl (rl s2) ((rwR wz).len (rwR s2)))
        refine hK.out _ _ (hM.out.at 1 rfl) (fun hH => ?_)
        clear hK K
        generalize World.setCells _ _ _ _ = W at hM hH hL1 hL2 ⊢
        try simp only [Act.put, p1, p2, p3]
        refine tk 10 rfl hH ?_
        simp only [Act.put, p1, p2, p3]
        refine tk 11 rfl hH ?_
        simp only [Act.put, p1, p2, p3]
        refine wpAnyH_done (by kernel_rfl) ?_ _
        have LL : Hid (Lg kk s2 (l1 ++ l2) _) := LG2
        obtain ⟨N2, hN2⟩ : ∃ z, z = (l1 ++ l2).length := ⟨_, rfl⟩
        have HLN : Hid (l1.length + l2.length = N2 ∧ N2 ≤ 24) := hid (by rw [hN2, List.length_append]; have h1 := DL1.out; have h2 := DL2.out; have h3 := HN1.out; have h4 := HN2.out; exact ⟨rfl, by omega⟩)
        have fA : wrap64 ((l1.length : Int) + (l2.length : Int)) = (N2 : Int) := by have := HLN.out; unfold wrap64; omega
        have fC : IntKind.i64.wrap (N2 : Int) = (N2 : Int) := by have := HLN.out; rw [IntKind.wrap_i64]; omega
        have H28 : Hid (s2 28 = N2) := hid (by rw [LL.out.cnt, hN2])
        have LEG : Hid (∀ {v : Value} {w : World} (D : Dq w v (l1 ++ l2).length (qof (l1 ++ l2))), Calls Tryz.prog 11 #[.int .i64 (kk : Nat), v] w (LegalY w (ob s2))) := fun {v w} D => by
          have h := legal_yes K16.out.1 K16.out.2 D LL.out.ok
          unfold LegalY at h ⊢
          rw [wl_congr LL.out.obj] at h
          exact h
        have OBJ : Hid (∀ w : World, _) := recObject_is s2
        have RIG : Hid (∀ w : World, _) := recRight_is LL.out.isr.u64 (v := true) ⟨fun _ => LL.out.isr, fun _ => rfl⟩
        have U28 : Hid _ := hid LL.out.isr
        have EE := cells_equal (ob s2)
        generalize ob s2 = cz at *
        go_wp2_with fail
        obtain ⟨bc, hbc⟩ : ∃ q, q = W.heap.size := ⟨_, rfl⟩
        replace hM := hid (hM.out.born [.slice b1 l1.length d1, .slice b2 l2.length d2] 22 hbc)
        have hbs := hM.out.step
        replace hL1 := hid (hL1.out.later hbs)
        replace hL2 := hid (hL2.out.later hbs)
        clear hbs
        rw [← hbc]
        clear hbc
        change Hid (Ms n w (W.alloc (.cells #[.slice b1 l1.length d1, .slice b2 l2.length d2] 22)) _ []) at hM
        generalize World.alloc _ _ = W at hM hL1 hL2 ⊢
        refine (ConcatD_two ((hM.out.at 0 rfl).cell 0 _ rfl) ((hM.out.at 0 rfl).cell 1 _ rfl) hL1.out.at hL2.out.at (by have := HLN.out; omega)).mono ?_
        rintro e W ⟨v6, rfl, hO6, hb⟩
        replace hM := hid (hM.out.later hb)
        have hO6 : Hid _ := hid hO6
        clear hb hL1 hL2
        go_wp2_with fail
        refine (LEG.out (hO6.out.ld.dq (by have := HLN.out; omega))).mono ?_
        rintro e W ⟨rfl, hb⟩
        replace hM := hid (hM.out.later hb)
        clear hb hO6
        obtain ⟨bx4, hbx4⟩ : ∃ q, q = W.heap.size := ⟨_, rfl⟩
        replace hM := hid (hM.out.bornR wz_all.symm 37 (b := bx4) hbx4)
        have Hbx4 : Hid _ := hbx4
        clear hbx4
        go_wp2_with (first
          | (rw [← Hbx4.out]; refine sR rfl (hM.out.at 0 rfl) rfl ((rwC wz).len (rwC cz)) (rwC cz) ?_
             replace hM := hid (hM.out.put 0 rfl (wl cz) ((rwC wz).len (rwC cz)))
             generalize World.setCells _ _ _ _ = W at hM ⊢))
        replace hM := hid (hM.out.drew)
        refine wp_region_held_drew (S := fun w' => Bo w' bx4 (wl cz) ∧ Bo w' bq3 (rl s2)) (by kernel_rfl) ⟨hM.out.at 0 rfl, hM.out.at 2 rfl⟩ (fun hH => ?_)
        generalize World.drew _ = W at hM hH  ⊢
        refine tk 0 rfl hH ?_
        simp only [Act.put, p1, p2, p3]
        refine tk 1 rfl hH ?_
        simp only [Act.put, p1, p2, p3]
        refine tk 2 rfl hH ?_
        simp only [Act.put, p1, p2, p3]
        refine tkR 3 rfl hH (fun _ h => h.1) (rwC cz) ?_
        simp only [Act.put, p1, p2, p3]
        refine tkR 4 rfl hH (fun _ h => h.2) (rwR s2) ?_
        simp only [Act.put, p1, p2, p3]
        refine rd1 5 rfl (fun K hK => ?_)
        go_simp
        refine (OBJ.out _).mono ?_
        rintro e W ⟨rfl, hb⟩
        replace hM := hid (hM.out.later hb)
        clear hb
        go_wp2_with fail
        refine hK.out _ _ ⟨hM.out.at 0 rfl, hM.out.at 2 rfl⟩ (fun hH => ?_)
        clear hK K
        try simp only [Act.put, p1, p2, p3]
        refine tk 6 rfl hH ?_
        simp only [Act.put, p1, p2, p3]
        refine tk 7 rfl hH ?_
        simp only [Act.put, p1, p2, p3]
        refine tk 8 rfl hH ?_
        simp only [Act.put, p1, p2, p3]
        refine tk 9 rfl hH ?_
        simp only [Act.put, p1, p2, p3]
        refine tk 10 rfl hH ?_ (by intro w h; have c0 := h.2.rwordx (show 28 < 32 by decide) H28.out; clear h; go_simp; try with_reducible rfl)
        simp only [Act.put, p1, p2, p3]
        refine tk 11 rfl hH ?_
        simp only [Act.put, p1, p2, p3]
        refine tk 12 rfl hH ?_
        simp only [Act.put, p1, p2, p3]
        refine tk 13 rfl hH ?_
        simp only [Act.put, p1, p2, p3]
        refine tk 14 rfl hH ?_
        simp only [Act.put, p1, p2, p3]
        refine tk 15 rfl hH ?_
        simp only [Act.put, p1, p2, p3]
        refine tk 16 rfl hH ?_
        simp only [Act.put, p1, p2, p3]
        refine tk 17 rfl hH ?_
        simp only [Act.put, p1, p2, p3]
        refine tk 18 rfl hH ?_
        simp only [Act.put, p1, p2, p3]
        refine tk 19 rfl hH ?_
        simp only [Act.put, p1, p2, p3]
        refine tkR 20 rfl hH (fun _ h => h.2) (rwR s2) ?_
        simp only [Act.put, p1, p2, p3]
        refine rd1 21 rfl (fun K hK => ?_)
        go_simp
        refine (RIG.out _).mono ?_
        rintro e W ⟨rfl, hb⟩
        replace hM := hid (hM.out.later hb)
        clear hb
        go_wp2_with fail
        refine hK.out _ _ ⟨hM.out.at 0 rfl, hM.out.at 2 rfl⟩ (fun hH => ?_)
        clear hK K
        try simp only [Act.put, p1, p2, p3]
        refine tk 22 rfl hH ?_
        simp only [Act.put, p1, p2, p3]
        refine tk 23 rfl hH ?_
        simp only [Act.put, p1, p2, p3]
        refine wpAnyH_done (by kernel_rfl) ?_ _
        go_wp2
        go_ret
        exact ⟨rfl, hM.out.below⟩
      refine rdc rfl (fun K hK => ?_) AllReadyH.nil
      go_simp
      obtain ⟨bq3, hbq3⟩ : ∃ q, q = W.heap.size := ⟨_, rfl⟩
      have Hp2o1 : Hid (o1 ≠ some bq3) := hid fun h => by have := hL1.out.lt _ h; omega
      replace hM := hid (hM.out.bornR rl_zero.symm 27 (b := bq3) hbq3)
      have hb := hM.out.step
      replace hL1 := hid (hL1.out.later hb)
      replace hA := hid (hA.out.later hb)
      clear hb
      rw [← hbq3]
      clear hbq3
      refine hK.out _ _ (hM.out.at 1 rfl) (fun hH => ?_)
      clear hK K
      generalize World.alloc _ _ = W at hM hH hL1 hA ⊢
      try simp only [Act.put, p1, p2, p3]
      refine rd1 3 rfl (fun K hK => ?_)
      go_simp
      have hlp2 := hM.out.len 0 rfl
      have hlp := hM.out.len 1 rfl
      refine (do_lg LG1.out hA.out (by have := HN2.out; have := HN1.out; omega) HG2.out).mono ?_
      rintro e W ⟨o2, b2, d2, rfl, ho, hl, hb⟩
      have Hp2o2 : Hid (o2 ≠ some bq3) := hid fun h => by have := ho _ h; omega
      have Hpo2 : Hid (o2 ≠ some bq2) := hid fun h => by have := ho _ h; omega
      clear ho hlp2 hlp
      replace hM := hid (hM.out.later hb)
      replace hL1 := hid (hL1.out.later hb)
      have hL2 : Hid _ := hid hl
      clear hb hl hA
      have LG2 : Hid _ := hid (((LG1.out.run (by have := HN2.out; have := HN1.out; omega) HG2.out).bump (by have := HN2.out; have := HN1.out; omega)))
      have DL2 : Hid _ := hid (dn_length s1 q2 n2)
      obtain ⟨s2, hs2⟩ : ∃ z, z = bump (st s1 q2 n2) := ⟨_, rfl⟩
      obtain ⟨l2, hd2⟩ : ∃ z, z = dn s1 q2 n2 := ⟨_, rfl⟩
      rw [← hs2, ← hd2] at LG2
      rw [← hd2] at hL2 DL2
      rw [← hs2, ← hd2]
      clear hs2 hd2
      go_wp2_with fail
      refine hK.out _ _ (hM.out.at 1 rfl) (fun hH => ?_)
      clear hK K
      try simp only [Act.put, p1, p2, p3]
      refine tk 4 rfl hH ?_
      simp only [Act.put, p1, p2, p3]
      refine tk 5 rfl hH ?_
      simp only [Act.put, p1, p2, p3]
      refine tk 6 rfl hH ?_
      simp only [Act.put, p1, p2, p3]
      refine tk 7 rfl hH ?_
      simp only [Act.put, p1, p2, p3]
      refine rd1 9 rfl (fun K hK => ?_)
      refine stR rfl (hM.out.at 0 rfl) ((rwR wz).len (rwR s2)) (rwR s2) ?_
      simp only [Act.put]
      replace hL1 := hid (hL1.out.asideL Hp2o1.out 0 (rl s2))
      replace hL2 := hid (hL2.out.asideL Hp2o2.out 0 (rl s2))
      replace hM := hid (hM.out.put 0 rfl (rl s2) ((rwR wz).len (rwR s2)))
      refine hK.out _ _ (hM.out.at 1 rfl) (fun hH => ?_)
      clear hK K
      generalize World.setCells _ _ _ _ = W at hM hH hL1 hL2 ⊢
      try simp only [Act.put, p1, p2, p3]
      refine tk 10 rfl hH ?_
      simp only [Act.put, p1, p2, p3]
      refine tk 11 rfl hH ?_
      simp only [Act.put, p1, p2, p3]
      refine wpAnyH_done (by kernel_rfl) ?_ _
      have LL : Hid (Lg kk s2 (l1 ++ l2) _) := LG2
      obtain ⟨N2, hN2⟩ : ∃ z, z = (l1 ++ l2).length := ⟨_, rfl⟩
      have HLN : Hid (l1.length + l2.length = N2 ∧ N2 ≤ 24) := hid (by rw [hN2, List.length_append]; have h1 := DL1.out; have h2 := DL2.out; have h3 := HN1.out; have h4 := HN2.out; exact ⟨rfl, by omega⟩)
      have fA : wrap64 ((l1.length : Int) + (l2.length : Int)) = (N2 : Int) := by have := HLN.out; unfold wrap64; omega
      have fC : IntKind.i64.wrap (N2 : Int) = (N2 : Int) := by have := HLN.out; rw [IntKind.wrap_i64]; omega
      have H28 : Hid (s2 28 = N2) := hid (by rw [LL.out.cnt, hN2])
      have LEG : Hid (∀ {v : Value} {w : World} (D : Dq w v (l1 ++ l2).length (qof (l1 ++ l2))), Calls Tryz.prog 11 #[.int .i64 (kk : Nat), v] w (LegalY w (ob s2))) := fun {v w} D => by
        have h := legal_yes K16.out.1 K16.out.2 D LL.out.ok
        unfold LegalY at h ⊢
        rw [wl_congr LL.out.obj] at h
        exact h
      have OBJ : Hid (∀ w : World, _) := recObject_is s2
      have RIG : Hid (∀ w : World, _) := recRight_is LL.out.isr.u64 (v := true) ⟨fun _ => LL.out.isr, fun _ => rfl⟩
      have U28 : Hid _ := hid LL.out.isr
      have EE := cells_equal (ob s2)
      generalize ob s2 = cz at *
      go_wp2_with fail
      obtain ⟨bc, hbc⟩ : ∃ q, q = W.heap.size := ⟨_, rfl⟩
      replace hM := hid (hM.out.born [.slice b1 l1.length d1, .slice b2 l2.length d2] 22 hbc)
      have hbs := hM.out.step
      replace hL1 := hid (hL1.out.later hbs)
      replace hL2 := hid (hL2.out.later hbs)
      clear hbs
      rw [← hbc]
      clear hbc
      change Hid (Ms n w (W.alloc (.cells #[.slice b1 l1.length d1, .slice b2 l2.length d2] 22)) _ []) at hM
      generalize World.alloc _ _ = W at hM hL1 hL2 ⊢
      refine (ConcatD_two ((hM.out.at 0 rfl).cell 0 _ rfl) ((hM.out.at 0 rfl).cell 1 _ rfl) hL1.out.at hL2.out.at (by have := HLN.out; omega)).mono ?_
      rintro e W ⟨v6, rfl, hO6, hb⟩
      replace hM := hid (hM.out.later hb)
      have hO6 : Hid _ := hid hO6
      clear hb hL1 hL2
      go_wp2_with fail
      refine (LEG.out (hO6.out.ld.dq (by have := HLN.out; omega))).mono ?_
      rintro e W ⟨rfl, hb⟩
      replace hM := hid (hM.out.later hb)
      clear hb hO6
      obtain ⟨bx4, hbx4⟩ : ∃ q, q = W.heap.size := ⟨_, rfl⟩
      replace hM := hid (hM.out.bornR wz_all.symm 37 (b := bx4) hbx4)
      have Hbx4 : Hid _ := hbx4
      clear hbx4
      go_wp2_with (first
        | (rw [← Hbx4.out]; refine sR rfl (hM.out.at 0 rfl) rfl ((rwC wz).len (rwC cz)) (rwC cz) ?_
           replace hM := hid (hM.out.put 0 rfl (wl cz) ((rwC wz).len (rwC cz)))
           generalize World.setCells _ _ _ _ = W at hM ⊢))
      replace hM := hid (hM.out.drew)
      refine wp_region_held_drew (S := fun w' => Bo w' bx4 (wl cz) ∧ Bo w' bq3 (rl s2)) (by kernel_rfl) ⟨hM.out.at 0 rfl, hM.out.at 2 rfl⟩ (fun hH => ?_)
      generalize World.drew _ = W at hM hH  ⊢
      refine tk 0 rfl hH ?_
      simp only [Act.put, p1, p2, p3]
      refine tk 1 rfl hH ?_
      simp only [Act.put, p1, p2, p3]
      refine tk 2 rfl hH ?_
      simp only [Act.put, p1, p2, p3]
      refine tkR 3 rfl hH (fun _ h => h.1) (rwC cz) ?_
      simp only [Act.put, p1, p2, p3]
      refine tkR 4 rfl hH (fun _ h => h.2) (rwR s2) ?_
      simp only [Act.put, p1, p2, p3]
      refine rd1 5 rfl (fun K hK => ?_)
      go_simp
      refine (OBJ.out _).mono ?_
      rintro e W ⟨rfl, hb⟩
      replace hM := hid (hM.out.later hb)
      clear hb
      go_wp2_with fail
      refine hK.out _ _ ⟨hM.out.at 0 rfl, hM.out.at 2 rfl⟩ (fun hH => ?_)
      clear hK K
      try simp only [Act.put, p1, p2, p3]
      refine tk 6 rfl hH ?_
      simp only [Act.put, p1, p2, p3]
      refine tk 7 rfl hH ?_
      simp only [Act.put, p1, p2, p3]
      refine tk 8 rfl hH ?_
      simp only [Act.put, p1, p2, p3]
      refine tk 9 rfl hH ?_
      simp only [Act.put, p1, p2, p3]
      refine tk 10 rfl hH ?_ (by intro w h; have c0 := h.2.rwordx (show 28 < 32 by decide) H28.out; clear h; go_simp; try with_reducible rfl)
      simp only [Act.put, p1, p2, p3]
      refine tk 11 rfl hH ?_
      simp only [Act.put, p1, p2, p3]
      refine tk 12 rfl hH ?_
      simp only [Act.put, p1, p2, p3]
      refine tk 13 rfl hH ?_
      simp only [Act.put, p1, p2, p3]
      refine tk 14 rfl hH ?_
      simp only [Act.put, p1, p2, p3]
      refine tk 15 rfl hH ?_
      simp only [Act.put, p1, p2, p3]
      refine tk 16 rfl hH ?_
      simp only [Act.put, p1, p2, p3]
      refine tk 17 rfl hH ?_
      simp only [Act.put, p1, p2, p3]
      refine tk 18 rfl hH ?_
      simp only [Act.put, p1, p2, p3]
      refine tk 19 rfl hH ?_
      simp only [Act.put, p1, p2, p3]
      refine tkR 20 rfl hH (fun _ h => h.2) (rwR s2) ?_
      simp only [Act.put, p1, p2, p3]
      refine rd1 21 rfl (fun K hK => ?_)
      go_simp
      refine (RIG.out _).mono ?_
      rintro e W ⟨rfl, hb⟩
      replace hM := hid (hM.out.later hb)
      clear hb
      go_wp2_with fail
      refine hK.out _ _ ⟨hM.out.at 0 rfl, hM.out.at 2 rfl⟩ (fun hH => ?_)
      clear hK K
      try simp only [Act.put, p1, p2, p3]
      refine tk 22 rfl hH ?_
      simp only [Act.put, p1, p2, p3]
      refine tk 23 rfl hH ?_
      simp only [Act.put, p1, p2, p3]
      refine wpAnyH_done (by kernel_rfl) ?_ _
      go_wp2
      go_ret
      exact ⟨rfl, hM.out.below⟩
    refine rdc rfl (fun K hK => ?_) AllReadyH.nil
    go_simp
    obtain ⟨bq3, hbq3⟩ : ∃ q, q = W.heap.size := ⟨_, rfl⟩
    have Hp2o1 : Hid (o1 ≠ some bq3) := hid fun h => by have := hL1.out.lt _ h; omega
    replace hM := hid (hM.out.bornR rl_zero.symm 27 (b := bq3) hbq3)
    have hb := hM.out.step
    replace hL1 := hid (hL1.out.later hb)
    clear hb
    rw [← hbq3]
    clear hbq3
    refine hK.out _ _ (hM.out.at 1 rfl) (fun hH => ?_)
    clear hK K
    generalize World.alloc _ _ = W at hM hH hL1 ⊢
    try simp only [Act.put, p1, p2, p3]
    refine rd1 2 rfl (fun K hK => ?_)
    go_simp
    refine (asksFor_aq (Dds.later D2.out hM.out.below)).mono ?_
    rintro e W ⟨a2, c2, n2, q2, hn2, hg2, rfl, hA, hb⟩
    replace hM := hid (hM.out.later hb)
    replace hL1 := hid (hL1.out.later hb)
    clear hb
    have hA : Hid _ := hid hA
    have HN2 : Hid (n2 ≤ 12) := hn2
    have HG2 : Hid _ := hid hg2
    clear hn2 hg2
    go_wp2_with fail
    refine hK.out _ _ (hM.out.at 1 rfl) (fun hH => ?_)
    clear hK K
    try simp only [Act.put, p1, p2, p3]
    refine rd1 3 rfl (fun K hK => ?_)
    go_simp
    have hlp2 := hM.out.len 0 rfl
    have hlp := hM.out.len 1 rfl
    refine (do_lg LG1.out hA.out (by have := HN2.out; have := HN1.out; omega) HG2.out).mono ?_
    rintro e W ⟨o2, b2, d2, rfl, ho, hl, hb⟩
    have Hp2o2 : Hid (o2 ≠ some bq3) := hid fun h => by have := ho _ h; omega
    have Hpo2 : Hid (o2 ≠ some bq2) := hid fun h => by have := ho _ h; omega
    clear ho hlp2 hlp
    replace hM := hid (hM.out.later hb)
    replace hL1 := hid (hL1.out.later hb)
    have hL2 : Hid _ := hid hl
    clear hb hl hA
    have LG2 : Hid _ := hid (((LG1.out.run (by have := HN2.out; have := HN1.out; omega) HG2.out).bump (by have := HN2.out; have := HN1.out; omega)))
    have DL2 : Hid _ := hid (dn_length s1 q2 n2)
    obtain ⟨s2, hs2⟩ : ∃ z, z = bump (st s1 q2 n2) := ⟨_, rfl⟩
    obtain ⟨l2, hd2⟩ : ∃ z, z = dn s1 q2 n2 := ⟨_, rfl⟩
    rw [← hs2, ← hd2] at LG2
    rw [← hd2] at hL2 DL2
    rw [← hs2, ← hd2]
    clear hs2 hd2
    go_wp2_with fail
    refine hK.out _ _ (hM.out.at 1 rfl) (fun hH => ?_)
    clear hK K
    try simp only [Act.put, p1, p2, p3]
    refine tk 4 rfl hH ?_
    simp only [Act.put, p1, p2, p3]
    refine tk 5 rfl hH ?_
    simp only [Act.put, p1, p2, p3]
    refine tk 6 rfl hH ?_
    simp only [Act.put, p1, p2, p3]
    refine tk 7 rfl hH ?_
    simp only [Act.put, p1, p2, p3]
    refine rd1 9 rfl (fun K hK => ?_)
    refine stR rfl (hM.out.at 0 rfl) ((rwR wz).len (rwR s2)) (rwR s2) ?_
    simp only [Act.put]
    replace hL1 := hid (hL1.out.asideL Hp2o1.out 0 (rl s2))
    replace hL2 := hid (hL2.out.asideL Hp2o2.out 0 (rl s2))
    replace hM := hid (hM.out.put 0 rfl (rl s2) ((rwR wz).len (rwR s2)))
    refine hK.out _ _ (hM.out.at 1 rfl) (fun hH => ?_)
    clear hK K
    generalize World.setCells _ _ _ _ = W at hM hH hL1 hL2 ⊢
    try simp only [Act.put, p1, p2, p3]
    refine tk 10 rfl hH ?_
    simp only [Act.put, p1, p2, p3]
    refine tk 11 rfl hH ?_
    simp only [Act.put, p1, p2, p3]
    refine wpAnyH_done (by kernel_rfl) ?_ _
    have LL : Hid (Lg kk s2 (l1 ++ l2) _) := LG2
    obtain ⟨N2, hN2⟩ : ∃ z, z = (l1 ++ l2).length := ⟨_, rfl⟩
    have HLN : Hid (l1.length + l2.length = N2 ∧ N2 ≤ 24) := hid (by rw [hN2, List.length_append]; have h1 := DL1.out; have h2 := DL2.out; have h3 := HN1.out; have h4 := HN2.out; exact ⟨rfl, by omega⟩)
    have fA : wrap64 ((l1.length : Int) + (l2.length : Int)) = (N2 : Int) := by have := HLN.out; unfold wrap64; omega
    have fC : IntKind.i64.wrap (N2 : Int) = (N2 : Int) := by have := HLN.out; rw [IntKind.wrap_i64]; omega
    have H28 : Hid (s2 28 = N2) := hid (by rw [LL.out.cnt, hN2])
    have LEG : Hid (∀ {v : Value} {w : World} (D : Dq w v (l1 ++ l2).length (qof (l1 ++ l2))), Calls Tryz.prog 11 #[.int .i64 (kk : Nat), v] w (LegalY w (ob s2))) := fun {v w} D => by
      have h := legal_yes K16.out.1 K16.out.2 D LL.out.ok
      unfold LegalY at h ⊢
      rw [wl_congr LL.out.obj] at h
      exact h
    have OBJ : Hid (∀ w : World, _) := recObject_is s2
    have RIG : Hid (∀ w : World, _) := recRight_is LL.out.isr.u64 (v := true) ⟨fun _ => LL.out.isr, fun _ => rfl⟩
    have U28 : Hid _ := hid LL.out.isr
    have EE := cells_equal (ob s2)
    generalize ob s2 = cz at *
    go_wp2_with fail
    obtain ⟨bc, hbc⟩ : ∃ q, q = W.heap.size := ⟨_, rfl⟩
    replace hM := hid (hM.out.born [.slice b1 l1.length d1, .slice b2 l2.length d2] 22 hbc)
    have hbs := hM.out.step
    replace hL1 := hid (hL1.out.later hbs)
    replace hL2 := hid (hL2.out.later hbs)
    clear hbs
    rw [← hbc]
    clear hbc
    change Hid (Ms n w (W.alloc (.cells #[.slice b1 l1.length d1, .slice b2 l2.length d2] 22)) _ []) at hM
    generalize World.alloc _ _ = W at hM hL1 hL2 ⊢
    refine (ConcatD_two ((hM.out.at 0 rfl).cell 0 _ rfl) ((hM.out.at 0 rfl).cell 1 _ rfl) hL1.out.at hL2.out.at (by have := HLN.out; omega)).mono ?_
    rintro e W ⟨v6, rfl, hO6, hb⟩
    replace hM := hid (hM.out.later hb)
    have hO6 : Hid _ := hid hO6
    clear hb hL1 hL2
    go_wp2_with fail
    refine (LEG.out (hO6.out.ld.dq (by have := HLN.out; omega))).mono ?_
    rintro e W ⟨rfl, hb⟩
    replace hM := hid (hM.out.later hb)
    clear hb hO6
    obtain ⟨bx4, hbx4⟩ : ∃ q, q = W.heap.size := ⟨_, rfl⟩
    replace hM := hid (hM.out.bornR wz_all.symm 37 (b := bx4) hbx4)
    have Hbx4 : Hid _ := hbx4
    clear hbx4
    go_wp2_with (first
      | (rw [← Hbx4.out]; refine sR rfl (hM.out.at 0 rfl) rfl ((rwC wz).len (rwC cz)) (rwC cz) ?_
         replace hM := hid (hM.out.put 0 rfl (wl cz) ((rwC wz).len (rwC cz)))
         generalize World.setCells _ _ _ _ = W at hM ⊢))
    replace hM := hid (hM.out.drew)
    refine wp_region_held_drew (S := fun w' => Bo w' bx4 (wl cz) ∧ Bo w' bq3 (rl s2)) (by kernel_rfl) ⟨hM.out.at 0 rfl, hM.out.at 2 rfl⟩ (fun hH => ?_)
    generalize World.drew _ = W at hM hH  ⊢
    refine tk 0 rfl hH ?_
    simp only [Act.put, p1, p2, p3]
    refine tk 1 rfl hH ?_
    simp only [Act.put, p1, p2, p3]
    refine tk 2 rfl hH ?_
    simp only [Act.put, p1, p2, p3]
    refine tkR 3 rfl hH (fun _ h => h.1) (rwC cz) ?_
    simp only [Act.put, p1, p2, p3]
    refine tkR 4 rfl hH (fun _ h => h.2) (rwR s2) ?_
    simp only [Act.put, p1, p2, p3]
    refine rd1 5 rfl (fun K hK => ?_)
    go_simp
    refine (OBJ.out _).mono ?_
    rintro e W ⟨rfl, hb⟩
    replace hM := hid (hM.out.later hb)
    clear hb
    go_wp2_with fail
    refine hK.out _ _ ⟨hM.out.at 0 rfl, hM.out.at 2 rfl⟩ (fun hH => ?_)
    clear hK K
    try simp only [Act.put, p1, p2, p3]
    refine tk 6 rfl hH ?_
    simp only [Act.put, p1, p2, p3]
    refine tk 7 rfl hH ?_
    simp only [Act.put, p1, p2, p3]
    refine tk 8 rfl hH ?_
    simp only [Act.put, p1, p2, p3]
    refine tk 9 rfl hH ?_
    simp only [Act.put, p1, p2, p3]
    refine tk 10 rfl hH ?_ (by intro w h; have c0 := h.2.rwordx (show 28 < 32 by decide) H28.out; clear h; go_simp; try with_reducible rfl)
    simp only [Act.put, p1, p2, p3]
    refine tk 11 rfl hH ?_
    simp only [Act.put, p1, p2, p3]
    refine tk 12 rfl hH ?_
    simp only [Act.put, p1, p2, p3]
    refine tk 13 rfl hH ?_
    simp only [Act.put, p1, p2, p3]
    refine tk 14 rfl hH ?_
    simp only [Act.put, p1, p2, p3]
    refine tk 15 rfl hH ?_
    simp only [Act.put, p1, p2, p3]
    refine tk 16 rfl hH ?_
    simp only [Act.put, p1, p2, p3]
    refine tk 17 rfl hH ?_
    simp only [Act.put, p1, p2, p3]
    refine tk 18 rfl hH ?_
    simp only [Act.put, p1, p2, p3]
    refine tk 19 rfl hH ?_
    simp only [Act.put, p1, p2, p3]
    refine tkR 20 rfl hH (fun _ h => h.2) (rwR s2) ?_
    simp only [Act.put, p1, p2, p3]
    refine rd1 21 rfl (fun K hK => ?_)
    go_simp
    refine (RIG.out _).mono ?_
    rintro e W ⟨rfl, hb⟩
    replace hM := hid (hM.out.later hb)
    clear hb
    go_wp2_with fail
    refine hK.out _ _ ⟨hM.out.at 0 rfl, hM.out.at 2 rfl⟩ (fun hH => ?_)
    clear hK K
    try simp only [Act.put, p1, p2, p3]
    refine tk 22 rfl hH ?_
    simp only [Act.put, p1, p2, p3]
    refine tk 23 rfl hH ?_
    simp only [Act.put, p1, p2, p3]
    refine wpAnyH_done (by kernel_rfl) ?_ _
    go_wp2
    go_ret
    exact ⟨rfl, hM.out.below⟩
  refine rdc rfl (fun K hK => ?_) AllReadyH.nil
  go_simp
  obtain ⟨bq2, hbq2⟩ : ∃ q, q = W.heap.size := ⟨_, rfl⟩
  replace hM := hid (hM.out.bornR rl_zero.symm 27 (b := bq2) hbq2)
  have hb := hM.out.step
  clear hb
  rw [← hbq2]
  clear hbq2
  refine hK.out _ _ (hM.out.at 1 rfl) (fun hH => ?_)
  clear hK K
  generalize World.alloc _ _ = W at hM hH  ⊢
  try simp only [Act.put, p1, p2, p3]
  refine rd1 2 rfl (fun K hK => ?_)
  go_simp
  refine (asksFor_aq (Dds.later D1.out hM.out.below)).mono ?_
  rintro e W ⟨a1, c1, n1, q1, hn1, hg1, rfl, hA, hb⟩
  replace hM := hid (hM.out.later hb)
  clear hb
  have hA : Hid _ := hid hA
  have HN1 : Hid (n1 ≤ 12) := hn1
  have HG1 : Hid _ := hid hg1
  clear hn1 hg1
  go_wp2_with fail
  refine hK.out _ _ (hM.out.at 1 rfl) (fun hH => ?_)
  clear hK K
  try simp only [Act.put, p1, p2, p3]
  refine rd1 3 rfl (fun K hK => ?_)
  go_simp
  have hlp := hM.out.len 0 rfl
  refine (do_lg L0.out hA.out (by have := HN1.out; omega) HG1.out).mono ?_
  rintro e W ⟨o1, b1, d1, rfl, ho, hl, hb⟩
  have Hpo1 : Hid (o1 ≠ some bq2) := hid fun h => by have := ho _ h; omega
  clear ho hlp
  replace hM := hid (hM.out.later hb)
  have hL1 : Hid _ := hid hl
  clear hb hl hA
  have LG1 : Hid _ := hid (((L0.out.run (by have := HN1.out; omega) HG1.out).bump (by have := HN1.out; omega)))
  have DL1 : Hid _ := hid (dn_length r0 q1 n1)
  obtain ⟨s1, hs1⟩ : ∃ z, z = bump (st r0 q1 n1) := ⟨_, rfl⟩
  obtain ⟨l1, hd1⟩ : ∃ z, z = dn r0 q1 n1 := ⟨_, rfl⟩
  rw [← hs1, ← hd1] at LG1
  rw [← hd1] at hL1 DL1
  rw [← hs1, ← hd1]
  clear hs1 hd1
  go_wp2_with fail
  refine hK.out _ _ (hM.out.at 1 rfl) (fun hH => ?_)
  clear hK K
  try simp only [Act.put, p1, p2, p3]
  refine tk 4 rfl hH ?_
  simp only [Act.put, p1, p2, p3]
  refine tk 5 rfl hH ?_
  simp only [Act.put, p1, p2, p3]
  refine tk 6 rfl hH ?_
  simp only [Act.put, p1, p2, p3]
  refine tk 7 rfl hH ?_
  simp only [Act.put, p1, p2, p3]
  refine rd1 9 rfl (fun K hK => ?_)
  refine stR rfl (hM.out.at 0 rfl) ((rwR wz).len (rwR s1)) (rwR s1) ?_
  simp only [Act.put]
  replace hL1 := hid (hL1.out.asideL Hpo1.out 0 (rl s1))
  replace hM := hid (hM.out.put 0 rfl (rl s1) ((rwR wz).len (rwR s1)))
  refine hK.out _ _ (hM.out.at 1 rfl) (fun hH => ?_)
  clear hK K
  generalize World.setCells _ _ _ _ = W at hM hH hL1 ⊢
  try simp only [Act.put, p1, p2, p3]
  refine tk 10 rfl hH ?_
  simp only [Act.put, p1, p2, p3]
  refine tk 11 rfl hH ?_
  simp only [Act.put, p1, p2, p3]
  refine wpAnyH_done (by kernel_rfl) ?_ _
  go_wp2_with fail
  replace hM := hid (hM.out.drew)
  replace hL1 := hid (hL1.out.drew)
  refine wp_region_held_drew (S := fun w' => Bo w' bq2 (rl s1)) (by kernel_rfl) (hM.out.at 0 rfl) (fun hH => ?_)
  generalize World.drew _ = W at hM hH hL1 ⊢
  refine tkR 0 rfl hH (fun _ h => h) (rwR s1) ?_
  simp only [Act.put, p1, p2, p3]
  refine tk 1 rfl hH ?_
  simp only [Act.put, p1, p2, p3]
  refine rdn [2, 8] ?_
  refine rdc rfl (fun K hK => ?_) ?_
  · go_simp
    refine (asksFor_aq (Dds.later D2.out hM.out.below)).mono ?_
    rintro e W ⟨a2, c2, n2, q2, hn2, hg2, rfl, hA, hb⟩
    replace hM := hid (hM.out.later hb)
    replace hL1 := hid (hL1.out.later hb)
    clear hb
    have hA : Hid _ := hid hA
    have HN2 : Hid (n2 ≤ 12) := hn2
    have HG2 : Hid _ := hid hg2
    clear hn2 hg2
    go_wp2_with fail
    refine hK.out _ _ (hM.out.at 0 rfl) (fun hH => ?_)
    clear hK K
    try simp only [Act.put, p1, p2, p3]
    refine rdn [3, 8] ?_
    refine rdc rfl (fun K hK => ?_) ?_
    · go_simp
      have hlp := hM.out.len 0 rfl
      refine (do_lg LG1.out hA.out (by have := HN2.out; have := HN1.out; omega) HG2.out).mono ?_
      rintro e W ⟨o2, b2, d2, rfl, ho, hl, hb⟩
      have Hpo2 : Hid (o2 ≠ some bq2) := hid fun h => by have := ho _ h; omega
      clear ho hlp
      replace hM := hid (hM.out.later hb)
      replace hL1 := hid (hL1.out.later hb)
      have hL2 : Hid _ := hid hl
      clear hb hl hA
      have LG2 : Hid _ := hid (((LG1.out.run (by have := HN2.out; have := HN1.out; omega) HG2.out).bump (by have := HN2.out; have := HN1.out; omega)))
      have DL2 : Hid _ := hid (dn_length s1 q2 n2)
      obtain ⟨s2, hs2⟩ : ∃ z, z = bump (st s1 q2 n2) := ⟨_, rfl⟩
      obtain ⟨l2, hd2⟩ : ∃ z, z = dn s1 q2 n2 := ⟨_, rfl⟩
      rw [← hs2, ← hd2] at LG2
      rw [← hd2] at hL2 DL2
      rw [← hs2, ← hd2]
      clear hs2 hd2
      go_wp2_with fail
      refine hK.out _ _ (hM.out.at 0 rfl) (fun hH => ?_)
      clear hK K
      try simp only [Act.put, p1, p2, p3]
      refine tk 4 rfl hH ?_
      simp only [Act.put, p1, p2, p3]
      refine tk 5 rfl hH ?_
      simp only [Act.put, p1, p2, p3]
      refine tk 6 rfl hH ?_
      simp only [Act.put, p1, p2, p3]
      refine tk 7 rfl hH ?_
      simp only [Act.put, p1, p2, p3]
      refine rd1 8 rfl (fun K hK => ?_)
      go_simp
      obtain ⟨bq3, hbq3⟩ : ∃ q, q = W.heap.size := ⟨_, rfl⟩
      have Hp2o1 : Hid (o1 ≠ some bq3) := hid fun h => by have := hL1.out.lt _ h; omega
      have Hp2o2 : Hid (o2 ≠ some bq3) := hid fun h => by have := hL2.out.lt _ h; omega
      replace hM := hid (hM.out.bornR rl_zero.symm 27 (b := bq3) hbq3)
      have hb := hM.out.step
      replace hL1 := hid (hL1.out.later hb)
      replace hL2 := hid (hL2.out.later hb)
      clear hb
      rw [← hbq3]
      clear hbq3
      refine hK.out _ _ (hM.out.at 1 rfl) (fun hH => ?_)
      clear hK K
      generalize World.alloc _ _ = W at hM hH hL1 hL2 ⊢
      try simp only [Act.put, p1, p2, p3]
      refine rd1 9 rfl (fun K hK => ?_)
      refine stR rfl (hM.out.at 0 rfl) ((rwR wz).len (rwR s2)) (rwR s2) ?_
      simp only [Act.put]
      replace hL1 := hid (hL1.out.asideL Hp2o1.out 0 (rl s2))
      replace hL2 := hid (hL2.out.asideL Hp2o2.out 0 (rl s2))
      replace hM := hid (hM.out.put 0 rfl (rl s2) ((rwR wz).len (rwR s2)))
      refine hK.out _ _ (hM.out.at 1 rfl) (fun hH => ?_)
      clear hK K
      generalize World.setCells _ _ _ _ = W at hM hH hL1 hL2 ⊢
      try simp only [Act.put, p1, p2, p3]
      refine tk 10 rfl hH ?_
      simp only [Act.put, p1, p2, p3]
      refine tk 11 rfl hH ?_
      simp only [Act.put, p1, p2, p3]
      refine wpAnyH_done (by kernel_rfl) ?_ _
      have LL : Hid (Lg kk s2 (l1 ++ l2) _) := LG2
      obtain ⟨N2, hN2⟩ : ∃ z, z = (l1 ++ l2).length := ⟨_, rfl⟩
      have HLN : Hid (l1.length + l2.length = N2 ∧ N2 ≤ 24) := hid (by rw [hN2, List.length_append]; have h1 := DL1.out; have h2 := DL2.out; have h3 := HN1.out; have h4 := HN2.out; exact ⟨rfl, by omega⟩)
      have fA : wrap64 ((l1.length : Int) + (l2.length : Int)) = (N2 : Int) := by have := HLN.out; unfold wrap64; omega
      have fC : IntKind.i64.wrap (N2 : Int) = (N2 : Int) := by have := HLN.out; rw [IntKind.wrap_i64]; omega
      have H28 : Hid (s2 28 = N2) := hid (by rw [LL.out.cnt, hN2])
      have LEG : Hid (∀ {v : Value} {w : World} (D : Dq w v (l1 ++ l2).length (qof (l1 ++ l2))), Calls Tryz.prog 11 #[.int .i64 (kk : Nat), v] w (LegalY w (ob s2))) := fun {v w} D => by
        have h := legal_yes K16.out.1 K16.out.2 D LL.out.ok
        unfold LegalY at h ⊢
        rw [wl_congr LL.out.obj] at h
        exact h
      have OBJ : Hid (∀ w : World, _) := recObject_is s2
      have RIG : Hid (∀ w : World, _) := recRight_is LL.out.isr.u64 (v := true) ⟨fun _ => LL.out.isr, fun _ => rfl⟩
      have U28 : Hid _ := hid LL.out.isr
      have EE := cells_equal (ob s2)
      generalize ob s2 = cz at *
      go_wp2_with fail
      obtain ⟨bc, hbc⟩ : ∃ q, q = W.heap.size := ⟨_, rfl⟩
      replace hM := hid (hM.out.born [.slice b1 l1.length d1, .slice b2 l2.length d2] 22 hbc)
      have hbs := hM.out.step
      replace hL1 := hid (hL1.out.later hbs)
      replace hL2 := hid (hL2.out.later hbs)
      clear hbs
      rw [← hbc]
      clear hbc
      change Hid (Ms n w (W.alloc (.cells #[.slice b1 l1.length d1, .slice b2 l2.length d2] 22)) _ []) at hM
      generalize World.alloc _ _ = W at hM hL1 hL2 ⊢
      refine (ConcatD_two ((hM.out.at 0 rfl).cell 0 _ rfl) ((hM.out.at 0 rfl).cell 1 _ rfl) hL1.out.at hL2.out.at (by have := HLN.out; omega)).mono ?_
      rintro e W ⟨v6, rfl, hO6, hb⟩
      replace hM := hid (hM.out.later hb)
      have hO6 : Hid _ := hid hO6
      clear hb hL1 hL2
      go_wp2_with fail
      refine (LEG.out (hO6.out.ld.dq (by have := HLN.out; omega))).mono ?_
      rintro e W ⟨rfl, hb⟩
      replace hM := hid (hM.out.later hb)
      clear hb hO6
      obtain ⟨bx4, hbx4⟩ : ∃ q, q = W.heap.size := ⟨_, rfl⟩
      replace hM := hid (hM.out.bornR wz_all.symm 37 (b := bx4) hbx4)
      have Hbx4 : Hid _ := hbx4
      clear hbx4
      go_wp2_with (first
        | (rw [← Hbx4.out]; refine sR rfl (hM.out.at 0 rfl) rfl ((rwC wz).len (rwC cz)) (rwC cz) ?_
           replace hM := hid (hM.out.put 0 rfl (wl cz) ((rwC wz).len (rwC cz)))
           generalize World.setCells _ _ _ _ = W at hM ⊢))
      replace hM := hid (hM.out.drew)
      refine wp_region_held_drew (S := fun w' => Bo w' bx4 (wl cz) ∧ Bo w' bq3 (rl s2)) (by kernel_rfl) ⟨hM.out.at 0 rfl, hM.out.at 2 rfl⟩ (fun hH => ?_)
      generalize World.drew _ = W at hM hH  ⊢
      refine tk 0 rfl hH ?_
      simp only [Act.put, p1, p2, p3]
      refine tk 1 rfl hH ?_
      simp only [Act.put, p1, p2, p3]
      refine tk 2 rfl hH ?_
      simp only [Act.put, p1, p2, p3]
      refine tkR 3 rfl hH (fun _ h => h.1) (rwC cz) ?_
      simp only [Act.put, p1, p2, p3]
      refine tkR 4 rfl hH (fun _ h => h.2) (rwR s2) ?_
      simp only [Act.put, p1, p2, p3]
      refine rd1 5 rfl (fun K hK => ?_)
      go_simp
      refine (OBJ.out _).mono ?_
      rintro e W ⟨rfl, hb⟩
      replace hM := hid (hM.out.later hb)
      clear hb
      go_wp2_with fail
      refine hK.out _ _ ⟨hM.out.at 0 rfl, hM.out.at 2 rfl⟩ (fun hH => ?_)
      clear hK K
      try simp only [Act.put, p1, p2, p3]
      refine tk 6 rfl hH ?_
      simp only [Act.put, p1, p2, p3]
      refine tk 7 rfl hH ?_
      simp only [Act.put, p1, p2, p3]
      refine tk 8 rfl hH ?_
      simp only [Act.put, p1, p2, p3]
      refine tk 9 rfl hH ?_
      simp only [Act.put, p1, p2, p3]
      refine tk 10 rfl hH ?_ (by intro w h; have c0 := h.2.rwordx (show 28 < 32 by decide) H28.out; clear h; go_simp; try with_reducible rfl)
      simp only [Act.put, p1, p2, p3]
      refine tk 11 rfl hH ?_
      simp only [Act.put, p1, p2, p3]
      refine tk 12 rfl hH ?_
      simp only [Act.put, p1, p2, p3]
      refine tk 13 rfl hH ?_
      simp only [Act.put, p1, p2, p3]
      refine tk 14 rfl hH ?_
      simp only [Act.put, p1, p2, p3]
      refine tk 15 rfl hH ?_
      simp only [Act.put, p1, p2, p3]
      refine tk 16 rfl hH ?_
      simp only [Act.put, p1, p2, p3]
      refine tk 17 rfl hH ?_
      simp only [Act.put, p1, p2, p3]
      refine tk 18 rfl hH ?_
      simp only [Act.put, p1, p2, p3]
      refine tk 19 rfl hH ?_
      simp only [Act.put, p1, p2, p3]
      refine tkR 20 rfl hH (fun _ h => h.2) (rwR s2) ?_
      simp only [Act.put, p1, p2, p3]
      refine rd1 21 rfl (fun K hK => ?_)
      go_simp
      refine (RIG.out _).mono ?_
      rintro e W ⟨rfl, hb⟩
      replace hM := hid (hM.out.later hb)
      clear hb
      go_wp2_with fail
      refine hK.out _ _ ⟨hM.out.at 0 rfl, hM.out.at 2 rfl⟩ (fun hH => ?_)
      clear hK K
      try simp only [Act.put, p1, p2, p3]
      refine tk 22 rfl hH ?_
      simp only [Act.put, p1, p2, p3]
      refine tk 23 rfl hH ?_
      simp only [Act.put, p1, p2, p3]
      refine wpAnyH_done (by kernel_rfl) ?_ _
      go_wp2
      go_ret
      exact ⟨rfl, hM.out.below⟩
    refine rdc rfl (fun K hK => ?_) AllReadyH.nil
    go_simp
    obtain ⟨bq3, hbq3⟩ : ∃ q, q = W.heap.size := ⟨_, rfl⟩
    have Hp2o1 : Hid (o1 ≠ some bq3) := hid fun h => by have := hL1.out.lt _ h; omega
    replace hM := hid (hM.out.bornR rl_zero.symm 27 (b := bq3) hbq3)
    have hb := hM.out.step
    replace hL1 := hid (hL1.out.later hb)
    replace hA := hid (hA.out.later hb)
    clear hb
    rw [← hbq3]
    clear hbq3
    refine hK.out _ _ (hM.out.at 1 rfl) (fun hH => ?_)
    clear hK K
    generalize World.alloc _ _ = W at hM hH hL1 hA ⊢
    try simp only [Act.put, p1, p2, p3]
    refine rd1 3 rfl (fun K hK => ?_)
    go_simp
    have hlp2 := hM.out.len 0 rfl
    have hlp := hM.out.len 1 rfl
    refine (do_lg LG1.out hA.out (by have := HN2.out; have := HN1.out; omega) HG2.out).mono ?_
    rintro e W ⟨o2, b2, d2, rfl, ho, hl, hb⟩
    have Hp2o2 : Hid (o2 ≠ some bq3) := hid fun h => by have := ho _ h; omega
    have Hpo2 : Hid (o2 ≠ some bq2) := hid fun h => by have := ho _ h; omega
    clear ho hlp2 hlp
    replace hM := hid (hM.out.later hb)
    replace hL1 := hid (hL1.out.later hb)
    have hL2 : Hid _ := hid hl
    clear hb hl hA
    have LG2 : Hid _ := hid (((LG1.out.run (by have := HN2.out; have := HN1.out; omega) HG2.out).bump (by have := HN2.out; have := HN1.out; omega)))
    have DL2 : Hid _ := hid (dn_length s1 q2 n2)
    obtain ⟨s2, hs2⟩ : ∃ z, z = bump (st s1 q2 n2) := ⟨_, rfl⟩
    obtain ⟨l2, hd2⟩ : ∃ z, z = dn s1 q2 n2 := ⟨_, rfl⟩
    rw [← hs2, ← hd2] at LG2
    rw [← hd2] at hL2 DL2
    rw [← hs2, ← hd2]
    clear hs2 hd2
    go_wp2_with fail
    refine hK.out _ _ (hM.out.at 1 rfl) (fun hH => ?_)
    clear hK K
    try simp only [Act.put, p1, p2, p3]
    refine tk 4 rfl hH ?_
    simp only [Act.put, p1, p2, p3]
    refine tk 5 rfl hH ?_
    simp only [Act.put, p1, p2, p3]
    refine tk 6 rfl hH ?_
    simp only [Act.put, p1, p2, p3]
    refine tk 7 rfl hH ?_
    simp only [Act.put, p1, p2, p3]
    refine rd1 9 rfl (fun K hK => ?_)
    refine stR rfl (hM.out.at 0 rfl) ((rwR wz).len (rwR s2)) (rwR s2) ?_
    simp only [Act.put]
    replace hL1 := hid (hL1.out.asideL Hp2o1.out 0 (rl s2))
    replace hL2 := hid (hL2.out.asideL Hp2o2.out 0 (rl s2))
    replace hM := hid (hM.out.put 0 rfl (rl s2) ((rwR wz).len (rwR s2)))
    refine hK.out _ _ (hM.out.at 1 rfl) (fun hH => ?_)
    clear hK K
    generalize World.setCells _ _ _ _ = W at hM hH hL1 hL2 ⊢
    try simp only [Act.put, p1, p2, p3]
    refine tk 10 rfl hH ?_
    simp only [Act.put, p1, p2, p3]
    refine tk 11 rfl hH ?_
    simp only [Act.put, p1, p2, p3]
    refine wpAnyH_done (by kernel_rfl) ?_ _
    have LL : Hid (Lg kk s2 (l1 ++ l2) _) := LG2
    obtain ⟨N2, hN2⟩ : ∃ z, z = (l1 ++ l2).length := ⟨_, rfl⟩
    have HLN : Hid (l1.length + l2.length = N2 ∧ N2 ≤ 24) := hid (by rw [hN2, List.length_append]; have h1 := DL1.out; have h2 := DL2.out; have h3 := HN1.out; have h4 := HN2.out; exact ⟨rfl, by omega⟩)
    have fA : wrap64 ((l1.length : Int) + (l2.length : Int)) = (N2 : Int) := by have := HLN.out; unfold wrap64; omega
    have fC : IntKind.i64.wrap (N2 : Int) = (N2 : Int) := by have := HLN.out; rw [IntKind.wrap_i64]; omega
    have H28 : Hid (s2 28 = N2) := hid (by rw [LL.out.cnt, hN2])
    have LEG : Hid (∀ {v : Value} {w : World} (D : Dq w v (l1 ++ l2).length (qof (l1 ++ l2))), Calls Tryz.prog 11 #[.int .i64 (kk : Nat), v] w (LegalY w (ob s2))) := fun {v w} D => by
      have h := legal_yes K16.out.1 K16.out.2 D LL.out.ok
      unfold LegalY at h ⊢
      rw [wl_congr LL.out.obj] at h
      exact h
    have OBJ : Hid (∀ w : World, _) := recObject_is s2
    have RIG : Hid (∀ w : World, _) := recRight_is LL.out.isr.u64 (v := true) ⟨fun _ => LL.out.isr, fun _ => rfl⟩
    have U28 : Hid _ := hid LL.out.isr
    have EE := cells_equal (ob s2)
    generalize ob s2 = cz at *
    go_wp2_with fail
    obtain ⟨bc, hbc⟩ : ∃ q, q = W.heap.size := ⟨_, rfl⟩
    replace hM := hid (hM.out.born [.slice b1 l1.length d1, .slice b2 l2.length d2] 22 hbc)
    have hbs := hM.out.step
    replace hL1 := hid (hL1.out.later hbs)
    replace hL2 := hid (hL2.out.later hbs)
    clear hbs
    rw [← hbc]
    clear hbc
    change Hid (Ms n w (W.alloc (.cells #[.slice b1 l1.length d1, .slice b2 l2.length d2] 22)) _ []) at hM
    generalize World.alloc _ _ = W at hM hL1 hL2 ⊢
    refine (ConcatD_two ((hM.out.at 0 rfl).cell 0 _ rfl) ((hM.out.at 0 rfl).cell 1 _ rfl) hL1.out.at hL2.out.at (by have := HLN.out; omega)).mono ?_
    rintro e W ⟨v6, rfl, hO6, hb⟩
    replace hM := hid (hM.out.later hb)
    have hO6 : Hid _ := hid hO6
    clear hb hL1 hL2
    go_wp2_with fail
    refine (LEG.out (hO6.out.ld.dq (by have := HLN.out; omega))).mono ?_
    rintro e W ⟨rfl, hb⟩
    replace hM := hid (hM.out.later hb)
    clear hb hO6
    obtain ⟨bx4, hbx4⟩ : ∃ q, q = W.heap.size := ⟨_, rfl⟩
    replace hM := hid (hM.out.bornR wz_all.symm 37 (b := bx4) hbx4)
    have Hbx4 : Hid _ := hbx4
    clear hbx4
    go_wp2_with (first
      | (rw [← Hbx4.out]; refine sR rfl (hM.out.at 0 rfl) rfl ((rwC wz).len (rwC cz)) (rwC cz) ?_
         replace hM := hid (hM.out.put 0 rfl (wl cz) ((rwC wz).len (rwC cz)))
         generalize World.setCells _ _ _ _ = W at hM ⊢))
    replace hM := hid (hM.out.drew)
    refine wp_region_held_drew (S := fun w' => Bo w' bx4 (wl cz) ∧ Bo w' bq3 (rl s2)) (by kernel_rfl) ⟨hM.out.at 0 rfl, hM.out.at 2 rfl⟩ (fun hH => ?_)
    generalize World.drew _ = W at hM hH  ⊢
    refine tk 0 rfl hH ?_
    simp only [Act.put, p1, p2, p3]
    refine tk 1 rfl hH ?_
    simp only [Act.put, p1, p2, p3]
    refine tk 2 rfl hH ?_
    simp only [Act.put, p1, p2, p3]
    refine tkR 3 rfl hH (fun _ h => h.1) (rwC cz) ?_
    simp only [Act.put, p1, p2, p3]
    refine tkR 4 rfl hH (fun _ h => h.2) (rwR s2) ?_
    simp only [Act.put, p1, p2, p3]
    refine rd1 5 rfl (fun K hK => ?_)
    go_simp
    refine (OBJ.out _).mono ?_
    rintro e W ⟨rfl, hb⟩
    replace hM := hid (hM.out.later hb)
    clear hb
    go_wp2_with fail
    refine hK.out _ _ ⟨hM.out.at 0 rfl, hM.out.at 2 rfl⟩ (fun hH => ?_)
    clear hK K
    try simp only [Act.put, p1, p2, p3]
    refine tk 6 rfl hH ?_
    simp only [Act.put, p1, p2, p3]
    refine tk 7 rfl hH ?_
    simp only [Act.put, p1, p2, p3]
    refine tk 8 rfl hH ?_
    simp only [Act.put, p1, p2, p3]
    refine tk 9 rfl hH ?_
    simp only [Act.put, p1, p2, p3]
    refine tk 10 rfl hH ?_ (by intro w h; have c0 := h.2.rwordx (show 28 < 32 by decide) H28.out; clear h; go_simp; try with_reducible rfl)
    simp only [Act.put, p1, p2, p3]
    refine tk 11 rfl hH ?_
    simp only [Act.put, p1, p2, p3]
    refine tk 12 rfl hH ?_
    simp only [Act.put, p1, p2, p3]
    refine tk 13 rfl hH ?_
    simp only [Act.put, p1, p2, p3]
    refine tk 14 rfl hH ?_
    simp only [Act.put, p1, p2, p3]
    refine tk 15 rfl hH ?_
    simp only [Act.put, p1, p2, p3]
    refine tk 16 rfl hH ?_
    simp only [Act.put, p1, p2, p3]
    refine tk 17 rfl hH ?_
    simp only [Act.put, p1, p2, p3]
    refine tk 18 rfl hH ?_
    simp only [Act.put, p1, p2, p3]
    refine tk 19 rfl hH ?_
    simp only [Act.put, p1, p2, p3]
    refine tkR 20 rfl hH (fun _ h => h.2) (rwR s2) ?_
    simp only [Act.put, p1, p2, p3]
    refine rd1 21 rfl (fun K hK => ?_)
    go_simp
    refine (RIG.out _).mono ?_
    rintro e W ⟨rfl, hb⟩
    replace hM := hid (hM.out.later hb)
    clear hb
    go_wp2_with fail
    refine hK.out _ _ ⟨hM.out.at 0 rfl, hM.out.at 2 rfl⟩ (fun hH => ?_)
    clear hK K
    try simp only [Act.put, p1, p2, p3]
    refine tk 22 rfl hH ?_
    simp only [Act.put, p1, p2, p3]
    refine tk 23 rfl hH ?_
    simp only [Act.put, p1, p2, p3]
    refine wpAnyH_done (by kernel_rfl) ?_ _
    go_wp2
    go_ret
    exact ⟨rfl, hM.out.below⟩
  refine rdc rfl (fun K hK => ?_) AllReadyH.nil
  go_simp
  obtain ⟨bq3, hbq3⟩ : ∃ q, q = W.heap.size := ⟨_, rfl⟩
  have Hp2o1 : Hid (o1 ≠ some bq3) := hid fun h => by have := hL1.out.lt _ h; omega
  replace hM := hid (hM.out.bornR rl_zero.symm 27 (b := bq3) hbq3)
  have hb := hM.out.step
  replace hL1 := hid (hL1.out.later hb)
  clear hb
  rw [← hbq3]
  clear hbq3
  refine hK.out _ _ (hM.out.at 1 rfl) (fun hH => ?_)
  clear hK K
  generalize World.alloc _ _ = W at hM hH hL1 ⊢
  try simp only [Act.put, p1, p2, p3]
  refine rd1 2 rfl (fun K hK => ?_)
  go_simp
  refine (asksFor_aq (Dds.later D2.out hM.out.below)).mono ?_
  rintro e W ⟨a2, c2, n2, q2, hn2, hg2, rfl, hA, hb⟩
  replace hM := hid (hM.out.later hb)
  replace hL1 := hid (hL1.out.later hb)
  clear hb
  have hA : Hid _ := hid hA
  have HN2 : Hid (n2 ≤ 12) := hn2
  have HG2 : Hid _ := hid hg2
  clear hn2 hg2
  go_wp2_with fail
  refine hK.out _ _ (hM.out.at 1 rfl) (fun hH => ?_)
  clear hK K
  try simp only [Act.put, p1, p2, p3]
  refine rd1 3 rfl (fun K hK => ?_)
  go_simp
  have hlp2 := hM.out.len 0 rfl
  have hlp := hM.out.len 1 rfl
  refine (do_lg LG1.out hA.out (by have := HN2.out; have := HN1.out; omega) HG2.out).mono ?_
  rintro e W ⟨o2, b2, d2, rfl, ho, hl, hb⟩
  have Hp2o2 : Hid (o2 ≠ some bq3) := hid fun h => by have := ho _ h; omega
  have Hpo2 : Hid (o2 ≠ some bq2) := hid fun h => by have := ho _ h; omega
  clear ho hlp2 hlp
  replace hM := hid (hM.out.later hb)
  replace hL1 := hid (hL1.out.later hb)
  have hL2 : Hid _ := hid hl
  clear hb hl hA
  have LG2 : Hid _ := hid (((LG1.out.run (by have := HN2.out; have := HN1.out; omega) HG2.out).bump (by have := HN2.out; have := HN1.out; omega)))
  have DL2 : Hid _ := hid (dn_length s1 q2 n2)
  obtain ⟨s2, hs2⟩ : ∃ z, z = bump (st s1 q2 n2) := ⟨_, rfl⟩
  obtain ⟨l2, hd2⟩ : ∃ z, z = dn s1 q2 n2 := ⟨_, rfl⟩
  rw [← hs2, ← hd2] at LG2
  rw [← hd2] at hL2 DL2
  rw [← hs2, ← hd2]
  clear hs2 hd2
  go_wp2_with fail
  refine hK.out _ _ (hM.out.at 1 rfl) (fun hH => ?_)
  clear hK K
  try simp only [Act.put, p1, p2, p3]
  refine tk 4 rfl hH ?_
  simp only [Act.put, p1, p2, p3]
  refine tk 5 rfl hH ?_
  simp only [Act.put, p1, p2, p3]
  refine tk 6 rfl hH ?_
  simp only [Act.put, p1, p2, p3]
  refine tk 7 rfl hH ?_
  simp only [Act.put, p1, p2, p3]
  refine rd1 9 rfl (fun K hK => ?_)
  refine stR rfl (hM.out.at 0 rfl) ((rwR wz).len (rwR s2)) (rwR s2) ?_
  simp only [Act.put]
  replace hL1 := hid (hL1.out.asideL Hp2o1.out 0 (rl s2))
  replace hL2 := hid (hL2.out.asideL Hp2o2.out 0 (rl s2))
  replace hM := hid (hM.out.put 0 rfl (rl s2) ((rwR wz).len (rwR s2)))
  refine hK.out _ _ (hM.out.at 1 rfl) (fun hH => ?_)
  clear hK K
  generalize World.setCells _ _ _ _ = W at hM hH hL1 hL2 ⊢
  try simp only [Act.put, p1, p2, p3]
  refine tk 10 rfl hH ?_
  simp only [Act.put, p1, p2, p3]
  refine tk 11 rfl hH ?_
  simp only [Act.put, p1, p2, p3]
  refine wpAnyH_done (by kernel_rfl) ?_ _
  have LL : Hid (Lg kk s2 (l1 ++ l2) _) := LG2
  obtain ⟨N2, hN2⟩ : ∃ z, z = (l1 ++ l2).length := ⟨_, rfl⟩
  have HLN : Hid (l1.length + l2.length = N2 ∧ N2 ≤ 24) := hid (by rw [hN2, List.length_append]; have h1 := DL1.out; have h2 := DL2.out; have h3 := HN1.out; have h4 := HN2.out; exact ⟨rfl, by omega⟩)
  have fA : wrap64 ((l1.length : Int) + (l2.length : Int)) = (N2 : Int) := by have := HLN.out; unfold wrap64; omega
  have fC : IntKind.i64.wrap (N2 : Int) = (N2 : Int) := by have := HLN.out; rw [IntKind.wrap_i64]; omega
  have H28 : Hid (s2 28 = N2) := hid (by rw [LL.out.cnt, hN2])
  have LEG : Hid (∀ {v : Value} {w : World} (D : Dq w v (l1 ++ l2).length (qof (l1 ++ l2))), Calls Tryz.prog 11 #[.int .i64 (kk : Nat), v] w (LegalY w (ob s2))) := fun {v w} D => by
    have h := legal_yes K16.out.1 K16.out.2 D LL.out.ok
    unfold LegalY at h ⊢
    rw [wl_congr LL.out.obj] at h
    exact h
  have OBJ : Hid (∀ w : World, _) := recObject_is s2
  have RIG : Hid (∀ w : World, _) := recRight_is LL.out.isr.u64 (v := true) ⟨fun _ => LL.out.isr, fun _ => rfl⟩
  have U28 : Hid _ := hid LL.out.isr
  have EE := cells_equal (ob s2)
  generalize ob s2 = cz at *
  go_wp2_with fail
  obtain ⟨bc, hbc⟩ : ∃ q, q = W.heap.size := ⟨_, rfl⟩
  replace hM := hid (hM.out.born [.slice b1 l1.length d1, .slice b2 l2.length d2] 22 hbc)
  have hbs := hM.out.step
  replace hL1 := hid (hL1.out.later hbs)
  replace hL2 := hid (hL2.out.later hbs)
  clear hbs
  rw [← hbc]
  clear hbc
  change Hid (Ms n w (W.alloc (.cells #[.slice b1 l1.length d1, .slice b2 l2.length d2] 22)) _ []) at hM
  generalize World.alloc _ _ = W at hM hL1 hL2 ⊢
  refine (ConcatD_two ((hM.out.at 0 rfl).cell 0 _ rfl) ((hM.out.at 0 rfl).cell 1 _ rfl) hL1.out.at hL2.out.at (by have := HLN.out; omega)).mono ?_
  rintro e W ⟨v6, rfl, hO6, hb⟩
  replace hM := hid (hM.out.later hb)
  have hO6 : Hid _ := hid hO6
  clear hb hL1 hL2
  go_wp2_with fail
  refine (LEG.out (hO6.out.ld.dq (by have := HLN.out; omega))).mono ?_
  rintro e W ⟨rfl, hb⟩
  replace hM := hid (hM.out.later hb)
  clear hb hO6
  obtain ⟨bx4, hbx4⟩ : ∃ q, q = W.heap.size := ⟨_, rfl⟩
  replace hM := hid (hM.out.bornR wz_all.symm 37 (b := bx4) hbx4)
  have Hbx4 : Hid _ := hbx4
  clear hbx4
  go_wp2_with (first
    | (rw [← Hbx4.out]; refine sR rfl (hM.out.at 0 rfl) rfl ((rwC wz).len (rwC cz)) (rwC cz) ?_
       replace hM := hid (hM.out.put 0 rfl (wl cz) ((rwC wz).len (rwC cz)))
       generalize World.setCells _ _ _ _ = W at hM ⊢))
  replace hM := hid (hM.out.drew)
  refine wp_region_held_drew (S := fun w' => Bo w' bx4 (wl cz) ∧ Bo w' bq3 (rl s2)) (by kernel_rfl) ⟨hM.out.at 0 rfl, hM.out.at 2 rfl⟩ (fun hH => ?_)
  generalize World.drew _ = W at hM hH  ⊢
  refine tk 0 rfl hH ?_
  simp only [Act.put, p1, p2, p3]
  refine tk 1 rfl hH ?_
  simp only [Act.put, p1, p2, p3]
  refine tk 2 rfl hH ?_
  simp only [Act.put, p1, p2, p3]
  refine tkR 3 rfl hH (fun _ h => h.1) (rwC cz) ?_
  simp only [Act.put, p1, p2, p3]
  refine tkR 4 rfl hH (fun _ h => h.2) (rwR s2) ?_
  simp only [Act.put, p1, p2, p3]
  refine rd1 5 rfl (fun K hK => ?_)
  go_simp
  refine (OBJ.out _).mono ?_
  rintro e W ⟨rfl, hb⟩
  replace hM := hid (hM.out.later hb)
  clear hb
  go_wp2_with fail
  refine hK.out _ _ ⟨hM.out.at 0 rfl, hM.out.at 2 rfl⟩ (fun hH => ?_)
  clear hK K
  try simp only [Act.put, p1, p2, p3]
  refine tk 6 rfl hH ?_
  simp only [Act.put, p1, p2, p3]
  refine tk 7 rfl hH ?_
  simp only [Act.put, p1, p2, p3]
  refine tk 8 rfl hH ?_
  simp only [Act.put, p1, p2, p3]
  refine tk 9 rfl hH ?_
  simp only [Act.put, p1, p2, p3]
  refine tk 10 rfl hH ?_ (by intro w h; have c0 := h.2.rwordx (show 28 < 32 by decide) H28.out; clear h; go_simp; try with_reducible rfl)
  simp only [Act.put, p1, p2, p3]
  refine tk 11 rfl hH ?_
  simp only [Act.put, p1, p2, p3]
  refine tk 12 rfl hH ?_
  simp only [Act.put, p1, p2, p3]
  refine tk 13 rfl hH ?_
  simp only [Act.put, p1, p2, p3]
  refine tk 14 rfl hH ?_
  simp only [Act.put, p1, p2, p3]
  refine tk 15 rfl hH ?_
  simp only [Act.put, p1, p2, p3]
  refine tk 16 rfl hH ?_
  simp only [Act.put, p1, p2, p3]
  refine tk 17 rfl hH ?_
  simp only [Act.put, p1, p2, p3]
  refine tk 18 rfl hH ?_
  simp only [Act.put, p1, p2, p3]
  refine tk 19 rfl hH ?_
  simp only [Act.put, p1, p2, p3]
  refine tkR 20 rfl hH (fun _ h => h.2) (rwR s2) ?_
  simp only [Act.put, p1, p2, p3]
  refine rd1 21 rfl (fun K hK => ?_)
  go_simp
  refine (RIG.out _).mono ?_
  rintro e W ⟨rfl, hb⟩
  replace hM := hid (hM.out.later hb)
  clear hb
  go_wp2_with fail
  refine hK.out _ _ ⟨hM.out.at 0 rfl, hM.out.at 2 rfl⟩ (fun hH => ?_)
  clear hK K
  try simp only [Act.put, p1, p2, p3]
  refine tk 22 rfl hH ?_
  simp only [Act.put, p1, p2, p3]
  refine tk 23 rfl hH ?_
  simp only [Act.put, p1, p2, p3]
  refine wpAnyH_done (by kernel_rfl) ?_ _
  go_wp2
  go_ret
  exact ⟨rfl, hM.out.below⟩


set_option maxRecDepth 100000 in
theorem lifted (os : Os) (started : os.Started) (H : Type) (enc : TypeId × Value → H) :
    ReturnsInHanded {} Tryz.checked os 3 .any (fun w args => (Rows.batchLegalSpec.pre enc Tryz.prog Tryz.f3 [] false w args ∧ laidMetH Tryz.prog laidHandle w) ∧ sizedMet enc Tryz.prog Tryz.f3 (OpenSpec.ofChange Rows.batchLegalSpec) false w args)
      (Rows.batchLegalSpec.post enc Tryz.prog Tryz.f3 false true false false) := by
  refine returnsInHanded_of_change_and (C := Tryz.checked) (X := fun w _ => laidMetH Tryz.prog laidHandle w) (fun _ _ _ hh h => h.of_heap hh) own started (by kernel_rfl) Tryz.func3
    (ChangeSpec.witness_shaped (enc := enc) (C := Tryz.checked) (os := os) (X := fun w _ => laidMetH Tryz.prog laidHandle w) false (World.doorLaid Tryz.prog 400 os) #[.int .i64 0, .slice none 0 0, .slice none 0 0] 8 rfl (World.shaped_of_RefB (by kernel_rfl) (by kernel_rfl)) (by kernel_rfl) (by kernel_rfl) (by kernel_rfl) (door_handle os _)) ?_
  intro W base args ds gs before hval0 hW _ _ hL _
  have hval : ∀ (j : Nat) t v, Tryz.f3.params[j]? = some t → args[j]? = some v → Value.okWide Tryz.prog W .any base t v := hval0
  have hW' := hW
  obtain ⟨p, q, hA0, hV, rfl, hfz, hnd⟩ := hW
  have hA : DataW.TrodAll enc Tryz.prog W 0 (fun _ => true) true Tryz.f3.params.toList args.toList ds p := hA0
  rw [Tryz.params3] at hA hval
  obtain ⟨v0, vs0, d0, ds0, p0, q0, hargs, rfl, rfl, h0, r0⟩ := trodAll_cons hA
  obtain ⟨v1, vs1, d1, ds1, p1, q1, rfl, rfl, rfl, h1, r1⟩ := trodAll_cons r0
  obtain ⟨v2, vs2, d2, ds2, p2, q2, rfl, rfl, rfl, h2, r2⟩ := trodAll_cons r1
  obtain ⟨rfl, rfl, rfl⟩ := trodAll_nil r2
  obtain rfl : args = #[v0, v1, v2] := by cases args; simp_all
  obtain ⟨rfl, rfl⟩ := trodVars_none hV
  obtain ⟨a0, rfl, rfl, rfl, w0⟩ := open_int Tryz.underlying3 (hval 0 3 v0 rfl rfl) h0
  obtain ⟨n1, D1⟩ := adeeds_of_trod (hval 1 22 v1 rfl rfl) h1
  obtain ⟨n2, D2⟩ := adeeds_of_trod (hval 2 22 v2 rfl rfl) h2
  have hT := handle_of_laid hL
  have hlt := hW'.lt
  clear hA0 hval0
  refine (walk a0 v1 n1 v2 n2 w0 W hT D1 D2).mono fun e W' ⟨he, hg⟩ => ?_
  subst he
  exact ⟨_, rfl, post_below (pv := []) hW' (fun _ _ _ => (trodAll_cons_mk (shut_bool Tryz.underlying4 _) trodAll_mk0)) (fun sp hsp => (trodAll_cons_mk (shut_int Tryz.underlying3 w0) (trodAll_cons_mk (adeeds_stay h1 hg (fun x hx => hlt x (by simp [hx])) (fun x hx => hsp x (by simp [hx]))) (trodAll_cons_mk (adeeds_stay h2 hg (fun x hx => hlt x (by simp [hx])) (fun x hx => hsp x (by simp [hx]))) trodAll_mk0)))) (fun _ _ => rfl) (by simp) (hg.frame _)⟩

theorem over : Rows.BatchLegalSaid :=
  OpenClaim.holds_of_wide 3 Tryz.f3 rfl rfl rfl rfl rfl rfl rfl ⟨rfl, rfl, rfl, rfl, rfl⟩ rfl rfl rfl rfl rfl (by kernel_rfl) Tryz.func3 (by kernel_rfl)
    (of_decide_eq_true (by kernel_rfl)) (by unfold Func.isWrapper; first | (rw [if_pos (by decide +kernel)]; kernel_rfl) | (rw [if_neg (by decide +kernel)]; exact ⟨rfl, rfl⟩))
    (fun os started H enc _ => lifted os started H enc)

theorem proved : Rows.BatchLegalCardSaid :=
  Claim7.holds_tied_plain_at .later [] [.handle] true (true, "896f84311e5a6986679d865e033c64fff5c4db01008ce778d64a54c6cbed02e4") true
    over (fun _ h => by cases h) (by kernel_rfl) (fun _ h => by cases h) batchLegal_row_tie rfl ⟨rfl, rfl⟩ (by kernel_rfl) rfl
    (fun f fn hf hfn => by
      obtain rfl : f = 3 := Option.some.inj ((show Tryz.prog.funcNamed "gristmill/gristmillkeep.BatchLegal" = some 3 by kernel_rfl).symm.trans hf) |>.symm
      obtain rfl : fn = Tryz.f3 := (Option.some.inj (Tryz.func3.symm.trans hfn)).symm
      exact ⟨by kernel_rfl, fun j t ht => by
        rw [Tryz.params3] at ht
        have hm : t ∈ [3, 22, 22] := by simpa using Array.mem_of_getElem? ht
        have hall : ([3, 22, 22].all fun u => !Tryz.prog.wantsStandIn u) = true := by kernel_rfl
        exact (show Tryz.prog.wantsStandIn t = false by simpa using List.all_eq_true.1 hall t hm)⟩)
    (by kernel_rfl)
#print axioms proved
end Go.Proofs.YteogbpaaacmllabGreatDoor.Tab.batchLegal
