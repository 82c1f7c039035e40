/- BatchClosed is proved: for every number of a kind, every two lists of deeds, every two numbers and every operation the call returns true (asks that aren't open, among others, change nothing); the library's handle of the type error stands as the program's text lays it. -/
import Derived.Test.YteogbpaaacmllaaGreatDoorRows
import Derived.Test.YteogbpaaacmllaaGreatDoorPk08
import Derived.Test.YteogbpaaacmllaaGreatDoorPk09
import Derived.Test.YteogbpaaacmllaaGreatDoorPk07
import Derived.Test.YteogbpaaacmllaaGreatDoorPk00
import Derived.Test.YteogbpaaacmllaaGreatDoorPk04
import Derived.Test.YteogbpaaacmllaaGreatDoorCards
import Derived.Deep.DeepCutAuto
import Derived.Deep.RegionHeld3
import Derived.SevenTiedAt

namespace Go.Proofs.YteogbpaaacmllaaGreatDoor.Tab.batchClosed
set_option maxRecDepth 20000
open Go.ChangeShapes Go.WideShapes Go.ChangeAt Go.RowKit
set_option linter.unusedVariables false

set_option maxHeartbeats 16000000 in
set_option maxRecDepth 20000 in
theorem walk (a0 : Int) (va : Value) (n1 : Nat) (vb : Value) (n2 : Nat) (a3 a4 o k x : Int) (w0 : (Lit.int .i64 a0).wf = true) (w3 : (Lit.int .i64 a3).wf = true) (w4 : (Lit.int .i64 a4).wf = true) (wa : (Lit.int .i64 o).wf = true) (wb : (Lit.int .i64 k).wf = true) (wc : (Lit.int .i64 x).wf = true) (w : World) (hT : HandleAt w) (D : Dds w va n1) (E : Dds w vb n2) :
    Calls Tryz.prog 4 #[.int .i64 a0, va, vb, .int .i64 a3, .int .i64 a4, .agg #[.int .i64 o, .int .i64 k, .int .i64 x]] w fun e w' => e = .returned (.bool true) ∧ Below w.heap.size w w' := by
  clear hT w0 w3 w4 wa wb wc
  have RC : Hid (∀ w : World, _) := recorded_is
  have BC : Hid (∀ w : World, _) := batched_is
  obtain ⟨kk, k1, k6, hko⟩ := kindOf_is a0
  have KO : Hid _ := hko
  clear hko
  obtain ⟨tn, t4, hpk⟩ := pick4_is a4
  have PK : Hid _ := hpk
  have T4 : Hid (tn < 4) := t4
  clear hpk t4
  have D1 : Hid (Dds w va n1) := D
  have D2 : Hid (Dds w vb n2) := E
  clear D E
  have hM : Hid _ := (((Ms.nil w).born [.int .i64 a4] 3 (b := w.heap.size) rfl).born [.int .i64 o, .int .i64 k, .int .i64 x] 44 (b := w.heap.size + 1) (by simp))
  go_enter Tryz.func4, Tryz.ntmps4
  go_wp2_with fail
  generalize World.alloc _ _ = W at hM ⊢
  generalize hsz : w.heap.size = n at hM ⊢
  clear hsz
  refine (BC.out _).mono ?_
  rintro e W ⟨rfl, hb⟩
  replace hM := hid (hM.out.later hb)
  clear hb
  go_wp2_with fail
  refine (RC.out _).mono ?_
  rintro e W ⟨rfl, hb⟩
  replace hM := hid (hM.out.later hb)
  clear hb
  go_wp2_with (first
    | (refine lR rfl (hM.out.at 0 rfl) rfl (rwO o k x) ?_))
  by_cases hR : Rt o k x
  · have HR : Hid _ := hid hR
    have OR : Hid (∀ w : World, _) := opR_yes hR
    clear hR
    refine (OR.out _).mono ?_
    rintro e W ⟨rfl, hb⟩
    replace hM := hid (hM.out.later hb)
    clear hb
    go_wp2_with fail
    refine (KO.out _).mono ?_
    rintro e ux ⟨rfl, hw⟩
    rw [hw]; clear hw ux
    go_wp2_with fail
    refine (written_vis k1 k6 (Dds.later (v := va) (n := n1) D1.out hM.out.below)).mono ?_
    rintro e W ⟨d, hd, hk, hc, hv, hm, rfl, hb⟩
    replace hM := hid (hM.out.later hb)
    clear hb
    have SV : Hid (Sv d 30) := ⟨hd, hc, by omega⟩
    clear hd hk hc hv hm k1 k6
    obtain ⟨bx1, hbx1⟩ : ∃ q, q = W.heap.size := ⟨_, rfl⟩
    replace hM := hid (hM.out.bornR rl_zero.symm 24 (b := bx1) hbx1)
    have Hbx1 : Hid _ := hbx1
    clear hbx1
    go_wp2_with (first
      | (rw [← Hbx1.out]; refine sR rfl (hM.out.at 0 rfl) rfl ((rwR wz).len (rwR d)) (rwR d) ?_
         replace hM := hid (hM.out.put 0 rfl (rl d) ((rwR wz).len (rwR d)))
         generalize World.setCells _ _ _ _ = W at hM ⊢
         have c2 := hM.out.cell 2 0 rfl rfl))
    clear c2
    refine (PK.out _).mono ?_
    rintro e W ⟨rfl, hb⟩
    replace hM := hid (hM.out.later hb)
    clear hb
    go_wp2_with (first
      | (refine s1 rfl (hM.out.at 2 rfl) 0 rfl (.int .i64 (tn : Nat)) rfl (by kernel_rfl) ?_ (by simp)
         replace hM := hid (hM.out.put1 2 0 rfl (.int .i64 (tn : Nat)) [.int .i64 (tn : Nat)] (by simp) rfl)
         generalize World.setCell _ _ _ = W at hM ⊢))
    replace hM : Hid (Ms n w W [(n, [.int .i64 (tn : Nat)]), (bx1, rl d), ((n + 1), [.int .i64 o, .int .i64 k, .int .i64 x])] []) := hid (hM.out.pick [2, 0, 1])
    refine (asksFor_own hM.out (Dds.later D2.out hM.out.below)).mono ?_
    rintro e W ⟨B0, v1, l, hl, hg, rfl, hO, hK, hb⟩
    replace hM := hid (hM.out.later hb)
    clear hb
    have hO : Hid _ := hid hO
    have HK : Hid _ := hid hK
    have HL : Hid (l.length ≤ 12) := hl
    have HG0 : Hid _ := hid hg
    clear hK hl hg
    go_wp2_with fail
    refine (delete_is hM.out hO.out HK.out (by have := HL.out; omega)).mono ?_
    rintro e W ⟨v2, rfl, hA, hM2⟩
    replace hM := hid hM2
    have hA : Hid _ := hid hA
    clear hM2 hO HK
    have HN : Hid ((keepF (tn : Nat) l).length ≤ 12) := hid (Nat.le_trans (keepF_len _ l) HL.out)
    have HG : Hid (∀ a, a ∈ keepF (tn : Nat) l → Gk a) := hid fun a ha => HG0.out a (keepF_mem ha).1
    have HT : Hid (∀ a, a ∈ keepF (tn : Nat) l → a.t ≠ (tn : Nat)) := hid fun a ha => (keepF_mem ha).2
    generalize keepF (tn : Nat) l = l1 at hA HN HG HT
    clear HL HG0
    obtain ⟨a1, c1, hf⟩ := hA.out.form
    rw [hf] at hA
    rw [hf]
    clear hf
    have TG : Hid (∀ w : World, _) := toggle_yes d T4.out (SV.out.isr.u64 26 (by decide))
    obtain ⟨m1, hm1⟩ : ∃ z, z = l1.length + 1 := ⟨_, rfl⟩
    have hw1 : IntKind.i64.wrap ((l1.length : Int) + 1) = (m1 : Int) := by have := HN.out; rw [IntKind.wrap_i64]; omega
    have HM1 : Hid (m1 = l1.length + 1) := hm1
    clear hm1
    go_wp2_with fail
    replace hM := hid (hM.out.drew)
    replace hA := hid (hA.out.drew)
    refine wp_region_held_drew (S := fun w' => Bo w' n [.int .i64 (tn : Nat)] ∧ Bo w' bx1 (rl d) ∧ Bo w' (n + 1) [.int .i64 o, .int .i64 k, .int .i64 x]) (by kernel_rfl) ⟨hM.out.at 0 rfl, hM.out.at 1 rfl, hM.out.at 2 rfl⟩ (fun hH => ?_)
    generalize World.drew _ = W at hM hH hA ⊢
    refine tk 0 rfl hH ?_
    simp only [Act.put, p1, p2, p3]
    refine tk 2 rfl hH ?_
    simp only [Act.put, p1, p2, p3]
    refine tk 3 rfl hH ?_
    simp only [Act.put, p1, p2, p3]
    refine tk 4 rfl hH ?_
    simp only [Act.put, p1, p2, p3]
    refine tk 5 rfl hH ?_
    simp only [Act.put, p1, p2, p3]
    refine tk 7 rfl hH ?_ (by intro w h; have c0 := h.1.cell 0 _ rfl; clear h; go_simp; try with_reducible rfl)
    simp only [Act.put, p1, p2, p3]
    refine tkR 8 rfl hH (fun _ h => h.2.1) (rwR d) ?_
    simp only [Act.put, p1, p2, p3]
    refine tk 9 rfl hH ?_ (by intro w h; have c0 := h.1.cell 0 _ rfl; clear h; go_simp; try with_reducible rfl)
    simp only [Act.put, p1, p2, p3]
    refine tkR 11 rfl hH (fun _ h => h.2.2) (rwO o k x) ?_
    simp only [Act.put, p1, p2, p3]
    refine rd1 1 rfl (fun K hK => ?_)
    go_simp
    refine (clone_own hM.out hA.out (by have := HN.out; omega)).mono ?_
    rintro e W ⟨B1, v3, rfl, hC, hb⟩
    replace hM := hid (hM.out.later hb)
    replace hA := hid (hA.out.later hb)
    clear hb
    have hC : Hid _ := hid hC
    go_wp2_with fail
    refine hK.out _ _ ⟨hM.out.at 0 rfl, hM.out.at 1 rfl, hM.out.at 2 rfl⟩ (fun hH => ?_)
    clear hK K
    try simp only [Act.put, p1, p2, p3]
    refine rd1 6 rfl (fun K hK => ?_)
    go_simp
    refine (pickb m1 (by have := HM1.out; omega) (by have := HM1.out; have := HN.out; omega) a3 _).mono ?_
    rintro e W ⟨p, hp, rfl, hb⟩
    replace hM := hid (hM.out.later hb)
    replace hA := hid (hA.out.later hb)
    replace hC := hid (hC.out.later hb)
    clear hb
    have HP : Hid (p ≤ l1.length) := hid (by have := HM1.out; omega)
    clear hp
    go_wp2_with fail
    refine hK.out _ _ ⟨hM.out.at 0 rfl, hM.out.at 1 rfl, hM.out.at 2 rfl⟩ (fun hH => ?_)
    clear hK K
    try simp only [Act.put, p1, p2, p3]
    refine rd1 10 rfl (fun K hK => ?_)
    go_simp
    refine (TG.out _).mono ?_
    rintro e W ⟨rfl, hb⟩
    replace hM := hid (hM.out.later hb)
    replace hA := hid (hA.out.later hb)
    replace hC := hid (hC.out.later hb)
    clear hb
    go_wp2_with fail
    refine hK.out _ _ ⟨hM.out.at 0 rfl, hM.out.at 1 rfl, hM.out.at 2 rfl⟩ (fun hH => ?_)
    clear hK K
    try simp only [Act.put, p1, p2, p3]
    refine tk 12 rfl hH ?_
    simp only [Act.put, p1, p2, p3]
    refine rd1 13 rfl (fun K hK => ?_)
    go_simp
    obtain ⟨bv, hbv⟩ : ∃ q, q = W.heap.size := ⟨_, rfl⟩
    have HXV : Hid (∀ g, v3.ownBlock = some g → g ≠ bv) := hid fun g hg e => by have := (hC.out.own.lt g hg).2; omega
    replace hM := hid (hM.out.born [.int .i64 (tn : Nat), .int .i64 (((d 26).testBit tn).toNat : Nat), .int .i64 o, .int .i64 k, .int .i64 x] 52 (b := bv) hbv)
    have hb := hM.out.step
    replace hA := hid (hA.out.later hb)
    replace hC := hid (hC.out.later hb)
    clear hb
    rw [← hbv]
    clear hbv
    refine hK.out _ _ ⟨hM.out.at 1 rfl, hM.out.at 2 rfl, hM.out.at 3 rfl⟩ (fun hH => ?_)
    clear hK K
    generalize World.alloc _ _ = W at hM hH hA hC ⊢
    try simp only [Act.put, p1, p2, p3]
    refine rd1 14 rfl (fun K hK => ?_)
    go_simp
    have hrow : Bo W bv (AK.row ⟨(tn : Nat), (bt d tn : Nat), o, k, x⟩) := (hM.out.at 0 rfl)
    refine (insert_own (x := ⟨(tn : Nat), (bt d tn : Nat), o, k, x⟩) hM.out.tailC hC.out hA.out hrow HXV.out HP.out (by have := HN.out; omega)).mono ?_
    rintro e W ⟨v4, rfl, hI, hA2, hM2⟩
    replace hM := hid hM2
    replace hA := hid hA2
    have hI : Hid _ := hid hI
    clear hM2 hA2 hrow hC HXV
    go_wp2_with fail
    refine hK.out _ _ ⟨hM.out.at 0 rfl, hM.out.at 1 rfl, hM.out.at 2 rfl⟩ (fun hH => ?_)
    clear hK K
    try simp only [Act.put, p1, p2, p3]
    refine tk 15 rfl hH ?_
    simp only [Act.put, p1, p2, p3]
    refine wpAnyH_done (by kernel_rfl) ?_ _
    obtain ⟨W1, hW1⟩ : ∃ z, z = W := ⟨_, rfl⟩
    subst hW1
    have R1 : Hid (Bo W1 bx1 (rl d)) := (hM.out.at 1 rfl)
    replace hA : Hid (Aq W1 (.slice a1 l1.length c1) l1.length (aof l1)) := hid (hA.out.aq (by have := HN.out; omega))
    have hBwW1 : Hid (Below w.heap.size w W1) := hM.out.below
    have hSzW1 : Hid (w.heap.size ≤ W1.heap.size) := hid hM.out.below.size
    clear hM
    have hM : Hid _ := Ms.nil W1
    have IQ : Hid (Aq W1 v4 (l1.length + 1) (aof (insL l1 p ⟨(tn : Nat), (bt d tn : Nat), o, k, x⟩))) := hI
    clear hI
    have DO1 : Hid (∀ w : World, Aq w (.slice a1 l1.length c1) l1.length (aof l1) → _) := fun w D => do_sv SV.out D (by have := HN.out; omega) (fun i hi => HG.out _ (aof_mem hi))
    have DO2 : Hid (∀ w : World, Aq w v4 (l1.length + 1) (aof (insL l1 p ⟨(tn : Nat), (bt d tn : Nat), o, k, x⟩)) → _) := fun w D => ins_do SV.out HP.out (by have := HN.out; omega) HG.out HT.out T4.out HR.out D
    have HDL : Hid ((dn d (aof l1) l1.length).length ≤ 1000000) := hid (by have := dn_length d (aof l1) l1.length; have := HN.out; omega)
    obtain ⟨Q2, hQ2⟩ : ∃ z, z = aof (insL l1 p ⟨(tn : Nat), (bt d tn : Nat), o, k, x⟩) := ⟨_, rfl⟩
    rw [← hQ2] at IQ DO2
    clear hQ2
    obtain ⟨t1, ht1⟩ : ∃ z, z = bump (st d (aof l1) l1.length) := ⟨_, rfl⟩
    rw [← ht1] at DO1 DO2
    clear ht1
    obtain ⟨ld, hld⟩ : ∃ z, z = dn d (aof l1) l1.length := ⟨_, rfl⟩
    rw [← hld] at DO1 DO2 HDL
    clear hld
    go_wp2_with (first
      | (refine lR rfl (R1.out.later hM.out.below) rfl (rwR d) ?_))
    refine (DO1.out _ (hA.out.later hM.out.below)).mono ?_
    rintro e W ⟨o4, a4_, c4, rfl, _, hl, hb⟩
    replace hM := hid (hM.out.later hb)
    have LA : Hid _ := hid hl
    clear hb hl DO1
    obtain ⟨W2, hW2⟩ : ∃ z, z = W := ⟨_, rfl⟩
    subst hW2
    have R2 : Hid (Bo W2 bx1 (rl d)) := (R1.out.later hM.out.below)
    have LA2 : Hid (Lo W2 o4 (.slice a4_ ld.length c4) ld) := LA
    replace IQ := hid (IQ.out.later hM.out.below)
    have hBwW2 : Hid (Below w.heap.size w W2) := hid (hBwW1.out.trans (hM.out.below.mono hSzW1.out))
    have hSzW2 : Hid (w.heap.size ≤ W2.heap.size) := hid (Nat.le_trans hSzW1.out hM.out.below.size)
    clear hBwW1 hSzW1
    clear hM
    have hM : Hid _ := Ms.nil W2
    clear LA hA
    obtain ⟨bx3, hbx3⟩ : ∃ q, q = W2.heap.size := ⟨_, rfl⟩
    replace hM := hid (hM.out.bornR rl_zero.symm 24 (b := bx3) hbx3)
    have Hbx3 : Hid _ := hbx3
    clear hbx3
    go_wp2_with (first
      | (rw [← Hbx3.out]; refine sR rfl (hM.out.at 0 rfl) rfl ((rwR wz).len (rwR t1)) (rwR t1) ?_
         replace hM := hid (hM.out.put 0 rfl (rl t1) ((rwR wz).len (rwR t1)))
         generalize World.setCells _ _ _ _ = W at hM ⊢)
      | (refine lR rfl (R2.out.later hM.out.below) rfl (rwR d) ?_))
    refine (DO2.out _ (IQ.out.later hM.out.below)).mono ?_
    rintro e W ⟨o5, a5_, c5, rfl, _, hl, hb⟩
    replace hM := hid (hM.out.later hb)
    have LB : Hid _ := hid hl
    clear hb hl DO2
    obtain ⟨W3, hW3⟩ : ∃ z, z = W := ⟨_, rfl⟩
    subst hW3
    have X3 : Hid (Bo W3 bx3 (rl t1)) := (hM.out.at 0 rfl)
    have LB3 : Hid (Lo W3 o5 (.slice a5_ ld.length c5) ld) := LB
    replace LA2 := hid (LA2.out.later hM.out.below)
    have hBwW3 : Hid (Below w.heap.size w W3) := hid (hBwW2.out.trans (hM.out.below.mono hSzW2.out))
    have hSzW3 : Hid (w.heap.size ≤ W3.heap.size) := hid (Nat.le_trans hSzW2.out hM.out.below.size)
    clear hBwW2 hSzW2
    clear hM
    have hM : Hid _ := Ms.nil W3
    clear LB IQ
    have EE := rec_equal t1
    obtain ⟨bx4, hbx4⟩ : ∃ q, q = W3.heap.size := ⟨_, rfl⟩
    replace hM := hid (hM.out.bornR rl_zero.symm 24 (b := bx4) hbx4)
    have Hbx4 : Hid _ := hbx4
    clear hbx4
    go_wp2_with (first
      | (rw [← Hbx4.out]; refine sR rfl (hM.out.at 0 rfl) rfl ((rwR wz).len (rwR t1)) (rwR t1) ?_
         replace hM := hid (hM.out.put 0 rfl (rl t1) ((rwR wz).len (rwR t1)))
         generalize World.setCells _ _ _ _ = W at hM ⊢)
      | (refine lW rfl (X3.out.later hM.out.below) rfl (rwR t1) ?_)
      | (refine lW rfl (hM.out.at 0 rfl) rfl (rwR t1) ?_))
    refine (equalD_is ((LA2.out.later hM.out.below).dq HDL.out) ((LB3.out.later hM.out.below).dq HDL.out) HDL.out).mono ?_
    rintro e W ⟨rfl, hb⟩
    replace hM := hid (hM.out.later hb)
    clear hb
    go_wp2
    go_ret
    exact ⟨rfl, hBwW3.out.trans (hM.out.below.mono hSzW3.out)⟩
  · have OR : Hid (∀ w : World, _) := opR_no hR
    clear hR
    refine (OR.out _).mono ?_
    rintro e W ⟨rfl, hb⟩
    replace hM := hid (hM.out.later hb)
    clear hb
    go_wp2_with fail
    go_ret
    exact ⟨rfl, hM.out.below⟩


set_option maxRecDepth 100000 in
theorem lifted (os : Os) (started : os.Started) (H : Type) (enc : TypeId × Value → H) :
    ReturnsInHanded {} Tryz.checked os 4 .any (fun w args => (Rows.batchClosedSpec.pre enc Tryz.prog Tryz.f4 [] false w args ∧ laidMetH Tryz.prog laidHandle w) ∧ sizedMet enc Tryz.prog Tryz.f4 (OpenSpec.ofChange Rows.batchClosedSpec) false w args)
      (Rows.batchClosedSpec.post enc Tryz.prog Tryz.f4 false true false false) := by
  refine returnsInHanded_of_change_and (C := Tryz.checked) (X := fun w _ => laidMetH Tryz.prog laidHandle w) (fun _ _ _ hh h => h.of_heap hh) own started (by kernel_rfl) Tryz.func4
    (ChangeSpec.witness_shaped (enc := enc) (C := Tryz.checked) (os := os) (X := fun w _ => laidMetH Tryz.prog laidHandle w) false (World.doorLaid Tryz.prog 400 os) #[.int .i64 0, .slice none 0 0, .slice none 0 0, .int .i64 0, .int .i64 0, .agg #[.int .i64 0, .int .i64 0, .int .i64 0]] 8 rfl (World.shaped_of_RefB (by kernel_rfl) (by kernel_rfl)) (by kernel_rfl) (by kernel_rfl) (by kernel_rfl) (door_handle os _)) ?_
  intro W base args ds gs before hval0 hW _ _ hL _
  have hval : ∀ (j : Nat) t v, Tryz.f4.params[j]? = some t → args[j]? = some v → Value.okWide Tryz.prog W .any base t v := hval0
  have hW' := hW
  obtain ⟨p, q, hA0, hV, rfl, hfz, hnd⟩ := hW
  have hA : DataW.TrodAll enc Tryz.prog W 0 (fun _ => true) true Tryz.f4.params.toList args.toList ds p := hA0
  rw [Tryz.params4] at hA hval
  obtain ⟨v0, vs0, d0, ds0, p0, q0, hargs, rfl, rfl, h0, r0⟩ := trodAll_cons hA
  obtain ⟨v1, vs1, d1, ds1, p1, q1, rfl, rfl, rfl, h1, r1⟩ := trodAll_cons r0
  obtain ⟨v2, vs2, d2, ds2, p2, q2, rfl, rfl, rfl, h2, r2⟩ := trodAll_cons r1
  obtain ⟨v3, vs3, d3, ds3, p3, q3, rfl, rfl, rfl, h3, r3⟩ := trodAll_cons r2
  obtain ⟨v4, vs4, d4, ds4, p4, q4, rfl, rfl, rfl, h4, r4⟩ := trodAll_cons r3
  obtain ⟨v5, vs5, d5, ds5, p5, q5, rfl, rfl, rfl, h5, r5⟩ := trodAll_cons r4
  obtain ⟨rfl, rfl, rfl⟩ := trodAll_nil r5
  obtain rfl : args = #[v0, v1, v2, v3, v4, v5] := by cases args; simp_all
  obtain ⟨rfl, rfl⟩ := trodVars_none hV
  obtain ⟨a0, rfl, rfl, rfl, w0⟩ := open_int Tryz.underlying3 (hval 0 3 v0 rfl rfl) h0
  obtain ⟨n1, D1⟩ := adeeds_of_trod (hval 1 27 v1 rfl rfl) h1
  obtain ⟨n2, D2⟩ := adeeds_of_trod (hval 2 27 v2 rfl rfl) h2
  obtain ⟨a3, rfl, rfl, rfl, w3⟩ := open_int Tryz.underlying3 (hval 3 3 v3 rfl rfl) h3
  obtain ⟨a4, rfl, rfl, rfl, w4⟩ := open_int Tryz.underlying3 (hval 4 3 v4 rfl rfl) h4
  obtain ⟨a5, b5, c5, rfl, wa5, wb5, wc5⟩ := op_of_trod (hval 5 44 v5 rfl rfl) h5
  have hT := handle_of_laid hL
  have hlt := hW'.lt
  clear hA0 hval0
  refine (walk a0 v1 n1 v2 n2 a3 a4 a5 b5 c5 w0 w3 w4 wa5 wb5 wc5 W hT D1 D2).mono fun e W' ⟨he, hg⟩ => ?_
  subst he
  exact ⟨_, rfl, post_below (pv := []) hW' (fun _ _ _ => (trodAll_cons_mk (shut_bool Tryz.underlying4 _) trodAll_mk0)) (fun sp hsp => (trodAll_cons_mk (shut_int Tryz.underlying3 w0) (trodAll_cons_mk (adeeds_stay h1 hg (fun x hx => hlt x (by simp [hx])) (fun x hx => hsp x (by simp [hx]))) (trodAll_cons_mk (adeeds_stay h2 hg (fun x hx => hlt x (by simp [hx])) (fun x hx => hsp x (by simp [hx]))) (trodAll_cons_mk (shut_int Tryz.underlying3 w3) (trodAll_cons_mk (shut_int Tryz.underlying3 w4) (trodAll_cons_mk (op_stay h5 hg (fun x hx => hlt x (by simp [hx])) (fun x hx => hsp x (by simp [hx]))) trodAll_mk0))))))) (fun _ _ => rfl) (by simp) (hg.frame _)⟩

theorem over : Rows.BatchClosedSaid :=
  OpenClaim.holds_of_wide 4 Tryz.f4 rfl rfl rfl rfl rfl rfl rfl ⟨rfl, rfl, rfl, rfl, rfl⟩ rfl rfl rfl rfl rfl (by kernel_rfl) Tryz.func4 (by kernel_rfl)
    (of_decide_eq_true (by kernel_rfl)) (by unfold Func.isWrapper; first | (rw [if_pos (by decide +kernel)]; kernel_rfl) | (rw [if_neg (by decide +kernel)]; exact ⟨rfl, rfl⟩))
    (fun os started H enc _ => lifted os started H enc)

theorem proved : Rows.BatchClosedCardSaid :=
  Claim7.holds_tied_plain_at .later [] [.handle] true (true, "a91206407ffc9ac50704e0f9d15d4c21b102433ee895ea6e11b36374faea923f") true
    over (fun _ h => by cases h) (by kernel_rfl) (fun _ h => by cases h) batchClosed_row_tie rfl ⟨rfl, rfl⟩ (by kernel_rfl) rfl
    (fun f fn hf hfn => by
      obtain rfl : f = 4 := Option.some.inj ((show Tryz.prog.funcNamed "gristmill/gristmillkeep.BatchClosed" = some 4 by kernel_rfl).symm.trans hf) |>.symm
      obtain rfl : fn = Tryz.f4 := (Option.some.inj (Tryz.func4.symm.trans hfn)).symm
      exact ⟨by kernel_rfl, fun j t ht => by
        rw [Tryz.params4] at ht
        have hm : t ∈ [3, 27, 27, 3, 3, 44] := by simpa using Array.mem_of_getElem? ht
        have hall : ([3, 27, 27, 3, 3, 44].all fun u => !Tryz.prog.wantsStandIn u) = true := by kernel_rfl
        exact (show Tryz.prog.wantsStandIn t = false by simpa using List.all_eq_true.1 hall t hm)⟩)
    (by kernel_rfl)
#print axioms proved
end Go.Proofs.YteogbpaaacmllaaGreatDoor.Tab.batchClosed
