/- RecordStays is proved: for every number of a kind, every list of deeds, all numbers of threads and every operation the call returns true (a record stays one: one deed more, the thread's toggle turned; all others' answers, deeds and toggles are as they were). -/
import Derived.Test.YtgkgkiheoadbfabRows
import Derived.Test.YtgkgkiheoadbfabPk07
import Derived.Test.YtgkgkiheoadbfabPk03
import Derived.Deep.DeepCutAuto
import Derived.Deep.RegionHeld3

namespace Go.Proofs.Ytgkgkiheoadbfab.Tab.recordStays
set_option maxRecDepth 20000
open Go.ChangeShapes Go.WideShapes Go.ChangeAt Go.RowKit
set_option linter.unusedVariables false

theorem own : ownKnob Try.prog.godebug = none := by kernel_rfl

set_option maxHeartbeats 8000000 in
set_option maxRecDepth 20000 in
theorem walk (a0 : Int) (v1 : Value) (n1 : Nat) (a2 a3 : Int) (o k x : Int) (w0 : (Lit.int .i64 a0).wf = true) (w2 : (Lit.int .i64 a2).wf = true) (w3 : (Lit.int .i64 a3).wf = true) (wa4 : (Lit.int .i64 o).wf = true) (wb4 : (Lit.int .i64 k).wf = true) (wc4 : (Lit.int .i64 x).wf = true) (w : World) (D : Dds w v1 n1) :
    Calls Try.prog 4 #[.int .i64 a0, v1, .int .i64 a2, .int .i64 a3, .agg #[.int .i64 o, .int .i64 k, .int .i64 x]] w fun e w' => e = .returned (.bool true) ∧ Below w.heap.size w w' := by
  clear w0 w2 w3 wa4 wb4 wc4
  have RC : Hid (∀ w : World, _) := recorded_is
  obtain ⟨kk, h1, h6, hko⟩ := kindOf_is a0
  have KO : Hid _ := hko
  clear hko
  obtain ⟨t, ht4, pt⟩ := pick4_is a2
  have Pt : Hid _ := pt
  clear pt
  obtain ⟨s, hs4, ps⟩ := pick4_is a3
  have Ps : Hid _ := ps
  clear ps
  have D1 : Hid (Dds w v1 n1) := D
  clear D
  have ob3 : Hid (Rt o k x ∨ ¬ Rt o k x) := Classical.em _
  have hM : Hid _ := ((Ms.nil w).born [.int .i64 o, .int .i64 k, .int .i64 x] 35 (b := w.heap.size) rfl)
  have c1 := hM.out.cell 0 0 rfl rfl
  have c2 := hM.out.cell 0 1 rfl rfl
  have c3 := hM.out.cell 0 2 rfl rfl
  go_enter Try.func4, Try.ntmps4
  go_wp2_with fail
  refine (RC.out _).mono ?_
  rintro e W ⟨rfl, hb⟩
  replace hM := hid (hM.out.later hb)
  clear hb
  go_wp2_with fail
  refine (KO.out _).mono ?_
  rintro e ux ⟨rfl, hw⟩
  rw [hw]; clear hw ux
  go_wp2_with fail
  clear c1 c2 c3
  refine (written_is h1 h6 (Dds.later (v := v1) (n := n1) D1.out hM.out.below)).mono ?_
  rintro e W ⟨d, hd, hk, hc, hm, rfl, hb⟩
  replace hM := hid (hM.out.later hb)
  clear hb
  have ID : Hid (isRec d) := hd
  have KD : Hid (d 0 = kk ∧ d 28 ≤ 30) := ⟨hk, hc⟩
  have MD : Hid _ := hm
  clear hd hk hc hm
  generalize hsz : w.heap.size = n at hM ⊢
  clear hsz
  obtain ⟨bx4, hbx4⟩ : ∃ q, q = W.heap.size := ⟨_, rfl⟩
  replace hM := hid (hM.out.bornR rl_zero.symm 26 (b := bx4) hbx4)
  have Hbx4 : Hid _ := hbx4
  clear hbx4
  go_wp2_with (first
    | (rw [← Hbx4.out]; refine sR rfl (hM.out.at 0 rfl) rfl ((rwR wz).len (rwR d)) (rwR d) ?_
       replace hM := hid (hM.out.put 0 rfl (rl d) ((rwR wz).len (rwR d)))
       generalize World.setCells _ _ _ _ = W at hM ⊢))
  refine (Pt.out _).mono ?_
  rintro e W ⟨rfl, hb⟩
  replace hM := hid (hM.out.later hb)
  clear hb
  go_wp2_with fail
  refine (Ps.out _).mono ?_
  rintro e W ⟨rfl, hb⟩
  replace hM := hid (hM.out.later hb)
  clear hb
  rcases ob3.out with hR | hR
  · have DO : Hid (∀ w : World, _) := recDone_yes (o := o) (k := k) (x := x) ID.out.u64 ht4 ID.out hR
    have IQ : Hid (isRec (rdo d t o k x)) := rdo_rec ID.out hR ht4 (by have := KD.out.2; omega)
    have Q28 : Hid (rdo d t o k x 28 = d 28 + 1) := rdo_28
    have RR : Hid (∀ w : World, _) := recRight_is ID.out.u64 (v := true) ⟨fun _ => ID.out, fun _ => rfl⟩
    have RQ : Hid (∀ w : World, _) := recRight_is IQ.out.u64 (v := true) ⟨fun _ => IQ.out, fun _ => rfl⟩
    obtain ⟨c, hc⟩ : ∃ c, d 28 = c := ⟨_, rfl⟩
    obtain ⟨c1, hc1⟩ : ∃ c1, c + 1 = c1 := ⟨_, rfl⟩
    have w1 : IntKind.i64.wrap (c : Int) = (c : Nat) := by have := KD.out.2; rw [IntKind.wrap_i64]; omega
    have w2 : IntKind.i64.wrap ((c : Int) + 1) = (c1 : Nat) := by have := KD.out.2; rw [IntKind.wrap_i64]; omega
    have w3 : IntKind.i64.wrap (c1 : Int) = (c1 : Nat) := by have := KD.out.2; rw [IntKind.wrap_i64]; omega
    have C0 : Hid (d 28 = c) := hc
    obtain ⟨xa, xb, AQ⟩ : ∃ xa xb : Int, Hid (∀ w : World, Calls Try.prog 14 #[.agg (rl (rdo d t o k x)).toArray, .int .i64 (t : Nat)] w fun e w' => e = .returned (.tuple #[.agg #[.int .i64 xa, .int .i64 xb], .int .i64 (c1 : Nat), .nilIface]) ∧ Below w.heap.size w w') := by
      have ha : Aw (rdo d t o k x (18 + t)) := by rw [rdo_a ht4]; exact aw_ans (odo_ft ID.out.1 hR)
      refine ⟨((rdo d t o k x (18 + t) / 4294967296 : Nat) : Int), ((rdo d t o k x (18 + t) % 4294967296 : Nat) : Int), fun w => ?_⟩
      have h := recAnswer_yes IQ.out.u64 ht4 ha w
      rw [rdo_w ht4, hc, hc1, w3] at h
      exact h
    obtain ⟨b, hb⟩ : ∃ b, (d 26).testBit t = b := ⟨_, rfl⟩
    have TQ : Hid (∀ w : World, Calls Try.prog 15 #[.agg (rl (rdo d t o k x)).toArray, .int .i64 (t : Nat)] w fun e w' => e = .returned (.int .i64 ((!b).toNat : Nat)) ∧ Below w.heap.size w w') := fun w => by
      have h := toggle_yes (rdo d t o k x) ht4 (IQ.out.u64 26 (by decide)) w
      rw [rdo_26, Nat.testBit_xor, Nat.testBit_two_pow_self, hb, Bool.xor_true] at h
      exact h
    have TD : Hid (∀ w : World, Calls Try.prog 15 #[.agg (rl d).toArray, .int .i64 (t : Nat)] w fun e w' => e = .returned (.int .i64 (b.toNat : Nat)) ∧ Below w.heap.size w w') := fun w => by
      have h := toggle_yes d ht4 (ID.out.u64 26 (by decide)) w
      rw [hb] at h
      exact h
    clear hb
    have hbq : (((!b).toNat : Nat) : Int) ≠ ((b.toNat : Nat) : Int) := by cases b <;> decide
    have hbe : ((((!b).toNat : Nat) : Int) == ((b.toNat : Nat) : Int)) = false := by cases b <;> rfl
    generalize hz1 : (!b).toNat = b1 at *
    generalize hz2 : b.toNat = b2 at *
    clear hz1 hz2
    by_cases hts : s = t
    · subst hts
      have es : ((s : Int) == (s : Int)) = true := by simp
      obtain ⟨ya, yb, yk, ye, AR⟩ : ∃ (ya yb yk : Int) (ye : Value), Hid (∀ w : World, Calls Try.prog 14 #[.agg (rl d).toArray, .int .i64 (s : Nat)] w fun e w' => e = .returned (.tuple #[.agg #[.int .i64 ya, .int .i64 yb], .int .i64 yk, ye]) ∧ Below w.heap.size w w') := by
        by_cases ha : Aw (d (18 + s))
        · exact ⟨_, _, _, _, fun w => recAnswer_yes ID.out.u64 hs4 ha w⟩
        · exact ⟨_, _, _, _, fun w => recAnswer_none ID.out.u64 hs4 ha w⟩
      have AS : Hid _ := AQ.out
      generalize rdo d s o k x = dq at *
      clear hR h1 h6 hs4 hc hc1
      have c5 := hM.out.cell 1 0 rfl rfl
      have c6 := hM.out.cell 1 1 rfl rfl
      have c7 := hM.out.cell 1 2 rfl rfl
      go_wp2_with (first
        | (refine lR rfl (hM.out.at 0 rfl) rfl (rwR d) ?_))
      clear c5 c6 c7
      refine (DO.out _).mono ?_
      rintro e W ⟨rfl, hb⟩
      replace hM := hid (hM.out.later hb)
      clear hb
      obtain ⟨bx8, hbx8⟩ : ∃ q, q = W.heap.size := ⟨_, rfl⟩
      replace hM := hid (hM.out.bornR rl_zero.symm 26 (b := bx8) hbx8)
      have Hbx8 : Hid _ := hbx8
      clear hbx8
      go_wp2_with (first
        | (rw [← Hbx8.out]; refine sR rfl (hM.out.at 0 rfl) rfl ((rwR wz).len (rwR dq)) (rwR dq) ?_
           replace hM := hid (hM.out.put 0 rfl (rl dq) ((rwR wz).len (rwR dq)))
           generalize World.setCells _ _ _ _ = W at hM ⊢)
        | (refine lR rfl (hM.out.at 0 rfl) rfl (rwR dq) ?_))
      refine (AQ.out _).mono ?_
      rintro e W ⟨rfl, hb⟩
      replace hM := hid (hM.out.later hb)
      clear hb
      obtain ⟨bx9, hbx9⟩ : ∃ q, q = W.heap.size := ⟨_, rfl⟩
      replace hM := hid (hM.out.born [.int .i64 0, .int .i64 0] 42 (b := bx9) hbx9)
      have Hbx9 : Hid _ := hbx9
      clear hbx9
      go_wp2_with (first
        | (rw [← Hbx9.out]; refine sR rfl (hM.out.at 0 rfl) rfl ((rwA 0 0).len (rwA xa xb)) (rwA xa xb) ?_
           replace hM := hid (hM.out.put 0 rfl [.int .i64 xa, .int .i64 xb] ((rwA 0 0).len (rwA xa xb)))
           generalize World.setCells _ _ _ _ = W at hM ⊢)
        | (refine lR rfl (hM.out.at 2 rfl) rfl (rwR d) ?_))
      refine (AR.out _).mono ?_
      rintro e W ⟨rfl, hb⟩
      replace hM := hid (hM.out.later hb)
      clear hb
      obtain ⟨bx10, hbx10⟩ : ∃ q, q = W.heap.size := ⟨_, rfl⟩
      replace hM := hid (hM.out.born [.int .i64 0, .int .i64 0] 42 (b := bx10) hbx10)
      have Hbx10 : Hid _ := hbx10
      clear hbx10
      go_wp2_with (first
        | (rw [← Hbx10.out]; refine sR rfl (hM.out.at 0 rfl) rfl ((rwA 0 0).len (rwA ya yb)) (rwA ya yb) ?_
           replace hM := hid (hM.out.put 0 rfl [.int .i64 ya, .int .i64 yb] ((rwA 0 0).len (rwA ya yb)))
           generalize World.setCells _ _ _ _ = W at hM ⊢)
        | (refine lR rfl (hM.out.at 2 rfl) rfl (rwR dq) ?_))
      refine (AS.out _).mono ?_
      rintro e W ⟨rfl, hb⟩
      replace hM := hid (hM.out.later hb)
      clear hb
      obtain ⟨bx11, hbx11⟩ : ∃ q, q = W.heap.size := ⟨_, rfl⟩
      replace hM := hid (hM.out.born [.int .i64 0, .int .i64 0] 42 (b := bx11) hbx11)
      have Hbx11 : Hid _ := hbx11
      clear hbx11
      go_wp2_with (first
        | (rw [← Hbx11.out]; refine sR rfl (hM.out.at 0 rfl) rfl ((rwA 0 0).len (rwA xa xb)) (rwA xa xb) ?_
           replace hM := hid (hM.out.put 0 rfl [.int .i64 xa, .int .i64 xb] ((rwA 0 0).len (rwA xa xb)))
           generalize World.setCells _ _ _ _ = W at hM ⊢))
      go_cut [98] (fun s98 wx => s98 = .bool false ∧ Hid (Ms n w wx [(bx4, (rl d)), (bx8, (rl dq)), (bx10, [.int .i64 ya, .int .i64 yb]), (bx11, [.int .i64 xa, .int .i64 xb])] []))
      case first =>
        replace hM := hid (hM.out.drew)
        refine wp_region_held_drew (S := fun w' => Bo w' bx4 (rl d) ∧ Bo w' bx8 (rl dq)) (by kernel_rfl) ⟨hM.out.at 4 rfl, hM.out.at 3 rfl⟩ (fun hH => ?_)
        generalize World.drew _ = W at hM hH  ⊢
        refine tkR 0 rfl hH (fun _ h => h.1) (rwR d) ?_
        simp only [Act.put, p1, p2, p3]
        refine rd1 1 rfl (fun K hK => ?_)
        go_simp
        refine (RR.out _).mono ?_
        rintro e W ⟨rfl, hb⟩
        replace hM := hid (hM.out.later hb)
        clear hb
        go_wp2_with fail
        refine hK.out _ _ ⟨hM.out.at 4 rfl, hM.out.at 3 rfl⟩ (fun hH => ?_)
        clear hK K
        try simp only [Act.put, p1, p2, p3]
        refine tk 2 rfl hH ?_
        simp only [Act.put, p1, p2, p3]
        refine tk 3 rfl hH ?_
        simp only [Act.put, p1, p2, p3]
        refine tkR 4 rfl hH (fun _ h => h.2) (rwR dq) ?_
        simp only [Act.put, p1, p2, p3]
        refine rd1 5 rfl (fun K hK => ?_)
        go_simp
        refine (RQ.out _).mono ?_
        rintro e W ⟨rfl, hb⟩
        replace hM := hid (hM.out.later hb)
        clear hb
        go_wp2_with fail
        refine hK.out _ _ ⟨hM.out.at 4 rfl, hM.out.at 3 rfl⟩ (fun hH => ?_)
        clear hK K
        try simp only [Act.put, p1, p2, p3]
        refine tk 6 rfl hH ?_
        simp only [Act.put, p1, p2, p3]
        refine tk 7 rfl hH ?_
        simp only [Act.put, p1, p2, p3]
        refine tk 8 rfl hH ?_
        simp only [Act.put, p1, p2, p3]
        refine tk 9 rfl hH ?_
        simp only [Act.put, p1, p2, p3]
        refine tk 10 rfl hH ?_
        simp only [Act.put, p1, p2, p3]
        refine tk 11 rfl hH ?_
        simp only [Act.put, p1, p2, p3]
        refine tk 12 rfl hH ?_
        simp only [Act.put, p1, p2, p3]
        refine tk 13 rfl hH ?_
        simp only [Act.put, p1, p2, p3]
        refine tk 14 rfl hH ?_
        simp only [Act.put, p1, p2, p3]
        refine tk 15 rfl hH ?_ (by intro w h; have c0 := h.1.rwordx (show 28 < 32 by decide) C0.out; clear h; go_simp; try with_reducible rfl)
        simp only [Act.put, p1, p2, p3]
        refine tk 16 rfl hH ?_
        simp only [Act.put, p1, p2, p3]
        refine tk 17 rfl hH ?_
        simp only [Act.put, p1, p2, p3]
        refine tk 18 rfl hH ?_
        simp only [Act.put, p1, p2, p3]
        refine tk 19 rfl hH ?_
        simp only [Act.put, p1, p2, p3]
        refine tk 20 rfl hH ?_
        simp only [Act.put, p1, p2, p3]
        refine tkR 21 rfl hH (fun _ h => h.2) (rwR dq) ?_
        simp only [Act.put, p1, p2, p3]
        refine tk 22 rfl hH ?_
        simp only [Act.put, p1, p2, p3]
        refine tkR 24 rfl hH (fun _ h => h.1) (rwR d) ?_
        simp only [Act.put, p1, p2, p3]
        refine tk 25 rfl hH ?_
        simp only [Act.put, p1, p2, p3]
        refine rd1 23 rfl (fun K hK => ?_)
        go_simp
        refine (TQ.out _).mono ?_
        rintro e W ⟨rfl, hb⟩
        replace hM := hid (hM.out.later hb)
        clear hb
        go_wp2_with fail
        refine hK.out _ _ ⟨hM.out.at 4 rfl, hM.out.at 3 rfl⟩ (fun hH => ?_)
        clear hK K
        try simp only [Act.put, p1, p2, p3]
        refine rd1 26 rfl (fun K hK => ?_)
        go_simp
        refine (TD.out _).mono ?_
        rintro e W ⟨rfl, hb⟩
        replace hM := hid (hM.out.later hb)
        clear hb
        go_wp2_with fail
        refine hK.out _ _ ⟨hM.out.at 4 rfl, hM.out.at 3 rfl⟩ (fun hH => ?_)
        clear hK K
        try simp only [Act.put, p1, p2, p3]
        refine tk 27 rfl hH ?_
        simp only [Act.put, p1, p2, p3]
        refine tk 28 rfl hH ?_
        simp only [Act.put, p1, p2, p3]
        refine wpAnyH_done (by kernel_rfl) ?_ _
        go_wp2_with fail
        go_meet
        case rel => exact ⟨rfl, (hM.out.pick [4, 3, 1, 0]).pickL []⟩
      case rest =>
        obtain ⟨rfl, hM⟩ := hcut
        generalize wc = W at hM ⊢
        go_wp2_with fail
        replace hM := hid (hM.out.drew)
        refine wp_region_held_drew (S := fun w' => Bo w' bx4 (rl d) ∧ Bo w' bx8 (rl dq)) (by kernel_rfl) ⟨hM.out.at 0 rfl, hM.out.at 1 rfl⟩ (fun hH => ?_)
        generalize World.drew _ = W at hM hH  ⊢
        refine tk 0 rfl hH ?_
        simp only [Act.put, p1, p2, p3]
        refine tk 1 rfl hH ?_
        simp only [Act.put, p1, p2, p3]
        refine tk 2 rfl hH ?_
        simp only [Act.put, p1, p2, p3]
        refine tk 3 rfl hH ?_
        simp only [Act.put, p1, p2, p3]
        refine tkN 4 rfl hH ?_
        simp only [Act.put, p1, p2, p3]
        refine tkN 5 rfl hH ?_
        simp only [Act.put, p1, p2, p3]
        refine tkN 6 rfl hH ?_
        simp only [Act.put, p1, p2, p3]
        refine tkN 7 rfl hH ?_
        simp only [Act.put, p1, p2, p3]
        refine tkN 8 rfl hH ?_
        simp only [Act.put, p1, p2, p3]
        refine tkN 9 rfl hH ?_
        simp only [Act.put, p1, p2, p3]
        refine tkN 10 rfl hH ?_
        simp only [Act.put, p1, p2, p3]
        refine tkN 11 rfl hH ?_
        simp only [Act.put, p1, p2, p3]
        refine tkN 12 rfl hH ?_
        simp only [Act.put, p1, p2, p3]
        refine tkN 13 rfl hH ?_
        simp only [Act.put, p1, p2, p3]
        refine tkN 14 rfl hH ?_
        simp only [Act.put, p1, p2, p3]
        refine tkN 15 rfl hH ?_
        simp only [Act.put, p1, p2, p3]
        refine tkN 16 rfl hH ?_
        simp only [Act.put, p1, p2, p3]
        refine tkN 17 rfl hH ?_
        simp only [Act.put, p1, p2, p3]
        refine tkN 18 rfl hH ?_
        simp only [Act.put, p1, p2, p3]
        refine tkN 19 rfl hH ?_
        simp only [Act.put, p1, p2, p3]
        refine tkN 20 rfl hH ?_
        simp only [Act.put, p1, p2, p3]
        refine tkN 21 rfl hH ?_
        simp only [Act.put, p1, p2, p3]
        refine tkN 22 rfl hH ?_
        simp only [Act.put, p1, p2, p3]
        refine tkN 23 rfl hH ?_
        simp only [Act.put, p1, p2, p3]
        refine tkN 24 rfl hH ?_
        simp only [Act.put, p1, p2, p3]
        refine tkN 25 rfl hH ?_
        simp only [Act.put, p1, p2, p3]
        refine tkN 26 rfl hH ?_
        simp only [Act.put, p1, p2, p3]
        refine tkN 27 rfl hH ?_
        simp only [Act.put, p1, p2, p3]
        refine tk 28 rfl hH ?_
        simp only [Act.put, p1, p2, p3]
        refine tk 29 rfl hH ?_
        simp only [Act.put, p1, p2, p3]
        refine wpAnyH_done (by kernel_rfl) ?_ _
        go_wp2
        go_ret
        exact ⟨rfl, hM.out.below⟩
    · by_cases ha : Aw (d (18 + s))
      · have es : ((s : Int) == (t : Int)) = false := by simp; omega
        have ns : (s : Int) ≠ (t : Int) := by omega
        have e18 : rdo d t o k x (18 + s) = d (18 + s) := rdo_a' hs4 ht4 hts
        have e22 : rdo d t o k x (22 + s) = d (22 + s) := rdo_w' hs4 ht4 hts
        have e26 : (rdo d t o k x 26).testBit s = (d 26).testBit s := by rw [rdo_26, Nat.testBit_xor, Nat.testBit_two_pow_of_ne (fun h => hts h.symm), Bool.xor_false]
        obtain ⟨g, SQ, SD⟩ : ∃ g : Nat, Hid (∀ w : World, Calls Try.prog 15 #[.agg (rl (rdo d t o k x)).toArray, .int .i64 (s : Nat)] w fun e w' => e = .returned (.int .i64 (g : Nat)) ∧ Below w.heap.size w w') ∧ Hid (∀ w : World, Calls Try.prog 15 #[.agg (rl d).toArray, .int .i64 (s : Nat)] w fun e w' => e = .returned (.int .i64 (g : Nat)) ∧ Below w.heap.size w w') :=
          ⟨_, fun w => by have h := toggle_yes (rdo d t o k x) hs4 (IQ.out.u64 26 (by decide)) w; rw [e26] at h; exact h, fun w => toggle_yes d hs4 (ID.out.u64 26 (by decide)) w⟩
        obtain ⟨ya, yb, yk, AR, AS⟩ : ∃ ya yb yk : Int, Hid (∀ w : World, Calls Try.prog 14 #[.agg (rl d).toArray, .int .i64 (s : Nat)] w fun e w' => e = .returned (.tuple #[.agg #[.int .i64 ya, .int .i64 yb], .int .i64 yk, .nilIface]) ∧ Below w.heap.size w w') ∧ Hid (∀ w : World, Calls Try.prog 14 #[.agg (rl (rdo d t o k x)).toArray, .int .i64 (s : Nat)] w fun e w' => e = .returned (.tuple #[.agg #[.int .i64 ya, .int .i64 yb], .int .i64 yk, .nilIface]) ∧ Below w.heap.size w w') :=
          ⟨_, _, _, fun w => recAnswer_yes ID.out.u64 hs4 ha w, fun w => by have h := recAnswer_yes IQ.out.u64 hs4 (e18 ▸ ha) w; rw [e18, e22] at h; exact h⟩
        clear e18 e22 e26 ha hts
        generalize rdo d t o k x = dq at *
        clear hR h1 h6 hs4 ht4 hc hc1
        have c5 := hM.out.cell 1 0 rfl rfl
        have c6 := hM.out.cell 1 1 rfl rfl
        have c7 := hM.out.cell 1 2 rfl rfl
        go_wp2_with (first
          | (refine lR rfl (hM.out.at 0 rfl) rfl (rwR d) ?_))
        clear c5 c6 c7
        refine (DO.out _).mono ?_
        rintro e W ⟨rfl, hb⟩
        replace hM := hid (hM.out.later hb)
        clear hb
        obtain ⟨bx8, hbx8⟩ : ∃ q, q = W.heap.size := ⟨_, rfl⟩
        replace hM := hid (hM.out.bornR rl_zero.symm 26 (b := bx8) hbx8)
        have Hbx8 : Hid _ := hbx8
        clear hbx8
        go_wp2_with (first
          | (rw [← Hbx8.out]; refine sR rfl (hM.out.at 0 rfl) rfl ((rwR wz).len (rwR dq)) (rwR dq) ?_
             replace hM := hid (hM.out.put 0 rfl (rl dq) ((rwR wz).len (rwR dq)))
             generalize World.setCells _ _ _ _ = W at hM ⊢)
          | (refine lR rfl (hM.out.at 0 rfl) rfl (rwR dq) ?_))
        refine (AQ.out _).mono ?_
        rintro e W ⟨rfl, hb⟩
        replace hM := hid (hM.out.later hb)
        clear hb
        obtain ⟨bx9, hbx9⟩ : ∃ q, q = W.heap.size := ⟨_, rfl⟩
        replace hM := hid (hM.out.born [.int .i64 0, .int .i64 0] 42 (b := bx9) hbx9)
        have Hbx9 : Hid _ := hbx9
        clear hbx9
        go_wp2_with (first
          | (rw [← Hbx9.out]; refine sR rfl (hM.out.at 0 rfl) rfl ((rwA 0 0).len (rwA xa xb)) (rwA xa xb) ?_
             replace hM := hid (hM.out.put 0 rfl [.int .i64 xa, .int .i64 xb] ((rwA 0 0).len (rwA xa xb)))
             generalize World.setCells _ _ _ _ = W at hM ⊢)
          | (refine lR rfl (hM.out.at 2 rfl) rfl (rwR d) ?_))
        refine (AR.out _).mono ?_
        rintro e W ⟨rfl, hb⟩
        replace hM := hid (hM.out.later hb)
        clear hb
        obtain ⟨bx10, hbx10⟩ : ∃ q, q = W.heap.size := ⟨_, rfl⟩
        replace hM := hid (hM.out.born [.int .i64 0, .int .i64 0] 42 (b := bx10) hbx10)
        have Hbx10 : Hid _ := hbx10
        clear hbx10
        go_wp2_with (first
          | (rw [← Hbx10.out]; refine sR rfl (hM.out.at 0 rfl) rfl ((rwA 0 0).len (rwA ya yb)) (rwA ya yb) ?_
             replace hM := hid (hM.out.put 0 rfl [.int .i64 ya, .int .i64 yb] ((rwA 0 0).len (rwA ya yb)))
             generalize World.setCells _ _ _ _ = W at hM ⊢)
          | (refine lR rfl (hM.out.at 2 rfl) rfl (rwR dq) ?_))
        refine (AS.out _).mono ?_
        rintro e W ⟨rfl, hb⟩
        replace hM := hid (hM.out.later hb)
        clear hb
        obtain ⟨bx11, hbx11⟩ : ∃ q, q = W.heap.size := ⟨_, rfl⟩
        replace hM := hid (hM.out.born [.int .i64 0, .int .i64 0] 42 (b := bx11) hbx11)
        have Hbx11 : Hid _ := hbx11
        clear hbx11
        go_wp2_with (first
          | (rw [← Hbx11.out]; refine sR rfl (hM.out.at 0 rfl) rfl ((rwA 0 0).len (rwA ya yb)) (rwA ya yb) ?_
             replace hM := hid (hM.out.put 0 rfl [.int .i64 ya, .int .i64 yb] ((rwA 0 0).len (rwA ya yb)))
             generalize World.setCells _ _ _ _ = W at hM ⊢))
        go_cut [98] (fun s98 wx => s98 = .bool false ∧ Hid (Ms n w wx [(bx4, (rl d)), (bx8, (rl dq)), (bx10, [.int .i64 ya, .int .i64 yb]), (bx11, [.int .i64 ya, .int .i64 yb])] []))
        case first =>
          replace hM := hid (hM.out.drew)
          refine wp_region_held_drew (S := fun w' => Bo w' bx4 (rl d) ∧ Bo w' bx8 (rl dq)) (by kernel_rfl) ⟨hM.out.at 4 rfl, hM.out.at 3 rfl⟩ (fun hH => ?_)
          generalize World.drew _ = W at hM hH  ⊢
          refine tkR 0 rfl hH (fun _ h => h.1) (rwR d) ?_
          simp only [Act.put, p1, p2, p3]
          refine rd1 1 rfl (fun K hK => ?_)
          go_simp
          refine (RR.out _).mono ?_
          rintro e W ⟨rfl, hb⟩
          replace hM := hid (hM.out.later hb)
          clear hb
          go_wp2_with fail
          refine hK.out _ _ ⟨hM.out.at 4 rfl, hM.out.at 3 rfl⟩ (fun hH => ?_)
          clear hK K
          try simp only [Act.put, p1, p2, p3]
          refine tk 2 rfl hH ?_
          simp only [Act.put, p1, p2, p3]
          refine tk 3 rfl hH ?_
          simp only [Act.put, p1, p2, p3]
          refine tkR 4 rfl hH (fun _ h => h.2) (rwR dq) ?_
          simp only [Act.put, p1, p2, p3]
          refine rd1 5 rfl (fun K hK => ?_)
          go_simp
          refine (RQ.out _).mono ?_
          rintro e W ⟨rfl, hb⟩
          replace hM := hid (hM.out.later hb)
          clear hb
          go_wp2_with fail
          refine hK.out _ _ ⟨hM.out.at 4 rfl, hM.out.at 3 rfl⟩ (fun hH => ?_)
          clear hK K
          try simp only [Act.put, p1, p2, p3]
          refine tk 6 rfl hH ?_
          simp only [Act.put, p1, p2, p3]
          refine tk 7 rfl hH ?_
          simp only [Act.put, p1, p2, p3]
          refine tk 8 rfl hH ?_
          simp only [Act.put, p1, p2, p3]
          refine tk 9 rfl hH ?_
          simp only [Act.put, p1, p2, p3]
          refine tk 10 rfl hH ?_
          simp only [Act.put, p1, p2, p3]
          refine tk 11 rfl hH ?_
          simp only [Act.put, p1, p2, p3]
          refine tk 12 rfl hH ?_
          simp only [Act.put, p1, p2, p3]
          refine tk 13 rfl hH ?_
          simp only [Act.put, p1, p2, p3]
          refine tk 14 rfl hH ?_
          simp only [Act.put, p1, p2, p3]
          refine tk 15 rfl hH ?_ (by intro w h; have c0 := h.1.rwordx (show 28 < 32 by decide) C0.out; clear h; go_simp; try with_reducible rfl)
          simp only [Act.put, p1, p2, p3]
          refine tk 16 rfl hH ?_
          simp only [Act.put, p1, p2, p3]
          refine tk 17 rfl hH ?_
          simp only [Act.put, p1, p2, p3]
          refine tk 18 rfl hH ?_
          simp only [Act.put, p1, p2, p3]
          refine tk 19 rfl hH ?_
          simp only [Act.put, p1, p2, p3]
          refine tk 20 rfl hH ?_
          simp only [Act.put, p1, p2, p3]
          refine tkR 21 rfl hH (fun _ h => h.2) (rwR dq) ?_
          simp only [Act.put, p1, p2, p3]
          refine tk 22 rfl hH ?_
          simp only [Act.put, p1, p2, p3]
          refine tkR 24 rfl hH (fun _ h => h.1) (rwR d) ?_
          simp only [Act.put, p1, p2, p3]
          refine tk 25 rfl hH ?_
          simp only [Act.put, p1, p2, p3]
          refine rd1 23 rfl (fun K hK => ?_)
          go_simp
          refine (TQ.out _).mono ?_
          rintro e W ⟨rfl, hb⟩
          replace hM := hid (hM.out.later hb)
          clear hb
          go_wp2_with fail
          refine hK.out _ _ ⟨hM.out.at 4 rfl, hM.out.at 3 rfl⟩ (fun hH => ?_)
          clear hK K
          try simp only [Act.put, p1, p2, p3]
          refine rd1 26 rfl (fun K hK => ?_)
          go_simp
          refine (TD.out _).mono ?_
          rintro e W ⟨rfl, hb⟩
          replace hM := hid (hM.out.later hb)
          clear hb
          go_wp2_with fail
          refine hK.out _ _ ⟨hM.out.at 4 rfl, hM.out.at 3 rfl⟩ (fun hH => ?_)
          clear hK K
          try simp only [Act.put, p1, p2, p3]
          refine tk 27 rfl hH ?_
          simp only [Act.put, p1, p2, p3]
          refine tk 28 rfl hH ?_
          simp only [Act.put, p1, p2, p3]
          refine wpAnyH_done (by kernel_rfl) ?_ _
          go_wp2_with fail
          go_meet
          case rel => exact ⟨rfl, (hM.out.pick [4, 3, 1, 0]).pickL []⟩
        case rest =>
          obtain ⟨rfl, hM⟩ := hcut
          generalize wc = W at hM ⊢
          go_wp2_with fail
          replace hM := hid (hM.out.drew)
          refine wp_region_held_drew (S := fun w' => Bo w' bx4 (rl d) ∧ Bo w' bx8 (rl dq) ∧ Bo w' bx10 [.int .i64 ya, .int .i64 yb] ∧ Bo w' bx11 [.int .i64 ya, .int .i64 yb]) (by kernel_rfl) ⟨hM.out.at 0 rfl, hM.out.at 1 rfl, hM.out.at 2 rfl, hM.out.at 3 rfl⟩ (fun hH => ?_)
          generalize World.drew _ = W at hM hH  ⊢
          refine tk 0 rfl hH ?_
          simp only [Act.put, p1, p2, p3]
          refine tk 1 rfl hH ?_
          simp only [Act.put, p1, p2, p3]
          refine tk 2 rfl hH ?_
          simp only [Act.put, p1, p2, p3]
          refine tk 3 rfl hH ?_
          simp only [Act.put, p1, p2, p3]
          refine tk 4 rfl hH ?_ (by intro w h; have c0 := h.2.2.1.at 0 rfl; have c1 := h.2.2.1.at 1 rfl; clear h; go_simp; try with_reducible rfl)
          simp only [Act.put, p1, p2, p3]
          refine tk 5 rfl hH ?_ (by intro w h; have c0 := h.2.2.2.at 0 rfl; have c1 := h.2.2.2.at 1 rfl; clear h; go_simp; try with_reducible rfl)
          simp only [Act.put, p1, p2, p3]
          refine tk 6 rfl hH ?_
          simp only [Act.put, p1, p2, p3]
          refine tk 7 rfl hH ?_
          simp only [Act.put, p1, p2, p3]
          refine tk 8 rfl hH ?_
          simp only [Act.put, p1, p2, p3]
          refine tk 9 rfl hH ?_
          simp only [Act.put, p1, p2, p3]
          refine tk 10 rfl hH ?_
          simp only [Act.put, p1, p2, p3]
          refine tk 11 rfl hH ?_
          simp only [Act.put, p1, p2, p3]
          refine tk 12 rfl hH ?_
          simp only [Act.put, p1, p2, p3]
          refine tk 13 rfl hH ?_
          simp only [Act.put, p1, p2, p3]
          refine tk 14 rfl hH ?_
          simp only [Act.put, p1, p2, p3]
          refine tk 15 rfl hH ?_
          simp only [Act.put, p1, p2, p3]
          refine tk 16 rfl hH ?_
          simp only [Act.put, p1, p2, p3]
          refine tk 17 rfl hH ?_
          simp only [Act.put, p1, p2, p3]
          refine tk 18 rfl hH ?_
          simp only [Act.put, p1, p2, p3]
          refine tk 19 rfl hH ?_
          simp only [Act.put, p1, p2, p3]
          refine tkR 20 rfl hH (fun _ h => h.2.1) (rwR dq) ?_
          simp only [Act.put, p1, p2, p3]
          refine tk 21 rfl hH ?_
          simp only [Act.put, p1, p2, p3]
          refine tkR 23 rfl hH (fun _ h => h.1) (rwR d) ?_
          simp only [Act.put, p1, p2, p3]
          refine tk 24 rfl hH ?_
          simp only [Act.put, p1, p2, p3]
          refine rd1 22 rfl (fun K hK => ?_)
          go_simp
          refine (SQ.out _).mono ?_
          rintro e W ⟨rfl, hb⟩
          replace hM := hid (hM.out.later hb)
          clear hb
          go_wp2_with fail
          refine hK.out _ _ ⟨hM.out.at 0 rfl, hM.out.at 1 rfl, hM.out.at 2 rfl, hM.out.at 3 rfl⟩ (fun hH => ?_)
          clear hK K
          try simp only [Act.put, p1, p2, p3]
          refine rd1 25 rfl (fun K hK => ?_)
          go_simp
          refine (SD.out _).mono ?_
          rintro e W ⟨rfl, hb⟩
          replace hM := hid (hM.out.later hb)
          clear hb
          go_wp2_with fail
          refine hK.out _ _ ⟨hM.out.at 0 rfl, hM.out.at 1 rfl, hM.out.at 2 rfl, hM.out.at 3 rfl⟩ (fun hH => ?_)
          clear hK K
          try simp only [Act.put, p1, p2, p3]
          refine tk 26 rfl hH ?_
          simp only [Act.put, p1, p2, p3]
          refine tk 27 rfl hH ?_
          simp only [Act.put, p1, p2, p3]
          refine tk 28 rfl hH ?_
          simp only [Act.put, p1, p2, p3]
          refine tk 29 rfl hH ?_
          simp only [Act.put, p1, p2, p3]
          refine wpAnyH_done (by kernel_rfl) ?_ _
          go_wp2
          go_ret
          exact ⟨rfl, hM.out.below⟩
      · have es : ((s : Int) == (t : Int)) = false := by simp; omega
        have ns : (s : Int) ≠ (t : Int) := by omega
        have e18 : rdo d t o k x (18 + s) = d (18 + s) := rdo_a' hs4 ht4 hts
        have e22 : rdo d t o k x (22 + s) = d (22 + s) := rdo_w' hs4 ht4 hts
        have e26 : (rdo d t o k x 26).testBit s = (d 26).testBit s := by rw [rdo_26, Nat.testBit_xor, Nat.testBit_two_pow_of_ne (fun h => hts h.symm), Bool.xor_false]
        obtain ⟨g, SQ, SD⟩ : ∃ g : Nat, Hid (∀ w : World, Calls Try.prog 15 #[.agg (rl (rdo d t o k x)).toArray, .int .i64 (s : Nat)] w fun e w' => e = .returned (.int .i64 (g : Nat)) ∧ Below w.heap.size w w') ∧ Hid (∀ w : World, Calls Try.prog 15 #[.agg (rl d).toArray, .int .i64 (s : Nat)] w fun e w' => e = .returned (.int .i64 (g : Nat)) ∧ Below w.heap.size w w') :=
          ⟨_, fun w => by have h := toggle_yes (rdo d t o k x) hs4 (IQ.out.u64 26 (by decide)) w; rw [e26] at h; exact h, fun w => toggle_yes d hs4 (ID.out.u64 26 (by decide)) w⟩
        have AR : Hid (∀ w : World, _) := fun w => recAnswer_none ID.out.u64 hs4 ha w
        have AS : Hid (∀ w : World, _) := fun w => recAnswer_none IQ.out.u64 hs4 (by rw [e18]; exact ha) w
        clear e18 e22 e26 ha hts
        generalize rdo d t o k x = dq at *
        clear hR h1 h6 hs4 ht4 hc hc1
        have c5 := hM.out.cell 1 0 rfl rfl
        have c6 := hM.out.cell 1 1 rfl rfl
        have c7 := hM.out.cell 1 2 rfl rfl
        go_wp2_with (first
          | (refine lR rfl (hM.out.at 0 rfl) rfl (rwR d) ?_))
        clear c5 c6 c7
        refine (DO.out _).mono ?_
        rintro e W ⟨rfl, hb⟩
        replace hM := hid (hM.out.later hb)
        clear hb
        obtain ⟨bx8, hbx8⟩ : ∃ q, q = W.heap.size := ⟨_, rfl⟩
        replace hM := hid (hM.out.bornR rl_zero.symm 26 (b := bx8) hbx8)
        have Hbx8 : Hid _ := hbx8
        clear hbx8
        go_wp2_with (first
          | (rw [← Hbx8.out]; refine sR rfl (hM.out.at 0 rfl) rfl ((rwR wz).len (rwR dq)) (rwR dq) ?_
             replace hM := hid (hM.out.put 0 rfl (rl dq) ((rwR wz).len (rwR dq)))
             generalize World.setCells _ _ _ _ = W at hM ⊢)
          | (refine lR rfl (hM.out.at 0 rfl) rfl (rwR dq) ?_))
        refine (AQ.out _).mono ?_
        rintro e W ⟨rfl, hb⟩
        replace hM := hid (hM.out.later hb)
        clear hb
        obtain ⟨bx9, hbx9⟩ : ∃ q, q = W.heap.size := ⟨_, rfl⟩
        replace hM := hid (hM.out.born [.int .i64 0, .int .i64 0] 42 (b := bx9) hbx9)
        have Hbx9 : Hid _ := hbx9
        clear hbx9
        go_wp2_with (first
          | (rw [← Hbx9.out]; refine sR rfl (hM.out.at 0 rfl) rfl ((rwA 0 0).len (rwA xa xb)) (rwA xa xb) ?_
             replace hM := hid (hM.out.put 0 rfl [.int .i64 xa, .int .i64 xb] ((rwA 0 0).len (rwA xa xb)))
             generalize World.setCells _ _ _ _ = W at hM ⊢)
          | (refine lR rfl (hM.out.at 2 rfl) rfl (rwR d) ?_))
        refine (AR.out _).mono ?_
        rintro e W ⟨rfl, hb⟩
        replace hM := hid (hM.out.later hb)
        clear hb
        obtain ⟨bx10, hbx10⟩ : ∃ q, q = W.heap.size := ⟨_, rfl⟩
        replace hM := hid (hM.out.born [.int .i64 0, .int .i64 0] 42 (b := bx10) hbx10)
        have Hbx10 : Hid _ := hbx10
        clear hbx10
        go_wp2_with (first
          | (rw [← Hbx10.out]; refine sR rfl (hM.out.at 0 rfl) rfl ((rwA 0 0).len (rwA 0 0)) (rwA 0 0) ?_
             replace hM := hid (hM.out.put 0 rfl [.int .i64 0, .int .i64 0] ((rwA 0 0).len (rwA 0 0)))
             generalize World.setCells _ _ _ _ = W at hM ⊢)
          | (refine lR rfl (hM.out.at 2 rfl) rfl (rwR dq) ?_))
        refine (AS.out _).mono ?_
        rintro e W ⟨rfl, hb⟩
        replace hM := hid (hM.out.later hb)
        clear hb
        obtain ⟨bx11, hbx11⟩ : ∃ q, q = W.heap.size := ⟨_, rfl⟩
        replace hM := hid (hM.out.born [.int .i64 0, .int .i64 0] 42 (b := bx11) hbx11)
        have Hbx11 : Hid _ := hbx11
        clear hbx11
        go_wp2_with (first
          | (rw [← Hbx11.out]; refine sR rfl (hM.out.at 0 rfl) rfl ((rwA 0 0).len (rwA 0 0)) (rwA 0 0) ?_
             replace hM := hid (hM.out.put 0 rfl [.int .i64 0, .int .i64 0] ((rwA 0 0).len (rwA 0 0)))
             generalize World.setCells _ _ _ _ = W at hM ⊢))
        go_cut [98] (fun s98 wx => s98 = .bool false ∧ Hid (Ms n w wx [(bx4, (rl d)), (bx8, (rl dq)), (bx10, [.int .i64 0, .int .i64 0]), (bx11, [.int .i64 0, .int .i64 0])] []))
        case first =>
          replace hM := hid (hM.out.drew)
          refine wp_region_held_drew (S := fun w' => Bo w' bx4 (rl d) ∧ Bo w' bx8 (rl dq)) (by kernel_rfl) ⟨hM.out.at 4 rfl, hM.out.at 3 rfl⟩ (fun hH => ?_)
          generalize World.drew _ = W at hM hH  ⊢
          refine tkR 0 rfl hH (fun _ h => h.1) (rwR d) ?_
          simp only [Act.put, p1, p2, p3]
          refine rd1 1 rfl (fun K hK => ?_)
          go_simp
          refine (RR.out _).mono ?_
          rintro e W ⟨rfl, hb⟩
          replace hM := hid (hM.out.later hb)
          clear hb
          go_wp2_with fail
          refine hK.out _ _ ⟨hM.out.at 4 rfl, hM.out.at 3 rfl⟩ (fun hH => ?_)
          clear hK K
          try simp only [Act.put, p1, p2, p3]
          refine tk 2 rfl hH ?_
          simp only [Act.put, p1, p2, p3]
          refine tk 3 rfl hH ?_
          simp only [Act.put, p1, p2, p3]
          refine tkR 4 rfl hH (fun _ h => h.2) (rwR dq) ?_
          simp only [Act.put, p1, p2, p3]
          refine rd1 5 rfl (fun K hK => ?_)
          go_simp
          refine (RQ.out _).mono ?_
          rintro e W ⟨rfl, hb⟩
          replace hM := hid (hM.out.later hb)
          clear hb
          go_wp2_with fail
          refine hK.out _ _ ⟨hM.out.at 4 rfl, hM.out.at 3 rfl⟩ (fun hH => ?_)
          clear hK K
          try simp only [Act.put, p1, p2, p3]
          refine tk 6 rfl hH ?_
          simp only [Act.put, p1, p2, p3]
          refine tk 7 rfl hH ?_
          simp only [Act.put, p1, p2, p3]
          refine tk 8 rfl hH ?_
          simp only [Act.put, p1, p2, p3]
          refine tk 9 rfl hH ?_
          simp only [Act.put, p1, p2, p3]
          refine tk 10 rfl hH ?_
          simp only [Act.put, p1, p2, p3]
          refine tk 11 rfl hH ?_
          simp only [Act.put, p1, p2, p3]
          refine tk 12 rfl hH ?_
          simp only [Act.put, p1, p2, p3]
          refine tk 13 rfl hH ?_
          simp only [Act.put, p1, p2, p3]
          refine tk 14 rfl hH ?_
          simp only [Act.put, p1, p2, p3]
          refine tk 15 rfl hH ?_ (by intro w h; have c0 := h.1.rwordx (show 28 < 32 by decide) C0.out; clear h; go_simp; try with_reducible rfl)
          simp only [Act.put, p1, p2, p3]
          refine tk 16 rfl hH ?_
          simp only [Act.put, p1, p2, p3]
          refine tk 17 rfl hH ?_
          simp only [Act.put, p1, p2, p3]
          refine tk 18 rfl hH ?_
          simp only [Act.put, p1, p2, p3]
          refine tk 19 rfl hH ?_
          simp only [Act.put, p1, p2, p3]
          refine tk 20 rfl hH ?_
          simp only [Act.put, p1, p2, p3]
          refine tkR 21 rfl hH (fun _ h => h.2) (rwR dq) ?_
          simp only [Act.put, p1, p2, p3]
          refine tk 22 rfl hH ?_
          simp only [Act.put, p1, p2, p3]
          refine tkR 24 rfl hH (fun _ h => h.1) (rwR d) ?_
          simp only [Act.put, p1, p2, p3]
          refine tk 25 rfl hH ?_
          simp only [Act.put, p1, p2, p3]
          refine rd1 23 rfl (fun K hK => ?_)
          go_simp
          refine (TQ.out _).mono ?_
          rintro e W ⟨rfl, hb⟩
          replace hM := hid (hM.out.later hb)
          clear hb
          go_wp2_with fail
          refine hK.out _ _ ⟨hM.out.at 4 rfl, hM.out.at 3 rfl⟩ (fun hH => ?_)
          clear hK K
          try simp only [Act.put, p1, p2, p3]
          refine rd1 26 rfl (fun K hK => ?_)
          go_simp
          refine (TD.out _).mono ?_
          rintro e W ⟨rfl, hb⟩
          replace hM := hid (hM.out.later hb)
          clear hb
          go_wp2_with fail
          refine hK.out _ _ ⟨hM.out.at 4 rfl, hM.out.at 3 rfl⟩ (fun hH => ?_)
          clear hK K
          try simp only [Act.put, p1, p2, p3]
          refine tk 27 rfl hH ?_
          simp only [Act.put, p1, p2, p3]
          refine tk 28 rfl hH ?_
          simp only [Act.put, p1, p2, p3]
          refine wpAnyH_done (by kernel_rfl) ?_ _
          go_wp2_with fail
          go_meet
          case rel => exact ⟨rfl, (hM.out.pick [4, 3, 1, 0]).pickL []⟩
        case rest =>
          obtain ⟨rfl, hM⟩ := hcut
          generalize wc = W at hM ⊢
          go_wp2_with fail
          replace hM := hid (hM.out.drew)
          refine wp_region_held_drew (S := fun w' => Bo w' bx4 (rl d) ∧ Bo w' bx8 (rl dq) ∧ Bo w' bx10 [.int .i64 0, .int .i64 0] ∧ Bo w' bx11 [.int .i64 0, .int .i64 0]) (by kernel_rfl) ⟨hM.out.at 0 rfl, hM.out.at 1 rfl, hM.out.at 2 rfl, hM.out.at 3 rfl⟩ (fun hH => ?_)
          generalize World.drew _ = W at hM hH  ⊢
          refine tk 0 rfl hH ?_
          simp only [Act.put, p1, p2, p3]
          refine tk 1 rfl hH ?_
          simp only [Act.put, p1, p2, p3]
          refine tk 2 rfl hH ?_
          simp only [Act.put, p1, p2, p3]
          refine tk 3 rfl hH ?_
          simp only [Act.put, p1, p2, p3]
          refine tk 4 rfl hH ?_ (by intro w h; have c0 := h.2.2.1.at 0 rfl; have c1 := h.2.2.1.at 1 rfl; clear h; go_simp; try with_reducible rfl)
          simp only [Act.put, p1, p2, p3]
          refine tk 5 rfl hH ?_ (by intro w h; have c0 := h.2.2.2.at 0 rfl; have c1 := h.2.2.2.at 1 rfl; clear h; go_simp; try with_reducible rfl)
          simp only [Act.put, p1, p2, p3]
          refine tk 6 rfl hH ?_
          simp only [Act.put, p1, p2, p3]
          refine tk 7 rfl hH ?_
          simp only [Act.put, p1, p2, p3]
          refine tk 8 rfl hH ?_
          simp only [Act.put, p1, p2, p3]
          refine tk 9 rfl hH ?_
          simp only [Act.put, p1, p2, p3]
          refine tk 10 rfl hH ?_
          simp only [Act.put, p1, p2, p3]
          refine tk 11 rfl hH ?_
          simp only [Act.put, p1, p2, p3]
          refine tk 12 rfl hH ?_
          simp only [Act.put, p1, p2, p3]
          refine tk 13 rfl hH ?_
          simp only [Act.put, p1, p2, p3]
          refine tk 14 rfl hH ?_
          simp only [Act.put, p1, p2, p3]
          refine tk 15 rfl hH ?_
          simp only [Act.put, p1, p2, p3]
          refine tk 16 rfl hH ?_
          simp only [Act.put, p1, p2, p3]
          refine tk 17 rfl hH ?_
          simp only [Act.put, p1, p2, p3]
          refine tk 18 rfl hH ?_
          simp only [Act.put, p1, p2, p3]
          refine tk 19 rfl hH ?_
          simp only [Act.put, p1, p2, p3]
          refine tkR 20 rfl hH (fun _ h => h.2.1) (rwR dq) ?_
          simp only [Act.put, p1, p2, p3]
          refine tk 21 rfl hH ?_
          simp only [Act.put, p1, p2, p3]
          refine tkR 23 rfl hH (fun _ h => h.1) (rwR d) ?_
          simp only [Act.put, p1, p2, p3]
          refine tk 24 rfl hH ?_
          simp only [Act.put, p1, p2, p3]
          refine rd1 22 rfl (fun K hK => ?_)
          go_simp
          refine (SQ.out _).mono ?_
          rintro e W ⟨rfl, hb⟩
          replace hM := hid (hM.out.later hb)
          clear hb
          go_wp2_with fail
          refine hK.out _ _ ⟨hM.out.at 0 rfl, hM.out.at 1 rfl, hM.out.at 2 rfl, hM.out.at 3 rfl⟩ (fun hH => ?_)
          clear hK K
          try simp only [Act.put, p1, p2, p3]
          refine rd1 25 rfl (fun K hK => ?_)
          go_simp
          refine (SD.out _).mono ?_
          rintro e W ⟨rfl, hb⟩
          replace hM := hid (hM.out.later hb)
          clear hb
          go_wp2_with fail
          refine hK.out _ _ ⟨hM.out.at 0 rfl, hM.out.at 1 rfl, hM.out.at 2 rfl, hM.out.at 3 rfl⟩ (fun hH => ?_)
          clear hK K
          try simp only [Act.put, p1, p2, p3]
          refine tk 26 rfl hH ?_
          simp only [Act.put, p1, p2, p3]
          refine tk 27 rfl hH ?_
          simp only [Act.put, p1, p2, p3]
          refine tk 28 rfl hH ?_
          simp only [Act.put, p1, p2, p3]
          refine tk 29 rfl hH ?_
          simp only [Act.put, p1, p2, p3]
          refine wpAnyH_done (by kernel_rfl) ?_ _
          go_wp2
          go_ret
          exact ⟨rfl, hM.out.below⟩
  · have DO : Hid (∀ w : World, _) := recDone_wrong ID.out.u64 ht4 ID.out hR
    have OR : Hid (∀ w : World, _) := opR_no hR
    have RR : Hid (∀ w : World, _) := recRight_is ID.out.u64 (v := true) ⟨fun _ => ID.out, fun _ => rfl⟩
    clear hR ht4 hs4 h1 h6
    have c5 := hM.out.cell 1 0 rfl rfl
    have c6 := hM.out.cell 1 1 rfl rfl
    have c7 := hM.out.cell 1 2 rfl rfl
    go_wp2_with (first
      | (refine lR rfl (hM.out.at 0 rfl) rfl (rwR d) ?_))
    clear c5 c6 c7
    refine (DO.out _).mono ?_
    rintro e W ⟨rfl, hb⟩
    replace hM := hid (hM.out.later hb)
    clear hb
    obtain ⟨bx8, hbx8⟩ : ∃ q, q = W.heap.size := ⟨_, rfl⟩
    replace hM := hid (hM.out.bornR rl_zero.symm 26 (b := bx8) hbx8)
    have Hbx8 : Hid _ := hbx8
    clear hbx8
    go_wp2_with (first
      | (rw [← Hbx8.out]; refine sR rfl (hM.out.at 0 rfl) rfl ((rwR wz).len (rwR wz)) (rwR wz) ?_
         replace hM := hid (hM.out.put 0 rfl (rl wz) ((rwR wz).len (rwR wz)))
         generalize World.setCells _ _ _ _ = W at hM ⊢
         have c9 := hM.out.cell 2 0 rfl rfl
         have c10 := hM.out.cell 2 1 rfl rfl
         have c11 := hM.out.cell 2 2 rfl rfl))
    refine (OR.out _).mono ?_
    rintro e W ⟨rfl, hb⟩
    replace hM := hid (hM.out.later hb)
    clear hb
    clear c9 c10 c11
    go_wp2_with (first
      | (refine lW rfl (hM.out.at 1 rfl) rfl (rwR d) ?_))
    refine (RR.out _).mono ?_
    rintro e W ⟨rfl, hb⟩
    replace hM := hid (hM.out.later hb)
    clear hb
    go_wp2
    go_ret
    exact ⟨rfl, hM.out.below⟩


set_option maxRecDepth 100000 in
theorem lifted (os : Os) (started : os.Started) (H : Type) (enc : TypeId × Value → H) :
    ReturnsInHanded {} Try.checked os 4 .any (Rows.recordStaysSpec.pre6 enc Try.prog Try.f4 Rows.recordStaysRow.domain false) (Rows.recordStaysSpec.post enc Try.prog Try.f4 false true false false) := by
  refine returnsInHanded_of_change (C := Try.checked) own started (by kernel_rfl) Try.func4
    (ChangeSpec.witness6 (enc := enc) (C := Try.checked) false ⟨#[], #[.int .i64 0, .slice none 0 0, .int .i64 0, .int .i64 0, .agg #[.int .i64 0, .int .i64 0, .int .i64 0]], []⟩ 8 (by kernel_rfl) (by kernel_rfl) (by kernel_rfl) (by kernel_rfl)) ?_
  intro W base args ds gs before hval0 hW hcnd _
  have hval : ∀ (j : Nat) t v, Try.f4.params[j]? = some t → args[j]? = some v → Value.okWide Try.prog W .any base t v := hval0
  have hW' := hW
  obtain ⟨p, q, hA0, hV, rfl, hfz, hnd⟩ := hW
  have hA : DataW.TrodAll enc Try.prog W 0 (fun _ => true) true Try.f4.params.toList args.toList ds p := hA0
  rw [Try.params4] at hA hval
  obtain ⟨v0, vs0, d0, ds0, p0, q0, hargs, rfl, rfl, h0, r0⟩ := trodAll_cons hA
  obtain ⟨v1, vs1, d1, ds1, p1, q1, rfl, rfl, rfl, h1, r1⟩ := trodAll_cons r0
  obtain ⟨v2, vs2, d2, ds2, p2, q2, rfl, rfl, rfl, h2, r2⟩ := trodAll_cons r1
  obtain ⟨v3, vs3, d3, ds3, p3, q3, rfl, rfl, rfl, h3, r3⟩ := trodAll_cons r2
  obtain ⟨v4, vs4, d4, ds4, p4, q4, rfl, rfl, rfl, h4, r4⟩ := trodAll_cons r3
  obtain ⟨rfl, rfl, rfl⟩ := trodAll_nil r4
  obtain rfl : args = #[v0, v1, v2, v3, v4] := by cases args; simp_all
  obtain ⟨rfl, rfl⟩ := trodVars_none hV
  obtain ⟨a0, rfl, rfl, rfl, w0⟩ := open_int Try.underlying3 (hval 0 3 v0 rfl rfl) h0
  obtain ⟨n1, D1⟩ := adeeds_of_trod (hval 1 22 v1 rfl rfl) h1
  obtain ⟨a2, rfl, rfl, rfl, w2⟩ := open_int Try.underlying3 (hval 2 3 v2 rfl rfl) h2
  obtain ⟨a3, rfl, rfl, rfl, w3⟩ := open_int Try.underlying3 (hval 3 3 v3 rfl rfl) h3
  obtain ⟨a4, b4, c4, rfl, wa4, wb4, wc4⟩ := op_of_trod (hval 4 35 v4 rfl rfl) h4
  have hlt := hW'.lt
  clear hA0 hval0
  refine (walk a0 v1 n1 a2 a3 a4 b4 c4 w0 w2 w3 wa4 wb4 wc4 W  D1).mono fun e W' ⟨he, hg⟩ => ?_
  subst he
  exact ⟨_, rfl, post_below (pv := []) hW' (fun _ _ _ => (trodAll_cons_mk (shut_bool Try.underlying4 _) trodAll_mk0)) (fun sp hsp => (trodAll_cons_mk (shut_int Try.underlying3 w0) (trodAll_cons_mk (adeeds_stay h1 hg (fun x hx => hlt x (by simp [hx])) (fun x hx => hsp x (by simp [hx]))) (trodAll_cons_mk (shut_int Try.underlying3 w2) (trodAll_cons_mk (shut_int Try.underlying3 w3) (trodAll_cons_mk (op_stay h4 hg (fun x hx => hlt x (by simp [hx])) (fun x hx => hsp x (by simp [hx]))) trodAll_mk0)))))) (fun _ _ => rfl) (by simp) (hg.frame _)⟩

theorem over : Rows.recordStaysRow.holds Try.pinned (OpenSpec.ofChange Rows.recordStaysSpec) :=
  OpenClaim.holds_of_wide 4 Try.f4 rfl rfl rfl rfl rfl rfl rfl ⟨rfl, rfl, rfl, rfl, rfl⟩ rfl rfl rfl rfl rfl (by kernel_rfl) Try.func4 (by kernel_rfl)
    (of_decide_eq_true (by kernel_rfl)) (by unfold Func.isWrapper; first | (rw [if_pos (by decide +kernel)]; kernel_rfl) | (rw [if_neg (by decide +kernel)]; exact ⟨rfl, rfl⟩))
    (fun os started H enc _ => lifted os started H enc)

theorem proved : Rows.RecordStaysSaid :=
  over
#print axioms proved
end Go.Proofs.Ytgkgkiheoadbfab.Tab.recordStays
