/- ObjectDoes is proved: for every number of a kind, every seventeen words and every operation the call returns true (what comes of any operation with any object, and what is refused, is the document's); the library's handle of the type error stands as the program's text lays it. -/
import Derived.Test.YtbmgjpdfmgcigabDoorRows
import Derived.Test.YtbmgjpdfmgcigabDoorPk06
import Derived.Test.YtbmgjpdfmgcigabDoorPk08
import Derived.Test.YtbmgjpdfmgcigabDoorCards
import Derived.SevenTiedAt

namespace Go.Proofs.YtbmgjpdfmgcigabDoor.Tab.objectDoes
set_option maxRecDepth 20000
open Go.ChangeShapes Go.WideShapes Go.ChangeAt Go.RowKit
set_option linter.unusedVariables false

set_option maxHeartbeats 8000000 in
set_option maxRecDepth 20000 in
theorem walk (kind : Int) (c : Nat → Nat) (o k y : Int) (w0 : (Lit.int .i64 kind).wf = true) (wa2 : (Lit.int .i64 o).wf = true) (wb2 : (Lit.int .i64 k).wf = true) (wc2 : (Lit.int .i64 y).wf = true) (w : World) (hT : HandleAt w) :
    Calls Tryd.prog 3 #[.int .i64 kind, .agg (wl c).toArray, .agg #[.int .i64 o, .int .i64 k, .int .i64 y]] w fun e w' => e = .returned (.bool true) ∧ Below w.heap.size w w' := by
  have HT : Hid (HandleAt w) := hT
  clear hT w0
  have hM : Hid _ := (((Ms.nil w).born (wl c) 24 (b := w.heap.size) rfl).born [.int .i64 o, .int .i64 k, .int .i64 y] 26 (b := w.heap.size + 1) (by simp))
  have EZ := cells_zero
  have EE := cells_equal
  clear wa2 wb2 wc2
  by_cases hO : isTh kind c
  · have TO : Hid (∀ {bc oc kc : Nat} {w : World} (hc : Wf w bc oc c), _) := fun {bc oc kc w} hc => ThingOf_is (b := true) (bc := bc) (oc := oc) (kc := kc) ⟨fun _ => hO, fun _ => rfl⟩ hc
    have K6 : kind ≤ 6 := hO.kind.2
    by_cases hR : Rt o k y
    · have DD : Hid (∀ w, _) := obDo_is (isTh_ob.1 hO) hR
      have DO : Hid (∀ {B : Nat} {v : Value} {t : Tb} {n : Int} {w : World} (h : Th B w kind c v t n), _) := fun {B v t n w} h => TDo_is hO hR h
      have OP : Hid (∀ w, _) := rfR_yes hR
      have HD : Hid (isTh kind (odo kind c o k y).1) := isTh_ob.2 (odo_facts (isTh_ob.1 hO) hR.w1 hR.w6 hR.k0 hR.k1 hR.v0 hR.v1).ob
      obtain ⟨r, hr⟩ : ∃ r, r = odo kind c o k y := ⟨_, rfl⟩
      rw [← hr] at DD DO HD
      clear hO hR hr
      obtain ⟨d, cc, y1⟩ := r
      unfold DidD at DD
      dsimp only at DD HD
      go_enter Tryd.func3, Tryd.ntmps3
      go_wp2_with fail
      generalize World.alloc _ _ = W at hM ⊢
      generalize hsz : w.heap.size = n at hM ⊢
      clear hsz
      refine (TO.out (Wf.of_bo (hM.out.at 1 rfl))).mono ?_
      rintro e W ⟨v, t, x, hv, rfl, hth, hb⟩
      replace hM := hid (hM.out.laterL hb ((hth (by first | rfl | trivial)).isl K6) (Nat.le_refl _))
      clear hb
      have HV : Hid _ := hv
      have TQ : Hid _ := (hth (by first | rfl | trivial)).tq
      clear hv hth
      obtain ⟨bx1, hbx1⟩ : ∃ q, q = W.heap.size := ⟨_, rfl⟩
      replace hM := hid (hM.out.bornR (tg_zero 0).symm 33 (b := bx1) hbx1)
      have Hbx1 : Hid _ := hbx1
      clear hbx1
      go_wp2_with (first
        | (rw [← Hbx1.out]; refine sR rfl (hM.out.at 0 rfl) rfl (rwN.len (rwTh kind HV.out t x)) (rwTh kind HV.out t x) ?_
           replace hM := hid (hM.out.put 0 rfl (tg kind v t x) (rwN.len (rwTh kind HV.out t x)))
           generalize World.setCells _ _ _ _ = W at hM ⊢
           have c2 := hM.out.cell 1 0 rfl rfl
           have c3 := hM.out.cell 1 1 rfl rfl
           have c4 := hM.out.cell 1 2 rfl rfl)
        | (refine lR rfl (hM.out.at 2 rfl) rfl (rwC c) ?_))
      refine (DD.out _).mono ?_
      rintro e W ⟨rfl, hb⟩
      replace hM := hid (hM.out.later hb)
      clear hb
      clear c2 c3 c4
      obtain ⟨bx5, hbx5⟩ : ∃ q, q = W.heap.size := ⟨_, rfl⟩
      replace hM := hid ((hM.out.bornR wz_all.symm 24 (b := bx5) hbx5).born [.int .i64 0, .int .i64 0] 38 (b := (bx5 + 1)) (by simp [hbx5]))
      have Hbx5 : Hid _ := hbx5
      clear hbx5
      go_wp2_with (first
        | (rw [← Hbx5.out]; refine sR rfl (hM.out.at 1 rfl) rfl ((rwC wz).len (rwC d)) (rwC d) ?_
           replace hM := hid (hM.out.put 1 rfl (wl d) ((rwC wz).len (rwC d)))
           generalize World.setCells _ _ _ _ = W at hM ⊢)
        | (refine sR rfl (hM.out.at 0 rfl) rfl ((rwA 0 0).len (rwA cc y1)) (rwA cc y1) ?_
           replace hM := hid (hM.out.put 0 rfl [.int .i64 cc, .int .i64 y1] ((rwA 0 0).len (rwA cc y1)))
           generalize World.setCells _ _ _ _ = W at hM ⊢
           have c6 := hM.out.cell 3 0 rfl rfl
           have c7 := hM.out.cell 3 1 rfl rfl
           have c8 := hM.out.cell 3 2 rfl rfl))
      refine (OP.out _).mono ?_
      rintro e W ⟨rfl, hb⟩
      replace hM := hid (hM.out.later hb)
      clear hb
      clear c6 c7 c8
      have c9 := hM.out.cell 3 0 rfl rfl
      have c10 := hM.out.cell 3 1 rfl rfl
      have c11 := hM.out.cell 3 2 rfl rfl
      go_wp2_with (first
        | (refine lR rfl (hM.out.at 2 rfl) rfl (rwTh kind HV.out t x) ?_))
      have hD := DO.out (TQ.out.th (hM.out.isL 0 rfl))
      refine (hD).mono ?_
      rintro e W ⟨v2, t2, x2, rfl, hq2, ho2, hl2, hb⟩
      obtain ⟨B2, hB2, hM⟩ := hM.out.laterM hb hl2
      clear hb
      have HV2 : Hid _ := ho2
      have TQ2 : Hid _ := hq2
      clear hD hq2 ho2 hl2 hB2
      clear c9 c10 c11
      obtain ⟨bx12, hbx12⟩ : ∃ q, q = W.heap.size := ⟨_, rfl⟩
      replace hM := hid ((hM.out.bornR (tg_zero 0).symm 33 (b := bx12) hbx12).born [.int .i64 0, .int .i64 0] 38 (b := (bx12 + 1)) (by simp [hbx12]))
      have Hbx12 : Hid _ := hbx12
      clear hbx12
      go_wp2_with (first
        | (rw [← Hbx12.out]; refine sR rfl (hM.out.at 1 rfl) rfl (rwN.len (rwTh kind HV2.out t2 x2)) (rwTh kind HV2.out t2 x2) ?_
           replace hM := hid (hM.out.put 1 rfl (tg kind v2 t2 x2) (rwN.len (rwTh kind HV2.out t2 x2)))
           generalize World.setCells _ _ _ _ = W at hM ⊢)
        | (refine sR rfl (hM.out.at 0 rfl) rfl ((rwA 0 0).len (rwA cc y1)) (rwA cc y1) ?_
           replace hM := hid (hM.out.put 0 rfl [.int .i64 cc, .int .i64 y1] ((rwA 0 0).len (rwA cc y1)))
           generalize World.setCells _ _ _ _ = W at hM ⊢))
      replace hM := hid (hM.out.drew)
      refine wp_region_held_drew (S := fun w' => Bo w' bx5 (wl d) ∧ Bo w' bx12 (tg kind v2 t2 x2) ∧ Bo w' (bx12 + 1) [.int .i64 cc, .int .i64 y1] ∧ Bo w' (bx5 + 1) [.int .i64 cc, .int .i64 y1]) (by kernel_rfl) ⟨hM.out.at 3 rfl, hM.out.at 1 rfl, hM.out.at 0 rfl, hM.out.at 2 rfl⟩ (fun hH => ?_)
      generalize World.drew _ = W at hM hH  ⊢
      refine tk 0 rfl hH ?_
      simp only [Act.put, p1, p2, p3]
      refine tk 1 rfl hH ?_
      simp only [Act.put, p1, p2, p3]
      refine tk 2 rfl hH ?_
      simp only [Act.put, p1, p2, p3]
      refine tkR 3 rfl hH (fun _ h => h.1) (rwC d) ?_
      simp only [Act.put, p1, p2, p3]
      refine tkR 4 rfl hH (fun _ h => h.2.1) (rwTh kind HV2.out t2 x2) ?_
      simp only [Act.put, p1, p2, p3]
      refine rd1 5 rfl (fun K hK => ?_)
      go_simp
      refine (TCells_is HD.out (TQ2.out.th (hM.out.isL 0 rfl))).mono ?_
      rintro e W ⟨⟨bq, rfl, hq, hW⟩, hb⟩
      replace hM := hid (hM.out.laterB hb hq hW)
      clear hb
      go_wp2_with fail
      refine hK.out _ _ ⟨hM.out.at 4 rfl, hM.out.at 2 rfl, hM.out.at 1 rfl, hM.out.at 3 rfl⟩ (fun hH => ?_)
      clear hK K
      try simp only [Act.put, p1, p2, p3]
      refine rd1 6 rfl (fun K hK => ?_)
      go_simp
      refine (cellsOf_is (Wf.of_bo (hM.out.at 0 rfl))).mono ?_
      rintro e W ⟨rfl, hb⟩
      replace hM := hid (hM.out.later hb)
      clear hb
      go_wp2_with fail
      refine hK.out _ _ ⟨hM.out.at 4 rfl, hM.out.at 2 rfl, hM.out.at 1 rfl, hM.out.at 3 rfl⟩ (fun hH => ?_)
      clear hK K
      try simp only [Act.put, p1, p2, p3]
      refine tk 7 rfl hH ?_
      simp only [Act.put, p1, p2, p3]
      refine tk 8 rfl hH ?_
      simp only [Act.put, p1, p2, p3]
      refine tk 9 rfl hH ?_
      simp only [Act.put, p1, p2, p3]
      refine tk 10 rfl hH ?_ (by intro w h; have c0 := h.2.2.1.at 0 rfl; have c1 := h.2.2.1.at 1 rfl; clear h; go_simp; try with_reducible rfl)
      simp only [Act.put, p1, p2, p3]
      refine tk 11 rfl hH ?_ (by intro w h; have c0 := h.2.2.2.at 0 rfl; have c1 := h.2.2.2.at 1 rfl; clear h; go_simp; try with_reducible rfl)
      simp only [Act.put, p1, p2, p3]
      refine tk 12 rfl hH ?_
      simp only [Act.put, p1, p2, p3]
      refine tk 13 rfl hH ?_
      simp only [Act.put, p1, p2, p3]
      refine tk 14 rfl hH ?_
      simp only [Act.put, p1, p2, p3]
      refine wpAnyH_done (by kernel_rfl) ?_ _
      go_wp2
      go_ret
      exact ⟨rfl, hM.out.below⟩
    · have DD : Hid (∀ w, _) := fun w => obDo_no (kind := kind) (c := c) (fun h => hR h.1) w
      unfold Refd at DD
      have OP : Hid (∀ w, _) := rfR_no hR
      clear hO hR
      go_enter Tryd.func3, Tryd.ntmps3
      go_wp2_with fail
      generalize World.alloc _ _ = W at hM ⊢
      generalize hsz : w.heap.size = n at hM ⊢
      clear hsz
      refine (TO.out (Wf.of_bo (hM.out.at 1 rfl))).mono ?_
      rintro e W ⟨v, t, x, hv, rfl, hth, hb⟩
      replace hM := hid (hM.out.laterL hb ((hth (by first | rfl | trivial)).isl K6) (Nat.le_refl _))
      clear hb
      have HV : Hid _ := hv
      have TQ : Hid _ := (hth (by first | rfl | trivial)).tq
      clear hv hth
      obtain ⟨bx1, hbx1⟩ : ∃ q, q = W.heap.size := ⟨_, rfl⟩
      replace hM := hid (hM.out.bornR (tg_zero 0).symm 33 (b := bx1) hbx1)
      have Hbx1 : Hid _ := hbx1
      clear hbx1
      go_wp2_with (first
        | (rw [← Hbx1.out]; refine sR rfl (hM.out.at 0 rfl) rfl (rwN.len (rwTh kind HV.out t x)) (rwTh kind HV.out t x) ?_
           replace hM := hid (hM.out.put 0 rfl (tg kind v t x) (rwN.len (rwTh kind HV.out t x)))
           generalize World.setCells _ _ _ _ = W at hM ⊢
           have c2 := hM.out.cell 1 0 rfl rfl
           have c3 := hM.out.cell 1 1 rfl rfl
           have c4 := hM.out.cell 1 2 rfl rfl)
        | (refine lR rfl (hM.out.at 2 rfl) rfl (rwC c) ?_))
      refine (DD.out _).mono ?_
      rintro e W ⟨rfl, hb⟩
      replace hM := hid (hM.out.later hb)
      clear hb
      clear c2 c3 c4
      obtain ⟨bx5, hbx5⟩ : ∃ q, q = W.heap.size := ⟨_, rfl⟩
      replace hM := hid ((hM.out.bornR wz_all.symm 24 (b := bx5) hbx5).born [.int .i64 0, .int .i64 0] 38 (b := (bx5 + 1)) (by simp [hbx5]))
      have Hbx5 : Hid _ := hbx5
      clear hbx5
      go_wp2_with (first
        | (rw [← Hbx5.out]; refine sR rfl (hM.out.at 1 rfl) rfl ((rwC wz).len (rwC wz)) (rwC wz) ?_
           replace hM := hid (hM.out.put 1 rfl (wl wz) ((rwC wz).len (rwC wz)))
           generalize World.setCells _ _ _ _ = W at hM ⊢)
        | (refine sR rfl (hM.out.at 0 rfl) rfl ((rwA 0 0).len (rwA 0 0)) (rwA 0 0) ?_
           replace hM := hid (hM.out.put 0 rfl [.int .i64 0, .int .i64 0] ((rwA 0 0).len (rwA 0 0)))
           generalize World.setCells _ _ _ _ = W at hM ⊢
           have c6 := hM.out.cell 3 0 rfl rfl
           have c7 := hM.out.cell 3 1 rfl rfl
           have c8 := hM.out.cell 3 2 rfl rfl))
      refine (OP.out _).mono ?_
      rintro e W ⟨rfl, hb⟩
      replace hM := hid (hM.out.later hb)
      clear hb
      clear c6 c7 c8
      go_wp2_with fail
      refine (bare_errno 1 1 _ (HandleAt.below HT.out hM.out.below)).mono ?_
      rintro e W ⟨rfl, hg⟩
      have hb := hg.below
      clear hg
      replace hM := hid (hM.out.later hb)
      clear hb
      have c9 := hM.out.cell 0 0 rfl rfl
      have c10 := hM.out.cell 0 1 rfl rfl
      go_wp2_with (first
        | (refine lW rfl (hM.out.at 1 rfl) rfl (rwC wz) ?_))
      go_ret
      exact ⟨rfl, hM.out.below⟩
  · have TO : Hid (∀ {bc oc kc : Nat} {w : World} (hc : Wf w bc oc c), _) := fun {bc oc kc w} hc => ThingOf_is (b := false) (bc := bc) (oc := oc) (kc := kc) ⟨fun h => (by cases h), fun h => absurd h hO⟩ hc
    have DD : Hid (∀ w, _) := fun w => obDo_no (kind := kind) (c := c) (o := o) (k := k) (x := y) (fun h => hO (isTh_ob.2 h.2)) w
    unfold Refd at DD
    clear hO
    go_enter Tryd.func3, Tryd.ntmps3
    go_wp2_with fail
    generalize World.alloc _ _ = W at hM ⊢
    generalize hsz : w.heap.size = n at hM ⊢
    clear hsz
    refine (TO.out (Wf.of_bo (hM.out.at 1 rfl))).mono ?_
    rintro e W ⟨v, t, x, hv, rfl, hth, hb⟩
    replace hM := hid (hM.out.later hb)
    clear hb
    have HV : Hid _ := hv
    clear hv hth
    obtain ⟨bx1, hbx1⟩ : ∃ q, q = W.heap.size := ⟨_, rfl⟩
    replace hM := hid (hM.out.bornR (tg_zero 0).symm 33 (b := bx1) hbx1)
    have Hbx1 : Hid _ := hbx1
    clear hbx1
    go_wp2_with (first
      | (rw [← Hbx1.out]; refine sR rfl (hM.out.at 0 rfl) rfl (rwN.len (rwTh kind HV.out t x)) (rwTh kind HV.out t x) ?_
         replace hM := hid (hM.out.put 0 rfl (tg kind v t x) (rwN.len (rwTh kind HV.out t x)))
         generalize World.setCells _ _ _ _ = W at hM ⊢
         have c2 := hM.out.cell 1 0 rfl rfl
         have c3 := hM.out.cell 1 1 rfl rfl
         have c4 := hM.out.cell 1 2 rfl rfl)
      | (refine lR rfl (hM.out.at 2 rfl) rfl (rwC c) ?_))
    refine (DD.out _).mono ?_
    rintro e W ⟨rfl, hb⟩
    replace hM := hid (hM.out.later hb)
    clear hb
    clear c2 c3 c4
    obtain ⟨bx5, hbx5⟩ : ∃ q, q = W.heap.size := ⟨_, rfl⟩
    replace hM := hid ((hM.out.bornR wz_all.symm 24 (b := bx5) hbx5).born [.int .i64 0, .int .i64 0] 38 (b := (bx5 + 1)) (by simp [hbx5]))
    have Hbx5 : Hid _ := hbx5
    clear hbx5
    go_wp2_with (first
      | (rw [← Hbx5.out]; refine sR rfl (hM.out.at 1 rfl) rfl ((rwC wz).len (rwC wz)) (rwC wz) ?_
         replace hM := hid (hM.out.put 1 rfl (wl wz) ((rwC wz).len (rwC wz)))
         generalize World.setCells _ _ _ _ = W at hM ⊢)
      | (refine sR rfl (hM.out.at 0 rfl) rfl ((rwA 0 0).len (rwA 0 0)) (rwA 0 0) ?_
         replace hM := hid (hM.out.put 0 rfl [.int .i64 0, .int .i64 0] ((rwA 0 0).len (rwA 0 0)))
         generalize World.setCells _ _ _ _ = W at hM ⊢))
    go_wp2_with fail
    refine (bare_errno 1 1 _ (HandleAt.below HT.out hM.out.below)).mono ?_
    rintro e W ⟨rfl, hg⟩
    have hb := hg.below
    clear hg
    replace hM := hid (hM.out.later hb)
    clear hb
    have c6 := hM.out.cell 0 0 rfl rfl
    have c7 := hM.out.cell 0 1 rfl rfl
    go_wp2_with (first
      | (refine lW rfl (hM.out.at 1 rfl) rfl (rwC wz) ?_))
    go_ret
    exact ⟨rfl, hM.out.below⟩


set_option maxRecDepth 100000 in
theorem lifted (os : Os) (started : os.Started) (H : Type) (enc : TypeId × Value → H) :
    ReturnsInHanded {} Tryd.checked os 3 .any (fun w args => (Rows.objectDoesSpec.pre enc Tryd.prog Tryd.f3 [] false w args ∧ laidMetH Tryd.prog laidHandle w) ∧ sizedMet enc Tryd.prog Tryd.f3 (OpenSpec.ofChange Rows.objectDoesSpec) false w args)
      (Rows.objectDoesSpec.post enc Tryd.prog Tryd.f3 false true false false) := by
  refine returnsInHanded_of_change_and (C := Tryd.checked) (X := fun w _ => laidMetH Tryd.prog laidHandle w) (fun _ _ _ hh h => h.of_heap hh) own started (by kernel_rfl) Tryd.func3
    (ChangeSpec.witness_shaped (enc := enc) (C := Tryd.checked) (os := os) (X := fun w _ => laidMetH Tryd.prog laidHandle w) false (World.doorLaid Tryd.prog 400 os) #[.int .i64 0, .agg #[.int .u64 0, .int .u64 0, .int .u64 0, .int .u64 0, .int .u64 0, .int .u64 0, .int .u64 0, .int .u64 0, .int .u64 0, .int .u64 0, .int .u64 0, .int .u64 0, .int .u64 0, .int .u64 0, .int .u64 0, .int .u64 0, .int .u64 0], .agg #[.int .i64 0, .int .i64 0, .int .i64 0]] 8 rfl (World.shaped_of_RefB (by kernel_rfl) (by kernel_rfl)) (by kernel_rfl) (by kernel_rfl) (by kernel_rfl) (door_handle os _)) ?_
  intro W base args ds gs before hval0 hW _ _ hL _
  have hval : ∀ (j : Nat) t v, Tryd.f3.params[j]? = some t → args[j]? = some v → Value.okWide Tryd.prog W .any base t v := hval0
  have hW' := hW
  obtain ⟨p, q, hA0, hV, rfl, hfz, hnd⟩ := hW
  have hA : DataW.TrodAll enc Tryd.prog W 0 (fun _ => true) true Tryd.f3.params.toList args.toList ds p := hA0
  rw [Tryd.params3] at hA hval
  obtain ⟨v0, vs0, d0, ds0, p0, q0, hargs, rfl, rfl, h0, r0⟩ := trodAll_cons hA
  obtain ⟨v1, vs1, d1, ds1, p1, q1, rfl, rfl, rfl, h1, r1⟩ := trodAll_cons r0
  obtain ⟨v2, vs2, d2, ds2, p2, q2, rfl, rfl, rfl, h2, r2⟩ := trodAll_cons r1
  obtain ⟨rfl, rfl, rfl⟩ := trodAll_nil r2
  obtain rfl : args = #[v0, v1, v2] := by cases args; simp_all
  obtain ⟨rfl, rfl⟩ := trodVars_none hV
  obtain ⟨a0, rfl, rfl, rfl, w0⟩ := open_int Tryd.underlying3 (hval 0 3 v0 rfl rfl) h0
  obtain ⟨t1, rfl⟩ := cells_of_trod (hval 1 24 v1 rfl rfl) h1
  obtain ⟨a2, b2, c2, rfl, wa2, wb2, wc2⟩ := op_of_trod (hval 2 26 v2 rfl rfl) h2
  have hT := handle_of_laid hL
  have hlt := hW'.lt
  clear hA0 hval0
  refine (walk a0 t1 a2 b2 c2 w0 wa2 wb2 wc2 W hT ).mono fun e W' ⟨he, hg⟩ => ?_
  subst he
  exact ⟨_, rfl, post_below (pv := []) hW' (fun _ _ _ => (trodAll_cons_mk (shut_bool Tryd.underlying4 _) trodAll_mk0)) (fun sp hsp => (trodAll_cons_mk (shut_int Tryd.underlying3 w0) (trodAll_cons_mk (cells_stay h1 hg (fun x hx => hlt x (by simp [hx])) (fun x hx => hsp x (by simp [hx]))) (trodAll_cons_mk (op_stay h2 hg (fun x hx => hlt x (by simp [hx])) (fun x hx => hsp x (by simp [hx]))) trodAll_mk0)))) (fun _ _ => rfl) (by simp) (hg.frame _)⟩

theorem over : Rows.ObjectDoesSaid :=
  OpenClaim.holds_of_wide 3 Tryd.f3 rfl rfl rfl rfl rfl rfl rfl ⟨rfl, rfl, rfl, rfl, rfl⟩ rfl rfl rfl rfl rfl (by kernel_rfl) Tryd.func3 (by kernel_rfl)
    (of_decide_eq_true (by kernel_rfl)) (by unfold Func.isWrapper; first | (rw [if_pos (by decide +kernel)]; kernel_rfl) | (rw [if_neg (by decide +kernel)]; exact ⟨rfl, rfl⟩))
    (fun os started H enc _ => lifted os started H enc)

theorem proved : Rows.ObjectDoesCardSaid :=
  Claim7.holds_tied_plain_at .later [] [.handle] true (true, "83a4d323e7a196c91980795f288793d1439b4dc05817bfb4ba4a0158b449086e") true
    over (fun _ h => by cases h) (by kernel_rfl) (fun _ h => by cases h) objectDoes_row_tie rfl ⟨rfl, rfl⟩ (by kernel_rfl) rfl
    (fun f fn hf hfn => by
      obtain rfl : f = 3 := Option.some.inj ((show Tryd.prog.funcNamed "gristmill/gristmilllaw.ObjectDoes" = some 3 by kernel_rfl).symm.trans hf) |>.symm
      obtain rfl : fn = Tryd.f3 := (Option.some.inj (Tryd.func3.symm.trans hfn)).symm
      exact ⟨by kernel_rfl, fun j t ht => by
        rw [Tryd.params3] at ht
        have hm : t ∈ [3, 24, 26] := by simpa using Array.mem_of_getElem? ht
        have hall : ([3, 24, 26].all fun u => !Tryd.prog.wantsStandIn u) = true := by kernel_rfl
        exact (show Tryd.prog.wantsStandIn t = false by simpa using List.all_eq_true.1 hall t hm)⟩)
    (by kernel_rfl)
#print axioms proved
end Go.Proofs.YtbmgjpdfmgcigabDoor.Tab.objectDoes
