/- ObjectSizes is proved: for every number of a kind and every seventeen words the call returns true (how many things there are in an object, and what is refused, is the document's); the library's handle of the type error stands as the program's text lays it. -/
import Derived.Test.YtbmgjpdfmgcigabDoorRows
import Derived.Test.YtbmgjpdfmgcigabDoorPk06
import Derived.Test.YtbmgjpdfmgcigabDoorPk08
import Derived.Test.YtbmgjpdfmgcigabDoorCards
import Derived.SevenTiedAt

namespace Go.Proofs.YtbmgjpdfmgcigabDoor.Tab.objectSizes
set_option maxRecDepth 20000
open Go.ChangeShapes Go.WideShapes Go.ChangeAt Go.RowKit
set_option linter.unusedVariables false

set_option maxHeartbeats 8000000 in
set_option maxRecDepth 20000 in
theorem walk (kind : Int) (c : Nat → Nat) (w0 : (Lit.int .i64 kind).wf = true) (w : World) (hT : HandleAt w) :
    Calls Tryd.prog 4 #[.int .i64 kind, .agg (wl c).toArray] w fun e w' => e = .returned (.bool true) ∧ Below w.heap.size w w' := by
  have HT : Hid (HandleAt w) := hT
  clear hT w0
  have hM : Hid _ := ((Ms.nil w).born (wl c) 24 (b := w.heap.size) rfl)
  by_cases hO : isTh kind c
  · have TO : Hid (∀ {bc oc kc : Nat} {w : World} (hc : Wf w bc oc c), _) := fun {bc oc kc w} hc => ThingOf_is (b := true) (bc := bc) (oc := oc) (kc := kc) ⟨fun _ => hO, fun _ => rfl⟩ hc
    have K6 : kind ≤ 6 := hO.kind.2
    have SZ : Hid (∀ w, _) := obSize_is (isTh_ob.1 hO)
    have DO : Hid (∀ {B : Nat} {v : Value} {t : Tb} {n : Int} {w : World} (h : Th B w kind c v t n), _) := fun {B v t n w} h => TDo_is (o := 6) (k := 0) (x := 0) hO ⟨by decide, by decide, by decide, by decide, by decide, by decide⟩ h
    have CT : Hid _ := (odo_facts (kind := kind) (c := c) (o := 6) (k := 0) (x := 0) (isTh_ob.1 hO) (by decide) (by decide) (by decide) (by decide) (by decide) (by decide)).count rfl
    clear hO
    go_enter Tryd.func4, Tryd.ntmps4
    go_wp2_with fail
    generalize World.alloc _ _ = W at hM ⊢
    generalize hsz : w.heap.size = n at hM ⊢
    clear hsz
    refine (TO.out (Wf.of_bo (hM.out.at 0 rfl))).mono ?_
    rintro e W ⟨v, t, x, hv, rfl, hth, hb⟩
    replace hM := hid (hM.out.laterL hb ((hth (by first | rfl | trivial)).isl K6) (Nat.le_refl _))
    clear hb
    have HV : Hid _ := hv
    have TQ : Hid _ := (hth (by first | rfl | trivial)).tq
    clear hv hth
    obtain ⟨bx1, hbx1⟩ : ∃ q, q = W.heap.size := ⟨_, rfl⟩
    replace hM := hid (hM.out.bornR (tg_zero 0).symm 33 (b := bx1) hbx1)
    have Hbx1 : Hid _ := hbx1
    clear hbx1
    go_wp2_with (first
      | (rw [← Hbx1.out]; refine sR rfl (hM.out.at 0 rfl) rfl (rwN.len (rwTh kind HV.out t x)) (rwTh kind HV.out t x) ?_
         replace hM := hid (hM.out.put 0 rfl (tg kind v t x) (rwN.len (rwTh kind HV.out t x)))
         generalize World.setCells _ _ _ _ = W at hM ⊢)
      | (refine lR rfl (hM.out.at 1 rfl) rfl (rwC c) ?_))
    refine (SZ.out _).mono ?_
    rintro e W ⟨rfl, hb⟩
    replace hM := hid (hM.out.later hb)
    clear hb
    go_wp2_with (first
      | (refine lR rfl (hM.out.at 0 rfl) rfl (rwTh kind HV.out t x) ?_))
    have hD := DO.out (TQ.out.th (hM.out.isL 0 rfl))
    refine (hD).mono ?_
    rintro e W ⟨v2, t2, x2, rfl, hq2, ho2, hl2, hb⟩
    replace hM := hid (hM.out.later hb)
    clear hb
    have HV2 : Hid _ := ho2
    clear hD hq2 ho2 hl2
    rw [CT.out.1, CT.out.2]
    obtain ⟨bx2, hbx2⟩ : ∃ q, q = W.heap.size := ⟨_, rfl⟩
    replace hM := hid ((hM.out.bornR (tg_zero 0).symm 33 (b := bx2) hbx2).born [.int .i64 0, .int .i64 0] 38 (b := (bx2 + 1)) (by simp [hbx2]))
    have Hbx2 : Hid _ := hbx2
    clear hbx2
    go_wp2_with (first
      | (rw [← Hbx2.out]; refine sR rfl (hM.out.at 1 rfl) rfl (rwN.len (rwTh kind HV2.out t2 x2)) (rwTh kind HV2.out t2 x2) ?_
         replace hM := hid (hM.out.put 1 rfl (tg kind v2 t2 x2) (rwN.len (rwTh kind HV2.out t2 x2)))
         generalize World.setCells _ _ _ _ = W at hM ⊢)
      | (refine sR rfl (hM.out.at 0 rfl) rfl ((rwA 0 0).len (rwA 1 (osz kind c))) (rwA 1 (osz kind c)) ?_
         replace hM := hid (hM.out.put 0 rfl [.int .i64 1, .int .i64 (osz kind c)] ((rwA 0 0).len (rwA 1 (osz kind c))))
         generalize World.setCells _ _ _ _ = W at hM ⊢
         have c3 := hM.out.cell 0 1 rfl rfl))
    go_ret
    exact ⟨ret_bool (by simp), hM.out.below⟩
  · have TO : Hid (∀ {bc oc kc : Nat} {w : World} (hc : Wf w bc oc c), _) := fun {bc oc kc w} hc => ThingOf_is (b := false) (bc := bc) (oc := oc) (kc := kc) ⟨fun h => (by cases h), fun h => absurd h hO⟩ hc
    have SZ : Hid (∀ w, _) := obSize_no (fun h => hO (isTh_ob.2 h))
    clear hO
    go_enter Tryd.func4, Tryd.ntmps4
    go_wp2_with fail
    generalize World.alloc _ _ = W at hM ⊢
    generalize hsz : w.heap.size = n at hM ⊢
    clear hsz
    refine (TO.out (Wf.of_bo (hM.out.at 0 rfl))).mono ?_
    rintro e W ⟨v, t, x, hv, rfl, hth, hb⟩
    replace hM := hid (hM.out.later hb)
    clear hb
    have HV : Hid _ := hv
    clear hv hth
    obtain ⟨bx1, hbx1⟩ : ∃ q, q = W.heap.size := ⟨_, rfl⟩
    replace hM := hid (hM.out.bornR (tg_zero 0).symm 33 (b := bx1) hbx1)
    have Hbx1 : Hid _ := hbx1
    clear hbx1
    go_wp2_with (first
      | (rw [← Hbx1.out]; refine sR rfl (hM.out.at 0 rfl) rfl (rwN.len (rwTh kind HV.out t x)) (rwTh kind HV.out t x) ?_
         replace hM := hid (hM.out.put 0 rfl (tg kind v t x) (rwN.len (rwTh kind HV.out t x)))
         generalize World.setCells _ _ _ _ = W at hM ⊢)
      | (refine lR rfl (hM.out.at 1 rfl) rfl (rwC c) ?_))
    refine (SZ.out _).mono ?_
    rintro e W ⟨rfl, hb⟩
    replace hM := hid (hM.out.later hb)
    clear hb
    go_wp2_with fail
    refine (bare_errno 1 1 _ (HandleAt.below HT.out hM.out.below)).mono ?_
    rintro e W ⟨rfl, hg⟩
    have hb := hg.below
    clear hg
    replace hM := hid (hM.out.later hb)
    clear hb
    go_wp2
    go_ret
    exact ⟨rfl, hM.out.below⟩


set_option maxRecDepth 100000 in
theorem lifted (os : Os) (started : os.Started) (H : Type) (enc : TypeId × Value → H) :
    ReturnsInHanded {} Tryd.checked os 4 .any (fun w args => (Rows.objectSizesSpec.pre enc Tryd.prog Tryd.f4 [] false w args ∧ laidMetH Tryd.prog laidHandle w) ∧ sizedMet enc Tryd.prog Tryd.f4 (OpenSpec.ofChange Rows.objectSizesSpec) false w args)
      (Rows.objectSizesSpec.post enc Tryd.prog Tryd.f4 false true false false) := by
  refine returnsInHanded_of_change_and (C := Tryd.checked) (X := fun w _ => laidMetH Tryd.prog laidHandle w) (fun _ _ _ hh h => h.of_heap hh) own started (by kernel_rfl) Tryd.func4
    (ChangeSpec.witness_shaped (enc := enc) (C := Tryd.checked) (os := os) (X := fun w _ => laidMetH Tryd.prog laidHandle w) false (World.doorLaid Tryd.prog 400 os) #[.int .i64 0, .agg #[.int .u64 0, .int .u64 0, .int .u64 0, .int .u64 0, .int .u64 0, .int .u64 0, .int .u64 0, .int .u64 0, .int .u64 0, .int .u64 0, .int .u64 0, .int .u64 0, .int .u64 0, .int .u64 0, .int .u64 0, .int .u64 0, .int .u64 0]] 8 rfl (World.shaped_of_RefB (by kernel_rfl) (by kernel_rfl)) (by kernel_rfl) (by kernel_rfl) (by kernel_rfl) (door_handle os _)) ?_
  intro W base args ds gs before hval0 hW _ _ hL _
  have hval : ∀ (j : Nat) t v, Tryd.f4.params[j]? = some t → args[j]? = some v → Value.okWide Tryd.prog W .any base t v := hval0
  have hW' := hW
  obtain ⟨p, q, hA0, hV, rfl, hfz, hnd⟩ := hW
  have hA : DataW.TrodAll enc Tryd.prog W 0 (fun _ => true) true Tryd.f4.params.toList args.toList ds p := hA0
  rw [Tryd.params4] at hA hval
  obtain ⟨v0, vs0, d0, ds0, p0, q0, hargs, rfl, rfl, h0, r0⟩ := trodAll_cons hA
  obtain ⟨v1, vs1, d1, ds1, p1, q1, rfl, rfl, rfl, h1, r1⟩ := trodAll_cons r0
  obtain ⟨rfl, rfl, rfl⟩ := trodAll_nil r1
  obtain rfl : args = #[v0, v1] := by cases args; simp_all
  obtain ⟨rfl, rfl⟩ := trodVars_none hV
  obtain ⟨a0, rfl, rfl, rfl, w0⟩ := open_int Tryd.underlying3 (hval 0 3 v0 rfl rfl) h0
  obtain ⟨t1, rfl⟩ := cells_of_trod (hval 1 24 v1 rfl rfl) h1
  have hT := handle_of_laid hL
  have hlt := hW'.lt
  clear hA0 hval0
  refine (walk a0 t1 w0 W hT ).mono fun e W' ⟨he, hg⟩ => ?_
  subst he
  exact ⟨_, rfl, post_below (pv := []) hW' (fun _ _ _ => (trodAll_cons_mk (shut_bool Tryd.underlying4 _) trodAll_mk0)) (fun sp hsp => (trodAll_cons_mk (shut_int Tryd.underlying3 w0) (trodAll_cons_mk (cells_stay h1 hg (fun x hx => hlt x (by simp [hx])) (fun x hx => hsp x (by simp [hx]))) trodAll_mk0))) (fun _ _ => rfl) (by simp) (hg.frame _)⟩

theorem over : Rows.ObjectSizesSaid :=
  OpenClaim.holds_of_wide 4 Tryd.f4 rfl rfl rfl rfl rfl rfl rfl ⟨rfl, rfl, rfl, rfl, rfl⟩ rfl rfl rfl rfl rfl (by kernel_rfl) Tryd.func4 (by kernel_rfl)
    (of_decide_eq_true (by kernel_rfl)) (by unfold Func.isWrapper; first | (rw [if_pos (by decide +kernel)]; kernel_rfl) | (rw [if_neg (by decide +kernel)]; exact ⟨rfl, rfl⟩))
    (fun os started H enc _ => lifted os started H enc)

theorem proved : Rows.ObjectSizesCardSaid :=
  Claim7.holds_tied_plain_at .later [] [.handle] true (true, "83a4d323e7a196c91980795f288793d1439b4dc05817bfb4ba4a0158b449086e") true
    over (fun _ h => by cases h) (by kernel_rfl) (fun _ h => by cases h) objectSizes_row_tie rfl ⟨rfl, rfl⟩ (by kernel_rfl) rfl
    (fun f fn hf hfn => by
      obtain rfl : f = 4 := Option.some.inj ((show Tryd.prog.funcNamed "gristmill/gristmilllaw.ObjectSizes" = some 4 by kernel_rfl).symm.trans hf) |>.symm
      obtain rfl : fn = Tryd.f4 := (Option.some.inj (Tryd.func4.symm.trans hfn)).symm
      exact ⟨by kernel_rfl, fun j t ht => by
        rw [Tryd.params4] at ht
        have hm : t ∈ [3, 24] := by simpa using Array.mem_of_getElem? ht
        have hall : ([3, 24].all fun u => !Tryd.prog.wantsStandIn u) = true := by kernel_rfl
        exact (show Tryd.prog.wantsStandIn t = false by simpa using List.all_eq_true.1 hall t hm)⟩)
    (by kernel_rfl)
#print axioms proved
end Go.Proofs.YtbmgjpdfmgcigabDoor.Tab.objectSizes
