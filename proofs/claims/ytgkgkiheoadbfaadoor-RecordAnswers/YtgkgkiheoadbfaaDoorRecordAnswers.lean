/- RecordAnswers is proved: for every thirty-two words and every number of a thread the call returns true (what was answered to any thread last is the document's); the library's handle of the type error stands as the program's text lays it. -/
import Derived.Test.YtgkgkiheoadbfaaDoorRows
import Derived.Test.YtgkgkiheoadbfaaDoorPk01
import Derived.Test.YtgkgkiheoadbfaaDoorCards
import Derived.Deep.DeepCutAuto
import Derived.Deep.RegionHeld3
import Derived.SevenTiedAt

namespace Go.Proofs.YtgkgkiheoadbfaaDoor.Tab.recordAnswers
set_option maxRecDepth 20000
open Go.ChangeShapes Go.WideShapes Go.ChangeAt Go.RowKit
set_option linter.unusedVariables false

set_option maxHeartbeats 8000000 in
set_option maxRecDepth 20000 in
theorem walk (r : Nat → Nat) (t : Int) (U : ∀ j, j < 32 → r j < 18446744073709551616) (w1 : (Lit.int .i64 t).wf = true) (w : World) (hT : HandleAt w) :
    Calls Tryd.prog 4 #[.agg (rl r).toArray, .int .i64 t] w fun e w' => e = .returned (.bool true) ∧ Below w.heap.size w w' := by
  have HT : Hid (HandleAt w) := hT
  clear hT w1
  by_cases ht : 0 ≤ t ∧ t < 4
  · obtain ⟨i, rfl⟩ := Int.eq_ofNat_of_zero_le ht.1
    have hi : i < 4 := by have := ht.2; omega
    have t1 : ¬ (i : Int) < 0 := by omega
    have t2 : ¬ (4 : Int) ≤ (i : Int) := by omega
    obtain ⟨x, hx⟩ : ∃ x, r (18 + i) = x := ⟨_, rfl⟩
    obtain ⟨y, hy⟩ : ∃ y, r (22 + i) = y := ⟨_, rfl⟩
    have x64 : x < 18446744073709551616 := hx ▸ U _ (by omega)
    have HX : Hid _ := hx
    have HY : Hid _ := hy
    have hx1 : 18 + i < 32 := by omega
    have hx2 : 22 + i < 32 := by omega
    have fa0 : (0 : Int) ≤ 18 + (i : Int) := by omega
    have fa1 : 18 + (i : Int) < 32 := by omega
    have fa2 : IntKind.i64.wrap (18 + (i : Int)) = 18 + i := by rw [IntKind.wrap_i64]; omega
    have fa3 : wrap64 (18 + (i : Int)) = 18 + i := by unfold wrap64; omega
    have fa4 : (18 + (i : Int)).toNat = 18 + i := by omega
    have fb0 : (0 : Int) ≤ 22 + (i : Int) := by omega
    have fb1 : 22 + (i : Int) < 32 := by omega
    have fb2 : IntKind.i64.wrap (22 + (i : Int)) = 22 + i := by rw [IntKind.wrap_i64]; omega
    have fb3 : wrap64 (22 + (i : Int)) = 22 + i := by unfold wrap64; omega
    have fb4 : (22 + (i : Int)).toNat = 22 + i := by omega
    by_cases ha : Aw x
    · have AN : Hid (∀ w : World, _) := recAnswer_yes U hi (hx ▸ ha)
      rw [hx, hy] at AN
      have RT : Hid (∀ w : World, _) := fun w => rtold_yes x64 ha w
      clear ht hi hx hy U ha
      generalize x / 4294967296 = xa at *
      generalize x % 4294967296 = xb at *
      by_cases hb62 : (4611686018427387904 : Int) < (y : Int)
      · have hM : Hid _ := ((Ms.nil w).born (rl r) 24 (b := w.heap.size) rfl)
        go_enter Tryd.func4, Tryd.ntmps4
        go_wp2_with (first
          | (refine lR rfl (hM.out.at 0 rfl) rfl (rwR r) ?_))
        generalize World.alloc _ _ = W at hM ⊢
        generalize hsz : w.heap.size = n at hM ⊢
        clear hsz
        refine (AN.out _).mono ?_
        rintro e W ⟨rfl, hb⟩
        replace hM := hid (hM.out.later hb)
        clear hb
        obtain ⟨bx1, hbx1⟩ : ∃ q, q = W.heap.size := ⟨_, rfl⟩
        replace hM := hid (hM.out.born [.int .i64 0, .int .i64 0] 42 (b := bx1) hbx1)
        have Hbx1 : Hid _ := hbx1
        clear hbx1
        go_wp2_with (first
          | (rw [← Hbx1.out]; refine sR rfl (hM.out.at 0 rfl) rfl ((rwA 0 0).len (rwA (xa : Nat) (xb : Nat))) (rwA (xa : Nat) (xb : Nat)) ?_
             replace hM := hid (hM.out.put 0 rfl [.int .i64 (xa : Nat), .int .i64 (xb : Nat)] ((rwA 0 0).len (rwA (xa : Nat) (xb : Nat))))
             generalize World.setCells _ _ _ _ = W at hM ⊢
             have c2 := hM.out.cell 0 0 rfl rfl
             have c3 := hM.out.cell 0 1 rfl rfl
             have cx := (hM.out.at 1 rfl).rwordx hx1 HX.out))
        clear c2 c3
        refine (RT.out _).mono ?_
        rintro e W ⟨rfl, hb⟩
        replace hM := hid (hM.out.later hb)
        clear hb
        clear cx
        obtain ⟨bx4, hbx4⟩ : ∃ q, q = W.heap.size := ⟨_, rfl⟩
        replace hM := hid (hM.out.born [.int .i64 0, .int .i64 0] 42 (b := bx4) hbx4)
        have Hbx4 : Hid _ := hbx4
        clear hbx4
        go_wp2_with (first
          | (rw [← Hbx4.out]; refine sR rfl (hM.out.at 0 rfl) rfl ((rwA 0 0).len (rwA _ _)) (rwA _ _) ?_
             replace hM := hid (hM.out.put 0 rfl [.int .i64 (xa : Nat), .int .i64 (xb : Nat)] ((rwA 0 0).len (rwA _ _)))
             generalize World.setCells _ _ _ _ = W at hM ⊢
             have c5 := hM.out.cell 1 0 rfl rfl
             have c6 := hM.out.cell 1 1 rfl rfl
             have c7 := hM.out.cell 0 0 rfl rfl
             have c8 := hM.out.cell 0 1 rfl rfl
             have x9 := (hM.out.at 2 rfl).rwordx hx2 HY.out))
        go_ret
        exact ⟨rfl, hM.out.below⟩
      · have hM : Hid _ := ((Ms.nil w).born (rl r) 24 (b := w.heap.size) rfl)
        go_enter Tryd.func4, Tryd.ntmps4
        go_wp2_with (first
          | (refine lR rfl (hM.out.at 0 rfl) rfl (rwR r) ?_))
        generalize World.alloc _ _ = W at hM ⊢
        generalize hsz : w.heap.size = n at hM ⊢
        clear hsz
        refine (AN.out _).mono ?_
        rintro e W ⟨rfl, hb⟩
        replace hM := hid (hM.out.later hb)
        clear hb
        obtain ⟨bx1, hbx1⟩ : ∃ q, q = W.heap.size := ⟨_, rfl⟩
        replace hM := hid (hM.out.born [.int .i64 0, .int .i64 0] 42 (b := bx1) hbx1)
        have Hbx1 : Hid _ := hbx1
        clear hbx1
        go_wp2_with (first
          | (rw [← Hbx1.out]; refine sR rfl (hM.out.at 0 rfl) rfl ((rwA 0 0).len (rwA (xa : Nat) (xb : Nat))) (rwA (xa : Nat) (xb : Nat)) ?_
             replace hM := hid (hM.out.put 0 rfl [.int .i64 (xa : Nat), .int .i64 (xb : Nat)] ((rwA 0 0).len (rwA (xa : Nat) (xb : Nat))))
             generalize World.setCells _ _ _ _ = W at hM ⊢
             have c2 := hM.out.cell 0 0 rfl rfl
             have c3 := hM.out.cell 0 1 rfl rfl
             have cx := (hM.out.at 1 rfl).rwordx hx1 HX.out))
        clear c2 c3
        refine (RT.out _).mono ?_
        rintro e W ⟨rfl, hb⟩
        replace hM := hid (hM.out.later hb)
        clear hb
        clear cx
        obtain ⟨bx4, hbx4⟩ : ∃ q, q = W.heap.size := ⟨_, rfl⟩
        replace hM := hid (hM.out.born [.int .i64 0, .int .i64 0] 42 (b := bx4) hbx4)
        have Hbx4 : Hid _ := hbx4
        clear hbx4
        go_wp2_with (first
          | (rw [← Hbx4.out]; refine sR rfl (hM.out.at 0 rfl) rfl ((rwA 0 0).len (rwA _ _)) (rwA _ _) ?_
             replace hM := hid (hM.out.put 0 rfl [.int .i64 (xa : Nat), .int .i64 (xb : Nat)] ((rwA 0 0).len (rwA _ _)))
             generalize World.setCells _ _ _ _ = W at hM ⊢
             have c5 := hM.out.cell 1 0 rfl rfl
             have c6 := hM.out.cell 1 1 rfl rfl
             have c7 := hM.out.cell 0 0 rfl rfl
             have c8 := hM.out.cell 0 1 rfl rfl
             have x9 := (hM.out.at 2 rfl).rwordx hx2 HY.out))
        go_ret
        exact ⟨rfl, hM.out.below⟩
    · have AN : Hid (∀ w : World, _) := recAnswer_none U hi (hx ▸ ha)
      have RT : Hid (∀ w : World, _) := fun w => rtold_no x64 ha w
      clear ht hi hx hy U ha
      have hM : Hid _ := ((Ms.nil w).born (rl r) 24 (b := w.heap.size) rfl)
      go_enter Tryd.func4, Tryd.ntmps4
      go_wp2_with (first
        | (refine lR rfl (hM.out.at 0 rfl) rfl (rwR r) ?_))
      generalize World.alloc _ _ = W at hM ⊢
      generalize hsz : w.heap.size = n at hM ⊢
      clear hsz
      refine (AN.out _).mono ?_
      rintro e W ⟨rfl, hb⟩
      replace hM := hid (hM.out.later hb)
      clear hb
      obtain ⟨bx1, hbx1⟩ : ∃ q, q = W.heap.size := ⟨_, rfl⟩
      replace hM := hid (hM.out.born [.int .i64 0, .int .i64 0] 42 (b := bx1) hbx1)
      have Hbx1 : Hid _ := hbx1
      clear hbx1
      go_wp2_with (first
        | (rw [← Hbx1.out]; refine sR rfl (hM.out.at 0 rfl) rfl ((rwA 0 0).len (rwA 0 0)) (rwA 0 0) ?_
           replace hM := hid (hM.out.put 0 rfl [.int .i64 0, .int .i64 0] ((rwA 0 0).len (rwA 0 0)))
           generalize World.setCells _ _ _ _ = W at hM ⊢
           have c2 := hM.out.cell 0 0 rfl rfl
           have c3 := hM.out.cell 0 1 rfl rfl
           have cx := (hM.out.at 1 rfl).rwordx hx1 HX.out))
      clear c2 c3
      refine (RT.out _).mono ?_
      rintro e W ⟨rfl, hb⟩
      replace hM := hid (hM.out.later hb)
      clear hb
      clear cx
      obtain ⟨bx4, hbx4⟩ : ∃ q, q = W.heap.size := ⟨_, rfl⟩
      replace hM := hid (hM.out.born [.int .i64 0, .int .i64 0] 42 (b := bx4) hbx4)
      have Hbx4 : Hid _ := hbx4
      clear hbx4
      go_wp2_with (first
        | (rw [← Hbx4.out]; refine sR rfl (hM.out.at 0 rfl) rfl ((rwA 0 0).len (rwA 0 0)) (rwA 0 0) ?_
           replace hM := hid (hM.out.put 0 rfl [.int .i64 0, .int .i64 0] ((rwA 0 0).len (rwA 0 0)))
           generalize World.setCells _ _ _ _ = W at hM ⊢))
      refine (bare_errno 8 8 _ (HandleAt.below HT.out hM.out.below)).mono ?_
      rintro e W ⟨rfl, hg⟩
      have hb := hg.below
      clear hg
      replace hM := hid (hM.out.later hb)
      clear hb
      have c5 := hM.out.cell 1 0 rfl rfl
      have c6 := hM.out.cell 1 1 rfl rfl
      go_wp2
      go_ret
      exact ⟨rfl, hM.out.below⟩
  · rcases (by omega : t < 0 ∨ 4 ≤ t) with ht | ht
    · have AN : Hid (∀ w : World, _) := recAnswer_no r (t := t) (by omega)
      have t1 : t < 0 := ht
      clear ht U
      have hM : Hid _ := ((Ms.nil w).born (rl r) 24 (b := w.heap.size) rfl)
      go_enter Tryd.func4, Tryd.ntmps4
      go_wp2_with (first
        | (refine lR rfl (hM.out.at 0 rfl) rfl (rwR r) ?_))
      generalize World.alloc _ _ = W at hM ⊢
      generalize hsz : w.heap.size = n at hM ⊢
      clear hsz
      refine (AN.out _).mono ?_
      rintro e W ⟨rfl, hb⟩
      replace hM := hid (hM.out.later hb)
      clear hb
      obtain ⟨bx1, hbx1⟩ : ∃ q, q = W.heap.size := ⟨_, rfl⟩
      replace hM := hid (hM.out.born [.int .i64 0, .int .i64 0] 42 (b := bx1) hbx1)
      have Hbx1 : Hid _ := hbx1
      clear hbx1
      go_wp2_with (first
        | (rw [← Hbx1.out]; refine sR rfl (hM.out.at 0 rfl) rfl ((rwA 0 0).len (rwA 0 0)) (rwA 0 0) ?_
           replace hM := hid (hM.out.put 0 rfl [.int .i64 0, .int .i64 0] ((rwA 0 0).len (rwA 0 0)))
           generalize World.setCells _ _ _ _ = W at hM ⊢
           have c2 := hM.out.cell 0 0 rfl rfl
           have c3 := hM.out.cell 0 1 rfl rfl))
      clear c2 c3
      refine (bare_errno 2 2 _ (HandleAt.below HT.out hM.out.below)).mono ?_
      rintro e W ⟨rfl, hg⟩
      have hb := hg.below
      clear hg
      replace hM := hid (hM.out.later hb)
      clear hb
      have c4 := hM.out.cell 0 0 rfl rfl
      have c5 := hM.out.cell 0 1 rfl rfl
      go_wp2
      go_ret
      exact ⟨rfl, hM.out.below⟩
    · have AN : Hid (∀ w : World, _) := recAnswer_no r (t := t) (by omega)
      have t1 : ¬ t < 0 := by omega
      have t2 : 4 ≤ t := ht
      clear ht U
      have hM : Hid _ := ((Ms.nil w).born (rl r) 24 (b := w.heap.size) rfl)
      go_enter Tryd.func4, Tryd.ntmps4
      go_wp2_with (first
        | (refine lR rfl (hM.out.at 0 rfl) rfl (rwR r) ?_))
      generalize World.alloc _ _ = W at hM ⊢
      generalize hsz : w.heap.size = n at hM ⊢
      clear hsz
      refine (AN.out _).mono ?_
      rintro e W ⟨rfl, hb⟩
      replace hM := hid (hM.out.later hb)
      clear hb
      obtain ⟨bx1, hbx1⟩ : ∃ q, q = W.heap.size := ⟨_, rfl⟩
      replace hM := hid (hM.out.born [.int .i64 0, .int .i64 0] 42 (b := bx1) hbx1)
      have Hbx1 : Hid _ := hbx1
      clear hbx1
      go_wp2_with (first
        | (rw [← Hbx1.out]; refine sR rfl (hM.out.at 0 rfl) rfl ((rwA 0 0).len (rwA 0 0)) (rwA 0 0) ?_
           replace hM := hid (hM.out.put 0 rfl [.int .i64 0, .int .i64 0] ((rwA 0 0).len (rwA 0 0)))
           generalize World.setCells _ _ _ _ = W at hM ⊢
           have c2 := hM.out.cell 0 0 rfl rfl
           have c3 := hM.out.cell 0 1 rfl rfl))
      clear c2 c3
      refine (bare_errno 2 2 _ (HandleAt.below HT.out hM.out.below)).mono ?_
      rintro e W ⟨rfl, hg⟩
      have hb := hg.below
      clear hg
      replace hM := hid (hM.out.later hb)
      clear hb
      have c4 := hM.out.cell 0 0 rfl rfl
      have c5 := hM.out.cell 0 1 rfl rfl
      go_wp2
      go_ret
      exact ⟨rfl, hM.out.below⟩


set_option maxRecDepth 100000 in
theorem lifted (os : Os) (started : os.Started) (H : Type) (enc : TypeId × Value → H) :
    ReturnsInHanded {} Tryd.checked os 4 .any (fun w args => (Rows.recordAnswersSpec.pre enc Tryd.prog Tryd.f4 [] false w args ∧ laidMetH Tryd.prog laidHandle w) ∧ sizedMet enc Tryd.prog Tryd.f4 (OpenSpec.ofChange Rows.recordAnswersSpec) false w args)
      (Rows.recordAnswersSpec.post enc Tryd.prog Tryd.f4 false true false false) := by
  refine returnsInHanded_of_change_and (C := Tryd.checked) (X := fun w _ => laidMetH Tryd.prog laidHandle w) (fun _ _ _ hh h => h.of_heap hh) own started (by kernel_rfl) Tryd.func4
    (ChangeSpec.witness_shaped (enc := enc) (C := Tryd.checked) (os := os) (X := fun w _ => laidMetH Tryd.prog laidHandle w) false (World.doorLaid Tryd.prog 400 os) #[.agg #[.int .u64 0, .int .u64 0, .int .u64 0, .int .u64 0, .int .u64 0, .int .u64 0, .int .u64 0, .int .u64 0, .int .u64 0, .int .u64 0, .int .u64 0, .int .u64 0, .int .u64 0, .int .u64 0, .int .u64 0, .int .u64 0, .int .u64 0, .int .u64 0, .int .u64 0, .int .u64 0, .int .u64 0, .int .u64 0, .int .u64 0, .int .u64 0, .int .u64 0, .int .u64 0, .int .u64 0, .int .u64 0, .int .u64 0, .int .u64 0, .int .u64 0, .int .u64 0], .int .i64 0] 8 rfl (World.shaped_of_RefB (by kernel_rfl) (by kernel_rfl)) (by kernel_rfl) (by kernel_rfl) (by kernel_rfl) (door_handle os _)) ?_
  intro W base args ds gs before hval0 hW _ _ hL _
  have hval : ∀ (j : Nat) t v, Tryd.f4.params[j]? = some t → args[j]? = some v → Value.okWide Tryd.prog W .any base t v := hval0
  have hW' := hW
  obtain ⟨p, q, hA0, hV, rfl, hfz, hnd⟩ := hW
  have hA : DataW.TrodAll enc Tryd.prog W 0 (fun _ => true) true Tryd.f4.params.toList args.toList ds p := hA0
  rw [Tryd.params4] at hA hval
  obtain ⟨v0, vs0, d0, ds0, p0, q0, hargs, rfl, rfl, h0, r0⟩ := trodAll_cons hA
  obtain ⟨v1, vs1, d1, ds1, p1, q1, rfl, rfl, rfl, h1, r1⟩ := trodAll_cons r0
  obtain ⟨rfl, rfl, rfl⟩ := trodAll_nil r1
  obtain rfl : args = #[v0, v1] := by cases args; simp_all
  obtain ⟨rfl, rfl⟩ := trodVars_none hV
  obtain ⟨t0, rfl, u0⟩ := record_of_trod (hval 0 24 v0 rfl rfl) h0
  obtain ⟨a1, rfl, rfl, rfl, w1⟩ := open_int Tryd.underlying3 (hval 1 3 v1 rfl rfl) h1
  have hT := handle_of_laid hL
  have hlt := hW'.lt
  clear hA0 hval0
  refine (walk t0 a1 u0 w1 W hT ).mono fun e W' ⟨he, hg⟩ => ?_
  subst he
  exact ⟨_, rfl, post_below (pv := []) hW' (fun _ _ _ => (trodAll_cons_mk (shut_bool Tryd.underlying4 _) trodAll_mk0)) (fun sp hsp => (trodAll_cons_mk (record_stay h0 hg (fun x hx => hlt x (by simp [hx])) (fun x hx => hsp x (by simp [hx]))) (trodAll_cons_mk (shut_int Tryd.underlying3 w1) trodAll_mk0))) (fun _ _ => rfl) (by simp) (hg.frame _)⟩

theorem over : Rows.RecordAnswersSaid :=
  OpenClaim.holds_of_wide 4 Tryd.f4 rfl rfl rfl rfl rfl rfl rfl ⟨rfl, rfl, rfl, rfl, rfl⟩ rfl rfl rfl rfl rfl (by kernel_rfl) Tryd.func4 (by kernel_rfl)
    (of_decide_eq_true (by kernel_rfl)) (by unfold Func.isWrapper; first | (rw [if_pos (by decide +kernel)]; kernel_rfl) | (rw [if_neg (by decide +kernel)]; exact ⟨rfl, rfl⟩))
    (fun os started H enc _ => lifted os started H enc)

theorem proved : Rows.RecordAnswersCardSaid :=
  Claim7.holds_tied_plain_at .later [] [.handle] true (true, "4ed31867d08273cb7b3b7cee76a4884ae3dd3c860adb1d58270af9fc687709c5") true
    over (fun _ h => by cases h) (by kernel_rfl) (fun _ h => by cases h) recordAnswers_row_tie rfl ⟨rfl, rfl⟩ (by kernel_rfl) rfl
    (fun f fn hf hfn => by
      obtain rfl : f = 4 := Option.some.inj ((show Tryd.prog.funcNamed "gristmill/gristmilllaw.RecordAnswers" = some 4 by kernel_rfl).symm.trans hf) |>.symm
      obtain rfl : fn = Tryd.f4 := (Option.some.inj (Tryd.func4.symm.trans hfn)).symm
      exact ⟨by kernel_rfl, fun j t ht => by
        rw [Tryd.params4] at ht
        have hm : t ∈ [24, 3] := by simpa using Array.mem_of_getElem? ht
        have hall : ([24, 3].all fun u => !Tryd.prog.wantsStandIn u) = true := by kernel_rfl
        exact (show Tryd.prog.wantsStandIn t = false by simpa using List.all_eq_true.1 hall t hm)⟩)
    (by kernel_rfl)
#print axioms proved
end Go.Proofs.YtgkgkiheoadbfaaDoor.Tab.recordAnswers
