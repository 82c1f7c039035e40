/- JudgeLegal is proved: for every number of a kind and every list of deeds the call returns true (whether any deeds are those of an object, and what it is then, is the document's); the library's handle of the type error stands as the program's text lays it. -/
import Derived.Test.YtaipanjigindbaaDoorRows
import Derived.Test.YtaipanjigindbaaDoorPk05
import Derived.Test.YtaipanjigindbaaDoorPk08
import Derived.Test.YtaipanjigindbaaDoorPk07
import Derived.Test.YtaipanjigindbaaDoorPk00
import Derived.Test.YtaipanjigindbaaDoorCards
import Derived.Deep.DeepCutAuto
import Derived.Deep.RegionHeld3
import Derived.SevenTiedAt

namespace Go.Proofs.YtaipanjigindbaaDoor.Tab.judgeLegal
set_option maxRecDepth 20000
open Go.ChangeShapes Go.WideShapes Go.ChangeAt Go.RowKit
set_option linter.unusedVariables false

set_option maxHeartbeats 16000000 in
set_option maxRecDepth 20000 in
theorem walk (kind : Int) (v : Value) (n : Nat) (w1 : (Lit.int .i64 kind).wf = true) (w : World) (hT : HandleAt w) (D0 : Dds w v n) :
    Calls Tryd.prog 3 #[.int .i64 kind, v] w fun e w' => e = .returned (.bool true) ∧ Below w.heap.size w w' := by
  have HT : Hid (HandleAt w) := hT
  clear hT w1
  obtain ⟨q, D⟩ := Dds.dq D0
  clear D0
  obtain ⟨va, vc, rfl⟩ := D.form
  have HD : Hid _ := hid D
  clear D
  by_cases hn : 60 < (n : Int)
  · have hM : Hid _ := (Ms.nil w)
    go_enter Tryd.func3, Tryd.ntmps3
    go_wp2
    go_ret
    exact ⟨rfl, hM.out.below⟩
  · by_cases hk : 1 ≤ kind ∧ kind ≤ 6
    · obtain ⟨kd, rfl⟩ := Int.eq_ofNat_of_zero_le (show 0 ≤ kind by omega)
      have h1 : 1 ≤ kd := by omega
      have h6 : kd ≤ 6 := by omega
      clear hk
      rcases first_bad (kd : Nat) q n with hO | ⟨m, hm, hO, hB⟩
      · have R : Hid (∀ {w : World} (D : Dq w (.slice va n vc) n q), _) := fun {w} D => legalR_yes h1 h6 D hO
        have P : Hid (∀ {w : World} (D : Dq w (.slice va n vc) n q), _) := fun {w} D => legal_yes h1 h6 D hO
        clear h1 h6 hO
        generalize oi (kd : Nat) q n = cn at *
        have hM : Hid _ := (Ms.nil w)
        go_enter Tryd.func3, Tryd.ntmps3
        go_wp2_with fail
        refine (R.out (HD.out.later hM.out.below)).mono ?_
        rintro e W ⟨bq, rfl, hq, hWq, hb⟩
        replace hM := hid (hM.out.laterB hb hq hWq)
        clear hb
        generalize hsz : w.heap.size = n at hM ⊢
        clear hsz
        obtain ⟨bx1, hbx1⟩ : ∃ q, q = W.heap.size := ⟨_, rfl⟩
        replace hM := hid (hM.out.born [.int .i64 0, .int .i64 0] 26 (b := bx1) hbx1)
        have Hbx1 : Hid _ := hbx1
        clear hbx1
        go_wp2_with (first
          | (rw [← Hbx1.out]; refine sR rfl (hM.out.at 0 rfl) rfl ((rwF 0 0).len (rwF 0 (-1))) (rwF 0 (-1)) ?_
             replace hM := hid (hM.out.put 0 rfl [.int .i64 0, .int .i64 (-1)] ((rwF 0 0).len (rwF 0 (-1))))
             generalize World.setCells _ _ _ _ = W at hM ⊢))
        refine (P.out (HD.out.later hM.out.below)).mono ?_
        rintro e W ⟨rfl, hb⟩
        replace hM := hid (hM.out.later hb)
        clear hb
        obtain ⟨bx2, hbx2⟩ : ∃ q, q = W.heap.size := ⟨_, rfl⟩
        replace hM := hid (hM.out.bornR wz_all.symm 31 (b := bx2) hbx2)
        have Hbx2 : Hid _ := hbx2
        clear hbx2
        go_wp2_with (first
          | (rw [← Hbx2.out]; refine sR rfl (hM.out.at 0 rfl) rfl ((rwC wz).len (rwC cn)) (rwC cn) ?_
             replace hM := hid (hM.out.put 0 rfl (wl cn) ((rwC wz).len (rwC cn)))
             generalize World.setCells _ _ _ _ = W at hM ⊢))
        have EE := cells_equal cn
        replace hM := hid (hM.out.drew)
        refine wp_region_held_drew (S := fun w' => Bo w' bx1 [.int .i64 0, .int .i64 (-1)] ∧ Bo w' bx2 (wl cn)) (by kernel_rfl) ⟨hM.out.at 1 rfl, hM.out.at 0 rfl⟩ (fun hH => ?_)
        generalize World.drew _ = W at hM hH  ⊢
        refine tk 0 rfl hH ?_
        simp only [Act.put, p1, p2, p3]
        refine tkR 1 rfl hH (fun _ h => h.1) (rwF 0 (-1)) ?_
        simp only [Act.put, p1, p2, p3]
        refine rd1 2 rfl (fun K hK => ?_)
        go_simp
        refine (placed_nil _).mono ?_
        rintro e W ⟨rfl, hb⟩
        replace hM := hid (hM.out.later hb)
        clear hb
        go_wp2_with fail
        refine hK.out _ _ ⟨hM.out.at 1 rfl, hM.out.at 0 rfl⟩ (fun hH => ?_)
        clear hK K
        try simp only [Act.put, p1, p2, p3]
        refine tk 3 rfl hH ?_
        simp only [Act.put, p1, p2, p3]
        refine tkR 4 rfl hH (fun _ h => h.2) (rwC cn) ?_
        simp only [Act.put, p1, p2, p3]
        refine tk 5 rfl hH ?_
        simp only [Act.put, p1, p2, p3]
        refine rd1 6 rfl (fun K hK => ?_)
        go_simp
        refine (cellsOf_is (Wf.of_bo (hM.out.at 2 rfl))).mono ?_
        rintro e W ⟨rfl, hb⟩
        replace hM := hid (hM.out.later hb)
        clear hb
        go_wp2_with fail
        refine hK.out _ _ ⟨hM.out.at 1 rfl, hM.out.at 0 rfl⟩ (fun hH => ?_)
        clear hK K
        try simp only [Act.put, p1, p2, p3]
        refine tk 7 rfl hH ?_
        simp only [Act.put, p1, p2, p3]
        refine tk 8 rfl hH ?_
        simp only [Act.put, p1, p2, p3]
        refine tk 9 rfl hH ?_
        simp only [Act.put, p1, p2, p3]
        refine wpAnyH_done (by kernel_rfl) ?_ _
        go_wp2
        go_ret
        exact ⟨rfl, hM.out.below⟩
      · have R : Hid (∀ {w : World} (D : Dq w (.slice va n vc) n q), _) := fun {w} D => legalR_not h1 h6 D hm hO hB
        have P : Hid (∀ {w : World} (D : Dq w (.slice va n vc) n q), _) := fun {w} D => legal_not h1 h6 D hm hO hB
        clear h1 h6 hO hB hm
        have hM : Hid _ := (Ms.nil w)
        go_enter Tryd.func3, Tryd.ntmps3
        go_wp2_with fail
        refine (R.out (HD.out.later hM.out.below)).mono ?_
        rintro e W ⟨rfl, hb⟩
        replace hM := hid (hM.out.later hb)
        clear hb
        generalize hsz : w.heap.size = n at hM ⊢
        clear hsz
        obtain ⟨bx1, hbx1⟩ : ∃ q, q = W.heap.size := ⟨_, rfl⟩
        replace hM := hid (hM.out.born [.int .i64 0, .int .i64 0] 26 (b := bx1) hbx1)
        have Hbx1 : Hid _ := hbx1
        clear hbx1
        go_wp2_with (first
          | (rw [← Hbx1.out]; refine sR rfl (hM.out.at 0 rfl) rfl ((rwF 0 0).len (rwF 13 (m : Nat))) (rwF 13 (m : Nat)) ?_
             replace hM := hid (hM.out.put 0 rfl [.int .i64 13, .int .i64 (m : Nat)] ((rwF 0 0).len (rwF 13 (m : Nat))))
             generalize World.setCells _ _ _ _ = W at hM ⊢))
        refine (P.out (HD.out.later hM.out.below)).mono ?_
        rintro e W ⟨ba, rfl, hq, hWq, hb⟩
        replace hM := hid (hM.out.laterB hb hq hWq)
        clear hb
        obtain ⟨bx2, hbx2⟩ : ∃ q, q = W.heap.size := ⟨_, rfl⟩
        replace hM := hid (hM.out.bornR wz_all.symm 31 (b := bx2) hbx2)
        have Hbx2 : Hid _ := hbx2
        clear hbx2
        go_wp2_with (first
          | (rw [← Hbx2.out]; refine sR rfl (hM.out.at 0 rfl) rfl ((rwC wz).len (rwC wz)) (rwC wz) ?_
             replace hM := hid (hM.out.put 0 rfl (wl wz) ((rwC wz).len (rwC wz)))
             generalize World.setCells _ _ _ _ = W at hM ⊢))
        have EE := cells_equal wz
        replace hM := hid (hM.out.drew)
        refine wp_region_held_drew (S := fun w' => Bo w' bx1 [.int .i64 13, .int .i64 (m : Nat)] ∧ Bo w' bx2 (wl wz)) (by kernel_rfl) ⟨hM.out.at 2 rfl, hM.out.at 0 rfl⟩ (fun hH => ?_)
        generalize World.drew _ = W at hM hH  ⊢
        refine tk 0 rfl hH ?_
        simp only [Act.put, p1, p2, p3]
        refine tkR 1 rfl hH (fun _ h => h.1) (rwF 13 (m : Nat)) ?_
        simp only [Act.put, p1, p2, p3]
        refine rd1 2 rfl (fun K hK => ?_)
        go_simp
        refine (placed_at 13 (m : Nat) ba _ (HT.out.below hM.out.below) (hM.out.at 1 rfl)).mono ?_
        rintro e W ⟨rfl, hb⟩
        replace hM := hid (hM.out.later hb)
        clear hb
        go_wp2_with fail
        refine hK.out _ _ ⟨hM.out.at 2 rfl, hM.out.at 0 rfl⟩ (fun hH => ?_)
        clear hK K
        try simp only [Act.put, p1, p2, p3]
        refine tk 3 rfl hH ?_
        simp only [Act.put, p1, p2, p3]
        refine tkR 4 rfl hH (fun _ h => h.2) (rwC wz) ?_
        simp only [Act.put, p1, p2, p3]
        refine tk 5 rfl hH ?_
        simp only [Act.put, p1, p2, p3]
        refine rd1 6 rfl (fun K hK => ?_)
        go_simp
        refine (cellsOf_nil _).mono ?_
        rintro e W ⟨rfl, hb⟩
        replace hM := hid (hM.out.later hb)
        clear hb
        go_wp2_with fail
        refine hK.out _ _ ⟨hM.out.at 2 rfl, hM.out.at 0 rfl⟩ (fun hH => ?_)
        clear hK K
        try simp only [Act.put, p1, p2, p3]
        refine tk 7 rfl hH ?_
        simp only [Act.put, p1, p2, p3]
        refine tk 8 rfl hH ?_
        simp only [Act.put, p1, p2, p3]
        refine tk 9 rfl hH ?_
        simp only [Act.put, p1, p2, p3]
        refine wpAnyH_done (by kernel_rfl) ?_ _
        go_wp2
        go_ret
        exact ⟨rfl, hM.out.below⟩
    · have R : Hid (∀ w : World, _) := fun w => legalR_no hk w (.slice va n vc)
      have P : Hid (∀ w : World, _) := fun w => legal_no hk w (.slice va n vc)
      clear hk
      have hM : Hid _ := (Ms.nil w)
      go_enter Tryd.func3, Tryd.ntmps3
      go_wp2_with fail
      refine (R.out _).mono ?_
      rintro e W ⟨rfl, hb⟩
      replace hM := hid (hM.out.later hb)
      clear hb
      generalize hsz : w.heap.size = n at hM ⊢
      clear hsz
      obtain ⟨bx1, hbx1⟩ : ∃ q, q = W.heap.size := ⟨_, rfl⟩
      replace hM := hid (hM.out.born [.int .i64 0, .int .i64 0] 26 (b := bx1) hbx1)
      have Hbx1 : Hid _ := hbx1
      clear hbx1
      go_wp2_with (first
        | (rw [← Hbx1.out]; refine sR rfl (hM.out.at 0 rfl) rfl ((rwF 0 0).len (rwF 1 (-1))) (rwF 1 (-1)) ?_
           replace hM := hid (hM.out.put 0 rfl [.int .i64 1, .int .i64 (-1)] ((rwF 0 0).len (rwF 1 (-1))))
           generalize World.setCells _ _ _ _ = W at hM ⊢))
      refine (P.out _).mono ?_
      rintro e W ⟨rfl, hb⟩
      replace hM := hid (hM.out.later hb)
      clear hb
      obtain ⟨bx2, hbx2⟩ : ∃ q, q = W.heap.size := ⟨_, rfl⟩
      replace hM := hid (hM.out.bornR wz_all.symm 31 (b := bx2) hbx2)
      have Hbx2 : Hid _ := hbx2
      clear hbx2
      go_wp2_with (first
        | (rw [← Hbx2.out]; refine sR rfl (hM.out.at 0 rfl) rfl ((rwC wz).len (rwC wz)) (rwC wz) ?_
           replace hM := hid (hM.out.put 0 rfl (wl wz) ((rwC wz).len (rwC wz)))
           generalize World.setCells _ _ _ _ = W at hM ⊢))
      have EE := cells_equal wz
      replace hM := hid (hM.out.drew)
      refine wp_region_held_drew (S := fun w' => Bo w' bx1 [.int .i64 1, .int .i64 (-1)] ∧ Bo w' bx2 (wl wz)) (by kernel_rfl) ⟨hM.out.at 1 rfl, hM.out.at 0 rfl⟩ (fun hH => ?_)
      generalize World.drew _ = W at hM hH  ⊢
      refine tk 0 rfl hH ?_
      simp only [Act.put, p1, p2, p3]
      refine tkR 1 rfl hH (fun _ h => h.1) (rwF 1 (-1)) ?_
      simp only [Act.put, p1, p2, p3]
      refine rd1 2 rfl (fun K hK => ?_)
      go_simp
      refine (placed_errno 1 _ (HT.out.below hM.out.below)).mono ?_
      rintro e W ⟨rfl, hb⟩
      replace hM := hid (hM.out.later hb)
      clear hb
      go_wp2_with fail
      refine hK.out _ _ ⟨hM.out.at 1 rfl, hM.out.at 0 rfl⟩ (fun hH => ?_)
      clear hK K
      try simp only [Act.put, p1, p2, p3]
      refine tk 3 rfl hH ?_
      simp only [Act.put, p1, p2, p3]
      refine tkR 4 rfl hH (fun _ h => h.2) (rwC wz) ?_
      simp only [Act.put, p1, p2, p3]
      refine tk 5 rfl hH ?_
      simp only [Act.put, p1, p2, p3]
      refine rd1 6 rfl (fun K hK => ?_)
      go_simp
      refine (cellsOf_nil _).mono ?_
      rintro e W ⟨rfl, hb⟩
      replace hM := hid (hM.out.later hb)
      clear hb
      go_wp2_with fail
      refine hK.out _ _ ⟨hM.out.at 1 rfl, hM.out.at 0 rfl⟩ (fun hH => ?_)
      clear hK K
      try simp only [Act.put, p1, p2, p3]
      refine tk 7 rfl hH ?_
      simp only [Act.put, p1, p2, p3]
      refine tk 8 rfl hH ?_
      simp only [Act.put, p1, p2, p3]
      refine tk 9 rfl hH ?_
      simp only [Act.put, p1, p2, p3]
      refine wpAnyH_done (by kernel_rfl) ?_ _
      go_wp2
      go_ret
      exact ⟨rfl, hM.out.below⟩


set_option maxRecDepth 100000 in
theorem lifted (os : Os) (started : os.Started) (H : Type) (enc : TypeId × Value → H) :
    ReturnsInHanded {} Tryd.checked os 3 .any (fun w args => (Rows.judgeLegalSpec.pre enc Tryd.prog Tryd.f3 [] false w args ∧ laidMetH Tryd.prog laidHandle w) ∧ sizedMet enc Tryd.prog Tryd.f3 (OpenSpec.ofChange Rows.judgeLegalSpec) false w args)
      (Rows.judgeLegalSpec.post enc Tryd.prog Tryd.f3 false true false false) := by
  refine returnsInHanded_of_change_and (C := Tryd.checked) (X := fun w _ => laidMetH Tryd.prog laidHandle w) (fun _ _ _ hh h => h.of_heap hh) own started (by kernel_rfl) Tryd.func3
    (ChangeSpec.witness_shaped (enc := enc) (C := Tryd.checked) (os := os) (X := fun w _ => laidMetH Tryd.prog laidHandle w) false (World.doorLaid Tryd.prog 400 os) #[.int .i64 0, .slice none 0 0] 8 rfl (World.shaped_of_RefB (by kernel_rfl) (by kernel_rfl)) (by kernel_rfl) (by kernel_rfl) (by kernel_rfl) (door_handle os _)) ?_
  intro W base args ds gs before hval0 hW _ _ hL _
  have hval : ∀ (j : Nat) t v, Tryd.f3.params[j]? = some t → args[j]? = some v → Value.okWide Tryd.prog W .any base t v := hval0
  have hW' := hW
  obtain ⟨p, q, hA0, hV, rfl, hfz, hnd⟩ := hW
  have hA : DataW.TrodAll enc Tryd.prog W 0 (fun _ => true) true Tryd.f3.params.toList args.toList ds p := hA0
  rw [Tryd.params3] at hA hval
  obtain ⟨v0, vs0, d0, ds0, p0, q0, hargs, rfl, rfl, h0, r0⟩ := trodAll_cons hA
  obtain ⟨v1, vs1, d1, ds1, p1, q1, rfl, rfl, rfl, h1, r1⟩ := trodAll_cons r0
  obtain ⟨rfl, rfl, rfl⟩ := trodAll_nil r1
  obtain rfl : args = #[v0, v1] := by cases args; simp_all
  obtain ⟨rfl, rfl⟩ := trodVars_none hV
  obtain ⟨a0, rfl, rfl, rfl, w0⟩ := open_int Tryd.underlying3 (hval 0 3 v0 rfl rfl) h0
  obtain ⟨n1, D1⟩ := adeeds_of_trod (hval 1 22 v1 rfl rfl) h1
  have hT := handle_of_laid hL
  have hlt := hW'.lt
  clear hA0 hval0
  refine (walk a0 v1 n1 w0 W hT D1).mono fun e W' ⟨he, hg⟩ => ?_
  subst he
  exact ⟨_, rfl, post_below (pv := []) hW' (fun _ _ _ => (trodAll_cons_mk (shut_bool Tryd.underlying4 _) trodAll_mk0)) (fun sp hsp => (trodAll_cons_mk (shut_int Tryd.underlying3 w0) (trodAll_cons_mk (adeeds_stay h1 hg (fun x hx => hlt x (by simp [hx])) (fun x hx => hsp x (by simp [hx]))) trodAll_mk0))) (fun _ _ => rfl) (by simp) (hg.frame _)⟩

theorem over : Rows.JudgeLegalSaid :=
  OpenClaim.holds_of_wide 3 Tryd.f3 rfl rfl rfl rfl rfl rfl rfl ⟨rfl, rfl, rfl, rfl, rfl⟩ rfl rfl rfl rfl rfl (by kernel_rfl) Tryd.func3 (by kernel_rfl)
    (of_decide_eq_true (by kernel_rfl)) (by unfold Func.isWrapper; first | (rw [if_pos (by decide +kernel)]; kernel_rfl) | (rw [if_neg (by decide +kernel)]; exact ⟨rfl, rfl⟩))
    (fun os started H enc _ => lifted os started H enc)

theorem proved : Rows.JudgeLegalCardSaid :=
  Claim7.holds_tied_plain_at .later [] [.handle] true (true, "393dd0ee3179eace80c24e7cab550b860e25d86ef87c5343551562d36c5e0fff") true
    over (fun _ h => by cases h) (by kernel_rfl) (fun _ h => by cases h) judgeLegal_row_tie rfl ⟨rfl, rfl⟩ (by kernel_rfl) rfl
    (fun f fn hf hfn => by
      obtain rfl : f = 3 := Option.some.inj ((show Tryd.prog.funcNamed "gristmill/gristmilllaw.JudgeLegal" = some 3 by kernel_rfl).symm.trans hf) |>.symm
      obtain rfl : fn = Tryd.f3 := (Option.some.inj (Tryd.func3.symm.trans hfn)).symm
      exact ⟨by kernel_rfl, fun j t ht => by
        rw [Tryd.params3] at ht
        have hm : t ∈ [3, 22] := by simpa using Array.mem_of_getElem? ht
        have hall : ([3, 22].all fun u => !Tryd.prog.wantsStandIn u) = true := by kernel_rfl
        exact (show Tryd.prog.wantsStandIn t = false by simpa using List.all_eq_true.1 hall t hm)⟩)
    (by kernel_rfl)
#print axioms proved
end Go.Proofs.YtaipanjigindbaaDoor.Tab.judgeLegal
