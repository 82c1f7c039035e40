/- RecordNews is proved: for every number of a kind the call returns true (a record of an object of any kind is the document's); what the variables hold that the row lists is its condition. -/
import Derived.Test.YtgkgkiheoadbfaaDoorRows
import Derived.Test.YtgkgkiheoadbfaaDoorPk01
import Derived.Test.YtgkgkiheoadbfaaDoorPk02
import Derived.Test.YtgkgkiheoadbfaaDoorCards
import Derived.Deep.DeepCutAuto
import Derived.Deep.RegionHeld3
import Derived.SevenTiedAt

namespace Go.Proofs.YtgkgkiheoadbfaaDoor.Tab.recordNews
set_option maxRecDepth 20000
open Go.ChangeShapes Go.WideShapes Go.ChangeAt Go.RowKit
set_option linter.unusedVariables false

set_option maxHeartbeats 8000000 in
set_option maxRecDepth 20000 in
theorem walk (a0 : Int) (w0 : (Lit.int .i64 a0).wf = true) (w : World) (E : En w) :
    Calls Tryd.prog 3 #[.int .i64 a0] w fun e w' => e = .returned (.bool true) ∧ Below w.heap.size w w' := by
  have EN : Hid (En w) := E
  clear E w0
  have EZ := rec_zero
  have EE := rec_equal
  by_cases h : a0 < 1 ∨ 6 < a0
  · have NW : Hid (∀ w : World, _) := recNew_no (k := a0) (by omega)
    have KN : Hid (∀ w : World, _) := KName_no h
    clear h EE
    have hM : Hid _ := (Ms.nil w)
    go_enter Tryd.func3, Tryd.ntmps3
    go_wp2_with fail
    refine (NW.out _).mono ?_
    rintro e W ⟨rfl, hb⟩
    replace hM := hid (hM.out.later hb)
    clear hb
    generalize hsz : w.heap.size = n at hM ⊢
    clear hsz
    obtain ⟨bx1, hbx1⟩ : ∃ q, q = W.heap.size := ⟨_, rfl⟩
    replace hM := hid (hM.out.bornR rl_zero.symm 24 (b := bx1) hbx1)
    have Hbx1 : Hid _ := hbx1
    clear hbx1
    go_wp2_with (first
      | (rw [← Hbx1.out]; refine sR rfl (hM.out.at 0 rfl) rfl ((rwR wz).len (rwR wz)) (rwR wz) ?_
         replace hM := hid (hM.out.put 0 rfl (rl wz) ((rwR wz).len (rwR wz)))
         generalize World.setCells _ _ _ _ = W at hM ⊢))
    refine (KN.out _).mono ?_
    rintro e ux ⟨rfl, hw⟩
    rw [hw]; clear hw ux
    go_wp2_with fail
    refine (bare_errno 1 1 _ (HandleAt.below EN.out.hd hM.out.below)).mono ?_
    rintro e W ⟨rfl, hg⟩
    have hb := hg.below
    clear hg
    replace hM := hid (hM.out.later hb)
    clear hb
    go_wp2_with (first
      | (refine lW rfl (hM.out.at 0 rfl) rfl (rwR wz) ?_))
    go_ret
    exact ⟨rfl, hM.out.below⟩
  · obtain ⟨k, rfl⟩ : ∃ k : Nat, a0 = (k : Int) := Int.eq_ofNat_of_zero_le (by omega)
    have h1 : 1 ≤ k := by omega
    have h6 : k ≤ 6 := by omega
    have NW : Hid (∀ w : World, _) := recNew_yes h1 h6
    have KN : Hid (∀ w : World, As w → Calls Tryd.prog 6 #[.int .i64 (k : Nat)] w fun e w' => e = .returned (.string ⟨(knm k).toArray⟩) ∧ Below w.heap.size w w') := fun w hA => by
      obtain ⟨j, rfl⟩ : ∃ j, k = j + 1 := ⟨k - 1, by omega⟩
      exact KName_yes (by omega) w hA
    have NQ : (knm k == [63]) = false := by
      obtain ⟨j, rfl⟩ : ∃ j, k = j + 1 := ⟨k - 1, by omega⟩
      exact ne_q j (by omega)
    have NQ2 : knm k ≠ [63] := fun e => by rw [e] at NQ; exact absurd NQ (by decide)
    have NR : Hid (∀ w : World, _) := NewRec_is k
    have WD : Hid (∀ w : World, _) := fun w => Words_is (ρ := newR k) (c := wz) (th := tg (k : Nat) (.slice none 0 0) Tb.zero 0) (tg_length _ _ _ _) (tg_one _ rfl _ _) (rwTg k) rfl h6 (fun j _ => by unfold ob newR wz; rw [if_neg (by omega)]) (fun j _ => by unfold newR; split <;> omega) (fun q hq => Or.inl (by unfold newR; rw [if_neg (by omega)])) w (fun W _ => Cells0 h1 h6 W)
    have NWR : rl (nw (newR k)) = rl (newR k) := rl_congr fun j hj => by
      unfold nw newR
      by_cases e : j = 26
      · subst e; rfl
      · rw [if_neg e]
        by_cases e2 : j < 29
        · rw [if_pos e2]
        · rw [if_neg e2, if_neg (by omega)]
    have RC : Hid (∀ {b : Nat} {w : World} (hB : Bo w b (rl (nw (newR k)))), Calls Tryd.prog 8 #[.slice (some ⟨b, 0, none⟩) 32 32] w fun e w' => e = .returned (.agg (rl (newR k)).toArray) ∧ Below w.heap.size w w') := fun {b w} hB => by
      rw [NWR] at hB
      exact recordOf_is w hB
    clear h h1 h6 NWR
    have hM : Hid _ := (Ms.nil w)
    go_enter Tryd.func3, Tryd.ntmps3
    go_wp2_with fail
    refine (NW.out _).mono ?_
    rintro e W ⟨rfl, hb⟩
    replace hM := hid (hM.out.later hb)
    clear hb
    generalize hsz : w.heap.size = n at hM ⊢
    clear hsz
    obtain ⟨bx1, hbx1⟩ : ∃ q, q = W.heap.size := ⟨_, rfl⟩
    replace hM := hid (hM.out.bornR rl_zero.symm 24 (b := bx1) hbx1)
    have Hbx1 : Hid _ := hbx1
    clear hbx1
    go_wp2_with (first
      | (rw [← Hbx1.out]; refine sR rfl (hM.out.at 0 rfl) rfl ((rwR wz).len (rwR (newR k))) (rwR (newR k)) ?_
         replace hM := hid (hM.out.put 0 rfl (rl (newR k)) ((rwR wz).len (rwR (newR k))))
         generalize World.setCells _ _ _ _ = W at hM ⊢))
    refine (KN.out _ (EN.out.asc.later hM.out.below)).mono ?_
    rintro e W ⟨rfl, hb⟩
    replace hM := hid (hM.out.later hb)
    clear hb
    go_wp2_with fail
    replace hM := hid (hM.out.drew)
    refine wp_region_held_drew (S := fun w' => Bo w' bx1 (rl (newR k))) (by kernel_rfl) (hM.out.at 0 rfl) (fun hH => ?_)
    generalize World.drew _ = W at hM hH  ⊢
    refine tk 0 rfl hH ?_
    simp only [Act.put, p1, p2, p3]
    refine tk 1 rfl hH ?_
    simp only [Act.put, p1, p2, p3]
    refine tk 2 rfl hH ?_
    simp only [Act.put, p1, p2, p3]
    refine tkR 3 rfl hH (fun _ h => h) (rwR (newR k)) ?_
    simp only [Act.put, p1, p2, p3]
    refine tk 4 rfl hH ?_
    simp only [Act.put, p1, p2, p3]
    refine rd1 5 rfl (fun K hK => ?_)
    go_simp
    refine (NR.out _).mono ?_
    rintro e W ⟨rfl, hb⟩
    replace hM := hid (hM.out.later hb)
    clear hb
    go_wp2_with fail
    refine hK.out _ _ (hM.out.at 0 rfl) (fun hH => ?_)
    clear hK K
    try simp only [Act.put, p1, p2, p3]
    refine rd1 6 rfl (fun K hK => ?_)
    go_simp
    refine (WD.out _).mono ?_
    rintro e W ⟨⟨bq, rfl, hq, hWq⟩, hb⟩
    replace hM := hid (hM.out.laterB hb hq hWq)
    clear hb
    go_wp2_with fail
    refine hK.out _ _ (hM.out.at 1 rfl) (fun hH => ?_)
    clear hK K
    try simp only [Act.put, p1, p2, p3]
    refine rd1 7 rfl (fun K hK => ?_)
    go_simp
    refine (RC.out (hM.out.at 0 rfl)).mono ?_
    rintro e W ⟨rfl, hb⟩
    replace hM := hid (hM.out.later hb)
    clear hb
    go_wp2_with fail
    refine hK.out _ _ (hM.out.at 1 rfl) (fun hH => ?_)
    clear hK K
    try simp only [Act.put, p1, p2, p3]
    refine tk 8 rfl hH ?_
    simp only [Act.put, p1, p2, p3]
    refine tk 9 rfl hH ?_
    simp only [Act.put, p1, p2, p3]
    refine tk 10 rfl hH ?_
    simp only [Act.put, p1, p2, p3]
    refine wpAnyH_done (by kernel_rfl) ?_ _
    go_wp2
    go_ret
    exact ⟨rfl, hM.out.below⟩


set_option maxRecDepth 100000 in
theorem lifted (os : Os) (started : os.Started) (H : Type) (enc : TypeId × Value → H) :
    ReturnsInHanded {} Tryd.checked os 3 .any (fun w args => (Rows.recordNewsSpec.pre enc Tryd.prog Tryd.f3 [] false w args ∧ laidMetH Tryd.prog laidM w) ∧ sizedMet enc Tryd.prog Tryd.f3 (OpenSpec.ofChange Rows.recordNewsSpec) false w args)
      (Rows.recordNewsSpec.post enc Tryd.prog Tryd.f3 false true false false) := by
  refine returnsInHanded_of_change_and (C := Tryd.checked) (X := fun w _ => laidMetH Tryd.prog laidM w) (fun _ _ _ hh h => h.of_heap hh) own started (by kernel_rfl) Tryd.func3
    (ChangeSpec.witness_shaped (enc := enc) (C := Tryd.checked) (os := os) (X := fun w _ => laidMetH Tryd.prog laidM w) false (World.doorLaid Tryd.prog 1000 os) #[.int .i64 0] 8 rfl (World.shaped_of_RefB (by kernel_rfl) (by kernel_rfl)) (by kernel_rfl) (by kernel_rfl) (by kernel_rfl) (door_M os _)) ?_
  intro W base args ds gs before hval0 hW _ _ hL _
  have hval : ∀ (j : Nat) t v, Tryd.f3.params[j]? = some t → args[j]? = some v → Value.okWide Tryd.prog W .any base t v := hval0
  have hW' := hW
  obtain ⟨p, q, hA0, hV, rfl, hfz, hnd⟩ := hW
  have hA : DataW.TrodAll enc Tryd.prog W 0 (fun _ => true) true Tryd.f3.params.toList args.toList ds p := hA0
  rw [Tryd.params3] at hA hval
  obtain ⟨v0, vs0, d0, ds0, p0, q0, hargs, rfl, rfl, h0, r0⟩ := trodAll_cons hA
  obtain ⟨rfl, rfl, rfl⟩ := trodAll_nil r0
  obtain rfl : args = #[v0] := by cases args; simp_all
  obtain ⟨rfl, rfl⟩ := trodVars_none hV
  obtain ⟨a0, rfl, rfl, rfl, w0⟩ := open_int Tryd.underlying3 (hval 0 3 v0 rfl rfl) h0
  have hT := env_of_M hL
  have hlt := hW'.lt
  clear hA0 hval0
  refine (walk a0 w0 W hT ).mono fun e W' ⟨he, hg⟩ => ?_
  subst he
  exact ⟨_, rfl, post_below (pv := []) hW' (fun _ _ _ => (trodAll_cons_mk (shut_bool Tryd.underlying4 _) trodAll_mk0)) (fun sp hsp => (trodAll_cons_mk (shut_int Tryd.underlying3 w0) trodAll_mk0)) (fun _ _ => rfl) (by simp) (hg.frame _)⟩

theorem over : Rows.RecordNewsSaid :=
  OpenClaim.holds_of_wide 3 Tryd.f3 rfl rfl rfl rfl rfl rfl rfl ⟨rfl, rfl, rfl, rfl, rfl⟩ rfl rfl rfl rfl rfl (by kernel_rfl) Tryd.func3 (by kernel_rfl)
    (of_decide_eq_true (by kernel_rfl)) (by unfold Func.isWrapper; first | (rw [if_pos (by decide +kernel)]; kernel_rfl) | (rw [if_neg (by decide +kernel)]; exact ⟨rfl, rfl⟩))
    (fun os started H enc _ => lifted os started H enc)

theorem proved : Rows.RecordNewsCardSaid :=
  Claim7.holds_tied_plain_at .later [] [.handle, .listed, .data] true (true, "4ed31867d08273cb7b3b7cee76a4884ae3dd3c860adb1d58270af9fc687709c5") true
    over (fun _ h => by cases h) (by kernel_rfl) (fun _ h => by cases h) recordNews_row_tie rfl ⟨rfl, rfl⟩ (by kernel_rfl) rfl
    (fun f fn hf hfn => by
      obtain rfl : f = 3 := Option.some.inj ((show Tryd.prog.funcNamed "gristmill/gristmilllaw.RecordNews" = some 3 by kernel_rfl).symm.trans hf) |>.symm
      obtain rfl : fn = Tryd.f3 := (Option.some.inj (Tryd.func3.symm.trans hfn)).symm
      exact ⟨by kernel_rfl, fun j t ht => by
        rw [Tryd.params3] at ht
        have hm : t ∈ [3] := by simpa using Array.mem_of_getElem? ht
        have hall : ([3].all fun u => !Tryd.prog.wantsStandIn u) = true := by kernel_rfl
        exact (show Tryd.prog.wantsStandIn t = false by simpa using List.all_eq_true.1 hall t hm)⟩)
    (by kernel_rfl)
#print axioms proved
end Go.Proofs.YtgkgkiheoadbfaaDoor.Tab.recordNews
