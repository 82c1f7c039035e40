/- WordOrder is proved: for every word, places, widths and numbers the call returns true (bits that are set at two places that don't meet are the same, the one first or the other); the library's table of 64 numbers stands as the program's text lays it. -/
import Derived.Test.YtgbjgkalcoojdabDoorKeep
import Derived.Test.YtgbjgkalcoojdabDoorLaidTab
import Derived.Test.YtgbjgkalcoojdabDoorCards
import Derived.SevenTiedAt

namespace Go.Proofs.YtgbjgkalcoojdabDoor.wordOrder
open Go.ChangeShapes Go.WideShapes Go.ChangeAt Go.RowKit
set_option linter.unusedVariables false

theorem set_set (x a n b m u v : Nat) (hx : x < 18446744073709551616) (h1 : a + n ≤ b) (h2 : b + m ≤ 64) (hu : u < 2 ^ n) (hv : v < 2 ^ m) :
    setN (setN x a n u) b m v = setN (setN x b m v) a n u := by
  have k1 := setN_lt x a n u hx (by omega) hu
  have k2 := setN_lt x b m v hx h2 hv
  refine eq_of_bits _ _ (setN_lt _ _ _ _ k1 h2 hv) (setN_lt _ _ _ _ k2 (by omega) hu) (fun j hj => ?_)
  rw [testBit_setN _ _ _ _ _ h2 hv hj, testBit_setN _ _ _ _ _ (by omega) hu hj, testBit_setN _ _ _ _ _ (by omega) hu hj, testBit_setN _ _ _ _ _ h2 hv hj]
  by_cases c1 : b ≤ j ∧ j < b + m
  · rw [if_pos c1, if_neg (by omega), if_pos c1]
  · rw [if_neg c1, if_neg c1]

set_option maxHeartbeats 1000000 in
theorem walk (a0 a1 a2 a3 a4 a5 : Int) (w0 : (Lit.int .u64 a0).wf = true) (w1 : (Lit.int .i64 a1).wf = true) (w2 : (Lit.int .i64 a2).wf = true) (w3 : (Lit.int .i64 a3).wf = true) (w4 : (Lit.int .u64 a4).wf = true) (w5 : (Lit.int .u64 a5).wf = true) (w : World) (hT : TabAt w) :
    Calls Tryd.prog 5 #[.int .u64 a0, .int .i64 a1, .int .i64 a2, .int .i64 a3, .int .u64 a4, .int .u64 a5] w fun e w' => e = .returned (.bool true) ∧ Grown w w' := by
  obtain ⟨b0, b1⟩ := bounds_u64 w0
  obtain ⟨x, rfl⟩ := Int.eq_ofNat_of_zero_le b0
  have hx : x < 18446744073709551616 := by omega
  obtain ⟨c0, c1⟩ := bounds_u64 w4
  obtain ⟨u, rfl⟩ := Int.eq_ofNat_of_zero_le c0
  obtain ⟨d0, d1⟩ := bounds_u64 w5
  obtain ⟨v, rfl⟩ := Int.eq_ofNat_of_zero_le d0
  clear w0 w1 w2 w3 w4 w5 b0 b1 c0 c1 d0 d1
  go_enter Tryd.func5, Tryd.ntmps5
  go_wp2_with fail
  refine (worded_any _ hT).mono ?_
  rintro e w' ⟨rfl, q1, rfl⟩
  go_wp2_with fail
  refine (pick_any a1 63 _ (by omega) (by omega)).mono ?_
  rintro e w' ⟨⟨a, ha, rfl⟩, rfl⟩
  go_wp2_with fail
  obtain ⟨T, hT0⟩ : ∃ T : Nat, T = a + 1 := ⟨_, rfl⟩
  have e1 : (1 : Int) + (a : Nat) = (T : Nat) := by omega
  have hT1 : 1 ≤ T := by omega
  have hT2 : T < 64 := by omega
  rw [e1]
  clear e1 hT0 ha
  refine (pick_any a2 T _ (by omega) (by omega)).mono ?_
  rintro e w' ⟨⟨n, hn, rfl⟩, rfl⟩
  go_wp2_with fail
  have e2 : (64 : Int) - (T : Nat) = ((64 - T : Nat) : Int) := by omega
  rw [e2]
  clear e2
  refine (pick_any a3 (64 - T) _ (by omega) (by omega)).mono ?_
  rintro e w' ⟨⟨m, hm, rfl⟩, rfl⟩
  obtain ⟨N, hN⟩ : ∃ N : Nat, N = n + 1 := ⟨_, rfl⟩
  obtain ⟨M, hM⟩ : ∃ M : Nat, M = m + 1 := ⟨_, rfl⟩
  have hN1 : 1 ≤ N := by omega
  have hN2 : N ≤ T := by omega
  have hM1 : 1 ≤ M := by omega
  have hM2 : T + M ≤ 64 := by omega
  have e3 : Hid ((1 : Int) + (n : Nat) = (N : Nat)) := by show _ = _; omega
  have e4 : Hid ((1 : Int) + (m : Nat) = (M : Nat)) := by show _ = _; omega
  clear hN hM
  go_wp2_with fail
  rw [e3.out, e4.out]
  clear e3 e4 hn hm
  obtain ⟨P, hP⟩ : ∃ P : Nat, P + N = T := ⟨T - N, by omega⟩
  have e5 : (T : Int) - (N : Nat) = (P : Nat) := by omega
  have E5 : Hid _ := e5
  have hP1 : P + N ≤ T := by omega
  rw [e5]
  clear e5 hP
  by_cases hu : u < 2 ^ N
  · by_cases hv : v < 2 ^ M
    · have k1 := setN_lt x P N u hx (by omega) hu
      have k2 := setN_lt x T M v hx hM2 hv
      have k3 := set_set x P N T M u v hx hP1 hM2 hu hv
      refine (Set_yes x P N u _ hx hN1 (by omega) hu).mono ?_
      rintro e w' ⟨rfl, q2, rfl⟩
      generalize setN x P N u = y at k1 k3
      have K3 : Hid _ := k3
      clear k3
      have HU : Hid _ := hu
      have HV : Hid _ := hv
      clear hu hv
      go_wp2_with fail
      refine (Set_yes x T M v _ hx hM1 hM2 HV.out).mono ?_
      rintro e w' ⟨rfl, q3, rfl⟩
      generalize setN x T M v = z at k2 K3
      go_wp2_with fail
      refine (Set_yes y T M v _ k1 hM1 hM2 HV.out).mono ?_
      rintro e w' ⟨rfl, q4, rfl⟩
      rw [K3.out]
      go_wp2_with fail
      rw [E5.out]
      refine (Set_yes z P N u _ k2 hN1 (by omega) HU.out).mono ?_
      rintro e w' ⟨rfl, q5, rfl⟩
      go_wp2
      go_ret
      exact ⟨rfl, ((Gr.refl w).drewN _).grown⟩
    · refine (Set_yes x P N u _ hx hN1 (by omega) hu).mono ?_
      rintro e w' ⟨rfl, q2, rfl⟩
      generalize setN x P N u = y
      have HV : Hid _ := hv
      clear hu hv
      go_wp2_with fail
      refine (Set_full x T M v _ hM1 hM2 (Nat.le_of_not_lt HV.out)).mono ?_
      rintro e w' ⟨rfl, rfl⟩
      go_wp2
      go_ret
      exact ⟨rfl, ((Gr.refl w).drewN _).grown⟩
  · refine (Set_full x P N u _ hN1 (by omega) (Nat.le_of_not_lt hu)).mono ?_
    rintro e w' ⟨rfl, rfl⟩
    clear hu
    by_cases hv : v < 2 ^ M
    · have HV : Hid _ := hv
      clear hv
      go_wp2_with fail
      refine (Set_yes x T M v _ hx hM1 hM2 HV.out).mono ?_
      rintro e w' ⟨rfl, q3, rfl⟩
      generalize setN x T M v = z
      go_wp2
      go_ret
      exact ⟨rfl, ((Gr.refl w).drewN _).grown⟩
    · have HV : Hid _ := hv
      clear hv
      go_wp2_with fail
      refine (Set_full x T M v _ hM1 hM2 (Nat.le_of_not_lt HV.out)).mono ?_
      rintro e w' ⟨rfl, rfl⟩
      go_wp2
      go_ret
      exact ⟨rfl, ((Gr.refl w).drewN _).grown⟩


set_option maxRecDepth 100000 in
theorem lifted (os : Os) (started : os.Started) (H : Type) (enc : TypeId × Value → H) :
    ReturnsInHanded {} Tryd.checked os 5 .any (fun w args => (Rows.wordOrderSpec.pre enc Tryd.prog Tryd.f5 [] false w args ∧ laidMetH Tryd.prog laidTab w) ∧ sizedMet enc Tryd.prog Tryd.f5 (OpenSpec.ofChange Rows.wordOrderSpec) false w args)
      (Rows.wordOrderSpec.post enc Tryd.prog Tryd.f5 false true false false) := by
  refine returnsInHanded_of_change_and (C := Tryd.checked) (X := fun w _ => laidMetH Tryd.prog laidTab w) (fun _ _ _ hh h => h.of_heap hh) own started (by kernel_rfl) Tryd.func5
    (ChangeSpec.witness_shaped (enc := enc) (C := Tryd.checked) (os := os) (X := fun w _ => laidMetH Tryd.prog laidTab w) false (World.doorLaid Tryd.prog 400 os) #[.int .u64 0, .int .i64 0, .int .i64 0, .int .i64 0, .int .u64 0, .int .u64 0] 8 rfl (World.shaped_of_RefB (by kernel_rfl) (by kernel_rfl)) (by kernel_rfl) (by kernel_rfl) (by kernel_rfl) (door_tab os _)) ?_
  intro W base args ds gs before hval0 hW _ _ hL _
  have hval : ∀ (j : Nat) t v, Tryd.f5.params[j]? = some t → args[j]? = some v → Value.okWide Tryd.prog W .any base t v := hval0
  have hW' := hW
  obtain ⟨p, q, hA0, hV, rfl, hfz, hnd⟩ := hW
  have hA : DataW.TrodAll enc Tryd.prog W 0 (fun _ => true) true Tryd.f5.params.toList args.toList ds p := hA0
  rw [Tryd.params5] at hA hval
  obtain ⟨v0, vs0, d0, ds0, p0, q0, hargs, rfl, rfl, h0, r0⟩ := trodAll_cons hA
  obtain ⟨v1, vs1, d1, ds1, p1, q1, rfl, rfl, rfl, h1, r1⟩ := trodAll_cons r0
  obtain ⟨v2, vs2, d2, ds2, p2, q2, rfl, rfl, rfl, h2, r2⟩ := trodAll_cons r1
  obtain ⟨v3, vs3, d3, ds3, p3, q3, rfl, rfl, rfl, h3, r3⟩ := trodAll_cons r2
  obtain ⟨v4, vs4, d4, ds4, p4, q4, rfl, rfl, rfl, h4, r4⟩ := trodAll_cons r3
  obtain ⟨v5, vs5, d5, ds5, p5, q5, rfl, rfl, rfl, h5, r5⟩ := trodAll_cons r4
  obtain ⟨rfl, rfl, rfl⟩ := trodAll_nil r5
  obtain rfl : args = #[v0, v1, v2, v3, v4, v5] := by cases args; simp_all
  obtain ⟨rfl, rfl⟩ := trodVars_none hV
  obtain ⟨a0, rfl, rfl, rfl, w0⟩ := open_int Tryd.underlying22 (hval 0 22 v0 rfl rfl) h0
  obtain ⟨a1, rfl, rfl, rfl, w1⟩ := open_int Tryd.underlying3 (hval 1 3 v1 rfl rfl) h1
  obtain ⟨a2, rfl, rfl, rfl, w2⟩ := open_int Tryd.underlying3 (hval 2 3 v2 rfl rfl) h2
  obtain ⟨a3, rfl, rfl, rfl, w3⟩ := open_int Tryd.underlying3 (hval 3 3 v3 rfl rfl) h3
  obtain ⟨a4, rfl, rfl, rfl, w4⟩ := open_int Tryd.underlying22 (hval 4 22 v4 rfl rfl) h4
  obtain ⟨a5, rfl, rfl, rfl, w5⟩ := open_int Tryd.underlying22 (hval 5 22 v5 rfl rfl) h5
  have hT := tab_of_laid hL
  clear hA0 hval0
  simp only [List.append_nil] at hW'
  refine (walk a0 a1 a2 a3 a4 a5 w0 w1 w2 w3 w4 w5 W hT).mono fun e W' ⟨he, hg⟩ => ?_
  subst he
  exact ⟨_, rfl, post_of_same (pa := []) (pv := []) hW' (fun _ _ _ => (trodAll_cons_mk (shut_bool Tryd.underlying4 _) trodAll_mk0)) (fun sp _ => (trodAll_cons_mk (shut_int Tryd.underlying22 w0) (trodAll_cons_mk (shut_int Tryd.underlying3 w1) (trodAll_cons_mk (shut_int Tryd.underlying3 w2) (trodAll_cons_mk (shut_int Tryd.underlying3 w3) (trodAll_cons_mk (shut_int Tryd.underlying22 w4) (trodAll_cons_mk (shut_int Tryd.underlying22 w5) trodAll_mk0))))))) (fun _ _ => rfl) rfl
    (hg.frame _) hg.2.1 (ok_one (by kernel_rfl) rfl (okWide_bool_mk Tryd.underlying4 _))⟩

theorem over : Rows.WordOrderSaid :=
  OpenClaim.holds_of_wide 5 Tryd.f5 rfl rfl rfl rfl rfl rfl rfl ⟨rfl, rfl, rfl, rfl, rfl⟩ rfl rfl rfl rfl rfl (by kernel_rfl) Tryd.func5 (by kernel_rfl)
    (of_decide_eq_true (by kernel_rfl)) (by unfold Func.isWrapper; first | (rw [if_pos (by decide +kernel)]; kernel_rfl) | (rw [if_neg (by decide +kernel)]; exact ⟨rfl, rfl⟩))
    (fun os started H enc _ => lifted os started H enc)

theorem proved : Rows.WordOrderCardSaid :=
  Claim7.holds_tied_plain_at .later [] [.data] true (true, "d0e46873417e532ef4582009853b35744b468a5153c6cfd65fa8f26ea80f3d88") false
    over (fun _ h => by cases h) (by kernel_rfl) (fun _ h => by cases h) wordOrder_row_tie rfl ⟨rfl, rfl⟩ (by kernel_rfl) rfl
    (fun f fn hf hfn => by
      obtain rfl : f = 5 := Option.some.inj ((show Tryd.prog.funcNamed "gristmill/gristmillkeep.WordOrder" = some 5 by kernel_rfl).symm.trans hf) |>.symm
      obtain rfl : fn = Tryd.f5 := (Option.some.inj (Tryd.func5.symm.trans hfn)).symm
      exact ⟨by kernel_rfl, fun j t ht => by
        rw [Tryd.params5] at ht
        have hm : t ∈ [22, 3, 3, 3, 22, 22] := by simpa using Array.mem_of_getElem? ht
        have hall : ([22, 3, 3, 3, 22, 22].all fun u => !Tryd.prog.wantsStandIn u) = true := by kernel_rfl
        exact (show Tryd.prog.wantsStandIn t = false by simpa using List.all_eq_true.1 hall t hm)⟩)
    (by kernel_rfl)
#print axioms proved
end Go.Proofs.YtgbjgkalcoojdabDoor.wordOrder
