/- WordParts is proved: for every word and every place the call returns true (the bits of a word are those of both its parts, and the least one is the least of the first part that has any); the library's table of 64 numbers stands as the program's text lays it. -/
import Derived.Test.YtgbjgkalcoojdabDoorKeep
import Derived.Test.YtgbjgkalcoojdabDoorLaidTab
import Derived.Test.YtgbjgkalcoojdabDoorCards
import Derived.SevenTiedAt

namespace Go.Proofs.YtgbjgkalcoojdabDoor.wordParts
open Go.ChangeShapes Go.WideShapes Go.ChangeAt Go.RowKit
set_option linter.unusedVariables false

theorem pc_zero : ∀ n, pc 0 n = 0
  | 0 => rfl
  | n + 1 => by rw [pc, pc_zero n]

theorem pc_part (y m : Nat) (hm : m ≤ 64) (hy : y < 2 ^ m) : pc y 64 = pc y m := by
  obtain ⟨d, hd⟩ : ∃ d, 64 = m + d := ⟨64 - m, by omega⟩
  rw [hd, pc_add, Nat.div_eq_of_lt hy, pc_zero, Nat.add_zero]

theorem pc_parts (x m : Nat) (hm : m ≤ 64) (hx : x < 18446744073709551616) : pc x 64 = pc (x % 2 ^ m) 64 + pc (x / 2 ^ m) 64 := by
  have h2 : x / 2 ^ m < 2 ^ (64 - m) := by
    apply Nat.div_lt_of_lt_mul
    rw [← Nat.pow_add, show m + (64 - m) = 64 by omega]
    exact hx
  rw [pc_part _ m hm (mod_lt_pow _ _), pc_part _ (64 - m) (by omega) h2, pc_mod, ← pc_add, show m + (64 - m) = 64 by omega]

theorem bt_low (x m i : Nat) (h : i < m) : bt (x % 2 ^ m) i = bt x i := by
  rw [bt_test, bt_test, Nat.testBit_mod_two_pow]; simp [h]

theorem bt_high (x m i : Nat) : bt (x / 2 ^ m) i = bt x (m + i) := by
  rw [bt_test, bt_test, Nat.testBit_div_two_pow, Nat.add_comm]

theorem first_lt (y m c : Nat) (hy : y < 2 ^ m) (h : IsFirst y c) : c < m := by
  by_cases hc : c < m
  · exact hc
  · have := h.2.1
    rw [bt_test, Nat.testBit_lt_two_pow (Nat.lt_of_lt_of_le hy (Nat.pow_le_pow_right (by decide) (by omega)))] at this
    simp at this

theorem first_low (x m c : Nat) (h : IsFirst (x % 2 ^ m) c) : IsFirst x c := by
  have hc := first_lt _ m c (mod_lt_pow _ _) h
  refine ⟨h.1, ?_, fun i hi => ?_⟩
  · rw [← bt_low x m c hc]; exact h.2.1
  · rw [← bt_low x m i (by omega)]; exact h.2.2 i hi

theorem first_high (x m c : Nat) (hm : m ≤ 64) (hx : x < 18446744073709551616) (h0 : x % 2 ^ m = 0) (h : IsFirst (x / 2 ^ m) c) : IsFirst x (m + c) := by
  have h2 : x / 2 ^ m < 2 ^ (64 - m) := by
    apply Nat.div_lt_of_lt_mul
    rw [← Nat.pow_add, show m + (64 - m) = 64 by omega]
    exact hx
  have hc := first_lt _ (64 - m) c h2 h
  refine ⟨by omega, ?_, fun i hi => ?_⟩
  · rw [← bt_high]; exact h.2.1
  · by_cases hi2 : i < m
    · rw [← bt_low x m i hi2, h0]; simp [bt]
    · have := h.2.2 (i - m) (by omega)
      rw [bt_high, show m + (i - m) = i by omega] at this
      exact this

theorem get_high (x m : Nat) (hm : m ≤ 64) (hx : x < 18446744073709551616) : x / 2 ^ m % 2 ^ (64 - m) = x / 2 ^ m := by
  apply Nat.mod_eq_of_lt
  apply Nat.div_lt_of_lt_mul
  rw [← Nat.pow_add, show m + (64 - m) = 64 by omega]
  exact hx

set_option maxHeartbeats 1000000 in
theorem walk (a0 a1 : Int) (w0 : (Lit.int .u64 a0).wf = true) (w1 : (Lit.int .i64 a1).wf = true) (w : World) (hT : TabAt w) :
    Calls Tryd.prog 4 #[.int .u64 a0, .int .i64 a1] w fun e w' => e = .returned (.bool true) ∧ Grown w w' := by
  obtain ⟨b0, b1⟩ := bounds_u64 w0
  obtain ⟨x, rfl⟩ := Int.eq_ofNat_of_zero_le b0
  have hx : x < 18446744073709551616 := by omega
  clear w0 w1 b0 b1
  go_enter Tryd.func4, Tryd.ntmps4
  go_wp2_with fail
  refine (worded_any _ hT).mono ?_
  rintro e w' ⟨rfl, q1, rfl⟩
  go_wp2_with fail
  refine (pick_any a1 63 _ (by omega) (by omega)).mono ?_
  rintro e w' ⟨⟨p, hp, rfl⟩, rfl⟩
  obtain ⟨m, hm⟩ : ∃ m : Nat, m = p + 1 := ⟨_, rfl⟩
  have e1 : Hid ((1 : Int) + (p : Nat) = (m : Nat)) := by show _ = _; omega
  have hm1 : 1 ≤ m := by omega
  have hm2 : m < 64 := by omega
  clear hm
  go_wp2_with fail
  rw [e1.out]
  clear e1 hp
  have hga := Get_yes x 0 m (w.drewN q1) hx hm1 (by omega)
  rw [Nat.pow_zero, Nat.div_one] at hga
  have hgb := fun W => Get_yes x m (64 - m) W hx (by omega) (by omega)
  rw [get_high x m (by omega) hx] at hgb
  have ha : x % 2 ^ m < 18446744073709551616 := Nat.lt_of_le_of_lt (Nat.mod_le _ _) hx
  have hb : x / 2 ^ m < 18446744073709551616 := Nat.lt_of_le_of_lt (Nat.div_le_self _ _) hx
  have HP : Hid _ := pc_parts x m (by omega) hx
  have HL : Hid _ := first_low x m
  have HH : Hid _ := fun c => first_high x m c (by omega) hx
  have HX : Hid (x = x % 2 ^ m + 2 ^ m * (x / 2 ^ m)) := (Nat.mod_add_div x (2 ^ m)).symm
  have l1 := pc_le 64 (x % 2 ^ m)
  have l2 := pc_le 64 (x / 2 ^ m)
  generalize x % 2 ^ m = a at ha HP HL HH HX l1 hga
  generalize x / 2 ^ m = b at hb HP HH HX l2 hgb
  have HGB : Hid _ := hgb
  clear hgb
  refine hga.mono ?_
  clear hga
  rintro e w' ⟨rfl, q2, rfl⟩
  go_wp2_with fail
  have e2 : (64 : Int) - (m : Nat) = ((64 - m : Nat) : Int) := by omega
  rw [e2]
  clear e2
  refine (HGB.out _).mono ?_
  clear HGB
  rintro e w' ⟨rfl, q3, rfl⟩
  by_cases hx0 : x = 0
  · have h1 := HX.out
    have ha0 : a = 0 := by omega
    have hb0 : b = 0 := by
      have hp := Nat.two_pow_pos m
      have h2 : 2 ^ m * b = 0 := by omega
      rcases Nat.mul_eq_zero.1 h2 with h | h
      · omega
      · exact h
    clear h1 HX HH HL HP
    subst hx0 ha0 hb0
    have hp0 := pc_zero 64
    have HP0 : Hid _ := hp0
    clear hp0
    go_wp2_with fail
    refine (First_zero _).mono ?_
    rintro e w' ⟨rfl, rfl⟩
    go_wp2_with fail
    refine (Count_any 0 _ hx).mono ?_
    rintro e w' ⟨rfl, rfl⟩
    go_wp2_with fail
    refine (Count_any 0 _ hx).mono ?_
    rintro e w' ⟨rfl, rfl⟩
    go_wp2_with fail
    refine (Count_any 0 _ hx).mono ?_
    rintro e w' ⟨rfl, rfl⟩
    rw [HP0.out]
    go_wp2_with fail
    refine (First_zero _).mono ?_
    rintro e w' ⟨rfl, rfl⟩
    go_wp2_with fail
    refine (First_zero _).mono ?_
    rintro e w' ⟨rfl, rfl⟩
    go_wp2
    go_ret
    exact ⟨rfl, ((Gr.refl w).drewN _).grown⟩
  · have hxb : ((x : Int) == 0) = false := beq_eq_false_iff_ne.2 (by omega)
    have HXN : Hid _ := hx0
    clear hx0
    by_cases ha0 : a = 0
    · have hb0 : b ≠ 0 := by
        intro h
        have h1 := HX.out
        rw [ha0, h] at h1
        exact HXN.out (by simpa using h1)
      have hbb : ((b : Int) == 0) = false := beq_eq_false_iff_ne.2 (by omega)
      have hbb2 : ((b : Int) != 0) = true := bne_iff_ne.2 (by omega)
      have hf := isFirst_ctz b hb0 hb
      generalize Lib.ctz 64 b = c at hf
      have hfx := HH.out c ha0 hf
      have hc := hfx.1
      have HF : Hid _ := hf
      have HFX : Hid _ := hfx
      have HB0 : Hid _ := hb0
      clear hf hfx hb0 HX HH HL
      subst ha0
      have HPC : Hid ((pc x 64 : Nat) = pc b 64) := by
        have := HP.out
        rw [pc_zero, Nat.zero_add] at this
        exact this
      have hp0 : Hid _ := pc_zero 64
      clear HP
      go_wp2_with fail
      refine (First_zero _).mono ?_
      rintro e w' ⟨rfl, rfl⟩
      go_wp2_with fail
      refine (First_yes b c _ hb HB0.out HF.out (hT.drewN _)).mono ?_
      rintro e w' ⟨rfl, rfl⟩
      go_wp2_with fail
      refine (Count_any x _ hx).mono ?_
      rintro e w' ⟨rfl, rfl⟩
      rw [HPC.out]
      go_wp2_with fail
      refine (Count_any 0 _ (by decide)).mono ?_
      rintro e w' ⟨rfl, rfl⟩
      rw [hp0.out]
      go_wp2_with fail
      refine (Count_any b _ hb).mono ?_
      rintro e w' ⟨rfl, rfl⟩
      go_wp2_with fail
      refine (First_yes x (m + c) _ hx HXN.out HFX.out (hT.drewN _)).mono ?_
      rintro e w' ⟨rfl, rfl⟩
      go_wp2_with fail
      refine (First_yes x (m + c) _ hx HXN.out HFX.out (hT.drewN _)).mono ?_
      rintro e w' ⟨rfl, rfl⟩
      go_wp2
      go_ret
      exact ⟨ret_bool (by rw [Bool.not_eq_true']; exact decide_eq_false (by omega)), ((Gr.refl w).drewN _).grown⟩
    · have hab : ((a : Int) == 0) = false := beq_eq_false_iff_ne.2 (by omega)
      have hf := isFirst_ctz a ha0 ha
      generalize Lib.ctz 64 a = c at hf
      have hfx := HL.out c hf
      have hc := hfx.1
      have HF : Hid _ := hf
      have HFX : Hid _ := hfx
      have HA0 : Hid _ := ha0
      clear hf hfx ha0 HX HH HL
      go_wp2_with fail
      refine (First_yes a c _ ha HA0.out HF.out (hT.drewN _)).mono ?_
      rintro e w' ⟨rfl, rfl⟩
      go_wp2_with fail
      refine (Count_any x _ hx).mono ?_
      rintro e w' ⟨rfl, rfl⟩
      rw [HP.out]
      go_wp2_with fail
      refine (Count_any a _ ha).mono ?_
      rintro e w' ⟨rfl, rfl⟩
      go_wp2_with fail
      refine (Count_any b _ hb).mono ?_
      rintro e w' ⟨rfl, rfl⟩
      go_wp2_with fail
      refine (First_yes x c _ hx HXN.out HFX.out (hT.drewN _)).mono ?_
      rintro e w' ⟨rfl, rfl⟩
      go_wp2_with fail
      refine (First_yes x c _ hx HXN.out HFX.out (hT.drewN _)).mono ?_
      rintro e w' ⟨rfl, rfl⟩
      go_wp2
      go_ret
      exact ⟨ret_bool (by rw [Bool.not_eq_true']; exact decide_eq_false (by omega)), ((Gr.refl w).drewN _).grown⟩


set_option maxRecDepth 100000 in
theorem lifted (os : Os) (started : os.Started) (H : Type) (enc : TypeId × Value → H) :
    ReturnsInHanded {} Tryd.checked os 4 .any (fun w args => (Rows.wordPartsSpec.pre enc Tryd.prog Tryd.f4 [] false w args ∧ laidMetH Tryd.prog laidTab w) ∧ sizedMet enc Tryd.prog Tryd.f4 (OpenSpec.ofChange Rows.wordPartsSpec) false w args)
      (Rows.wordPartsSpec.post enc Tryd.prog Tryd.f4 false true false false) := by
  refine returnsInHanded_of_change_and (C := Tryd.checked) (X := fun w _ => laidMetH Tryd.prog laidTab w) (fun _ _ _ hh h => h.of_heap hh) own started (by kernel_rfl) Tryd.func4
    (ChangeSpec.witness_shaped (enc := enc) (C := Tryd.checked) (os := os) (X := fun w _ => laidMetH Tryd.prog laidTab w) false (World.doorLaid Tryd.prog 400 os) #[.int .u64 0, .int .i64 0] 8 rfl (World.shaped_of_RefB (by kernel_rfl) (by kernel_rfl)) (by kernel_rfl) (by kernel_rfl) (by kernel_rfl) (door_tab os _)) ?_
  intro W base args ds gs before hval0 hW _ _ hL _
  have hval : ∀ (j : Nat) t v, Tryd.f4.params[j]? = some t → args[j]? = some v → Value.okWide Tryd.prog W .any base t v := hval0
  have hW' := hW
  obtain ⟨p, q, hA0, hV, rfl, hfz, hnd⟩ := hW
  have hA : DataW.TrodAll enc Tryd.prog W 0 (fun _ => true) true Tryd.f4.params.toList args.toList ds p := hA0
  rw [Tryd.params4] at hA hval
  obtain ⟨v0, vs0, d0, ds0, p0, q0, hargs, rfl, rfl, h0, r0⟩ := trodAll_cons hA
  obtain ⟨v1, vs1, d1, ds1, p1, q1, rfl, rfl, rfl, h1, r1⟩ := trodAll_cons r0
  obtain ⟨rfl, rfl, rfl⟩ := trodAll_nil r1
  obtain rfl : args = #[v0, v1] := by cases args; simp_all
  obtain ⟨rfl, rfl⟩ := trodVars_none hV
  obtain ⟨a0, rfl, rfl, rfl, w0⟩ := open_int Tryd.underlying22 (hval 0 22 v0 rfl rfl) h0
  obtain ⟨a1, rfl, rfl, rfl, w1⟩ := open_int Tryd.underlying3 (hval 1 3 v1 rfl rfl) h1
  have hT := tab_of_laid hL
  clear hA0 hval0
  simp only [List.append_nil] at hW'
  refine (walk a0 a1 w0 w1 W hT).mono fun e W' ⟨he, hg⟩ => ?_
  subst he
  exact ⟨_, rfl, post_of_same (pa := []) (pv := []) hW' (fun _ _ _ => (trodAll_cons_mk (shut_bool Tryd.underlying4 _) trodAll_mk0)) (fun sp _ => (trodAll_cons_mk (shut_int Tryd.underlying22 w0) (trodAll_cons_mk (shut_int Tryd.underlying3 w1) trodAll_mk0))) (fun _ _ => rfl) rfl
    (hg.frame _) hg.2.1 (ok_one (by kernel_rfl) rfl (okWide_bool_mk Tryd.underlying4 _))⟩

theorem over : Rows.WordPartsSaid :=
  OpenClaim.holds_of_wide 4 Tryd.f4 rfl rfl rfl rfl rfl rfl rfl ⟨rfl, rfl, rfl, rfl, rfl⟩ rfl rfl rfl rfl rfl (by kernel_rfl) Tryd.func4 (by kernel_rfl)
    (of_decide_eq_true (by kernel_rfl)) (by unfold Func.isWrapper; first | (rw [if_pos (by decide +kernel)]; kernel_rfl) | (rw [if_neg (by decide +kernel)]; exact ⟨rfl, rfl⟩))
    (fun os started H enc _ => lifted os started H enc)

theorem proved : Rows.WordPartsCardSaid :=
  Claim7.holds_tied_plain_at .later [] [.data] true (true, "d0e46873417e532ef4582009853b35744b468a5153c6cfd65fa8f26ea80f3d88") false
    over (fun _ h => by cases h) (by kernel_rfl) (fun _ h => by cases h) wordParts_row_tie rfl ⟨rfl, rfl⟩ (by kernel_rfl) rfl
    (fun f fn hf hfn => by
      obtain rfl : f = 4 := Option.some.inj ((show Tryd.prog.funcNamed "gristmill/gristmillkeep.WordParts" = some 4 by kernel_rfl).symm.trans hf) |>.symm
      obtain rfl : fn = Tryd.f4 := (Option.some.inj (Tryd.func4.symm.trans hfn)).symm
      exact ⟨by kernel_rfl, fun j t ht => by
        rw [Tryd.params4] at ht
        have hm : t ∈ [22, 3] := by simpa using Array.mem_of_getElem? ht
        have hall : ([22, 3].all fun u => !Tryd.prog.wantsStandIn u) = true := by kernel_rfl
        exact (show Tryd.prog.wantsStandIn t = false by simpa using List.all_eq_true.1 hall t hm)⟩)
    (by kernel_rfl)
#print axioms proved
end Go.Proofs.YtgbjgkalcoojdabDoor.wordParts
