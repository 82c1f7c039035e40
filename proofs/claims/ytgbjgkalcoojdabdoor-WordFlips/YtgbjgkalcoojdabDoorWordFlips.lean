/- WordFlips is proved: for every word and every place the call returns true (turned twice is not turned; a bit more, or a bit less); the library's table of 64 numbers stands as the program's text lays it. -/
import Derived.Test.YtgbjgkalcoojdabDoorKeep
import Derived.Test.YtgbjgkalcoojdabDoorLaidTab
import Derived.Test.YtgbjgkalcoojdabDoorCards
import Derived.SevenTiedAt

namespace Go.Proofs.YtgbjgkalcoojdabDoor.wordFlips
open Go.ChangeShapes Go.WideShapes Go.ChangeAt Go.RowKit
set_option linter.unusedVariables false

theorem pc_snoc (x k : Nat) : pc x (k + 1) = pc x k + bt x k := by
  rw [pc_add, pc, pc, Nat.add_zero, bt]

theorem pc_congr (x y : Nat) : ∀ n, (∀ j, j < n → bt x j = bt y j) → pc x n = pc y n
  | 0, _ => rfl
  | n + 1, h => by rw [pc_snoc, pc_snoc, pc_congr x y n (fun j hj => h j (by omega)), h n (by omega)]

theorem pc_flip (x k : Nat) : ∀ n, k < n → pc (x ^^^ 2 ^ k) n + bt x k = pc x n + (1 - bt x k)
  | 0, h => by omega
  | n + 1, h => by
    have hb := bt_lt x k
    rw [pc_snoc, pc_snoc, bt_flip]
    by_cases e : n = k
    · subst e
      have := pc_congr (x ^^^ 2 ^ n) x n (fun j hj => by rw [bt_flip, if_neg (by omega)])
      simp; omega
    · have := pc_flip x k n (by omega)
      simp [e]; omega

theorem flip_flip (x k : Nat) : (x ^^^ 2 ^ k) ^^^ 2 ^ k = x := by
  rw [Nat.xor_assoc, Nat.xor_self, Nat.xor_zero]

theorem flip_bit (x k : Nat) : (x ^^^ 2 ^ k).testBit k = !x.testBit k := by
  rw [Nat.testBit_xor, Nat.testBit_two_pow]; simp

theorem walk (a0 a1 : Int) (w0 : (Lit.int .u64 a0).wf = true) (w1 : (Lit.int .i64 a1).wf = true) (w : World) (hT : TabAt w) :
    Calls Tryd.prog 3 #[.int .u64 a0, .int .i64 a1] w fun e w' => e = .returned (.bool true) ∧ Grown w w' := by
  obtain ⟨b0, b1⟩ := bounds_u64 w0
  obtain ⟨x, rfl⟩ := Int.eq_ofNat_of_zero_le b0
  have hx : x < 18446744073709551616 := by omega
  clear w0 w1 b0 b1
  go_enter Tryd.func3, Tryd.ntmps3
  go_wp2_with fail
  refine (worded_any _ hT).mono ?_
  rintro e w' ⟨rfl, q1, rfl⟩
  go_wp2_with fail
  refine (pick_any a1 64 _ (by omega) (by omega)).mono ?_
  rintro e w' ⟨⟨k, hk, rfl⟩, rfl⟩
  have hy := flip_lt x k hx hk
  have hff := flip_flip x k
  have hfb := flip_bit x k
  have hpc := pc_flip x k 64 hk
  have hp1 := pc_le 64 x
  have hp2 := pc_le 64 (x ^^^ 2 ^ k)
  rw [bt_test] at hpc
  go_wp2_with fail
  refine (Flip_yes x k _ hx hk).mono ?_
  rintro e w' ⟨rfl, rfl⟩
  generalize x ^^^ 2 ^ k = y at hy hff hfb hpc hp2
  have HFF : Hid _ := hff
  have HFB : Hid _ := hfb
  clear hff hfb
  cases hb : x.testBit k
  all_goals
    rw [hb] at hpc HFB
    simp only [Bool.toNat_true, Bool.toNat_false] at hpc
    have HB : Hid _ := hb
    have HPC : Hid _ := hpc
    clear hb hpc
    go_wp2_with fail
    refine (Bit_yes x k _ hx hk).mono ?_
    rintro e w' ⟨rfl, rfl⟩
    rw [HB.out]
    go_wp2_with fail
    refine (Flip_yes y k _ hy hk).mono ?_
    rintro e w' ⟨rfl, rfl⟩
    rw [HFF.out]
    go_wp2_with fail
    refine (Bit_yes y k _ hy hk).mono ?_
    rintro e w' ⟨rfl, rfl⟩
    rw [HFB.out]
    go_wp2_with fail
    refine (Bit_yes x k _ hx hk).mono ?_
    rintro e w' ⟨rfl, rfl⟩
    rw [HB.out]
    go_wp2_with fail
    refine (Count_any y _ hy).mono ?_
    rintro e w' ⟨rfl, rfl⟩
    go_wp2_with fail
    refine (Count_any x _ hx).mono ?_
    rintro e w' ⟨rfl, rfl⟩
    go_wp2
    go_ret
    have hlast := HPC.out
    exact ⟨ret_bool (beq_iff_eq.2 (by omega)), ((Gr.refl w).drewN _).grown⟩


set_option maxRecDepth 100000 in
theorem lifted (os : Os) (started : os.Started) (H : Type) (enc : TypeId × Value → H) :
    ReturnsInHanded {} Tryd.checked os 3 .any (fun w args => (Rows.wordFlipsSpec.pre enc Tryd.prog Tryd.f3 [] false w args ∧ laidMetH Tryd.prog laidTab w) ∧ sizedMet enc Tryd.prog Tryd.f3 (OpenSpec.ofChange Rows.wordFlipsSpec) false w args)
      (Rows.wordFlipsSpec.post enc Tryd.prog Tryd.f3 false true false false) := by
  refine returnsInHanded_of_change_and (C := Tryd.checked) (X := fun w _ => laidMetH Tryd.prog laidTab w) (fun _ _ _ hh h => h.of_heap hh) own started (by kernel_rfl) Tryd.func3
    (ChangeSpec.witness_shaped (enc := enc) (C := Tryd.checked) (os := os) (X := fun w _ => laidMetH Tryd.prog laidTab w) false (World.doorLaid Tryd.prog 400 os) #[.int .u64 0, .int .i64 0] 8 rfl (World.shaped_of_RefB (by kernel_rfl) (by kernel_rfl)) (by kernel_rfl) (by kernel_rfl) (by kernel_rfl) (door_tab os _)) ?_
  intro W base args ds gs before hval0 hW _ _ hL _
  have hval : ∀ (j : Nat) t v, Tryd.f3.params[j]? = some t → args[j]? = some v → Value.okWide Tryd.prog W .any base t v := hval0
  have hW' := hW
  obtain ⟨p, q, hA0, hV, rfl, hfz, hnd⟩ := hW
  have hA : DataW.TrodAll enc Tryd.prog W 0 (fun _ => true) true Tryd.f3.params.toList args.toList ds p := hA0
  rw [Tryd.params3] at hA hval
  obtain ⟨v0, vs0, d0, ds0, p0, q0, hargs, rfl, rfl, h0, r0⟩ := trodAll_cons hA
  obtain ⟨v1, vs1, d1, ds1, p1, q1, rfl, rfl, rfl, h1, r1⟩ := trodAll_cons r0
  obtain ⟨rfl, rfl, rfl⟩ := trodAll_nil r1
  obtain rfl : args = #[v0, v1] := by cases args; simp_all
  obtain ⟨rfl, rfl⟩ := trodVars_none hV
  obtain ⟨a0, rfl, rfl, rfl, w0⟩ := open_int Tryd.underlying22 (hval 0 22 v0 rfl rfl) h0
  obtain ⟨a1, rfl, rfl, rfl, w1⟩ := open_int Tryd.underlying3 (hval 1 3 v1 rfl rfl) h1
  have hT := tab_of_laid hL
  clear hA0 hval0
  simp only [List.append_nil] at hW'
  refine (walk a0 a1 w0 w1 W hT).mono fun e W' ⟨he, hg⟩ => ?_
  subst he
  exact ⟨_, rfl, post_of_same (pa := []) (pv := []) hW' (fun _ _ _ => (trodAll_cons_mk (shut_bool Tryd.underlying4 _) trodAll_mk0)) (fun sp _ => (trodAll_cons_mk (shut_int Tryd.underlying22 w0) (trodAll_cons_mk (shut_int Tryd.underlying3 w1) trodAll_mk0))) (fun _ _ => rfl) rfl
    (hg.frame _) hg.2.1 (ok_one (by kernel_rfl) rfl (okWide_bool_mk Tryd.underlying4 _))⟩

theorem over : Rows.WordFlipsSaid :=
  OpenClaim.holds_of_wide 3 Tryd.f3 rfl rfl rfl rfl rfl rfl rfl ⟨rfl, rfl, rfl, rfl, rfl⟩ rfl rfl rfl rfl rfl (by kernel_rfl) Tryd.func3 (by kernel_rfl)
    (of_decide_eq_true (by kernel_rfl)) (by unfold Func.isWrapper; first | (rw [if_pos (by decide +kernel)]; kernel_rfl) | (rw [if_neg (by decide +kernel)]; exact ⟨rfl, rfl⟩))
    (fun os started H enc _ => lifted os started H enc)

theorem proved : Rows.WordFlipsCardSaid :=
  Claim7.holds_tied_plain_at .later [] [.data] true (true, "d0e46873417e532ef4582009853b35744b468a5153c6cfd65fa8f26ea80f3d88") false
    over (fun _ h => by cases h) (by kernel_rfl) (fun _ h => by cases h) wordFlips_row_tie rfl ⟨rfl, rfl⟩ (by kernel_rfl) rfl
    (fun f fn hf hfn => by
      obtain rfl : f = 3 := Option.some.inj ((show Tryd.prog.funcNamed "gristmill/gristmillkeep.WordFlips" = some 3 by kernel_rfl).symm.trans hf) |>.symm
      obtain rfl : fn = Tryd.f3 := (Option.some.inj (Tryd.func3.symm.trans hfn)).symm
      exact ⟨by kernel_rfl, fun j t ht => by
        rw [Tryd.params3] at ht
        have hm : t ∈ [22, 3] := by simpa using Array.mem_of_getElem? ht
        have hall : ([22, 3].all fun u => !Tryd.prog.wantsStandIn u) = true := by kernel_rfl
        exact (show Tryd.prog.wantsStandIn t = false by simpa using List.all_eq_true.1 hall t hm)⟩)
    (by kernel_rfl)
#print axioms proved
end Go.Proofs.YtgbjgkalcoojdabDoor.wordFlips
