/- OpBack is proved: for every operation the call returns true (what is written is read, as a word and as text; just what is Right can be written); the library's and the package's variables stand as the program's text lays them. -/
import Derived.Test.YtdohomdhgkhebabDoorLaidOps
import Derived.Test.YtdohomdhgkhebabDoorArgOp
import Derived.Test.YtdohomdhgkhebabDoorCards
import Derived.SevenTiedAt

namespace Go.Proofs.YtdohomdhgkhebabDoor.opBack
open Go.ChangeShapes Go.WideShapes Go.ChangeAt Go.RowKit
set_option linter.unusedVariables false

set_option maxHeartbeats 4000000 in
theorem walk (a b c : Int) (_w0 : (Lit.int .i64 a).wf = true) (_w1 : (Lit.int .i64 b).wf = true) (_w2 : (Lit.int .i64 c).wf = true) (w : World) (hE : Ec w) :
    Calls Tryd.prog 3 #[.agg #[.int .i64 a, .int .i64 b, .int .i64 c]] w fun e w' => e = .returned (.bool true) ∧ Below w.heap.size w w' := by
  by_cases h : Rt a b c
  · obtain ⟨o, rfl⟩ := Int.eq_ofNat_of_zero_le (show 0 ≤ a by have := h.w1; omega)
    obtain ⟨k, rfl⟩ := Int.eq_ofNat_of_zero_le (show 0 ≤ b by have := h.k0; omega)
    obtain ⟨v, rfl⟩ := Int.eq_ofNat_of_zero_le (show 0 ≤ c by have := h.v0; omega)
    have G0 : Hid _ := (Below.refl w.heap.size w).alloc (Nat.le_refl _) (.cells #[.int .i64 o, .int .i64 k, .int .i64 v] 23)
    have E0 : Hid _ := hE.later G0.out
    clear hE
    have P0 : Hid _ := Below.refl (w.alloc (.cells #[.int .i64 o, .int .i64 k, .int .i64 v] 23)).heap.size (w.alloc (.cells #[.int .i64 o, .int .i64 k, .int .i64 v] 23))
    go_enter Tryd.func3, Tryd.ntmps3
    go_wp2_with fail
    refine (spelled_any _ E0.out).mono ?_
    rintro e u1 ⟨rfl, hb⟩
    have G1 : Hid _ := G0.out.trans (hb.mono G0.out.size)
    have E1 : Hid _ := E0.out.later hb
    have P1 : Hid _ := P0.out.trans (hb.mono P0.out.size)
    clear hb G0 E0 P0
    have x1_0_0 := Below.bx P1.out 0 rfl
    have x1_0_1 := Below.bx P1.out 1 rfl
    have x1_0_2 := Below.bx P1.out 2 rfl
    have z1_0 := World.block_lt_of_cell? _ _ x1_0_0
    go_wp2_with fail
    refine (Word_yes h _).mono ?_
    rintro e u2 ⟨rfl, hb⟩
    have hb := hb.below
    have G2 : Hid _ := G1.out.trans (hb.mono G1.out.size)
    have E2 : Hid _ := E1.out.later hb
    clear x1_0_0 x1_0_1 x1_0_2 z1_0
    have P2 : Hid _ := P1.out.trans (hb.mono P1.out.size)
    clear hb G1 E1 P1
    have x2_0_0 := Below.bx P2.out 0 rfl
    have x2_0_1 := Below.bx P2.out 1 rfl
    have x2_0_2 := Below.bx P2.out 2 rfl
    have z2_0 := World.block_lt_of_cell? _ _ x2_0_0
    go_wp2_with fail
    refine (Print_yes h _ E2.out.en.pw E2.out.en.wh).mono ?_
    rintro e u3 ⟨rfl, hb⟩
    have G3 : Hid _ := G2.out.trans (hb.mono G2.out.size)
    have E3 : Hid _ := E2.out.later hb
    clear x2_0_0 x2_0_1 x2_0_2 z2_0
    have P3 : Hid _ := P2.out.trans (hb.mono P2.out.size)
    clear hb G2 E2 P2
    have x3_0_0 := Below.bx P3.out 0 rfl
    have x3_0_1 := Below.bx P3.out 1 rfl
    have x3_0_2 := Below.bx P3.out 2 rfl
    have z3_0 := World.block_lt_of_cell? _ _ x3_0_0
    go_wp2_with fail
    refine (Right_yes h _).mono ?_
    rintro e u4 ⟨rfl, hb⟩
    have hb := hb.below
    have G4 : Hid _ := G3.out.trans (hb.mono G3.out.size)
    have E4 : Hid _ := E3.out.later hb
    clear x3_0_0 x3_0_1 x3_0_2 z3_0
    have P4 : Hid _ := P3.out.trans (hb.mono P3.out.size)
    clear hb G3 E3 P3
    have x4_0_0 := Below.bx P4.out 0 rfl
    have x4_0_1 := Below.bx P4.out 1 rfl
    have x4_0_2 := Below.bx P4.out 2 rfl
    have z4_0 := World.block_lt_of_cell? _ _ x4_0_0
    go_wp2_with fail
    refine (Of_yes h _).mono ?_
    rintro e u5 ⟨rfl, hb⟩
    have hb := hb.below
    have G5 : Hid _ := G4.out.trans (hb.mono G4.out.size)
    have E5 : Hid _ := E4.out.later hb
    clear x4_0_0 x4_0_1 x4_0_2 z4_0
    have P5 : Hid _ := P4.out.trans (hb.mono P4.out.size)
    clear hb G4 E4 P4
    have x5_0_0 := Below.bx P5.out 0 rfl
    have x5_0_1 := Below.bx P5.out 1 rfl
    have x5_0_2 := Below.bx P5.out 2 rfl
    have z5_0 := World.block_lt_of_cell? _ _ x5_0_0
    have G5L6 : Hid _ := G5.out.alloc G5.out.size (.cells #[.int .i64 o, .int .i64 k, .int .i64 v] 23)
    have E5L6 : Hid _ := E5.out.later ((Below.refl u5.heap.size u5).alloc (Nat.le_refl _) (.cells #[.int .i64 o, .int .i64 k, .int .i64 v] 23))
    have P6 : Hid _ := P5.out.alloc P5.out.size (.cells #[.int .i64 o, .int .i64 k, .int .i64 v] 23)
    clear G5 E5 P5
    have P7 : Hid _ := Below.refl (u5.alloc (.cells #[.int .i64 o, .int .i64 k, .int .i64 v] 23)).heap.size (u5.alloc (.cells #[.int .i64 o, .int .i64 k, .int .i64 v] 23))
    go_wp2_with fail
    refine (Parse_txt h _ E5L6.out.en).mono ?_
    rintro e u6 ⟨rfl, hb⟩
    have G6 : Hid _ := G5L6.out.trans (hb.mono G5L6.out.size)
    have E6 : Hid _ := E5L6.out.later hb
    clear x5_0_0 x5_0_1 x5_0_2 z5_0
    have P8 : Hid _ := P6.out.trans (hb.mono P6.out.size)
    have P9 : Hid _ := P7.out.trans (hb.mono P7.out.size)
    clear hb G5L6 E5L6 P6 P7
    have x6_0_0 := Below.bx P8.out 0 rfl
    have x6_0_1 := Below.bx P8.out 1 rfl
    have x6_0_2 := Below.bx P8.out 2 rfl
    have z6_0 := World.block_lt_of_cell? _ _ x6_0_0
    have x6_1_0 := Below.bx P9.out 0 rfl
    have x6_1_1 := Below.bx P9.out 1 rfl
    have x6_1_2 := Below.bx P9.out 2 rfl
    have z6_1 := World.block_lt_of_cell? _ _ x6_1_0
    have G6L10 : Hid _ := G6.out.alloc G6.out.size (.cells #[.int .i64 o, .int .i64 k, .int .i64 v] 23)
    have E6L10 : Hid _ := E6.out.later ((Below.refl u6.heap.size u6).alloc (Nat.le_refl _) (.cells #[.int .i64 o, .int .i64 k, .int .i64 v] 23))
    have P10 : Hid _ := P8.out.alloc P8.out.size (.cells #[.int .i64 o, .int .i64 k, .int .i64 v] 23)
    have P11 : Hid _ := P9.out.alloc P9.out.size (.cells #[.int .i64 o, .int .i64 k, .int .i64 v] 23)
    clear G6 E6 P8 P9
    have P12 : Hid _ := Below.refl (u6.alloc (.cells #[.int .i64 o, .int .i64 k, .int .i64 v] 23)).heap.size (u6.alloc (.cells #[.int .i64 o, .int .i64 k, .int .i64 v] 23))
    go_wp2
    go_ret
    exact ⟨rfl, G6L10.out⟩
  · have G0 : Hid _ := (Below.refl w.heap.size w).alloc (Nat.le_refl _) (.cells #[.int .i64 a, .int .i64 b, .int .i64 c] 23)
    have E0 : Hid _ := hE.later G0.out
    clear hE
    have P0 : Hid _ := Below.refl (w.alloc (.cells #[.int .i64 a, .int .i64 b, .int .i64 c] 23)).heap.size (w.alloc (.cells #[.int .i64 a, .int .i64 b, .int .i64 c] 23))
    go_enter Tryd.func3, Tryd.ntmps3
    go_wp2_with fail
    refine (spelled_any _ E0.out).mono ?_
    rintro e u1 ⟨rfl, hb⟩
    have G1 : Hid _ := G0.out.trans (hb.mono G0.out.size)
    have E1 : Hid _ := E0.out.later hb
    have P1 : Hid _ := P0.out.trans (hb.mono P0.out.size)
    clear hb G0 E0 P0
    have x1_0_0 := Below.bx P1.out 0 rfl
    have x1_0_1 := Below.bx P1.out 1 rfl
    have x1_0_2 := Below.bx P1.out 2 rfl
    have z1_0 := World.block_lt_of_cell? _ _ x1_0_0
    go_wp2_with fail
    refine (Word_no h _).mono ?_
    rintro e u2 ⟨rfl, hb⟩
    have hb := hb.below
    have G2 : Hid _ := G1.out.trans (hb.mono G1.out.size)
    have E2 : Hid _ := E1.out.later hb
    clear x1_0_0 x1_0_1 x1_0_2 z1_0
    have P2 : Hid _ := P1.out.trans (hb.mono P1.out.size)
    clear hb G1 E1 P1
    have x2_0_0 := Below.bx P2.out 0 rfl
    have x2_0_1 := Below.bx P2.out 1 rfl
    have x2_0_2 := Below.bx P2.out 2 rfl
    have z2_0 := World.block_lt_of_cell? _ _ x2_0_0
    go_wp2_with fail
    refine (Print_no h _).mono ?_
    rintro e u3 ⟨rfl, hb⟩
    have G3 : Hid _ := G2.out.trans (hb.mono G2.out.size)
    have E3 : Hid _ := E2.out.later hb
    clear x2_0_0 x2_0_1 x2_0_2 z2_0
    have P3 : Hid _ := P2.out.trans (hb.mono P2.out.size)
    clear hb G2 E2 P2
    have x3_0_0 := Below.bx P3.out 0 rfl
    have x3_0_1 := Below.bx P3.out 1 rfl
    have x3_0_2 := Below.bx P3.out 2 rfl
    have z3_0 := World.block_lt_of_cell? _ _ x3_0_0
    go_wp2_with fail
    refine (Right_no h _).mono ?_
    rintro e u4 ⟨rfl, hb⟩
    have hb := hb.below
    have G4 : Hid _ := G3.out.trans (hb.mono G3.out.size)
    have E4 : Hid _ := E3.out.later hb
    clear x3_0_0 x3_0_1 x3_0_2 z3_0
    have P4 : Hid _ := P3.out.trans (hb.mono P3.out.size)
    clear hb G3 E3 P3
    have x4_0_0 := Below.bx P4.out 0 rfl
    have x4_0_1 := Below.bx P4.out 1 rfl
    have x4_0_2 := Below.bx P4.out 2 rfl
    have z4_0 := World.block_lt_of_cell? _ _ x4_0_0
    go_wp2
    go_ret
    exact ⟨rfl, G4.out⟩


set_option maxRecDepth 100000 in
theorem lifted (os : Os) (started : os.Started) (H : Type) (enc : TypeId × Value → H) :
    ReturnsInHanded {} Tryd.checked os 3 .any (fun w args => (Rows.opBackSpec.pre enc Tryd.prog Tryd.f3 [] false w args ∧ laidMetH Tryd.prog laidOps w) ∧ sizedMet enc Tryd.prog Tryd.f3 (OpenSpec.ofChange Rows.opBackSpec) false w args)
      (Rows.opBackSpec.post enc Tryd.prog Tryd.f3 false true false false) := by
  refine returnsInHanded_of_change_and (C := Tryd.checked) (X := fun w _ => laidMetH Tryd.prog laidOps w) (fun _ _ _ hh h => h.of_heap hh) own started (by kernel_rfl) Tryd.func3
    (ChangeSpec.witness_shaped (enc := enc) (C := Tryd.checked) (os := os) (X := fun w _ => laidMetH Tryd.prog laidOps w) false (World.doorLaid Tryd.prog 400 os) #[.agg #[.int .i64 0, .int .i64 0, .int .i64 0]] 8 rfl (World.shaped_of_RefB (by kernel_rfl) (by kernel_rfl)) (by kernel_rfl) (by kernel_rfl) (by kernel_rfl) (door_Ops os _)) ?_
  intro W base args ds gs before hval0 hW _ _ hL _
  have hval : ∀ (j : Nat) t v, Tryd.f3.params[j]? = some t → args[j]? = some v → Value.okWide Tryd.prog W .any base t v := hval0
  have hW' := hW
  obtain ⟨p, q, hA0, hV, rfl, hfz, hnd⟩ := hW
  have hA : DataW.TrodAll enc Tryd.prog W 0 (fun _ => true) true Tryd.f3.params.toList args.toList ds p := hA0
  rw [Tryd.params3] at hA hval
  obtain ⟨v0, vs0, d0, ds0, p0, q0, hargs, rfl, rfl, h0, r0⟩ := trodAll_cons hA
  obtain ⟨rfl, rfl, rfl⟩ := trodAll_nil r0
  obtain rfl : args = #[v0] := by cases args; simp_all
  obtain ⟨rfl, rfl⟩ := trodVars_none hV
  obtain ⟨a0, b0, c0, rfl, wa0, wb0, wc0⟩ := op_of_trod (hval 0 23 v0 rfl rfl) h0
  have hT := env_of_Ops hL
  have hlt := hW'.lt
  clear hA0 hval0
  refine (walk a0 b0 c0 wa0 wb0 wc0 W hT ).mono fun e W' ⟨he, hg⟩ => ?_
  subst he
  exact ⟨_, rfl, post_below (pv := []) hW' (fun _ _ _ => (trodAll_cons_mk (shut_bool Tryd.underlying4 _) trodAll_mk0)) (fun sp hsp => (trodAll_cons_mk (op_stay h0 hg (fun x hx => hlt x (by simp [hx])) (fun x hx => hsp x (by simp [hx]))) trodAll_mk0)) (fun _ _ => rfl) (by simp) (hg.frame _)⟩

theorem over : Rows.OpBackSaid :=
  OpenClaim.holds_of_wide 3 Tryd.f3 rfl rfl rfl rfl rfl rfl rfl ⟨rfl, rfl, rfl, rfl, rfl⟩ rfl rfl rfl rfl rfl (by kernel_rfl) Tryd.func3 (by kernel_rfl)
    (of_decide_eq_true (by kernel_rfl)) (by unfold Func.isWrapper; first | (rw [if_pos (by decide +kernel)]; kernel_rfl) | (rw [if_neg (by decide +kernel)]; exact ⟨rfl, rfl⟩))
    (fun os started H enc _ => lifted os started H enc)

theorem proved : Rows.OpBackCardSaid :=
  Claim7.holds_tied_plain_at .later [] [.data, .data, .data, .sentinel, .sentinel, .data, .data] true (true, "5679a511bfc219565f57fb51c3143b7377991c547fa500f551ff088f4000ed9f") true
    over (fun _ h => by cases h) (by kernel_rfl) (fun _ h => by cases h) opBack_row_tie rfl ⟨rfl, rfl⟩ (by kernel_rfl) rfl
    (fun f fn hf hfn => by
      obtain rfl : f = 3 := Option.some.inj ((show Tryd.prog.funcNamed "gristmill/gristmillkeep.OpBack" = some 3 by kernel_rfl).symm.trans hf) |>.symm
      obtain rfl : fn = Tryd.f3 := (Option.some.inj (Tryd.func3.symm.trans hfn)).symm
      exact ⟨by kernel_rfl, fun j t ht => by
        rw [Tryd.params3] at ht
        have hm : t ∈ [23] := by simpa using Array.mem_of_getElem? ht
        have hall : ([23].all fun u => !Tryd.prog.wantsStandIn u) = true := by kernel_rfl
        exact (show Tryd.prog.wantsStandIn t = false by simpa using List.all_eq_true.1 hall t hm)⟩)
    (by kernel_rfl)
#print axioms proved
end Go.Proofs.YtdohomdhgkhebabDoor.opBack
