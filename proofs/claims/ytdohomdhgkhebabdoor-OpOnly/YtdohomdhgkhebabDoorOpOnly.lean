/- OpOnly is proved: for every word and text the call returns true (what is read is written so); the library's and the package's variables stand as the program's text lays them. -/
import Derived.Test.YtdohomdhgkhebabDoorLaidOps
import Derived.Test.YtdohomdhgkhebabDoorFrm
import Derived.Test.YtdohomdhgkhebabDoorCards
import Derived.SevenTiedAt

namespace Go.Proofs.YtdohomdhgkhebabDoor.opOnly
open Go.ChangeShapes Go.WideShapes Go.ChangeAt Go.RowKit
set_option linter.unusedVariables false

theorem ne_self (s : ByteArray) : (s.toList == s.toList) = true := beq_self_eq_true _

set_option maxHeartbeats 4000000 in
theorem only00 (x : Nat) (hx : x < 18446744073709551616) (s : ByteArray) (w : World) (hE : Ec w) (hw : NoWord x) (hs : NoText s.data.toList) (hz : s.size ≤ 1000) (hl : (s.size : Int) ≤ 100) :
    Calls Tryd.prog 4 #[.int .u64 (x : Nat), .string s] w fun e w' => e = .returned (.bool true) ∧ Below w.heap.size w w' := by
  have G0 : Hid _ := Below.refl w.heap.size w
  have E0 : Hid _ := hE.later G0.out
  clear hE
  go_enter Tryd.func4, Tryd.ntmps4
  go_wp2_with fail
  refine (spelled_any _ E0.out).mono ?_
  rintro e u1 ⟨rfl, hb⟩
  have G1 : Hid _ := G0.out.trans (hb.mono G0.out.size)
  have E1 : Hid _ := E0.out.later hb
  clear hb G0 E0
  go_wp2_with fail
  refine (Of_no x hx hw _).mono ?_
  rintro e u2 ⟨rfl, hb⟩
  have hb := hb.below
  have G2 : Hid _ := G1.out.trans (hb.mono G1.out.size)
  have E2 : Hid _ := E1.out.later hb
  clear hb G1 E1
  have G2L0 : Hid _ := G2.out.alloc G2.out.size (.cells #[.int .i64 0, .int .i64 0, .int .i64 0] 23)
  have E2L0 : Hid _ := E2.out.later ((Below.refl u2.heap.size u2).alloc (Nat.le_refl _) (.cells #[.int .i64 0, .int .i64 0, .int .i64 0] 23))
  clear G2 E2
  have P0 : Hid _ := Below.refl (u2.alloc (.cells #[.int .i64 0, .int .i64 0, .int .i64 0] 23)).heap.size (u2.alloc (.cells #[.int .i64 0, .int .i64 0, .int .i64 0] 23))
  go_wp2_with fail
  refine (Parse_none s hz hs _ E2L0.out.en).mono ?_
  rintro e u3 ⟨rfl, hb⟩
  have G3 : Hid _ := G2L0.out.trans (hb.mono G2L0.out.size)
  have E3 : Hid _ := E2L0.out.later hb
  have P1 : Hid _ := P0.out.trans (hb.mono P0.out.size)
  clear hb G2L0 E2L0 P0
  have x3_0_0 := Below.bx P1.out 0 rfl
  have x3_0_1 := Below.bx P1.out 1 rfl
  have x3_0_2 := Below.bx P1.out 2 rfl
  have z3_0 := World.block_lt_of_cell? _ _ x3_0_0
  have G3L2 : Hid _ := G3.out.alloc G3.out.size (.cells #[.int .i64 0, .int .i64 0, .int .i64 0] 23)
  have E3L2 : Hid _ := E3.out.later ((Below.refl u3.heap.size u3).alloc (Nat.le_refl _) (.cells #[.int .i64 0, .int .i64 0, .int .i64 0] 23))
  have P2 : Hid _ := P1.out.alloc P1.out.size (.cells #[.int .i64 0, .int .i64 0, .int .i64 0] 23)
  clear G3 E3 P1
  have P3 : Hid _ := Below.refl (u3.alloc (.cells #[.int .i64 0, .int .i64 0, .int .i64 0] 23)).heap.size (u3.alloc (.cells #[.int .i64 0, .int .i64 0, .int .i64 0] 23))
  go_wp2
  go_ret
  exact ⟨rfl, G3L2.out⟩

set_option maxHeartbeats 4000000 in
theorem only01 (x : Nat) (hx : x < 18446744073709551616) {p q r : Nat} (w : World) (hE : Ec w) (hw : NoWord x) (hs : Rt p q r) (hl : ((txt p q r).length : Int) ≤ 100) :
    Calls Tryd.prog 4 #[.int .u64 (x : Nat), .string ⟨(txt p q r).toArray⟩] w fun e w' => e = .returned (.bool true) ∧ Below w.heap.size w w' := by
  have G0 : Hid _ := Below.refl w.heap.size w
  have E0 : Hid _ := hE.later G0.out
  clear hE
  go_enter Tryd.func4, Tryd.ntmps4
  go_wp2_with fail
  refine (spelled_any _ E0.out).mono ?_
  rintro e u1 ⟨rfl, hb⟩
  have G1 : Hid _ := G0.out.trans (hb.mono G0.out.size)
  have E1 : Hid _ := E0.out.later hb
  clear hb G0 E0
  go_wp2_with fail
  refine (Of_no x hx hw _).mono ?_
  rintro e u2 ⟨rfl, hb⟩
  have hb := hb.below
  have G2 : Hid _ := G1.out.trans (hb.mono G1.out.size)
  have E2 : Hid _ := E1.out.later hb
  clear hb G1 E1
  have G2L0 : Hid _ := G2.out.alloc G2.out.size (.cells #[.int .i64 0, .int .i64 0, .int .i64 0] 23)
  have E2L0 : Hid _ := E2.out.later ((Below.refl u2.heap.size u2).alloc (Nat.le_refl _) (.cells #[.int .i64 0, .int .i64 0, .int .i64 0] 23))
  clear G2 E2
  have P0 : Hid _ := Below.refl (u2.alloc (.cells #[.int .i64 0, .int .i64 0, .int .i64 0] 23)).heap.size (u2.alloc (.cells #[.int .i64 0, .int .i64 0, .int .i64 0] 23))
  go_wp2_with fail
  refine (Parse_txt hs _ E2L0.out.en).mono ?_
  rintro e u3 ⟨rfl, hb⟩
  have G3 : Hid _ := G2L0.out.trans (hb.mono G2L0.out.size)
  have E3 : Hid _ := E2L0.out.later hb
  have P1 : Hid _ := P0.out.trans (hb.mono P0.out.size)
  clear hb G2L0 E2L0 P0
  have x3_0_0 := Below.bx P1.out 0 rfl
  have x3_0_1 := Below.bx P1.out 1 rfl
  have x3_0_2 := Below.bx P1.out 2 rfl
  have z3_0 := World.block_lt_of_cell? _ _ x3_0_0
  have G3L2 : Hid _ := G3.out.alloc G3.out.size (.cells #[.int .i64 p, .int .i64 q, .int .i64 r] 23)
  have E3L2 : Hid _ := E3.out.later ((Below.refl u3.heap.size u3).alloc (Nat.le_refl _) (.cells #[.int .i64 p, .int .i64 q, .int .i64 r] 23))
  have P2 : Hid _ := P1.out.alloc P1.out.size (.cells #[.int .i64 p, .int .i64 q, .int .i64 r] 23)
  clear G3 E3 P1
  have P3 : Hid _ := Below.refl (u3.alloc (.cells #[.int .i64 p, .int .i64 q, .int .i64 r] 23)).heap.size (u3.alloc (.cells #[.int .i64 p, .int .i64 q, .int .i64 r] 23))
  go_wp2_with fail
  refine (Print_yes hs _ E3L2.out.en.pw E3L2.out.en.wh).mono ?_
  rintro e u4 ⟨rfl, hb⟩
  have G4 : Hid _ := G3L2.out.trans (hb.mono G3L2.out.size)
  have E4 : Hid _ := E3L2.out.later hb
  clear x3_0_0 x3_0_1 x3_0_2 z3_0
  have P4 : Hid _ := P2.out.trans (hb.mono P2.out.size)
  have P5 : Hid _ := P3.out.trans (hb.mono P3.out.size)
  clear hb G3L2 E3L2 P2 P3
  have x4_0_0 := Below.bx P4.out 0 rfl
  have x4_0_1 := Below.bx P4.out 1 rfl
  have x4_0_2 := Below.bx P4.out 2 rfl
  have z4_0 := World.block_lt_of_cell? _ _ x4_0_0
  have x4_1_0 := Below.bx P5.out 0 rfl
  have x4_1_1 := Below.bx P5.out 1 rfl
  have x4_1_2 := Below.bx P5.out 2 rfl
  have z4_1 := World.block_lt_of_cell? _ _ x4_1_0
  go_wp2
  go_ret
  exact ⟨rfl, G4.out⟩

set_option maxHeartbeats 4000000 in
theorem only10 {o k v : Nat} (s : ByteArray) (w : World) (hE : Ec w) (hw : Rt o k v) (hs : NoText s.data.toList) (hz : s.size ≤ 1000) (hl : (s.size : Int) ≤ 100) :
    Calls Tryd.prog 4 #[.int .u64 (wordN o k v : Nat), .string s] w fun e w' => e = .returned (.bool true) ∧ Below w.heap.size w w' := by
  have G0 : Hid _ := Below.refl w.heap.size w
  have E0 : Hid _ := hE.later G0.out
  clear hE
  go_enter Tryd.func4, Tryd.ntmps4
  go_wp2_with fail
  refine (spelled_any _ E0.out).mono ?_
  rintro e u1 ⟨rfl, hb⟩
  have G1 : Hid _ := G0.out.trans (hb.mono G0.out.size)
  have E1 : Hid _ := E0.out.later hb
  clear hb G0 E0
  go_wp2_with fail
  refine (Of_yes hw _).mono ?_
  rintro e u2 ⟨rfl, hb⟩
  have hb := hb.below
  have G2 : Hid _ := G1.out.trans (hb.mono G1.out.size)
  have E2 : Hid _ := E1.out.later hb
  clear hb G1 E1
  have G2L0 : Hid _ := G2.out.alloc G2.out.size (.cells #[.int .i64 o, .int .i64 k, .int .i64 v] 23)
  have E2L0 : Hid _ := E2.out.later ((Below.refl u2.heap.size u2).alloc (Nat.le_refl _) (.cells #[.int .i64 o, .int .i64 k, .int .i64 v] 23))
  clear G2 E2
  have P0 : Hid _ := Below.refl (u2.alloc (.cells #[.int .i64 o, .int .i64 k, .int .i64 v] 23)).heap.size (u2.alloc (.cells #[.int .i64 o, .int .i64 k, .int .i64 v] 23))
  go_wp2_with fail
  refine (Word_yes hw _).mono ?_
  rintro e u3 ⟨rfl, hb⟩
  have hb := hb.below
  have G3 : Hid _ := G2L0.out.trans (hb.mono G2L0.out.size)
  have E3 : Hid _ := E2L0.out.later hb
  have P1 : Hid _ := P0.out.trans (hb.mono P0.out.size)
  clear hb G2L0 E2L0 P0
  have x3_0_0 := Below.bx P1.out 0 rfl
  have x3_0_1 := Below.bx P1.out 1 rfl
  have x3_0_2 := Below.bx P1.out 2 rfl
  have z3_0 := World.block_lt_of_cell? _ _ x3_0_0
  go_wp2_with fail
  refine (Parse_none s hz hs _ E3.out.en).mono ?_
  rintro e u4 ⟨rfl, hb⟩
  have G4 : Hid _ := G3.out.trans (hb.mono G3.out.size)
  have E4 : Hid _ := E3.out.later hb
  clear x3_0_0 x3_0_1 x3_0_2 z3_0
  have P2 : Hid _ := P1.out.trans (hb.mono P1.out.size)
  clear hb G3 E3 P1
  have x4_0_0 := Below.bx P2.out 0 rfl
  have x4_0_1 := Below.bx P2.out 1 rfl
  have x4_0_2 := Below.bx P2.out 2 rfl
  have z4_0 := World.block_lt_of_cell? _ _ x4_0_0
  have G4L3 : Hid _ := G4.out.alloc G4.out.size (.cells #[.int .i64 0, .int .i64 0, .int .i64 0] 23)
  have E4L3 : Hid _ := E4.out.later ((Below.refl u4.heap.size u4).alloc (Nat.le_refl _) (.cells #[.int .i64 0, .int .i64 0, .int .i64 0] 23))
  have P3 : Hid _ := P2.out.alloc P2.out.size (.cells #[.int .i64 0, .int .i64 0, .int .i64 0] 23)
  clear G4 E4 P2
  have P4 : Hid _ := Below.refl (u4.alloc (.cells #[.int .i64 0, .int .i64 0, .int .i64 0] 23)).heap.size (u4.alloc (.cells #[.int .i64 0, .int .i64 0, .int .i64 0] 23))
  go_wp2
  go_ret
  exact ⟨rfl, G4L3.out⟩

set_option maxHeartbeats 4000000 in
theorem only11 {o k v : Nat} {p q r : Nat} (w : World) (hE : Ec w) (hw : Rt o k v) (hs : Rt p q r) (hl : ((txt p q r).length : Int) ≤ 100) :
    Calls Tryd.prog 4 #[.int .u64 (wordN o k v : Nat), .string ⟨(txt p q r).toArray⟩] w fun e w' => e = .returned (.bool true) ∧ Below w.heap.size w w' := by
  have G0 : Hid _ := Below.refl w.heap.size w
  have E0 : Hid _ := hE.later G0.out
  clear hE
  go_enter Tryd.func4, Tryd.ntmps4
  go_wp2_with fail
  refine (spelled_any _ E0.out).mono ?_
  rintro e u1 ⟨rfl, hb⟩
  have G1 : Hid _ := G0.out.trans (hb.mono G0.out.size)
  have E1 : Hid _ := E0.out.later hb
  clear hb G0 E0
  go_wp2_with fail
  refine (Of_yes hw _).mono ?_
  rintro e u2 ⟨rfl, hb⟩
  have hb := hb.below
  have G2 : Hid _ := G1.out.trans (hb.mono G1.out.size)
  have E2 : Hid _ := E1.out.later hb
  clear hb G1 E1
  have G2L0 : Hid _ := G2.out.alloc G2.out.size (.cells #[.int .i64 o, .int .i64 k, .int .i64 v] 23)
  have E2L0 : Hid _ := E2.out.later ((Below.refl u2.heap.size u2).alloc (Nat.le_refl _) (.cells #[.int .i64 o, .int .i64 k, .int .i64 v] 23))
  clear G2 E2
  have P0 : Hid _ := Below.refl (u2.alloc (.cells #[.int .i64 o, .int .i64 k, .int .i64 v] 23)).heap.size (u2.alloc (.cells #[.int .i64 o, .int .i64 k, .int .i64 v] 23))
  go_wp2_with fail
  refine (Word_yes hw _).mono ?_
  rintro e u3 ⟨rfl, hb⟩
  have hb := hb.below
  have G3 : Hid _ := G2L0.out.trans (hb.mono G2L0.out.size)
  have E3 : Hid _ := E2L0.out.later hb
  have P1 : Hid _ := P0.out.trans (hb.mono P0.out.size)
  clear hb G2L0 E2L0 P0
  have x3_0_0 := Below.bx P1.out 0 rfl
  have x3_0_1 := Below.bx P1.out 1 rfl
  have x3_0_2 := Below.bx P1.out 2 rfl
  have z3_0 := World.block_lt_of_cell? _ _ x3_0_0
  go_wp2_with fail
  refine (Parse_txt hs _ E3.out.en).mono ?_
  rintro e u4 ⟨rfl, hb⟩
  have G4 : Hid _ := G3.out.trans (hb.mono G3.out.size)
  have E4 : Hid _ := E3.out.later hb
  clear x3_0_0 x3_0_1 x3_0_2 z3_0
  have P2 : Hid _ := P1.out.trans (hb.mono P1.out.size)
  clear hb G3 E3 P1
  have x4_0_0 := Below.bx P2.out 0 rfl
  have x4_0_1 := Below.bx P2.out 1 rfl
  have x4_0_2 := Below.bx P2.out 2 rfl
  have z4_0 := World.block_lt_of_cell? _ _ x4_0_0
  have G4L3 : Hid _ := G4.out.alloc G4.out.size (.cells #[.int .i64 p, .int .i64 q, .int .i64 r] 23)
  have E4L3 : Hid _ := E4.out.later ((Below.refl u4.heap.size u4).alloc (Nat.le_refl _) (.cells #[.int .i64 p, .int .i64 q, .int .i64 r] 23))
  have P3 : Hid _ := P2.out.alloc P2.out.size (.cells #[.int .i64 p, .int .i64 q, .int .i64 r] 23)
  clear G4 E4 P2
  have P4 : Hid _ := Below.refl (u4.alloc (.cells #[.int .i64 p, .int .i64 q, .int .i64 r] 23)).heap.size (u4.alloc (.cells #[.int .i64 p, .int .i64 q, .int .i64 r] 23))
  go_wp2_with fail
  refine (Print_yes hs _ E4L3.out.en.pw E4L3.out.en.wh).mono ?_
  rintro e u5 ⟨rfl, hb⟩
  have G5 : Hid _ := G4L3.out.trans (hb.mono G4L3.out.size)
  have E5 : Hid _ := E4L3.out.later hb
  clear x4_0_0 x4_0_1 x4_0_2 z4_0
  have P5 : Hid _ := P3.out.trans (hb.mono P3.out.size)
  have P6 : Hid _ := P4.out.trans (hb.mono P4.out.size)
  clear hb G4L3 E4L3 P3 P4
  have x5_0_0 := Below.bx P5.out 0 rfl
  have x5_0_1 := Below.bx P5.out 1 rfl
  have x5_0_2 := Below.bx P5.out 2 rfl
  have z5_0 := World.block_lt_of_cell? _ _ x5_0_0
  have x5_1_0 := Below.bx P6.out 0 rfl
  have x5_1_1 := Below.bx P6.out 1 rfl
  have x5_1_2 := Below.bx P6.out 2 rfl
  have z5_1 := World.block_lt_of_cell? _ _ x5_1_0
  go_wp2
  go_ret
  exact ⟨rfl, G5.out⟩

set_option maxHeartbeats 4000000 in
theorem walk (a : Int) (s : ByteArray) (w0 : (Lit.int .u64 a).wf = true) (w1 : s.size ≤ maxLen) (w : World) (hE : Ec w) :
    Calls Tryd.prog 4 #[.int .u64 a, .string s] w fun e w' => e = .returned (.bool true) ∧ Below w.heap.size w w' := by
  obtain ⟨b0, b1⟩ := bounds_u64 w0
  obtain ⟨x, rfl⟩ := Int.eq_ofNat_of_zero_le b0
  have hx : x < 18446744073709551616 := by omega
  clear w0 b0 b1
  by_cases hl : (s.size : Int) ≤ 100
  · rcases word_cases x with hw | ⟨o, k, v, hw, rfl⟩
    · rcases text_cases s.data.toList with hs | ⟨p, q, r, hs, e⟩
      · exact only00 x hx s w hE hw hs (by omega) hl
      · obtain rfl := ba_of e
        exact only01 x hx w hE hw hs hl
    · rcases text_cases s.data.toList with hs | ⟨p, q, r, hs, e⟩
      · exact only10 s w hE hw hs (by omega) hl
      · obtain rfl := ba_of e
        exact only11 w hE hw hs hl
  · unfold maxLen at w1
    have hl' : (100 : Int) < (s.size : Int) := by omega
    have G0 : Hid _ := Below.refl w.heap.size w
    have E0 : Hid _ := hE.later G0.out
    clear hE
    go_enter Tryd.func4, Tryd.ntmps4
    go_wp2_with fail
    refine (spelled_any _ E0.out).mono ?_
    rintro e u1 ⟨rfl, hb⟩
    have G1 : Hid _ := G0.out.trans (hb.mono G0.out.size)
    have E1 : Hid _ := E0.out.later hb
    clear hb G0 E0
    go_wp2
    go_ret
    exact ⟨rfl, G1.out⟩


set_option maxRecDepth 100000 in
theorem lifted (os : Os) (started : os.Started) (H : Type) (enc : TypeId × Value → H) :
    ReturnsInHanded {} Tryd.checked os 4 .any (fun w args => (Rows.opOnlySpec.pre enc Tryd.prog Tryd.f4 [] false w args ∧ laidMetH Tryd.prog laidOps w) ∧ sizedMet enc Tryd.prog Tryd.f4 (OpenSpec.ofChange Rows.opOnlySpec) false w args)
      (Rows.opOnlySpec.post enc Tryd.prog Tryd.f4 false true false false) := by
  refine returnsInHanded_of_change_and (C := Tryd.checked) (X := fun w _ => laidMetH Tryd.prog laidOps w) (fun _ _ _ hh h => h.of_heap hh) own started (by kernel_rfl) Tryd.func4
    (ChangeSpec.witness_shaped (enc := enc) (C := Tryd.checked) (os := os) (X := fun w _ => laidMetH Tryd.prog laidOps w) false (World.doorLaid Tryd.prog 400 os) #[.int .u64 0, .string ⟨#[]⟩] 8 rfl (World.shaped_of_RefB (by kernel_rfl) (by kernel_rfl)) (by kernel_rfl) (by kernel_rfl) (by kernel_rfl) (door_Ops os _)) ?_
  intro W base args ds gs before hval0 hW _ _ hL _
  have hval : ∀ (j : Nat) t v, Tryd.f4.params[j]? = some t → args[j]? = some v → Value.okWide Tryd.prog W .any base t v := hval0
  have hW' := hW
  obtain ⟨p, q, hA0, hV, rfl, hfz, hnd⟩ := hW
  have hA : DataW.TrodAll enc Tryd.prog W 0 (fun _ => true) true Tryd.f4.params.toList args.toList ds p := hA0
  rw [Tryd.params4] at hA hval
  obtain ⟨v0, vs0, d0, ds0, p0, q0, hargs, rfl, rfl, h0, r0⟩ := trodAll_cons hA
  obtain ⟨v1, vs1, d1, ds1, p1, q1, rfl, rfl, rfl, h1, r1⟩ := trodAll_cons r0
  obtain ⟨rfl, rfl, rfl⟩ := trodAll_nil r1
  obtain rfl : args = #[v0, v1] := by cases args; simp_all
  obtain ⟨rfl, rfl⟩ := trodVars_none hV
  obtain ⟨a0, rfl, rfl, rfl, w0⟩ := open_int Tryd.underlying25 (hval 0 25 v0 rfl rfl) h0
  obtain ⟨a1, rfl, rfl, rfl, w1⟩ := Go.ChangeMaps.open_string Tryd.underlying9 (hval 1 9 v1 rfl rfl) h1
  have hT := env_of_Ops hL
  have hlt := hW'.lt
  clear hA0 hval0
  refine (walk a0 a1 w0 w1 W hT ).mono fun e W' ⟨he, hg⟩ => ?_
  subst he
  exact ⟨_, rfl, post_below (pv := []) hW' (fun _ _ _ => (trodAll_cons_mk (shut_bool Tryd.underlying4 _) trodAll_mk0)) (fun sp hsp => (trodAll_cons_mk (shut_int Tryd.underlying25 w0) (trodAll_cons_mk (Go.ChangeMaps.shut_string Tryd.underlying9 w1) trodAll_mk0))) (fun _ _ => rfl) (by simp) (hg.frame _)⟩

theorem over : Rows.OpOnlySaid :=
  OpenClaim.holds_of_wide 4 Tryd.f4 rfl rfl rfl rfl rfl rfl rfl ⟨rfl, rfl, rfl, rfl, rfl⟩ rfl rfl rfl rfl rfl (by kernel_rfl) Tryd.func4 (by kernel_rfl)
    (of_decide_eq_true (by kernel_rfl)) (by unfold Func.isWrapper; first | (rw [if_pos (by decide +kernel)]; kernel_rfl) | (rw [if_neg (by decide +kernel)]; exact ⟨rfl, rfl⟩))
    (fun os started H enc _ => lifted os started H enc)

theorem proved : Rows.OpOnlyCardSaid :=
  Claim7.holds_tied_plain_at .later [] [.data, .data, .data, .sentinel, .sentinel, .data, .data] true (true, "5679a511bfc219565f57fb51c3143b7377991c547fa500f551ff088f4000ed9f") true
    over (fun _ h => by cases h) (by kernel_rfl) (fun _ h => by cases h) opOnly_row_tie rfl ⟨rfl, rfl⟩ (by kernel_rfl) rfl
    (fun f fn hf hfn => by
      obtain rfl : f = 4 := Option.some.inj ((show Tryd.prog.funcNamed "gristmill/gristmillkeep.OpOnly" = some 4 by kernel_rfl).symm.trans hf) |>.symm
      obtain rfl : fn = Tryd.f4 := (Option.some.inj (Tryd.func4.symm.trans hfn)).symm
      exact ⟨by kernel_rfl, fun j t ht => by
        rw [Tryd.params4] at ht
        have hm : t ∈ [25, 9] := by simpa using Array.mem_of_getElem? ht
        have hall : ([25, 9].all fun u => !Tryd.prog.wantsStandIn u) = true := by kernel_rfl
        exact (show Tryd.prog.wantsStandIn t = false by simpa using List.all_eq_true.1 hall t hm)⟩)
    (by kernel_rfl)
#print axioms proved
end Go.Proofs.YtdohomdhgkhebabDoor.opOnly
