/- OpApart is proved: for every two operations the call returns true (two operations have the same word, or the same text, just if they are the same); the library's and the package's variables stand as the program's text lays them. -/
import Derived.Test.YtdohomdhgkhebabDoorLaidOps
import Derived.Test.YtdohomdhgkhebabDoorArgOp
import Derived.Test.YtdohomdhgkhebabDoorCards
import Derived.SevenTiedAt

namespace Go.Proofs.YtdohomdhgkhebabDoor.opApart
open Go.ChangeShapes Go.WideShapes Go.ChangeAt Go.RowKit
set_option linter.unusedVariables false


set_option maxHeartbeats 4000000 in
theorem apart0 (a b c d e f : Int) (w : World) (hE : Ec w) (ha : ¬ Rt a b c) :
    Calls Tryd.prog 6 #[.agg #[.int .i64 a, .int .i64 b, .int .i64 c], .agg #[.int .i64 d, .int .i64 e, .int .i64 f]] w fun e w' => e = .returned (.bool true) ∧ Below w.heap.size w w' := by
  have G0 : Hid _ := ((Below.refl w.heap.size w).alloc (Nat.le_refl _) (.cells #[.int .i64 a, .int .i64 b, .int .i64 c] 23)).alloc (by simp) (.cells #[.int .i64 d, .int .i64 e, .int .i64 f] 23)
  have E0 : Hid _ := hE.later G0.out
  clear hE
  have P0 : Hid _ := (Below.refl (w.alloc (.cells #[.int .i64 a, .int .i64 b, .int .i64 c] 23)).heap.size (w.alloc (.cells #[.int .i64 a, .int .i64 b, .int .i64 c] 23))).alloc (by simp) (.cells #[.int .i64 d, .int .i64 e, .int .i64 f] 23)
  have P1 : Hid _ := Below.refl ((w.alloc (.cells #[.int .i64 a, .int .i64 b, .int .i64 c] 23)).alloc (.cells #[.int .i64 d, .int .i64 e, .int .i64 f] 23)).heap.size ((w.alloc (.cells #[.int .i64 a, .int .i64 b, .int .i64 c] 23)).alloc (.cells #[.int .i64 d, .int .i64 e, .int .i64 f] 23))
  go_enter Tryd.func6, Tryd.ntmps6
  go_wp2_with fail
  refine (spelled_any _ E0.out).mono ?_
  rintro e u1 ⟨rfl, hb⟩
  have G1 : Hid _ := G0.out.trans (hb.mono G0.out.size)
  have E1 : Hid _ := E0.out.later hb
  have P2 : Hid _ := P0.out.trans (hb.mono P0.out.size)
  have P3 : Hid _ := P1.out.trans (hb.mono P1.out.size)
  clear hb G0 E0 P0 P1
  have x1_0_0 := Below.bx P2.out 0 rfl
  have x1_0_1 := Below.bx P2.out 1 rfl
  have x1_0_2 := Below.bx P2.out 2 rfl
  have z1_0 := World.block_lt_of_cell? _ _ x1_0_0
  have x1_1_0 : u1.cell? ⟨w.heap.size + 1, 0, none⟩ = some (.int .i64 d) := by simpa using Below.bx P3.out 0 rfl
  have x1_1_1 : u1.cell? ⟨w.heap.size + 1, 1, none⟩ = some (.int .i64 e) := by simpa using Below.bx P3.out 1 rfl
  have x1_1_2 : u1.cell? ⟨w.heap.size + 1, 2, none⟩ = some (.int .i64 f) := by simpa using Below.bx P3.out 2 rfl
  have z1_1 := World.block_lt_of_cell? _ _ x1_1_0
  go_wp2_with fail
  refine (Right_no ha _).mono ?_
  rintro e u2 ⟨rfl, hb⟩
  have hb := hb.below
  have G2 : Hid _ := G1.out.trans (hb.mono G1.out.size)
  have E2 : Hid _ := E1.out.later hb
  clear x1_0_0 x1_0_1 x1_0_2 z1_0 x1_1_0 x1_1_1 x1_1_2 z1_1
  have P4 : Hid _ := P2.out.trans (hb.mono P2.out.size)
  have P5 : Hid _ := P3.out.trans (hb.mono P3.out.size)
  clear hb G1 E1 P2 P3
  have x2_0_0 := Below.bx P4.out 0 rfl
  have x2_0_1 := Below.bx P4.out 1 rfl
  have x2_0_2 := Below.bx P4.out 2 rfl
  have z2_0 := World.block_lt_of_cell? _ _ x2_0_0
  have x2_1_0 : u2.cell? ⟨w.heap.size + 1, 0, none⟩ = some (.int .i64 d) := by simpa using Below.bx P5.out 0 rfl
  have x2_1_1 : u2.cell? ⟨w.heap.size + 1, 1, none⟩ = some (.int .i64 e) := by simpa using Below.bx P5.out 1 rfl
  have x2_1_2 : u2.cell? ⟨w.heap.size + 1, 2, none⟩ = some (.int .i64 f) := by simpa using Below.bx P5.out 2 rfl
  have z2_1 := World.block_lt_of_cell? _ _ x2_1_0
  go_wp2
  go_ret
  exact ⟨rfl, G2.out⟩

set_option maxHeartbeats 4000000 in
theorem apart1 {o k v : Nat} (d e f : Int) (w : World) (hE : Ec w) (ha : Rt o k v) (hB : ¬ Rt d e f) :
    Calls Tryd.prog 6 #[.agg #[.int .i64 o, .int .i64 k, .int .i64 v], .agg #[.int .i64 d, .int .i64 e, .int .i64 f]] w fun e w' => e = .returned (.bool true) ∧ Below w.heap.size w w' := by
  have G0 : Hid _ := ((Below.refl w.heap.size w).alloc (Nat.le_refl _) (.cells #[.int .i64 o, .int .i64 k, .int .i64 v] 23)).alloc (by simp) (.cells #[.int .i64 d, .int .i64 e, .int .i64 f] 23)
  have E0 : Hid _ := hE.later G0.out
  clear hE
  have P0 : Hid _ := (Below.refl (w.alloc (.cells #[.int .i64 o, .int .i64 k, .int .i64 v] 23)).heap.size (w.alloc (.cells #[.int .i64 o, .int .i64 k, .int .i64 v] 23))).alloc (by simp) (.cells #[.int .i64 d, .int .i64 e, .int .i64 f] 23)
  have P1 : Hid _ := Below.refl ((w.alloc (.cells #[.int .i64 o, .int .i64 k, .int .i64 v] 23)).alloc (.cells #[.int .i64 d, .int .i64 e, .int .i64 f] 23)).heap.size ((w.alloc (.cells #[.int .i64 o, .int .i64 k, .int .i64 v] 23)).alloc (.cells #[.int .i64 d, .int .i64 e, .int .i64 f] 23))
  go_enter Tryd.func6, Tryd.ntmps6
  go_wp2_with fail
  refine (spelled_any _ E0.out).mono ?_
  rintro e u1 ⟨rfl, hb⟩
  have G1 : Hid _ := G0.out.trans (hb.mono G0.out.size)
  have E1 : Hid _ := E0.out.later hb
  have P2 : Hid _ := P0.out.trans (hb.mono P0.out.size)
  have P3 : Hid _ := P1.out.trans (hb.mono P1.out.size)
  clear hb G0 E0 P0 P1
  have x1_0_0 := Below.bx P2.out 0 rfl
  have x1_0_1 := Below.bx P2.out 1 rfl
  have x1_0_2 := Below.bx P2.out 2 rfl
  have z1_0 := World.block_lt_of_cell? _ _ x1_0_0
  have x1_1_0 : u1.cell? ⟨w.heap.size + 1, 0, none⟩ = some (.int .i64 d) := by simpa using Below.bx P3.out 0 rfl
  have x1_1_1 : u1.cell? ⟨w.heap.size + 1, 1, none⟩ = some (.int .i64 e) := by simpa using Below.bx P3.out 1 rfl
  have x1_1_2 : u1.cell? ⟨w.heap.size + 1, 2, none⟩ = some (.int .i64 f) := by simpa using Below.bx P3.out 2 rfl
  have z1_1 := World.block_lt_of_cell? _ _ x1_1_0
  go_wp2_with fail
  refine (Right_yes ha _).mono ?_
  rintro e u2 ⟨rfl, hb⟩
  have hb := hb.below
  have G2 : Hid _ := G1.out.trans (hb.mono G1.out.size)
  have E2 : Hid _ := E1.out.later hb
  clear x1_0_0 x1_0_1 x1_0_2 z1_0 x1_1_0 x1_1_1 x1_1_2 z1_1
  have P4 : Hid _ := P2.out.trans (hb.mono P2.out.size)
  have P5 : Hid _ := P3.out.trans (hb.mono P3.out.size)
  clear hb G1 E1 P2 P3
  have x2_0_0 := Below.bx P4.out 0 rfl
  have x2_0_1 := Below.bx P4.out 1 rfl
  have x2_0_2 := Below.bx P4.out 2 rfl
  have z2_0 := World.block_lt_of_cell? _ _ x2_0_0
  have x2_1_0 : u2.cell? ⟨w.heap.size + 1, 0, none⟩ = some (.int .i64 d) := by simpa using Below.bx P5.out 0 rfl
  have x2_1_1 : u2.cell? ⟨w.heap.size + 1, 1, none⟩ = some (.int .i64 e) := by simpa using Below.bx P5.out 1 rfl
  have x2_1_2 : u2.cell? ⟨w.heap.size + 1, 2, none⟩ = some (.int .i64 f) := by simpa using Below.bx P5.out 2 rfl
  have z2_1 := World.block_lt_of_cell? _ _ x2_1_0
  go_wp2_with fail
  refine (Right_no hB _).mono ?_
  rintro e u3 ⟨rfl, hb⟩
  have hb := hb.below
  have G3 : Hid _ := G2.out.trans (hb.mono G2.out.size)
  have E3 : Hid _ := E2.out.later hb
  clear x2_0_0 x2_0_1 x2_0_2 z2_0 x2_1_0 x2_1_1 x2_1_2 z2_1
  have P6 : Hid _ := P4.out.trans (hb.mono P4.out.size)
  have P7 : Hid _ := P5.out.trans (hb.mono P5.out.size)
  clear hb G2 E2 P4 P5
  have x3_0_0 := Below.bx P6.out 0 rfl
  have x3_0_1 := Below.bx P6.out 1 rfl
  have x3_0_2 := Below.bx P6.out 2 rfl
  have z3_0 := World.block_lt_of_cell? _ _ x3_0_0
  have x3_1_0 : u3.cell? ⟨w.heap.size + 1, 0, none⟩ = some (.int .i64 d) := by simpa using Below.bx P7.out 0 rfl
  have x3_1_1 : u3.cell? ⟨w.heap.size + 1, 1, none⟩ = some (.int .i64 e) := by simpa using Below.bx P7.out 1 rfl
  have x3_1_2 : u3.cell? ⟨w.heap.size + 1, 2, none⟩ = some (.int .i64 f) := by simpa using Below.bx P7.out 2 rfl
  have z3_1 := World.block_lt_of_cell? _ _ x3_1_0
  go_wp2
  go_ret
  exact ⟨rfl, G3.out⟩

set_option maxHeartbeats 4000000 in
theorem apart2 {o k v : Nat} (w : World) (hE : Ec w) (ha hB : Rt o k v) :
    Calls Tryd.prog 6 #[.agg #[.int .i64 o, .int .i64 k, .int .i64 v], .agg #[.int .i64 o, .int .i64 k, .int .i64 v]] w fun e w' => e = .returned (.bool true) ∧ Below w.heap.size w w' := by
  have G0 : Hid _ := ((Below.refl w.heap.size w).alloc (Nat.le_refl _) (.cells #[.int .i64 o, .int .i64 k, .int .i64 v] 23)).alloc (by simp) (.cells #[.int .i64 o, .int .i64 k, .int .i64 v] 23)
  have E0 : Hid _ := hE.later G0.out
  clear hE
  have P0 : Hid _ := (Below.refl (w.alloc (.cells #[.int .i64 o, .int .i64 k, .int .i64 v] 23)).heap.size (w.alloc (.cells #[.int .i64 o, .int .i64 k, .int .i64 v] 23))).alloc (by simp) (.cells #[.int .i64 o, .int .i64 k, .int .i64 v] 23)
  have P1 : Hid _ := Below.refl ((w.alloc (.cells #[.int .i64 o, .int .i64 k, .int .i64 v] 23)).alloc (.cells #[.int .i64 o, .int .i64 k, .int .i64 v] 23)).heap.size ((w.alloc (.cells #[.int .i64 o, .int .i64 k, .int .i64 v] 23)).alloc (.cells #[.int .i64 o, .int .i64 k, .int .i64 v] 23))
  go_enter Tryd.func6, Tryd.ntmps6
  go_wp2_with fail
  refine (spelled_any _ E0.out).mono ?_
  rintro e u1 ⟨rfl, hb⟩
  have G1 : Hid _ := G0.out.trans (hb.mono G0.out.size)
  have E1 : Hid _ := E0.out.later hb
  have P2 : Hid _ := P0.out.trans (hb.mono P0.out.size)
  have P3 : Hid _ := P1.out.trans (hb.mono P1.out.size)
  clear hb G0 E0 P0 P1
  have x1_0_0 := Below.bx P2.out 0 rfl
  have x1_0_1 := Below.bx P2.out 1 rfl
  have x1_0_2 := Below.bx P2.out 2 rfl
  have z1_0 := World.block_lt_of_cell? _ _ x1_0_0
  have x1_1_0 : u1.cell? ⟨w.heap.size + 1, 0, none⟩ = some (.int .i64 o) := by simpa using Below.bx P3.out 0 rfl
  have x1_1_1 : u1.cell? ⟨w.heap.size + 1, 1, none⟩ = some (.int .i64 k) := by simpa using Below.bx P3.out 1 rfl
  have x1_1_2 : u1.cell? ⟨w.heap.size + 1, 2, none⟩ = some (.int .i64 v) := by simpa using Below.bx P3.out 2 rfl
  have z1_1 := World.block_lt_of_cell? _ _ x1_1_0
  go_wp2_with fail
  refine (Right_yes ha _).mono ?_
  rintro e u2 ⟨rfl, hb⟩
  have hb := hb.below
  have G2 : Hid _ := G1.out.trans (hb.mono G1.out.size)
  have E2 : Hid _ := E1.out.later hb
  clear x1_0_0 x1_0_1 x1_0_2 z1_0 x1_1_0 x1_1_1 x1_1_2 z1_1
  have P4 : Hid _ := P2.out.trans (hb.mono P2.out.size)
  have P5 : Hid _ := P3.out.trans (hb.mono P3.out.size)
  clear hb G1 E1 P2 P3
  have x2_0_0 := Below.bx P4.out 0 rfl
  have x2_0_1 := Below.bx P4.out 1 rfl
  have x2_0_2 := Below.bx P4.out 2 rfl
  have z2_0 := World.block_lt_of_cell? _ _ x2_0_0
  have x2_1_0 : u2.cell? ⟨w.heap.size + 1, 0, none⟩ = some (.int .i64 o) := by simpa using Below.bx P5.out 0 rfl
  have x2_1_1 : u2.cell? ⟨w.heap.size + 1, 1, none⟩ = some (.int .i64 k) := by simpa using Below.bx P5.out 1 rfl
  have x2_1_2 : u2.cell? ⟨w.heap.size + 1, 2, none⟩ = some (.int .i64 v) := by simpa using Below.bx P5.out 2 rfl
  have z2_1 := World.block_lt_of_cell? _ _ x2_1_0
  go_wp2_with fail
  refine (Right_yes hB _).mono ?_
  rintro e u3 ⟨rfl, hb⟩
  have hb := hb.below
  have G3 : Hid _ := G2.out.trans (hb.mono G2.out.size)
  have E3 : Hid _ := E2.out.later hb
  clear x2_0_0 x2_0_1 x2_0_2 z2_0 x2_1_0 x2_1_1 x2_1_2 z2_1
  have P6 : Hid _ := P4.out.trans (hb.mono P4.out.size)
  have P7 : Hid _ := P5.out.trans (hb.mono P5.out.size)
  clear hb G2 E2 P4 P5
  have x3_0_0 := Below.bx P6.out 0 rfl
  have x3_0_1 := Below.bx P6.out 1 rfl
  have x3_0_2 := Below.bx P6.out 2 rfl
  have z3_0 := World.block_lt_of_cell? _ _ x3_0_0
  have x3_1_0 : u3.cell? ⟨w.heap.size + 1, 0, none⟩ = some (.int .i64 o) := by simpa using Below.bx P7.out 0 rfl
  have x3_1_1 : u3.cell? ⟨w.heap.size + 1, 1, none⟩ = some (.int .i64 k) := by simpa using Below.bx P7.out 1 rfl
  have x3_1_2 : u3.cell? ⟨w.heap.size + 1, 2, none⟩ = some (.int .i64 v) := by simpa using Below.bx P7.out 2 rfl
  have z3_1 := World.block_lt_of_cell? _ _ x3_1_0
  go_wp2_with fail
  refine (Word_yes ha _).mono ?_
  rintro e u4 ⟨rfl, hb⟩
  have hb := hb.below
  have G4 : Hid _ := G3.out.trans (hb.mono G3.out.size)
  have E4 : Hid _ := E3.out.later hb
  clear x3_0_0 x3_0_1 x3_0_2 z3_0 x3_1_0 x3_1_1 x3_1_2 z3_1
  have P8 : Hid _ := P6.out.trans (hb.mono P6.out.size)
  have P9 : Hid _ := P7.out.trans (hb.mono P7.out.size)
  clear hb G3 E3 P6 P7
  have x4_0_0 := Below.bx P8.out 0 rfl
  have x4_0_1 := Below.bx P8.out 1 rfl
  have x4_0_2 := Below.bx P8.out 2 rfl
  have z4_0 := World.block_lt_of_cell? _ _ x4_0_0
  have x4_1_0 : u4.cell? ⟨w.heap.size + 1, 0, none⟩ = some (.int .i64 o) := by simpa using Below.bx P9.out 0 rfl
  have x4_1_1 : u4.cell? ⟨w.heap.size + 1, 1, none⟩ = some (.int .i64 k) := by simpa using Below.bx P9.out 1 rfl
  have x4_1_2 : u4.cell? ⟨w.heap.size + 1, 2, none⟩ = some (.int .i64 v) := by simpa using Below.bx P9.out 2 rfl
  have z4_1 := World.block_lt_of_cell? _ _ x4_1_0
  go_wp2_with fail
  refine (Word_yes hB _).mono ?_
  rintro e u5 ⟨rfl, hb⟩
  have hb := hb.below
  have G5 : Hid _ := G4.out.trans (hb.mono G4.out.size)
  have E5 : Hid _ := E4.out.later hb
  clear x4_0_0 x4_0_1 x4_0_2 z4_0 x4_1_0 x4_1_1 x4_1_2 z4_1
  have P10 : Hid _ := P8.out.trans (hb.mono P8.out.size)
  have P11 : Hid _ := P9.out.trans (hb.mono P9.out.size)
  clear hb G4 E4 P8 P9
  have x5_0_0 := Below.bx P10.out 0 rfl
  have x5_0_1 := Below.bx P10.out 1 rfl
  have x5_0_2 := Below.bx P10.out 2 rfl
  have z5_0 := World.block_lt_of_cell? _ _ x5_0_0
  have x5_1_0 : u5.cell? ⟨w.heap.size + 1, 0, none⟩ = some (.int .i64 o) := by simpa using Below.bx P11.out 0 rfl
  have x5_1_1 : u5.cell? ⟨w.heap.size + 1, 1, none⟩ = some (.int .i64 k) := by simpa using Below.bx P11.out 1 rfl
  have x5_1_2 : u5.cell? ⟨w.heap.size + 1, 2, none⟩ = some (.int .i64 v) := by simpa using Below.bx P11.out 2 rfl
  have z5_1 := World.block_lt_of_cell? _ _ x5_1_0
  go_wp2_with fail
  refine (Print_yes ha _ E5.out.en.pw E5.out.en.wh).mono ?_
  rintro e u6 ⟨rfl, hb⟩
  have G6 : Hid _ := G5.out.trans (hb.mono G5.out.size)
  have E6 : Hid _ := E5.out.later hb
  clear x5_0_0 x5_0_1 x5_0_2 z5_0 x5_1_0 x5_1_1 x5_1_2 z5_1
  have P12 : Hid _ := P10.out.trans (hb.mono P10.out.size)
  have P13 : Hid _ := P11.out.trans (hb.mono P11.out.size)
  clear hb G5 E5 P10 P11
  have x6_0_0 := Below.bx P12.out 0 rfl
  have x6_0_1 := Below.bx P12.out 1 rfl
  have x6_0_2 := Below.bx P12.out 2 rfl
  have z6_0 := World.block_lt_of_cell? _ _ x6_0_0
  have x6_1_0 : u6.cell? ⟨w.heap.size + 1, 0, none⟩ = some (.int .i64 o) := by simpa using Below.bx P13.out 0 rfl
  have x6_1_1 : u6.cell? ⟨w.heap.size + 1, 1, none⟩ = some (.int .i64 k) := by simpa using Below.bx P13.out 1 rfl
  have x6_1_2 : u6.cell? ⟨w.heap.size + 1, 2, none⟩ = some (.int .i64 v) := by simpa using Below.bx P13.out 2 rfl
  have z6_1 := World.block_lt_of_cell? _ _ x6_1_0
  go_wp2_with fail
  refine (Print_yes hB _ E6.out.en.pw E6.out.en.wh).mono ?_
  rintro e u7 ⟨rfl, hb⟩
  have G7 : Hid _ := G6.out.trans (hb.mono G6.out.size)
  have E7 : Hid _ := E6.out.later hb
  clear x6_0_0 x6_0_1 x6_0_2 z6_0 x6_1_0 x6_1_1 x6_1_2 z6_1
  have P14 : Hid _ := P12.out.trans (hb.mono P12.out.size)
  have P15 : Hid _ := P13.out.trans (hb.mono P13.out.size)
  clear hb G6 E6 P12 P13
  have x7_0_0 := Below.bx P14.out 0 rfl
  have x7_0_1 := Below.bx P14.out 1 rfl
  have x7_0_2 := Below.bx P14.out 2 rfl
  have z7_0 := World.block_lt_of_cell? _ _ x7_0_0
  have x7_1_0 : u7.cell? ⟨w.heap.size + 1, 0, none⟩ = some (.int .i64 o) := by simpa using Below.bx P15.out 0 rfl
  have x7_1_1 : u7.cell? ⟨w.heap.size + 1, 1, none⟩ = some (.int .i64 k) := by simpa using Below.bx P15.out 1 rfl
  have x7_1_2 : u7.cell? ⟨w.heap.size + 1, 2, none⟩ = some (.int .i64 v) := by simpa using Below.bx P15.out 2 rfl
  have z7_1 := World.block_lt_of_cell? _ _ x7_1_0
  go_wp2
  go_ret
  exact ⟨rfl, G7.out⟩

set_option maxHeartbeats 4000000 in
theorem apart3a {o k v p q r : Nat} (w : World) (hE : Ec w) (ha : Rt o k v) (hB : Rt p q r) (n1 : (((wordN o k v : Nat) : Int) == ((wordN p q r : Nat) : Int)) = false) (n2 : (txt o k v == txt p q r) = false) (n3 : ¬ ((o : Int) = (p : Int))) :
    Calls Tryd.prog 6 #[.agg #[.int .i64 o, .int .i64 k, .int .i64 v], .agg #[.int .i64 p, .int .i64 q, .int .i64 r]] w fun e w' => e = .returned (.bool true) ∧ Below w.heap.size w w' := by
  have G0 : Hid _ := ((Below.refl w.heap.size w).alloc (Nat.le_refl _) (.cells #[.int .i64 o, .int .i64 k, .int .i64 v] 23)).alloc (by simp) (.cells #[.int .i64 p, .int .i64 q, .int .i64 r] 23)
  have E0 : Hid _ := hE.later G0.out
  clear hE
  have P0 : Hid _ := (Below.refl (w.alloc (.cells #[.int .i64 o, .int .i64 k, .int .i64 v] 23)).heap.size (w.alloc (.cells #[.int .i64 o, .int .i64 k, .int .i64 v] 23))).alloc (by simp) (.cells #[.int .i64 p, .int .i64 q, .int .i64 r] 23)
  have P1 : Hid _ := Below.refl ((w.alloc (.cells #[.int .i64 o, .int .i64 k, .int .i64 v] 23)).alloc (.cells #[.int .i64 p, .int .i64 q, .int .i64 r] 23)).heap.size ((w.alloc (.cells #[.int .i64 o, .int .i64 k, .int .i64 v] 23)).alloc (.cells #[.int .i64 p, .int .i64 q, .int .i64 r] 23))
  go_enter Tryd.func6, Tryd.ntmps6
  go_wp2_with fail
  refine (spelled_any _ E0.out).mono ?_
  rintro e u1 ⟨rfl, hb⟩
  have G1 : Hid _ := G0.out.trans (hb.mono G0.out.size)
  have E1 : Hid _ := E0.out.later hb
  have P2 : Hid _ := P0.out.trans (hb.mono P0.out.size)
  have P3 : Hid _ := P1.out.trans (hb.mono P1.out.size)
  clear hb G0 E0 P0 P1
  have x1_0_0 := Below.bx P2.out 0 rfl
  have x1_0_1 := Below.bx P2.out 1 rfl
  have x1_0_2 := Below.bx P2.out 2 rfl
  have z1_0 := World.block_lt_of_cell? _ _ x1_0_0
  have x1_1_0 : u1.cell? ⟨w.heap.size + 1, 0, none⟩ = some (.int .i64 p) := by simpa using Below.bx P3.out 0 rfl
  have x1_1_1 : u1.cell? ⟨w.heap.size + 1, 1, none⟩ = some (.int .i64 q) := by simpa using Below.bx P3.out 1 rfl
  have x1_1_2 : u1.cell? ⟨w.heap.size + 1, 2, none⟩ = some (.int .i64 r) := by simpa using Below.bx P3.out 2 rfl
  have z1_1 := World.block_lt_of_cell? _ _ x1_1_0
  go_wp2_with fail
  refine (Right_yes ha _).mono ?_
  rintro e u2 ⟨rfl, hb⟩
  have hb := hb.below
  have G2 : Hid _ := G1.out.trans (hb.mono G1.out.size)
  have E2 : Hid _ := E1.out.later hb
  clear x1_0_0 x1_0_1 x1_0_2 z1_0 x1_1_0 x1_1_1 x1_1_2 z1_1
  have P4 : Hid _ := P2.out.trans (hb.mono P2.out.size)
  have P5 : Hid _ := P3.out.trans (hb.mono P3.out.size)
  clear hb G1 E1 P2 P3
  have x2_0_0 := Below.bx P4.out 0 rfl
  have x2_0_1 := Below.bx P4.out 1 rfl
  have x2_0_2 := Below.bx P4.out 2 rfl
  have z2_0 := World.block_lt_of_cell? _ _ x2_0_0
  have x2_1_0 : u2.cell? ⟨w.heap.size + 1, 0, none⟩ = some (.int .i64 p) := by simpa using Below.bx P5.out 0 rfl
  have x2_1_1 : u2.cell? ⟨w.heap.size + 1, 1, none⟩ = some (.int .i64 q) := by simpa using Below.bx P5.out 1 rfl
  have x2_1_2 : u2.cell? ⟨w.heap.size + 1, 2, none⟩ = some (.int .i64 r) := by simpa using Below.bx P5.out 2 rfl
  have z2_1 := World.block_lt_of_cell? _ _ x2_1_0
  go_wp2_with fail
  refine (Right_yes hB _).mono ?_
  rintro e u3 ⟨rfl, hb⟩
  have hb := hb.below
  have G3 : Hid _ := G2.out.trans (hb.mono G2.out.size)
  have E3 : Hid _ := E2.out.later hb
  clear x2_0_0 x2_0_1 x2_0_2 z2_0 x2_1_0 x2_1_1 x2_1_2 z2_1
  have P6 : Hid _ := P4.out.trans (hb.mono P4.out.size)
  have P7 : Hid _ := P5.out.trans (hb.mono P5.out.size)
  clear hb G2 E2 P4 P5
  have x3_0_0 := Below.bx P6.out 0 rfl
  have x3_0_1 := Below.bx P6.out 1 rfl
  have x3_0_2 := Below.bx P6.out 2 rfl
  have z3_0 := World.block_lt_of_cell? _ _ x3_0_0
  have x3_1_0 : u3.cell? ⟨w.heap.size + 1, 0, none⟩ = some (.int .i64 p) := by simpa using Below.bx P7.out 0 rfl
  have x3_1_1 : u3.cell? ⟨w.heap.size + 1, 1, none⟩ = some (.int .i64 q) := by simpa using Below.bx P7.out 1 rfl
  have x3_1_2 : u3.cell? ⟨w.heap.size + 1, 2, none⟩ = some (.int .i64 r) := by simpa using Below.bx P7.out 2 rfl
  have z3_1 := World.block_lt_of_cell? _ _ x3_1_0
  go_wp2_with fail
  refine (Word_yes ha _).mono ?_
  rintro e u4 ⟨rfl, hb⟩
  have hb := hb.below
  have G4 : Hid _ := G3.out.trans (hb.mono G3.out.size)
  have E4 : Hid _ := E3.out.later hb
  clear x3_0_0 x3_0_1 x3_0_2 z3_0 x3_1_0 x3_1_1 x3_1_2 z3_1
  have P8 : Hid _ := P6.out.trans (hb.mono P6.out.size)
  have P9 : Hid _ := P7.out.trans (hb.mono P7.out.size)
  clear hb G3 E3 P6 P7
  have x4_0_0 := Below.bx P8.out 0 rfl
  have x4_0_1 := Below.bx P8.out 1 rfl
  have x4_0_2 := Below.bx P8.out 2 rfl
  have z4_0 := World.block_lt_of_cell? _ _ x4_0_0
  have x4_1_0 : u4.cell? ⟨w.heap.size + 1, 0, none⟩ = some (.int .i64 p) := by simpa using Below.bx P9.out 0 rfl
  have x4_1_1 : u4.cell? ⟨w.heap.size + 1, 1, none⟩ = some (.int .i64 q) := by simpa using Below.bx P9.out 1 rfl
  have x4_1_2 : u4.cell? ⟨w.heap.size + 1, 2, none⟩ = some (.int .i64 r) := by simpa using Below.bx P9.out 2 rfl
  have z4_1 := World.block_lt_of_cell? _ _ x4_1_0
  go_wp2_with fail
  refine (Word_yes hB _).mono ?_
  rintro e u5 ⟨rfl, hb⟩
  have hb := hb.below
  have G5 : Hid _ := G4.out.trans (hb.mono G4.out.size)
  have E5 : Hid _ := E4.out.later hb
  clear x4_0_0 x4_0_1 x4_0_2 z4_0 x4_1_0 x4_1_1 x4_1_2 z4_1
  have P10 : Hid _ := P8.out.trans (hb.mono P8.out.size)
  have P11 : Hid _ := P9.out.trans (hb.mono P9.out.size)
  clear hb G4 E4 P8 P9
  have x5_0_0 := Below.bx P10.out 0 rfl
  have x5_0_1 := Below.bx P10.out 1 rfl
  have x5_0_2 := Below.bx P10.out 2 rfl
  have z5_0 := World.block_lt_of_cell? _ _ x5_0_0
  have x5_1_0 : u5.cell? ⟨w.heap.size + 1, 0, none⟩ = some (.int .i64 p) := by simpa using Below.bx P11.out 0 rfl
  have x5_1_1 : u5.cell? ⟨w.heap.size + 1, 1, none⟩ = some (.int .i64 q) := by simpa using Below.bx P11.out 1 rfl
  have x5_1_2 : u5.cell? ⟨w.heap.size + 1, 2, none⟩ = some (.int .i64 r) := by simpa using Below.bx P11.out 2 rfl
  have z5_1 := World.block_lt_of_cell? _ _ x5_1_0
  go_wp2_with fail
  refine (Print_yes ha _ E5.out.en.pw E5.out.en.wh).mono ?_
  rintro e u6 ⟨rfl, hb⟩
  have G6 : Hid _ := G5.out.trans (hb.mono G5.out.size)
  have E6 : Hid _ := E5.out.later hb
  clear x5_0_0 x5_0_1 x5_0_2 z5_0 x5_1_0 x5_1_1 x5_1_2 z5_1
  have P12 : Hid _ := P10.out.trans (hb.mono P10.out.size)
  have P13 : Hid _ := P11.out.trans (hb.mono P11.out.size)
  clear hb G5 E5 P10 P11
  have x6_0_0 := Below.bx P12.out 0 rfl
  have x6_0_1 := Below.bx P12.out 1 rfl
  have x6_0_2 := Below.bx P12.out 2 rfl
  have z6_0 := World.block_lt_of_cell? _ _ x6_0_0
  have x6_1_0 : u6.cell? ⟨w.heap.size + 1, 0, none⟩ = some (.int .i64 p) := by simpa using Below.bx P13.out 0 rfl
  have x6_1_1 : u6.cell? ⟨w.heap.size + 1, 1, none⟩ = some (.int .i64 q) := by simpa using Below.bx P13.out 1 rfl
  have x6_1_2 : u6.cell? ⟨w.heap.size + 1, 2, none⟩ = some (.int .i64 r) := by simpa using Below.bx P13.out 2 rfl
  have z6_1 := World.block_lt_of_cell? _ _ x6_1_0
  go_wp2_with fail
  refine (Print_yes hB _ E6.out.en.pw E6.out.en.wh).mono ?_
  rintro e u7 ⟨rfl, hb⟩
  have G7 : Hid _ := G6.out.trans (hb.mono G6.out.size)
  have E7 : Hid _ := E6.out.later hb
  clear x6_0_0 x6_0_1 x6_0_2 z6_0 x6_1_0 x6_1_1 x6_1_2 z6_1
  have P14 : Hid _ := P12.out.trans (hb.mono P12.out.size)
  have P15 : Hid _ := P13.out.trans (hb.mono P13.out.size)
  clear hb G6 E6 P12 P13
  have x7_0_0 := Below.bx P14.out 0 rfl
  have x7_0_1 := Below.bx P14.out 1 rfl
  have x7_0_2 := Below.bx P14.out 2 rfl
  have z7_0 := World.block_lt_of_cell? _ _ x7_0_0
  have x7_1_0 : u7.cell? ⟨w.heap.size + 1, 0, none⟩ = some (.int .i64 p) := by simpa using Below.bx P15.out 0 rfl
  have x7_1_1 : u7.cell? ⟨w.heap.size + 1, 1, none⟩ = some (.int .i64 q) := by simpa using Below.bx P15.out 1 rfl
  have x7_1_2 : u7.cell? ⟨w.heap.size + 1, 2, none⟩ = some (.int .i64 r) := by simpa using Below.bx P15.out 2 rfl
  have z7_1 := World.block_lt_of_cell? _ _ x7_1_0
  go_wp2
  go_ret
  exact ⟨rfl, G7.out⟩

set_option maxHeartbeats 4000000 in
theorem apart3b {o k v q r : Nat} (w : World) (hE : Ec w) (ha : Rt o k v) (hB : Rt o q r) (n1 : (((wordN o k v : Nat) : Int) == ((wordN o q r : Nat) : Int)) = false) (n2 : (txt o k v == txt o q r) = false) (n3 : ¬ ((k : Int) = (q : Int))) :
    Calls Tryd.prog 6 #[.agg #[.int .i64 o, .int .i64 k, .int .i64 v], .agg #[.int .i64 o, .int .i64 q, .int .i64 r]] w fun e w' => e = .returned (.bool true) ∧ Below w.heap.size w w' := by
  have G0 : Hid _ := ((Below.refl w.heap.size w).alloc (Nat.le_refl _) (.cells #[.int .i64 o, .int .i64 k, .int .i64 v] 23)).alloc (by simp) (.cells #[.int .i64 o, .int .i64 q, .int .i64 r] 23)
  have E0 : Hid _ := hE.later G0.out
  clear hE
  have P0 : Hid _ := (Below.refl (w.alloc (.cells #[.int .i64 o, .int .i64 k, .int .i64 v] 23)).heap.size (w.alloc (.cells #[.int .i64 o, .int .i64 k, .int .i64 v] 23))).alloc (by simp) (.cells #[.int .i64 o, .int .i64 q, .int .i64 r] 23)
  have P1 : Hid _ := Below.refl ((w.alloc (.cells #[.int .i64 o, .int .i64 k, .int .i64 v] 23)).alloc (.cells #[.int .i64 o, .int .i64 q, .int .i64 r] 23)).heap.size ((w.alloc (.cells #[.int .i64 o, .int .i64 k, .int .i64 v] 23)).alloc (.cells #[.int .i64 o, .int .i64 q, .int .i64 r] 23))
  go_enter Tryd.func6, Tryd.ntmps6
  go_wp2_with fail
  refine (spelled_any _ E0.out).mono ?_
  rintro e u1 ⟨rfl, hb⟩
  have G1 : Hid _ := G0.out.trans (hb.mono G0.out.size)
  have E1 : Hid _ := E0.out.later hb
  have P2 : Hid _ := P0.out.trans (hb.mono P0.out.size)
  have P3 : Hid _ := P1.out.trans (hb.mono P1.out.size)
  clear hb G0 E0 P0 P1
  have x1_0_0 := Below.bx P2.out 0 rfl
  have x1_0_1 := Below.bx P2.out 1 rfl
  have x1_0_2 := Below.bx P2.out 2 rfl
  have z1_0 := World.block_lt_of_cell? _ _ x1_0_0
  have x1_1_0 : u1.cell? ⟨w.heap.size + 1, 0, none⟩ = some (.int .i64 o) := by simpa using Below.bx P3.out 0 rfl
  have x1_1_1 : u1.cell? ⟨w.heap.size + 1, 1, none⟩ = some (.int .i64 q) := by simpa using Below.bx P3.out 1 rfl
  have x1_1_2 : u1.cell? ⟨w.heap.size + 1, 2, none⟩ = some (.int .i64 r) := by simpa using Below.bx P3.out 2 rfl
  have z1_1 := World.block_lt_of_cell? _ _ x1_1_0
  go_wp2_with fail
  refine (Right_yes ha _).mono ?_
  rintro e u2 ⟨rfl, hb⟩
  have hb := hb.below
  have G2 : Hid _ := G1.out.trans (hb.mono G1.out.size)
  have E2 : Hid _ := E1.out.later hb
  clear x1_0_0 x1_0_1 x1_0_2 z1_0 x1_1_0 x1_1_1 x1_1_2 z1_1
  have P4 : Hid _ := P2.out.trans (hb.mono P2.out.size)
  have P5 : Hid _ := P3.out.trans (hb.mono P3.out.size)
  clear hb G1 E1 P2 P3
  have x2_0_0 := Below.bx P4.out 0 rfl
  have x2_0_1 := Below.bx P4.out 1 rfl
  have x2_0_2 := Below.bx P4.out 2 rfl
  have z2_0 := World.block_lt_of_cell? _ _ x2_0_0
  have x2_1_0 : u2.cell? ⟨w.heap.size + 1, 0, none⟩ = some (.int .i64 o) := by simpa using Below.bx P5.out 0 rfl
  have x2_1_1 : u2.cell? ⟨w.heap.size + 1, 1, none⟩ = some (.int .i64 q) := by simpa using Below.bx P5.out 1 rfl
  have x2_1_2 : u2.cell? ⟨w.heap.size + 1, 2, none⟩ = some (.int .i64 r) := by simpa using Below.bx P5.out 2 rfl
  have z2_1 := World.block_lt_of_cell? _ _ x2_1_0
  go_wp2_with fail
  refine (Right_yes hB _).mono ?_
  rintro e u3 ⟨rfl, hb⟩
  have hb := hb.below
  have G3 : Hid _ := G2.out.trans (hb.mono G2.out.size)
  have E3 : Hid _ := E2.out.later hb
  clear x2_0_0 x2_0_1 x2_0_2 z2_0 x2_1_0 x2_1_1 x2_1_2 z2_1
  have P6 : Hid _ := P4.out.trans (hb.mono P4.out.size)
  have P7 : Hid _ := P5.out.trans (hb.mono P5.out.size)
  clear hb G2 E2 P4 P5
  have x3_0_0 := Below.bx P6.out 0 rfl
  have x3_0_1 := Below.bx P6.out 1 rfl
  have x3_0_2 := Below.bx P6.out 2 rfl
  have z3_0 := World.block_lt_of_cell? _ _ x3_0_0
  have x3_1_0 : u3.cell? ⟨w.heap.size + 1, 0, none⟩ = some (.int .i64 o) := by simpa using Below.bx P7.out 0 rfl
  have x3_1_1 : u3.cell? ⟨w.heap.size + 1, 1, none⟩ = some (.int .i64 q) := by simpa using Below.bx P7.out 1 rfl
  have x3_1_2 : u3.cell? ⟨w.heap.size + 1, 2, none⟩ = some (.int .i64 r) := by simpa using Below.bx P7.out 2 rfl
  have z3_1 := World.block_lt_of_cell? _ _ x3_1_0
  go_wp2_with fail
  refine (Word_yes ha _).mono ?_
  rintro e u4 ⟨rfl, hb⟩
  have hb := hb.below
  have G4 : Hid _ := G3.out.trans (hb.mono G3.out.size)
  have E4 : Hid _ := E3.out.later hb
  clear x3_0_0 x3_0_1 x3_0_2 z3_0 x3_1_0 x3_1_1 x3_1_2 z3_1
  have P8 : Hid _ := P6.out.trans (hb.mono P6.out.size)
  have P9 : Hid _ := P7.out.trans (hb.mono P7.out.size)
  clear hb G3 E3 P6 P7
  have x4_0_0 := Below.bx P8.out 0 rfl
  have x4_0_1 := Below.bx P8.out 1 rfl
  have x4_0_2 := Below.bx P8.out 2 rfl
  have z4_0 := World.block_lt_of_cell? _ _ x4_0_0
  have x4_1_0 : u4.cell? ⟨w.heap.size + 1, 0, none⟩ = some (.int .i64 o) := by simpa using Below.bx P9.out 0 rfl
  have x4_1_1 : u4.cell? ⟨w.heap.size + 1, 1, none⟩ = some (.int .i64 q) := by simpa using Below.bx P9.out 1 rfl
  have x4_1_2 : u4.cell? ⟨w.heap.size + 1, 2, none⟩ = some (.int .i64 r) := by simpa using Below.bx P9.out 2 rfl
  have z4_1 := World.block_lt_of_cell? _ _ x4_1_0
  go_wp2_with fail
  refine (Word_yes hB _).mono ?_
  rintro e u5 ⟨rfl, hb⟩
  have hb := hb.below
  have G5 : Hid _ := G4.out.trans (hb.mono G4.out.size)
  have E5 : Hid _ := E4.out.later hb
  clear x4_0_0 x4_0_1 x4_0_2 z4_0 x4_1_0 x4_1_1 x4_1_2 z4_1
  have P10 : Hid _ := P8.out.trans (hb.mono P8.out.size)
  have P11 : Hid _ := P9.out.trans (hb.mono P9.out.size)
  clear hb G4 E4 P8 P9
  have x5_0_0 := Below.bx P10.out 0 rfl
  have x5_0_1 := Below.bx P10.out 1 rfl
  have x5_0_2 := Below.bx P10.out 2 rfl
  have z5_0 := World.block_lt_of_cell? _ _ x5_0_0
  have x5_1_0 : u5.cell? ⟨w.heap.size + 1, 0, none⟩ = some (.int .i64 o) := by simpa using Below.bx P11.out 0 rfl
  have x5_1_1 : u5.cell? ⟨w.heap.size + 1, 1, none⟩ = some (.int .i64 q) := by simpa using Below.bx P11.out 1 rfl
  have x5_1_2 : u5.cell? ⟨w.heap.size + 1, 2, none⟩ = some (.int .i64 r) := by simpa using Below.bx P11.out 2 rfl
  have z5_1 := World.block_lt_of_cell? _ _ x5_1_0
  go_wp2_with fail
  refine (Print_yes ha _ E5.out.en.pw E5.out.en.wh).mono ?_
  rintro e u6 ⟨rfl, hb⟩
  have G6 : Hid _ := G5.out.trans (hb.mono G5.out.size)
  have E6 : Hid _ := E5.out.later hb
  clear x5_0_0 x5_0_1 x5_0_2 z5_0 x5_1_0 x5_1_1 x5_1_2 z5_1
  have P12 : Hid _ := P10.out.trans (hb.mono P10.out.size)
  have P13 : Hid _ := P11.out.trans (hb.mono P11.out.size)
  clear hb G5 E5 P10 P11
  have x6_0_0 := Below.bx P12.out 0 rfl
  have x6_0_1 := Below.bx P12.out 1 rfl
  have x6_0_2 := Below.bx P12.out 2 rfl
  have z6_0 := World.block_lt_of_cell? _ _ x6_0_0
  have x6_1_0 : u6.cell? ⟨w.heap.size + 1, 0, none⟩ = some (.int .i64 o) := by simpa using Below.bx P13.out 0 rfl
  have x6_1_1 : u6.cell? ⟨w.heap.size + 1, 1, none⟩ = some (.int .i64 q) := by simpa using Below.bx P13.out 1 rfl
  have x6_1_2 : u6.cell? ⟨w.heap.size + 1, 2, none⟩ = some (.int .i64 r) := by simpa using Below.bx P13.out 2 rfl
  have z6_1 := World.block_lt_of_cell? _ _ x6_1_0
  go_wp2_with fail
  refine (Print_yes hB _ E6.out.en.pw E6.out.en.wh).mono ?_
  rintro e u7 ⟨rfl, hb⟩
  have G7 : Hid _ := G6.out.trans (hb.mono G6.out.size)
  have E7 : Hid _ := E6.out.later hb
  clear x6_0_0 x6_0_1 x6_0_2 z6_0 x6_1_0 x6_1_1 x6_1_2 z6_1
  have P14 : Hid _ := P12.out.trans (hb.mono P12.out.size)
  have P15 : Hid _ := P13.out.trans (hb.mono P13.out.size)
  clear hb G6 E6 P12 P13
  have x7_0_0 := Below.bx P14.out 0 rfl
  have x7_0_1 := Below.bx P14.out 1 rfl
  have x7_0_2 := Below.bx P14.out 2 rfl
  have z7_0 := World.block_lt_of_cell? _ _ x7_0_0
  have x7_1_0 : u7.cell? ⟨w.heap.size + 1, 0, none⟩ = some (.int .i64 o) := by simpa using Below.bx P15.out 0 rfl
  have x7_1_1 : u7.cell? ⟨w.heap.size + 1, 1, none⟩ = some (.int .i64 q) := by simpa using Below.bx P15.out 1 rfl
  have x7_1_2 : u7.cell? ⟨w.heap.size + 1, 2, none⟩ = some (.int .i64 r) := by simpa using Below.bx P15.out 2 rfl
  have z7_1 := World.block_lt_of_cell? _ _ x7_1_0
  go_wp2
  go_ret
  exact ⟨rfl, G7.out⟩

set_option maxHeartbeats 4000000 in
theorem apart3c {o k v r : Nat} (w : World) (hE : Ec w) (ha : Rt o k v) (hB : Rt o k r) (n1 : (((wordN o k v : Nat) : Int) == ((wordN o k r : Nat) : Int)) = false) (n2 : (txt o k v == txt o k r) = false) (n3 : ¬ ((v : Int) = (r : Int))) :
    Calls Tryd.prog 6 #[.agg #[.int .i64 o, .int .i64 k, .int .i64 v], .agg #[.int .i64 o, .int .i64 k, .int .i64 r]] w fun e w' => e = .returned (.bool true) ∧ Below w.heap.size w w' := by
  have G0 : Hid _ := ((Below.refl w.heap.size w).alloc (Nat.le_refl _) (.cells #[.int .i64 o, .int .i64 k, .int .i64 v] 23)).alloc (by simp) (.cells #[.int .i64 o, .int .i64 k, .int .i64 r] 23)
  have E0 : Hid _ := hE.later G0.out
  clear hE
  have P0 : Hid _ := (Below.refl (w.alloc (.cells #[.int .i64 o, .int .i64 k, .int .i64 v] 23)).heap.size (w.alloc (.cells #[.int .i64 o, .int .i64 k, .int .i64 v] 23))).alloc (by simp) (.cells #[.int .i64 o, .int .i64 k, .int .i64 r] 23)
  have P1 : Hid _ := Below.refl ((w.alloc (.cells #[.int .i64 o, .int .i64 k, .int .i64 v] 23)).alloc (.cells #[.int .i64 o, .int .i64 k, .int .i64 r] 23)).heap.size ((w.alloc (.cells #[.int .i64 o, .int .i64 k, .int .i64 v] 23)).alloc (.cells #[.int .i64 o, .int .i64 k, .int .i64 r] 23))
  go_enter Tryd.func6, Tryd.ntmps6
  go_wp2_with fail
  refine (spelled_any _ E0.out).mono ?_
  rintro e u1 ⟨rfl, hb⟩
  have G1 : Hid _ := G0.out.trans (hb.mono G0.out.size)
  have E1 : Hid _ := E0.out.later hb
  have P2 : Hid _ := P0.out.trans (hb.mono P0.out.size)
  have P3 : Hid _ := P1.out.trans (hb.mono P1.out.size)
  clear hb G0 E0 P0 P1
  have x1_0_0 := Below.bx P2.out 0 rfl
  have x1_0_1 := Below.bx P2.out 1 rfl
  have x1_0_2 := Below.bx P2.out 2 rfl
  have z1_0 := World.block_lt_of_cell? _ _ x1_0_0
  have x1_1_0 : u1.cell? ⟨w.heap.size + 1, 0, none⟩ = some (.int .i64 o) := by simpa using Below.bx P3.out 0 rfl
  have x1_1_1 : u1.cell? ⟨w.heap.size + 1, 1, none⟩ = some (.int .i64 k) := by simpa using Below.bx P3.out 1 rfl
  have x1_1_2 : u1.cell? ⟨w.heap.size + 1, 2, none⟩ = some (.int .i64 r) := by simpa using Below.bx P3.out 2 rfl
  have z1_1 := World.block_lt_of_cell? _ _ x1_1_0
  go_wp2_with fail
  refine (Right_yes ha _).mono ?_
  rintro e u2 ⟨rfl, hb⟩
  have hb := hb.below
  have G2 : Hid _ := G1.out.trans (hb.mono G1.out.size)
  have E2 : Hid _ := E1.out.later hb
  clear x1_0_0 x1_0_1 x1_0_2 z1_0 x1_1_0 x1_1_1 x1_1_2 z1_1
  have P4 : Hid _ := P2.out.trans (hb.mono P2.out.size)
  have P5 : Hid _ := P3.out.trans (hb.mono P3.out.size)
  clear hb G1 E1 P2 P3
  have x2_0_0 := Below.bx P4.out 0 rfl
  have x2_0_1 := Below.bx P4.out 1 rfl
  have x2_0_2 := Below.bx P4.out 2 rfl
  have z2_0 := World.block_lt_of_cell? _ _ x2_0_0
  have x2_1_0 : u2.cell? ⟨w.heap.size + 1, 0, none⟩ = some (.int .i64 o) := by simpa using Below.bx P5.out 0 rfl
  have x2_1_1 : u2.cell? ⟨w.heap.size + 1, 1, none⟩ = some (.int .i64 k) := by simpa using Below.bx P5.out 1 rfl
  have x2_1_2 : u2.cell? ⟨w.heap.size + 1, 2, none⟩ = some (.int .i64 r) := by simpa using Below.bx P5.out 2 rfl
  have z2_1 := World.block_lt_of_cell? _ _ x2_1_0
  go_wp2_with fail
  refine (Right_yes hB _).mono ?_
  rintro e u3 ⟨rfl, hb⟩
  have hb := hb.below
  have G3 : Hid _ := G2.out.trans (hb.mono G2.out.size)
  have E3 : Hid _ := E2.out.later hb
  clear x2_0_0 x2_0_1 x2_0_2 z2_0 x2_1_0 x2_1_1 x2_1_2 z2_1
  have P6 : Hid _ := P4.out.trans (hb.mono P4.out.size)
  have P7 : Hid _ := P5.out.trans (hb.mono P5.out.size)
  clear hb G2 E2 P4 P5
  have x3_0_0 := Below.bx P6.out 0 rfl
  have x3_0_1 := Below.bx P6.out 1 rfl
  have x3_0_2 := Below.bx P6.out 2 rfl
  have z3_0 := World.block_lt_of_cell? _ _ x3_0_0
  have x3_1_0 : u3.cell? ⟨w.heap.size + 1, 0, none⟩ = some (.int .i64 o) := by simpa using Below.bx P7.out 0 rfl
  have x3_1_1 : u3.cell? ⟨w.heap.size + 1, 1, none⟩ = some (.int .i64 k) := by simpa using Below.bx P7.out 1 rfl
  have x3_1_2 : u3.cell? ⟨w.heap.size + 1, 2, none⟩ = some (.int .i64 r) := by simpa using Below.bx P7.out 2 rfl
  have z3_1 := World.block_lt_of_cell? _ _ x3_1_0
  go_wp2_with fail
  refine (Word_yes ha _).mono ?_
  rintro e u4 ⟨rfl, hb⟩
  have hb := hb.below
  have G4 : Hid _ := G3.out.trans (hb.mono G3.out.size)
  have E4 : Hid _ := E3.out.later hb
  clear x3_0_0 x3_0_1 x3_0_2 z3_0 x3_1_0 x3_1_1 x3_1_2 z3_1
  have P8 : Hid _ := P6.out.trans (hb.mono P6.out.size)
  have P9 : Hid _ := P7.out.trans (hb.mono P7.out.size)
  clear hb G3 E3 P6 P7
  have x4_0_0 := Below.bx P8.out 0 rfl
  have x4_0_1 := Below.bx P8.out 1 rfl
  have x4_0_2 := Below.bx P8.out 2 rfl
  have z4_0 := World.block_lt_of_cell? _ _ x4_0_0
  have x4_1_0 : u4.cell? ⟨w.heap.size + 1, 0, none⟩ = some (.int .i64 o) := by simpa using Below.bx P9.out 0 rfl
  have x4_1_1 : u4.cell? ⟨w.heap.size + 1, 1, none⟩ = some (.int .i64 k) := by simpa using Below.bx P9.out 1 rfl
  have x4_1_2 : u4.cell? ⟨w.heap.size + 1, 2, none⟩ = some (.int .i64 r) := by simpa using Below.bx P9.out 2 rfl
  have z4_1 := World.block_lt_of_cell? _ _ x4_1_0
  go_wp2_with fail
  refine (Word_yes hB _).mono ?_
  rintro e u5 ⟨rfl, hb⟩
  have hb := hb.below
  have G5 : Hid _ := G4.out.trans (hb.mono G4.out.size)
  have E5 : Hid _ := E4.out.later hb
  clear x4_0_0 x4_0_1 x4_0_2 z4_0 x4_1_0 x4_1_1 x4_1_2 z4_1
  have P10 : Hid _ := P8.out.trans (hb.mono P8.out.size)
  have P11 : Hid _ := P9.out.trans (hb.mono P9.out.size)
  clear hb G4 E4 P8 P9
  have x5_0_0 := Below.bx P10.out 0 rfl
  have x5_0_1 := Below.bx P10.out 1 rfl
  have x5_0_2 := Below.bx P10.out 2 rfl
  have z5_0 := World.block_lt_of_cell? _ _ x5_0_0
  have x5_1_0 : u5.cell? ⟨w.heap.size + 1, 0, none⟩ = some (.int .i64 o) := by simpa using Below.bx P11.out 0 rfl
  have x5_1_1 : u5.cell? ⟨w.heap.size + 1, 1, none⟩ = some (.int .i64 k) := by simpa using Below.bx P11.out 1 rfl
  have x5_1_2 : u5.cell? ⟨w.heap.size + 1, 2, none⟩ = some (.int .i64 r) := by simpa using Below.bx P11.out 2 rfl
  have z5_1 := World.block_lt_of_cell? _ _ x5_1_0
  go_wp2_with fail
  refine (Print_yes ha _ E5.out.en.pw E5.out.en.wh).mono ?_
  rintro e u6 ⟨rfl, hb⟩
  have G6 : Hid _ := G5.out.trans (hb.mono G5.out.size)
  have E6 : Hid _ := E5.out.later hb
  clear x5_0_0 x5_0_1 x5_0_2 z5_0 x5_1_0 x5_1_1 x5_1_2 z5_1
  have P12 : Hid _ := P10.out.trans (hb.mono P10.out.size)
  have P13 : Hid _ := P11.out.trans (hb.mono P11.out.size)
  clear hb G5 E5 P10 P11
  have x6_0_0 := Below.bx P12.out 0 rfl
  have x6_0_1 := Below.bx P12.out 1 rfl
  have x6_0_2 := Below.bx P12.out 2 rfl
  have z6_0 := World.block_lt_of_cell? _ _ x6_0_0
  have x6_1_0 : u6.cell? ⟨w.heap.size + 1, 0, none⟩ = some (.int .i64 o) := by simpa using Below.bx P13.out 0 rfl
  have x6_1_1 : u6.cell? ⟨w.heap.size + 1, 1, none⟩ = some (.int .i64 k) := by simpa using Below.bx P13.out 1 rfl
  have x6_1_2 : u6.cell? ⟨w.heap.size + 1, 2, none⟩ = some (.int .i64 r) := by simpa using Below.bx P13.out 2 rfl
  have z6_1 := World.block_lt_of_cell? _ _ x6_1_0
  go_wp2_with fail
  refine (Print_yes hB _ E6.out.en.pw E6.out.en.wh).mono ?_
  rintro e u7 ⟨rfl, hb⟩
  have G7 : Hid _ := G6.out.trans (hb.mono G6.out.size)
  have E7 : Hid _ := E6.out.later hb
  clear x6_0_0 x6_0_1 x6_0_2 z6_0 x6_1_0 x6_1_1 x6_1_2 z6_1
  have P14 : Hid _ := P12.out.trans (hb.mono P12.out.size)
  have P15 : Hid _ := P13.out.trans (hb.mono P13.out.size)
  clear hb G6 E6 P12 P13
  have x7_0_0 := Below.bx P14.out 0 rfl
  have x7_0_1 := Below.bx P14.out 1 rfl
  have x7_0_2 := Below.bx P14.out 2 rfl
  have z7_0 := World.block_lt_of_cell? _ _ x7_0_0
  have x7_1_0 : u7.cell? ⟨w.heap.size + 1, 0, none⟩ = some (.int .i64 o) := by simpa using Below.bx P15.out 0 rfl
  have x7_1_1 : u7.cell? ⟨w.heap.size + 1, 1, none⟩ = some (.int .i64 k) := by simpa using Below.bx P15.out 1 rfl
  have x7_1_2 : u7.cell? ⟨w.heap.size + 1, 2, none⟩ = some (.int .i64 r) := by simpa using Below.bx P15.out 2 rfl
  have z7_1 := World.block_lt_of_cell? _ _ x7_1_0
  go_wp2
  go_ret
  exact ⟨rfl, G7.out⟩

theorem words_ne {o k v p q r : Nat} (ha : Rt o k v) (hB : Rt p q r) (h : ¬ (o = p ∧ k = q ∧ v = r)) : (((wordN o k v : Nat) : Int) == ((wordN p q r : Nat) : Int)) = false := by
  refine beq_eq_false_iff_ne.2 fun e => h ?_
  have e' : wordN o k v = wordN p q r := by omega
  obtain ⟨a1, a2, a3⟩ := wordN_parts ha
  obtain ⟨b1, b2, b3⟩ := wordN_parts hB
  rw [e'] at a1 a2 a3
  exact ⟨a1.symm.trans b1, a2.symm.trans b2, a3.symm.trans b3⟩
theorem texts_ne {o k v p q r : Nat} (ha : Rt o k v) (hB : Rt p q r) (h : ¬ (o = p ∧ k = q ∧ v = r)) : (txt o k v == txt p q r) = false := by
  refine beq_eq_false_iff_ne.2 fun e => h ?_
  obtain ⟨a, b, c⟩ := txt_inj ha hB e
  omega

theorem walk (a b c d e f : Int) (_w0 : (Lit.int .i64 a).wf = true) (_w1 : (Lit.int .i64 b).wf = true) (_w2 : (Lit.int .i64 c).wf = true) (_w3 : (Lit.int .i64 d).wf = true) (_w4 : (Lit.int .i64 e).wf = true) (_w5 : (Lit.int .i64 f).wf = true) (w : World) (hE : Ec w) :
    Calls Tryd.prog 6 #[.agg #[.int .i64 a, .int .i64 b, .int .i64 c], .agg #[.int .i64 d, .int .i64 e, .int .i64 f]] w fun e w' => e = .returned (.bool true) ∧ Below w.heap.size w w' := by
  by_cases ha : Rt a b c
  · obtain ⟨o, k, v, rfl, rfl, rfl⟩ := rt_nat ha
    by_cases hB : Rt d e f
    · obtain ⟨p, q, r, rfl, rfl, rfl⟩ := rt_nat hB
      by_cases h1 : o = p
      · subst h1
        by_cases h2 : k = q
        · subst h2
          by_cases h3 : v = r
          · subst h3
            exact apart2 w hE ha hB
          · exact apart3c w hE ha hB (words_ne ha hB (by omega)) (texts_ne ha hB (by omega)) (by omega)
        · exact apart3b w hE ha hB (words_ne ha hB (by omega)) (texts_ne ha hB (by omega)) (by omega)
      · exact apart3a w hE ha hB (words_ne ha hB (by omega)) (texts_ne ha hB (by omega)) (by omega)
    · exact apart1 d e f w hE ha hB
  · exact apart0 a b c d e f w hE ha


set_option maxRecDepth 100000 in
theorem lifted (os : Os) (started : os.Started) (H : Type) (enc : TypeId × Value → H) :
    ReturnsInHanded {} Tryd.checked os 6 .any (fun w args => (Rows.opApartSpec.pre enc Tryd.prog Tryd.f6 [] false w args ∧ laidMetH Tryd.prog laidOps w) ∧ sizedMet enc Tryd.prog Tryd.f6 (OpenSpec.ofChange Rows.opApartSpec) false w args)
      (Rows.opApartSpec.post enc Tryd.prog Tryd.f6 false true false false) := by
  refine returnsInHanded_of_change_and (C := Tryd.checked) (X := fun w _ => laidMetH Tryd.prog laidOps w) (fun _ _ _ hh h => h.of_heap hh) own started (by kernel_rfl) Tryd.func6
    (ChangeSpec.witness_shaped (enc := enc) (C := Tryd.checked) (os := os) (X := fun w _ => laidMetH Tryd.prog laidOps w) false (World.doorLaid Tryd.prog 400 os) #[.agg #[.int .i64 0, .int .i64 0, .int .i64 0], .agg #[.int .i64 0, .int .i64 0, .int .i64 0]] 8 rfl (World.shaped_of_RefB (by kernel_rfl) (by kernel_rfl)) (by kernel_rfl) (by kernel_rfl) (by kernel_rfl) (door_Ops os _)) ?_
  intro W base args ds gs before hval0 hW _ _ hL _
  have hval : ∀ (j : Nat) t v, Tryd.f6.params[j]? = some t → args[j]? = some v → Value.okWide Tryd.prog W .any base t v := hval0
  have hW' := hW
  obtain ⟨p, q, hA0, hV, rfl, hfz, hnd⟩ := hW
  have hA : DataW.TrodAll enc Tryd.prog W 0 (fun _ => true) true Tryd.f6.params.toList args.toList ds p := hA0
  rw [Tryd.params6] at hA hval
  obtain ⟨v0, vs0, d0, ds0, p0, q0, hargs, rfl, rfl, h0, r0⟩ := trodAll_cons hA
  obtain ⟨v1, vs1, d1, ds1, p1, q1, rfl, rfl, rfl, h1, r1⟩ := trodAll_cons r0
  obtain ⟨rfl, rfl, rfl⟩ := trodAll_nil r1
  obtain rfl : args = #[v0, v1] := by cases args; simp_all
  obtain ⟨rfl, rfl⟩ := trodVars_none hV
  obtain ⟨a0, b0, c0, rfl, wa0, wb0, wc0⟩ := op_of_trod (hval 0 23 v0 rfl rfl) h0
  obtain ⟨a1, b1, c1, rfl, wa1, wb1, wc1⟩ := op_of_trod (hval 1 23 v1 rfl rfl) h1
  have hT := env_of_Ops hL
  have hlt := hW'.lt
  clear hA0 hval0
  refine (walk a0 b0 c0 a1 b1 c1 wa0 wb0 wc0 wa1 wb1 wc1 W hT ).mono fun e W' ⟨he, hg⟩ => ?_
  subst he
  exact ⟨_, rfl, post_below (pv := []) hW' (fun _ _ _ => (trodAll_cons_mk (shut_bool Tryd.underlying4 _) trodAll_mk0)) (fun sp hsp => (trodAll_cons_mk (op_stay h0 hg (fun x hx => hlt x (by simp [hx])) (fun x hx => hsp x (by simp [hx]))) (trodAll_cons_mk (op_stay h1 hg (fun x hx => hlt x (by simp [hx])) (fun x hx => hsp x (by simp [hx]))) trodAll_mk0))) (fun _ _ => rfl) (by simp) (hg.frame _)⟩

theorem over : Rows.OpApartSaid :=
  OpenClaim.holds_of_wide 6 Tryd.f6 rfl rfl rfl rfl rfl rfl rfl ⟨rfl, rfl, rfl, rfl, rfl⟩ rfl rfl rfl rfl rfl (by kernel_rfl) Tryd.func6 (by kernel_rfl)
    (of_decide_eq_true (by kernel_rfl)) (by unfold Func.isWrapper; first | (rw [if_pos (by decide +kernel)]; kernel_rfl) | (rw [if_neg (by decide +kernel)]; exact ⟨rfl, rfl⟩))
    (fun os started H enc _ => lifted os started H enc)

theorem proved : Rows.OpApartCardSaid :=
  Claim7.holds_tied_plain_at .later [] [.data, .data, .data, .sentinel, .sentinel, .data, .data] true (true, "5679a511bfc219565f57fb51c3143b7377991c547fa500f551ff088f4000ed9f") true
    over (fun _ h => by cases h) (by kernel_rfl) (fun _ h => by cases h) opApart_row_tie rfl ⟨rfl, rfl⟩ (by kernel_rfl) rfl
    (fun f fn hf hfn => by
      obtain rfl : f = 6 := Option.some.inj ((show Tryd.prog.funcNamed "gristmill/gristmillkeep.OpApart" = some 6 by kernel_rfl).symm.trans hf) |>.symm
      obtain rfl : fn = Tryd.f6 := (Option.some.inj (Tryd.func6.symm.trans hfn)).symm
      exact ⟨by kernel_rfl, fun j t ht => by
        rw [Tryd.params6] at ht
        have hm : t ∈ [23, 23] := by simpa using Array.mem_of_getElem? ht
        have hall : ([23, 23].all fun u => !Tryd.prog.wantsStandIn u) = true := by kernel_rfl
        exact (show Tryd.prog.wantsStandIn t = false by simpa using List.all_eq_true.1 hall t hm)⟩)
    (by kernel_rfl)
#print axioms proved
end Go.Proofs.YtdohomdhgkhebabDoor.opApart
