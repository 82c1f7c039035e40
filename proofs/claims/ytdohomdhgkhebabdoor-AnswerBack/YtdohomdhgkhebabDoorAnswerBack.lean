/- AnswerBack is proved: for every two answers and every word the call returns true (what is written is read; unlike answers are told by unlike texts); the library's and the package's variables stand as the program's text lays them. -/
import Derived.Test.YtdohomdhgkhebabDoorLaidOps
import Derived.Test.YtdohomdhgkhebabDoorArgAn
import Derived.Test.YtdohomdhgkhebabDoorCards
import Derived.SevenTiedAt
import Derived.Deep.RegionHeld3
import Derived.Deep.RegionWith
import Derived.ChangeAlike

namespace Go.Proofs.YtdohomdhgkhebabDoor.answerBack
open Go.ChangeShapes Go.WideShapes Go.ChangeAt Go.RowKit
set_option linter.unusedVariables false


theorem ab_keep {W w1 w2 : World} {m n : Nat} {p0 p1 q0 q1 : Value} (hb : Below w1.heap.size w1 w2) (h : w1.cell? ⟨m, 0, none⟩ = some (p0) ∧ w1.cell? ⟨m, 1, none⟩ = some (p1) ∧ w1.cell? ⟨n, 0, none⟩ = some (q0) ∧ w1.cell? ⟨n, 1, none⟩ = some (q1) ∧ Ec w1 ∧ Below W.heap.size W w1) : w2.cell? ⟨m, 0, none⟩ = some (p0) ∧ w2.cell? ⟨m, 1, none⟩ = some (p1) ∧ w2.cell? ⟨n, 0, none⟩ = some (q0) ∧ w2.cell? ⟨n, 1, none⟩ = some (q1) ∧ Ec w2 ∧ Below W.heap.size W w2 := by
  obtain ⟨h0, h1, h2, h3, h4, h5⟩ := h
  have c : ∀ {a : Addr} {u : Value}, w1.cell? a = some u → w2.cell? a = some u := fun {a u} hu => by
    rw [hb.cell (World.block_lt_of_cell? w1 _ hu)]; exact hu
  exact ⟨c h0, c h1, c h2, c h3, h4.later hb, h5.trans (hb.mono h5.size)⟩
theorem ab_ec {W w1 : World} {m n : Nat} {p0 p1 q0 q1 : Value} (h : w1.cell? ⟨m, 0, none⟩ = some (p0) ∧ w1.cell? ⟨m, 1, none⟩ = some (p1) ∧ w1.cell? ⟨n, 0, none⟩ = some (q0) ∧ w1.cell? ⟨n, 1, none⟩ = some (q1) ∧ Ec w1 ∧ Below W.heap.size W w1) : Ec w1 := h.2.2.2.2.1
theorem ab_bl {W w1 : World} {m n : Nat} {p0 p1 q0 q1 : Value} (h : w1.cell? ⟨m, 0, none⟩ = some (p0) ∧ w1.cell? ⟨m, 1, none⟩ = some (p1) ∧ w1.cell? ⟨n, 0, none⟩ = some (q0) ∧ w1.cell? ⟨n, 1, none⟩ = some (q1) ∧ Ec w1 ∧ Below W.heap.size W w1) : Below W.heap.size W w1 := h.2.2.2.2.2

set_option maxHeartbeats 4000000 in
theorem ab00 (a b : Int) (d e : Int) (x : Nat) (hx : x < 18446744073709551616) (w : World) (hE : Ec w) (ha : ¬ Ft a b) (hw : NoAns x) :
    Calls Tryd.prog 5 #[.agg #[.int .i64 a, .int .i64 b], .agg #[.int .i64 d, .int .i64 e], .int .u64 (x : Nat)] w fun e w' => e = .returned (.bool true) ∧ Below w.heap.size w w' := by
  have G0 : Hid _ := ((Below.refl w.heap.size w).alloc (Nat.le_refl _) (.cells #[.int .i64 a, .int .i64 b] 38)).alloc (by simp) (.cells #[.int .i64 d, .int .i64 e] 38)
  have E0 : Hid _ := hE.later G0.out
  clear hE
  have P0 : Hid _ := (Below.refl (w.alloc (.cells #[.int .i64 a, .int .i64 b] 38)).heap.size (w.alloc (.cells #[.int .i64 a, .int .i64 b] 38))).alloc (by simp) (.cells #[.int .i64 d, .int .i64 e] 38)
  have P1 : Hid _ := Below.refl ((w.alloc (.cells #[.int .i64 a, .int .i64 b] 38)).alloc (.cells #[.int .i64 d, .int .i64 e] 38)).heap.size ((w.alloc (.cells #[.int .i64 a, .int .i64 b] 38)).alloc (.cells #[.int .i64 d, .int .i64 e] 38))
  go_enter Tryd.func5, Tryd.ntmps5
  go_wp2_with fail
  refine (spelled_any _ E0.out).mono ?_
  rintro e u1 ⟨rfl, hb⟩
  have G1 : Hid _ := G0.out.trans (hb.mono G0.out.size)
  have E1 : Hid _ := E0.out.later hb
  have P2 : Hid _ := P0.out.trans (hb.mono P0.out.size)
  have P3 : Hid _ := P1.out.trans (hb.mono P1.out.size)
  clear hb G0 E0 P0 P1
  have x1_0_0 := Below.bx P2.out 0 rfl
  have x1_0_1 := Below.bx P2.out 1 rfl
  have z1_0 := World.block_lt_of_cell? _ _ x1_0_0
  have x1_1_0 : u1.cell? ⟨w.heap.size + 1, 0, none⟩ = some (.int .i64 d) := by simpa using Below.bx P3.out 0 rfl
  have x1_1_1 : u1.cell? ⟨w.heap.size + 1, 1, none⟩ = some (.int .i64 e) := by simpa using Below.bx P3.out 1 rfl
  have z1_1 := World.block_lt_of_cell? _ _ x1_1_0
  go_wp2_with fail
  refine (Fits_no ha _).mono ?_
  rintro e u2 ⟨rfl, hb⟩
  have hb := hb.below
  have G2 : Hid _ := G1.out.trans (hb.mono G1.out.size)
  have E2 : Hid _ := E1.out.later hb
  clear x1_0_0 x1_0_1 z1_0 x1_1_0 x1_1_1 z1_1
  have P4 : Hid _ := P2.out.trans (hb.mono P2.out.size)
  have P5 : Hid _ := P3.out.trans (hb.mono P3.out.size)
  clear hb G1 E1 P2 P3
  have x2_0_0 := Below.bx P4.out 0 rfl
  have x2_0_1 := Below.bx P4.out 1 rfl
  have z2_0 := World.block_lt_of_cell? _ _ x2_0_0
  have x2_1_0 : u2.cell? ⟨w.heap.size + 1, 0, none⟩ = some (.int .i64 d) := by simpa using Below.bx P5.out 0 rfl
  have x2_1_1 : u2.cell? ⟨w.heap.size + 1, 1, none⟩ = some (.int .i64 e) := by simpa using Below.bx P5.out 1 rfl
  have z2_1 := World.block_lt_of_cell? _ _ x2_1_0
  go_wp2_with fail
  refine (Told_no x hx hw _).mono ?_
  rintro e u3 ⟨rfl, hb⟩
  have hb := hb.below
  have G3 : Hid _ := G2.out.trans (hb.mono G2.out.size)
  have E3 : Hid _ := E2.out.later hb
  clear x2_0_0 x2_0_1 z2_0 x2_1_0 x2_1_1 z2_1
  have P6 : Hid _ := P4.out.trans (hb.mono P4.out.size)
  have P7 : Hid _ := P5.out.trans (hb.mono P5.out.size)
  clear hb G2 E2 P4 P5
  have x3_0_0 := Below.bx P6.out 0 rfl
  have x3_0_1 := Below.bx P6.out 1 rfl
  have z3_0 := World.block_lt_of_cell? _ _ x3_0_0
  have x3_1_0 : u3.cell? ⟨w.heap.size + 1, 0, none⟩ = some (.int .i64 d) := by simpa using Below.bx P7.out 0 rfl
  have x3_1_1 : u3.cell? ⟨w.heap.size + 1, 1, none⟩ = some (.int .i64 e) := by simpa using Below.bx P7.out 1 rfl
  have z3_1 := World.block_lt_of_cell? _ _ x3_1_0
  have G3L8 : Hid _ := G3.out.alloc G3.out.size (.cells #[.int .i64 0, .int .i64 0] 38)
  have E3L8 : Hid _ := E3.out.later ((Below.refl u3.heap.size u3).alloc (Nat.le_refl _) (.cells #[.int .i64 0, .int .i64 0] 38))
  have P8 : Hid _ := P6.out.alloc P6.out.size (.cells #[.int .i64 0, .int .i64 0] 38)
  have P9 : Hid _ := P7.out.alloc P7.out.size (.cells #[.int .i64 0, .int .i64 0] 38)
  clear G3 E3 P6 P7
  have P10 : Hid _ := Below.refl (u3.alloc (.cells #[.int .i64 0, .int .i64 0] 38)).heap.size (u3.alloc (.cells #[.int .i64 0, .int .i64 0] 38))
  go_wp2_with fail
  have k00 : (u3.alloc (.cells #[.int .i64 0, .int .i64 0] 38)).cell? ⟨w.heap.size, 0, none⟩ = some (.int .i64 a) := by simpa using Below.bx P8.out 0 rfl
  have k01 : (u3.alloc (.cells #[.int .i64 0, .int .i64 0] 38)).cell? ⟨w.heap.size, 1, none⟩ = some (.int .i64 b) := by simpa using Below.bx P8.out 1 rfl
  have k10 : (u3.alloc (.cells #[.int .i64 0, .int .i64 0] 38)).cell? ⟨w.heap.size + 1, 0, none⟩ = some (.int .i64 d) := by simpa using Below.bx P9.out 0 rfl
  have k11 : (u3.alloc (.cells #[.int .i64 0, .int .i64 0] 38)).cell? ⟨w.heap.size + 1, 1, none⟩ = some (.int .i64 e) := by simpa using Below.bx P9.out 1 rfl
  clear x3_0_0 x3_0_1 z3_0 x3_1_0 x3_1_1 z3_1
  clear P8 P9 P10
  generalize hWW : (u3.alloc (.cells #[.int .i64 0, .int .i64 0] 38)) = W at *
  clear hWW
  generalize hm : w.heap.size = m at *
  have HM : Hid _ := hm
  clear hm
  refine wp_region_held_drew (S := fun w' => w'.cell? ⟨m, 0, none⟩ = some (.int .i64 a) ∧ w'.cell? ⟨m, 1, none⟩ = some (.int .i64 b) ∧ w'.cell? ⟨m + 1, 0, none⟩ = some (.int .i64 d) ∧ w'.cell? ⟨m + 1, 1, none⟩ = some (.int .i64 e) ∧ Ec w' ∧ Below W.heap.size W w') (by kernel_rfl) ⟨k00, k01, k10, k11, E3L8.out.later (Below.refl _ _).drew, (Below.refl _ _).drew⟩ (fun hH => ?_)
  refine wpAnyH_take (i := 0) (oi := { dst := some 59, op := .load _ (.tmp 3), type := _, pos := _, after := _, guard := _ }) (v := ?_) rfl (by kernel_rfl) (by kernel_rfl) (by kernel_rfl) (fun _ _ _ h => h) (Or.inl ⟨by rfl, ?_⟩) hH ?_
  rotate_left
  · intro wq hSw
    obtain ⟨s0, s1, s2, s3, _, _⟩ := hSw
    go_simp
    with_reducible rfl
  simp only [Act.put, List.setIfInBounds_toArray, List.set_cons_zero, List.set_cons_succ]
  refine wpAnyH_ready (rs := [1]) (by kernel_rfl) (by simp) ?_
  refine AllReadyH.cons (o := { dst := some 60, op := _, type := _, pos := _, after := _, guard := _ }) rfl (fun K hK => ?_) AllReadyH.nil
  go_simp
  refine (Fits_no ha _).mono ?_
  rintro e wz1 ⟨rfl, hz⟩
  have hb := hz.below
  clear hz
  go_wp2_with fail
  refine hK.out _ _ (ab_keep hb hH) (fun hH => ?_)
  clear hK K hb
  refine wpAnyH_take (i := 2) (oi := { dst := some 61, op := .unOp .not _ (.tmp 60), type := _, pos := _, after := _, guard := _ }) (v := ?_) rfl (by kernel_rfl) (by kernel_rfl) (by kernel_rfl) (fun _ _ _ h => h) (Or.inl ⟨by rfl, ?_⟩) hH ?_
  rotate_left
  · intro wq hSw
    clear hSw
    go_simp
    with_reducible rfl
  simp only [Act.put, List.setIfInBounds_toArray, List.set_cons_zero, List.set_cons_succ]
  refine wpAnyH_take (i := 3) (oi := { dst := some 62, op := .move (.tmp 61), type := _, pos := _, after := _, guard := _ }) (v := ?_) rfl (by kernel_rfl) (by kernel_rfl) (by kernel_rfl) (fun _ _ _ h => h) (Or.inl ⟨by rfl, ?_⟩) hH ?_
  rotate_left
  · intro wq hSw
    clear hSw
    go_simp
    with_reducible rfl
  simp only [Act.put, List.setIfInBounds_toArray, List.set_cons_zero, List.set_cons_succ]
  refine wpAnyH_take (i := 4) (oi := { dst := some 63, op := _, type := _, pos := _, after := _, guard := _ }) (v := _) rfl (by kernel_rfl) (by kernel_rfl) (by kernel_rfl) (fun _ _ _ h => h) (Or.inr ⟨by rfl, rfl⟩) hH ?_
  simp only [Act.put, List.setIfInBounds_toArray, List.set_cons_zero, List.set_cons_succ]
  refine wpAnyH_take (i := 5) (oi := { dst := some 64, op := _, type := _, pos := _, after := _, guard := _ }) (v := _) rfl (by kernel_rfl) (by kernel_rfl) (by kernel_rfl) (fun _ _ _ h => h) (Or.inr ⟨by rfl, rfl⟩) hH ?_
  simp only [Act.put, List.setIfInBounds_toArray, List.set_cons_zero, List.set_cons_succ]
  refine wpAnyH_take (i := 6) (oi := { dst := some 65, op := _, type := _, pos := _, after := _, guard := _ }) (v := _) rfl (by kernel_rfl) (by kernel_rfl) (by kernel_rfl) (fun _ _ _ h => h) (Or.inr ⟨by rfl, rfl⟩) hH ?_
  simp only [Act.put, List.setIfInBounds_toArray, List.set_cons_zero, List.set_cons_succ]
  refine wpAnyH_take (i := 7) (oi := { dst := some 66, op := .pick (.tmp 62) (.const (.bool true)) (.tmp 65), type := _, pos := _, after := _, guard := _ }) (v := ?_) rfl (by kernel_rfl) (by kernel_rfl) (by kernel_rfl) (fun _ _ _ h => h) (Or.inl ⟨by rfl, ?_⟩) hH ?_
  rotate_left
  · intro wq hSw
    clear hSw
    go_simp
    with_reducible rfl
  simp only [Act.put, List.setIfInBounds_toArray, List.set_cons_zero, List.set_cons_succ]
  refine wpAnyH_take (i := 8) (oi := { dst := some 67, op := .move (.tmp 66), type := _, pos := _, after := _, guard := _ }) (v := ?_) rfl (by kernel_rfl) (by kernel_rfl) (by kernel_rfl) (fun _ _ _ h => h) (Or.inl ⟨by rfl, ?_⟩) hH ?_
  rotate_left
  · intro wq hSw
    clear hSw
    go_simp
    with_reducible rfl
  simp only [Act.put, List.setIfInBounds_toArray, List.set_cons_zero, List.set_cons_succ]
  refine wpAnyH_take (i := 9) (oi := { dst := some 68, op := _, type := _, pos := _, after := _, guard := _ }) (v := _) rfl (by kernel_rfl) (by kernel_rfl) (by kernel_rfl) (fun _ _ _ h => h) (Or.inr ⟨by rfl, rfl⟩) hH ?_
  simp only [Act.put, List.setIfInBounds_toArray, List.set_cons_zero, List.set_cons_succ]
  refine wpAnyH_take (i := 10) (oi := { dst := some 69, op := _, type := _, pos := _, after := _, guard := _ }) (v := _) rfl (by kernel_rfl) (by kernel_rfl) (by kernel_rfl) (fun _ _ _ h => h) (Or.inr ⟨by rfl, rfl⟩) hH ?_
  simp only [Act.put, List.setIfInBounds_toArray, List.set_cons_zero, List.set_cons_succ]
  refine wpAnyH_take (i := 11) (oi := { dst := some 70, op := _, type := _, pos := _, after := _, guard := _ }) (v := _) rfl (by kernel_rfl) (by kernel_rfl) (by kernel_rfl) (fun _ _ _ h => h) (Or.inr ⟨by rfl, rfl⟩) hH ?_
  simp only [Act.put, List.setIfInBounds_toArray, List.set_cons_zero, List.set_cons_succ]
  refine wpAnyH_take (i := 12) (oi := { dst := some 71, op := _, type := _, pos := _, after := _, guard := _ }) (v := _) rfl (by kernel_rfl) (by kernel_rfl) (by kernel_rfl) (fun _ _ _ h => h) (Or.inr ⟨by rfl, rfl⟩) hH ?_
  simp only [Act.put, List.setIfInBounds_toArray, List.set_cons_zero, List.set_cons_succ]
  refine wpAnyH_take (i := 13) (oi := { dst := some 72, op := _, type := _, pos := _, after := _, guard := _ }) (v := _) rfl (by kernel_rfl) (by kernel_rfl) (by kernel_rfl) (fun _ _ _ h => h) (Or.inr ⟨by rfl, rfl⟩) hH ?_
  simp only [Act.put, List.setIfInBounds_toArray, List.set_cons_zero, List.set_cons_succ]
  refine wpAnyH_take (i := 14) (oi := { dst := some 73, op := _, type := _, pos := _, after := _, guard := _ }) (v := _) rfl (by kernel_rfl) (by kernel_rfl) (by kernel_rfl) (fun _ _ _ h => h) (Or.inr ⟨by rfl, rfl⟩) hH ?_
  simp only [Act.put, List.setIfInBounds_toArray, List.set_cons_zero, List.set_cons_succ]
  refine wpAnyH_take (i := 15) (oi := { dst := some 74, op := _, type := _, pos := _, after := _, guard := _ }) (v := _) rfl (by kernel_rfl) (by kernel_rfl) (by kernel_rfl) (fun _ _ _ h => h) (Or.inr ⟨by rfl, rfl⟩) hH ?_
  simp only [Act.put, List.setIfInBounds_toArray, List.set_cons_zero, List.set_cons_succ]
  refine wpAnyH_take (i := 16) (oi := { dst := some 75, op := _, type := _, pos := _, after := _, guard := _ }) (v := _) rfl (by kernel_rfl) (by kernel_rfl) (by kernel_rfl) (fun _ _ _ h => h) (Or.inr ⟨by rfl, rfl⟩) hH ?_
  simp only [Act.put, List.setIfInBounds_toArray, List.set_cons_zero, List.set_cons_succ]
  refine wpAnyH_take (i := 17) (oi := { dst := some 76, op := _, type := _, pos := _, after := _, guard := _ }) (v := _) rfl (by kernel_rfl) (by kernel_rfl) (by kernel_rfl) (fun _ _ _ h => h) (Or.inr ⟨by rfl, rfl⟩) hH ?_
  simp only [Act.put, List.setIfInBounds_toArray, List.set_cons_zero, List.set_cons_succ]
  refine wpAnyH_take (i := 18) (oi := { dst := some 77, op := .pick (.tmp 67) (.const (.bool true)) (.tmp 76), type := _, pos := _, after := _, guard := _ }) (v := ?_) rfl (by kernel_rfl) (by kernel_rfl) (by kernel_rfl) (fun _ _ _ h => h) (Or.inl ⟨by rfl, ?_⟩) hH ?_
  rotate_left
  · intro wq hSw
    clear hSw
    go_simp
    with_reducible rfl
  simp only [Act.put, List.setIfInBounds_toArray, List.set_cons_zero, List.set_cons_succ]
  refine wpAnyH_take (i := 19) (oi := { dst := some 6, op := .assign (.tmp 77), type := _, pos := _, after := _, guard := _ }) (v := ?_) rfl (by kernel_rfl) (by kernel_rfl) (by kernel_rfl) (fun _ _ _ h => h) (Or.inl ⟨by rfl, ?_⟩) hH ?_
  rotate_left
  · intro wq hSw
    clear hSw
    go_simp
    with_reducible rfl
  simp only [Act.put, List.setIfInBounds_toArray, List.set_cons_zero, List.set_cons_succ]
  refine wpAnyH_done (by kernel_rfl) ?_ _
  have HB : Hid _ := ab_bl hH
  go_wp2
  go_ret
  refine ⟨rfl, ?_⟩
  rw [HM.out]
  exact G3L8.out.trans (HB.out.mono (HM.out ▸ G3L8.out.size))

set_option maxHeartbeats 4000000 in
theorem ab01 (a b : Int) (d e : Int) {y z : Nat} (w : World) (hE : Ec w) (ha : ¬ Ft a b) (hw : Ft y z) :
    Calls Tryd.prog 5 #[.agg #[.int .i64 a, .int .i64 b], .agg #[.int .i64 d, .int .i64 e], .int .u64 (ansN y z : Nat)] w fun e w' => e = .returned (.bool true) ∧ Below w.heap.size w w' := by
  have G0 : Hid _ := ((Below.refl w.heap.size w).alloc (Nat.le_refl _) (.cells #[.int .i64 a, .int .i64 b] 38)).alloc (by simp) (.cells #[.int .i64 d, .int .i64 e] 38)
  have E0 : Hid _ := hE.later G0.out
  clear hE
  have P0 : Hid _ := (Below.refl (w.alloc (.cells #[.int .i64 a, .int .i64 b] 38)).heap.size (w.alloc (.cells #[.int .i64 a, .int .i64 b] 38))).alloc (by simp) (.cells #[.int .i64 d, .int .i64 e] 38)
  have P1 : Hid _ := Below.refl ((w.alloc (.cells #[.int .i64 a, .int .i64 b] 38)).alloc (.cells #[.int .i64 d, .int .i64 e] 38)).heap.size ((w.alloc (.cells #[.int .i64 a, .int .i64 b] 38)).alloc (.cells #[.int .i64 d, .int .i64 e] 38))
  go_enter Tryd.func5, Tryd.ntmps5
  go_wp2_with fail
  refine (spelled_any _ E0.out).mono ?_
  rintro e u1 ⟨rfl, hb⟩
  have G1 : Hid _ := G0.out.trans (hb.mono G0.out.size)
  have E1 : Hid _ := E0.out.later hb
  have P2 : Hid _ := P0.out.trans (hb.mono P0.out.size)
  have P3 : Hid _ := P1.out.trans (hb.mono P1.out.size)
  clear hb G0 E0 P0 P1
  have x1_0_0 := Below.bx P2.out 0 rfl
  have x1_0_1 := Below.bx P2.out 1 rfl
  have z1_0 := World.block_lt_of_cell? _ _ x1_0_0
  have x1_1_0 : u1.cell? ⟨w.heap.size + 1, 0, none⟩ = some (.int .i64 d) := by simpa using Below.bx P3.out 0 rfl
  have x1_1_1 : u1.cell? ⟨w.heap.size + 1, 1, none⟩ = some (.int .i64 e) := by simpa using Below.bx P3.out 1 rfl
  have z1_1 := World.block_lt_of_cell? _ _ x1_1_0
  go_wp2_with fail
  refine (Fits_no ha _).mono ?_
  rintro e u2 ⟨rfl, hb⟩
  have hb := hb.below
  have G2 : Hid _ := G1.out.trans (hb.mono G1.out.size)
  have E2 : Hid _ := E1.out.later hb
  clear x1_0_0 x1_0_1 z1_0 x1_1_0 x1_1_1 z1_1
  have P4 : Hid _ := P2.out.trans (hb.mono P2.out.size)
  have P5 : Hid _ := P3.out.trans (hb.mono P3.out.size)
  clear hb G1 E1 P2 P3
  have x2_0_0 := Below.bx P4.out 0 rfl
  have x2_0_1 := Below.bx P4.out 1 rfl
  have z2_0 := World.block_lt_of_cell? _ _ x2_0_0
  have x2_1_0 : u2.cell? ⟨w.heap.size + 1, 0, none⟩ = some (.int .i64 d) := by simpa using Below.bx P5.out 0 rfl
  have x2_1_1 : u2.cell? ⟨w.heap.size + 1, 1, none⟩ = some (.int .i64 e) := by simpa using Below.bx P5.out 1 rfl
  have z2_1 := World.block_lt_of_cell? _ _ x2_1_0
  go_wp2_with fail
  refine (Told_yes hw _).mono ?_
  rintro e u3 ⟨rfl, hb⟩
  have hb := hb.below
  have G3 : Hid _ := G2.out.trans (hb.mono G2.out.size)
  have E3 : Hid _ := E2.out.later hb
  clear x2_0_0 x2_0_1 z2_0 x2_1_0 x2_1_1 z2_1
  have P6 : Hid _ := P4.out.trans (hb.mono P4.out.size)
  have P7 : Hid _ := P5.out.trans (hb.mono P5.out.size)
  clear hb G2 E2 P4 P5
  have x3_0_0 := Below.bx P6.out 0 rfl
  have x3_0_1 := Below.bx P6.out 1 rfl
  have z3_0 := World.block_lt_of_cell? _ _ x3_0_0
  have x3_1_0 : u3.cell? ⟨w.heap.size + 1, 0, none⟩ = some (.int .i64 d) := by simpa using Below.bx P7.out 0 rfl
  have x3_1_1 : u3.cell? ⟨w.heap.size + 1, 1, none⟩ = some (.int .i64 e) := by simpa using Below.bx P7.out 1 rfl
  have z3_1 := World.block_lt_of_cell? _ _ x3_1_0
  have G3L8 : Hid _ := G3.out.alloc G3.out.size (.cells #[.int .i64 y, .int .i64 z] 38)
  have E3L8 : Hid _ := E3.out.later ((Below.refl u3.heap.size u3).alloc (Nat.le_refl _) (.cells #[.int .i64 y, .int .i64 z] 38))
  have P8 : Hid _ := P6.out.alloc P6.out.size (.cells #[.int .i64 y, .int .i64 z] 38)
  have P9 : Hid _ := P7.out.alloc P7.out.size (.cells #[.int .i64 y, .int .i64 z] 38)
  clear G3 E3 P6 P7
  have P10 : Hid _ := Below.refl (u3.alloc (.cells #[.int .i64 y, .int .i64 z] 38)).heap.size (u3.alloc (.cells #[.int .i64 y, .int .i64 z] 38))
  go_wp2_with fail
  refine (Answer_yes hw _).mono ?_
  rintro e u4 ⟨rfl, hb⟩
  have hb := hb.below
  have G4 : Hid _ := G3L8.out.trans (hb.mono G3L8.out.size)
  have E4 : Hid _ := E3L8.out.later hb
  clear x3_0_0 x3_0_1 z3_0 x3_1_0 x3_1_1 z3_1
  have P11 : Hid _ := P8.out.trans (hb.mono P8.out.size)
  have P12 : Hid _ := P9.out.trans (hb.mono P9.out.size)
  have P13 : Hid _ := P10.out.trans (hb.mono P10.out.size)
  clear hb G3L8 E3L8 P8 P9 P10
  have x4_0_0 := Below.bx P11.out 0 rfl
  have x4_0_1 := Below.bx P11.out 1 rfl
  have z4_0 := World.block_lt_of_cell? _ _ x4_0_0
  have x4_1_0 : u4.cell? ⟨w.heap.size + 1, 0, none⟩ = some (.int .i64 d) := by simpa using Below.bx P12.out 0 rfl
  have x4_1_1 : u4.cell? ⟨w.heap.size + 1, 1, none⟩ = some (.int .i64 e) := by simpa using Below.bx P12.out 1 rfl
  have z4_1 := World.block_lt_of_cell? _ _ x4_1_0
  have x4_2_0 := Below.bx P13.out 0 rfl
  have x4_2_1 := Below.bx P13.out 1 rfl
  have z4_2 := World.block_lt_of_cell? _ _ x4_2_0
  go_wp2_with fail
  have k00 : u4.cell? ⟨w.heap.size, 0, none⟩ = some (.int .i64 a) := by simpa using Below.bx P11.out 0 rfl
  have k01 : u4.cell? ⟨w.heap.size, 1, none⟩ = some (.int .i64 b) := by simpa using Below.bx P11.out 1 rfl
  have k10 : u4.cell? ⟨w.heap.size + 1, 0, none⟩ = some (.int .i64 d) := by simpa using Below.bx P12.out 0 rfl
  have k11 : u4.cell? ⟨w.heap.size + 1, 1, none⟩ = some (.int .i64 e) := by simpa using Below.bx P12.out 1 rfl
  clear x4_0_0 x4_0_1 z4_0 x4_1_0 x4_1_1 z4_1 x4_2_0 x4_2_1 z4_2
  clear P11 P12 P13
  generalize hWW : u4 = W at *
  clear hWW
  generalize hm : w.heap.size = m at *
  have HM : Hid _ := hm
  clear hm
  refine wp_region_held_drew (S := fun w' => w'.cell? ⟨m, 0, none⟩ = some (.int .i64 a) ∧ w'.cell? ⟨m, 1, none⟩ = some (.int .i64 b) ∧ w'.cell? ⟨m + 1, 0, none⟩ = some (.int .i64 d) ∧ w'.cell? ⟨m + 1, 1, none⟩ = some (.int .i64 e) ∧ Ec w' ∧ Below W.heap.size W w') (by kernel_rfl) ⟨k00, k01, k10, k11, E4.out.later (Below.refl _ _).drew, (Below.refl _ _).drew⟩ (fun hH => ?_)
  refine wpAnyH_take (i := 0) (oi := { dst := some 59, op := .load _ (.tmp 3), type := _, pos := _, after := _, guard := _ }) (v := ?_) rfl (by kernel_rfl) (by kernel_rfl) (by kernel_rfl) (fun _ _ _ h => h) (Or.inl ⟨by rfl, ?_⟩) hH ?_
  rotate_left
  · intro wq hSw
    obtain ⟨s0, s1, s2, s3, _, _⟩ := hSw
    go_simp
    with_reducible rfl
  simp only [Act.put, List.setIfInBounds_toArray, List.set_cons_zero, List.set_cons_succ]
  refine wpAnyH_ready (rs := [1]) (by kernel_rfl) (by simp) ?_
  refine AllReadyH.cons (o := { dst := some 60, op := _, type := _, pos := _, after := _, guard := _ }) rfl (fun K hK => ?_) AllReadyH.nil
  go_simp
  refine (Fits_no ha _).mono ?_
  rintro e wz1 ⟨rfl, hz⟩
  have hb := hz.below
  clear hz
  go_wp2_with fail
  refine hK.out _ _ (ab_keep hb hH) (fun hH => ?_)
  clear hK K hb
  refine wpAnyH_take (i := 2) (oi := { dst := some 61, op := .unOp .not _ (.tmp 60), type := _, pos := _, after := _, guard := _ }) (v := ?_) rfl (by kernel_rfl) (by kernel_rfl) (by kernel_rfl) (fun _ _ _ h => h) (Or.inl ⟨by rfl, ?_⟩) hH ?_
  rotate_left
  · intro wq hSw
    clear hSw
    go_simp
    with_reducible rfl
  simp only [Act.put, List.setIfInBounds_toArray, List.set_cons_zero, List.set_cons_succ]
  refine wpAnyH_take (i := 3) (oi := { dst := some 62, op := .move (.tmp 61), type := _, pos := _, after := _, guard := _ }) (v := ?_) rfl (by kernel_rfl) (by kernel_rfl) (by kernel_rfl) (fun _ _ _ h => h) (Or.inl ⟨by rfl, ?_⟩) hH ?_
  rotate_left
  · intro wq hSw
    clear hSw
    go_simp
    with_reducible rfl
  simp only [Act.put, List.setIfInBounds_toArray, List.set_cons_zero, List.set_cons_succ]
  refine wpAnyH_take (i := 4) (oi := { dst := some 63, op := _, type := _, pos := _, after := _, guard := _ }) (v := _) rfl (by kernel_rfl) (by kernel_rfl) (by kernel_rfl) (fun _ _ _ h => h) (Or.inr ⟨by rfl, rfl⟩) hH ?_
  simp only [Act.put, List.setIfInBounds_toArray, List.set_cons_zero, List.set_cons_succ]
  refine wpAnyH_take (i := 5) (oi := { dst := some 64, op := _, type := _, pos := _, after := _, guard := _ }) (v := _) rfl (by kernel_rfl) (by kernel_rfl) (by kernel_rfl) (fun _ _ _ h => h) (Or.inr ⟨by rfl, rfl⟩) hH ?_
  simp only [Act.put, List.setIfInBounds_toArray, List.set_cons_zero, List.set_cons_succ]
  refine wpAnyH_take (i := 6) (oi := { dst := some 65, op := _, type := _, pos := _, after := _, guard := _ }) (v := _) rfl (by kernel_rfl) (by kernel_rfl) (by kernel_rfl) (fun _ _ _ h => h) (Or.inr ⟨by rfl, rfl⟩) hH ?_
  simp only [Act.put, List.setIfInBounds_toArray, List.set_cons_zero, List.set_cons_succ]
  refine wpAnyH_take (i := 7) (oi := { dst := some 66, op := .pick (.tmp 62) (.const (.bool true)) (.tmp 65), type := _, pos := _, after := _, guard := _ }) (v := ?_) rfl (by kernel_rfl) (by kernel_rfl) (by kernel_rfl) (fun _ _ _ h => h) (Or.inl ⟨by rfl, ?_⟩) hH ?_
  rotate_left
  · intro wq hSw
    clear hSw
    go_simp
    with_reducible rfl
  simp only [Act.put, List.setIfInBounds_toArray, List.set_cons_zero, List.set_cons_succ]
  refine wpAnyH_take (i := 8) (oi := { dst := some 67, op := .move (.tmp 66), type := _, pos := _, after := _, guard := _ }) (v := ?_) rfl (by kernel_rfl) (by kernel_rfl) (by kernel_rfl) (fun _ _ _ h => h) (Or.inl ⟨by rfl, ?_⟩) hH ?_
  rotate_left
  · intro wq hSw
    clear hSw
    go_simp
    with_reducible rfl
  simp only [Act.put, List.setIfInBounds_toArray, List.set_cons_zero, List.set_cons_succ]
  refine wpAnyH_take (i := 9) (oi := { dst := some 68, op := _, type := _, pos := _, after := _, guard := _ }) (v := _) rfl (by kernel_rfl) (by kernel_rfl) (by kernel_rfl) (fun _ _ _ h => h) (Or.inr ⟨by rfl, rfl⟩) hH ?_
  simp only [Act.put, List.setIfInBounds_toArray, List.set_cons_zero, List.set_cons_succ]
  refine wpAnyH_take (i := 10) (oi := { dst := some 69, op := _, type := _, pos := _, after := _, guard := _ }) (v := _) rfl (by kernel_rfl) (by kernel_rfl) (by kernel_rfl) (fun _ _ _ h => h) (Or.inr ⟨by rfl, rfl⟩) hH ?_
  simp only [Act.put, List.setIfInBounds_toArray, List.set_cons_zero, List.set_cons_succ]
  refine wpAnyH_take (i := 11) (oi := { dst := some 70, op := _, type := _, pos := _, after := _, guard := _ }) (v := _) rfl (by kernel_rfl) (by kernel_rfl) (by kernel_rfl) (fun _ _ _ h => h) (Or.inr ⟨by rfl, rfl⟩) hH ?_
  simp only [Act.put, List.setIfInBounds_toArray, List.set_cons_zero, List.set_cons_succ]
  refine wpAnyH_take (i := 12) (oi := { dst := some 71, op := _, type := _, pos := _, after := _, guard := _ }) (v := _) rfl (by kernel_rfl) (by kernel_rfl) (by kernel_rfl) (fun _ _ _ h => h) (Or.inr ⟨by rfl, rfl⟩) hH ?_
  simp only [Act.put, List.setIfInBounds_toArray, List.set_cons_zero, List.set_cons_succ]
  refine wpAnyH_take (i := 13) (oi := { dst := some 72, op := _, type := _, pos := _, after := _, guard := _ }) (v := _) rfl (by kernel_rfl) (by kernel_rfl) (by kernel_rfl) (fun _ _ _ h => h) (Or.inr ⟨by rfl, rfl⟩) hH ?_
  simp only [Act.put, List.setIfInBounds_toArray, List.set_cons_zero, List.set_cons_succ]
  refine wpAnyH_take (i := 14) (oi := { dst := some 73, op := _, type := _, pos := _, after := _, guard := _ }) (v := _) rfl (by kernel_rfl) (by kernel_rfl) (by kernel_rfl) (fun _ _ _ h => h) (Or.inr ⟨by rfl, rfl⟩) hH ?_
  simp only [Act.put, List.setIfInBounds_toArray, List.set_cons_zero, List.set_cons_succ]
  refine wpAnyH_take (i := 15) (oi := { dst := some 74, op := _, type := _, pos := _, after := _, guard := _ }) (v := _) rfl (by kernel_rfl) (by kernel_rfl) (by kernel_rfl) (fun _ _ _ h => h) (Or.inr ⟨by rfl, rfl⟩) hH ?_
  simp only [Act.put, List.setIfInBounds_toArray, List.set_cons_zero, List.set_cons_succ]
  refine wpAnyH_take (i := 16) (oi := { dst := some 75, op := _, type := _, pos := _, after := _, guard := _ }) (v := _) rfl (by kernel_rfl) (by kernel_rfl) (by kernel_rfl) (fun _ _ _ h => h) (Or.inr ⟨by rfl, rfl⟩) hH ?_
  simp only [Act.put, List.setIfInBounds_toArray, List.set_cons_zero, List.set_cons_succ]
  refine wpAnyH_take (i := 17) (oi := { dst := some 76, op := _, type := _, pos := _, after := _, guard := _ }) (v := _) rfl (by kernel_rfl) (by kernel_rfl) (by kernel_rfl) (fun _ _ _ h => h) (Or.inr ⟨by rfl, rfl⟩) hH ?_
  simp only [Act.put, List.setIfInBounds_toArray, List.set_cons_zero, List.set_cons_succ]
  refine wpAnyH_take (i := 18) (oi := { dst := some 77, op := .pick (.tmp 67) (.const (.bool true)) (.tmp 76), type := _, pos := _, after := _, guard := _ }) (v := ?_) rfl (by kernel_rfl) (by kernel_rfl) (by kernel_rfl) (fun _ _ _ h => h) (Or.inl ⟨by rfl, ?_⟩) hH ?_
  rotate_left
  · intro wq hSw
    clear hSw
    go_simp
    with_reducible rfl
  simp only [Act.put, List.setIfInBounds_toArray, List.set_cons_zero, List.set_cons_succ]
  refine wpAnyH_take (i := 19) (oi := { dst := some 6, op := .assign (.tmp 77), type := _, pos := _, after := _, guard := _ }) (v := ?_) rfl (by kernel_rfl) (by kernel_rfl) (by kernel_rfl) (fun _ _ _ h => h) (Or.inl ⟨by rfl, ?_⟩) hH ?_
  rotate_left
  · intro wq hSw
    clear hSw
    go_simp
    with_reducible rfl
  simp only [Act.put, List.setIfInBounds_toArray, List.set_cons_zero, List.set_cons_succ]
  refine wpAnyH_done (by kernel_rfl) ?_ _
  have HB : Hid _ := ab_bl hH
  go_wp2
  go_ret
  refine ⟨rfl, ?_⟩
  rw [HM.out]
  exact G4.out.trans (HB.out.mono (HM.out ▸ G4.out.size))

set_option maxHeartbeats 4000000 in
theorem ab100 {c v : Nat} (d e : Int) (x : Nat) (hx : x < 18446744073709551616) (w : World) (hE : Ec w) (ha : Ft c v) (hB : ¬ Ft d e) (hw : NoAns x) :
    Calls Tryd.prog 5 #[.agg #[.int .i64 c, .int .i64 v], .agg #[.int .i64 d, .int .i64 e], .int .u64 (x : Nat)] w fun e w' => e = .returned (.bool true) ∧ Below w.heap.size w w' := by
  have G0 : Hid _ := ((Below.refl w.heap.size w).alloc (Nat.le_refl _) (.cells #[.int .i64 c, .int .i64 v] 38)).alloc (by simp) (.cells #[.int .i64 d, .int .i64 e] 38)
  have E0 : Hid _ := hE.later G0.out
  clear hE
  have P0 : Hid _ := (Below.refl (w.alloc (.cells #[.int .i64 c, .int .i64 v] 38)).heap.size (w.alloc (.cells #[.int .i64 c, .int .i64 v] 38))).alloc (by simp) (.cells #[.int .i64 d, .int .i64 e] 38)
  have P1 : Hid _ := Below.refl ((w.alloc (.cells #[.int .i64 c, .int .i64 v] 38)).alloc (.cells #[.int .i64 d, .int .i64 e] 38)).heap.size ((w.alloc (.cells #[.int .i64 c, .int .i64 v] 38)).alloc (.cells #[.int .i64 d, .int .i64 e] 38))
  go_enter Tryd.func5, Tryd.ntmps5
  go_wp2_with fail
  refine (spelled_any _ E0.out).mono ?_
  rintro e u1 ⟨rfl, hb⟩
  have G1 : Hid _ := G0.out.trans (hb.mono G0.out.size)
  have E1 : Hid _ := E0.out.later hb
  have P2 : Hid _ := P0.out.trans (hb.mono P0.out.size)
  have P3 : Hid _ := P1.out.trans (hb.mono P1.out.size)
  clear hb G0 E0 P0 P1
  have x1_0_0 := Below.bx P2.out 0 rfl
  have x1_0_1 := Below.bx P2.out 1 rfl
  have z1_0 := World.block_lt_of_cell? _ _ x1_0_0
  have x1_1_0 : u1.cell? ⟨w.heap.size + 1, 0, none⟩ = some (.int .i64 d) := by simpa using Below.bx P3.out 0 rfl
  have x1_1_1 : u1.cell? ⟨w.heap.size + 1, 1, none⟩ = some (.int .i64 e) := by simpa using Below.bx P3.out 1 rfl
  have z1_1 := World.block_lt_of_cell? _ _ x1_1_0
  go_wp2_with fail
  refine (Fits_yes ha _).mono ?_
  rintro e u2 ⟨rfl, hb⟩
  have hb := hb.below
  have G2 : Hid _ := G1.out.trans (hb.mono G1.out.size)
  have E2 : Hid _ := E1.out.later hb
  clear x1_0_0 x1_0_1 z1_0 x1_1_0 x1_1_1 z1_1
  have P4 : Hid _ := P2.out.trans (hb.mono P2.out.size)
  have P5 : Hid _ := P3.out.trans (hb.mono P3.out.size)
  clear hb G1 E1 P2 P3
  have x2_0_0 := Below.bx P4.out 0 rfl
  have x2_0_1 := Below.bx P4.out 1 rfl
  have z2_0 := World.block_lt_of_cell? _ _ x2_0_0
  have x2_1_0 : u2.cell? ⟨w.heap.size + 1, 0, none⟩ = some (.int .i64 d) := by simpa using Below.bx P5.out 0 rfl
  have x2_1_1 : u2.cell? ⟨w.heap.size + 1, 1, none⟩ = some (.int .i64 e) := by simpa using Below.bx P5.out 1 rfl
  have z2_1 := World.block_lt_of_cell? _ _ x2_1_0
  go_wp2_with fail
  refine (Answer_yes ha _).mono ?_
  rintro e u3 ⟨rfl, hb⟩
  have hb := hb.below
  have G3 : Hid _ := G2.out.trans (hb.mono G2.out.size)
  have E3 : Hid _ := E2.out.later hb
  clear x2_0_0 x2_0_1 z2_0 x2_1_0 x2_1_1 z2_1
  have P6 : Hid _ := P4.out.trans (hb.mono P4.out.size)
  have P7 : Hid _ := P5.out.trans (hb.mono P5.out.size)
  clear hb G2 E2 P4 P5
  have x3_0_0 := Below.bx P6.out 0 rfl
  have x3_0_1 := Below.bx P6.out 1 rfl
  have z3_0 := World.block_lt_of_cell? _ _ x3_0_0
  have x3_1_0 : u3.cell? ⟨w.heap.size + 1, 0, none⟩ = some (.int .i64 d) := by simpa using Below.bx P7.out 0 rfl
  have x3_1_1 : u3.cell? ⟨w.heap.size + 1, 1, none⟩ = some (.int .i64 e) := by simpa using Below.bx P7.out 1 rfl
  have z3_1 := World.block_lt_of_cell? _ _ x3_1_0
  go_wp2_with fail
  refine (Told_yes ha _).mono ?_
  rintro e u4 ⟨rfl, hb⟩
  have hb := hb.below
  have G4 : Hid _ := G3.out.trans (hb.mono G3.out.size)
  have E4 : Hid _ := E3.out.later hb
  clear x3_0_0 x3_0_1 z3_0 x3_1_0 x3_1_1 z3_1
  have P8 : Hid _ := P6.out.trans (hb.mono P6.out.size)
  have P9 : Hid _ := P7.out.trans (hb.mono P7.out.size)
  clear hb G3 E3 P6 P7
  have x4_0_0 := Below.bx P8.out 0 rfl
  have x4_0_1 := Below.bx P8.out 1 rfl
  have z4_0 := World.block_lt_of_cell? _ _ x4_0_0
  have x4_1_0 : u4.cell? ⟨w.heap.size + 1, 0, none⟩ = some (.int .i64 d) := by simpa using Below.bx P9.out 0 rfl
  have x4_1_1 : u4.cell? ⟨w.heap.size + 1, 1, none⟩ = some (.int .i64 e) := by simpa using Below.bx P9.out 1 rfl
  have z4_1 := World.block_lt_of_cell? _ _ x4_1_0
  have G4L10 : Hid _ := G4.out.alloc G4.out.size (.cells #[.int .i64 c, .int .i64 v] 38)
  have E4L10 : Hid _ := E4.out.later ((Below.refl u4.heap.size u4).alloc (Nat.le_refl _) (.cells #[.int .i64 c, .int .i64 v] 38))
  have P10 : Hid _ := P8.out.alloc P8.out.size (.cells #[.int .i64 c, .int .i64 v] 38)
  have P11 : Hid _ := P9.out.alloc P9.out.size (.cells #[.int .i64 c, .int .i64 v] 38)
  clear G4 E4 P8 P9
  have P12 : Hid _ := Below.refl (u4.alloc (.cells #[.int .i64 c, .int .i64 v] 38)).heap.size (u4.alloc (.cells #[.int .i64 c, .int .i64 v] 38))
  go_wp2_with fail
  refine (Told_no x hx hw _).mono ?_
  rintro e u5 ⟨rfl, hb⟩
  have hb := hb.below
  have G5 : Hid _ := G4L10.out.trans (hb.mono G4L10.out.size)
  have E5 : Hid _ := E4L10.out.later hb
  clear x4_0_0 x4_0_1 z4_0 x4_1_0 x4_1_1 z4_1
  have P13 : Hid _ := P10.out.trans (hb.mono P10.out.size)
  have P14 : Hid _ := P11.out.trans (hb.mono P11.out.size)
  have P15 : Hid _ := P12.out.trans (hb.mono P12.out.size)
  clear hb G4L10 E4L10 P10 P11 P12
  have x5_0_0 := Below.bx P13.out 0 rfl
  have x5_0_1 := Below.bx P13.out 1 rfl
  have z5_0 := World.block_lt_of_cell? _ _ x5_0_0
  have x5_1_0 : u5.cell? ⟨w.heap.size + 1, 0, none⟩ = some (.int .i64 d) := by simpa using Below.bx P14.out 0 rfl
  have x5_1_1 : u5.cell? ⟨w.heap.size + 1, 1, none⟩ = some (.int .i64 e) := by simpa using Below.bx P14.out 1 rfl
  have z5_1 := World.block_lt_of_cell? _ _ x5_1_0
  have x5_2_0 := Below.bx P15.out 0 rfl
  have x5_2_1 := Below.bx P15.out 1 rfl
  have z5_2 := World.block_lt_of_cell? _ _ x5_2_0
  have G5L16 : Hid _ := G5.out.alloc G5.out.size (.cells #[.int .i64 0, .int .i64 0] 38)
  have E5L16 : Hid _ := E5.out.later ((Below.refl u5.heap.size u5).alloc (Nat.le_refl _) (.cells #[.int .i64 0, .int .i64 0] 38))
  have P16 : Hid _ := P13.out.alloc P13.out.size (.cells #[.int .i64 0, .int .i64 0] 38)
  have P17 : Hid _ := P14.out.alloc P14.out.size (.cells #[.int .i64 0, .int .i64 0] 38)
  have P18 : Hid _ := P15.out.alloc P15.out.size (.cells #[.int .i64 0, .int .i64 0] 38)
  clear G5 E5 P13 P14 P15
  have P19 : Hid _ := Below.refl (u5.alloc (.cells #[.int .i64 0, .int .i64 0] 38)).heap.size (u5.alloc (.cells #[.int .i64 0, .int .i64 0] 38))
  go_wp2_with fail
  have k00 : (u5.alloc (.cells #[.int .i64 0, .int .i64 0] 38)).cell? ⟨w.heap.size, 0, none⟩ = some (.int .i64 c) := by simpa using Below.bx P16.out 0 rfl
  have k01 : (u5.alloc (.cells #[.int .i64 0, .int .i64 0] 38)).cell? ⟨w.heap.size, 1, none⟩ = some (.int .i64 v) := by simpa using Below.bx P16.out 1 rfl
  have k10 : (u5.alloc (.cells #[.int .i64 0, .int .i64 0] 38)).cell? ⟨w.heap.size + 1, 0, none⟩ = some (.int .i64 d) := by simpa using Below.bx P17.out 0 rfl
  have k11 : (u5.alloc (.cells #[.int .i64 0, .int .i64 0] 38)).cell? ⟨w.heap.size + 1, 1, none⟩ = some (.int .i64 e) := by simpa using Below.bx P17.out 1 rfl
  clear x5_0_0 x5_0_1 z5_0 x5_1_0 x5_1_1 z5_1 x5_2_0 x5_2_1 z5_2
  clear P16 P17 P18 P19
  generalize hWW : (u5.alloc (.cells #[.int .i64 0, .int .i64 0] 38)) = W at *
  clear hWW
  generalize hm : w.heap.size = m at *
  have HM : Hid _ := hm
  clear hm
  refine wp_region_held_drew (S := fun w' => w'.cell? ⟨m, 0, none⟩ = some (.int .i64 c) ∧ w'.cell? ⟨m, 1, none⟩ = some (.int .i64 v) ∧ w'.cell? ⟨m + 1, 0, none⟩ = some (.int .i64 d) ∧ w'.cell? ⟨m + 1, 1, none⟩ = some (.int .i64 e) ∧ Ec w' ∧ Below W.heap.size W w') (by kernel_rfl) ⟨k00, k01, k10, k11, E5L16.out.later (Below.refl _ _).drew, (Below.refl _ _).drew⟩ (fun hH => ?_)
  refine wpAnyH_take (i := 0) (oi := { dst := some 59, op := .load _ (.tmp 3), type := _, pos := _, after := _, guard := _ }) (v := ?_) rfl (by kernel_rfl) (by kernel_rfl) (by kernel_rfl) (fun _ _ _ h => h) (Or.inl ⟨by rfl, ?_⟩) hH ?_
  rotate_left
  · intro wq hSw
    obtain ⟨s0, s1, s2, s3, _, _⟩ := hSw
    go_simp
    with_reducible rfl
  simp only [Act.put, List.setIfInBounds_toArray, List.set_cons_zero, List.set_cons_succ]
  refine wpAnyH_ready (rs := [1]) (by kernel_rfl) (by simp) ?_
  refine AllReadyH.cons (o := { dst := some 60, op := _, type := _, pos := _, after := _, guard := _ }) rfl (fun K hK => ?_) AllReadyH.nil
  go_simp
  refine (Fits_yes ha _).mono ?_
  rintro e wz1 ⟨rfl, hz⟩
  have hb := hz.below
  clear hz
  go_wp2_with fail
  refine hK.out _ _ (ab_keep hb hH) (fun hH => ?_)
  clear hK K hb
  refine wpAnyH_take (i := 2) (oi := { dst := some 61, op := .unOp .not _ (.tmp 60), type := _, pos := _, after := _, guard := _ }) (v := ?_) rfl (by kernel_rfl) (by kernel_rfl) (by kernel_rfl) (fun _ _ _ h => h) (Or.inl ⟨by rfl, ?_⟩) hH ?_
  rotate_left
  · intro wq hSw
    clear hSw
    go_simp
    with_reducible rfl
  simp only [Act.put, List.setIfInBounds_toArray, List.set_cons_zero, List.set_cons_succ]
  refine wpAnyH_take (i := 3) (oi := { dst := some 62, op := .move (.tmp 61), type := _, pos := _, after := _, guard := _ }) (v := ?_) rfl (by kernel_rfl) (by kernel_rfl) (by kernel_rfl) (fun _ _ _ h => h) (Or.inl ⟨by rfl, ?_⟩) hH ?_
  rotate_left
  · intro wq hSw
    clear hSw
    go_simp
    with_reducible rfl
  simp only [Act.put, List.setIfInBounds_toArray, List.set_cons_zero, List.set_cons_succ]
  refine wpAnyH_take (i := 4) (oi := { dst := some 63, op := .load _ (.tmp 4), type := _, pos := _, after := _, guard := _ }) (v := ?_) rfl (by kernel_rfl) (by kernel_rfl) (by kernel_rfl) (fun _ _ _ h => h) (Or.inl ⟨by rfl, ?_⟩) hH ?_
  rotate_left
  · intro wq hSw
    obtain ⟨s0, s1, s2, s3, _, _⟩ := hSw
    go_simp
    with_reducible rfl
  simp only [Act.put, List.setIfInBounds_toArray, List.set_cons_zero, List.set_cons_succ]
  refine wpAnyH_ready (rs := [5]) (by kernel_rfl) (by simp) ?_
  refine AllReadyH.cons (o := { dst := some 64, op := _, type := _, pos := _, after := _, guard := _ }) rfl (fun K hK => ?_) AllReadyH.nil
  go_simp
  refine (Fits_no hB _).mono ?_
  rintro e wz5 ⟨rfl, hz⟩
  have hb := hz.below
  clear hz
  go_wp2_with fail
  refine hK.out _ _ (ab_keep hb hH) (fun hH => ?_)
  clear hK K hb
  refine wpAnyH_take (i := 6) (oi := { dst := some 65, op := .unOp .not _ (.tmp 64), type := _, pos := _, after := _, guard := _ }) (v := ?_) rfl (by kernel_rfl) (by kernel_rfl) (by kernel_rfl) (fun _ _ _ h => h) (Or.inl ⟨by rfl, ?_⟩) hH ?_
  rotate_left
  · intro wq hSw
    clear hSw
    go_simp
    with_reducible rfl
  simp only [Act.put, List.setIfInBounds_toArray, List.set_cons_zero, List.set_cons_succ]
  refine wpAnyH_take (i := 7) (oi := { dst := some 66, op := .pick (.tmp 62) (.const (.bool true)) (.tmp 65), type := _, pos := _, after := _, guard := _ }) (v := ?_) rfl (by kernel_rfl) (by kernel_rfl) (by kernel_rfl) (fun _ _ _ h => h) (Or.inl ⟨by rfl, ?_⟩) hH ?_
  rotate_left
  · intro wq hSw
    clear hSw
    go_simp
    with_reducible rfl
  simp only [Act.put, List.setIfInBounds_toArray, List.set_cons_zero, List.set_cons_succ]
  refine wpAnyH_take (i := 8) (oi := { dst := some 67, op := .move (.tmp 66), type := _, pos := _, after := _, guard := _ }) (v := ?_) rfl (by kernel_rfl) (by kernel_rfl) (by kernel_rfl) (fun _ _ _ h => h) (Or.inl ⟨by rfl, ?_⟩) hH ?_
  rotate_left
  · intro wq hSw
    clear hSw
    go_simp
    with_reducible rfl
  simp only [Act.put, List.setIfInBounds_toArray, List.set_cons_zero, List.set_cons_succ]
  refine wpAnyH_take (i := 9) (oi := { dst := some 68, op := _, type := _, pos := _, after := _, guard := _ }) (v := _) rfl (by kernel_rfl) (by kernel_rfl) (by kernel_rfl) (fun _ _ _ h => h) (Or.inr ⟨by rfl, rfl⟩) hH ?_
  simp only [Act.put, List.setIfInBounds_toArray, List.set_cons_zero, List.set_cons_succ]
  refine wpAnyH_take (i := 10) (oi := { dst := some 69, op := _, type := _, pos := _, after := _, guard := _ }) (v := _) rfl (by kernel_rfl) (by kernel_rfl) (by kernel_rfl) (fun _ _ _ h => h) (Or.inr ⟨by rfl, rfl⟩) hH ?_
  simp only [Act.put, List.setIfInBounds_toArray, List.set_cons_zero, List.set_cons_succ]
  refine wpAnyH_take (i := 11) (oi := { dst := some 70, op := _, type := _, pos := _, after := _, guard := _ }) (v := _) rfl (by kernel_rfl) (by kernel_rfl) (by kernel_rfl) (fun _ _ _ h => h) (Or.inr ⟨by rfl, rfl⟩) hH ?_
  simp only [Act.put, List.setIfInBounds_toArray, List.set_cons_zero, List.set_cons_succ]
  refine wpAnyH_take (i := 12) (oi := { dst := some 71, op := _, type := _, pos := _, after := _, guard := _ }) (v := _) rfl (by kernel_rfl) (by kernel_rfl) (by kernel_rfl) (fun _ _ _ h => h) (Or.inr ⟨by rfl, rfl⟩) hH ?_
  simp only [Act.put, List.setIfInBounds_toArray, List.set_cons_zero, List.set_cons_succ]
  refine wpAnyH_take (i := 13) (oi := { dst := some 72, op := _, type := _, pos := _, after := _, guard := _ }) (v := _) rfl (by kernel_rfl) (by kernel_rfl) (by kernel_rfl) (fun _ _ _ h => h) (Or.inr ⟨by rfl, rfl⟩) hH ?_
  simp only [Act.put, List.setIfInBounds_toArray, List.set_cons_zero, List.set_cons_succ]
  refine wpAnyH_take (i := 14) (oi := { dst := some 73, op := _, type := _, pos := _, after := _, guard := _ }) (v := _) rfl (by kernel_rfl) (by kernel_rfl) (by kernel_rfl) (fun _ _ _ h => h) (Or.inr ⟨by rfl, rfl⟩) hH ?_
  simp only [Act.put, List.setIfInBounds_toArray, List.set_cons_zero, List.set_cons_succ]
  refine wpAnyH_take (i := 15) (oi := { dst := some 74, op := _, type := _, pos := _, after := _, guard := _ }) (v := _) rfl (by kernel_rfl) (by kernel_rfl) (by kernel_rfl) (fun _ _ _ h => h) (Or.inr ⟨by rfl, rfl⟩) hH ?_
  simp only [Act.put, List.setIfInBounds_toArray, List.set_cons_zero, List.set_cons_succ]
  refine wpAnyH_take (i := 16) (oi := { dst := some 75, op := _, type := _, pos := _, after := _, guard := _ }) (v := _) rfl (by kernel_rfl) (by kernel_rfl) (by kernel_rfl) (fun _ _ _ h => h) (Or.inr ⟨by rfl, rfl⟩) hH ?_
  simp only [Act.put, List.setIfInBounds_toArray, List.set_cons_zero, List.set_cons_succ]
  refine wpAnyH_take (i := 17) (oi := { dst := some 76, op := _, type := _, pos := _, after := _, guard := _ }) (v := _) rfl (by kernel_rfl) (by kernel_rfl) (by kernel_rfl) (fun _ _ _ h => h) (Or.inr ⟨by rfl, rfl⟩) hH ?_
  simp only [Act.put, List.setIfInBounds_toArray, List.set_cons_zero, List.set_cons_succ]
  refine wpAnyH_take (i := 18) (oi := { dst := some 77, op := .pick (.tmp 67) (.const (.bool true)) (.tmp 76), type := _, pos := _, after := _, guard := _ }) (v := ?_) rfl (by kernel_rfl) (by kernel_rfl) (by kernel_rfl) (fun _ _ _ h => h) (Or.inl ⟨by rfl, ?_⟩) hH ?_
  rotate_left
  · intro wq hSw
    clear hSw
    go_simp
    with_reducible rfl
  simp only [Act.put, List.setIfInBounds_toArray, List.set_cons_zero, List.set_cons_succ]
  refine wpAnyH_take (i := 19) (oi := { dst := some 6, op := .assign (.tmp 77), type := _, pos := _, after := _, guard := _ }) (v := ?_) rfl (by kernel_rfl) (by kernel_rfl) (by kernel_rfl) (fun _ _ _ h => h) (Or.inl ⟨by rfl, ?_⟩) hH ?_
  rotate_left
  · intro wq hSw
    clear hSw
    go_simp
    with_reducible rfl
  simp only [Act.put, List.setIfInBounds_toArray, List.set_cons_zero, List.set_cons_succ]
  refine wpAnyH_done (by kernel_rfl) ?_ _
  have HB : Hid _ := ab_bl hH
  go_wp2
  go_ret
  refine ⟨rfl, ?_⟩
  rw [HM.out]
  exact G5L16.out.trans (HB.out.mono (HM.out ▸ G5L16.out.size))

set_option maxHeartbeats 4000000 in
theorem ab110 {c v : Nat} (d e : Int) {y z : Nat} (w : World) (hE : Ec w) (ha : Ft c v) (hB : ¬ Ft d e) (hw : Ft y z) :
    Calls Tryd.prog 5 #[.agg #[.int .i64 c, .int .i64 v], .agg #[.int .i64 d, .int .i64 e], .int .u64 (ansN y z : Nat)] w fun e w' => e = .returned (.bool true) ∧ Below w.heap.size w w' := by
  have G0 : Hid _ := ((Below.refl w.heap.size w).alloc (Nat.le_refl _) (.cells #[.int .i64 c, .int .i64 v] 38)).alloc (by simp) (.cells #[.int .i64 d, .int .i64 e] 38)
  have E0 : Hid _ := hE.later G0.out
  clear hE
  have P0 : Hid _ := (Below.refl (w.alloc (.cells #[.int .i64 c, .int .i64 v] 38)).heap.size (w.alloc (.cells #[.int .i64 c, .int .i64 v] 38))).alloc (by simp) (.cells #[.int .i64 d, .int .i64 e] 38)
  have P1 : Hid _ := Below.refl ((w.alloc (.cells #[.int .i64 c, .int .i64 v] 38)).alloc (.cells #[.int .i64 d, .int .i64 e] 38)).heap.size ((w.alloc (.cells #[.int .i64 c, .int .i64 v] 38)).alloc (.cells #[.int .i64 d, .int .i64 e] 38))
  go_enter Tryd.func5, Tryd.ntmps5
  go_wp2_with fail
  refine (spelled_any _ E0.out).mono ?_
  rintro e u1 ⟨rfl, hb⟩
  have G1 : Hid _ := G0.out.trans (hb.mono G0.out.size)
  have E1 : Hid _ := E0.out.later hb
  have P2 : Hid _ := P0.out.trans (hb.mono P0.out.size)
  have P3 : Hid _ := P1.out.trans (hb.mono P1.out.size)
  clear hb G0 E0 P0 P1
  have x1_0_0 := Below.bx P2.out 0 rfl
  have x1_0_1 := Below.bx P2.out 1 rfl
  have z1_0 := World.block_lt_of_cell? _ _ x1_0_0
  have x1_1_0 : u1.cell? ⟨w.heap.size + 1, 0, none⟩ = some (.int .i64 d) := by simpa using Below.bx P3.out 0 rfl
  have x1_1_1 : u1.cell? ⟨w.heap.size + 1, 1, none⟩ = some (.int .i64 e) := by simpa using Below.bx P3.out 1 rfl
  have z1_1 := World.block_lt_of_cell? _ _ x1_1_0
  go_wp2_with fail
  refine (Fits_yes ha _).mono ?_
  rintro e u2 ⟨rfl, hb⟩
  have hb := hb.below
  have G2 : Hid _ := G1.out.trans (hb.mono G1.out.size)
  have E2 : Hid _ := E1.out.later hb
  clear x1_0_0 x1_0_1 z1_0 x1_1_0 x1_1_1 z1_1
  have P4 : Hid _ := P2.out.trans (hb.mono P2.out.size)
  have P5 : Hid _ := P3.out.trans (hb.mono P3.out.size)
  clear hb G1 E1 P2 P3
  have x2_0_0 := Below.bx P4.out 0 rfl
  have x2_0_1 := Below.bx P4.out 1 rfl
  have z2_0 := World.block_lt_of_cell? _ _ x2_0_0
  have x2_1_0 : u2.cell? ⟨w.heap.size + 1, 0, none⟩ = some (.int .i64 d) := by simpa using Below.bx P5.out 0 rfl
  have x2_1_1 : u2.cell? ⟨w.heap.size + 1, 1, none⟩ = some (.int .i64 e) := by simpa using Below.bx P5.out 1 rfl
  have z2_1 := World.block_lt_of_cell? _ _ x2_1_0
  go_wp2_with fail
  refine (Answer_yes ha _).mono ?_
  rintro e u3 ⟨rfl, hb⟩
  have hb := hb.below
  have G3 : Hid _ := G2.out.trans (hb.mono G2.out.size)
  have E3 : Hid _ := E2.out.later hb
  clear x2_0_0 x2_0_1 z2_0 x2_1_0 x2_1_1 z2_1
  have P6 : Hid _ := P4.out.trans (hb.mono P4.out.size)
  have P7 : Hid _ := P5.out.trans (hb.mono P5.out.size)
  clear hb G2 E2 P4 P5
  have x3_0_0 := Below.bx P6.out 0 rfl
  have x3_0_1 := Below.bx P6.out 1 rfl
  have z3_0 := World.block_lt_of_cell? _ _ x3_0_0
  have x3_1_0 : u3.cell? ⟨w.heap.size + 1, 0, none⟩ = some (.int .i64 d) := by simpa using Below.bx P7.out 0 rfl
  have x3_1_1 : u3.cell? ⟨w.heap.size + 1, 1, none⟩ = some (.int .i64 e) := by simpa using Below.bx P7.out 1 rfl
  have z3_1 := World.block_lt_of_cell? _ _ x3_1_0
  go_wp2_with fail
  refine (Told_yes ha _).mono ?_
  rintro e u4 ⟨rfl, hb⟩
  have hb := hb.below
  have G4 : Hid _ := G3.out.trans (hb.mono G3.out.size)
  have E4 : Hid _ := E3.out.later hb
  clear x3_0_0 x3_0_1 z3_0 x3_1_0 x3_1_1 z3_1
  have P8 : Hid _ := P6.out.trans (hb.mono P6.out.size)
  have P9 : Hid _ := P7.out.trans (hb.mono P7.out.size)
  clear hb G3 E3 P6 P7
  have x4_0_0 := Below.bx P8.out 0 rfl
  have x4_0_1 := Below.bx P8.out 1 rfl
  have z4_0 := World.block_lt_of_cell? _ _ x4_0_0
  have x4_1_0 : u4.cell? ⟨w.heap.size + 1, 0, none⟩ = some (.int .i64 d) := by simpa using Below.bx P9.out 0 rfl
  have x4_1_1 : u4.cell? ⟨w.heap.size + 1, 1, none⟩ = some (.int .i64 e) := by simpa using Below.bx P9.out 1 rfl
  have z4_1 := World.block_lt_of_cell? _ _ x4_1_0
  have G4L10 : Hid _ := G4.out.alloc G4.out.size (.cells #[.int .i64 c, .int .i64 v] 38)
  have E4L10 : Hid _ := E4.out.later ((Below.refl u4.heap.size u4).alloc (Nat.le_refl _) (.cells #[.int .i64 c, .int .i64 v] 38))
  have P10 : Hid _ := P8.out.alloc P8.out.size (.cells #[.int .i64 c, .int .i64 v] 38)
  have P11 : Hid _ := P9.out.alloc P9.out.size (.cells #[.int .i64 c, .int .i64 v] 38)
  clear G4 E4 P8 P9
  have P12 : Hid _ := Below.refl (u4.alloc (.cells #[.int .i64 c, .int .i64 v] 38)).heap.size (u4.alloc (.cells #[.int .i64 c, .int .i64 v] 38))
  go_wp2_with fail
  refine (Told_yes hw _).mono ?_
  rintro e u5 ⟨rfl, hb⟩
  have hb := hb.below
  have G5 : Hid _ := G4L10.out.trans (hb.mono G4L10.out.size)
  have E5 : Hid _ := E4L10.out.later hb
  clear x4_0_0 x4_0_1 z4_0 x4_1_0 x4_1_1 z4_1
  have P13 : Hid _ := P10.out.trans (hb.mono P10.out.size)
  have P14 : Hid _ := P11.out.trans (hb.mono P11.out.size)
  have P15 : Hid _ := P12.out.trans (hb.mono P12.out.size)
  clear hb G4L10 E4L10 P10 P11 P12
  have x5_0_0 := Below.bx P13.out 0 rfl
  have x5_0_1 := Below.bx P13.out 1 rfl
  have z5_0 := World.block_lt_of_cell? _ _ x5_0_0
  have x5_1_0 : u5.cell? ⟨w.heap.size + 1, 0, none⟩ = some (.int .i64 d) := by simpa using Below.bx P14.out 0 rfl
  have x5_1_1 : u5.cell? ⟨w.heap.size + 1, 1, none⟩ = some (.int .i64 e) := by simpa using Below.bx P14.out 1 rfl
  have z5_1 := World.block_lt_of_cell? _ _ x5_1_0
  have x5_2_0 := Below.bx P15.out 0 rfl
  have x5_2_1 := Below.bx P15.out 1 rfl
  have z5_2 := World.block_lt_of_cell? _ _ x5_2_0
  have G5L16 : Hid _ := G5.out.alloc G5.out.size (.cells #[.int .i64 y, .int .i64 z] 38)
  have E5L16 : Hid _ := E5.out.later ((Below.refl u5.heap.size u5).alloc (Nat.le_refl _) (.cells #[.int .i64 y, .int .i64 z] 38))
  have P16 : Hid _ := P13.out.alloc P13.out.size (.cells #[.int .i64 y, .int .i64 z] 38)
  have P17 : Hid _ := P14.out.alloc P14.out.size (.cells #[.int .i64 y, .int .i64 z] 38)
  have P18 : Hid _ := P15.out.alloc P15.out.size (.cells #[.int .i64 y, .int .i64 z] 38)
  clear G5 E5 P13 P14 P15
  have P19 : Hid _ := Below.refl (u5.alloc (.cells #[.int .i64 y, .int .i64 z] 38)).heap.size (u5.alloc (.cells #[.int .i64 y, .int .i64 z] 38))
  go_wp2_with fail
  refine (Answer_yes hw _).mono ?_
  rintro e u6 ⟨rfl, hb⟩
  have hb := hb.below
  have G6 : Hid _ := G5L16.out.trans (hb.mono G5L16.out.size)
  have E6 : Hid _ := E5L16.out.later hb
  clear x5_0_0 x5_0_1 z5_0 x5_1_0 x5_1_1 z5_1 x5_2_0 x5_2_1 z5_2
  have P20 : Hid _ := P16.out.trans (hb.mono P16.out.size)
  have P21 : Hid _ := P17.out.trans (hb.mono P17.out.size)
  have P22 : Hid _ := P18.out.trans (hb.mono P18.out.size)
  have P23 : Hid _ := P19.out.trans (hb.mono P19.out.size)
  clear hb G5L16 E5L16 P16 P17 P18 P19
  have x6_0_0 := Below.bx P20.out 0 rfl
  have x6_0_1 := Below.bx P20.out 1 rfl
  have z6_0 := World.block_lt_of_cell? _ _ x6_0_0
  have x6_1_0 : u6.cell? ⟨w.heap.size + 1, 0, none⟩ = some (.int .i64 d) := by simpa using Below.bx P21.out 0 rfl
  have x6_1_1 : u6.cell? ⟨w.heap.size + 1, 1, none⟩ = some (.int .i64 e) := by simpa using Below.bx P21.out 1 rfl
  have z6_1 := World.block_lt_of_cell? _ _ x6_1_0
  have x6_2_0 := Below.bx P22.out 0 rfl
  have x6_2_1 := Below.bx P22.out 1 rfl
  have z6_2 := World.block_lt_of_cell? _ _ x6_2_0
  have x6_3_0 := Below.bx P23.out 0 rfl
  have x6_3_1 := Below.bx P23.out 1 rfl
  have z6_3 := World.block_lt_of_cell? _ _ x6_3_0
  go_wp2_with fail
  have k00 : u6.cell? ⟨w.heap.size, 0, none⟩ = some (.int .i64 c) := by simpa using Below.bx P20.out 0 rfl
  have k01 : u6.cell? ⟨w.heap.size, 1, none⟩ = some (.int .i64 v) := by simpa using Below.bx P20.out 1 rfl
  have k10 : u6.cell? ⟨w.heap.size + 1, 0, none⟩ = some (.int .i64 d) := by simpa using Below.bx P21.out 0 rfl
  have k11 : u6.cell? ⟨w.heap.size + 1, 1, none⟩ = some (.int .i64 e) := by simpa using Below.bx P21.out 1 rfl
  clear x6_0_0 x6_0_1 z6_0 x6_1_0 x6_1_1 z6_1 x6_2_0 x6_2_1 z6_2 x6_3_0 x6_3_1 z6_3
  clear P20 P21 P22 P23
  generalize hWW : u6 = W at *
  clear hWW
  generalize hm : w.heap.size = m at *
  have HM : Hid _ := hm
  clear hm
  refine wp_region_held_drew (S := fun w' => w'.cell? ⟨m, 0, none⟩ = some (.int .i64 c) ∧ w'.cell? ⟨m, 1, none⟩ = some (.int .i64 v) ∧ w'.cell? ⟨m + 1, 0, none⟩ = some (.int .i64 d) ∧ w'.cell? ⟨m + 1, 1, none⟩ = some (.int .i64 e) ∧ Ec w' ∧ Below W.heap.size W w') (by kernel_rfl) ⟨k00, k01, k10, k11, E6.out.later (Below.refl _ _).drew, (Below.refl _ _).drew⟩ (fun hH => ?_)
  refine wpAnyH_take (i := 0) (oi := { dst := some 59, op := .load _ (.tmp 3), type := _, pos := _, after := _, guard := _ }) (v := ?_) rfl (by kernel_rfl) (by kernel_rfl) (by kernel_rfl) (fun _ _ _ h => h) (Or.inl ⟨by rfl, ?_⟩) hH ?_
  rotate_left
  · intro wq hSw
    obtain ⟨s0, s1, s2, s3, _, _⟩ := hSw
    go_simp
    with_reducible rfl
  simp only [Act.put, List.setIfInBounds_toArray, List.set_cons_zero, List.set_cons_succ]
  refine wpAnyH_ready (rs := [1]) (by kernel_rfl) (by simp) ?_
  refine AllReadyH.cons (o := { dst := some 60, op := _, type := _, pos := _, after := _, guard := _ }) rfl (fun K hK => ?_) AllReadyH.nil
  go_simp
  refine (Fits_yes ha _).mono ?_
  rintro e wz1 ⟨rfl, hz⟩
  have hb := hz.below
  clear hz
  go_wp2_with fail
  refine hK.out _ _ (ab_keep hb hH) (fun hH => ?_)
  clear hK K hb
  refine wpAnyH_take (i := 2) (oi := { dst := some 61, op := .unOp .not _ (.tmp 60), type := _, pos := _, after := _, guard := _ }) (v := ?_) rfl (by kernel_rfl) (by kernel_rfl) (by kernel_rfl) (fun _ _ _ h => h) (Or.inl ⟨by rfl, ?_⟩) hH ?_
  rotate_left
  · intro wq hSw
    clear hSw
    go_simp
    with_reducible rfl
  simp only [Act.put, List.setIfInBounds_toArray, List.set_cons_zero, List.set_cons_succ]
  refine wpAnyH_take (i := 3) (oi := { dst := some 62, op := .move (.tmp 61), type := _, pos := _, after := _, guard := _ }) (v := ?_) rfl (by kernel_rfl) (by kernel_rfl) (by kernel_rfl) (fun _ _ _ h => h) (Or.inl ⟨by rfl, ?_⟩) hH ?_
  rotate_left
  · intro wq hSw
    clear hSw
    go_simp
    with_reducible rfl
  simp only [Act.put, List.setIfInBounds_toArray, List.set_cons_zero, List.set_cons_succ]
  refine wpAnyH_take (i := 4) (oi := { dst := some 63, op := .load _ (.tmp 4), type := _, pos := _, after := _, guard := _ }) (v := ?_) rfl (by kernel_rfl) (by kernel_rfl) (by kernel_rfl) (fun _ _ _ h => h) (Or.inl ⟨by rfl, ?_⟩) hH ?_
  rotate_left
  · intro wq hSw
    obtain ⟨s0, s1, s2, s3, _, _⟩ := hSw
    go_simp
    with_reducible rfl
  simp only [Act.put, List.setIfInBounds_toArray, List.set_cons_zero, List.set_cons_succ]
  refine wpAnyH_ready (rs := [5]) (by kernel_rfl) (by simp) ?_
  refine AllReadyH.cons (o := { dst := some 64, op := _, type := _, pos := _, after := _, guard := _ }) rfl (fun K hK => ?_) AllReadyH.nil
  go_simp
  refine (Fits_no hB _).mono ?_
  rintro e wz5 ⟨rfl, hz⟩
  have hb := hz.below
  clear hz
  go_wp2_with fail
  refine hK.out _ _ (ab_keep hb hH) (fun hH => ?_)
  clear hK K hb
  refine wpAnyH_take (i := 6) (oi := { dst := some 65, op := .unOp .not _ (.tmp 64), type := _, pos := _, after := _, guard := _ }) (v := ?_) rfl (by kernel_rfl) (by kernel_rfl) (by kernel_rfl) (fun _ _ _ h => h) (Or.inl ⟨by rfl, ?_⟩) hH ?_
  rotate_left
  · intro wq hSw
    clear hSw
    go_simp
    with_reducible rfl
  simp only [Act.put, List.setIfInBounds_toArray, List.set_cons_zero, List.set_cons_succ]
  refine wpAnyH_take (i := 7) (oi := { dst := some 66, op := .pick (.tmp 62) (.const (.bool true)) (.tmp 65), type := _, pos := _, after := _, guard := _ }) (v := ?_) rfl (by kernel_rfl) (by kernel_rfl) (by kernel_rfl) (fun _ _ _ h => h) (Or.inl ⟨by rfl, ?_⟩) hH ?_
  rotate_left
  · intro wq hSw
    clear hSw
    go_simp
    with_reducible rfl
  simp only [Act.put, List.setIfInBounds_toArray, List.set_cons_zero, List.set_cons_succ]
  refine wpAnyH_take (i := 8) (oi := { dst := some 67, op := .move (.tmp 66), type := _, pos := _, after := _, guard := _ }) (v := ?_) rfl (by kernel_rfl) (by kernel_rfl) (by kernel_rfl) (fun _ _ _ h => h) (Or.inl ⟨by rfl, ?_⟩) hH ?_
  rotate_left
  · intro wq hSw
    clear hSw
    go_simp
    with_reducible rfl
  simp only [Act.put, List.setIfInBounds_toArray, List.set_cons_zero, List.set_cons_succ]
  refine wpAnyH_take (i := 9) (oi := { dst := some 68, op := _, type := _, pos := _, after := _, guard := _ }) (v := _) rfl (by kernel_rfl) (by kernel_rfl) (by kernel_rfl) (fun _ _ _ h => h) (Or.inr ⟨by rfl, rfl⟩) hH ?_
  simp only [Act.put, List.setIfInBounds_toArray, List.set_cons_zero, List.set_cons_succ]
  refine wpAnyH_take (i := 10) (oi := { dst := some 69, op := _, type := _, pos := _, after := _, guard := _ }) (v := _) rfl (by kernel_rfl) (by kernel_rfl) (by kernel_rfl) (fun _ _ _ h => h) (Or.inr ⟨by rfl, rfl⟩) hH ?_
  simp only [Act.put, List.setIfInBounds_toArray, List.set_cons_zero, List.set_cons_succ]
  refine wpAnyH_take (i := 11) (oi := { dst := some 70, op := _, type := _, pos := _, after := _, guard := _ }) (v := _) rfl (by kernel_rfl) (by kernel_rfl) (by kernel_rfl) (fun _ _ _ h => h) (Or.inr ⟨by rfl, rfl⟩) hH ?_
  simp only [Act.put, List.setIfInBounds_toArray, List.set_cons_zero, List.set_cons_succ]
  refine wpAnyH_take (i := 12) (oi := { dst := some 71, op := _, type := _, pos := _, after := _, guard := _ }) (v := _) rfl (by kernel_rfl) (by kernel_rfl) (by kernel_rfl) (fun _ _ _ h => h) (Or.inr ⟨by rfl, rfl⟩) hH ?_
  simp only [Act.put, List.setIfInBounds_toArray, List.set_cons_zero, List.set_cons_succ]
  refine wpAnyH_take (i := 13) (oi := { dst := some 72, op := _, type := _, pos := _, after := _, guard := _ }) (v := _) rfl (by kernel_rfl) (by kernel_rfl) (by kernel_rfl) (fun _ _ _ h => h) (Or.inr ⟨by rfl, rfl⟩) hH ?_
  simp only [Act.put, List.setIfInBounds_toArray, List.set_cons_zero, List.set_cons_succ]
  refine wpAnyH_take (i := 14) (oi := { dst := some 73, op := _, type := _, pos := _, after := _, guard := _ }) (v := _) rfl (by kernel_rfl) (by kernel_rfl) (by kernel_rfl) (fun _ _ _ h => h) (Or.inr ⟨by rfl, rfl⟩) hH ?_
  simp only [Act.put, List.setIfInBounds_toArray, List.set_cons_zero, List.set_cons_succ]
  refine wpAnyH_take (i := 15) (oi := { dst := some 74, op := _, type := _, pos := _, after := _, guard := _ }) (v := _) rfl (by kernel_rfl) (by kernel_rfl) (by kernel_rfl) (fun _ _ _ h => h) (Or.inr ⟨by rfl, rfl⟩) hH ?_
  simp only [Act.put, List.setIfInBounds_toArray, List.set_cons_zero, List.set_cons_succ]
  refine wpAnyH_take (i := 16) (oi := { dst := some 75, op := _, type := _, pos := _, after := _, guard := _ }) (v := _) rfl (by kernel_rfl) (by kernel_rfl) (by kernel_rfl) (fun _ _ _ h => h) (Or.inr ⟨by rfl, rfl⟩) hH ?_
  simp only [Act.put, List.setIfInBounds_toArray, List.set_cons_zero, List.set_cons_succ]
  refine wpAnyH_take (i := 17) (oi := { dst := some 76, op := _, type := _, pos := _, after := _, guard := _ }) (v := _) rfl (by kernel_rfl) (by kernel_rfl) (by kernel_rfl) (fun _ _ _ h => h) (Or.inr ⟨by rfl, rfl⟩) hH ?_
  simp only [Act.put, List.setIfInBounds_toArray, List.set_cons_zero, List.set_cons_succ]
  refine wpAnyH_take (i := 18) (oi := { dst := some 77, op := .pick (.tmp 67) (.const (.bool true)) (.tmp 76), type := _, pos := _, after := _, guard := _ }) (v := ?_) rfl (by kernel_rfl) (by kernel_rfl) (by kernel_rfl) (fun _ _ _ h => h) (Or.inl ⟨by rfl, ?_⟩) hH ?_
  rotate_left
  · intro wq hSw
    clear hSw
    go_simp
    with_reducible rfl
  simp only [Act.put, List.setIfInBounds_toArray, List.set_cons_zero, List.set_cons_succ]
  refine wpAnyH_take (i := 19) (oi := { dst := some 6, op := .assign (.tmp 77), type := _, pos := _, after := _, guard := _ }) (v := ?_) rfl (by kernel_rfl) (by kernel_rfl) (by kernel_rfl) (fun _ _ _ h => h) (Or.inl ⟨by rfl, ?_⟩) hH ?_
  rotate_left
  · intro wq hSw
    clear hSw
    go_simp
    with_reducible rfl
  simp only [Act.put, List.setIfInBounds_toArray, List.set_cons_zero, List.set_cons_succ]
  refine wpAnyH_done (by kernel_rfl) ?_ _
  have HB : Hid _ := ab_bl hH
  go_wp2
  go_ret
  refine ⟨rfl, ?_⟩
  rw [HM.out]
  exact G6.out.trans (HB.out.mono (HM.out ▸ G6.out.size))

set_option maxHeartbeats 4000000 in
theorem ab101 {c v : Nat} (x : Nat) (hx : x < 18446744073709551616) (w : World) (hE : Ec w) (ha : Ft c v) (hB : Ft c v) (hw : NoAns x) :
    Calls Tryd.prog 5 #[.agg #[.int .i64 c, .int .i64 v], .agg #[.int .i64 c, .int .i64 v], .int .u64 (x : Nat)] w fun e w' => e = .returned (.bool true) ∧ Below w.heap.size w w' := by
  have G0 : Hid _ := ((Below.refl w.heap.size w).alloc (Nat.le_refl _) (.cells #[.int .i64 c, .int .i64 v] 38)).alloc (by simp) (.cells #[.int .i64 c, .int .i64 v] 38)
  have E0 : Hid _ := hE.later G0.out
  clear hE
  have P0 : Hid _ := (Below.refl (w.alloc (.cells #[.int .i64 c, .int .i64 v] 38)).heap.size (w.alloc (.cells #[.int .i64 c, .int .i64 v] 38))).alloc (by simp) (.cells #[.int .i64 c, .int .i64 v] 38)
  have P1 : Hid _ := Below.refl ((w.alloc (.cells #[.int .i64 c, .int .i64 v] 38)).alloc (.cells #[.int .i64 c, .int .i64 v] 38)).heap.size ((w.alloc (.cells #[.int .i64 c, .int .i64 v] 38)).alloc (.cells #[.int .i64 c, .int .i64 v] 38))
  go_enter Tryd.func5, Tryd.ntmps5
  go_wp2_with fail
  refine (spelled_any _ E0.out).mono ?_
  rintro e u1 ⟨rfl, hb⟩
  have G1 : Hid _ := G0.out.trans (hb.mono G0.out.size)
  have E1 : Hid _ := E0.out.later hb
  have P2 : Hid _ := P0.out.trans (hb.mono P0.out.size)
  have P3 : Hid _ := P1.out.trans (hb.mono P1.out.size)
  clear hb G0 E0 P0 P1
  have x1_0_0 := Below.bx P2.out 0 rfl
  have x1_0_1 := Below.bx P2.out 1 rfl
  have z1_0 := World.block_lt_of_cell? _ _ x1_0_0
  have x1_1_0 : u1.cell? ⟨w.heap.size + 1, 0, none⟩ = some (.int .i64 c) := by simpa using Below.bx P3.out 0 rfl
  have x1_1_1 : u1.cell? ⟨w.heap.size + 1, 1, none⟩ = some (.int .i64 v) := by simpa using Below.bx P3.out 1 rfl
  have z1_1 := World.block_lt_of_cell? _ _ x1_1_0
  go_wp2_with fail
  refine (Fits_yes ha _).mono ?_
  rintro e u2 ⟨rfl, hb⟩
  have hb := hb.below
  have G2 : Hid _ := G1.out.trans (hb.mono G1.out.size)
  have E2 : Hid _ := E1.out.later hb
  clear x1_0_0 x1_0_1 z1_0 x1_1_0 x1_1_1 z1_1
  have P4 : Hid _ := P2.out.trans (hb.mono P2.out.size)
  have P5 : Hid _ := P3.out.trans (hb.mono P3.out.size)
  clear hb G1 E1 P2 P3
  have x2_0_0 := Below.bx P4.out 0 rfl
  have x2_0_1 := Below.bx P4.out 1 rfl
  have z2_0 := World.block_lt_of_cell? _ _ x2_0_0
  have x2_1_0 : u2.cell? ⟨w.heap.size + 1, 0, none⟩ = some (.int .i64 c) := by simpa using Below.bx P5.out 0 rfl
  have x2_1_1 : u2.cell? ⟨w.heap.size + 1, 1, none⟩ = some (.int .i64 v) := by simpa using Below.bx P5.out 1 rfl
  have z2_1 := World.block_lt_of_cell? _ _ x2_1_0
  go_wp2_with fail
  refine (Answer_yes ha _).mono ?_
  rintro e u3 ⟨rfl, hb⟩
  have hb := hb.below
  have G3 : Hid _ := G2.out.trans (hb.mono G2.out.size)
  have E3 : Hid _ := E2.out.later hb
  clear x2_0_0 x2_0_1 z2_0 x2_1_0 x2_1_1 z2_1
  have P6 : Hid _ := P4.out.trans (hb.mono P4.out.size)
  have P7 : Hid _ := P5.out.trans (hb.mono P5.out.size)
  clear hb G2 E2 P4 P5
  have x3_0_0 := Below.bx P6.out 0 rfl
  have x3_0_1 := Below.bx P6.out 1 rfl
  have z3_0 := World.block_lt_of_cell? _ _ x3_0_0
  have x3_1_0 : u3.cell? ⟨w.heap.size + 1, 0, none⟩ = some (.int .i64 c) := by simpa using Below.bx P7.out 0 rfl
  have x3_1_1 : u3.cell? ⟨w.heap.size + 1, 1, none⟩ = some (.int .i64 v) := by simpa using Below.bx P7.out 1 rfl
  have z3_1 := World.block_lt_of_cell? _ _ x3_1_0
  go_wp2_with fail
  refine (Told_yes ha _).mono ?_
  rintro e u4 ⟨rfl, hb⟩
  have hb := hb.below
  have G4 : Hid _ := G3.out.trans (hb.mono G3.out.size)
  have E4 : Hid _ := E3.out.later hb
  clear x3_0_0 x3_0_1 z3_0 x3_1_0 x3_1_1 z3_1
  have P8 : Hid _ := P6.out.trans (hb.mono P6.out.size)
  have P9 : Hid _ := P7.out.trans (hb.mono P7.out.size)
  clear hb G3 E3 P6 P7
  have x4_0_0 := Below.bx P8.out 0 rfl
  have x4_0_1 := Below.bx P8.out 1 rfl
  have z4_0 := World.block_lt_of_cell? _ _ x4_0_0
  have x4_1_0 : u4.cell? ⟨w.heap.size + 1, 0, none⟩ = some (.int .i64 c) := by simpa using Below.bx P9.out 0 rfl
  have x4_1_1 : u4.cell? ⟨w.heap.size + 1, 1, none⟩ = some (.int .i64 v) := by simpa using Below.bx P9.out 1 rfl
  have z4_1 := World.block_lt_of_cell? _ _ x4_1_0
  have G4L10 : Hid _ := G4.out.alloc G4.out.size (.cells #[.int .i64 c, .int .i64 v] 38)
  have E4L10 : Hid _ := E4.out.later ((Below.refl u4.heap.size u4).alloc (Nat.le_refl _) (.cells #[.int .i64 c, .int .i64 v] 38))
  have P10 : Hid _ := P8.out.alloc P8.out.size (.cells #[.int .i64 c, .int .i64 v] 38)
  have P11 : Hid _ := P9.out.alloc P9.out.size (.cells #[.int .i64 c, .int .i64 v] 38)
  clear G4 E4 P8 P9
  have P12 : Hid _ := Below.refl (u4.alloc (.cells #[.int .i64 c, .int .i64 v] 38)).heap.size (u4.alloc (.cells #[.int .i64 c, .int .i64 v] 38))
  go_wp2_with fail
  refine (Told_no x hx hw _).mono ?_
  rintro e u5 ⟨rfl, hb⟩
  have hb := hb.below
  have G5 : Hid _ := G4L10.out.trans (hb.mono G4L10.out.size)
  have E5 : Hid _ := E4L10.out.later hb
  clear x4_0_0 x4_0_1 z4_0 x4_1_0 x4_1_1 z4_1
  have P13 : Hid _ := P10.out.trans (hb.mono P10.out.size)
  have P14 : Hid _ := P11.out.trans (hb.mono P11.out.size)
  have P15 : Hid _ := P12.out.trans (hb.mono P12.out.size)
  clear hb G4L10 E4L10 P10 P11 P12
  have x5_0_0 := Below.bx P13.out 0 rfl
  have x5_0_1 := Below.bx P13.out 1 rfl
  have z5_0 := World.block_lt_of_cell? _ _ x5_0_0
  have x5_1_0 : u5.cell? ⟨w.heap.size + 1, 0, none⟩ = some (.int .i64 c) := by simpa using Below.bx P14.out 0 rfl
  have x5_1_1 : u5.cell? ⟨w.heap.size + 1, 1, none⟩ = some (.int .i64 v) := by simpa using Below.bx P14.out 1 rfl
  have z5_1 := World.block_lt_of_cell? _ _ x5_1_0
  have x5_2_0 := Below.bx P15.out 0 rfl
  have x5_2_1 := Below.bx P15.out 1 rfl
  have z5_2 := World.block_lt_of_cell? _ _ x5_2_0
  have G5L16 : Hid _ := G5.out.alloc G5.out.size (.cells #[.int .i64 0, .int .i64 0] 38)
  have E5L16 : Hid _ := E5.out.later ((Below.refl u5.heap.size u5).alloc (Nat.le_refl _) (.cells #[.int .i64 0, .int .i64 0] 38))
  have P16 : Hid _ := P13.out.alloc P13.out.size (.cells #[.int .i64 0, .int .i64 0] 38)
  have P17 : Hid _ := P14.out.alloc P14.out.size (.cells #[.int .i64 0, .int .i64 0] 38)
  have P18 : Hid _ := P15.out.alloc P15.out.size (.cells #[.int .i64 0, .int .i64 0] 38)
  clear G5 E5 P13 P14 P15
  have P19 : Hid _ := Below.refl (u5.alloc (.cells #[.int .i64 0, .int .i64 0] 38)).heap.size (u5.alloc (.cells #[.int .i64 0, .int .i64 0] 38))
  go_wp2_with fail
  have k00 : (u5.alloc (.cells #[.int .i64 0, .int .i64 0] 38)).cell? ⟨w.heap.size, 0, none⟩ = some (.int .i64 c) := by simpa using Below.bx P16.out 0 rfl
  have k01 : (u5.alloc (.cells #[.int .i64 0, .int .i64 0] 38)).cell? ⟨w.heap.size, 1, none⟩ = some (.int .i64 v) := by simpa using Below.bx P16.out 1 rfl
  have k10 : (u5.alloc (.cells #[.int .i64 0, .int .i64 0] 38)).cell? ⟨w.heap.size + 1, 0, none⟩ = some (.int .i64 c) := by simpa using Below.bx P17.out 0 rfl
  have k11 : (u5.alloc (.cells #[.int .i64 0, .int .i64 0] 38)).cell? ⟨w.heap.size + 1, 1, none⟩ = some (.int .i64 v) := by simpa using Below.bx P17.out 1 rfl
  clear x5_0_0 x5_0_1 z5_0 x5_1_0 x5_1_1 z5_1 x5_2_0 x5_2_1 z5_2
  clear P16 P17 P18 P19
  generalize hWW : (u5.alloc (.cells #[.int .i64 0, .int .i64 0] 38)) = W at *
  clear hWW
  generalize hm : w.heap.size = m at *
  have HM : Hid _ := hm
  clear hm
  go_region_held3 (fun w' => w'.cell? ⟨m, 0, none⟩ = some (.int .i64 c) ∧ w'.cell? ⟨m, 1, none⟩ = some (.int .i64 v) ∧ w'.cell? ⟨m + 1, 0, none⟩ = some (.int .i64 c) ∧ w'.cell? ⟨m + 1, 1, none⟩ = some (.int .i64 v) ∧ Ec w' ∧ Below W.heap.size W w')
    (first | assumption | exact ⟨k00, k01, k10, k11, E5L16.out.later (Below.refl _ _).drew, (Below.refl _ _).drew⟩ | exact ab_keep (by assumption) (by assumption))
    (first | (go_at_call_of 13 (Value.agg #[Value.int IntKind.i64 c, Value.int IntKind.i64 v]); refine (Fits_yes ha _).mono ?_; rintro e wz ⟨rfl, hz⟩; have hb := hz.below; clear hz) | (go_at_call_of 16 (Value.agg #[Value.int IntKind.i64 c, Value.int IntKind.i64 v]); refine (Say_yes ha _ (ab_ec (by assumption)).en.pw (ab_ec (by assumption)).cd).mono ?_; rintro e wz ⟨rfl, hb⟩))
  all_goals
    have HB : Hid _ := ab_bl (by assumption)
    go_wp2
    go_ret
    refine ⟨rfl, ?_⟩
    rw [HM.out]
    exact G5L16.out.trans (HB.out.mono (HM.out ▸ G5L16.out.size))

set_option maxHeartbeats 4000000 in
theorem ab102 {c v : Nat} {r : Nat} (x : Nat) (hx : x < 18446744073709551616) (w : World) (hE : Ec w) (ha : Ft c v) (hB : Ft c r) (hw : NoAns x) (n2 : (say c v == say c r) = false) (n3 : ¬ ((v : Int) = (r : Int))) :
    Calls Tryd.prog 5 #[.agg #[.int .i64 c, .int .i64 v], .agg #[.int .i64 c, .int .i64 r], .int .u64 (x : Nat)] w fun e w' => e = .returned (.bool true) ∧ Below w.heap.size w w' := by
  have G0 : Hid _ := ((Below.refl w.heap.size w).alloc (Nat.le_refl _) (.cells #[.int .i64 c, .int .i64 v] 38)).alloc (by simp) (.cells #[.int .i64 c, .int .i64 r] 38)
  have E0 : Hid _ := hE.later G0.out
  clear hE
  have P0 : Hid _ := (Below.refl (w.alloc (.cells #[.int .i64 c, .int .i64 v] 38)).heap.size (w.alloc (.cells #[.int .i64 c, .int .i64 v] 38))).alloc (by simp) (.cells #[.int .i64 c, .int .i64 r] 38)
  have P1 : Hid _ := Below.refl ((w.alloc (.cells #[.int .i64 c, .int .i64 v] 38)).alloc (.cells #[.int .i64 c, .int .i64 r] 38)).heap.size ((w.alloc (.cells #[.int .i64 c, .int .i64 v] 38)).alloc (.cells #[.int .i64 c, .int .i64 r] 38))
  go_enter Tryd.func5, Tryd.ntmps5
  go_wp2_with fail
  refine (spelled_any _ E0.out).mono ?_
  rintro e u1 ⟨rfl, hb⟩
  have G1 : Hid _ := G0.out.trans (hb.mono G0.out.size)
  have E1 : Hid _ := E0.out.later hb
  have P2 : Hid _ := P0.out.trans (hb.mono P0.out.size)
  have P3 : Hid _ := P1.out.trans (hb.mono P1.out.size)
  clear hb G0 E0 P0 P1
  have x1_0_0 := Below.bx P2.out 0 rfl
  have x1_0_1 := Below.bx P2.out 1 rfl
  have z1_0 := World.block_lt_of_cell? _ _ x1_0_0
  have x1_1_0 : u1.cell? ⟨w.heap.size + 1, 0, none⟩ = some (.int .i64 c) := by simpa using Below.bx P3.out 0 rfl
  have x1_1_1 : u1.cell? ⟨w.heap.size + 1, 1, none⟩ = some (.int .i64 r) := by simpa using Below.bx P3.out 1 rfl
  have z1_1 := World.block_lt_of_cell? _ _ x1_1_0
  go_wp2_with fail
  refine (Fits_yes ha _).mono ?_
  rintro e u2 ⟨rfl, hb⟩
  have hb := hb.below
  have G2 : Hid _ := G1.out.trans (hb.mono G1.out.size)
  have E2 : Hid _ := E1.out.later hb
  clear x1_0_0 x1_0_1 z1_0 x1_1_0 x1_1_1 z1_1
  have P4 : Hid _ := P2.out.trans (hb.mono P2.out.size)
  have P5 : Hid _ := P3.out.trans (hb.mono P3.out.size)
  clear hb G1 E1 P2 P3
  have x2_0_0 := Below.bx P4.out 0 rfl
  have x2_0_1 := Below.bx P4.out 1 rfl
  have z2_0 := World.block_lt_of_cell? _ _ x2_0_0
  have x2_1_0 : u2.cell? ⟨w.heap.size + 1, 0, none⟩ = some (.int .i64 c) := by simpa using Below.bx P5.out 0 rfl
  have x2_1_1 : u2.cell? ⟨w.heap.size + 1, 1, none⟩ = some (.int .i64 r) := by simpa using Below.bx P5.out 1 rfl
  have z2_1 := World.block_lt_of_cell? _ _ x2_1_0
  go_wp2_with fail
  refine (Answer_yes ha _).mono ?_
  rintro e u3 ⟨rfl, hb⟩
  have hb := hb.below
  have G3 : Hid _ := G2.out.trans (hb.mono G2.out.size)
  have E3 : Hid _ := E2.out.later hb
  clear x2_0_0 x2_0_1 z2_0 x2_1_0 x2_1_1 z2_1
  have P6 : Hid _ := P4.out.trans (hb.mono P4.out.size)
  have P7 : Hid _ := P5.out.trans (hb.mono P5.out.size)
  clear hb G2 E2 P4 P5
  have x3_0_0 := Below.bx P6.out 0 rfl
  have x3_0_1 := Below.bx P6.out 1 rfl
  have z3_0 := World.block_lt_of_cell? _ _ x3_0_0
  have x3_1_0 : u3.cell? ⟨w.heap.size + 1, 0, none⟩ = some (.int .i64 c) := by simpa using Below.bx P7.out 0 rfl
  have x3_1_1 : u3.cell? ⟨w.heap.size + 1, 1, none⟩ = some (.int .i64 r) := by simpa using Below.bx P7.out 1 rfl
  have z3_1 := World.block_lt_of_cell? _ _ x3_1_0
  go_wp2_with fail
  refine (Told_yes ha _).mono ?_
  rintro e u4 ⟨rfl, hb⟩
  have hb := hb.below
  have G4 : Hid _ := G3.out.trans (hb.mono G3.out.size)
  have E4 : Hid _ := E3.out.later hb
  clear x3_0_0 x3_0_1 z3_0 x3_1_0 x3_1_1 z3_1
  have P8 : Hid _ := P6.out.trans (hb.mono P6.out.size)
  have P9 : Hid _ := P7.out.trans (hb.mono P7.out.size)
  clear hb G3 E3 P6 P7
  have x4_0_0 := Below.bx P8.out 0 rfl
  have x4_0_1 := Below.bx P8.out 1 rfl
  have z4_0 := World.block_lt_of_cell? _ _ x4_0_0
  have x4_1_0 : u4.cell? ⟨w.heap.size + 1, 0, none⟩ = some (.int .i64 c) := by simpa using Below.bx P9.out 0 rfl
  have x4_1_1 : u4.cell? ⟨w.heap.size + 1, 1, none⟩ = some (.int .i64 r) := by simpa using Below.bx P9.out 1 rfl
  have z4_1 := World.block_lt_of_cell? _ _ x4_1_0
  have G4L10 : Hid _ := G4.out.alloc G4.out.size (.cells #[.int .i64 c, .int .i64 v] 38)
  have E4L10 : Hid _ := E4.out.later ((Below.refl u4.heap.size u4).alloc (Nat.le_refl _) (.cells #[.int .i64 c, .int .i64 v] 38))
  have P10 : Hid _ := P8.out.alloc P8.out.size (.cells #[.int .i64 c, .int .i64 v] 38)
  have P11 : Hid _ := P9.out.alloc P9.out.size (.cells #[.int .i64 c, .int .i64 v] 38)
  clear G4 E4 P8 P9
  have P12 : Hid _ := Below.refl (u4.alloc (.cells #[.int .i64 c, .int .i64 v] 38)).heap.size (u4.alloc (.cells #[.int .i64 c, .int .i64 v] 38))
  go_wp2_with fail
  refine (Told_no x hx hw _).mono ?_
  rintro e u5 ⟨rfl, hb⟩
  have hb := hb.below
  have G5 : Hid _ := G4L10.out.trans (hb.mono G4L10.out.size)
  have E5 : Hid _ := E4L10.out.later hb
  clear x4_0_0 x4_0_1 z4_0 x4_1_0 x4_1_1 z4_1
  have P13 : Hid _ := P10.out.trans (hb.mono P10.out.size)
  have P14 : Hid _ := P11.out.trans (hb.mono P11.out.size)
  have P15 : Hid _ := P12.out.trans (hb.mono P12.out.size)
  clear hb G4L10 E4L10 P10 P11 P12
  have x5_0_0 := Below.bx P13.out 0 rfl
  have x5_0_1 := Below.bx P13.out 1 rfl
  have z5_0 := World.block_lt_of_cell? _ _ x5_0_0
  have x5_1_0 : u5.cell? ⟨w.heap.size + 1, 0, none⟩ = some (.int .i64 c) := by simpa using Below.bx P14.out 0 rfl
  have x5_1_1 : u5.cell? ⟨w.heap.size + 1, 1, none⟩ = some (.int .i64 r) := by simpa using Below.bx P14.out 1 rfl
  have z5_1 := World.block_lt_of_cell? _ _ x5_1_0
  have x5_2_0 := Below.bx P15.out 0 rfl
  have x5_2_1 := Below.bx P15.out 1 rfl
  have z5_2 := World.block_lt_of_cell? _ _ x5_2_0
  have G5L16 : Hid _ := G5.out.alloc G5.out.size (.cells #[.int .i64 0, .int .i64 0] 38)
  have E5L16 : Hid _ := E5.out.later ((Below.refl u5.heap.size u5).alloc (Nat.le_refl _) (.cells #[.int .i64 0, .int .i64 0] 38))
  have P16 : Hid _ := P13.out.alloc P13.out.size (.cells #[.int .i64 0, .int .i64 0] 38)
  have P17 : Hid _ := P14.out.alloc P14.out.size (.cells #[.int .i64 0, .int .i64 0] 38)
  have P18 : Hid _ := P15.out.alloc P15.out.size (.cells #[.int .i64 0, .int .i64 0] 38)
  clear G5 E5 P13 P14 P15
  have P19 : Hid _ := Below.refl (u5.alloc (.cells #[.int .i64 0, .int .i64 0] 38)).heap.size (u5.alloc (.cells #[.int .i64 0, .int .i64 0] 38))
  go_wp2_with fail
  have k00 : (u5.alloc (.cells #[.int .i64 0, .int .i64 0] 38)).cell? ⟨w.heap.size, 0, none⟩ = some (.int .i64 c) := by simpa using Below.bx P16.out 0 rfl
  have k01 : (u5.alloc (.cells #[.int .i64 0, .int .i64 0] 38)).cell? ⟨w.heap.size, 1, none⟩ = some (.int .i64 v) := by simpa using Below.bx P16.out 1 rfl
  have k10 : (u5.alloc (.cells #[.int .i64 0, .int .i64 0] 38)).cell? ⟨w.heap.size + 1, 0, none⟩ = some (.int .i64 c) := by simpa using Below.bx P17.out 0 rfl
  have k11 : (u5.alloc (.cells #[.int .i64 0, .int .i64 0] 38)).cell? ⟨w.heap.size + 1, 1, none⟩ = some (.int .i64 r) := by simpa using Below.bx P17.out 1 rfl
  clear x5_0_0 x5_0_1 z5_0 x5_1_0 x5_1_1 z5_1 x5_2_0 x5_2_1 z5_2
  clear P16 P17 P18 P19
  generalize hWW : (u5.alloc (.cells #[.int .i64 0, .int .i64 0] 38)) = W at *
  clear hWW
  generalize hm : w.heap.size = m at *
  have HM : Hid _ := hm
  clear hm
  go_region_held3 (fun w' => w'.cell? ⟨m, 0, none⟩ = some (.int .i64 c) ∧ w'.cell? ⟨m, 1, none⟩ = some (.int .i64 v) ∧ w'.cell? ⟨m + 1, 0, none⟩ = some (.int .i64 c) ∧ w'.cell? ⟨m + 1, 1, none⟩ = some (.int .i64 r) ∧ Ec w' ∧ Below W.heap.size W w')
    (first | assumption | exact ⟨k00, k01, k10, k11, E5L16.out.later (Below.refl _ _).drew, (Below.refl _ _).drew⟩ | exact ab_keep (by assumption) (by assumption))
    (first | (go_at_call_of 13 (Value.agg #[Value.int IntKind.i64 c, Value.int IntKind.i64 v]); refine (Fits_yes ha _).mono ?_; rintro e wz ⟨rfl, hz⟩; have hb := hz.below; clear hz) | (go_at_call 13; refine (Fits_yes hB _).mono ?_; rintro e wz ⟨rfl, hz⟩; have hb := hz.below; clear hz) | (go_at_call_of 16 (Value.agg #[Value.int IntKind.i64 c, Value.int IntKind.i64 v]); refine (Say_yes ha _ (ab_ec (by assumption)).en.pw (ab_ec (by assumption)).cd).mono ?_; rintro e wz ⟨rfl, hb⟩) | (go_at_call 16; refine (Say_yes hB _ (ab_ec (by assumption)).en.pw (ab_ec (by assumption)).cd).mono ?_; rintro e wz ⟨rfl, hb⟩))
  all_goals
    have HB : Hid _ := ab_bl (by assumption)
    go_wp2
    go_ret
    refine ⟨rfl, ?_⟩
    rw [HM.out]
    exact G5L16.out.trans (HB.out.mono (HM.out ▸ G5L16.out.size))

set_option maxHeartbeats 4000000 in
theorem ab103 {c v : Nat} {p r : Nat} (x : Nat) (hx : x < 18446744073709551616) (w : World) (hE : Ec w) (ha : Ft c v) (hB : Ft p r) (hw : NoAns x) (n2 : (say c v == say p r) = false) (n3 : ¬ ((c : Int) = (p : Int))) :
    Calls Tryd.prog 5 #[.agg #[.int .i64 c, .int .i64 v], .agg #[.int .i64 p, .int .i64 r], .int .u64 (x : Nat)] w fun e w' => e = .returned (.bool true) ∧ Below w.heap.size w w' := by
  have G0 : Hid _ := ((Below.refl w.heap.size w).alloc (Nat.le_refl _) (.cells #[.int .i64 c, .int .i64 v] 38)).alloc (by simp) (.cells #[.int .i64 p, .int .i64 r] 38)
  have E0 : Hid _ := hE.later G0.out
  clear hE
  have P0 : Hid _ := (Below.refl (w.alloc (.cells #[.int .i64 c, .int .i64 v] 38)).heap.size (w.alloc (.cells #[.int .i64 c, .int .i64 v] 38))).alloc (by simp) (.cells #[.int .i64 p, .int .i64 r] 38)
  have P1 : Hid _ := Below.refl ((w.alloc (.cells #[.int .i64 c, .int .i64 v] 38)).alloc (.cells #[.int .i64 p, .int .i64 r] 38)).heap.size ((w.alloc (.cells #[.int .i64 c, .int .i64 v] 38)).alloc (.cells #[.int .i64 p, .int .i64 r] 38))
  go_enter Tryd.func5, Tryd.ntmps5
  go_wp2_with fail
  refine (spelled_any _ E0.out).mono ?_
  rintro e u1 ⟨rfl, hb⟩
  have G1 : Hid _ := G0.out.trans (hb.mono G0.out.size)
  have E1 : Hid _ := E0.out.later hb
  have P2 : Hid _ := P0.out.trans (hb.mono P0.out.size)
  have P3 : Hid _ := P1.out.trans (hb.mono P1.out.size)
  clear hb G0 E0 P0 P1
  have x1_0_0 := Below.bx P2.out 0 rfl
  have x1_0_1 := Below.bx P2.out 1 rfl
  have z1_0 := World.block_lt_of_cell? _ _ x1_0_0
  have x1_1_0 : u1.cell? ⟨w.heap.size + 1, 0, none⟩ = some (.int .i64 p) := by simpa using Below.bx P3.out 0 rfl
  have x1_1_1 : u1.cell? ⟨w.heap.size + 1, 1, none⟩ = some (.int .i64 r) := by simpa using Below.bx P3.out 1 rfl
  have z1_1 := World.block_lt_of_cell? _ _ x1_1_0
  go_wp2_with fail
  refine (Fits_yes ha _).mono ?_
  rintro e u2 ⟨rfl, hb⟩
  have hb := hb.below
  have G2 : Hid _ := G1.out.trans (hb.mono G1.out.size)
  have E2 : Hid _ := E1.out.later hb
  clear x1_0_0 x1_0_1 z1_0 x1_1_0 x1_1_1 z1_1
  have P4 : Hid _ := P2.out.trans (hb.mono P2.out.size)
  have P5 : Hid _ := P3.out.trans (hb.mono P3.out.size)
  clear hb G1 E1 P2 P3
  have x2_0_0 := Below.bx P4.out 0 rfl
  have x2_0_1 := Below.bx P4.out 1 rfl
  have z2_0 := World.block_lt_of_cell? _ _ x2_0_0
  have x2_1_0 : u2.cell? ⟨w.heap.size + 1, 0, none⟩ = some (.int .i64 p) := by simpa using Below.bx P5.out 0 rfl
  have x2_1_1 : u2.cell? ⟨w.heap.size + 1, 1, none⟩ = some (.int .i64 r) := by simpa using Below.bx P5.out 1 rfl
  have z2_1 := World.block_lt_of_cell? _ _ x2_1_0
  go_wp2_with fail
  refine (Answer_yes ha _).mono ?_
  rintro e u3 ⟨rfl, hb⟩
  have hb := hb.below
  have G3 : Hid _ := G2.out.trans (hb.mono G2.out.size)
  have E3 : Hid _ := E2.out.later hb
  clear x2_0_0 x2_0_1 z2_0 x2_1_0 x2_1_1 z2_1
  have P6 : Hid _ := P4.out.trans (hb.mono P4.out.size)
  have P7 : Hid _ := P5.out.trans (hb.mono P5.out.size)
  clear hb G2 E2 P4 P5
  have x3_0_0 := Below.bx P6.out 0 rfl
  have x3_0_1 := Below.bx P6.out 1 rfl
  have z3_0 := World.block_lt_of_cell? _ _ x3_0_0
  have x3_1_0 : u3.cell? ⟨w.heap.size + 1, 0, none⟩ = some (.int .i64 p) := by simpa using Below.bx P7.out 0 rfl
  have x3_1_1 : u3.cell? ⟨w.heap.size + 1, 1, none⟩ = some (.int .i64 r) := by simpa using Below.bx P7.out 1 rfl
  have z3_1 := World.block_lt_of_cell? _ _ x3_1_0
  go_wp2_with fail
  refine (Told_yes ha _).mono ?_
  rintro e u4 ⟨rfl, hb⟩
  have hb := hb.below
  have G4 : Hid _ := G3.out.trans (hb.mono G3.out.size)
  have E4 : Hid _ := E3.out.later hb
  clear x3_0_0 x3_0_1 z3_0 x3_1_0 x3_1_1 z3_1
  have P8 : Hid _ := P6.out.trans (hb.mono P6.out.size)
  have P9 : Hid _ := P7.out.trans (hb.mono P7.out.size)
  clear hb G3 E3 P6 P7
  have x4_0_0 := Below.bx P8.out 0 rfl
  have x4_0_1 := Below.bx P8.out 1 rfl
  have z4_0 := World.block_lt_of_cell? _ _ x4_0_0
  have x4_1_0 : u4.cell? ⟨w.heap.size + 1, 0, none⟩ = some (.int .i64 p) := by simpa using Below.bx P9.out 0 rfl
  have x4_1_1 : u4.cell? ⟨w.heap.size + 1, 1, none⟩ = some (.int .i64 r) := by simpa using Below.bx P9.out 1 rfl
  have z4_1 := World.block_lt_of_cell? _ _ x4_1_0
  have G4L10 : Hid _ := G4.out.alloc G4.out.size (.cells #[.int .i64 c, .int .i64 v] 38)
  have E4L10 : Hid _ := E4.out.later ((Below.refl u4.heap.size u4).alloc (Nat.le_refl _) (.cells #[.int .i64 c, .int .i64 v] 38))
  have P10 : Hid _ := P8.out.alloc P8.out.size (.cells #[.int .i64 c, .int .i64 v] 38)
  have P11 : Hid _ := P9.out.alloc P9.out.size (.cells #[.int .i64 c, .int .i64 v] 38)
  clear G4 E4 P8 P9
  have P12 : Hid _ := Below.refl (u4.alloc (.cells #[.int .i64 c, .int .i64 v] 38)).heap.size (u4.alloc (.cells #[.int .i64 c, .int .i64 v] 38))
  go_wp2_with fail
  refine (Told_no x hx hw _).mono ?_
  rintro e u5 ⟨rfl, hb⟩
  have hb := hb.below
  have G5 : Hid _ := G4L10.out.trans (hb.mono G4L10.out.size)
  have E5 : Hid _ := E4L10.out.later hb
  clear x4_0_0 x4_0_1 z4_0 x4_1_0 x4_1_1 z4_1
  have P13 : Hid _ := P10.out.trans (hb.mono P10.out.size)
  have P14 : Hid _ := P11.out.trans (hb.mono P11.out.size)
  have P15 : Hid _ := P12.out.trans (hb.mono P12.out.size)
  clear hb G4L10 E4L10 P10 P11 P12
  have x5_0_0 := Below.bx P13.out 0 rfl
  have x5_0_1 := Below.bx P13.out 1 rfl
  have z5_0 := World.block_lt_of_cell? _ _ x5_0_0
  have x5_1_0 : u5.cell? ⟨w.heap.size + 1, 0, none⟩ = some (.int .i64 p) := by simpa using Below.bx P14.out 0 rfl
  have x5_1_1 : u5.cell? ⟨w.heap.size + 1, 1, none⟩ = some (.int .i64 r) := by simpa using Below.bx P14.out 1 rfl
  have z5_1 := World.block_lt_of_cell? _ _ x5_1_0
  have x5_2_0 := Below.bx P15.out 0 rfl
  have x5_2_1 := Below.bx P15.out 1 rfl
  have z5_2 := World.block_lt_of_cell? _ _ x5_2_0
  have G5L16 : Hid _ := G5.out.alloc G5.out.size (.cells #[.int .i64 0, .int .i64 0] 38)
  have E5L16 : Hid _ := E5.out.later ((Below.refl u5.heap.size u5).alloc (Nat.le_refl _) (.cells #[.int .i64 0, .int .i64 0] 38))
  have P16 : Hid _ := P13.out.alloc P13.out.size (.cells #[.int .i64 0, .int .i64 0] 38)
  have P17 : Hid _ := P14.out.alloc P14.out.size (.cells #[.int .i64 0, .int .i64 0] 38)
  have P18 : Hid _ := P15.out.alloc P15.out.size (.cells #[.int .i64 0, .int .i64 0] 38)
  clear G5 E5 P13 P14 P15
  have P19 : Hid _ := Below.refl (u5.alloc (.cells #[.int .i64 0, .int .i64 0] 38)).heap.size (u5.alloc (.cells #[.int .i64 0, .int .i64 0] 38))
  go_wp2_with fail
  have k00 : (u5.alloc (.cells #[.int .i64 0, .int .i64 0] 38)).cell? ⟨w.heap.size, 0, none⟩ = some (.int .i64 c) := by simpa using Below.bx P16.out 0 rfl
  have k01 : (u5.alloc (.cells #[.int .i64 0, .int .i64 0] 38)).cell? ⟨w.heap.size, 1, none⟩ = some (.int .i64 v) := by simpa using Below.bx P16.out 1 rfl
  have k10 : (u5.alloc (.cells #[.int .i64 0, .int .i64 0] 38)).cell? ⟨w.heap.size + 1, 0, none⟩ = some (.int .i64 p) := by simpa using Below.bx P17.out 0 rfl
  have k11 : (u5.alloc (.cells #[.int .i64 0, .int .i64 0] 38)).cell? ⟨w.heap.size + 1, 1, none⟩ = some (.int .i64 r) := by simpa using Below.bx P17.out 1 rfl
  clear x5_0_0 x5_0_1 z5_0 x5_1_0 x5_1_1 z5_1 x5_2_0 x5_2_1 z5_2
  clear P16 P17 P18 P19
  generalize hWW : (u5.alloc (.cells #[.int .i64 0, .int .i64 0] 38)) = W at *
  clear hWW
  generalize hm : w.heap.size = m at *
  have HM : Hid _ := hm
  clear hm
  go_region_held3 (fun w' => w'.cell? ⟨m, 0, none⟩ = some (.int .i64 c) ∧ w'.cell? ⟨m, 1, none⟩ = some (.int .i64 v) ∧ w'.cell? ⟨m + 1, 0, none⟩ = some (.int .i64 p) ∧ w'.cell? ⟨m + 1, 1, none⟩ = some (.int .i64 r) ∧ Ec w' ∧ Below W.heap.size W w')
    (first | assumption | exact ⟨k00, k01, k10, k11, E5L16.out.later (Below.refl _ _).drew, (Below.refl _ _).drew⟩ | exact ab_keep (by assumption) (by assumption))
    (first | (go_at_call_of 13 (Value.agg #[Value.int IntKind.i64 c, Value.int IntKind.i64 v]); refine (Fits_yes ha _).mono ?_; rintro e wz ⟨rfl, hz⟩; have hb := hz.below; clear hz) | (go_at_call 13; refine (Fits_yes hB _).mono ?_; rintro e wz ⟨rfl, hz⟩; have hb := hz.below; clear hz) | (go_at_call_of 16 (Value.agg #[Value.int IntKind.i64 c, Value.int IntKind.i64 v]); refine (Say_yes ha _ (ab_ec (by assumption)).en.pw (ab_ec (by assumption)).cd).mono ?_; rintro e wz ⟨rfl, hb⟩) | (go_at_call 16; refine (Say_yes hB _ (ab_ec (by assumption)).en.pw (ab_ec (by assumption)).cd).mono ?_; rintro e wz ⟨rfl, hb⟩))
  all_goals
    have HB : Hid _ := ab_bl (by assumption)
    go_wp2
    go_ret
    refine ⟨rfl, ?_⟩
    rw [HM.out]
    exact G5L16.out.trans (HB.out.mono (HM.out ▸ G5L16.out.size))

set_option maxHeartbeats 4000000 in
theorem ab111 {c v : Nat} {y z : Nat} (w : World) (hE : Ec w) (ha : Ft c v) (hB : Ft c v) (hw : Ft y z) :
    Calls Tryd.prog 5 #[.agg #[.int .i64 c, .int .i64 v], .agg #[.int .i64 c, .int .i64 v], .int .u64 (ansN y z : Nat)] w fun e w' => e = .returned (.bool true) ∧ Below w.heap.size w w' := by
  have G0 : Hid _ := ((Below.refl w.heap.size w).alloc (Nat.le_refl _) (.cells #[.int .i64 c, .int .i64 v] 38)).alloc (by simp) (.cells #[.int .i64 c, .int .i64 v] 38)
  have E0 : Hid _ := hE.later G0.out
  clear hE
  have P0 : Hid _ := (Below.refl (w.alloc (.cells #[.int .i64 c, .int .i64 v] 38)).heap.size (w.alloc (.cells #[.int .i64 c, .int .i64 v] 38))).alloc (by simp) (.cells #[.int .i64 c, .int .i64 v] 38)
  have P1 : Hid _ := Below.refl ((w.alloc (.cells #[.int .i64 c, .int .i64 v] 38)).alloc (.cells #[.int .i64 c, .int .i64 v] 38)).heap.size ((w.alloc (.cells #[.int .i64 c, .int .i64 v] 38)).alloc (.cells #[.int .i64 c, .int .i64 v] 38))
  go_enter Tryd.func5, Tryd.ntmps5
  go_wp2_with fail
  refine (spelled_any _ E0.out).mono ?_
  rintro e u1 ⟨rfl, hb⟩
  have G1 : Hid _ := G0.out.trans (hb.mono G0.out.size)
  have E1 : Hid _ := E0.out.later hb
  have P2 : Hid _ := P0.out.trans (hb.mono P0.out.size)
  have P3 : Hid _ := P1.out.trans (hb.mono P1.out.size)
  clear hb G0 E0 P0 P1
  have x1_0_0 := Below.bx P2.out 0 rfl
  have x1_0_1 := Below.bx P2.out 1 rfl
  have z1_0 := World.block_lt_of_cell? _ _ x1_0_0
  have x1_1_0 : u1.cell? ⟨w.heap.size + 1, 0, none⟩ = some (.int .i64 c) := by simpa using Below.bx P3.out 0 rfl
  have x1_1_1 : u1.cell? ⟨w.heap.size + 1, 1, none⟩ = some (.int .i64 v) := by simpa using Below.bx P3.out 1 rfl
  have z1_1 := World.block_lt_of_cell? _ _ x1_1_0
  go_wp2_with fail
  refine (Fits_yes ha _).mono ?_
  rintro e u2 ⟨rfl, hb⟩
  have hb := hb.below
  have G2 : Hid _ := G1.out.trans (hb.mono G1.out.size)
  have E2 : Hid _ := E1.out.later hb
  clear x1_0_0 x1_0_1 z1_0 x1_1_0 x1_1_1 z1_1
  have P4 : Hid _ := P2.out.trans (hb.mono P2.out.size)
  have P5 : Hid _ := P3.out.trans (hb.mono P3.out.size)
  clear hb G1 E1 P2 P3
  have x2_0_0 := Below.bx P4.out 0 rfl
  have x2_0_1 := Below.bx P4.out 1 rfl
  have z2_0 := World.block_lt_of_cell? _ _ x2_0_0
  have x2_1_0 : u2.cell? ⟨w.heap.size + 1, 0, none⟩ = some (.int .i64 c) := by simpa using Below.bx P5.out 0 rfl
  have x2_1_1 : u2.cell? ⟨w.heap.size + 1, 1, none⟩ = some (.int .i64 v) := by simpa using Below.bx P5.out 1 rfl
  have z2_1 := World.block_lt_of_cell? _ _ x2_1_0
  go_wp2_with fail
  refine (Answer_yes ha _).mono ?_
  rintro e u3 ⟨rfl, hb⟩
  have hb := hb.below
  have G3 : Hid _ := G2.out.trans (hb.mono G2.out.size)
  have E3 : Hid _ := E2.out.later hb
  clear x2_0_0 x2_0_1 z2_0 x2_1_0 x2_1_1 z2_1
  have P6 : Hid _ := P4.out.trans (hb.mono P4.out.size)
  have P7 : Hid _ := P5.out.trans (hb.mono P5.out.size)
  clear hb G2 E2 P4 P5
  have x3_0_0 := Below.bx P6.out 0 rfl
  have x3_0_1 := Below.bx P6.out 1 rfl
  have z3_0 := World.block_lt_of_cell? _ _ x3_0_0
  have x3_1_0 : u3.cell? ⟨w.heap.size + 1, 0, none⟩ = some (.int .i64 c) := by simpa using Below.bx P7.out 0 rfl
  have x3_1_1 : u3.cell? ⟨w.heap.size + 1, 1, none⟩ = some (.int .i64 v) := by simpa using Below.bx P7.out 1 rfl
  have z3_1 := World.block_lt_of_cell? _ _ x3_1_0
  go_wp2_with fail
  refine (Told_yes ha _).mono ?_
  rintro e u4 ⟨rfl, hb⟩
  have hb := hb.below
  have G4 : Hid _ := G3.out.trans (hb.mono G3.out.size)
  have E4 : Hid _ := E3.out.later hb
  clear x3_0_0 x3_0_1 z3_0 x3_1_0 x3_1_1 z3_1
  have P8 : Hid _ := P6.out.trans (hb.mono P6.out.size)
  have P9 : Hid _ := P7.out.trans (hb.mono P7.out.size)
  clear hb G3 E3 P6 P7
  have x4_0_0 := Below.bx P8.out 0 rfl
  have x4_0_1 := Below.bx P8.out 1 rfl
  have z4_0 := World.block_lt_of_cell? _ _ x4_0_0
  have x4_1_0 : u4.cell? ⟨w.heap.size + 1, 0, none⟩ = some (.int .i64 c) := by simpa using Below.bx P9.out 0 rfl
  have x4_1_1 : u4.cell? ⟨w.heap.size + 1, 1, none⟩ = some (.int .i64 v) := by simpa using Below.bx P9.out 1 rfl
  have z4_1 := World.block_lt_of_cell? _ _ x4_1_0
  have G4L10 : Hid _ := G4.out.alloc G4.out.size (.cells #[.int .i64 c, .int .i64 v] 38)
  have E4L10 : Hid _ := E4.out.later ((Below.refl u4.heap.size u4).alloc (Nat.le_refl _) (.cells #[.int .i64 c, .int .i64 v] 38))
  have P10 : Hid _ := P8.out.alloc P8.out.size (.cells #[.int .i64 c, .int .i64 v] 38)
  have P11 : Hid _ := P9.out.alloc P9.out.size (.cells #[.int .i64 c, .int .i64 v] 38)
  clear G4 E4 P8 P9
  have P12 : Hid _ := Below.refl (u4.alloc (.cells #[.int .i64 c, .int .i64 v] 38)).heap.size (u4.alloc (.cells #[.int .i64 c, .int .i64 v] 38))
  go_wp2_with fail
  refine (Told_yes hw _).mono ?_
  rintro e u5 ⟨rfl, hb⟩
  have hb := hb.below
  have G5 : Hid _ := G4L10.out.trans (hb.mono G4L10.out.size)
  have E5 : Hid _ := E4L10.out.later hb
  clear x4_0_0 x4_0_1 z4_0 x4_1_0 x4_1_1 z4_1
  have P13 : Hid _ := P10.out.trans (hb.mono P10.out.size)
  have P14 : Hid _ := P11.out.trans (hb.mono P11.out.size)
  have P15 : Hid _ := P12.out.trans (hb.mono P12.out.size)
  clear hb G4L10 E4L10 P10 P11 P12
  have x5_0_0 := Below.bx P13.out 0 rfl
  have x5_0_1 := Below.bx P13.out 1 rfl
  have z5_0 := World.block_lt_of_cell? _ _ x5_0_0
  have x5_1_0 : u5.cell? ⟨w.heap.size + 1, 0, none⟩ = some (.int .i64 c) := by simpa using Below.bx P14.out 0 rfl
  have x5_1_1 : u5.cell? ⟨w.heap.size + 1, 1, none⟩ = some (.int .i64 v) := by simpa using Below.bx P14.out 1 rfl
  have z5_1 := World.block_lt_of_cell? _ _ x5_1_0
  have x5_2_0 := Below.bx P15.out 0 rfl
  have x5_2_1 := Below.bx P15.out 1 rfl
  have z5_2 := World.block_lt_of_cell? _ _ x5_2_0
  have G5L16 : Hid _ := G5.out.alloc G5.out.size (.cells #[.int .i64 y, .int .i64 z] 38)
  have E5L16 : Hid _ := E5.out.later ((Below.refl u5.heap.size u5).alloc (Nat.le_refl _) (.cells #[.int .i64 y, .int .i64 z] 38))
  have P16 : Hid _ := P13.out.alloc P13.out.size (.cells #[.int .i64 y, .int .i64 z] 38)
  have P17 : Hid _ := P14.out.alloc P14.out.size (.cells #[.int .i64 y, .int .i64 z] 38)
  have P18 : Hid _ := P15.out.alloc P15.out.size (.cells #[.int .i64 y, .int .i64 z] 38)
  clear G5 E5 P13 P14 P15
  have P19 : Hid _ := Below.refl (u5.alloc (.cells #[.int .i64 y, .int .i64 z] 38)).heap.size (u5.alloc (.cells #[.int .i64 y, .int .i64 z] 38))
  go_wp2_with fail
  refine (Answer_yes hw _).mono ?_
  rintro e u6 ⟨rfl, hb⟩
  have hb := hb.below
  have G6 : Hid _ := G5L16.out.trans (hb.mono G5L16.out.size)
  have E6 : Hid _ := E5L16.out.later hb
  clear x5_0_0 x5_0_1 z5_0 x5_1_0 x5_1_1 z5_1 x5_2_0 x5_2_1 z5_2
  have P20 : Hid _ := P16.out.trans (hb.mono P16.out.size)
  have P21 : Hid _ := P17.out.trans (hb.mono P17.out.size)
  have P22 : Hid _ := P18.out.trans (hb.mono P18.out.size)
  have P23 : Hid _ := P19.out.trans (hb.mono P19.out.size)
  clear hb G5L16 E5L16 P16 P17 P18 P19
  have x6_0_0 := Below.bx P20.out 0 rfl
  have x6_0_1 := Below.bx P20.out 1 rfl
  have z6_0 := World.block_lt_of_cell? _ _ x6_0_0
  have x6_1_0 : u6.cell? ⟨w.heap.size + 1, 0, none⟩ = some (.int .i64 c) := by simpa using Below.bx P21.out 0 rfl
  have x6_1_1 : u6.cell? ⟨w.heap.size + 1, 1, none⟩ = some (.int .i64 v) := by simpa using Below.bx P21.out 1 rfl
  have z6_1 := World.block_lt_of_cell? _ _ x6_1_0
  have x6_2_0 := Below.bx P22.out 0 rfl
  have x6_2_1 := Below.bx P22.out 1 rfl
  have z6_2 := World.block_lt_of_cell? _ _ x6_2_0
  have x6_3_0 := Below.bx P23.out 0 rfl
  have x6_3_1 := Below.bx P23.out 1 rfl
  have z6_3 := World.block_lt_of_cell? _ _ x6_3_0
  go_wp2_with fail
  have k00 : u6.cell? ⟨w.heap.size, 0, none⟩ = some (.int .i64 c) := by simpa using Below.bx P20.out 0 rfl
  have k01 : u6.cell? ⟨w.heap.size, 1, none⟩ = some (.int .i64 v) := by simpa using Below.bx P20.out 1 rfl
  have k10 : u6.cell? ⟨w.heap.size + 1, 0, none⟩ = some (.int .i64 c) := by simpa using Below.bx P21.out 0 rfl
  have k11 : u6.cell? ⟨w.heap.size + 1, 1, none⟩ = some (.int .i64 v) := by simpa using Below.bx P21.out 1 rfl
  clear x6_0_0 x6_0_1 z6_0 x6_1_0 x6_1_1 z6_1 x6_2_0 x6_2_1 z6_2 x6_3_0 x6_3_1 z6_3
  clear P20 P21 P22 P23
  generalize hWW : u6 = W at *
  clear hWW
  generalize hm : w.heap.size = m at *
  have HM : Hid _ := hm
  clear hm
  go_region_held3 (fun w' => w'.cell? ⟨m, 0, none⟩ = some (.int .i64 c) ∧ w'.cell? ⟨m, 1, none⟩ = some (.int .i64 v) ∧ w'.cell? ⟨m + 1, 0, none⟩ = some (.int .i64 c) ∧ w'.cell? ⟨m + 1, 1, none⟩ = some (.int .i64 v) ∧ Ec w' ∧ Below W.heap.size W w')
    (first | assumption | exact ⟨k00, k01, k10, k11, E6.out.later (Below.refl _ _).drew, (Below.refl _ _).drew⟩ | exact ab_keep (by assumption) (by assumption))
    (first | (go_at_call_of 13 (Value.agg #[Value.int IntKind.i64 c, Value.int IntKind.i64 v]); refine (Fits_yes ha _).mono ?_; rintro e wz ⟨rfl, hz⟩; have hb := hz.below; clear hz) | (go_at_call_of 16 (Value.agg #[Value.int IntKind.i64 c, Value.int IntKind.i64 v]); refine (Say_yes ha _ (ab_ec (by assumption)).en.pw (ab_ec (by assumption)).cd).mono ?_; rintro e wz ⟨rfl, hb⟩))
  all_goals
    have HB : Hid _ := ab_bl (by assumption)
    go_wp2
    go_ret
    refine ⟨rfl, ?_⟩
    rw [HM.out]
    exact G6.out.trans (HB.out.mono (HM.out ▸ G6.out.size))

set_option maxHeartbeats 4000000 in
theorem ab112 {c v : Nat} {r : Nat} {y z : Nat} (w : World) (hE : Ec w) (ha : Ft c v) (hB : Ft c r) (hw : Ft y z) (n2 : (say c v == say c r) = false) (n3 : ¬ ((v : Int) = (r : Int))) :
    Calls Tryd.prog 5 #[.agg #[.int .i64 c, .int .i64 v], .agg #[.int .i64 c, .int .i64 r], .int .u64 (ansN y z : Nat)] w fun e w' => e = .returned (.bool true) ∧ Below w.heap.size w w' := by
  have G0 : Hid _ := ((Below.refl w.heap.size w).alloc (Nat.le_refl _) (.cells #[.int .i64 c, .int .i64 v] 38)).alloc (by simp) (.cells #[.int .i64 c, .int .i64 r] 38)
  have E0 : Hid _ := hE.later G0.out
  clear hE
  have P0 : Hid _ := (Below.refl (w.alloc (.cells #[.int .i64 c, .int .i64 v] 38)).heap.size (w.alloc (.cells #[.int .i64 c, .int .i64 v] 38))).alloc (by simp) (.cells #[.int .i64 c, .int .i64 r] 38)
  have P1 : Hid _ := Below.refl ((w.alloc (.cells #[.int .i64 c, .int .i64 v] 38)).alloc (.cells #[.int .i64 c, .int .i64 r] 38)).heap.size ((w.alloc (.cells #[.int .i64 c, .int .i64 v] 38)).alloc (.cells #[.int .i64 c, .int .i64 r] 38))
  go_enter Tryd.func5, Tryd.ntmps5
  go_wp2_with fail
  refine (spelled_any _ E0.out).mono ?_
  rintro e u1 ⟨rfl, hb⟩
  have G1 : Hid _ := G0.out.trans (hb.mono G0.out.size)
  have E1 : Hid _ := E0.out.later hb
  have P2 : Hid _ := P0.out.trans (hb.mono P0.out.size)
  have P3 : Hid _ := P1.out.trans (hb.mono P1.out.size)
  clear hb G0 E0 P0 P1
  have x1_0_0 := Below.bx P2.out 0 rfl
  have x1_0_1 := Below.bx P2.out 1 rfl
  have z1_0 := World.block_lt_of_cell? _ _ x1_0_0
  have x1_1_0 : u1.cell? ⟨w.heap.size + 1, 0, none⟩ = some (.int .i64 c) := by simpa using Below.bx P3.out 0 rfl
  have x1_1_1 : u1.cell? ⟨w.heap.size + 1, 1, none⟩ = some (.int .i64 r) := by simpa using Below.bx P3.out 1 rfl
  have z1_1 := World.block_lt_of_cell? _ _ x1_1_0
  go_wp2_with fail
  refine (Fits_yes ha _).mono ?_
  rintro e u2 ⟨rfl, hb⟩
  have hb := hb.below
  have G2 : Hid _ := G1.out.trans (hb.mono G1.out.size)
  have E2 : Hid _ := E1.out.later hb
  clear x1_0_0 x1_0_1 z1_0 x1_1_0 x1_1_1 z1_1
  have P4 : Hid _ := P2.out.trans (hb.mono P2.out.size)
  have P5 : Hid _ := P3.out.trans (hb.mono P3.out.size)
  clear hb G1 E1 P2 P3
  have x2_0_0 := Below.bx P4.out 0 rfl
  have x2_0_1 := Below.bx P4.out 1 rfl
  have z2_0 := World.block_lt_of_cell? _ _ x2_0_0
  have x2_1_0 : u2.cell? ⟨w.heap.size + 1, 0, none⟩ = some (.int .i64 c) := by simpa using Below.bx P5.out 0 rfl
  have x2_1_1 : u2.cell? ⟨w.heap.size + 1, 1, none⟩ = some (.int .i64 r) := by simpa using Below.bx P5.out 1 rfl
  have z2_1 := World.block_lt_of_cell? _ _ x2_1_0
  go_wp2_with fail
  refine (Answer_yes ha _).mono ?_
  rintro e u3 ⟨rfl, hb⟩
  have hb := hb.below
  have G3 : Hid _ := G2.out.trans (hb.mono G2.out.size)
  have E3 : Hid _ := E2.out.later hb
  clear x2_0_0 x2_0_1 z2_0 x2_1_0 x2_1_1 z2_1
  have P6 : Hid _ := P4.out.trans (hb.mono P4.out.size)
  have P7 : Hid _ := P5.out.trans (hb.mono P5.out.size)
  clear hb G2 E2 P4 P5
  have x3_0_0 := Below.bx P6.out 0 rfl
  have x3_0_1 := Below.bx P6.out 1 rfl
  have z3_0 := World.block_lt_of_cell? _ _ x3_0_0
  have x3_1_0 : u3.cell? ⟨w.heap.size + 1, 0, none⟩ = some (.int .i64 c) := by simpa using Below.bx P7.out 0 rfl
  have x3_1_1 : u3.cell? ⟨w.heap.size + 1, 1, none⟩ = some (.int .i64 r) := by simpa using Below.bx P7.out 1 rfl
  have z3_1 := World.block_lt_of_cell? _ _ x3_1_0
  go_wp2_with fail
  refine (Told_yes ha _).mono ?_
  rintro e u4 ⟨rfl, hb⟩
  have hb := hb.below
  have G4 : Hid _ := G3.out.trans (hb.mono G3.out.size)
  have E4 : Hid _ := E3.out.later hb
  clear x3_0_0 x3_0_1 z3_0 x3_1_0 x3_1_1 z3_1
  have P8 : Hid _ := P6.out.trans (hb.mono P6.out.size)
  have P9 : Hid _ := P7.out.trans (hb.mono P7.out.size)
  clear hb G3 E3 P6 P7
  have x4_0_0 := Below.bx P8.out 0 rfl
  have x4_0_1 := Below.bx P8.out 1 rfl
  have z4_0 := World.block_lt_of_cell? _ _ x4_0_0
  have x4_1_0 : u4.cell? ⟨w.heap.size + 1, 0, none⟩ = some (.int .i64 c) := by simpa using Below.bx P9.out 0 rfl
  have x4_1_1 : u4.cell? ⟨w.heap.size + 1, 1, none⟩ = some (.int .i64 r) := by simpa using Below.bx P9.out 1 rfl
  have z4_1 := World.block_lt_of_cell? _ _ x4_1_0
  have G4L10 : Hid _ := G4.out.alloc G4.out.size (.cells #[.int .i64 c, .int .i64 v] 38)
  have E4L10 : Hid _ := E4.out.later ((Below.refl u4.heap.size u4).alloc (Nat.le_refl _) (.cells #[.int .i64 c, .int .i64 v] 38))
  have P10 : Hid _ := P8.out.alloc P8.out.size (.cells #[.int .i64 c, .int .i64 v] 38)
  have P11 : Hid _ := P9.out.alloc P9.out.size (.cells #[.int .i64 c, .int .i64 v] 38)
  clear G4 E4 P8 P9
  have P12 : Hid _ := Below.refl (u4.alloc (.cells #[.int .i64 c, .int .i64 v] 38)).heap.size (u4.alloc (.cells #[.int .i64 c, .int .i64 v] 38))
  go_wp2_with fail
  refine (Told_yes hw _).mono ?_
  rintro e u5 ⟨rfl, hb⟩
  have hb := hb.below
  have G5 : Hid _ := G4L10.out.trans (hb.mono G4L10.out.size)
  have E5 : Hid _ := E4L10.out.later hb
  clear x4_0_0 x4_0_1 z4_0 x4_1_0 x4_1_1 z4_1
  have P13 : Hid _ := P10.out.trans (hb.mono P10.out.size)
  have P14 : Hid _ := P11.out.trans (hb.mono P11.out.size)
  have P15 : Hid _ := P12.out.trans (hb.mono P12.out.size)
  clear hb G4L10 E4L10 P10 P11 P12
  have x5_0_0 := Below.bx P13.out 0 rfl
  have x5_0_1 := Below.bx P13.out 1 rfl
  have z5_0 := World.block_lt_of_cell? _ _ x5_0_0
  have x5_1_0 : u5.cell? ⟨w.heap.size + 1, 0, none⟩ = some (.int .i64 c) := by simpa using Below.bx P14.out 0 rfl
  have x5_1_1 : u5.cell? ⟨w.heap.size + 1, 1, none⟩ = some (.int .i64 r) := by simpa using Below.bx P14.out 1 rfl
  have z5_1 := World.block_lt_of_cell? _ _ x5_1_0
  have x5_2_0 := Below.bx P15.out 0 rfl
  have x5_2_1 := Below.bx P15.out 1 rfl
  have z5_2 := World.block_lt_of_cell? _ _ x5_2_0
  have G5L16 : Hid _ := G5.out.alloc G5.out.size (.cells #[.int .i64 y, .int .i64 z] 38)
  have E5L16 : Hid _ := E5.out.later ((Below.refl u5.heap.size u5).alloc (Nat.le_refl _) (.cells #[.int .i64 y, .int .i64 z] 38))
  have P16 : Hid _ := P13.out.alloc P13.out.size (.cells #[.int .i64 y, .int .i64 z] 38)
  have P17 : Hid _ := P14.out.alloc P14.out.size (.cells #[.int .i64 y, .int .i64 z] 38)
  have P18 : Hid _ := P15.out.alloc P15.out.size (.cells #[.int .i64 y, .int .i64 z] 38)
  clear G5 E5 P13 P14 P15
  have P19 : Hid _ := Below.refl (u5.alloc (.cells #[.int .i64 y, .int .i64 z] 38)).heap.size (u5.alloc (.cells #[.int .i64 y, .int .i64 z] 38))
  go_wp2_with fail
  refine (Answer_yes hw _).mono ?_
  rintro e u6 ⟨rfl, hb⟩
  have hb := hb.below
  have G6 : Hid _ := G5L16.out.trans (hb.mono G5L16.out.size)
  have E6 : Hid _ := E5L16.out.later hb
  clear x5_0_0 x5_0_1 z5_0 x5_1_0 x5_1_1 z5_1 x5_2_0 x5_2_1 z5_2
  have P20 : Hid _ := P16.out.trans (hb.mono P16.out.size)
  have P21 : Hid _ := P17.out.trans (hb.mono P17.out.size)
  have P22 : Hid _ := P18.out.trans (hb.mono P18.out.size)
  have P23 : Hid _ := P19.out.trans (hb.mono P19.out.size)
  clear hb G5L16 E5L16 P16 P17 P18 P19
  have x6_0_0 := Below.bx P20.out 0 rfl
  have x6_0_1 := Below.bx P20.out 1 rfl
  have z6_0 := World.block_lt_of_cell? _ _ x6_0_0
  have x6_1_0 : u6.cell? ⟨w.heap.size + 1, 0, none⟩ = some (.int .i64 c) := by simpa using Below.bx P21.out 0 rfl
  have x6_1_1 : u6.cell? ⟨w.heap.size + 1, 1, none⟩ = some (.int .i64 r) := by simpa using Below.bx P21.out 1 rfl
  have z6_1 := World.block_lt_of_cell? _ _ x6_1_0
  have x6_2_0 := Below.bx P22.out 0 rfl
  have x6_2_1 := Below.bx P22.out 1 rfl
  have z6_2 := World.block_lt_of_cell? _ _ x6_2_0
  have x6_3_0 := Below.bx P23.out 0 rfl
  have x6_3_1 := Below.bx P23.out 1 rfl
  have z6_3 := World.block_lt_of_cell? _ _ x6_3_0
  go_wp2_with fail
  have k00 : u6.cell? ⟨w.heap.size, 0, none⟩ = some (.int .i64 c) := by simpa using Below.bx P20.out 0 rfl
  have k01 : u6.cell? ⟨w.heap.size, 1, none⟩ = some (.int .i64 v) := by simpa using Below.bx P20.out 1 rfl
  have k10 : u6.cell? ⟨w.heap.size + 1, 0, none⟩ = some (.int .i64 c) := by simpa using Below.bx P21.out 0 rfl
  have k11 : u6.cell? ⟨w.heap.size + 1, 1, none⟩ = some (.int .i64 r) := by simpa using Below.bx P21.out 1 rfl
  clear x6_0_0 x6_0_1 z6_0 x6_1_0 x6_1_1 z6_1 x6_2_0 x6_2_1 z6_2 x6_3_0 x6_3_1 z6_3
  clear P20 P21 P22 P23
  generalize hWW : u6 = W at *
  clear hWW
  generalize hm : w.heap.size = m at *
  have HM : Hid _ := hm
  clear hm
  go_region_held3 (fun w' => w'.cell? ⟨m, 0, none⟩ = some (.int .i64 c) ∧ w'.cell? ⟨m, 1, none⟩ = some (.int .i64 v) ∧ w'.cell? ⟨m + 1, 0, none⟩ = some (.int .i64 c) ∧ w'.cell? ⟨m + 1, 1, none⟩ = some (.int .i64 r) ∧ Ec w' ∧ Below W.heap.size W w')
    (first | assumption | exact ⟨k00, k01, k10, k11, E6.out.later (Below.refl _ _).drew, (Below.refl _ _).drew⟩ | exact ab_keep (by assumption) (by assumption))
    (first | (go_at_call_of 13 (Value.agg #[Value.int IntKind.i64 c, Value.int IntKind.i64 v]); refine (Fits_yes ha _).mono ?_; rintro e wz ⟨rfl, hz⟩; have hb := hz.below; clear hz) | (go_at_call 13; refine (Fits_yes hB _).mono ?_; rintro e wz ⟨rfl, hz⟩; have hb := hz.below; clear hz) | (go_at_call_of 16 (Value.agg #[Value.int IntKind.i64 c, Value.int IntKind.i64 v]); refine (Say_yes ha _ (ab_ec (by assumption)).en.pw (ab_ec (by assumption)).cd).mono ?_; rintro e wz ⟨rfl, hb⟩) | (go_at_call 16; refine (Say_yes hB _ (ab_ec (by assumption)).en.pw (ab_ec (by assumption)).cd).mono ?_; rintro e wz ⟨rfl, hb⟩))
  all_goals
    have HB : Hid _ := ab_bl (by assumption)
    go_wp2
    go_ret
    refine ⟨rfl, ?_⟩
    rw [HM.out]
    exact G6.out.trans (HB.out.mono (HM.out ▸ G6.out.size))

set_option maxHeartbeats 4000000 in
theorem ab113 {c v : Nat} {p r : Nat} {y z : Nat} (w : World) (hE : Ec w) (ha : Ft c v) (hB : Ft p r) (hw : Ft y z) (n2 : (say c v == say p r) = false) (n3 : ¬ ((c : Int) = (p : Int))) :
    Calls Tryd.prog 5 #[.agg #[.int .i64 c, .int .i64 v], .agg #[.int .i64 p, .int .i64 r], .int .u64 (ansN y z : Nat)] w fun e w' => e = .returned (.bool true) ∧ Below w.heap.size w w' := by
  have G0 : Hid _ := ((Below.refl w.heap.size w).alloc (Nat.le_refl _) (.cells #[.int .i64 c, .int .i64 v] 38)).alloc (by simp) (.cells #[.int .i64 p, .int .i64 r] 38)
  have E0 : Hid _ := hE.later G0.out
  clear hE
  have P0 : Hid _ := (Below.refl (w.alloc (.cells #[.int .i64 c, .int .i64 v] 38)).heap.size (w.alloc (.cells #[.int .i64 c, .int .i64 v] 38))).alloc (by simp) (.cells #[.int .i64 p, .int .i64 r] 38)
  have P1 : Hid _ := Below.refl ((w.alloc (.cells #[.int .i64 c, .int .i64 v] 38)).alloc (.cells #[.int .i64 p, .int .i64 r] 38)).heap.size ((w.alloc (.cells #[.int .i64 c, .int .i64 v] 38)).alloc (.cells #[.int .i64 p, .int .i64 r] 38))
  go_enter Tryd.func5, Tryd.ntmps5
  go_wp2_with fail
  refine (spelled_any _ E0.out).mono ?_
  rintro e u1 ⟨rfl, hb⟩
  have G1 : Hid _ := G0.out.trans (hb.mono G0.out.size)
  have E1 : Hid _ := E0.out.later hb
  have P2 : Hid _ := P0.out.trans (hb.mono P0.out.size)
  have P3 : Hid _ := P1.out.trans (hb.mono P1.out.size)
  clear hb G0 E0 P0 P1
  have x1_0_0 := Below.bx P2.out 0 rfl
  have x1_0_1 := Below.bx P2.out 1 rfl
  have z1_0 := World.block_lt_of_cell? _ _ x1_0_0
  have x1_1_0 : u1.cell? ⟨w.heap.size + 1, 0, none⟩ = some (.int .i64 p) := by simpa using Below.bx P3.out 0 rfl
  have x1_1_1 : u1.cell? ⟨w.heap.size + 1, 1, none⟩ = some (.int .i64 r) := by simpa using Below.bx P3.out 1 rfl
  have z1_1 := World.block_lt_of_cell? _ _ x1_1_0
  go_wp2_with fail
  refine (Fits_yes ha _).mono ?_
  rintro e u2 ⟨rfl, hb⟩
  have hb := hb.below
  have G2 : Hid _ := G1.out.trans (hb.mono G1.out.size)
  have E2 : Hid _ := E1.out.later hb
  clear x1_0_0 x1_0_1 z1_0 x1_1_0 x1_1_1 z1_1
  have P4 : Hid _ := P2.out.trans (hb.mono P2.out.size)
  have P5 : Hid _ := P3.out.trans (hb.mono P3.out.size)
  clear hb G1 E1 P2 P3
  have x2_0_0 := Below.bx P4.out 0 rfl
  have x2_0_1 := Below.bx P4.out 1 rfl
  have z2_0 := World.block_lt_of_cell? _ _ x2_0_0
  have x2_1_0 : u2.cell? ⟨w.heap.size + 1, 0, none⟩ = some (.int .i64 p) := by simpa using Below.bx P5.out 0 rfl
  have x2_1_1 : u2.cell? ⟨w.heap.size + 1, 1, none⟩ = some (.int .i64 r) := by simpa using Below.bx P5.out 1 rfl
  have z2_1 := World.block_lt_of_cell? _ _ x2_1_0
  go_wp2_with fail
  refine (Answer_yes ha _).mono ?_
  rintro e u3 ⟨rfl, hb⟩
  have hb := hb.below
  have G3 : Hid _ := G2.out.trans (hb.mono G2.out.size)
  have E3 : Hid _ := E2.out.later hb
  clear x2_0_0 x2_0_1 z2_0 x2_1_0 x2_1_1 z2_1
  have P6 : Hid _ := P4.out.trans (hb.mono P4.out.size)
  have P7 : Hid _ := P5.out.trans (hb.mono P5.out.size)
  clear hb G2 E2 P4 P5
  have x3_0_0 := Below.bx P6.out 0 rfl
  have x3_0_1 := Below.bx P6.out 1 rfl
  have z3_0 := World.block_lt_of_cell? _ _ x3_0_0
  have x3_1_0 : u3.cell? ⟨w.heap.size + 1, 0, none⟩ = some (.int .i64 p) := by simpa using Below.bx P7.out 0 rfl
  have x3_1_1 : u3.cell? ⟨w.heap.size + 1, 1, none⟩ = some (.int .i64 r) := by simpa using Below.bx P7.out 1 rfl
  have z3_1 := World.block_lt_of_cell? _ _ x3_1_0
  go_wp2_with fail
  refine (Told_yes ha _).mono ?_
  rintro e u4 ⟨rfl, hb⟩
  have hb := hb.below
  have G4 : Hid _ := G3.out.trans (hb.mono G3.out.size)
  have E4 : Hid _ := E3.out.later hb
  clear x3_0_0 x3_0_1 z3_0 x3_1_0 x3_1_1 z3_1
  have P8 : Hid _ := P6.out.trans (hb.mono P6.out.size)
  have P9 : Hid _ := P7.out.trans (hb.mono P7.out.size)
  clear hb G3 E3 P6 P7
  have x4_0_0 := Below.bx P8.out 0 rfl
  have x4_0_1 := Below.bx P8.out 1 rfl
  have z4_0 := World.block_lt_of_cell? _ _ x4_0_0
  have x4_1_0 : u4.cell? ⟨w.heap.size + 1, 0, none⟩ = some (.int .i64 p) := by simpa using Below.bx P9.out 0 rfl
  have x4_1_1 : u4.cell? ⟨w.heap.size + 1, 1, none⟩ = some (.int .i64 r) := by simpa using Below.bx P9.out 1 rfl
  have z4_1 := World.block_lt_of_cell? _ _ x4_1_0
  have G4L10 : Hid _ := G4.out.alloc G4.out.size (.cells #[.int .i64 c, .int .i64 v] 38)
  have E4L10 : Hid _ := E4.out.later ((Below.refl u4.heap.size u4).alloc (Nat.le_refl _) (.cells #[.int .i64 c, .int .i64 v] 38))
  have P10 : Hid _ := P8.out.alloc P8.out.size (.cells #[.int .i64 c, .int .i64 v] 38)
  have P11 : Hid _ := P9.out.alloc P9.out.size (.cells #[.int .i64 c, .int .i64 v] 38)
  clear G4 E4 P8 P9
  have P12 : Hid _ := Below.refl (u4.alloc (.cells #[.int .i64 c, .int .i64 v] 38)).heap.size (u4.alloc (.cells #[.int .i64 c, .int .i64 v] 38))
  go_wp2_with fail
  refine (Told_yes hw _).mono ?_
  rintro e u5 ⟨rfl, hb⟩
  have hb := hb.below
  have G5 : Hid _ := G4L10.out.trans (hb.mono G4L10.out.size)
  have E5 : Hid _ := E4L10.out.later hb
  clear x4_0_0 x4_0_1 z4_0 x4_1_0 x4_1_1 z4_1
  have P13 : Hid _ := P10.out.trans (hb.mono P10.out.size)
  have P14 : Hid _ := P11.out.trans (hb.mono P11.out.size)
  have P15 : Hid _ := P12.out.trans (hb.mono P12.out.size)
  clear hb G4L10 E4L10 P10 P11 P12
  have x5_0_0 := Below.bx P13.out 0 rfl
  have x5_0_1 := Below.bx P13.out 1 rfl
  have z5_0 := World.block_lt_of_cell? _ _ x5_0_0
  have x5_1_0 : u5.cell? ⟨w.heap.size + 1, 0, none⟩ = some (.int .i64 p) := by simpa using Below.bx P14.out 0 rfl
  have x5_1_1 : u5.cell? ⟨w.heap.size + 1, 1, none⟩ = some (.int .i64 r) := by simpa using Below.bx P14.out 1 rfl
  have z5_1 := World.block_lt_of_cell? _ _ x5_1_0
  have x5_2_0 := Below.bx P15.out 0 rfl
  have x5_2_1 := Below.bx P15.out 1 rfl
  have z5_2 := World.block_lt_of_cell? _ _ x5_2_0
  have G5L16 : Hid _ := G5.out.alloc G5.out.size (.cells #[.int .i64 y, .int .i64 z] 38)
  have E5L16 : Hid _ := E5.out.later ((Below.refl u5.heap.size u5).alloc (Nat.le_refl _) (.cells #[.int .i64 y, .int .i64 z] 38))
  have P16 : Hid _ := P13.out.alloc P13.out.size (.cells #[.int .i64 y, .int .i64 z] 38)
  have P17 : Hid _ := P14.out.alloc P14.out.size (.cells #[.int .i64 y, .int .i64 z] 38)
  have P18 : Hid _ := P15.out.alloc P15.out.size (.cells #[.int .i64 y, .int .i64 z] 38)
  clear G5 E5 P13 P14 P15
  have P19 : Hid _ := Below.refl (u5.alloc (.cells #[.int .i64 y, .int .i64 z] 38)).heap.size (u5.alloc (.cells #[.int .i64 y, .int .i64 z] 38))
  go_wp2_with fail
  refine (Answer_yes hw _).mono ?_
  rintro e u6 ⟨rfl, hb⟩
  have hb := hb.below
  have G6 : Hid _ := G5L16.out.trans (hb.mono G5L16.out.size)
  have E6 : Hid _ := E5L16.out.later hb
  clear x5_0_0 x5_0_1 z5_0 x5_1_0 x5_1_1 z5_1 x5_2_0 x5_2_1 z5_2
  have P20 : Hid _ := P16.out.trans (hb.mono P16.out.size)
  have P21 : Hid _ := P17.out.trans (hb.mono P17.out.size)
  have P22 : Hid _ := P18.out.trans (hb.mono P18.out.size)
  have P23 : Hid _ := P19.out.trans (hb.mono P19.out.size)
  clear hb G5L16 E5L16 P16 P17 P18 P19
  have x6_0_0 := Below.bx P20.out 0 rfl
  have x6_0_1 := Below.bx P20.out 1 rfl
  have z6_0 := World.block_lt_of_cell? _ _ x6_0_0
  have x6_1_0 : u6.cell? ⟨w.heap.size + 1, 0, none⟩ = some (.int .i64 p) := by simpa using Below.bx P21.out 0 rfl
  have x6_1_1 : u6.cell? ⟨w.heap.size + 1, 1, none⟩ = some (.int .i64 r) := by simpa using Below.bx P21.out 1 rfl
  have z6_1 := World.block_lt_of_cell? _ _ x6_1_0
  have x6_2_0 := Below.bx P22.out 0 rfl
  have x6_2_1 := Below.bx P22.out 1 rfl
  have z6_2 := World.block_lt_of_cell? _ _ x6_2_0
  have x6_3_0 := Below.bx P23.out 0 rfl
  have x6_3_1 := Below.bx P23.out 1 rfl
  have z6_3 := World.block_lt_of_cell? _ _ x6_3_0
  go_wp2_with fail
  have k00 : u6.cell? ⟨w.heap.size, 0, none⟩ = some (.int .i64 c) := by simpa using Below.bx P20.out 0 rfl
  have k01 : u6.cell? ⟨w.heap.size, 1, none⟩ = some (.int .i64 v) := by simpa using Below.bx P20.out 1 rfl
  have k10 : u6.cell? ⟨w.heap.size + 1, 0, none⟩ = some (.int .i64 p) := by simpa using Below.bx P21.out 0 rfl
  have k11 : u6.cell? ⟨w.heap.size + 1, 1, none⟩ = some (.int .i64 r) := by simpa using Below.bx P21.out 1 rfl
  clear x6_0_0 x6_0_1 z6_0 x6_1_0 x6_1_1 z6_1 x6_2_0 x6_2_1 z6_2 x6_3_0 x6_3_1 z6_3
  clear P20 P21 P22 P23
  generalize hWW : u6 = W at *
  clear hWW
  generalize hm : w.heap.size = m at *
  have HM : Hid _ := hm
  clear hm
  go_region_held3 (fun w' => w'.cell? ⟨m, 0, none⟩ = some (.int .i64 c) ∧ w'.cell? ⟨m, 1, none⟩ = some (.int .i64 v) ∧ w'.cell? ⟨m + 1, 0, none⟩ = some (.int .i64 p) ∧ w'.cell? ⟨m + 1, 1, none⟩ = some (.int .i64 r) ∧ Ec w' ∧ Below W.heap.size W w')
    (first | assumption | exact ⟨k00, k01, k10, k11, E6.out.later (Below.refl _ _).drew, (Below.refl _ _).drew⟩ | exact ab_keep (by assumption) (by assumption))
    (first | (go_at_call_of 13 (Value.agg #[Value.int IntKind.i64 c, Value.int IntKind.i64 v]); refine (Fits_yes ha _).mono ?_; rintro e wz ⟨rfl, hz⟩; have hb := hz.below; clear hz) | (go_at_call 13; refine (Fits_yes hB _).mono ?_; rintro e wz ⟨rfl, hz⟩; have hb := hz.below; clear hz) | (go_at_call_of 16 (Value.agg #[Value.int IntKind.i64 c, Value.int IntKind.i64 v]); refine (Say_yes ha _ (ab_ec (by assumption)).en.pw (ab_ec (by assumption)).cd).mono ?_; rintro e wz ⟨rfl, hb⟩) | (go_at_call 16; refine (Say_yes hB _ (ab_ec (by assumption)).en.pw (ab_ec (by assumption)).cd).mono ?_; rintro e wz ⟨rfl, hb⟩))
  all_goals
    have HB : Hid _ := ab_bl (by assumption)
    go_wp2
    go_ret
    refine ⟨rfl, ?_⟩
    rw [HM.out]
    exact G6.out.trans (HB.out.mono (HM.out ▸ G6.out.size))

theorem ft_nat {c v : Int} (h : Ft c v) : ∃ c' v' : Nat, c = (c' : Int) ∧ v = (v' : Int) := by
  obtain ⟨a, ha⟩ := Int.eq_ofNat_of_zero_le (show 0 ≤ c by have := h.c1; omega)
  obtain ⟨b, hb⟩ := Int.eq_ofNat_of_zero_le h.v0
  exact ⟨a, b, ha, hb⟩
theorem says_ne {c v p r : Nat} (ha : Ft c v) (hB : Ft p r) (h : ¬ (c = p ∧ v = r)) : (say c v == say p r) = false := by
  refine beq_eq_false_iff_ne.2 fun e => h ?_
  obtain ⟨a, b⟩ := say_inj ha hB e
  omega

theorem walk (a b d e u : Int) (_w0 : (Lit.int .i64 a).wf = true) (_w1 : (Lit.int .i64 b).wf = true) (_w2 : (Lit.int .i64 d).wf = true) (_w3 : (Lit.int .i64 e).wf = true) (w4 : (Lit.int .u64 u).wf = true) (w : World) (hE : Ec w) :
    Calls Tryd.prog 5 #[.agg #[.int .i64 a, .int .i64 b], .agg #[.int .i64 d, .int .i64 e], .int .u64 u] w fun e w' => e = .returned (.bool true) ∧ Below w.heap.size w w' := by
  obtain ⟨b0, b1⟩ := bounds_u64 w4
  obtain ⟨x, rfl⟩ := Int.eq_ofNat_of_zero_le b0
  have hx : x < 18446744073709551616 := by omega
  by_cases ha : Ft a b
  · obtain ⟨c, v, rfl, rfl⟩ := ft_nat ha
    by_cases hB : Ft d e
    · obtain ⟨p, r, rfl, rfl⟩ := ft_nat hB
      by_cases h1 : c = p
      · subst h1
        by_cases h2 : v = r
        · subst h2
          rcases ans_cases x with hw | ⟨y, z, hw, rfl⟩
          · exact ab101 x hx w hE ha hB hw
          · exact ab111 w hE ha hB hw
        · rcases ans_cases x with hw | ⟨y, z, hw, rfl⟩
          · exact ab102 x hx w hE ha hB hw (says_ne ha hB (by omega)) (by omega)
          · exact ab112 w hE ha hB hw (says_ne ha hB (by omega)) (by omega)
      · rcases ans_cases x with hw | ⟨y, z, hw, rfl⟩
        · exact ab103 x hx w hE ha hB hw (says_ne ha hB (by omega)) (by omega)
        · exact ab113 w hE ha hB hw (says_ne ha hB (by omega)) (by omega)
    · rcases ans_cases x with hw | ⟨y, z, hw, rfl⟩
      · exact ab100 d e x hx w hE ha hB hw
      · exact ab110 d e w hE ha hB hw
  · rcases ans_cases x with hw | ⟨y, z, hw, rfl⟩
    · exact ab00 a b d e x hx w hE ha hw
    · exact ab01 a b d e w hE ha hw


set_option maxRecDepth 100000 in
theorem lifted (os : Os) (started : os.Started) (H : Type) (enc : TypeId × Value → H) :
    ReturnsInHanded {} Tryd.checked os 5 .any (fun w args => (Rows.answerBackSpec.pre enc Tryd.prog Tryd.f5 [] false w args ∧ laidMetH Tryd.prog laidOps w) ∧ sizedMet enc Tryd.prog Tryd.f5 (OpenSpec.ofChange Rows.answerBackSpec) false w args)
      (Rows.answerBackSpec.post enc Tryd.prog Tryd.f5 false true false false) := by
  refine returnsInHanded_of_change_and (C := Tryd.checked) (X := fun w _ => laidMetH Tryd.prog laidOps w) (fun _ _ _ hh h => h.of_heap hh) own started (by kernel_rfl) Tryd.func5
    (ChangeSpec.witness_shaped (enc := enc) (C := Tryd.checked) (os := os) (X := fun w _ => laidMetH Tryd.prog laidOps w) false (World.doorLaid Tryd.prog 400 os) #[.agg #[.int .i64 0, .int .i64 0], .agg #[.int .i64 0, .int .i64 0], .int .u64 0] 8 rfl (World.shaped_of_RefB (by kernel_rfl) (by kernel_rfl)) (by kernel_rfl) (by kernel_rfl) (by kernel_rfl) (door_Ops os _)) ?_
  intro W base args ds gs before hval0 hW _ _ hL _
  have hval : ∀ (j : Nat) t v, Tryd.f5.params[j]? = some t → args[j]? = some v → Value.okWide Tryd.prog W .any base t v := hval0
  have hW' := hW
  obtain ⟨p, q, hA0, hV, rfl, hfz, hnd⟩ := hW
  have hA : DataW.TrodAll enc Tryd.prog W 0 (fun _ => true) true Tryd.f5.params.toList args.toList ds p := hA0
  rw [Tryd.params5] at hA hval
  obtain ⟨v0, vs0, d0, ds0, p0, q0, hargs, rfl, rfl, h0, r0⟩ := trodAll_cons hA
  obtain ⟨v1, vs1, d1, ds1, p1, q1, rfl, rfl, rfl, h1, r1⟩ := trodAll_cons r0
  obtain ⟨v2, vs2, d2, ds2, p2, q2, rfl, rfl, rfl, h2, r2⟩ := trodAll_cons r1
  obtain ⟨rfl, rfl, rfl⟩ := trodAll_nil r2
  obtain rfl : args = #[v0, v1, v2] := by cases args; simp_all
  obtain ⟨rfl, rfl⟩ := trodVars_none hV
  obtain ⟨a0, b0, rfl, wa0, wb0⟩ := answer_of_trod (hval 0 38 v0 rfl rfl) h0
  obtain ⟨a1, b1, rfl, wa1, wb1⟩ := answer_of_trod (hval 1 38 v1 rfl rfl) h1
  obtain ⟨a2, rfl, rfl, rfl, w2⟩ := open_int Tryd.underlying25 (hval 2 25 v2 rfl rfl) h2
  have hT := env_of_Ops hL
  have hlt := hW'.lt
  clear hA0 hval0
  refine (walk a0 b0 a1 b1 a2 wa0 wb0 wa1 wb1 w2 W hT ).mono fun e W' ⟨he, hg⟩ => ?_
  subst he
  exact ⟨_, rfl, post_below (pv := []) hW' (fun _ _ _ => (trodAll_cons_mk (shut_bool Tryd.underlying4 _) trodAll_mk0)) (fun sp hsp => (trodAll_cons_mk (answer_stay h0 hg (fun x hx => hlt x (by simp [hx])) (fun x hx => hsp x (by simp [hx]))) (trodAll_cons_mk (answer_stay h1 hg (fun x hx => hlt x (by simp [hx])) (fun x hx => hsp x (by simp [hx]))) (trodAll_cons_mk (shut_int Tryd.underlying25 w2) trodAll_mk0)))) (fun _ _ => rfl) (by simp) (hg.frame _)⟩

theorem over : Rows.AnswerBackSaid :=
  OpenClaim.holds_of_wide 5 Tryd.f5 rfl rfl rfl rfl rfl rfl rfl ⟨rfl, rfl, rfl, rfl, rfl⟩ rfl rfl rfl rfl rfl (by kernel_rfl) Tryd.func5 (by kernel_rfl)
    (of_decide_eq_true (by kernel_rfl)) (by unfold Func.isWrapper; first | (rw [if_pos (by decide +kernel)]; kernel_rfl) | (rw [if_neg (by decide +kernel)]; exact ⟨rfl, rfl⟩))
    (fun os started H enc _ => lifted os started H enc)

theorem proved : Rows.AnswerBackCardSaid :=
  Claim7.holds_tied_plain_at .later [] [.data, .data, .data, .sentinel, .sentinel, .data, .data] true (true, "5679a511bfc219565f57fb51c3143b7377991c547fa500f551ff088f4000ed9f") true
    over (fun _ h => by cases h) (by kernel_rfl) (fun _ h => by cases h) answerBack_row_tie rfl ⟨rfl, rfl⟩ (by kernel_rfl) rfl
    (fun f fn hf hfn => by
      obtain rfl : f = 5 := Option.some.inj ((show Tryd.prog.funcNamed "gristmill/gristmillkeep.AnswerBack" = some 5 by kernel_rfl).symm.trans hf) |>.symm
      obtain rfl : fn = Tryd.f5 := (Option.some.inj (Tryd.func5.symm.trans hfn)).symm
      exact ⟨by kernel_rfl, fun j t ht => by
        rw [Tryd.params5] at ht
        have hm : t ∈ [38, 38, 25] := by simpa using Array.mem_of_getElem? ht
        have hall : ([38, 38, 25].all fun u => !Tryd.prog.wantsStandIn u) = true := by kernel_rfl
        exact (show Tryd.prog.wantsStandIn t = false by simpa using List.all_eq_true.1 hall t hm)⟩)
    (by kernel_rfl)
#print axioms proved
end Go.Proofs.YtdohomdhgkhebabDoor.answerBack
