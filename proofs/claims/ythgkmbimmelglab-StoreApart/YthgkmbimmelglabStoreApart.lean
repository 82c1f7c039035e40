/- StoreApart is proved: for every two lists of deeds and every line the call returns true (a copy lies apart), with no condition beyond the form's own. -/
import Derived.Test.YthgkmbimmelglabRows
import Derived.Test.YthgkmbimmelglabArgs
import Derived.Test.YthgkmbimmelglabKp3
import Derived.Test.YthgkmbimmelglabLoc
import Derived.Test.YthgkmbimmelglabStGood
import Derived.Test.YthgkmbimmelglabCopy
import Derived.Deep.RegionHeld3
import Derived.WalkKit

namespace Go.Proofs.Ythgkmbimmelglab.storeApart
open Go.ChangeShapes Go.WideShapes Go.ChangeAt Go.RowKit
set_option linter.unusedVariables false

theorem own : ownKnob Try.prog.godebug = none := by kernel_rfl

set_option maxHeartbeats 2000000 in
theorem walk (v0 : Value) (n0 : Nat) (v1 : Value) (n1 : Nat) (a2 : Int) (w2 : (Lit.int .i64 a2).wf = true) (w : World) (D0 : Deeds w v0 n0) (D1 : Deeds w v1 n1) :
    Calls Try.prog 6 #[v0, v1, .int .i64 a2] w fun e w' => e = .returned (.bool true) ∧ Gr w w' := by
  clear w2
  by_cases hn : n0 ≤ 60
  · obtain ⟨A, cap, rfl, HE⟩ : ∃ (A : Option Addr) (cap : Nat), v1 = .slice A n1 cap ∧ Hid (∀ w', Gr w w' → ∀ i, i < n1 → ∃ (a : Addr) (d : Dd), A = some a ∧ d.word < 18446744073709551616 ∧ ∀ j v, d.cells[j]? = some v → w'.cell? ((a.add (i * 5)).add j) = some v) := by
      rcases D1 with ⟨rfl, rfl⟩ | ⟨a, cap, rfl, h3⟩
      · exact ⟨none, 0, rfl, fun _ _ i hi => absurd hi (Nat.not_lt_zero _)⟩
      · refine ⟨some a, cap, rfl, fun w' g i hi => ?_⟩
        obtain ⟨d, hd, hc⟩ := h3 i hi
        exact ⟨a, d, rfl, hd, fun j v hv => by rw [g.below.cell (World.block_lt_of_cell? w _ (hc j v hv))]; exact hc j v hv⟩
    clear D1
    by_cases hm : n1 ≤ 30
    · obtain ⟨r1, hr1, p1⟩ := pick_fun a2 9 (by decide) (by decide)
      have P1 : Hid _ := p1
      clear p1
      go_enter Try.func6, Try.ntmps6
      go_wp2_with fail
      refine (kept_any _).mono ?_
      rintro e u1 ⟨rfl, g1⟩
      go_wp2_with fail
      refine (done_any v0 n0 _ hn (D0.gr g1)).mono ?_
      rintro e u2 ⟨rfl, ⟨s, h2⟩, g2⟩
      have hb : Hid (w.heap.size ≤ u1.heap.size) := g1.below.size
      generalize u1.heap.size = b at *
      have hm' : ¬ (30 : Int) < (n1 : Int) := by omega
      have G : Hid (Gr w u2) := g1.trans g2
      clear g1 g2
      go_wp2_with fail
      refine (P1.out _).mono ?_
      rintro e ux ⟨rfl, hw⟩
      rw [hw]; clear hw ux
      go_wp2_with fail
      refine (lineNow_yes r1 b s _ hr1 h2).mono ?_
      rintro e u3 ⟨rfl, g3⟩
      have h3 := h2.gr g3
      have G3 : Hid (Gr w u3) := G.out.trans g3
      clear G g3 h2
      go_wp2_with (refine wpList_store_mid rfl 29 _ _ rfl _ _ (row s.now (r1 * 8) 8).toArray rfl rfl (row_there _ _ _ _ _ rfl) (line_size2 s.now (r1 * 8)) (row_all s.now (r1 * 8)) ?_
                   have B4 := loc_born u3 #[.int .u64 0, .int .u64 0, .int .u64 0, .int .u64 0, .int .u64 0, .int .u64 0, .int .u64 0, .int .u64 0] 29 s.now (r1 * 8) rfl
                   generalize (u3.alloc (.cells #[.int .u64 0, .int .u64 0, .int .u64 0, .int .u64 0, .int .u64 0, .int .u64 0, .int .u64 0, .int .u64 0] 29)).setCells u3.heap.size 0 (row s.now (r1 * 8) 8) = u4 at B4 ⊢
                   generalize hn4 : u3.heap.size = n4 at *)
      have ne4 : n4 ≠ b := by have := h3.lt; omega
      obtain ⟨gB4, L4⟩ := B4
      have h4 := h3.gr gB4
      have G4 : Hid (Gr w u4) := G3.out.trans gB4
      clear G3 gB4 h3 hn4
      refine (Good_yes r1 b s _ hr1 h4).mono ?_
      rintro e u5 ⟨rfl, g5⟩
      have h5 := h4.gr g5
      have G5 : Hid (Gr w u5) := G4.out.trans g5
      have L5 := range_gr L4 g5
      clear G4 g5 h4 L4
      go_wp2_with (refine wpList_store_mid rfl 29 _ _ rfl _ _ (row s.good (r1 * 8) 8).toArray rfl rfl (row_there _ _ _ _ _ rfl) (line_size2 s.good (r1 * 8)) (row_all s.good (r1 * 8)) ?_
                   have B6 := loc_born u5 #[.int .u64 0, .int .u64 0, .int .u64 0, .int .u64 0, .int .u64 0, .int .u64 0, .int .u64 0, .int .u64 0] 29 s.good (r1 * 8) rfl
                   generalize (u5.alloc (.cells #[.int .u64 0, .int .u64 0, .int .u64 0, .int .u64 0, .int .u64 0, .int .u64 0, .int .u64 0, .int .u64 0] 29)).setCells u5.heap.size 0 (row s.good (r1 * 8) 8) = u6 at B6 ⊢
                   generalize hn6 : u5.heap.size = n6 at *)
      have ne6 : n6 ≠ b := by have := h5.lt; omega
      obtain ⟨gB6, L6⟩ := B6
      have h6 := h5.gr gB6
      have G6 : Hid (Gr w u6) := G5.out.trans gB6
      have K6 := range_gr L5 gB6
      clear G5 gB6 h5 hn6 L5
      refine (Copy_any b _ _ h6).mono ?_
      rintro e u7 ⟨rfl, c7, g7⟩
      have h7 := h6.gr g7
      have G7 : Hid (Gr w u7) := G6.out.trans g7
      have A7 := range_gr K6 g7
      have B7 := range_gr L6 g7
      have hbc : b ≠ u6.heap.size := Nat.ne_of_lt h6.lt
      have hc : Hid (w.heap.size ≤ u6.heap.size) := G6.out.below.size
      have k4 : n4 ≠ u6.heap.size := Nat.ne_of_lt (World.block_lt_of_cell? u6 ⟨n4, 0 + 0, none⟩ (K6 0 _ rfl))
      have k6 : n6 ≠ u6.heap.size := Nat.ne_of_lt (World.block_lt_of_cell? u6 ⟨n6, 0 + 0, none⟩ (L6 0 _ rfl))
      generalize u6.heap.size = c at *
      clear G6 g7 h6 K6 L6
      go_wp2_with fail
      have INV : Hid ((∃ t, StAt u7 c t) ∧ StAt u7 b s ∧ u7.rangeAt n4 0 (row s.now (r1 * 8) 8) ∧ u7.rangeAt n6 0 (row s.good (r1 * 8) 8) ∧ Gr w u7) := ⟨⟨_, c7⟩, h7, A7, B7, G7.out⟩
      clear c7 h7 A7 B7 G7
      go_loopw [44] (fun i wr => ∃ k : Nat, k ≤ n1 ∧ i = .int .i64 k ∧ (∃ t, StAt wr c t) ∧ StAt wr b s ∧ wr.rangeAt n4 0 (row s.now (r1 * 8) 8) ∧ wr.rangeAt n6 0 (row s.good (r1 * 8) 8) ∧ Gr w wr)
        (fun i _ => n1 - (intOf i).toNat)
      case atStart => exact ⟨0, by omega, rfl, INV.out⟩
      case round =>
        clear INV
        obtain ⟨k, hk, rfl, ⟨t0, ht0⟩, hs0, A0, B0, g⟩ := hrel
        by_cases hlt : k < n1
        · obtain ⟨a, d, rfl, hw, hcc⟩ := HE.out wr g k hlt
          obtain ⟨r, hr, hp⟩ := pick_fun d.addr 72 (by decide) (by decide)
          have P : Hid _ := hp
          clear hp
          have LB : Hid (Lap w c d ((wr.alloc (.cells #[.int .i64 0, .int .i64 0, .int .i64 0, .int .i64 0, .int .u64 0] 48)).setCells wr.heap.size 0 d.cells) wr.heap.size ∧ Gr wr ((wr.alloc (.cells #[.int .i64 0, .int .i64 0, .int .i64 0, .int .i64 0, .int .u64 0] 48)).setCells wr.heap.size 0 d.cells)) :=
            ⟨Lap.born g ht0 hc.out d _ rfl _, Gr.setCells (Nat.le_refl _) _ _ ((Gr.refl wr).alloc _ _)⟩
          have HC : Hid _ := hcc
          clear hcc
          go_wp2_with (first
            | (refine wpList_load_at rfl 48 _ rfl _ rfl d.cells HC.out (deed_agg _) (deed_size _ _) ?_)
            | (refine wpList_store_mid rfl 48 _ _ rfl wr.heap.size _ d.cells.toArray rfl rfl (there_row _ _ _ _ rfl) (deed_info d) (deed_one d) ?_
               obtain ⟨L, gW⟩ := LB.out
               generalize (wr.alloc (.cells #[.int .i64 0, .int .i64 0, .int .i64 0, .int .i64 0, .int .u64 0] 48)).setCells wr.heap.size 0 d.cells = W at L gW ⊢))
          have hsW := hs0.gr gW
          have AW := range_gr A0 gW
          have BW := range_gr B0 gW
          clear gW A0 B0 ht0
          obtain ⟨s2, hs2⟩ := L.st
          have c1 := L.c1
          have c4 := L.c4
          go_region_held3 (fun w' => w'.cell? ⟨wr.heap.size, 1, none⟩ = some (.int .i64 d.addr) ∧ w'.cell? ⟨wr.heap.size, 4, none⟩ = some (.int .u64 (d.word : Nat))) (go_keep)
            (first
              | (go_at_call 11; refine (P.out _).mono ?_; rintro e w3 ⟨rfl, hw⟩; rw [hw]; clear hw)
              | (go_at_call 17; refine (Save_yes r c _ s2 _ hr hs2.drew).mono ?_; rintro e w4 ⟨rfl, h4, o4⟩; have L4 := L.drew.next h4 o4; have kk1 := L4.c1; have kk4 := L4.c4))
          go_wp2_with fail
          refine (Crash_any d.word c _ _ hw h4).mono ?_
          rintro e w5 ⟨rfl, h5, o5⟩
          have L5 := L4.next h5 o5
          have hs5 := ((hsW.drew).only hbc o4).only hbc o5
          have A5 := range_only (range_only (range_drew AW) k4 o4) k4 o5
          have B5 := range_only (range_only (range_drew BW) k6 o4) k6 o5
          have INV5 : Hid ((∃ t, StAt w5 c t) ∧ StAt w5 b s ∧ w5.rangeAt n4 0 (row s.now (r1 * 8) 8) ∧ w5.rangeAt n6 0 (row s.good (r1 * 8) 8) ∧ Gr w w5) := ⟨L5.st, hs5, A5, B5, L5.gr⟩
          clear L5 hs5 A5 B5 L4 L AW BW hsW
          go_wp2
          go_roundw
          case rel => exact ⟨k + 1, by omega, by go_num, INV5.out⟩
          case measure => simp [intOf]; omega
        · clear ht0 t0
          have G8 : Hid _ := g
          clear g
          go_wp2_with fail
          refine (Good_yes r1 b s _ hr1 hs0).mono ?_
          rintro e u9 ⟨rfl, g9⟩
          have h9 := hs0.gr g9
          have G9 : Hid (Gr w u9) := G8.out.trans g9
          have A9 := range_gr A0 g9
          have B9 := range_gr B0 g9
          clear G8 g9 hs0 A0 B0
          go_wp2_with (refine wpList_store_mid rfl 29 _ _ rfl _ _ (row s.good (r1 * 8) 8).toArray rfl rfl (row_there _ _ _ _ _ rfl) (line_size2 s.good (r1 * 8)) (row_all s.good (r1 * 8)) ?_
                       have Ba := loc_born u9 #[.int .u64 0, .int .u64 0, .int .u64 0, .int .u64 0, .int .u64 0, .int .u64 0, .int .u64 0, .int .u64 0] 29 s.good (r1 * 8) rfl
                       generalize (u9.alloc (.cells #[.int .u64 0, .int .u64 0, .int .u64 0, .int .u64 0, .int .u64 0, .int .u64 0, .int .u64 0, .int .u64 0] 29)).setCells u9.heap.size 0 (row s.good (r1 * 8) 8) = ua at Ba ⊢
                       generalize hna : u9.heap.size = na at *)
          have nea : na ≠ b := by have := h9.lt; omega
          obtain ⟨gBa, La⟩ := Ba
          have ha := h9.gr gBa
          have Ga : Hid (Gr w ua) := G9.out.trans gBa
          have hH0 : Hid (ua.drew.rangeAt na 0 (row s.good (r1 * 8) 8) ∧ ua.drew.rangeAt n6 0 (row s.good (r1 * 8) 8) ∧ ua.drew.rangeAt n4 0 (row s.now (r1 * 8) 8)) := ⟨range_drew La, range_drew (range_gr B9 gBa), range_drew (range_gr A9 gBa)⟩
          clear G9 gBa h9 hna A9 B9 La
          have hd := line_desc
          have hj := line_size s.good (r1 * 8)
          have hj2 := line_size s.now (r1 * 8)
          have e1 : same s.good (r1 * 8) s.good (r1 * 8) 8 = true := same_of _ _ _ _ _ fun _ _ => rfl
          have e2 : same s.now (r1 * 8) s.now (r1 * 8) 8 = true := same_of _ _ _ _ _ fun _ _ => rfl
          have he := line_equal s.good s.good (r1 * 8) (r1 * 8)
          have he2 := line_equal s.now s.now (r1 * 8) (r1 * 8)
          rw [e1] at he
          rw [e2] at he2
          clear e1 e2
          refine wp_region_held_drew (S := fun w' => w'.rangeAt na 0 (row s.good (r1 * 8) 8) ∧ w'.rangeAt n6 0 (row s.good (r1 * 8) 8) ∧ w'.rangeAt n4 0 (row s.now (r1 * 8) 8)) (by kernel_rfl) hH0.out (fun hH => ?_)
          refine wpAnyH_take (i := 0) (oi := { dst := some 66, op := .move (.tmp 10), type := _, pos := _, after := _, guard := _ }) (v := ?_) rfl (by kernel_rfl) (by kernel_rfl) (by kernel_rfl) (fun _ _ _ h => h) (Or.inl ⟨by rfl, ?_⟩) hH ?_
          rotate_left
          · intro w hSw
            clear hSw
            go_simp
            with_reducible rfl
          simp only [Act.put, List.setIfInBounds_toArray, List.set_cons_zero, List.set_cons_succ]
          refine wpAnyH_take (i := 1) (oi := { dst := some 67, op := .binOp .eql _ (.tmp 66) (.const .nilIface) _, type := _, pos := _, after := _, guard := _ }) (v := ?_) rfl (by kernel_rfl) (by kernel_rfl) (by kernel_rfl) (fun _ _ _ h => h) (Or.inl ⟨by rfl, ?_⟩) hH ?_
          rotate_left
          · intro w hSw
            clear hSw
            go_simp
            with_reducible rfl
          simp only [Act.put, List.setIfInBounds_toArray, List.set_cons_zero, List.set_cons_succ]
          refine wpAnyH_take (i := 2) (oi := { dst := some 68, op := .move (.tmp 67), type := _, pos := _, after := _, guard := _ }) (v := ?_) rfl (by kernel_rfl) (by kernel_rfl) (by kernel_rfl) (fun _ _ _ h => h) (Or.inl ⟨by rfl, ?_⟩) hH ?_
          rotate_left
          · intro w hSw
            clear hSw
            go_simp
            with_reducible rfl
          simp only [Act.put, List.setIfInBounds_toArray, List.set_cons_zero, List.set_cons_succ]
          refine wpAnyH_take (i := 3) (oi := { dst := some 69, op := .move (.tmp 15), type := _, pos := _, after := _, guard := _ }) (v := ?_) rfl (by kernel_rfl) (by kernel_rfl) (by kernel_rfl) (fun _ _ _ h => h) (Or.inl ⟨by rfl, ?_⟩) hH ?_
          rotate_left
          · intro w hSw
            clear hSw
            go_simp
            with_reducible rfl
          simp only [Act.put, List.setIfInBounds_toArray, List.set_cons_zero, List.set_cons_succ]
          refine wpAnyH_take (i := 4) (oi := { dst := some 70, op := .binOp .eql _ (.tmp 69) (.const .nilIface) _, type := _, pos := _, after := _, guard := _ }) (v := ?_) rfl (by kernel_rfl) (by kernel_rfl) (by kernel_rfl) (fun _ _ _ h => h) (Or.inl ⟨by rfl, ?_⟩) hH ?_
          rotate_left
          · intro w hSw
            clear hSw
            go_simp
            with_reducible rfl
          simp only [Act.put, List.setIfInBounds_toArray, List.set_cons_zero, List.set_cons_succ]
          refine wpAnyH_take (i := 5) (oi := { dst := some 71, op := .pick (.tmp 68) (.tmp 70) (.const (.bool false)), type := _, pos := _, after := _, guard := _ }) (v := ?_) rfl (by kernel_rfl) (by kernel_rfl) (by kernel_rfl) (fun _ _ _ h => h) (Or.inl ⟨by rfl, ?_⟩) hH ?_
          rotate_left
          · intro w hSw
            clear hSw
            go_simp
            with_reducible rfl
          simp only [Act.put, List.setIfInBounds_toArray, List.set_cons_zero, List.set_cons_succ]
          refine wpAnyH_take (i := 6) (oi := { dst := some 72, op := .move (.tmp 71), type := _, pos := _, after := _, guard := _ }) (v := ?_) rfl (by kernel_rfl) (by kernel_rfl) (by kernel_rfl) (fun _ _ _ h => h) (Or.inl ⟨by rfl, ?_⟩) hH ?_
          rotate_left
          · intro w hSw
            clear hSw
            go_simp
            with_reducible rfl
          simp only [Act.put, List.setIfInBounds_toArray, List.set_cons_zero, List.set_cons_succ]
          refine wpAnyH_take (i := 7) (oi := { dst := some 73, op := .load _ (.tmp 14), type := _, pos := _, after := _, guard := _ }) (v := _) rfl (by kernel_rfl) (by kernel_rfl) (by kernel_rfl) (fun _ _ _ h => h)
            (yieldsIf_load_mid (by rfl) _ _ rfl na _ rfl (row s.good (r1 * 8) 8) _ (fun _ h => h.1) hd rfl hj) hH ?_
          simp only [Act.put, List.setIfInBounds_toArray, List.set_cons_zero, List.set_cons_succ]
          refine wpAnyH_take (i := 8) (oi := { dst := some 74, op := .load _ (.tmp 9), type := _, pos := _, after := _, guard := _ }) (v := _) rfl (by kernel_rfl) (by kernel_rfl) (by kernel_rfl) (fun _ _ _ h => h)
            (yieldsIf_load_mid (by rfl) _ _ rfl n6 _ rfl (row s.good (r1 * 8) 8) _ (fun _ h => h.2.1) hd rfl hj) hH ?_
          simp only [Act.put, List.setIfInBounds_toArray, List.set_cons_zero, List.set_cons_succ]
          refine wpAnyH_take (i := 9) (oi := { dst := some 75, op := .binOp .eql _ (.tmp 73) (.tmp 74) _, type := _, pos := _, after := _, guard := _ }) (v := ?_) rfl (by kernel_rfl) (by kernel_rfl) (by kernel_rfl) (fun _ _ _ h => h) (Or.inl ⟨by rfl, ?_⟩) hH ?_
          rotate_left
          · intro w hSw
            clear hSw
            go_simp
            with_reducible rfl
          simp only [Act.put, List.setIfInBounds_toArray, List.set_cons_zero, List.set_cons_succ]
          refine wpAnyH_take (i := 10) (oi := { dst := some 76, op := .pick (.tmp 72) (.tmp 75) (.const (.bool false)), type := _, pos := _, after := _, guard := _ }) (v := ?_) rfl (by kernel_rfl) (by kernel_rfl) (by kernel_rfl) (fun _ _ _ h => h) (Or.inl ⟨by rfl, ?_⟩) hH ?_
          rotate_left
          · intro w hSw
            clear hSw
            go_simp
            with_reducible rfl
          simp only [Act.put, List.setIfInBounds_toArray, List.set_cons_zero, List.set_cons_succ]
          refine wpAnyH_take (i := 11) (oi := { dst := some 77, op := .move (.tmp 76), type := _, pos := _, after := _, guard := _ }) (v := ?_) rfl (by kernel_rfl) (by kernel_rfl) (by kernel_rfl) (fun _ _ _ h => h) (Or.inl ⟨by rfl, ?_⟩) hH ?_
          rotate_left
          · intro w hSw
            clear hSw
            go_simp
            with_reducible rfl
          simp only [Act.put, List.setIfInBounds_toArray, List.set_cons_zero, List.set_cons_succ]
          refine wpAnyH_take (i := 12) (oi := { dst := some 78, op := .move (.tmp 7), type := _, pos := _, after := _, guard := _ }) (v := ?_) rfl (by kernel_rfl) (by kernel_rfl) (by kernel_rfl) (fun _ _ _ h => h) (Or.inl ⟨by rfl, ?_⟩) hH ?_
          rotate_left
          · intro w hSw
            clear hSw
            go_simp
            with_reducible rfl
          simp only [Act.put, List.setIfInBounds_toArray, List.set_cons_zero, List.set_cons_succ]
          refine wpAnyH_take (i := 13) (oi := { dst := some 79, op := .move (.tmp 2), type := _, pos := _, after := _, guard := _ }) (v := ?_) rfl (by kernel_rfl) (by kernel_rfl) (by kernel_rfl) (fun _ _ _ h => h) (Or.inl ⟨by rfl, ?_⟩) hH ?_
          rotate_left
          · intro w hSw
            clear hSw
            go_simp
            with_reducible rfl
          simp only [Act.put, List.setIfInBounds_toArray, List.set_cons_zero, List.set_cons_succ]
          refine wpAnyH_take (i := 15) (oi := { dst := some 81, op := .load _ (.tmp 8), type := _, pos := _, after := _, guard := _ }) (v := _) rfl (by kernel_rfl) (by kernel_rfl) (by kernel_rfl) (fun _ _ _ h => h)
            (yieldsIf_load_mid (by rfl) _ _ rfl n4 _ rfl (row s.now (r1 * 8) 8) _ (fun _ h => h.2.2) hd rfl hj2) hH ?_
          simp only [Act.put, List.setIfInBounds_toArray, List.set_cons_zero, List.set_cons_succ]
          refine wpAnyH_ready (rs := [14]) (by kernel_rfl) (by simp) ?_
          refine AllReadyH.cons (o := { dst := some 80, op := _, type := _, pos := _, after := _, guard := _ }) rfl (fun K hK => ?_) AllReadyH.nil
          go_simp
          refine (lineNow_yes r1 b _ _ hr1 ha.drew).mono ?_
          rintro e ul ⟨rfl, gl⟩
          have Gl : Hid (Gr w ul) := Ga.out.drew.trans gl
          go_wp2_with fail
          refine hK.out _ _ ⟨range_gr hH.1 gl, range_gr hH.2.1 gl, range_gr hH.2.2 gl⟩ (fun hH => ?_)
          clear hK K
          refine wpAnyH_take (i := 16) (oi := { dst := some 82, op := .binOp .eql _ (.tmp 80) (.tmp 81) _, type := _, pos := _, after := _, guard := _ }) (v := ?_) rfl (by kernel_rfl) (by kernel_rfl) (by kernel_rfl) (fun _ _ _ h => h) (Or.inl ⟨by rfl, ?_⟩) hH ?_
          rotate_left
          · intro w hSw
            clear hSw
            go_simp
            with_reducible rfl
          simp only [Act.put, List.setIfInBounds_toArray, List.set_cons_zero, List.set_cons_succ]
          refine wpAnyH_take (i := 17) (oi := { dst := some 83, op := .pick (.tmp 77) (.tmp 82) (.const (.bool false)), type := _, pos := _, after := _, guard := _ }) (v := ?_) rfl (by kernel_rfl) (by kernel_rfl) (by kernel_rfl) (fun _ _ _ h => h) (Or.inl ⟨by rfl, ?_⟩) hH ?_
          rotate_left
          · intro w hSw
            clear hSw
            go_simp
            with_reducible rfl
          simp only [Act.put, List.setIfInBounds_toArray, List.set_cons_zero, List.set_cons_succ]
          refine wpAnyH_take (i := 18) (oi := { dst := some 6, op := .assign (.tmp 83), type := _, pos := _, after := _, guard := _ }) (v := ?_) rfl (by kernel_rfl) (by kernel_rfl) (by kernel_rfl) (fun _ _ _ h => h) (Or.inl ⟨by rfl, ?_⟩) hH ?_
          rotate_left
          · intro w hSw
            clear hSw
            go_simp
            with_reducible rfl
          simp only [Act.put, List.setIfInBounds_toArray, List.set_cons_zero, List.set_cons_succ]
          refine wpAnyH_done (by kernel_rfl) ?_ _
          go_wp2
          go_ret
          exact ⟨rfl, Gl.out⟩
    · have hm' : (30 : Int) < (n1 : Int) := by omega
      go_enter Try.func6, Try.ntmps6
      go_wp2_with fail
      refine (kept_any _).mono ?_
      rintro e u1 ⟨rfl, g1⟩
      go_wp2_with fail
      refine (done_any v0 n0 _ hn (D0.gr g1)).mono ?_
      rintro e u2 ⟨rfl, ⟨s, h2⟩, g2⟩
      go_wp2
      go_ret
      exact ⟨rfl, g1.trans g2⟩
  · go_enter Try.func6, Try.ntmps6
    go_wp2_with fail
    refine (kept_any _).mono ?_
    rintro e u1 ⟨rfl, g1⟩
    go_wp2_with fail
    refine (done_many _ n0 _ (by omega) (D0.gr g1)).mono ?_
    rintro e u2 ⟨rfl, g2⟩
    go_wp2
    go_ret
    exact ⟨rfl, g1.trans g2⟩


set_option maxRecDepth 100000 in
theorem lifted (os : Os) (started : os.Started) (H : Type) (enc : TypeId × Value → H) :
    ReturnsInHanded {} Try.checked os 6 .any (Rows.storeApartSpec.pre6 enc Try.prog Try.f6 Rows.storeApartRow.domain false) (Rows.storeApartSpec.post enc Try.prog Try.f6 false true false false) := by
  refine returnsInHanded_of_change (C := Try.checked) own started (by kernel_rfl) Try.func6
    (ChangeSpec.witness6 (enc := enc) (C := Try.checked) false ⟨#[], #[.slice none 0 0, .slice none 0 0, .int .i64 0], []⟩ 8 (by kernel_rfl) (by kernel_rfl) (by kernel_rfl) (by kernel_rfl)) ?_
  intro W base args ds gs before hval0 hW hcnd _
  have hval : ∀ (j : Nat) t v, Try.f6.params[j]? = some t → args[j]? = some v → Value.okWide Try.prog W .any base t v := hval0
  have hW' := hW
  obtain ⟨p, q, hA0, hV, rfl, hfz, hnd⟩ := hW
  have hA : DataW.TrodAll enc Try.prog W 0 (fun _ => true) true Try.f6.params.toList args.toList ds p := hA0
  rw [Try.params6] at hA hval
  obtain ⟨v0, vs0, d0, ds0, p0, q0, hargs, rfl, rfl, h0, r0⟩ := trodAll_cons hA
  obtain ⟨v1, vs1, d1, ds1, p1, q1, rfl, rfl, rfl, h1, r1⟩ := trodAll_cons r0
  obtain ⟨v2, vs2, d2, ds2, p2, q2, rfl, rfl, rfl, h2, r2⟩ := trodAll_cons r1
  obtain ⟨rfl, rfl, rfl⟩ := trodAll_nil r2
  obtain rfl : args = #[v0, v1, v2] := by cases args; simp_all
  obtain ⟨rfl, rfl⟩ := trodVars_none hV
  obtain ⟨n0, D0⟩ := deeds_of_trod (hval 0 22 v0 rfl rfl) h0
  obtain ⟨n1, D1⟩ := deeds_of_trod (hval 1 22 v1 rfl rfl) h1
  obtain ⟨a2, rfl, rfl, rfl, w2⟩ := open_int Try.underlying3 (hval 2 3 v2 rfl rfl) h2
  have hlt := hW'.lt
  clear hA0 hval0
  refine (walk v0 n0 v1 n1 a2 w2 W D0 D1).mono fun e W' ⟨he, hg⟩ => ?_
  subst he
  exact ⟨_, rfl, post_of_same (pv := []) hW' (fun _ _ _ => (trodAll_cons_mk (shut_bool Try.underlying4 _) trodAll_mk0)) (fun sp hsp => (trodAll_cons_mk (deeds_stay h0 hg.below (fun x hx => hlt x (by simp [hx])) (fun x hx => hsp x (by simp [hx]))) (trodAll_cons_mk (deeds_stay h1 hg.below (fun x hx => hlt x (by simp [hx])) (fun x hx => hsp x (by simp [hx]))) (trodAll_cons_mk (shut_int Try.underlying3 w2) trodAll_mk0)))) (fun _ _ => rfl) (by simp)
    (hg.grown.frame _) hg.froz (ok_one (by kernel_rfl) rfl (okWide_bool_mk Try.underlying4 _))⟩

theorem over : Rows.storeApartRow.holds Try.pinned (OpenSpec.ofChange Rows.storeApartSpec) :=
  OpenClaim.holds_of_wide 6 Try.f6 rfl rfl rfl rfl rfl rfl rfl ⟨rfl, rfl, rfl, rfl, rfl⟩ rfl rfl rfl rfl rfl (by kernel_rfl) Try.func6 (by kernel_rfl)
    (of_decide_eq_true (by kernel_rfl)) (by unfold Func.isWrapper; first | (rw [if_pos (by decide +kernel)]; kernel_rfl) | (rw [if_neg (by decide +kernel)]; exact ⟨rfl, rfl⟩))
    (fun os started H enc _ => lifted os started H enc)

theorem proved : Rows.StoreApartSaid :=
  over
#print axioms proved
end Go.Proofs.Ythgkmbimmelglab.storeApart
