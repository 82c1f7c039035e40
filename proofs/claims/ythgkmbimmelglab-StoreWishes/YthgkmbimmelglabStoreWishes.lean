/- StoreWishes is proved: for every list of deeds, every two threads, line, word of it and number the call returns true (what is wanted alone, and what others fence, stays as it was for good), with no condition beyond the form's own. -/
import Derived.Test.YthgkmbimmelglabRows
import Derived.Test.YthgkmbimmelglabArgs
import Derived.Test.YthgkmbimmelglabKp3
import Derived.Test.YthgkmbimmelglabLoc
import Derived.Test.YthgkmbimmelglabStGood
import Derived.Deep.RegionHeld3
import Derived.WalkKit

namespace Go.Proofs.Ythgkmbimmelglab.storeWishes
open Go.ChangeShapes Go.WideShapes Go.ChangeAt Go.RowKit
set_option linter.unusedVariables false

theorem own : ownKnob Try.prog.godebug = none := by kernel_rfl

set_option maxHeartbeats 2000000 in
theorem walk (v0 : Value) (n0 : Nat) (a1 : Int) (a2 : Int) (a3 : Int) (a4 : Int) (a5 : Int) (w1 : (Lit.int .i64 a1).wf = true) (w2 : (Lit.int .i64 a2).wf = true) (w3 : (Lit.int .i64 a3).wf = true) (w4 : (Lit.int .i64 a4).wf = true) (w5 : (Lit.int .u64 a5).wf = true) (w : World) (D0 : Deeds w v0 n0) :
    Calls Try.prog 4 #[v0, .int .i64 a1, .int .i64 a2, .int .i64 a3, .int .i64 a4, .int .u64 a5] w fun e w' => e = .returned (.bool true) ∧ Gr w w' := by
  clear w1 w2 w3 w4 w5
  have HL : ∃ A c, v0 = .slice A n0 c := by
    rcases D0 with ⟨h, rfl⟩ | ⟨a, c, h, _⟩
    · exact ⟨_, _, h⟩
    · exact ⟨_, _, h⟩
  by_cases hn : n0 ≤ 60
  · clear HL
    obtain ⟨r1, hr1, p1⟩ := pick_fun a1 4 (by decide) (by decide)
    have P1 : Hid _ := p1
    clear p1
    obtain ⟨r2, hr2, p2⟩ := pick_fun a2 4 (by decide) (by decide)
    have P2 : Hid _ := p2
    clear p2
    obtain ⟨r3, hr3, p3⟩ := pick_fun a3 9 (by decide) (by decide)
    have P3 : Hid _ := p3
    clear p3
    obtain ⟨r4, hr4, p4⟩ := pick_fun a4 8 (by decide) (by decide)
    have P4 : Hid _ := p4
    clear p4
    go_enter Try.func4, Try.ntmps4
    go_wp2_with fail
    refine (kept_any _).mono ?_
    rintro e u1 ⟨rfl, g1⟩
    go_wp2_with fail
    refine (done_any v0 n0 _ hn (D0.gr g1)).mono ?_
    rintro e u2 ⟨rfl, ⟨s, h2⟩, g2⟩
    have hb : Hid (w.heap.size ≤ u1.heap.size) := g1.below.size
    generalize u1.heap.size = b at *
    have G : Hid (Gr w u2) := g1.trans g2
    clear g1 g2
    go_wp2_with fail
    refine (P1.out _).mono ?_
    rintro e ux ⟨rfl, hw⟩
    rw [hw]; clear hw ux
    go_wp2_with fail
    refine (P2.out _).mono ?_
    rintro e ux ⟨rfl, hw⟩
    rw [hw]; clear hw ux
    go_wp2_with fail
    refine (P3.out _).mono ?_
    rintro e ux ⟨rfl, hw⟩
    rw [hw]; clear hw ux
    go_wp2_with fail
    refine (Crash_any 0 b s _ (by decide) h2).mono ?_
    rintro e u3 ⟨rfl, h3, o3⟩
    have G3 : Hid (Gr w u3) := G.out.only hb.out o3
    clear G o3 h2
    go_wp2_with fail
    refine (Good_yes r3 b _ _ hr3 h3).mono ?_
    rintro e u4 ⟨rfl, g4⟩
    have h4 := h3.gr g4
    have G4 : Hid (Gr w u4) := G3.out.trans g4
    clear G3 g4 h3
    go_wp2_with (refine wpList_store_mid rfl 29 _ _ rfl _ _ (row (s.crash 0).good (r3 * 8) 8).toArray rfl rfl (row_there _ _ _ _ _ rfl) (line_size2 (s.crash 0).good (r3 * 8)) (row_all (s.crash 0).good (r3 * 8)) ?_
                 have B5 := loc_born u4 #[.int .u64 0, .int .u64 0, .int .u64 0, .int .u64 0, .int .u64 0, .int .u64 0, .int .u64 0, .int .u64 0] 29 (s.crash 0).good (r3 * 8) rfl
                 generalize (u4.alloc (.cells #[.int .u64 0, .int .u64 0, .int .u64 0, .int .u64 0, .int .u64 0, .int .u64 0, .int .u64 0, .int .u64 0] 29)).setCells u4.heap.size 0 (row (s.crash 0).good (r3 * 8) 8) = u5 at B5 ⊢
                 generalize hn5 : u4.heap.size = n5 at *)
    have ne5 : n5 ≠ b := by have := h4.lt; omega
    obtain ⟨gB5, L5⟩ := B5
    have h5 := h4.gr gB5
    have G5 : Hid (Gr w u5) := G4.out.trans gB5
    clear G4 gB5 h4 hn5
    refine (P4.out _).mono ?_
    rintro e ux ⟨rfl, hw⟩
    rw [hw]; clear hw ux
    go_wp2_with fail
    refine (Save_at _ (r3 * 8 + r4) b _ _ _ (by omega) (by omega) h5).mono ?_
    rintro e u6 ⟨rfl, h6, o6⟩
    go_wp2_with fail
    refine (Flush_yes r1 r3 b _ _ hr1 hr3 h6).mono ?_
    rintro e u7 ⟨rfl, h7, o7⟩
    have G7 : Hid (Gr w u7) := (G5.out.only hb.out o6).only hb.out o7
    have L7 := range_only (range_only L5 ne5 o6) ne5 o7
    clear G5 o6 o7 h5 h6 L5
    by_cases hq : r2 = r1
    · subst hq
      have h8 := h7
      have G8 := G7
      have L8 := L7
      have e1 : same (((s.crash 0).save (r3 * 8 + r4) a5).wish r2 r3).good (r3 * 8) (s.crash 0).good (r3 * 8) 8 = true := same_of _ _ _ _ _ fun _ _ => rfl
      have e2 : same ((((s.crash 0).save (r3 * 8 + r4) a5).wish r2 r3).crash 0).now (r3 * 8) (s.crash 0).good (r3 * 8) 8 = true := same_of _ _ _ _ _ fun i hi => by rw [crash0_now]; rfl
      clear h7 G7 L7
      go_wp2_with fail
      generalize hs4 : (((s.crash 0).save (r3 * 8 + r4) a5).wish r2 r3) = s4 at *
      clear hs4
      refine (Good_yes r3 b s4 _ hr3 h8).mono ?_
      rintro e u9 ⟨rfl, g9⟩
      have h9 := h8.gr g9
      have G9 : Hid (Gr w u9) := G8.out.trans g9
      have L9 := range_gr L8 g9
      clear G8 g9 h8 L8
      go_wp2_with (refine wpList_store_mid rfl 29 _ _ rfl _ _ (row s4.good (r3 * 8) 8).toArray rfl rfl (row_there _ _ _ _ _ rfl) (line_size2 s4.good (r3 * 8)) (row_all s4.good (r3 * 8)) ?_
                   have Ba := loc_born u9 #[.int .u64 0, .int .u64 0, .int .u64 0, .int .u64 0, .int .u64 0, .int .u64 0, .int .u64 0, .int .u64 0] 29 s4.good (r3 * 8) rfl
                   generalize (u9.alloc (.cells #[.int .u64 0, .int .u64 0, .int .u64 0, .int .u64 0, .int .u64 0, .int .u64 0, .int .u64 0, .int .u64 0] 29)).setCells u9.heap.size 0 (row s4.good (r3 * 8) 8) = ua at Ba ⊢
                   generalize hna : u9.heap.size = na at *)
      have nea : na ≠ b := by have := h9.lt; omega
      obtain ⟨gBa, La⟩ := Ba
      have ha := h9.gr gBa
      have Ga : Hid (Gr w ua) := G9.out.trans gBa
      have M := range_gr L9 gBa
      clear G9 gBa h9 hna L9
      refine (Crash_any 0 b _ _ (by decide) ha).mono ?_
      rintro e uc ⟨rfl, hc, oc⟩
      have Gc : Hid (Gr w uc) := Ga.out.only hb.out oc
      have hH0 : Hid (uc.drew.rangeAt na 0 (row s4.good (r3 * 8) 8) ∧ uc.drew.rangeAt n5 0 (row (s.crash 0).good (r3 * 8) 8)) := ⟨range_drew (range_only La nea oc), range_drew (range_only M ne5 oc)⟩
      clear La M ha Ga oc
      have hd := line_desc
      have hj := line_size s4.good (r3 * 8)
      have hj2 := line_size (s.crash 0).good (r3 * 8)
      have he := line_equal s4.good (s.crash 0).good (r3 * 8) (r3 * 8)
      have he2 := line_equal (s4.crash 0).now (s.crash 0).good (r3 * 8) (r3 * 8)
      rw [e1] at he
      rw [e2] at he2
      clear e1 e2
      go_wp2_with fail
      refine wp_region_held_drew (S := fun w' => w'.rangeAt na 0 (row s4.good (r3 * 8) 8) ∧ w'.rangeAt n5 0 (row (s.crash 0).good (r3 * 8) 8)) (by kernel_rfl) hH0.out (fun hH => ?_)
      refine wpAnyH_take (i := 0) (oi := { dst := some 78, op := .move (.tmp 17), type := _, pos := _, after := _, guard := _ }) (v := ?_) rfl (by kernel_rfl) (by kernel_rfl) (by kernel_rfl) (fun _ _ _ h => h) (Or.inl ⟨by rfl, ?_⟩) hH ?_
      rotate_left
      · intro w hSw
        clear hSw
        go_simp
        with_reducible rfl
      simp only [Act.put, List.setIfInBounds_toArray, List.set_cons_zero, List.set_cons_succ]
      refine wpAnyH_take (i := 1) (oi := { dst := some 79, op := .binOp .eql _ (.tmp 78) (.const .nilIface) _, type := _, pos := _, after := _, guard := _ }) (v := ?_) rfl (by kernel_rfl) (by kernel_rfl) (by kernel_rfl) (fun _ _ _ h => h) (Or.inl ⟨by rfl, ?_⟩) hH ?_
      rotate_left
      · intro w hSw
        clear hSw
        go_simp
        with_reducible rfl
      simp only [Act.put, List.setIfInBounds_toArray, List.set_cons_zero, List.set_cons_succ]
      refine wpAnyH_take (i := 2) (oi := { dst := some 80, op := .move (.tmp 79), type := _, pos := _, after := _, guard := _ }) (v := ?_) rfl (by kernel_rfl) (by kernel_rfl) (by kernel_rfl) (fun _ _ _ h => h) (Or.inl ⟨by rfl, ?_⟩) hH ?_
      rotate_left
      · intro w hSw
        clear hSw
        go_simp
        with_reducible rfl
      simp only [Act.put, List.setIfInBounds_toArray, List.set_cons_zero, List.set_cons_succ]
      refine wpAnyH_take (i := 3) (oi := { dst := some 81, op := .load _ (.tmp 16), type := _, pos := _, after := _, guard := _ }) (v := _) rfl (by kernel_rfl) (by kernel_rfl) (by kernel_rfl) (fun _ _ _ h => h)
        (yieldsIf_load_mid (by rfl) _ _ rfl na _ rfl (row s4.good (r3 * 8) 8) _ (fun _ h => h.1) hd rfl hj) hH ?_
      simp only [Act.put, List.setIfInBounds_toArray, List.set_cons_zero, List.set_cons_succ]
      refine wpAnyH_take (i := 4) (oi := { dst := some 82, op := .load _ (.tmp 14), type := _, pos := _, after := _, guard := _ }) (v := _) rfl (by kernel_rfl) (by kernel_rfl) (by kernel_rfl) (fun _ _ _ h => h)
        (yieldsIf_load_mid (by rfl) _ _ rfl n5 _ rfl (row (s.crash 0).good (r3 * 8) 8) _ (fun _ h => h.2) hd rfl hj2) hH ?_
      simp only [Act.put, List.setIfInBounds_toArray, List.set_cons_zero, List.set_cons_succ]
      refine wpAnyH_take (i := 5) (oi := { dst := some 83, op := .binOp .eql _ (.tmp 81) (.tmp 82) _, type := _, pos := _, after := _, guard := _ }) (v := ?_) rfl (by kernel_rfl) (by kernel_rfl) (by kernel_rfl) (fun _ _ _ h => h) (Or.inl ⟨by rfl, ?_⟩) hH ?_
      rotate_left
      · intro w hSw
        clear hSw
        go_simp
        with_reducible rfl
      simp only [Act.put, List.setIfInBounds_toArray, List.set_cons_zero, List.set_cons_succ]
      refine wpAnyH_take (i := 6) (oi := { dst := some 84, op := .pick (.tmp 80) (.tmp 83) (.const (.bool false)), type := _, pos := _, after := _, guard := _ }) (v := ?_) rfl (by kernel_rfl) (by kernel_rfl) (by kernel_rfl) (fun _ _ _ h => h) (Or.inl ⟨by rfl, ?_⟩) hH ?_
      rotate_left
      · intro w hSw
        clear hSw
        go_simp
        with_reducible rfl
      simp only [Act.put, List.setIfInBounds_toArray, List.set_cons_zero, List.set_cons_succ]
      refine wpAnyH_take (i := 7) (oi := { dst := some 85, op := .move (.tmp 84), type := _, pos := _, after := _, guard := _ }) (v := ?_) rfl (by kernel_rfl) (by kernel_rfl) (by kernel_rfl) (fun _ _ _ h => h) (Or.inl ⟨by rfl, ?_⟩) hH ?_
      rotate_left
      · intro w hSw
        clear hSw
        go_simp
        with_reducible rfl
      simp only [Act.put, List.setIfInBounds_toArray, List.set_cons_zero, List.set_cons_succ]
      refine wpAnyH_take (i := 8) (oi := { dst := some 86, op := .move (.tmp 13), type := _, pos := _, after := _, guard := _ }) (v := ?_) rfl (by kernel_rfl) (by kernel_rfl) (by kernel_rfl) (fun _ _ _ h => h) (Or.inl ⟨by rfl, ?_⟩) hH ?_
      rotate_left
      · intro w hSw
        clear hSw
        go_simp
        with_reducible rfl
      simp only [Act.put, List.setIfInBounds_toArray, List.set_cons_zero, List.set_cons_succ]
      refine wpAnyH_take (i := 9) (oi := { dst := some 87, op := .move (.tmp 3), type := _, pos := _, after := _, guard := _ }) (v := ?_) rfl (by kernel_rfl) (by kernel_rfl) (by kernel_rfl) (fun _ _ _ h => h) (Or.inl ⟨by rfl, ?_⟩) hH ?_
      rotate_left
      · intro w hSw
        clear hSw
        go_simp
        with_reducible rfl
      simp only [Act.put, List.setIfInBounds_toArray, List.set_cons_zero, List.set_cons_succ]
      refine wpAnyH_take (i := 11) (oi := { dst := some 89, op := .load _ (.tmp 14), type := _, pos := _, after := _, guard := _ }) (v := _) rfl (by kernel_rfl) (by kernel_rfl) (by kernel_rfl) (fun _ _ _ h => h)
        (yieldsIf_load_mid (by rfl) _ _ rfl n5 _ rfl (row (s.crash 0).good (r3 * 8) 8) _ (fun _ h => h.2) hd rfl hj2) hH ?_
      simp only [Act.put, List.setIfInBounds_toArray, List.set_cons_zero, List.set_cons_succ]
      refine wpAnyH_ready (rs := [10]) (by kernel_rfl) (by simp) ?_
      refine AllReadyH.cons (o := { dst := some 88, op := _, type := _, pos := _, after := _, guard := _ }) rfl (fun K hK => ?_) AllReadyH.nil
      go_simp
      refine (lineNow_yes r3 b _ _ hr3 hc.drew).mono ?_
      rintro e ul ⟨rfl, gl⟩
      have Gl : Hid (Gr w ul) := Gc.out.drew.trans gl
      go_wp2_with fail
      refine hK.out _ _ ⟨range_gr hH.1 gl, range_gr hH.2 gl⟩ (fun hH => ?_)
      clear hK K
      refine wpAnyH_take (i := 12) (oi := { dst := some 90, op := .binOp .eql _ (.tmp 88) (.tmp 89) _, type := _, pos := _, after := _, guard := _ }) (v := ?_) rfl (by kernel_rfl) (by kernel_rfl) (by kernel_rfl) (fun _ _ _ h => h) (Or.inl ⟨by rfl, ?_⟩) hH ?_
      rotate_left
      · intro w hSw
        clear hSw
        go_simp
        with_reducible rfl
      simp only [Act.put, List.setIfInBounds_toArray, List.set_cons_zero, List.set_cons_succ]
      refine wpAnyH_take (i := 13) (oi := { dst := some 91, op := .pick (.tmp 85) (.tmp 90) (.const (.bool false)), type := _, pos := _, after := _, guard := _ }) (v := ?_) rfl (by kernel_rfl) (by kernel_rfl) (by kernel_rfl) (fun _ _ _ h => h) (Or.inl ⟨by rfl, ?_⟩) hH ?_
      rotate_left
      · intro w hSw
        clear hSw
        go_simp
        with_reducible rfl
      simp only [Act.put, List.setIfInBounds_toArray, List.set_cons_zero, List.set_cons_succ]
      refine wpAnyH_take (i := 14) (oi := { dst := some 12, op := .assign (.tmp 91), type := _, pos := _, after := _, guard := _ }) (v := ?_) rfl (by kernel_rfl) (by kernel_rfl) (by kernel_rfl) (fun _ _ _ h => h) (Or.inl ⟨by rfl, ?_⟩) hH ?_
      rotate_left
      · intro w hSw
        clear hSw
        go_simp
        with_reducible rfl
      simp only [Act.put, List.setIfInBounds_toArray, List.set_cons_zero, List.set_cons_succ]
      refine wpAnyH_done (by kernel_rfl) ?_ _
      go_wp2
      go_ret
      exact ⟨rfl, Gl.out⟩
    · have hq' : ¬ ((r2 : Int) = (r1 : Int)) := by omega
      have e1 : same ((((s.crash 0).save (r3 * 8 + r4) a5).wish r1 r3).fence r2).good (r3 * 8) (s.crash 0).good (r3 * 8) 8 = true := same_of _ _ _ _ _ fun i hi => wishes_good s r1 r2 r3 _ i _ hi hq
      have e2 : same (((((s.crash 0).save (r3 * 8 + r4) a5).wish r1 r3).fence r2).crash 0).now (r3 * 8) (s.crash 0).good (r3 * 8) 8 = true := same_of _ _ _ _ _ fun i hi => by rw [crash0_now]; exact wishes_good s r1 r2 r3 _ i _ hi hq
      clear hq
      go_wp2_with fail
      refine (Fence_yes r2 b _ _ hr2 h7).mono ?_
      rintro e u8 ⟨rfl, h8, o8⟩
      have G8 : Hid (Gr w u8) := G7.out.only hb.out o8
      have L8 := range_only L7 ne5 o8
      clear G7 o8 h7 L7
      go_wp2_with fail
      generalize hs4 : ((((s.crash 0).save (r3 * 8 + r4) a5).wish r1 r3).fence r2) = s4 at *
      clear hs4
      refine (Good_yes r3 b s4 _ hr3 h8).mono ?_
      rintro e u9 ⟨rfl, g9⟩
      have h9 := h8.gr g9
      have G9 : Hid (Gr w u9) := G8.out.trans g9
      have L9 := range_gr L8 g9
      clear G8 g9 h8 L8
      go_wp2_with (refine wpList_store_mid rfl 29 _ _ rfl _ _ (row s4.good (r3 * 8) 8).toArray rfl rfl (row_there _ _ _ _ _ rfl) (line_size2 s4.good (r3 * 8)) (row_all s4.good (r3 * 8)) ?_
                   have Ba := loc_born u9 #[.int .u64 0, .int .u64 0, .int .u64 0, .int .u64 0, .int .u64 0, .int .u64 0, .int .u64 0, .int .u64 0] 29 s4.good (r3 * 8) rfl
                   generalize (u9.alloc (.cells #[.int .u64 0, .int .u64 0, .int .u64 0, .int .u64 0, .int .u64 0, .int .u64 0, .int .u64 0, .int .u64 0] 29)).setCells u9.heap.size 0 (row s4.good (r3 * 8) 8) = ua at Ba ⊢
                   generalize hna : u9.heap.size = na at *)
      have nea : na ≠ b := by have := h9.lt; omega
      obtain ⟨gBa, La⟩ := Ba
      have ha := h9.gr gBa
      have Ga : Hid (Gr w ua) := G9.out.trans gBa
      have M := range_gr L9 gBa
      clear G9 gBa h9 hna L9
      refine (Crash_any 0 b _ _ (by decide) ha).mono ?_
      rintro e uc ⟨rfl, hc, oc⟩
      have Gc : Hid (Gr w uc) := Ga.out.only hb.out oc
      have hH0 : Hid (uc.drew.rangeAt na 0 (row s4.good (r3 * 8) 8) ∧ uc.drew.rangeAt n5 0 (row (s.crash 0).good (r3 * 8) 8)) := ⟨range_drew (range_only La nea oc), range_drew (range_only M ne5 oc)⟩
      clear La M ha Ga oc
      have hd := line_desc
      have hj := line_size s4.good (r3 * 8)
      have hj2 := line_size (s.crash 0).good (r3 * 8)
      have he := line_equal s4.good (s.crash 0).good (r3 * 8) (r3 * 8)
      have he2 := line_equal (s4.crash 0).now (s.crash 0).good (r3 * 8) (r3 * 8)
      rw [e1] at he
      rw [e2] at he2
      clear e1 e2
      go_wp2_with fail
      refine wp_region_held_drew (S := fun w' => w'.rangeAt na 0 (row s4.good (r3 * 8) 8) ∧ w'.rangeAt n5 0 (row (s.crash 0).good (r3 * 8) 8)) (by kernel_rfl) hH0.out (fun hH => ?_)
      refine wpAnyH_take (i := 0) (oi := { dst := some 78, op := .move (.tmp 17), type := _, pos := _, after := _, guard := _ }) (v := ?_) rfl (by kernel_rfl) (by kernel_rfl) (by kernel_rfl) (fun _ _ _ h => h) (Or.inl ⟨by rfl, ?_⟩) hH ?_
      rotate_left
      · intro w hSw
        clear hSw
        go_simp
        with_reducible rfl
      simp only [Act.put, List.setIfInBounds_toArray, List.set_cons_zero, List.set_cons_succ]
      refine wpAnyH_take (i := 1) (oi := { dst := some 79, op := .binOp .eql _ (.tmp 78) (.const .nilIface) _, type := _, pos := _, after := _, guard := _ }) (v := ?_) rfl (by kernel_rfl) (by kernel_rfl) (by kernel_rfl) (fun _ _ _ h => h) (Or.inl ⟨by rfl, ?_⟩) hH ?_
      rotate_left
      · intro w hSw
        clear hSw
        go_simp
        with_reducible rfl
      simp only [Act.put, List.setIfInBounds_toArray, List.set_cons_zero, List.set_cons_succ]
      refine wpAnyH_take (i := 2) (oi := { dst := some 80, op := .move (.tmp 79), type := _, pos := _, after := _, guard := _ }) (v := ?_) rfl (by kernel_rfl) (by kernel_rfl) (by kernel_rfl) (fun _ _ _ h => h) (Or.inl ⟨by rfl, ?_⟩) hH ?_
      rotate_left
      · intro w hSw
        clear hSw
        go_simp
        with_reducible rfl
      simp only [Act.put, List.setIfInBounds_toArray, List.set_cons_zero, List.set_cons_succ]
      refine wpAnyH_take (i := 3) (oi := { dst := some 81, op := .load _ (.tmp 16), type := _, pos := _, after := _, guard := _ }) (v := _) rfl (by kernel_rfl) (by kernel_rfl) (by kernel_rfl) (fun _ _ _ h => h)
        (yieldsIf_load_mid (by rfl) _ _ rfl na _ rfl (row s4.good (r3 * 8) 8) _ (fun _ h => h.1) hd rfl hj) hH ?_
      simp only [Act.put, List.setIfInBounds_toArray, List.set_cons_zero, List.set_cons_succ]
      refine wpAnyH_take (i := 4) (oi := { dst := some 82, op := .load _ (.tmp 14), type := _, pos := _, after := _, guard := _ }) (v := _) rfl (by kernel_rfl) (by kernel_rfl) (by kernel_rfl) (fun _ _ _ h => h)
        (yieldsIf_load_mid (by rfl) _ _ rfl n5 _ rfl (row (s.crash 0).good (r3 * 8) 8) _ (fun _ h => h.2) hd rfl hj2) hH ?_
      simp only [Act.put, List.setIfInBounds_toArray, List.set_cons_zero, List.set_cons_succ]
      refine wpAnyH_take (i := 5) (oi := { dst := some 83, op := .binOp .eql _ (.tmp 81) (.tmp 82) _, type := _, pos := _, after := _, guard := _ }) (v := ?_) rfl (by kernel_rfl) (by kernel_rfl) (by kernel_rfl) (fun _ _ _ h => h) (Or.inl ⟨by rfl, ?_⟩) hH ?_
      rotate_left
      · intro w hSw
        clear hSw
        go_simp
        with_reducible rfl
      simp only [Act.put, List.setIfInBounds_toArray, List.set_cons_zero, List.set_cons_succ]
      refine wpAnyH_take (i := 6) (oi := { dst := some 84, op := .pick (.tmp 80) (.tmp 83) (.const (.bool false)), type := _, pos := _, after := _, guard := _ }) (v := ?_) rfl (by kernel_rfl) (by kernel_rfl) (by kernel_rfl) (fun _ _ _ h => h) (Or.inl ⟨by rfl, ?_⟩) hH ?_
      rotate_left
      · intro w hSw
        clear hSw
        go_simp
        with_reducible rfl
      simp only [Act.put, List.setIfInBounds_toArray, List.set_cons_zero, List.set_cons_succ]
      refine wpAnyH_take (i := 7) (oi := { dst := some 85, op := .move (.tmp 84), type := _, pos := _, after := _, guard := _ }) (v := ?_) rfl (by kernel_rfl) (by kernel_rfl) (by kernel_rfl) (fun _ _ _ h => h) (Or.inl ⟨by rfl, ?_⟩) hH ?_
      rotate_left
      · intro w hSw
        clear hSw
        go_simp
        with_reducible rfl
      simp only [Act.put, List.setIfInBounds_toArray, List.set_cons_zero, List.set_cons_succ]
      refine wpAnyH_take (i := 8) (oi := { dst := some 86, op := .move (.tmp 13), type := _, pos := _, after := _, guard := _ }) (v := ?_) rfl (by kernel_rfl) (by kernel_rfl) (by kernel_rfl) (fun _ _ _ h => h) (Or.inl ⟨by rfl, ?_⟩) hH ?_
      rotate_left
      · intro w hSw
        clear hSw
        go_simp
        with_reducible rfl
      simp only [Act.put, List.setIfInBounds_toArray, List.set_cons_zero, List.set_cons_succ]
      refine wpAnyH_take (i := 9) (oi := { dst := some 87, op := .move (.tmp 3), type := _, pos := _, after := _, guard := _ }) (v := ?_) rfl (by kernel_rfl) (by kernel_rfl) (by kernel_rfl) (fun _ _ _ h => h) (Or.inl ⟨by rfl, ?_⟩) hH ?_
      rotate_left
      · intro w hSw
        clear hSw
        go_simp
        with_reducible rfl
      simp only [Act.put, List.setIfInBounds_toArray, List.set_cons_zero, List.set_cons_succ]
      refine wpAnyH_take (i := 11) (oi := { dst := some 89, op := .load _ (.tmp 14), type := _, pos := _, after := _, guard := _ }) (v := _) rfl (by kernel_rfl) (by kernel_rfl) (by kernel_rfl) (fun _ _ _ h => h)
        (yieldsIf_load_mid (by rfl) _ _ rfl n5 _ rfl (row (s.crash 0).good (r3 * 8) 8) _ (fun _ h => h.2) hd rfl hj2) hH ?_
      simp only [Act.put, List.setIfInBounds_toArray, List.set_cons_zero, List.set_cons_succ]
      refine wpAnyH_ready (rs := [10]) (by kernel_rfl) (by simp) ?_
      refine AllReadyH.cons (o := { dst := some 88, op := _, type := _, pos := _, after := _, guard := _ }) rfl (fun K hK => ?_) AllReadyH.nil
      go_simp
      refine (lineNow_yes r3 b _ _ hr3 hc.drew).mono ?_
      rintro e ul ⟨rfl, gl⟩
      have Gl : Hid (Gr w ul) := Gc.out.drew.trans gl
      go_wp2_with fail
      refine hK.out _ _ ⟨range_gr hH.1 gl, range_gr hH.2 gl⟩ (fun hH => ?_)
      clear hK K
      refine wpAnyH_take (i := 12) (oi := { dst := some 90, op := .binOp .eql _ (.tmp 88) (.tmp 89) _, type := _, pos := _, after := _, guard := _ }) (v := ?_) rfl (by kernel_rfl) (by kernel_rfl) (by kernel_rfl) (fun _ _ _ h => h) (Or.inl ⟨by rfl, ?_⟩) hH ?_
      rotate_left
      · intro w hSw
        clear hSw
        go_simp
        with_reducible rfl
      simp only [Act.put, List.setIfInBounds_toArray, List.set_cons_zero, List.set_cons_succ]
      refine wpAnyH_take (i := 13) (oi := { dst := some 91, op := .pick (.tmp 85) (.tmp 90) (.const (.bool false)), type := _, pos := _, after := _, guard := _ }) (v := ?_) rfl (by kernel_rfl) (by kernel_rfl) (by kernel_rfl) (fun _ _ _ h => h) (Or.inl ⟨by rfl, ?_⟩) hH ?_
      rotate_left
      · intro w hSw
        clear hSw
        go_simp
        with_reducible rfl
      simp only [Act.put, List.setIfInBounds_toArray, List.set_cons_zero, List.set_cons_succ]
      refine wpAnyH_take (i := 14) (oi := { dst := some 12, op := .assign (.tmp 91), type := _, pos := _, after := _, guard := _ }) (v := ?_) rfl (by kernel_rfl) (by kernel_rfl) (by kernel_rfl) (fun _ _ _ h => h) (Or.inl ⟨by rfl, ?_⟩) hH ?_
      rotate_left
      · intro w hSw
        clear hSw
        go_simp
        with_reducible rfl
      simp only [Act.put, List.setIfInBounds_toArray, List.set_cons_zero, List.set_cons_succ]
      refine wpAnyH_done (by kernel_rfl) ?_ _
      go_wp2
      go_ret
      exact ⟨rfl, Gl.out⟩
  · obtain ⟨A, c, rfl⟩ := HL
    have hn' : (60 : Int) < (n0 : Int) := by omega
    go_enter Try.func4, Try.ntmps4
    go_wp2_with fail
    refine (kept_any _).mono ?_
    rintro e u1 ⟨rfl, g1⟩
    go_wp2_with fail
    refine (done_many _ n0 _ (by omega) (D0.gr g1)).mono ?_
    rintro e u2 ⟨rfl, g2⟩
    go_wp2
    go_ret
    exact ⟨rfl, g1.trans g2⟩


set_option maxRecDepth 100000 in
theorem lifted (os : Os) (started : os.Started) (H : Type) (enc : TypeId × Value → H) :
    ReturnsInHanded {} Try.checked os 4 .any (Rows.storeWishesSpec.pre6 enc Try.prog Try.f4 Rows.storeWishesRow.domain false) (Rows.storeWishesSpec.post enc Try.prog Try.f4 false true false false) := by
  refine returnsInHanded_of_change (C := Try.checked) own started (by kernel_rfl) Try.func4
    (ChangeSpec.witness6 (enc := enc) (C := Try.checked) false ⟨#[], #[.slice none 0 0, .int .i64 0, .int .i64 0, .int .i64 0, .int .i64 0, .int .u64 0], []⟩ 8 (by kernel_rfl) (by kernel_rfl) (by kernel_rfl) (by kernel_rfl)) ?_
  intro W base args ds gs before hval0 hW hcnd _
  have hval : ∀ (j : Nat) t v, Try.f4.params[j]? = some t → args[j]? = some v → Value.okWide Try.prog W .any base t v := hval0
  have hW' := hW
  obtain ⟨p, q, hA0, hV, rfl, hfz, hnd⟩ := hW
  have hA : DataW.TrodAll enc Try.prog W 0 (fun _ => true) true Try.f4.params.toList args.toList ds p := hA0
  rw [Try.params4] at hA hval
  obtain ⟨v0, vs0, d0, ds0, p0, q0, hargs, rfl, rfl, h0, r0⟩ := trodAll_cons hA
  obtain ⟨v1, vs1, d1, ds1, p1, q1, rfl, rfl, rfl, h1, r1⟩ := trodAll_cons r0
  obtain ⟨v2, vs2, d2, ds2, p2, q2, rfl, rfl, rfl, h2, r2⟩ := trodAll_cons r1
  obtain ⟨v3, vs3, d3, ds3, p3, q3, rfl, rfl, rfl, h3, r3⟩ := trodAll_cons r2
  obtain ⟨v4, vs4, d4, ds4, p4, q4, rfl, rfl, rfl, h4, r4⟩ := trodAll_cons r3
  obtain ⟨v5, vs5, d5, ds5, p5, q5, rfl, rfl, rfl, h5, r5⟩ := trodAll_cons r4
  obtain ⟨rfl, rfl, rfl⟩ := trodAll_nil r5
  obtain rfl : args = #[v0, v1, v2, v3, v4, v5] := by cases args; simp_all
  obtain ⟨rfl, rfl⟩ := trodVars_none hV
  obtain ⟨n0, D0⟩ := deeds_of_trod (hval 0 22 v0 rfl rfl) h0
  obtain ⟨a1, rfl, rfl, rfl, w1⟩ := open_int Try.underlying3 (hval 1 3 v1 rfl rfl) h1
  obtain ⟨a2, rfl, rfl, rfl, w2⟩ := open_int Try.underlying3 (hval 2 3 v2 rfl rfl) h2
  obtain ⟨a3, rfl, rfl, rfl, w3⟩ := open_int Try.underlying3 (hval 3 3 v3 rfl rfl) h3
  obtain ⟨a4, rfl, rfl, rfl, w4⟩ := open_int Try.underlying3 (hval 4 3 v4 rfl rfl) h4
  obtain ⟨a5, rfl, rfl, rfl, w5⟩ := open_int Try.underlying23 (hval 5 23 v5 rfl rfl) h5
  have hlt := hW'.lt
  clear hA0 hval0
  refine (walk v0 n0 a1 a2 a3 a4 a5 w1 w2 w3 w4 w5 W D0).mono fun e W' ⟨he, hg⟩ => ?_
  subst he
  exact ⟨_, rfl, post_of_same (pv := []) hW' (fun _ _ _ => (trodAll_cons_mk (shut_bool Try.underlying4 _) trodAll_mk0)) (fun sp hsp => (trodAll_cons_mk (deeds_stay h0 hg.below (fun x hx => hlt x (by simp [hx])) (fun x hx => hsp x (by simp [hx]))) (trodAll_cons_mk (shut_int Try.underlying3 w1) (trodAll_cons_mk (shut_int Try.underlying3 w2) (trodAll_cons_mk (shut_int Try.underlying3 w3) (trodAll_cons_mk (shut_int Try.underlying3 w4) (trodAll_cons_mk (shut_int Try.underlying23 w5) trodAll_mk0))))))) (fun _ _ => rfl) (by simp)
    (hg.grown.frame _) hg.froz (ok_one (by kernel_rfl) rfl (okWide_bool_mk Try.underlying4 _))⟩

theorem over : Rows.storeWishesRow.holds Try.pinned (OpenSpec.ofChange Rows.storeWishesSpec) :=
  OpenClaim.holds_of_wide 4 Try.f4 rfl rfl rfl rfl rfl rfl rfl ⟨rfl, rfl, rfl, rfl, rfl⟩ rfl rfl rfl rfl rfl (by kernel_rfl) Try.func4 (by kernel_rfl)
    (of_decide_eq_true (by kernel_rfl)) (by unfold Func.isWrapper; first | (rw [if_pos (by decide +kernel)]; kernel_rfl) | (rw [if_neg (by decide +kernel)]; exact ⟨rfl, rfl⟩))
    (fun os started H enc _ => lifted os started H enc)

theorem proved : Rows.StoreWishesSaid :=
  over
#print axioms proved
end Go.Proofs.Ythgkmbimmelglab.storeWishes
