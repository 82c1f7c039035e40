/- StoreEither is proved: for every list of deeds, every line and every two words of lines that land the call returns true (behind a crash each line is as it was now or as it was for good, as is told, and another crash changes nothing), with no condition beyond the form's own. -/
import Derived.Test.YthgkmbimmelglabRows
import Derived.Test.YthgkmbimmelglabArgs
import Derived.Test.YthgkmbimmelglabKp3
import Derived.Test.YthgkmbimmelglabLoc
import Derived.Test.YthgkmbimmelglabStGood
import Derived.Deep.RegionHeld3
import Derived.WalkKit

namespace Go.Proofs.Ythgkmbimmelglab.storeEither
open Go.ChangeShapes Go.WideShapes Go.ChangeAt Go.RowKit
set_option linter.unusedVariables false

theorem own : ownKnob Try.prog.godebug = none := by kernel_rfl

set_option maxHeartbeats 2000000 in
theorem walk (v0 : Value) (n0 : Nat) (a1 : Int) (a2 : Int) (a3 : Int) (w1 : (Lit.int .i64 a1).wf = true) (w2 : (Lit.int .u64 a2).wf = true) (w3 : (Lit.int .u64 a3).wf = true) (w : World) (D0 : Deeds w v0 n0) :
    Calls Try.prog 3 #[v0, .int .i64 a1, .int .u64 a2, .int .u64 a3] w fun e w' => e = .returned (.bool true) ∧ Gr w w' := by
  clear w1
  obtain ⟨x, rfl, hx⟩ := u64_nat w2
  obtain ⟨y, rfl, hy⟩ := u64_nat w3
  clear w2 w3
  have HL : ∃ A c, v0 = .slice A n0 c := by
    rcases D0 with ⟨h, rfl⟩ | ⟨a, c, h, _⟩
    · exact ⟨_, _, h⟩
    · exact ⟨_, _, h⟩
  by_cases hn : n0 ≤ 60
  · clear HL
    obtain ⟨r1, hr1, p1⟩ := pick_fun a1 9 (by decide) (by decide)
    have P1 : Hid _ := p1
    clear p1
    go_enter Try.func3, Try.ntmps3
    go_wp2_with fail
    refine (kept_any _).mono ?_
    rintro e u1 ⟨rfl, g1⟩
    go_wp2_with fail
    refine (done_any v0 n0 _ hn (D0.gr g1)).mono ?_
    rintro e u2 ⟨rfl, ⟨s, h2⟩, g2⟩
    have hb : Hid (w.heap.size ≤ u1.heap.size) := g1.below.size
    generalize u1.heap.size = b at *
    have G : Hid (Gr w u2) := g1.trans g2
    clear g1 g2
    go_wp2_with fail
    refine (P1.out _).mono ?_
    rintro e ux ⟨rfl, hw⟩
    rw [hw]; clear hw ux
    go_wp2_with fail
    refine (lineNow_yes r1 b s _ hr1 h2).mono ?_
    rintro e u3 ⟨rfl, g3⟩
    have h3 := h2.gr g3
    have G3 : Hid (Gr w u3) := G.out.trans g3
    clear G g3 h2
    go_wp2_with (refine wpList_store_mid rfl 29 _ _ rfl _ _ (row s.now (r1 * 8) 8).toArray rfl rfl (row_there _ _ _ _ _ rfl) (line_size2 s.now (r1 * 8)) (row_all s.now (r1 * 8)) ?_
                 have B4 := loc_born u3 #[.int .u64 0, .int .u64 0, .int .u64 0, .int .u64 0, .int .u64 0, .int .u64 0, .int .u64 0, .int .u64 0] 29 s.now (r1 * 8) rfl
                 generalize (u3.alloc (.cells #[.int .u64 0, .int .u64 0, .int .u64 0, .int .u64 0, .int .u64 0, .int .u64 0, .int .u64 0, .int .u64 0] 29)).setCells u3.heap.size 0 (row s.now (r1 * 8) 8) = u4 at B4 ⊢
                 generalize hn4 : u3.heap.size = n4 at *)
    have ne4 : n4 ≠ b := by have := h3.lt; omega
    obtain ⟨gB4, L4⟩ := B4
    have h4 := h3.gr gB4
    have G4 : Hid (Gr w u4) := G3.out.trans gB4
    clear G3 gB4 h3 hn4
    go_wp2_with fail
    refine (Good_yes r1 b s _ hr1 h4).mono ?_
    rintro e u8 ⟨rfl, g8⟩
    have h8 := h4.gr g8
    have G8 : Hid (Gr w u8) := G4.out.trans g8
    have L8 := range_gr L4 g8
    clear G4 g8 h4 L4
    go_wp2_with (refine wpList_store_mid rfl 29 _ _ rfl _ _ (row s.good (r1 * 8) 8).toArray rfl rfl (row_there _ _ _ _ _ rfl) (line_size2 s.good (r1 * 8)) (row_all s.good (r1 * 8)) ?_
                 have B9 := loc_born u8 #[.int .u64 0, .int .u64 0, .int .u64 0, .int .u64 0, .int .u64 0, .int .u64 0, .int .u64 0, .int .u64 0] 29 s.good (r1 * 8) rfl
                 generalize (u8.alloc (.cells #[.int .u64 0, .int .u64 0, .int .u64 0, .int .u64 0, .int .u64 0, .int .u64 0, .int .u64 0, .int .u64 0] 29)).setCells u8.heap.size 0 (row s.good (r1 * 8) 8) = u9 at B9 ⊢
                 generalize hn9 : u8.heap.size = n9 at *)
    have ne9 : n9 ≠ b := by have := h8.lt; omega
    obtain ⟨gB9, L9⟩ := B9
    have h9 := h8.gr gB9
    have G9 : Hid (Gr w u9) := G8.out.trans gB9
    have M9 := range_gr L8 gB9
    clear gB9 G8 h8 hn9 L8
    have hd := line_desc
    have hi := line_size s.now (r1 * 8)
    have hi2 := line_size s.good (r1 * 8)
    have he := line_equal s.now s.good (r1 * 8) (r1 * 8)
    generalize hB : same s.now (r1 * 8) s.good (r1 * 8) 8 = B at *
    have hH0 : Hid (u9.drew.rangeAt n4 0 (row s.now (r1 * 8) 8) ∧ u9.drew.rangeAt n9 0 (row s.good (r1 * 8) 8)) := ⟨range_drew M9, range_drew L9⟩
    have HB : Hid _ := hB
    clear hB
    go_wp2_with fail
    refine wp_region_held_drew (S := fun w' => w'.rangeAt n4 0 (row s.now (r1 * 8) 8) ∧ w'.rangeAt n9 0 (row s.good (r1 * 8) 8)) (by kernel_rfl) hH0.out (fun hH => ?_)
    refine wpAnyH_take (i := 0) (oi := { dst := some 35, op := .move (.tmp 12), type := _, pos := _, after := _, guard := _ }) (v := ?_) rfl (by kernel_rfl) (by kernel_rfl) (by kernel_rfl) (fun _ _ _ h => h) (Or.inl ⟨by rfl, ?_⟩) hH ?_
    rotate_left
    · intro w hSw
      clear hSw
      go_simp
      with_reducible rfl
    simp only [Act.put, List.setIfInBounds_toArray, List.set_cons_zero, List.set_cons_succ]
    refine wpAnyH_take (i := 1) (oi := { dst := some 36, op := .binOp .neq _ (.tmp 35) (.const .nilIface) _, type := _, pos := _, after := _, guard := _ }) (v := ?_) rfl (by kernel_rfl) (by kernel_rfl) (by kernel_rfl) (fun _ _ _ h => h) (Or.inl ⟨by rfl, ?_⟩) hH ?_
    rotate_left
    · intro w hSw
      clear hSw
      go_simp
      with_reducible rfl
    simp only [Act.put, List.setIfInBounds_toArray, List.set_cons_zero, List.set_cons_succ]
    refine wpAnyH_take (i := 2) (oi := { dst := some 37, op := .move (.tmp 36), type := _, pos := _, after := _, guard := _ }) (v := ?_) rfl (by kernel_rfl) (by kernel_rfl) (by kernel_rfl) (fun _ _ _ h => h) (Or.inl ⟨by rfl, ?_⟩) hH ?_
    rotate_left
    · intro w hSw
      clear hSw
      go_simp
      with_reducible rfl
    simp only [Act.put, List.setIfInBounds_toArray, List.set_cons_zero, List.set_cons_succ]
    refine wpAnyH_take (i := 3) (oi := { dst := some 38, op := .move (.tmp 9), type := _, pos := _, after := _, guard := _ }) (v := ?_) rfl (by kernel_rfl) (by kernel_rfl) (by kernel_rfl) (fun _ _ _ h => h) (Or.inl ⟨by rfl, ?_⟩) hH ?_
    rotate_left
    · intro w hSw
      clear hSw
      go_simp
      with_reducible rfl
    simp only [Act.put, List.setIfInBounds_toArray, List.set_cons_zero, List.set_cons_succ]
    refine wpAnyH_take (i := 4) (oi := { dst := some 39, op := .move (.tmp 1), type := _, pos := _, after := _, guard := _ }) (v := ?_) rfl (by kernel_rfl) (by kernel_rfl) (by kernel_rfl) (fun _ _ _ h => h) (Or.inl ⟨by rfl, ?_⟩) hH ?_
    rotate_left
    · intro w hSw
      clear hSw
      go_simp
      with_reducible rfl
    simp only [Act.put, List.setIfInBounds_toArray, List.set_cons_zero, List.set_cons_succ]
    refine wpAnyH_take (i := 6) (oi := { dst := some 41, op := .load _ (.tmp 10), type := _, pos := _, after := _, guard := _ }) (v := _) rfl (by kernel_rfl) (by kernel_rfl) (by kernel_rfl) (fun _ _ _ h => h)
      (yieldsIf_load_mid (by rfl) _ _ rfl n4 _ rfl (row s.now (r1 * 8) 8) _ (fun _ h => h.1) hd rfl hi) hH ?_
    simp only [Act.put, List.setIfInBounds_toArray, List.set_cons_zero, List.set_cons_succ]
    refine wpAnyH_take (i := 7) (oi := { dst := some 42, op := .load _ (.tmp 11), type := _, pos := _, after := _, guard := _ }) (v := _) rfl (by kernel_rfl) (by kernel_rfl) (by kernel_rfl) (fun _ _ _ h => h)
      (yieldsIf_load_mid (by rfl) _ _ rfl n9 _ rfl (row s.good (r1 * 8) 8) _ (fun _ h => h.2) hd rfl hi2) hH ?_
    simp only [Act.put, List.setIfInBounds_toArray, List.set_cons_zero, List.set_cons_succ]
    refine wpAnyH_take (i := 8) (oi := { dst := some 43, op := .binOp .neq _ (.tmp 41) (.tmp 42) _, type := _, pos := _, after := _, guard := _ }) (v := ?_) rfl (by kernel_rfl) (by kernel_rfl) (by kernel_rfl) (fun _ _ _ h => h) (Or.inl ⟨by rfl, ?_⟩) hH ?_
    rotate_left
    · intro w hSw
      clear hSw
      go_simp
      with_reducible rfl
    simp only [Act.put, List.setIfInBounds_toArray, List.set_cons_zero, List.set_cons_succ]
    refine wpAnyH_ready (rs := [5]) (by kernel_rfl) (by simp) ?_
    refine AllReadyH.cons (o := { dst := some 40, op := _, type := _, pos := _, after := _, guard := _ }) rfl (fun K hK => ?_) AllReadyH.nil
    go_simp
    refine (Dirty_yes r1 b s _ hr1 h9.drew).mono ?_
    rintro e uc ⟨rfl, q, hu⟩
    rw [HB.out]
    have hc : StAt uc b s := by rw [hu]; exact h9.drew.drewN q
    have Gc : Hid (Gr w uc) := by rw [hu]; exact G9.out.drew.drewN q
    have Sc : uc.rangeAt n4 0 (row s.now (r1 * 8) 8) ∧ uc.rangeAt n9 0 (row s.good (r1 * 8) 8) := by rw [hu]; exact hH
    clear hu
    go_wp2_with fail
    refine hK.out _ _ Sc (fun hH => ?_)
    clear hK K
    refine wpAnyH_take (i := 9) (oi := { dst := some 44, op := .binOp .neq _ (.tmp 40) (.tmp 43) _, type := _, pos := _, after := _, guard := _ }) (v := ?_) rfl (by kernel_rfl) (by kernel_rfl) (by kernel_rfl) (fun _ _ _ h => h) (Or.inl ⟨by rfl, ?_⟩) hH ?_
    rotate_left
    · intro w hSw
      clear hSw
      go_simp
      with_reducible rfl
    simp only [Act.put, List.setIfInBounds_toArray, List.set_cons_zero, List.set_cons_succ]
    refine wpAnyH_take (i := 10) (oi := { dst := some 45, op := .pick (.tmp 37) (.const (.bool true)) (.tmp 44), type := _, pos := _, after := _, guard := _ }) (v := ?_) rfl (by kernel_rfl) (by kernel_rfl) (by kernel_rfl) (fun _ _ _ h => h) (Or.inl ⟨by rfl, ?_⟩) hH ?_
    rotate_left
    · intro w hSw
      clear hSw
      go_simp
      with_reducible rfl
    simp only [Act.put, List.setIfInBounds_toArray, List.set_cons_zero, List.set_cons_succ]
    refine wpAnyH_done (by kernel_rfl) ?_ _
    clear hH0 he h9 G9 M9 L9
    obtain ⟨L4, L9⟩ := hH
    go_wp2_with (first
      | (refine wpList_load_mid rfl 29 _ rfl n9 _ rfl (row s.good (r1 * 8) 8) _ L9 hd rfl hi2 ?_)
      | (refine wpList_store_mid rfl 29 _ _ rfl _ _ (row s.good (r1 * 8) 8).toArray rfl rfl (row_there _ _ _ _ _ rfl) (line_size2 s.good (r1 * 8)) (row_all s.good (r1 * 8)) ?_
         have Bd := loc_born uc #[.int .u64 0, .int .u64 0, .int .u64 0, .int .u64 0, .int .u64 0, .int .u64 0, .int .u64 0, .int .u64 0] 29 s.good (r1 * 8) rfl
         generalize (uc.alloc (.cells #[.int .u64 0, .int .u64 0, .int .u64 0, .int .u64 0, .int .u64 0, .int .u64 0, .int .u64 0, .int .u64 0] 29)).setCells uc.heap.size 0 (row s.good (r1 * 8) 8) = ud at Bd ⊢
         generalize hnd : uc.heap.size = nd at *))
    have ned : nd ≠ b := by have := hc.lt; omega
    have lnd : Hid (w.heap.size ≤ nd) := by have := Gc.out.below.size; rw [← hnd]; exact this
    have h_d := hc.gr Bd.1
    have Gd : Hid (Gr w ud) := Gc.out.trans Bd.1
    have L4d := range_gr L4 Bd.1
    have Ld := Bd.2
    clear Bd hnd hc Gc Sc L4 L9
    cases hq : x.testBit r1 with
    | true =>
      have e1 := same_either s r1 x s.now (by rw [hq]; rfl)
      have e2 := same_twice s r1 x y s.now (by rw [hq]; rfl)
      have e3 := crash_clean (s.crash x) r1 y
      have EE : Hid _ := And.intro e1 (And.intro e2 e3)
      clear e1 e2 e3
      have Q : Hid _ := hq
      clear hq
      go_wp2_with fail
      refine (Bit_yes x r1 _ hx (by omega)).mono ?_
      rintro e ux ⟨rfl, hw⟩
      rw [Q.out, hw]; clear hw ux
      obtain ⟨th, Le, oe, ge⟩ := loc_again Gd.out lnd.out Ld s.now (r1 * 8)
      have h_e := h_d.only (Ne.symm ned) oe
      have Ge : Hid _ := ge
      clear oe ge Gd h_d
      go_wp2_with (first
        | (refine wpList_load_mid rfl 29 _ rfl n4 _ rfl (row s.now (r1 * 8) 8) _ L4d hd rfl hi ?_)
        | (refine wpList_store_mid rfl 29 _ _ rfl nd _ (row s.now (r1 * 8) 8).toArray rfl rfl th (line_size2 s.now (r1 * 8)) (row_all s.now (r1 * 8)) ?_
           generalize ud.setCells nd 0 (row s.now (r1 * 8) 8) = ue at *))
      clear th
      refine (Crash_any x b _ _ hx h_e).mono ?_
      rintro e uf ⟨rfl, h_f, of⟩
      have Gf : Hid (Gr w uf) := Ge.out.only hb.out of
      have Lf := range_only Le ned of
      clear Ge Le h_e of
      go_wp2_with fail
      refine (lineNow_yes r1 b (s.crash x) _ hr1 h_f).mono ?_
      rintro e ug ⟨rfl, gg⟩
      have h_g := h_f.gr gg
      have Gg : Hid (Gr w ug) := Gf.out.trans gg
      have Lg := range_gr Lf gg
      clear Gf Lf h_f gg
      go_wp2_with (refine wpList_store_mid rfl 29 _ _ rfl _ _ (row (s.crash x).now (r1 * 8) 8).toArray rfl rfl (row_there _ _ _ _ _ rfl) (line_size2 (s.crash x).now (r1 * 8)) (row_all (s.crash x).now (r1 * 8)) ?_
                   have Bi := loc_born ug #[.int .u64 0, .int .u64 0, .int .u64 0, .int .u64 0, .int .u64 0, .int .u64 0, .int .u64 0, .int .u64 0] 29 (s.crash x).now (r1 * 8) rfl
                   generalize (ug.alloc (.cells #[.int .u64 0, .int .u64 0, .int .u64 0, .int .u64 0, .int .u64 0, .int .u64 0, .int .u64 0, .int .u64 0] 29)).setCells ug.heap.size 0 (row (s.crash x).now (r1 * 8) 8) = ui at Bi ⊢
                   generalize hni : ug.heap.size = ni at *)
      have nei : ni ≠ b := by have := h_g.lt; omega
      obtain ⟨gBi, Li⟩ := Bi
      have h_i := h_g.gr gBi
      have Gi : Hid (Gr w ui) := Gg.out.trans gBi
      have Lj := range_gr Lg gBi
      clear Gg Lg h_g gBi hni
      go_wp2_with fail
      refine (Crash_any y b _ _ hy h_i).mono ?_
      rintro e uk ⟨rfl, h_k, ok⟩
      have Gk : Hid (Gr w uk) := Gi.out.only hb.out ok
      have hH0 : Hid (uk.drew.rangeAt ni 0 (row (s.crash x).now (r1 * 8) 8) ∧ uk.drew.rangeAt nd 0 (row s.now (r1 * 8) 8)) := ⟨range_drew (range_only Li nei ok), range_drew (range_only Lj ned ok)⟩
      clear Li Lj h_i Gi ok
      have hj := line_size (s.crash x).now (r1 * 8)
      have hj2 := line_size s.now (r1 * 8)
      have he := line_equal (s.crash x).now s.now (r1 * 8) (r1 * 8)
      have he2 := line_equal ((s.crash x).crash y).now s.now (r1 * 8) (r1 * 8)
      rw [EE.out.1] at he
      rw [EE.out.2.1] at he2
      go_wp2_with fail
      refine wp_region_held_drew (S := fun w' => w'.rangeAt ni 0 (row (s.crash x).now (r1 * 8) 8) ∧ w'.rangeAt nd 0 (row s.now (r1 * 8) 8)) (by kernel_rfl) hH0.out (fun hH => ?_)
      refine wpAnyH_take (i := 0) (oi := { dst := some 60, op := .load _ (.tmp 14), type := _, pos := _, after := _, guard := _ }) (v := _) rfl (by kernel_rfl) (by kernel_rfl) (by kernel_rfl) (fun _ _ _ h => h)
        (yieldsIf_load_mid (by rfl) _ _ rfl ni _ rfl (row (s.crash x).now (r1 * 8) 8) _ (fun _ h => h.1) hd rfl hj) hH ?_
      simp only [Act.put, List.setIfInBounds_toArray, List.set_cons_zero, List.set_cons_succ]
      refine wpAnyH_take (i := 1) (oi := { dst := some 61, op := .load _ (.tmp 13), type := _, pos := _, after := _, guard := _ }) (v := _) rfl (by kernel_rfl) (by kernel_rfl) (by kernel_rfl) (fun _ _ _ h => h)
        (yieldsIf_load_mid (by rfl) _ _ rfl nd _ rfl (row s.now (r1 * 8) 8) _ (fun _ h => h.2) hd rfl hj2) hH ?_
      simp only [Act.put, List.setIfInBounds_toArray, List.set_cons_zero, List.set_cons_succ]
      refine wpAnyH_take (i := 2) (oi := { dst := some 62, op := .binOp .eql _ (.tmp 60) (.tmp 61) _, type := _, pos := _, after := _, guard := _ }) (v := ?_) rfl (by kernel_rfl) (by kernel_rfl) (by kernel_rfl) (fun _ _ _ h => h) (Or.inl ⟨by rfl, ?_⟩) hH ?_
      rotate_left
      · intro w hSw
        clear hSw
        go_simp
        with_reducible rfl
      simp only [Act.put, List.setIfInBounds_toArray, List.set_cons_zero, List.set_cons_succ]
      refine wpAnyH_take (i := 3) (oi := { dst := some 63, op := .move (.tmp 62), type := _, pos := _, after := _, guard := _ }) (v := ?_) rfl (by kernel_rfl) (by kernel_rfl) (by kernel_rfl) (fun _ _ _ h => h) (Or.inl ⟨by rfl, ?_⟩) hH ?_
      rotate_left
      · intro w hSw
        clear hSw
        go_simp
        with_reducible rfl
      simp only [Act.put, List.setIfInBounds_toArray, List.set_cons_zero, List.set_cons_succ]
      refine wpAnyH_take (i := 4) (oi := { dst := some 64, op := .move (.tmp 9), type := _, pos := _, after := _, guard := _ }) (v := ?_) rfl (by kernel_rfl) (by kernel_rfl) (by kernel_rfl) (fun _ _ _ h => h) (Or.inl ⟨by rfl, ?_⟩) hH ?_
      rotate_left
      · intro w hSw
        clear hSw
        go_simp
        with_reducible rfl
      simp only [Act.put, List.setIfInBounds_toArray, List.set_cons_zero, List.set_cons_succ]
      refine wpAnyH_take (i := 5) (oi := { dst := some 65, op := .move (.tmp 1), type := _, pos := _, after := _, guard := _ }) (v := ?_) rfl (by kernel_rfl) (by kernel_rfl) (by kernel_rfl) (fun _ _ _ h => h) (Or.inl ⟨by rfl, ?_⟩) hH ?_
      rotate_left
      · intro w hSw
        clear hSw
        go_simp
        with_reducible rfl
      simp only [Act.put, List.setIfInBounds_toArray, List.set_cons_zero, List.set_cons_succ]
      refine wpAnyH_take (i := 7) (oi := { dst := some 67, op := .load _ (.tmp 13), type := _, pos := _, after := _, guard := _ }) (v := _) rfl (by kernel_rfl) (by kernel_rfl) (by kernel_rfl) (fun _ _ _ h => h)
        (yieldsIf_load_mid (by rfl) _ _ rfl nd _ rfl (row s.now (r1 * 8) 8) _ (fun _ h => h.2) hd rfl hj2) hH ?_
      simp only [Act.put, List.setIfInBounds_toArray, List.set_cons_zero, List.set_cons_succ]
      refine wpAnyH_ready (rs := [6]) (by kernel_rfl) (by simp) ?_
      refine AllReadyH.cons (o := { dst := some 66, op := _, type := _, pos := _, after := _, guard := _ }) rfl (fun K hK => ?_) AllReadyH.nil
      go_simp
      refine (lineNow_yes r1 b _ _ hr1 h_k.drew).mono ?_
      rintro e ul ⟨rfl, gl⟩
      have h_l := h_k.drew.gr gl
      have Gl : Hid (Gr w ul) := Gk.out.drew.trans gl
      go_wp2_with fail
      refine hK.out _ _ ⟨range_gr hH.1 gl, range_gr hH.2 gl⟩ (fun hH => ?_)
      clear hK K
      refine wpAnyH_take (i := 8) (oi := { dst := some 68, op := .binOp .eql _ (.tmp 66) (.tmp 67) _, type := _, pos := _, after := _, guard := _ }) (v := ?_) rfl (by kernel_rfl) (by kernel_rfl) (by kernel_rfl) (fun _ _ _ h => h) (Or.inl ⟨by rfl, ?_⟩) hH ?_
      rotate_left
      · intro w hSw
        clear hSw
        go_simp
        with_reducible rfl
      simp only [Act.put, List.setIfInBounds_toArray, List.set_cons_zero, List.set_cons_succ]
      refine wpAnyH_take (i := 9) (oi := { dst := some 69, op := .pick (.tmp 63) (.tmp 68) (.const (.bool false)), type := _, pos := _, after := _, guard := _ }) (v := ?_) rfl (by kernel_rfl) (by kernel_rfl) (by kernel_rfl) (fun _ _ _ h => h) (Or.inl ⟨by rfl, ?_⟩) hH ?_
      rotate_left
      · intro w hSw
        clear hSw
        go_simp
        with_reducible rfl
      simp only [Act.put, List.setIfInBounds_toArray, List.set_cons_zero, List.set_cons_succ]
      refine wpAnyH_take (i := 10) (oi := { dst := some 70, op := .move (.tmp 69), type := _, pos := _, after := _, guard := _ }) (v := ?_) rfl (by kernel_rfl) (by kernel_rfl) (by kernel_rfl) (fun _ _ _ h => h) (Or.inl ⟨by rfl, ?_⟩) hH ?_
      rotate_left
      · intro w hSw
        clear hSw
        go_simp
        with_reducible rfl
      simp only [Act.put, List.setIfInBounds_toArray, List.set_cons_zero, List.set_cons_succ]
      refine wpAnyH_take (i := 11) (oi := { dst := some 71, op := .move (.tmp 9), type := _, pos := _, after := _, guard := _ }) (v := ?_) rfl (by kernel_rfl) (by kernel_rfl) (by kernel_rfl) (fun _ _ _ h => h) (Or.inl ⟨by rfl, ?_⟩) hH ?_
      rotate_left
      · intro w hSw
        clear hSw
        go_simp
        with_reducible rfl
      simp only [Act.put, List.setIfInBounds_toArray, List.set_cons_zero, List.set_cons_succ]
      refine wpAnyH_take (i := 12) (oi := { dst := some 72, op := .move (.tmp 1), type := _, pos := _, after := _, guard := _ }) (v := ?_) rfl (by kernel_rfl) (by kernel_rfl) (by kernel_rfl) (fun _ _ _ h => h) (Or.inl ⟨by rfl, ?_⟩) hH ?_
      rotate_left
      · intro w hSw
        clear hSw
        go_simp
        with_reducible rfl
      simp only [Act.put, List.setIfInBounds_toArray, List.set_cons_zero, List.set_cons_succ]
      refine wpAnyH_ready (rs := [13]) (by kernel_rfl) (by simp) ?_
      refine AllReadyH.cons (o := { dst := some 73, op := _, type := _, pos := _, after := _, guard := _ }) rfl (fun K hK => ?_) AllReadyH.nil
      go_simp
      refine (Dirty_yes r1 b _ _ hr1 h_l).mono ?_
      rintro e um ⟨rfl, q2, hu⟩
      rw [EE.out.2.2]
      have Gm : Hid (Gr w um) := by rw [hu]; exact Gl.out.drewN q2
      have Sm : um.rangeAt ni 0 (row (s.crash x).now (r1 * 8) 8) ∧ um.rangeAt nd 0 (row s.now (r1 * 8) 8) := by rw [hu]; exact hH
      clear hu
      go_wp2_with fail
      refine hK.out _ _ Sm (fun hH => ?_)
      clear hK K
      refine wpAnyH_take (i := 14) (oi := { dst := some 74, op := .unOp .not _ (.tmp 73), type := _, pos := _, after := _, guard := _ }) (v := ?_) rfl (by kernel_rfl) (by kernel_rfl) (by kernel_rfl) (fun _ _ _ h => h) (Or.inl ⟨by rfl, ?_⟩) hH ?_
      rotate_left
      · intro w hSw
        clear hSw
        go_simp
        with_reducible rfl
      simp only [Act.put, List.setIfInBounds_toArray, List.set_cons_zero, List.set_cons_succ]
      refine wpAnyH_take (i := 15) (oi := { dst := some 75, op := .pick (.tmp 70) (.tmp 74) (.const (.bool false)), type := _, pos := _, after := _, guard := _ }) (v := ?_) rfl (by kernel_rfl) (by kernel_rfl) (by kernel_rfl) (fun _ _ _ h => h) (Or.inl ⟨by rfl, ?_⟩) hH ?_
      rotate_left
      · intro w hSw
        clear hSw
        go_simp
        with_reducible rfl
      simp only [Act.put, List.setIfInBounds_toArray, List.set_cons_zero, List.set_cons_succ]
      refine wpAnyH_take (i := 16) (oi := { dst := some 8, op := .assign (.tmp 75), type := _, pos := _, after := _, guard := _ }) (v := ?_) rfl (by kernel_rfl) (by kernel_rfl) (by kernel_rfl) (fun _ _ _ h => h) (Or.inl ⟨by rfl, ?_⟩) hH ?_
      rotate_left
      · intro w hSw
        clear hSw
        go_simp
        with_reducible rfl
      simp only [Act.put, List.setIfInBounds_toArray, List.set_cons_zero, List.set_cons_succ]
      refine wpAnyH_done (by kernel_rfl) ?_ _
      go_wp2
      go_ret
      exact ⟨rfl, Gm.out⟩
    | false =>
      have e1 := same_either s r1 x s.good (by rw [hq]; rfl)
      have e2 := same_twice s r1 x y s.good (by rw [hq]; rfl)
      have e3 := crash_clean (s.crash x) r1 y
      have EE : Hid _ := And.intro e1 (And.intro e2 e3)
      clear e1 e2 e3
      have Q : Hid _ := hq
      clear hq
      go_wp2_with fail
      refine (Bit_yes x r1 _ hx (by omega)).mono ?_
      rintro e ux ⟨rfl, hw⟩
      rw [Q.out, hw]; clear hw ux
      have Le := Ld
      have h_e := h_d
      have Ge := Gd
      clear Gd h_d Ld
      go_wp2_with fail
      refine (Crash_any x b _ _ hx h_e).mono ?_
      rintro e uf ⟨rfl, h_f, of⟩
      have Gf : Hid (Gr w uf) := Ge.out.only hb.out of
      have Lf := range_only Le ned of
      clear Ge Le h_e of
      go_wp2_with fail
      refine (lineNow_yes r1 b (s.crash x) _ hr1 h_f).mono ?_
      rintro e ug ⟨rfl, gg⟩
      have h_g := h_f.gr gg
      have Gg : Hid (Gr w ug) := Gf.out.trans gg
      have Lg := range_gr Lf gg
      clear Gf Lf h_f gg
      go_wp2_with (refine wpList_store_mid rfl 29 _ _ rfl _ _ (row (s.crash x).now (r1 * 8) 8).toArray rfl rfl (row_there _ _ _ _ _ rfl) (line_size2 (s.crash x).now (r1 * 8)) (row_all (s.crash x).now (r1 * 8)) ?_
                   have Bi := loc_born ug #[.int .u64 0, .int .u64 0, .int .u64 0, .int .u64 0, .int .u64 0, .int .u64 0, .int .u64 0, .int .u64 0] 29 (s.crash x).now (r1 * 8) rfl
                   generalize (ug.alloc (.cells #[.int .u64 0, .int .u64 0, .int .u64 0, .int .u64 0, .int .u64 0, .int .u64 0, .int .u64 0, .int .u64 0] 29)).setCells ug.heap.size 0 (row (s.crash x).now (r1 * 8) 8) = ui at Bi ⊢
                   generalize hni : ug.heap.size = ni at *)
      have nei : ni ≠ b := by have := h_g.lt; omega
      obtain ⟨gBi, Li⟩ := Bi
      have h_i := h_g.gr gBi
      have Gi : Hid (Gr w ui) := Gg.out.trans gBi
      have Lj := range_gr Lg gBi
      clear Gg Lg h_g gBi hni
      go_wp2_with fail
      refine (Crash_any y b _ _ hy h_i).mono ?_
      rintro e uk ⟨rfl, h_k, ok⟩
      have Gk : Hid (Gr w uk) := Gi.out.only hb.out ok
      have hH0 : Hid (uk.drew.rangeAt ni 0 (row (s.crash x).now (r1 * 8) 8) ∧ uk.drew.rangeAt nd 0 (row s.good (r1 * 8) 8)) := ⟨range_drew (range_only Li nei ok), range_drew (range_only Lj ned ok)⟩
      clear Li Lj h_i Gi ok
      have hj := line_size (s.crash x).now (r1 * 8)
      have hj2 := line_size s.good (r1 * 8)
      have he := line_equal (s.crash x).now s.good (r1 * 8) (r1 * 8)
      have he2 := line_equal ((s.crash x).crash y).now s.good (r1 * 8) (r1 * 8)
      rw [EE.out.1] at he
      rw [EE.out.2.1] at he2
      go_wp2_with fail
      refine wp_region_held_drew (S := fun w' => w'.rangeAt ni 0 (row (s.crash x).now (r1 * 8) 8) ∧ w'.rangeAt nd 0 (row s.good (r1 * 8) 8)) (by kernel_rfl) hH0.out (fun hH => ?_)
      refine wpAnyH_take (i := 0) (oi := { dst := some 60, op := .load _ (.tmp 14), type := _, pos := _, after := _, guard := _ }) (v := _) rfl (by kernel_rfl) (by kernel_rfl) (by kernel_rfl) (fun _ _ _ h => h)
        (yieldsIf_load_mid (by rfl) _ _ rfl ni _ rfl (row (s.crash x).now (r1 * 8) 8) _ (fun _ h => h.1) hd rfl hj) hH ?_
      simp only [Act.put, List.setIfInBounds_toArray, List.set_cons_zero, List.set_cons_succ]
      refine wpAnyH_take (i := 1) (oi := { dst := some 61, op := .load _ (.tmp 13), type := _, pos := _, after := _, guard := _ }) (v := _) rfl (by kernel_rfl) (by kernel_rfl) (by kernel_rfl) (fun _ _ _ h => h)
        (yieldsIf_load_mid (by rfl) _ _ rfl nd _ rfl (row s.good (r1 * 8) 8) _ (fun _ h => h.2) hd rfl hj2) hH ?_
      simp only [Act.put, List.setIfInBounds_toArray, List.set_cons_zero, List.set_cons_succ]
      refine wpAnyH_take (i := 2) (oi := { dst := some 62, op := .binOp .eql _ (.tmp 60) (.tmp 61) _, type := _, pos := _, after := _, guard := _ }) (v := ?_) rfl (by kernel_rfl) (by kernel_rfl) (by kernel_rfl) (fun _ _ _ h => h) (Or.inl ⟨by rfl, ?_⟩) hH ?_
      rotate_left
      · intro w hSw
        clear hSw
        go_simp
        with_reducible rfl
      simp only [Act.put, List.setIfInBounds_toArray, List.set_cons_zero, List.set_cons_succ]
      refine wpAnyH_take (i := 3) (oi := { dst := some 63, op := .move (.tmp 62), type := _, pos := _, after := _, guard := _ }) (v := ?_) rfl (by kernel_rfl) (by kernel_rfl) (by kernel_rfl) (fun _ _ _ h => h) (Or.inl ⟨by rfl, ?_⟩) hH ?_
      rotate_left
      · intro w hSw
        clear hSw
        go_simp
        with_reducible rfl
      simp only [Act.put, List.setIfInBounds_toArray, List.set_cons_zero, List.set_cons_succ]
      refine wpAnyH_take (i := 4) (oi := { dst := some 64, op := .move (.tmp 9), type := _, pos := _, after := _, guard := _ }) (v := ?_) rfl (by kernel_rfl) (by kernel_rfl) (by kernel_rfl) (fun _ _ _ h => h) (Or.inl ⟨by rfl, ?_⟩) hH ?_
      rotate_left
      · intro w hSw
        clear hSw
        go_simp
        with_reducible rfl
      simp only [Act.put, List.setIfInBounds_toArray, List.set_cons_zero, List.set_cons_succ]
      refine wpAnyH_take (i := 5) (oi := { dst := some 65, op := .move (.tmp 1), type := _, pos := _, after := _, guard := _ }) (v := ?_) rfl (by kernel_rfl) (by kernel_rfl) (by kernel_rfl) (fun _ _ _ h => h) (Or.inl ⟨by rfl, ?_⟩) hH ?_
      rotate_left
      · intro w hSw
        clear hSw
        go_simp
        with_reducible rfl
      simp only [Act.put, List.setIfInBounds_toArray, List.set_cons_zero, List.set_cons_succ]
      refine wpAnyH_take (i := 7) (oi := { dst := some 67, op := .load _ (.tmp 13), type := _, pos := _, after := _, guard := _ }) (v := _) rfl (by kernel_rfl) (by kernel_rfl) (by kernel_rfl) (fun _ _ _ h => h)
        (yieldsIf_load_mid (by rfl) _ _ rfl nd _ rfl (row s.good (r1 * 8) 8) _ (fun _ h => h.2) hd rfl hj2) hH ?_
      simp only [Act.put, List.setIfInBounds_toArray, List.set_cons_zero, List.set_cons_succ]
      refine wpAnyH_ready (rs := [6]) (by kernel_rfl) (by simp) ?_
      refine AllReadyH.cons (o := { dst := some 66, op := _, type := _, pos := _, after := _, guard := _ }) rfl (fun K hK => ?_) AllReadyH.nil
      go_simp
      refine (lineNow_yes r1 b _ _ hr1 h_k.drew).mono ?_
      rintro e ul ⟨rfl, gl⟩
      have h_l := h_k.drew.gr gl
      have Gl : Hid (Gr w ul) := Gk.out.drew.trans gl
      go_wp2_with fail
      refine hK.out _ _ ⟨range_gr hH.1 gl, range_gr hH.2 gl⟩ (fun hH => ?_)
      clear hK K
      refine wpAnyH_take (i := 8) (oi := { dst := some 68, op := .binOp .eql _ (.tmp 66) (.tmp 67) _, type := _, pos := _, after := _, guard := _ }) (v := ?_) rfl (by kernel_rfl) (by kernel_rfl) (by kernel_rfl) (fun _ _ _ h => h) (Or.inl ⟨by rfl, ?_⟩) hH ?_
      rotate_left
      · intro w hSw
        clear hSw
        go_simp
        with_reducible rfl
      simp only [Act.put, List.setIfInBounds_toArray, List.set_cons_zero, List.set_cons_succ]
      refine wpAnyH_take (i := 9) (oi := { dst := some 69, op := .pick (.tmp 63) (.tmp 68) (.const (.bool false)), type := _, pos := _, after := _, guard := _ }) (v := ?_) rfl (by kernel_rfl) (by kernel_rfl) (by kernel_rfl) (fun _ _ _ h => h) (Or.inl ⟨by rfl, ?_⟩) hH ?_
      rotate_left
      · intro w hSw
        clear hSw
        go_simp
        with_reducible rfl
      simp only [Act.put, List.setIfInBounds_toArray, List.set_cons_zero, List.set_cons_succ]
      refine wpAnyH_take (i := 10) (oi := { dst := some 70, op := .move (.tmp 69), type := _, pos := _, after := _, guard := _ }) (v := ?_) rfl (by kernel_rfl) (by kernel_rfl) (by kernel_rfl) (fun _ _ _ h => h) (Or.inl ⟨by rfl, ?_⟩) hH ?_
      rotate_left
      · intro w hSw
        clear hSw
        go_simp
        with_reducible rfl
      simp only [Act.put, List.setIfInBounds_toArray, List.set_cons_zero, List.set_cons_succ]
      refine wpAnyH_take (i := 11) (oi := { dst := some 71, op := .move (.tmp 9), type := _, pos := _, after := _, guard := _ }) (v := ?_) rfl (by kernel_rfl) (by kernel_rfl) (by kernel_rfl) (fun _ _ _ h => h) (Or.inl ⟨by rfl, ?_⟩) hH ?_
      rotate_left
      · intro w hSw
        clear hSw
        go_simp
        with_reducible rfl
      simp only [Act.put, List.setIfInBounds_toArray, List.set_cons_zero, List.set_cons_succ]
      refine wpAnyH_take (i := 12) (oi := { dst := some 72, op := .move (.tmp 1), type := _, pos := _, after := _, guard := _ }) (v := ?_) rfl (by kernel_rfl) (by kernel_rfl) (by kernel_rfl) (fun _ _ _ h => h) (Or.inl ⟨by rfl, ?_⟩) hH ?_
      rotate_left
      · intro w hSw
        clear hSw
        go_simp
        with_reducible rfl
      simp only [Act.put, List.setIfInBounds_toArray, List.set_cons_zero, List.set_cons_succ]
      refine wpAnyH_ready (rs := [13]) (by kernel_rfl) (by simp) ?_
      refine AllReadyH.cons (o := { dst := some 73, op := _, type := _, pos := _, after := _, guard := _ }) rfl (fun K hK => ?_) AllReadyH.nil
      go_simp
      refine (Dirty_yes r1 b _ _ hr1 h_l).mono ?_
      rintro e um ⟨rfl, q2, hu⟩
      rw [EE.out.2.2]
      have Gm : Hid (Gr w um) := by rw [hu]; exact Gl.out.drewN q2
      have Sm : um.rangeAt ni 0 (row (s.crash x).now (r1 * 8) 8) ∧ um.rangeAt nd 0 (row s.good (r1 * 8) 8) := by rw [hu]; exact hH
      clear hu
      go_wp2_with fail
      refine hK.out _ _ Sm (fun hH => ?_)
      clear hK K
      refine wpAnyH_take (i := 14) (oi := { dst := some 74, op := .unOp .not _ (.tmp 73), type := _, pos := _, after := _, guard := _ }) (v := ?_) rfl (by kernel_rfl) (by kernel_rfl) (by kernel_rfl) (fun _ _ _ h => h) (Or.inl ⟨by rfl, ?_⟩) hH ?_
      rotate_left
      · intro w hSw
        clear hSw
        go_simp
        with_reducible rfl
      simp only [Act.put, List.setIfInBounds_toArray, List.set_cons_zero, List.set_cons_succ]
      refine wpAnyH_take (i := 15) (oi := { dst := some 75, op := .pick (.tmp 70) (.tmp 74) (.const (.bool false)), type := _, pos := _, after := _, guard := _ }) (v := ?_) rfl (by kernel_rfl) (by kernel_rfl) (by kernel_rfl) (fun _ _ _ h => h) (Or.inl ⟨by rfl, ?_⟩) hH ?_
      rotate_left
      · intro w hSw
        clear hSw
        go_simp
        with_reducible rfl
      simp only [Act.put, List.setIfInBounds_toArray, List.set_cons_zero, List.set_cons_succ]
      refine wpAnyH_take (i := 16) (oi := { dst := some 8, op := .assign (.tmp 75), type := _, pos := _, after := _, guard := _ }) (v := ?_) rfl (by kernel_rfl) (by kernel_rfl) (by kernel_rfl) (fun _ _ _ h => h) (Or.inl ⟨by rfl, ?_⟩) hH ?_
      rotate_left
      · intro w hSw
        clear hSw
        go_simp
        with_reducible rfl
      simp only [Act.put, List.setIfInBounds_toArray, List.set_cons_zero, List.set_cons_succ]
      refine wpAnyH_done (by kernel_rfl) ?_ _
      go_wp2
      go_ret
      exact ⟨rfl, Gm.out⟩
  · obtain ⟨A, c, rfl⟩ := HL
    have hn' : (60 : Int) < (n0 : Int) := by omega
    go_enter Try.func3, Try.ntmps3
    go_wp2_with fail
    refine (kept_any _).mono ?_
    rintro e u1 ⟨rfl, g1⟩
    go_wp2_with fail
    refine (done_many _ n0 _ (by omega) (D0.gr g1)).mono ?_
    rintro e u2 ⟨rfl, g2⟩
    go_wp2
    go_ret
    exact ⟨rfl, g1.trans g2⟩


set_option maxRecDepth 100000 in
theorem lifted (os : Os) (started : os.Started) (H : Type) (enc : TypeId × Value → H) :
    ReturnsInHanded {} Try.checked os 3 .any (Rows.storeEitherSpec.pre6 enc Try.prog Try.f3 Rows.storeEitherRow.domain false) (Rows.storeEitherSpec.post enc Try.prog Try.f3 false true false false) := by
  refine returnsInHanded_of_change (C := Try.checked) own started (by kernel_rfl) Try.func3
    (ChangeSpec.witness6 (enc := enc) (C := Try.checked) false ⟨#[], #[.slice none 0 0, .int .i64 0, .int .u64 0, .int .u64 0], []⟩ 8 (by kernel_rfl) (by kernel_rfl) (by kernel_rfl) (by kernel_rfl)) ?_
  intro W base args ds gs before hval0 hW hcnd _
  have hval : ∀ (j : Nat) t v, Try.f3.params[j]? = some t → args[j]? = some v → Value.okWide Try.prog W .any base t v := hval0
  have hW' := hW
  obtain ⟨p, q, hA0, hV, rfl, hfz, hnd⟩ := hW
  have hA : DataW.TrodAll enc Try.prog W 0 (fun _ => true) true Try.f3.params.toList args.toList ds p := hA0
  rw [Try.params3] at hA hval
  obtain ⟨v0, vs0, d0, ds0, p0, q0, hargs, rfl, rfl, h0, r0⟩ := trodAll_cons hA
  obtain ⟨v1, vs1, d1, ds1, p1, q1, rfl, rfl, rfl, h1, r1⟩ := trodAll_cons r0
  obtain ⟨v2, vs2, d2, ds2, p2, q2, rfl, rfl, rfl, h2, r2⟩ := trodAll_cons r1
  obtain ⟨v3, vs3, d3, ds3, p3, q3, rfl, rfl, rfl, h3, r3⟩ := trodAll_cons r2
  obtain ⟨rfl, rfl, rfl⟩ := trodAll_nil r3
  obtain rfl : args = #[v0, v1, v2, v3] := by cases args; simp_all
  obtain ⟨rfl, rfl⟩ := trodVars_none hV
  obtain ⟨n0, D0⟩ := deeds_of_trod (hval 0 22 v0 rfl rfl) h0
  obtain ⟨a1, rfl, rfl, rfl, w1⟩ := open_int Try.underlying3 (hval 1 3 v1 rfl rfl) h1
  obtain ⟨a2, rfl, rfl, rfl, w2⟩ := open_int Try.underlying23 (hval 2 23 v2 rfl rfl) h2
  obtain ⟨a3, rfl, rfl, rfl, w3⟩ := open_int Try.underlying23 (hval 3 23 v3 rfl rfl) h3
  have hlt := hW'.lt
  clear hA0 hval0
  refine (walk v0 n0 a1 a2 a3 w1 w2 w3 W D0).mono fun e W' ⟨he, hg⟩ => ?_
  subst he
  exact ⟨_, rfl, post_of_same (pv := []) hW' (fun _ _ _ => (trodAll_cons_mk (shut_bool Try.underlying4 _) trodAll_mk0)) (fun sp hsp => (trodAll_cons_mk (deeds_stay h0 hg.below (fun x hx => hlt x (by simp [hx])) (fun x hx => hsp x (by simp [hx]))) (trodAll_cons_mk (shut_int Try.underlying3 w1) (trodAll_cons_mk (shut_int Try.underlying23 w2) (trodAll_cons_mk (shut_int Try.underlying23 w3) trodAll_mk0))))) (fun _ _ => rfl) (by simp)
    (hg.grown.frame _) hg.froz (ok_one (by kernel_rfl) rfl (okWide_bool_mk Try.underlying4 _))⟩

theorem over : Rows.storeEitherRow.holds Try.pinned (OpenSpec.ofChange Rows.storeEitherSpec) :=
  OpenClaim.holds_of_wide 3 Try.f3 rfl rfl rfl rfl rfl rfl rfl ⟨rfl, rfl, rfl, rfl, rfl⟩ rfl rfl rfl rfl rfl (by kernel_rfl) Try.func3 (by kernel_rfl)
    (of_decide_eq_true (by kernel_rfl)) (by unfold Func.isWrapper; first | (rw [if_pos (by decide +kernel)]; kernel_rfl) | (rw [if_neg (by decide +kernel)]; exact ⟨rfl, rfl⟩))
    (fun os started H enc _ => lifted os started H enc)

theorem proved : Rows.StoreEitherSaid :=
  over
#print axioms proved
end Go.Proofs.Ythgkmbimmelglab.storeEither
