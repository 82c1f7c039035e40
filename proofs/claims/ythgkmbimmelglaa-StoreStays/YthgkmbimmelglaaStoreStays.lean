/- StoreStays is proved: for every list of deeds, every thread, line and word of lines that land the call returns true (what is wanted, and fenced, stays, whatever is lost), with no condition beyond the form's own. -/
import Derived.Test.YthgkmbimmelglaaRows
import Derived.Test.YthgkmbimmelglaaArgs
import Derived.Test.YthgkmbimmelglaaKp3
import Derived.Test.YthgkmbimmelglaaLoc
import Derived.Test.YthgkmbimmelglaaStGood
import Derived.Deep.RegionHeld3
import Derived.WalkKit

namespace Go.Proofs.Ythgkmbimmelglaa.storeStays
open Go.ChangeShapes Go.WideShapes Go.ChangeAt Go.RowKit
set_option linter.unusedVariables false

theorem own : ownKnob Try.prog.godebug = none := by kernel_rfl

set_option maxHeartbeats 2000000 in
theorem walk (v0 : Value) (n0 : Nat) (a1 : Int) (a2 : Int) (a3 : Int) (w1 : (Lit.int .i64 a1).wf = true) (w2 : (Lit.int .i64 a2).wf = true) (w3 : (Lit.int .u64 a3).wf = true) (w : World) (D0 : Deeds w v0 n0) :
    Calls Try.prog 4 #[v0, .int .i64 a1, .int .i64 a2, .int .u64 a3] w fun e w' => e = .returned (.bool true) ∧ Gr w w' := by
  clear w1 w2
  obtain ⟨x, rfl, hx⟩ := u64_nat w3
  clear w3
  have HL : ∃ A c, v0 = .slice A n0 c := by
    rcases D0 with ⟨h, rfl⟩ | ⟨a, c, h, _⟩
    · exact ⟨_, _, h⟩
    · exact ⟨_, _, h⟩
  by_cases hn : n0 ≤ 60
  · clear HL
    obtain ⟨r1, hr1, p1⟩ := pick_fun a1 4 (by decide) (by decide)
    have P1 : Hid _ := p1
    clear p1
    obtain ⟨r2, hr2, p2⟩ := pick_fun a2 9 (by decide) (by decide)
    have P2 : Hid _ := p2
    clear p2
    go_enter Try.func4, Try.ntmps4
    go_wp2_with fail
    refine (kept_any _).mono ?_
    rintro e u1 ⟨rfl, g1⟩
    go_wp2_with fail
    refine (done_any v0 n0 _ hn (D0.gr g1)).mono ?_
    rintro e u2 ⟨rfl, ⟨s, h2⟩, g2⟩
    have hb : Hid (w.heap.size ≤ u1.heap.size) := g1.below.size
    generalize u1.heap.size = b at *
    have G : Hid (Gr w u2) := g1.trans g2
    clear g1 g2
    go_wp2_with fail
    refine (P1.out _).mono ?_
    rintro e ux ⟨rfl, hw⟩
    rw [hw]; clear hw ux
    go_wp2_with fail
    refine (P2.out _).mono ?_
    rintro e ux ⟨rfl, hw⟩
    rw [hw]; clear hw ux
    go_wp2_with fail
    refine (lineNow_yes r2 b s _ hr2 h2).mono ?_
    rintro e u3 ⟨rfl, g3⟩
    have h3 := h2.gr g3
    have G3 : Hid (Gr w u3) := G.out.trans g3
    clear G g3 h2
    go_wp2_with (refine wpList_store_mid rfl 37 _ _ rfl _ _ (row s.now (r2 * 8) 8).toArray rfl rfl (row_there _ _ _ _ _ rfl) (line_size2 s.now (r2 * 8)) (row_all s.now (r2 * 8)) ?_
                 have B4 := loc_born u3 #[.int .u64 0, .int .u64 0, .int .u64 0, .int .u64 0, .int .u64 0, .int .u64 0, .int .u64 0, .int .u64 0] 37 s.now (r2 * 8) rfl
                 generalize (u3.alloc (.cells #[.int .u64 0, .int .u64 0, .int .u64 0, .int .u64 0, .int .u64 0, .int .u64 0, .int .u64 0, .int .u64 0] 37)).setCells u3.heap.size 0 (row s.now (r2 * 8) 8) = u4 at B4 ⊢
                 generalize hn4 : u3.heap.size = n4 at *)
    have ne4 : n4 ≠ b := by have := h3.lt; omega
    obtain ⟨gB4, L4⟩ := B4
    have h4 := h3.gr gB4
    have G4 : Hid (Gr w u4) := G3.out.trans gB4
    clear G3 gB4 h3 hn4
    go_wp2_with fail
    refine (Flush_yes r1 r2 b s _ hr1 hr2 h4).mono ?_
    rintro e u5 ⟨rfl, h5, o5⟩
    go_wp2_with fail
    refine (Fence_yes r1 b _ _ hr1 h5).mono ?_
    rintro e u6 ⟨rfl, h6, o6⟩
    have G6 : Hid (Gr w u6) := (G4.out.only hb.out o5).only hb.out o6
    have L6 := range_only (range_only L4 ne4 o5) ne4 o6
    have e1 := same_clean s r1 r2
    have e2 := same_fence s r1 r2
    have e3 := same_crash s r1 r2 x
    have EE : Hid _ := And.intro e1 (And.intro e2 e3)
    clear G4 L4 o5 o6 h4 h5 e1 e2 e3
    generalize hs1 : (s.wish r1 r2).fence r1 = s1 at *
    clear hs1
    go_wp2_with fail
    refine (Dirty_yes r2 b _ _ hr2 h6).mono ?_
    rintro e u7 ⟨rfl, q, hu⟩
    rw [EE.out.1]
    have h7 : StAt u7 b s1 := by rw [hu]; exact h6.drewN q
    have G7 : Hid (Gr w u7) := by rw [hu]; exact G6.out.only hb.out ((Only.refl b u6).drewN q)
    have L7 : u7.rangeAt n4 0 (row s.now (r2 * 8) 8) := by rw [hu]; exact L6
    clear hu h6 G6 L6
    go_wp2_with fail
    refine (Good_yes r2 b s1 _ hr2 h7).mono ?_
    rintro e u8 ⟨rfl, g8⟩
    have h8 := h7.gr g8
    have G8 : Hid (Gr w u8) := G7.out.trans g8
    have L8 := range_gr L7 g8
    clear G7 g8 h7 L7
    go_wp2_with (refine wpList_store_mid rfl 37 _ _ rfl _ _ (row s1.good (r2 * 8) 8).toArray rfl rfl (row_there _ _ _ _ _ rfl) (line_size2 s1.good (r2 * 8)) (row_all s1.good (r2 * 8)) ?_
                 have B9 := loc_born u8 #[.int .u64 0, .int .u64 0, .int .u64 0, .int .u64 0, .int .u64 0, .int .u64 0, .int .u64 0, .int .u64 0] 37 s1.good (r2 * 8) rfl
                 generalize (u8.alloc (.cells #[.int .u64 0, .int .u64 0, .int .u64 0, .int .u64 0, .int .u64 0, .int .u64 0, .int .u64 0, .int .u64 0] 37)).setCells u8.heap.size 0 (row s1.good (r2 * 8) 8) = u9 at B9 ⊢
                 generalize hn9 : u8.heap.size = n9 at *)
    have ne9 : n9 ≠ b := by have := h8.lt; omega
    obtain ⟨gB9, L9⟩ := B9
    have h9 := h8.gr gB9
    have G9 : Hid (Gr w u9) := G8.out.trans gB9
    have M9 := range_gr L8 gB9
    clear G8 gB9 h8 hn9 L8
    go_wp2_with fail
    refine (Crash_any x b _ _ hx h9).mono ?_
    rintro e ua ⟨rfl, ha, oa⟩
    have Ga : Hid (Gr w ua) := G9.out.only hb.out oa
    have La := range_only L9 ne9 oa
    have Ma := range_only M9 ne4 oa
    clear G9 L9 M9 oa h9
    have hd := line_desc
    have hi := line_size s.now (r2 * 8)
    have hi2 := line_size s1.good (r2 * 8)
    have he := line_equal s1.good s.now (r2 * 8) (r2 * 8)
    have he2 := line_equal (s1.crash x).now s.now (r2 * 8) (r2 * 8)
    rw [EE.out.2.1] at he
    rw [EE.out.2.2] at he2
    have hH0 : Hid (ua.drew.rangeAt n9 0 (row s1.good (r2 * 8) 8) ∧ ua.drew.rangeAt n4 0 (row s.now (r2 * 8) 8)) := ⟨range_drew La, range_drew Ma⟩
    clear La Ma
    go_wp2_with fail
    refine wp_region_held_drew (S := fun w' => w'.rangeAt n9 0 (row s1.good (r2 * 8) 8) ∧ w'.rangeAt n4 0 (row s.now (r2 * 8) 8)) (by kernel_rfl) hH0.out (fun hH => ?_)
    refine wpAnyH_take (i := 0) (oi := { dst := some 54, op := .move (.tmp 12), type := _, pos := _, after := _, guard := _ }) (v := ?_) rfl (by kernel_rfl) (by kernel_rfl) (by kernel_rfl) (fun _ _ _ h => h) (Or.inl ⟨by rfl, ?_⟩) hH ?_
    rotate_left
    · intro w hSw
      clear hSw
      go_simp
      with_reducible rfl
    simp only [Act.put, List.setIfInBounds_toArray, List.set_cons_zero, List.set_cons_succ]
    refine wpAnyH_take (i := 1) (oi := { dst := some 55, op := .binOp .eql _ (.tmp 54) (.const .nilIface) _, type := _, pos := _, after := _, guard := _ }) (v := ?_) rfl (by kernel_rfl) (by kernel_rfl) (by kernel_rfl) (fun _ _ _ h => h) (Or.inl ⟨by rfl, ?_⟩) hH ?_
    rotate_left
    · intro w hSw
      clear hSw
      go_simp
      with_reducible rfl
    simp only [Act.put, List.setIfInBounds_toArray, List.set_cons_zero, List.set_cons_succ]
    refine wpAnyH_take (i := 2) (oi := { dst := some 56, op := .move (.tmp 55), type := _, pos := _, after := _, guard := _ }) (v := ?_) rfl (by kernel_rfl) (by kernel_rfl) (by kernel_rfl) (fun _ _ _ h => h) (Or.inl ⟨by rfl, ?_⟩) hH ?_
    rotate_left
    · intro w hSw
      clear hSw
      go_simp
      with_reducible rfl
    simp only [Act.put, List.setIfInBounds_toArray, List.set_cons_zero, List.set_cons_succ]
    refine wpAnyH_take (i := 3) (oi := { dst := some 57, op := .load _ (.tmp 11), type := _, pos := _, after := _, guard := _ }) (v := _) rfl (by kernel_rfl) (by kernel_rfl) (by kernel_rfl) (fun _ _ _ h => h)
      (yieldsIf_load_mid (by rfl) _ _ rfl n9 _ rfl (row s1.good (r2 * 8) 8) _ (fun _ h => h.1) hd rfl hi2) hH ?_
    simp only [Act.put, List.setIfInBounds_toArray, List.set_cons_zero, List.set_cons_succ]
    refine wpAnyH_take (i := 4) (oi := { dst := some 58, op := .load _ (.tmp 10), type := _, pos := _, after := _, guard := _ }) (v := _) rfl (by kernel_rfl) (by kernel_rfl) (by kernel_rfl) (fun _ _ _ h => h)
      (yieldsIf_load_mid (by rfl) _ _ rfl n4 _ rfl (row s.now (r2 * 8) 8) _ (fun _ h => h.2) hd rfl hi) hH ?_
    simp only [Act.put, List.setIfInBounds_toArray, List.set_cons_zero, List.set_cons_succ]
    refine wpAnyH_take (i := 5) (oi := { dst := some 59, op := .binOp .eql _ (.tmp 57) (.tmp 58) _, type := _, pos := _, after := _, guard := _ }) (v := ?_) rfl (by kernel_rfl) (by kernel_rfl) (by kernel_rfl) (fun _ _ _ h => h) (Or.inl ⟨by rfl, ?_⟩) hH ?_
    rotate_left
    · intro w hSw
      clear hSw
      go_simp
      with_reducible rfl
    simp only [Act.put, List.setIfInBounds_toArray, List.set_cons_zero, List.set_cons_succ]
    refine wpAnyH_take (i := 6) (oi := { dst := some 60, op := .pick (.tmp 56) (.tmp 59) (.const (.bool false)), type := _, pos := _, after := _, guard := _ }) (v := ?_) rfl (by kernel_rfl) (by kernel_rfl) (by kernel_rfl) (fun _ _ _ h => h) (Or.inl ⟨by rfl, ?_⟩) hH ?_
    rotate_left
    · intro w hSw
      clear hSw
      go_simp
      with_reducible rfl
    simp only [Act.put, List.setIfInBounds_toArray, List.set_cons_zero, List.set_cons_succ]
    refine wpAnyH_take (i := 7) (oi := { dst := some 61, op := .move (.tmp 60), type := _, pos := _, after := _, guard := _ }) (v := ?_) rfl (by kernel_rfl) (by kernel_rfl) (by kernel_rfl) (fun _ _ _ h => h) (Or.inl ⟨by rfl, ?_⟩) hH ?_
    rotate_left
    · intro w hSw
      clear hSw
      go_simp
      with_reducible rfl
    simp only [Act.put, List.setIfInBounds_toArray, List.set_cons_zero, List.set_cons_succ]
    refine wpAnyH_take (i := 8) (oi := { dst := some 62, op := .move (.tmp 9), type := _, pos := _, after := _, guard := _ }) (v := ?_) rfl (by kernel_rfl) (by kernel_rfl) (by kernel_rfl) (fun _ _ _ h => h) (Or.inl ⟨by rfl, ?_⟩) hH ?_
    rotate_left
    · intro w hSw
      clear hSw
      go_simp
      with_reducible rfl
    simp only [Act.put, List.setIfInBounds_toArray, List.set_cons_zero, List.set_cons_succ]
    refine wpAnyH_take (i := 9) (oi := { dst := some 63, op := .move (.tmp 2), type := _, pos := _, after := _, guard := _ }) (v := ?_) rfl (by kernel_rfl) (by kernel_rfl) (by kernel_rfl) (fun _ _ _ h => h) (Or.inl ⟨by rfl, ?_⟩) hH ?_
    rotate_left
    · intro w hSw
      clear hSw
      go_simp
      with_reducible rfl
    simp only [Act.put, List.setIfInBounds_toArray, List.set_cons_zero, List.set_cons_succ]
    refine wpAnyH_take (i := 11) (oi := { dst := some 65, op := .load _ (.tmp 10), type := _, pos := _, after := _, guard := _ }) (v := _) rfl (by kernel_rfl) (by kernel_rfl) (by kernel_rfl) (fun _ _ _ h => h)
      (yieldsIf_load_mid (by rfl) _ _ rfl n4 _ rfl (row s.now (r2 * 8) 8) _ (fun _ h => h.2) hd rfl hi) hH ?_
    simp only [Act.put, List.setIfInBounds_toArray, List.set_cons_zero, List.set_cons_succ]
    refine wpAnyH_ready (rs := [10]) (by kernel_rfl) (by simp) ?_
    refine AllReadyH.cons (o := { dst := some 64, op := _, type := _, pos := _, after := _, guard := _ }) rfl (fun K hK => ?_) AllReadyH.nil
    go_simp
    refine (lineNow_yes r2 b _ _ hr2 ha.drew).mono ?_
    rintro e uc ⟨rfl, gc⟩
    go_wp2_with fail
    refine hK.out _ _ ⟨range_gr hH.1 gc, range_gr hH.2 gc⟩ (fun hH => ?_)
    clear hK K
    refine wpAnyH_take (i := 12) (oi := { dst := some 66, op := .binOp .eql _ (.tmp 64) (.tmp 65) _, type := _, pos := _, after := _, guard := _ }) (v := ?_) rfl (by kernel_rfl) (by kernel_rfl) (by kernel_rfl) (fun _ _ _ h => h) (Or.inl ⟨by rfl, ?_⟩) hH ?_
    rotate_left
    · intro w hSw
      clear hSw
      go_simp
      with_reducible rfl
    simp only [Act.put, List.setIfInBounds_toArray, List.set_cons_zero, List.set_cons_succ]
    refine wpAnyH_take (i := 13) (oi := { dst := some 67, op := .pick (.tmp 61) (.tmp 66) (.const (.bool false)), type := _, pos := _, after := _, guard := _ }) (v := ?_) rfl (by kernel_rfl) (by kernel_rfl) (by kernel_rfl) (fun _ _ _ h => h) (Or.inl ⟨by rfl, ?_⟩) hH ?_
    rotate_left
    · intro w hSw
      clear hSw
      go_simp
      with_reducible rfl
    simp only [Act.put, List.setIfInBounds_toArray, List.set_cons_zero, List.set_cons_succ]
    refine wpAnyH_take (i := 14) (oi := { dst := some 8, op := .assign (.tmp 67), type := _, pos := _, after := _, guard := _ }) (v := ?_) rfl (by kernel_rfl) (by kernel_rfl) (by kernel_rfl) (fun _ _ _ h => h) (Or.inl ⟨by rfl, ?_⟩) hH ?_
    rotate_left
    · intro w hSw
      clear hSw
      go_simp
      with_reducible rfl
    simp only [Act.put, List.setIfInBounds_toArray, List.set_cons_zero, List.set_cons_succ]
    refine wpAnyH_done (by kernel_rfl) ?_ _
    go_wp2
    go_ret
    exact ⟨rfl, Ga.out.drew.trans gc⟩
  · obtain ⟨A, c, rfl⟩ := HL
    have hn' : (60 : Int) < (n0 : Int) := by omega
    go_enter Try.func4, Try.ntmps4
    go_wp2_with fail
    refine (kept_any _).mono ?_
    rintro e u1 ⟨rfl, g1⟩
    go_wp2_with fail
    refine (done_many _ n0 _ (by omega) (D0.gr g1)).mono ?_
    rintro e u2 ⟨rfl, g2⟩
    go_wp2
    go_ret
    exact ⟨rfl, g1.trans g2⟩


set_option maxRecDepth 100000 in
theorem lifted (os : Os) (started : os.Started) (H : Type) (enc : TypeId × Value → H) :
    ReturnsInHanded {} Try.checked os 4 .any (Rows.storeStaysSpec.pre6 enc Try.prog Try.f4 Rows.storeStaysRow.domain false) (Rows.storeStaysSpec.post enc Try.prog Try.f4 false true false false) := by
  refine returnsInHanded_of_change (C := Try.checked) own started (by kernel_rfl) Try.func4
    (ChangeSpec.witness6 (enc := enc) (C := Try.checked) false ⟨#[], #[.slice none 0 0, .int .i64 0, .int .i64 0, .int .u64 0], []⟩ 8 (by kernel_rfl) (by kernel_rfl) (by kernel_rfl) (by kernel_rfl)) ?_
  intro W base args ds gs before hval0 hW hcnd _
  have hval : ∀ (j : Nat) t v, Try.f4.params[j]? = some t → args[j]? = some v → Value.okWide Try.prog W .any base t v := hval0
  have hW' := hW
  obtain ⟨p, q, hA0, hV, rfl, hfz, hnd⟩ := hW
  have hA : DataW.TrodAll enc Try.prog W 0 (fun _ => true) true Try.f4.params.toList args.toList ds p := hA0
  rw [Try.params4] at hA hval
  obtain ⟨v0, vs0, d0, ds0, p0, q0, hargs, rfl, rfl, h0, r0⟩ := trodAll_cons hA
  obtain ⟨v1, vs1, d1, ds1, p1, q1, rfl, rfl, rfl, h1, r1⟩ := trodAll_cons r0
  obtain ⟨v2, vs2, d2, ds2, p2, q2, rfl, rfl, rfl, h2, r2⟩ := trodAll_cons r1
  obtain ⟨v3, vs3, d3, ds3, p3, q3, rfl, rfl, rfl, h3, r3⟩ := trodAll_cons r2
  obtain ⟨rfl, rfl, rfl⟩ := trodAll_nil r3
  obtain rfl : args = #[v0, v1, v2, v3] := by cases args; simp_all
  obtain ⟨rfl, rfl⟩ := trodVars_none hV
  obtain ⟨n0, D0⟩ := deeds_of_trod (hval 0 22 v0 rfl rfl) h0
  obtain ⟨a1, rfl, rfl, rfl, w1⟩ := open_int Try.underlying3 (hval 1 3 v1 rfl rfl) h1
  obtain ⟨a2, rfl, rfl, rfl, w2⟩ := open_int Try.underlying3 (hval 2 3 v2 rfl rfl) h2
  obtain ⟨a3, rfl, rfl, rfl, w3⟩ := open_int Try.underlying23 (hval 3 23 v3 rfl rfl) h3
  have hlt := hW'.lt
  clear hA0 hval0
  refine (walk v0 n0 a1 a2 a3 w1 w2 w3 W D0).mono fun e W' ⟨he, hg⟩ => ?_
  subst he
  exact ⟨_, rfl, post_of_same (pv := []) hW' (fun _ _ _ => (trodAll_cons_mk (shut_bool Try.underlying4 _) trodAll_mk0)) (fun sp hsp => (trodAll_cons_mk (deeds_stay h0 hg.below (fun x hx => hlt x (by simp [hx])) (fun x hx => hsp x (by simp [hx]))) (trodAll_cons_mk (shut_int Try.underlying3 w1) (trodAll_cons_mk (shut_int Try.underlying3 w2) (trodAll_cons_mk (shut_int Try.underlying23 w3) trodAll_mk0))))) (fun _ _ => rfl) (by simp)
    (hg.grown.frame _) hg.froz (ok_one (by kernel_rfl) rfl (okWide_bool_mk Try.underlying4 _))⟩

theorem over : Rows.storeStaysRow.holds Try.pinned (OpenSpec.ofChange Rows.storeStaysSpec) :=
  OpenClaim.holds_of_wide 4 Try.f4 rfl rfl rfl rfl rfl rfl rfl ⟨rfl, rfl, rfl, rfl, rfl⟩ rfl rfl rfl rfl rfl (by kernel_rfl) Try.func4 (by kernel_rfl)
    (of_decide_eq_true (by kernel_rfl)) (by unfold Func.isWrapper; first | (rw [if_pos (by decide +kernel)]; kernel_rfl) | (rw [if_neg (by decide +kernel)]; exact ⟨rfl, rfl⟩))
    (fun os started H enc _ => lifted os started H enc)

theorem proved : Rows.StoreStaysSaid :=
  over
#print axioms proved
end Go.Proofs.Ythgkmbimmelglaa.storeStays
