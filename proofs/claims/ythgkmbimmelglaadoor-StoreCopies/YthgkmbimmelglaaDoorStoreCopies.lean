/- StoreCopies is proved: for every two lists of acts and every number of a word the call returns true (a copy of a store is it, for good, whatever is done to the one); the library's handle of the type error stands as the program's text lays it. -/
import Derived.Test.YthgkmbimmelglaaDoorSd2
import Derived.Test.YthgkmbimmelglaaDoorArgsA
import Derived.Test.YthgkmbimmelglaaDoorLaidHandle
import Derived.Test.YthgkmbimmelglaaDoorCards
import Derived.SevenTiedAt

namespace Go.Proofs.YthgkmbimmelglaaDoor.storeCopies
open Go.ChangeShapes Go.WideShapes Go.ChangeAt Go.RowKit
set_option linter.unusedVariables false

set_option maxRecDepth 20000 in
set_option maxHeartbeats 2000000 in
theorem walk (v0 : Value) (n0 : Nat) (v1 : Value) (n1 : Nat) (a2 : Int) (w2 : (Lit.int .i64 a2).wf = true) (w : World) (hT : HandleAt w) (D0 : Acts w v0 n0) (D1 : Acts w v1 n1) :
     Calls Tryd.prog 6 #[v0, v1, .int .i64 a2] w fun e w' => e = .returned (.bool true) ∧ Gr w w' := by
  clear w2
  obtain ⟨A0, cap0, rfl, _⟩ := D0.open
  obtain ⟨A, cap, rfl, he⟩ := D1.open
  have HE : Hid _ := he
  clear he D1
  by_cases hn : n0 ≤ 40
  · have hn' : ¬ (40 : Int) < (n0 : Int) := by omega
    by_cases hm : n1 ≤ 20
    · have hm' : ¬ (20 : Int) < (n1 : Int) := by omega
      go_enter Tryd.func6, Tryd.ntmps6
      go_wp2_with fail
      refine (stored_any _ n0 _ (by omega) hT D0).mono ?_
      rintro e u1 ⟨b, r, m, s, rfl, P⟩
      go_wp2_with fail
      refine (Copy_any b s _ P.st).mono ?_
      rintro e u2 ⟨rfl, c2, g2⟩
      have P2 := P.grow g2
      have hbc : b ≠ u1.heap.size := Nat.ne_of_lt P.st.lt
      generalize u1.heap.size = c at *
      have K : Hid (b ≠ r ∧ b ≠ m ∧ w.heap.size ≤ b) := ⟨P.br, P.bm, P.lb⟩
      have I2 : Hid _ := And.intro P2.st (And.intro c2 (And.intro P2.rf P2.gr))
      clear P g2 P2 c2
      go_wp2
      go_loopw [11] (fun i wr => ∃ (k : Nat) (t : St), k ≤ n1 ∧ i = .int .i64 k ∧ StAt wr b t ∧ StAt wr c s ∧ RfAt wr r m s ∧ Gr w wr)
        (fun i _ => n1 - (intOf i).toNat)
      case atStart => exact ⟨0, s, by omega, rfl, I2.out⟩
      case round =>
        clear I2
        obtain ⟨k, t, hk, rfl, ht, hcs, hrf, g⟩ := hrel
        by_cases hlt : k < n1
        · obtain ⟨a, ⟨what, addr, word, thread, line⟩, rfl, hw, hc⟩ := HE.out w (Gr.refl w) k hlt
          simp only at hw
          have e1 : (a.add (k * 5)).add 1 = ⟨(a.add (k * 5)).block, (a.add (k * 5)).off + 1, none⟩ := by simp [Addr.add]
          have e2 : (a.add (k * 5)).add 2 = ⟨(a.add (k * 5)).block, (a.add (k * 5)).off + 2, none⟩ := by simp [Addr.add]
          have CU : Hid (∀ u, Gr w u → u.cell? ⟨(a.add (k * 5)).block, (a.add (k * 5)).off + 1, none⟩ = some (.int .i64 addr) ∧ u.cell? ⟨(a.add (k * 5)).block, (a.add (k * 5)).off + 2, none⟩ = some (.int .u64 (word : Nat))) := fun u gu => by
            rw [← e1, ← e2]
            exact ⟨by rw [gu.below.cell (World.block_lt_of_cell? w _ (hc 1 _ rfl))]; exact hc 1 _ rfl, by rw [gu.below.cell (World.block_lt_of_cell? w _ (hc 2 _ rfl))]; exact hc 2 _ rfl⟩
          clear e1 e2
          clear hc
          have cc := CU.out wr g
          have I : Hid _ := And.intro ht (And.intro hcs (And.intro hrf g))
          obtain ⟨c1, c2⟩ := cc
          clear ht hcs hrf g
          have b1 : (0 : Int) ≤ (k : Int) := by omega
          have b2 : (k : Int) < (n1 : Int) := by omega
          by_cases hin : 0 ≤ addr ∧ addr < 72
          · obtain ⟨x, rfl⟩ := Int.eq_ofNat_of_zero_le hin.1
            have hx : x < 72 := by omega
            clear hin
            go_wp2_with fail
            go_region_held3 (fun w' => w'.cell? ⟨(a.add (k * 5)).block, (a.add (k * 5)).off + 1, none⟩ = some (.int .i64 (x : Nat)) ∧ w'.cell? ⟨(a.add (k * 5)).block, (a.add (k * 5)).off + 2, none⟩ = some (.int .u64 (word : Nat))) (go_keep)
              (first
                | (go_at_call 16; refine (Save_yes x b _ t _ hx I.out.1.drew).mono ?_; rintro e w4 ⟨rfl, h4, o4⟩; have cc4 := CU.out w4 (I.out.2.2.2.drew.only K.out.2.2 o4); obtain ⟨k1, k2⟩ := cc4))
            have J : Hid _ := And.intro h4 (And.intro (I.out.2.1.drew.only (Ne.symm hbc) o4) (And.intro (I.out.2.2.1.drew.only (Ne.symm K.out.1) (Ne.symm K.out.2.1) o4) (I.out.2.2.2.drew.only K.out.2.2 o4)))
            clear I h4 o4
            go_wp2_with fail
            refine (Crash_any word b _ _ hw J.out.1).mono ?_
            rintro e w5 ⟨rfl, h5, o5⟩
            have J5 : Hid _ := And.intro h5 (And.intro (J.out.2.1.only (Ne.symm hbc) o5) (And.intro (J.out.2.2.1.only (Ne.symm K.out.1) (Ne.symm K.out.2.1) o5) (J.out.2.2.2.only K.out.2.2 o5)))
            clear J h5 o5
            go_wp2
            go_roundw
            case rel => exact ⟨k + 1, _, by omega, by go_num, J5.out⟩
            case measure => simp [intOf]; omega
          · have hno : addr < 0 ∨ 72 ≤ addr := by omega
            have HN : Hid _ := hno
            clear hin hno
            go_wp2_with fail
            go_region_held3 (fun w' => w'.cell? ⟨(a.add (k * 5)).block, (a.add (k * 5)).off + 1, none⟩ = some (.int .i64 addr) ∧ w'.cell? ⟨(a.add (k * 5)).block, (a.add (k * 5)).off + 2, none⟩ = some (.int .u64 (word : Nat))) (go_keep)
              (first
                | (go_at_call 16; refine (Save_no addr _ _ _ HN.out).mono ?_; rintro e ux ⟨rfl, hu⟩; rw [hu]; clear hu))
            go_wp2_with fail
            refine (Crash_any word b t _ hw I.out.1.drew).mono ?_
            rintro e w5 ⟨rfl, h5, o5⟩
            have J5 : Hid _ := And.intro h5 (And.intro (I.out.2.1.drew.only (Ne.symm hbc) o5) (And.intro (I.out.2.2.1.drew.only (Ne.symm K.out.1) (Ne.symm K.out.2.1) o5) (I.out.2.2.2.drew.only K.out.2.2 o5)))
            clear I h5 o5
            go_wp2
            go_roundw
            case rel => exact ⟨k + 1, _, by omega, by go_num, J5.out⟩
            case measure => simp [intOf]; omega
        · have I : Hid _ := And.intro hcs (And.intro hrf g)
          clear ht hcs hrf g
          go_wp2
          go_loopw [12] (fun i wr => ∃ k : Nat, k ≤ 9 ∧ i = .int .i64 k ∧ StAt wr c s ∧ RfAt wr r m s ∧ Gr w wr)
            (fun i _ => 9 - (intOf i).toNat)
          case atStart => exact ⟨0, by omega, rfl, I.out⟩
          case round =>
            clear I
            obtain ⟨j, hj, rfl, hcs, hrf, g⟩ := hrel
            by_cases hlj : j < 9
            · go_wp2_with fail
              refine (Dirty_yes j c s _ hlj hcs).mono ?_
              rintro e v4 ⟨rfl, q4, hu⟩
              have s4 : StAt v4 c s := by rw [hu]; exact hcs.drewN q4
              have r4 : RfAt v4 r m s := by rw [hu]; exact hrf.drewN q4
              have G4 : Hid (Gr w v4) := by rw [hu]; exact g.drewN q4
              clear hu hcs hrf g
              go_wp2_with fail
              refine (refDirty_yes j r m s _ hlj r4).mono ?_
              rintro e v5 ⟨rfl, q5, hu⟩
              have J5 : Hid (StAt v5 c s ∧ RfAt v5 r m s ∧ Gr w v5) := by rw [hu]; exact ⟨s4.drewN q5, r4.drewN q5, G4.out.drewN q5⟩
              clear hu s4 r4 G4
              generalize (!same s.now (j * 8) s.good (j * 8) 8) = B at *
              go_wp2
              go_roundw
              case rel => exact ⟨j + 1, by omega, by go_num, J5.out⟩
              case measure => simp [intOf]; omega
            · by_cases hin : 0 ≤ a2 ∧ a2 < 72
              · obtain ⟨x, rfl⟩ := Int.eq_ofNat_of_zero_le hin.1
                have hx : x < 72 := by omega
                have h0 : (0 : Int) ≤ (x : Int) := by omega
                have h9 : (x : Int) < 72 := by omega
                clear hin
                have c1 := hrf.nowc hx
                have GG : Hid _ := g
                clear g
                go_wp2_with fail
                refine (Load_yes x c s _ hx hcs).mono ?_
                rintro e ux ⟨rfl, hu⟩
                rw [hu]; clear hu ux
                go_wp2_with fail
                refine (There_yes r x _ hx).mono ?_
                rintro e ux ⟨rfl, hu⟩
                rw [hu]; clear hu ux
                go_wp2_with fail
                refine (There_yes r x _ hx).mono ?_
                rintro e ux ⟨rfl, hu⟩
                rw [hu]; clear hu ux
                go_wp2
                go_ret
                exact ⟨rfl, GG.out⟩
              · have hno : a2 < 0 ∨ 72 ≤ a2 := by omega
                have HN : Hid _ := hno
                clear hin hno
                have GG : Hid _ := g
                clear g
                go_wp2_with fail
                refine (Load_no a2 _ _ HN.out).mono ?_
                rintro e ux ⟨rfl, hu⟩
                rw [hu]; clear hu ux
                go_wp2_with fail
                refine (There_no r a2 _ HN.out).mono ?_
                rintro e ux ⟨rfl, hu⟩
                rw [hu]; clear hu ux
                go_wp2_with fail
                refine (bare_range _ (hT.later GG.out)).mono ?_
                rintro e v6 ⟨rfl, g6⟩
                have G6 : Hid _ := GG.out.trans g6
                clear g6
                go_wp2
                go_ret
                exact ⟨rfl, G6.out⟩
    · have hm' : (20 : Int) < (n1 : Int) := by omega
      go_enter Tryd.func6, Tryd.ntmps6
      go_wp2
      go_ret
      exact ⟨rfl, Gr.refl _⟩
  · have hn' : (40 : Int) < (n0 : Int) := by omega
    go_enter Tryd.func6, Tryd.ntmps6
    go_wp2
    go_ret
    exact ⟨rfl, Gr.refl _⟩


set_option maxRecDepth 100000 in
theorem lifted (os : Os) (started : os.Started) (H : Type) (enc : TypeId × Value → H) :
    ReturnsInHanded {} Tryd.checked os 6 .any (fun w args => (Rows.storeCopiesSpec.pre enc Tryd.prog Tryd.f6 [] false w args ∧ laidMetH Tryd.prog laidHandle w) ∧ sizedMet enc Tryd.prog Tryd.f6 (OpenSpec.ofChange Rows.storeCopiesSpec) false w args)
      (Rows.storeCopiesSpec.post enc Tryd.prog Tryd.f6 false true false false) := by
  refine returnsInHanded_of_change_and (C := Tryd.checked) (X := fun w _ => laidMetH Tryd.prog laidHandle w) (fun _ _ _ hh h => h.of_heap hh) own started (by kernel_rfl) Tryd.func6
    (ChangeSpec.witness_shaped (enc := enc) (C := Tryd.checked) (os := os) (X := fun w _ => laidMetH Tryd.prog laidHandle w) false (World.doorLaid Tryd.prog 400 os) #[.slice none 0 0, .slice none 0 0, .int .i64 0] 8 rfl (World.shaped_of_RefB (by kernel_rfl) (by kernel_rfl)) (by kernel_rfl) (by kernel_rfl) (by kernel_rfl) (door_handle os _)) ?_
  intro W base args ds gs before hval0 hW _ _ hL _
  have hval : ∀ (j : Nat) t v, Tryd.f6.params[j]? = some t → args[j]? = some v → Value.okWide Tryd.prog W .any base t v := hval0
  have hW' := hW
  obtain ⟨p, q, hA0, hV, rfl, hfz, hnd⟩ := hW
  have hA : DataW.TrodAll enc Tryd.prog W 0 (fun _ => true) true Tryd.f6.params.toList args.toList ds p := hA0
  rw [Tryd.params6] at hA hval
  obtain ⟨v0, vs0, d0, ds0, p0, q0, hargs, rfl, rfl, h0, r0⟩ := trodAll_cons hA
  obtain ⟨v1, vs1, d1, ds1, p1, q1, rfl, rfl, rfl, h1, r1⟩ := trodAll_cons r0
  obtain ⟨v2, vs2, d2, ds2, p2, q2, rfl, rfl, rfl, h2, r2⟩ := trodAll_cons r1
  obtain ⟨rfl, rfl, rfl⟩ := trodAll_nil r2
  obtain rfl : args = #[v0, v1, v2] := by cases args; simp_all
  obtain ⟨rfl, rfl⟩ := trodVars_none hV
  obtain ⟨n0, D0⟩ := acts_of_trod (hval 0 22 v0 rfl rfl) h0
  obtain ⟨n1, D1⟩ := acts_of_trod (hval 1 22 v1 rfl rfl) h1
  obtain ⟨a2, rfl, rfl, rfl, w2⟩ := open_int Tryd.underlying3 (hval 2 3 v2 rfl rfl) h2
  have hT := handle_of_laid hL
  have hlt := hW'.lt
  clear hA0 hval0
  refine (walk v0 n0 v1 n1 a2 w2 W hT D0 D1).mono fun e W' ⟨he, hg⟩ => ?_
  subst he
  exact ⟨_, rfl, post_of_same (pv := []) hW' (fun _ _ _ => (trodAll_cons_mk (shut_bool Tryd.underlying4 _) trodAll_mk0)) (fun sp hsp => (trodAll_cons_mk (acts_stay h0 hg.below (fun x hx => hlt x (by simp [hx])) (fun x hx => hsp x (by simp [hx]))) (trodAll_cons_mk (acts_stay h1 hg.below (fun x hx => hlt x (by simp [hx])) (fun x hx => hsp x (by simp [hx]))) (trodAll_cons_mk (shut_int Tryd.underlying3 w2) trodAll_mk0)))) (fun _ _ => rfl) (by simp)
    (hg.grown.frame _) hg.froz (ok_one (by kernel_rfl) rfl (okWide_bool_mk Tryd.underlying4 _))⟩

theorem over : Rows.StoreCopiesSaid :=
  OpenClaim.holds_of_wide 6 Tryd.f6 rfl rfl rfl rfl rfl rfl rfl ⟨rfl, rfl, rfl, rfl, rfl⟩ rfl rfl rfl rfl rfl (by kernel_rfl) Tryd.func6 (by kernel_rfl)
    (of_decide_eq_true (by kernel_rfl)) (by unfold Func.isWrapper; first | (rw [if_pos (by decide +kernel)]; kernel_rfl) | (rw [if_neg (by decide +kernel)]; exact ⟨rfl, rfl⟩))
    (fun os started H enc _ => lifted os started H enc)

theorem proved : Rows.StoreCopiesCardSaid :=
  Claim7.holds_tied_plain_at .later [] [.handle] true (true, "9477996531db8507ef4fe744b9a226a1d77fca16e689333c614f9f2e0b20752d") true
    over (fun _ h => by cases h) (by kernel_rfl) (fun _ h => by cases h) storeCopies_row_tie rfl ⟨rfl, rfl⟩ (by kernel_rfl) rfl
    (fun f fn hf hfn => by
      obtain rfl : f = 6 := Option.some.inj ((show Tryd.prog.funcNamed "gristmill/gristmilllaw.StoreCopies" = some 6 by kernel_rfl).symm.trans hf) |>.symm
      obtain rfl : fn = Tryd.f6 := (Option.some.inj (Tryd.func6.symm.trans hfn)).symm
      exact ⟨by kernel_rfl, fun j t ht => by
        rw [Tryd.params6] at ht
        have hm : t ∈ [22, 22, 3] := by simpa using Array.mem_of_getElem? ht
        have hall : ([22, 22, 3].all fun u => !Tryd.prog.wantsStandIn u) = true := by kernel_rfl
        exact (show Tryd.prog.wantsStandIn t = false by simpa using List.all_eq_true.1 hall t hm)⟩)
    (by kernel_rfl)
#print axioms proved
end Go.Proofs.YthgkmbimmelglaaDoor.storeCopies
