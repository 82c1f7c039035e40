/- StoreGoods is proved: for every list of acts and every number of a line the call returns true (any line as it stays, behind anything, and whether it is another one than now, is the reference's); the library's handle of the type error stands as the program's text lays it. -/
import Derived.Test.YthgkmbimmelglaaDoorSd2
import Derived.Test.YthgkmbimmelglaaDoorArgsA
import Derived.Test.YthgkmbimmelglaaDoorLaidHandle
import Derived.Test.YthgkmbimmelglaaDoorCards
import Derived.Test.YthgkmbimmelglaaDoorStNo2
import Derived.SevenTiedAt

namespace Go.Proofs.YthgkmbimmelglaaDoor.storeGoods
open Go.ChangeShapes Go.WideShapes Go.ChangeAt Go.RowKit
set_option linter.unusedVariables false

theorem zero_equal (w : World) : (Op.equalIn 10000 41 (.agg (row (fun _ => 0) 0 8).toArray) (.agg #[.int .u64 0, .int .u64 0, .int .u64 0, .int .u64 0, .int .u64 0, .int .u64 0, .int .u64 0, .int .u64 0])).run Tryd.prog w = .ok true w := by
  rw [zero8]
  have h := line_equal (fun _ => 0) (fun _ => 0) 0 0 w
  rw [same_of _ _ _ _ _ (fun _ _ => rfl)] at h
  exact h
/-- A load under a guard that is met. -/
theorem load_wanted {P : Program} {ops : Array Oper} {rest : List Oper} {op : Oper} {a : Act} {w : World} {Q : Exit → Act → World → Prop} (hw : Region.wanted op (yielded ops a.tmps) = true) (ty : TypeId) (x : Operand) (ho : op.op = .load ty x)
    (b o : Nat) (hx : a.eval x = .pointer (some ⟨b, o, none⟩)) (cs : List Value) (d : TypeDesc) (hc : w.rangeAt b o cs)
    (hu : P.underlying ty = some d) (hd : d.isRow = true) (hi : (P.info? ty).map (·.size) = some cs.length)
    (h : wpList P ops Q rest (a.put op.dst (.agg cs.toArray)) w) : wpList P ops Q (op :: rest) a w := by
  simp only [wpList, hw, if_true]
  exact .inl (wp_load_mid ty x ho b o hx cs d hc hu hd hi h)

set_option maxRecDepth 20000 in
set_option maxHeartbeats 2000000 in
theorem walk (v0 : Value) (n0 : Nat) (a1 : Int) (w1 : (Lit.int .i64 a1).wf = true) (w : World) (hT : HandleAt w) (D0 : Acts w v0 n0) :
     Calls Tryd.prog 4 #[v0, .int .i64 a1] w fun e w' => e = .returned (.bool true) ∧ Gr w w' := by
  clear w1
  obtain ⟨A, cap, rfl, _⟩ := D0.open
  by_cases hn : n0 ≤ 60
  · by_cases hin : 0 ≤ a1 ∧ a1 < 9
    · obtain ⟨l, rfl⟩ := Int.eq_ofNat_of_zero_le hin.1
      have hl : l < 9 := by omega
      have h0 : ¬ (l : Int) < 0 := by omega
      have h9 : ¬ (9 : Int) ≤ (l : Int) := by omega
      clear hin
      have hn' : ¬ (60 : Int) < (n0 : Int) := by omega
      go_enter Tryd.func4, Tryd.ntmps4
      go_wp2_with fail
      refine (stored_any _ n0 _ hn hT D0).mono ?_
      rintro e u1 ⟨b, r, m, s, rfl, P⟩
      go_wp2_with fail
      refine (Good_yes l b s _ hl P.st).mono ?_
      rintro e u2 ⟨rfl, g2⟩
      have P2 := P.grow g2
      clear P g2
      go_wp2_with (refine wpList_store_mid rfl 41 _ _ rfl _ _ (row s.good (l * 8) 8).toArray rfl rfl (row_there _ _ _ _ _ rfl) (line_size2 s.good (l * 8)) (row_all s.good (l * 8)) ?_
                   have B3 := loc_born u2 #[.int .u64 0, .int .u64 0, .int .u64 0, .int .u64 0, .int .u64 0, .int .u64 0, .int .u64 0, .int .u64 0] 41 s.good (l * 8) rfl
                   generalize (u2.alloc (.cells #[.int .u64 0, .int .u64 0, .int .u64 0, .int .u64 0, .int .u64 0, .int .u64 0, .int .u64 0, .int .u64 0] 41)).setCells u2.heap.size 0 (row s.good (l * 8) 8) = u3 at B3 ⊢
                   generalize hn3 : u2.heap.size = n3 at *)
      obtain ⟨gB3, L3⟩ := B3
      have P3 := P2.grow gB3
      clear P2 gB3 hn3
      refine (Dirty_yes l b s _ hl P3.st).mono ?_
      rintro e u4 ⟨rfl, q4, hu⟩
      have P4 : Pair w b r m s u4 := by rw [hu]; exact P3.drewN q4
      have L4 : u4.rangeAt n3 0 (row s.good (l * 8) 8) := by rw [hu]; exact L3
      clear hu P3 L3
      go_wp2_with fail
      refine (refDirty_yes l r m s _ hl P4.rf).mono ?_
      rintro e u5 ⟨rfl, q5, hu⟩
      have P5 : Pair w b r m s u5 := by rw [hu]; exact P4.drewN q5
      have L5 : u5.rangeAt n3 0 (row s.good (l * 8) 8) := by rw [hu]; exact L4
      clear hu P4 L4
      generalize (!same s.now (l * 8) s.good (l * 8) 8) = B at *
      have I5 : Hid _ := And.intro P5 L5
      clear P5 L5
      go_wp2
      go_loopw [10] (fun i wr => ∃ k : Nat, k ≤ 8 ∧ i = .int .i64 k ∧ Pair w b r m s wr ∧ wr.rangeAt n3 0 (row s.good (l * 8) 8))
        (fun i _ => 8 - (intOf i).toNat)
      case atStart => exact ⟨0, by omega, rfl, I5.out⟩
      case round =>
        clear I5
        obtain ⟨k, hk, rfl, P, L⟩ := hrel
        by_cases hlt : k < 8
        · have c1 := L k _ (row_at s.good (l * 8) 8 k hlt)
          rw [Nat.zero_add] at c1
          have c2 := P.rf.goodc (a := l * 8 + k) (by omega)
          have hw1 := wrap_small ((l : Int) * 8) (by omega) (by omega)
          have hw2 := wrap_small ((l : Int) * 8 + (k : Int)) (by omega) (by omega)
          have b1 : (0 : Int) ≤ (k : Int) := by omega
          have b2 : (k : Int) < 8 := by omega
          have b3 : (0 : Int) ≤ (l : Int) * 8 + (k : Int) := by omega
          have b4 : (l : Int) * 8 + (k : Int) < 72 := by omega
          have b5 : ((l : Int) * 8 + (k : Int)).toNat = l * 8 + k := by omega
          have I : Hid _ := And.intro P.drew (range_drew L)
          clear P L
          go_wp2_with fail
          go_region_held3 (fun w' => w'.cell? ⟨n3, k, none⟩ = some (.int .u64 (s.good (l * 8 + k))) ∧ w'.cell? ⟨r, 72 + (l * 8 + k), none⟩ = some (.int .u64 (s.good (l * 8 + k)))) (go_keep) (fail)
          go_wp2
          go_roundw
          case rel => exact ⟨k + 1, by omega, by go_num, I.out⟩
          case measure => simp [intOf]; omega
        · have PG : Hid _ := P.gr
          clear P L
          go_wp2
          go_ret
          exact ⟨rfl, PG.out⟩
    · have hno : a1 < 0 ∨ 9 ≤ a1 := by omega
      have HN : Hid _ := hno
      have hd := line_desc
      have hi := line_size (fun _ => 0) 0
      have he := zero_equal
      have hc : a1 < 0 ∨ (¬ a1 < 0 ∧ 9 ≤ a1) := by omega
      clear hin hno
      rcases hc with hc | ⟨hc, hc2⟩
      · have hn' : ¬ (60 : Int) < (n0 : Int) := by omega
        go_enter Tryd.func4, Tryd.ntmps4
        go_wp2_with fail
        refine (stored_any _ n0 _ hn hT D0).mono ?_
        rintro e u1 ⟨b, r, m, s, rfl, P⟩
        go_wp2_with fail
        refine (Good_no a1 _ _ HN.out).mono ?_
        rintro e u2 ⟨rfl, g2⟩
        have P2 := P.grow g2
        clear P g2
        go_wp2_with (refine wpList_store_mid rfl 41 _ _ rfl _ _ (row (fun _ => 0) (0) 8).toArray rfl rfl (row_there _ _ _ _ _ rfl) (line_size2 (fun _ => 0) (0)) (row_all (fun _ => 0) (0)) ?_
                     have B3 := loc_born u2 #[.int .u64 0, .int .u64 0, .int .u64 0, .int .u64 0, .int .u64 0, .int .u64 0, .int .u64 0, .int .u64 0] 41 (fun _ => 0) (0) rfl
                     generalize (u2.alloc (.cells #[.int .u64 0, .int .u64 0, .int .u64 0, .int .u64 0, .int .u64 0, .int .u64 0, .int .u64 0, .int .u64 0] 41)).setCells u2.heap.size 0 (row (fun _ => 0) (0) 8) = u3 at B3 ⊢
                     generalize hn3 : u2.heap.size = n3 at *)
        obtain ⟨gB3, L3⟩ := B3
        have P3 := P2.grow gB3
        clear P2 gB3 hn3
        refine (bare_range _ (hT.later P3.gr)).mono ?_
        rintro e u4 ⟨rfl, g4⟩
        have P4 := P3.grow g4
        have L4 := range_gr L3 g4
        clear P3 L3 g4
        go_wp2_with (refine load_wanted (by rfl) 41 _ rfl n3 _ rfl (row (fun _ => 0) 0 8) _ L4 hd rfl hi ?_)
        refine (Dirty_no a1 _ _ HN.out).mono ?_
        rintro e u5 ⟨rfl, q, hu⟩
        have P5 : Hid (Gr w u5) := by rw [hu]; exact P4.gr.drewN q
        clear hu P4 L4
        go_wp2
        go_ret
        exact ⟨rfl, P5.out⟩
      · have hn' : ¬ (60 : Int) < (n0 : Int) := by omega
        go_enter Tryd.func4, Tryd.ntmps4
        go_wp2_with fail
        refine (stored_any _ n0 _ hn hT D0).mono ?_
        rintro e u1 ⟨b, r, m, s, rfl, P⟩
        go_wp2_with fail
        refine (Good_no a1 _ _ HN.out).mono ?_
        rintro e u2 ⟨rfl, g2⟩
        have P2 := P.grow g2
        clear P g2
        go_wp2_with (refine wpList_store_mid rfl 41 _ _ rfl _ _ (row (fun _ => 0) (0) 8).toArray rfl rfl (row_there _ _ _ _ _ rfl) (line_size2 (fun _ => 0) (0)) (row_all (fun _ => 0) (0)) ?_
                     have B3 := loc_born u2 #[.int .u64 0, .int .u64 0, .int .u64 0, .int .u64 0, .int .u64 0, .int .u64 0, .int .u64 0, .int .u64 0] 41 (fun _ => 0) (0) rfl
                     generalize (u2.alloc (.cells #[.int .u64 0, .int .u64 0, .int .u64 0, .int .u64 0, .int .u64 0, .int .u64 0, .int .u64 0, .int .u64 0] 41)).setCells u2.heap.size 0 (row (fun _ => 0) (0) 8) = u3 at B3 ⊢
                     generalize hn3 : u2.heap.size = n3 at *)
        obtain ⟨gB3, L3⟩ := B3
        have P3 := P2.grow gB3
        clear P2 gB3 hn3
        refine (bare_range _ (hT.later P3.gr)).mono ?_
        rintro e u4 ⟨rfl, g4⟩
        have P4 := P3.grow g4
        have L4 := range_gr L3 g4
        clear P3 L3 g4
        go_wp2_with (refine load_wanted (by rfl) 41 _ rfl n3 _ rfl (row (fun _ => 0) 0 8) _ L4 hd rfl hi ?_)
        refine (Dirty_no a1 _ _ HN.out).mono ?_
        rintro e u5 ⟨rfl, q, hu⟩
        have P5 : Hid (Gr w u5) := by rw [hu]; exact P4.gr.drewN q
        clear hu P4 L4
        go_wp2
        go_ret
        exact ⟨rfl, P5.out⟩
  · have hn' : (60 : Int) < (n0 : Int) := by omega
    go_enter Tryd.func4, Tryd.ntmps4
    go_wp2
    go_ret
    exact ⟨rfl, Gr.refl _⟩


set_option maxRecDepth 100000 in
theorem lifted (os : Os) (started : os.Started) (H : Type) (enc : TypeId × Value → H) :
    ReturnsInHanded {} Tryd.checked os 4 .any (fun w args => (Rows.storeGoodsSpec.pre enc Tryd.prog Tryd.f4 [] false w args ∧ laidMetH Tryd.prog laidHandle w) ∧ sizedMet enc Tryd.prog Tryd.f4 (OpenSpec.ofChange Rows.storeGoodsSpec) false w args)
      (Rows.storeGoodsSpec.post enc Tryd.prog Tryd.f4 false true false false) := by
  refine returnsInHanded_of_change_and (C := Tryd.checked) (X := fun w _ => laidMetH Tryd.prog laidHandle w) (fun _ _ _ hh h => h.of_heap hh) own started (by kernel_rfl) Tryd.func4
    (ChangeSpec.witness_shaped (enc := enc) (C := Tryd.checked) (os := os) (X := fun w _ => laidMetH Tryd.prog laidHandle w) false (World.doorLaid Tryd.prog 400 os) #[.slice none 0 0, .int .i64 0] 8 rfl (World.shaped_of_RefB (by kernel_rfl) (by kernel_rfl)) (by kernel_rfl) (by kernel_rfl) (by kernel_rfl) (door_handle os _)) ?_
  intro W base args ds gs before hval0 hW _ _ hL _
  have hval : ∀ (j : Nat) t v, Tryd.f4.params[j]? = some t → args[j]? = some v → Value.okWide Tryd.prog W .any base t v := hval0
  have hW' := hW
  obtain ⟨p, q, hA0, hV, rfl, hfz, hnd⟩ := hW
  have hA : DataW.TrodAll enc Tryd.prog W 0 (fun _ => true) true Tryd.f4.params.toList args.toList ds p := hA0
  rw [Tryd.params4] at hA hval
  obtain ⟨v0, vs0, d0, ds0, p0, q0, hargs, rfl, rfl, h0, r0⟩ := trodAll_cons hA
  obtain ⟨v1, vs1, d1, ds1, p1, q1, rfl, rfl, rfl, h1, r1⟩ := trodAll_cons r0
  obtain ⟨rfl, rfl, rfl⟩ := trodAll_nil r1
  obtain rfl : args = #[v0, v1] := by cases args; simp_all
  obtain ⟨rfl, rfl⟩ := trodVars_none hV
  obtain ⟨n0, D0⟩ := acts_of_trod (hval 0 22 v0 rfl rfl) h0
  obtain ⟨a1, rfl, rfl, rfl, w1⟩ := open_int Tryd.underlying3 (hval 1 3 v1 rfl rfl) h1
  have hT := handle_of_laid hL
  have hlt := hW'.lt
  clear hA0 hval0
  refine (walk v0 n0 a1 w1 W hT D0).mono fun e W' ⟨he, hg⟩ => ?_
  subst he
  exact ⟨_, rfl, post_of_same (pv := []) hW' (fun _ _ _ => (trodAll_cons_mk (shut_bool Tryd.underlying4 _) trodAll_mk0)) (fun sp hsp => (trodAll_cons_mk (acts_stay h0 hg.below (fun x hx => hlt x (by simp [hx])) (fun x hx => hsp x (by simp [hx]))) (trodAll_cons_mk (shut_int Tryd.underlying3 w1) trodAll_mk0))) (fun _ _ => rfl) (by simp)
    (hg.grown.frame _) hg.froz (ok_one (by kernel_rfl) rfl (okWide_bool_mk Tryd.underlying4 _))⟩

theorem over : Rows.StoreGoodsSaid :=
  OpenClaim.holds_of_wide 4 Tryd.f4 rfl rfl rfl rfl rfl rfl rfl ⟨rfl, rfl, rfl, rfl, rfl⟩ rfl rfl rfl rfl rfl (by kernel_rfl) Tryd.func4 (by kernel_rfl)
    (of_decide_eq_true (by kernel_rfl)) (by unfold Func.isWrapper; first | (rw [if_pos (by decide +kernel)]; kernel_rfl) | (rw [if_neg (by decide +kernel)]; exact ⟨rfl, rfl⟩))
    (fun os started H enc _ => lifted os started H enc)

theorem proved : Rows.StoreGoodsCardSaid :=
  Claim7.holds_tied_plain_at .later [] [.handle] true (true, "9477996531db8507ef4fe744b9a226a1d77fca16e689333c614f9f2e0b20752d") true
    over (fun _ h => by cases h) (by kernel_rfl) (fun _ h => by cases h) storeGoods_row_tie rfl ⟨rfl, rfl⟩ (by kernel_rfl) rfl
    (fun f fn hf hfn => by
      obtain rfl : f = 4 := Option.some.inj ((show Tryd.prog.funcNamed "gristmill/gristmilllaw.StoreGoods" = some 4 by kernel_rfl).symm.trans hf) |>.symm
      obtain rfl : fn = Tryd.f4 := (Option.some.inj (Tryd.func4.symm.trans hfn)).symm
      exact ⟨by kernel_rfl, fun j t ht => by
        rw [Tryd.params4] at ht
        have hm : t ∈ [22, 3] := by simpa using Array.mem_of_getElem? ht
        have hall : ([22, 3].all fun u => !Tryd.prog.wantsStandIn u) = true := by kernel_rfl
        exact (show Tryd.prog.wantsStandIn t = false by simpa using List.all_eq_true.1 hall t hm)⟩)
    (by kernel_rfl)
#print axioms proved
end Go.Proofs.YthgkmbimmelglaaDoor.storeGoods
