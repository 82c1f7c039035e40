/- The laws' stored: a store and the reference's behind whatever acts are alike, and tell the same errors. -/
import Derived.Test.YthgkmbimmelglaaDoorSd1
import Derived.Deep.QuietTactic
namespace Go.Proofs.YthgkmbimmelglaaDoor
open Go.RowKit

set_option maxRecDepth 20000 in
set_option maxHeartbeats 4000000 in
theorem stored_any (sl : Value) (n : Nat) (w : World) (hn : n ≤ 60) (hH : HandleAt w) (hd : Acts w sl n) :
    Calls Tryd.prog 7 #[sl] w fun e w' => ∃ b r m s, e = .returned (.tuple #[.pointer (some ⟨b, 0, none⟩), .pointer (some ⟨r, 0, none⟩), .bool true]) ∧ Pair w b r m s w' := by
  obtain ⟨A, cap, rfl, he⟩ := hd.open
  have HE : Hid _ := he
  have HH : Hid (HandleAt w) := hH
  clear hd he hH
  go_enter Tryd.func7, Tryd.ntmps7
  go_wp2_with fail
  refine (New_any _).mono ?_
  rintro e w1 ⟨rfl, h1, g1⟩
  have lb : w.heap.size ≤ w.heap.size := Nat.le_refl _
  have P1 : Hid (StAt w1 w.heap.size St.zero ∧ Gr w w1 ∧ w.heap.size < w1.heap.size) := ⟨h1, g1, h1.lt⟩
  clear h1 g1
  generalize hb : w.heap.size = b at *
  go_wp2_with fail
  refine (NewStore_any _).mono ?_
  rintro e w2 ⟨r, m, rfl, hr, hm, h2, g2⟩
  have P2 : Hid (Pair w b r m St.zero w2) := by
    obtain ⟨h1, g1, hl⟩ := P1.out
    exact ⟨g1.trans g2, h1.gr g2, h2, by omega, by omega, by omega, by omega, by omega⟩
  clear P1 hr hm h2 g2 hb lb
  go_wp2
  go_loopw [7] (fun i wr => ∃ (k : Nat) (s : St) (m : Nat), k ≤ n ∧ i = .int .i64 k ∧ Pair w b r m s wr)
    (fun i _ => n - (intOf i).toNat)
  case atStart => exact ⟨0, _, m, by omega, rfl, P2.out⟩
  case round =>
    clear P2 m
    obtain ⟨k, s, m, hk, rfl, P⟩ := hrel
    by_cases hlt : k < n
    · obtain ⟨a, ⟨what, addr, word, thread, line⟩, rfl, hw, hc⟩ := HE.out wr P.gr k hlt
      have HC : Hid _ := hc
      simp only at hw
      clear hc
      have nb : ¬ wr.heap.size = b := Ne.symm (Nat.ne_of_lt P.st.lt)
      have nr : ¬ wr.heap.size = r := Ne.symm (Nat.ne_of_lt P.rf.lt)
      have nm : ¬ wr.heap.size = m := Ne.symm (Nat.ne_of_lt P.rf.wants.lt)
      have PP : Hid _ := P
      clear P
      by_cases q0 : what = 0
      · subst q0
        by_cases hin : 0 ≤ addr ∧ addr < 72
        · obtain ⟨x, rfl⟩ := Int.eq_ofNat_of_zero_le hin.1
          have hx : x < 72 := by omega
          have h0 : (0 : Int) ≤ (x : Int) := by omega
          have h9 : (x : Int) < 72 := by omega
          clear hin
          go_wp2_with (first
          | (refine wpList_load_at rfl 50 _ rfl _ rfl (Ac.mk 0 (x : Nat) word thread line).cells HC.out (act_agg _) (act_size _ _) ?_)
          | (refine wpList_store_mid rfl 50 _ _ rfl wr.heap.size _ (Ac.mk 0 (x : Nat) word thread line).cells.toArray rfl rfl (there_row _ _ _ _ rfl) (act_info (Ac.mk 0 (x : Nat) word thread line)) (act_one (Ac.mk 0 (x : Nat) word thread line)) ?_
             obtain ⟨L, gW⟩ := ActAt.born wr (Ac.mk 0 (x : Nat) word thread line) #[.int .i64 0, .int .i64 0, .int .u64 0, .int .i64 0, .int .i64 0] rfl 50
             generalize (wr.alloc (.cells #[.int .i64 0, .int .i64 0, .int .u64 0, .int .i64 0, .int .i64 0] 50)).setCells wr.heap.size 0 (Ac.mk 0 (x : Nat) word thread line).cells = W at L gW ⊢
             have c0 := L.c0
             simp only at c0
             have c1 := L.c1
             simp only at c1
             have c2 := L.c2
             simp only at c2))
          refine (There_yes r x _ hx).mono ?_
          rintro e ux ⟨rfl, hu⟩
          rw [hu]; clear hu ux
          have PW := PP.out.grow gW
          have cr := PW.rf.nowc hx
          have fr := PW.rf.froz x
          have E : RfAt (W.setCell ⟨r, x, none⟩ (.int .u64 (word : Nat))).drew r m (s.save x (word : Nat)) := (PW.rf.setCell x _ (by omega) _ (s.save_rat x _ m hx) rfl).drew
          have O : Only r W (W.setCell ⟨r, x, none⟩ (.int .u64 (word : Nat))).drew := ((Only.refl r W).setCell _ _).drew
          have L1 := L.only nr O
          have KK : Hid ((W.setCell ⟨r, x, none⟩ (.int .u64 (word : Nat))).drew.cell? ⟨wr.heap.size, 1, none⟩ = some (.int .i64 (x : Nat)) ∧ (W.setCell ⟨r, x, none⟩ (.int .u64 (word : Nat))).drew.cell? ⟨wr.heap.size, 2, none⟩ = some (.int .u64 (word : Nat))) := ⟨L1.c1, L1.c2⟩
          have hst := PW.st.only PW.br O
          have hG := PW.gr.only PW.lr O
          have EE : Hid _ := And.intro E (And.intro hst (And.intro hG (And.intro L1 PW)))
          clear E O PW L L1 hst hG
          go_wp2_with fail
          go_region_held3 (fun w' => w'.cell? ⟨wr.heap.size, 1, none⟩ = some (.int .i64 (x : Nat)) ∧ w'.cell? ⟨wr.heap.size, 2, none⟩ = some (.int .u64 (word : Nat))) (first | (exact KK.out) | go_keep) (fail)
          obtain ⟨E, hst, hG, L1, PW⟩ := EE.out
          clear EE KK cr fr c0 c1 c2
          generalize (W.setCell ⟨r, x, none⟩ (.int .u64 (word : Nat))).drew = W1 at *
          have c1 := L1.c1
          have c2 := L1.c2
          simp only at c1 c2
          go_wp2_with fail
          refine (Save_yes x b _ s _ hx hst).mono ?_
          rintro e w4 ⟨rfl, h4, o4⟩
          have P4 : Pair w b r m (s.save x (word : Nat)) w4 := ⟨hG.only PW.lb o4, h4, E.only (Ne.symm PW.br) (Ne.symm PW.bm) o4, PW.br, PW.bm, PW.lb, PW.lr, PW.lm⟩
          have Q4 : Hid _ := P4
          clear P4 E hst hG PW h4 o4 L1 gW
          go_wp2_with fail
          refine (bare_ok _).mono ?_
          rintro e ux ⟨rfl, hu⟩
          rw [hu]; clear hu ux
          go_wp2
          go_roundw
          case rel => exact ⟨k + 1, _, m, by omega, by go_num, Q4.out⟩
          case measure => simp [intOf]; omega
        · have hno : addr < 0 ∨ 72 ≤ addr := by omega
          clear hin
          go_wp2_with (first
          | (refine wpList_load_at rfl 50 _ rfl _ rfl (Ac.mk 0 addr word thread line).cells HC.out (act_agg _) (act_size _ _) ?_)
          | (refine wpList_store_mid rfl 50 _ _ rfl wr.heap.size _ (Ac.mk 0 addr word thread line).cells.toArray rfl rfl (there_row _ _ _ _ rfl) (act_info (Ac.mk 0 addr word thread line)) (act_one (Ac.mk 0 addr word thread line)) ?_
             obtain ⟨L, gW⟩ := ActAt.born wr (Ac.mk 0 addr word thread line) #[.int .i64 0, .int .i64 0, .int .u64 0, .int .i64 0, .int .i64 0] rfl 50
             generalize (wr.alloc (.cells #[.int .i64 0, .int .i64 0, .int .u64 0, .int .i64 0, .int .i64 0] 50)).setCells wr.heap.size 0 (Ac.mk 0 addr word thread line).cells = W at L gW ⊢
             have c0 := L.c0
             simp only at c0
             have c1 := L.c1
             simp only at c1
             have c2 := L.c2
             simp only at c2))
          refine (There_no r addr _ hno).mono ?_
          rintro e ux ⟨rfl, hu⟩
          rw [hu]; clear hu ux
          have PW : Hid _ := PP.out.grow gW
          go_wp2_with fail
          refine (Save_no addr _ _ _ hno).mono ?_
          rintro e ux ⟨rfl, hu⟩
          rw [hu]; clear hu ux
          go_wp2_with fail
          refine (bare_range _ (HH.out.later PW.out.gr)).mono ?_
          rintro e w5 ⟨rfl, g5⟩
          have P5 : Hid _ := PW.out.grow g5
          clear g5 gW
          go_wp2
          go_roundw
          case rel => exact ⟨k + 1, s, m, by omega, by go_num, P5.out⟩
          case measure => simp [intOf]; omega
      by_cases q1 : what = 1
      · subst q1
        by_cases hin : (0 ≤ thread ∧ thread < 4) ∧ 0 ≤ line ∧ line < 9
        · obtain ⟨t, rfl⟩ := Int.eq_ofNat_of_zero_le hin.1.1
          obtain ⟨l, rfl⟩ := Int.eq_ofNat_of_zero_le hin.2.1
          have ht : t < 4 := by omega
          have hl : l < 9 := by omega
          clear hin
          go_wp2_with (first
          | (refine wpList_load_at rfl 50 _ rfl _ rfl (Ac.mk 1 addr word (t : Nat) (l : Nat)).cells HC.out (act_agg _) (act_size _ _) ?_)
          | (refine wpList_store_mid rfl 50 _ _ rfl wr.heap.size _ (Ac.mk 1 addr word (t : Nat) (l : Nat)).cells.toArray rfl rfl (there_row _ _ _ _ rfl) (act_info (Ac.mk 1 addr word (t : Nat) (l : Nat))) (act_one (Ac.mk 1 addr word (t : Nat) (l : Nat))) ?_
             obtain ⟨L, gW⟩ := ActAt.born wr (Ac.mk 1 addr word (t : Nat) (l : Nat)) #[.int .i64 0, .int .i64 0, .int .u64 0, .int .i64 0, .int .i64 0] rfl 50
             generalize (wr.alloc (.cells #[.int .i64 0, .int .i64 0, .int .u64 0, .int .i64 0, .int .i64 0] 50)).setCells wr.heap.size 0 (Ac.mk 1 addr word (t : Nat) (l : Nat)).cells = W at L gW ⊢
             have c0 := L.c0
             simp only at c0
             have c3 := L.c3
             simp only at c3
             have c4 := L.c4
             simp only at c4))
          have PW := PP.out.grow gW
          go_region_held3 (fun w' => w'.cell? ⟨wr.heap.size, 3, none⟩ = some (.int .i64 (t : Nat)) ∧ w'.cell? ⟨wr.heap.size, 4, none⟩ = some (.int .i64 (l : Nat))) (go_keep)
            (first
              | (go_at_call 20; refine (Flush_yes t l b s _ ht hl PW.st.drew).mono ?_; rintro e w4 ⟨rfl, h4, o4⟩; have L4 := L.drew.only nb o4; have k3 := L4.c3; have k4 := L4.c4; simp only at k3 k4)
              | (go_at_call 21; refine (refFlush_yes t l r m s _ ht hl (PW.rf.drew.only (Ne.symm PW.br) (Ne.symm PW.bm) o4)).mono ?_; rintro e w5 ⟨rfl, h5, o5⟩; have L5 := L4.two nr nm o5; have kk3 := L5.c3; have kk4 := L5.c4; simp only at kk3 kk4)
              | (go_at_call 10; refine (bare_ok _).mono ?_; rintro e ux ⟨rfl, hu⟩; rw [hu]; clear hu))
          have P5 : Hid (Pair w b r m (s.wish t l) w5) := ⟨(PW.gr.drew.only PW.lb o4).two PW.lr PW.lm o5, h4.two PW.br PW.bm o5, h5, PW.br, PW.bm, PW.lb, PW.lr, PW.lm⟩
          clear PW h4 h5 o4 o5 L4 L5 L
          go_wp2
          go_roundw
          case rel => exact ⟨k + 1, _, m, by omega, by go_num, P5.out⟩
          case measure => simp [intOf]; omega
        · have hno : (thread < 0 ∨ 4 ≤ thread) ∨ line < 0 ∨ 9 ≤ line := by omega
          have HN : Hid _ := hno
          clear hin hno
          go_wp2_with (first
          | (refine wpList_load_at rfl 50 _ rfl _ rfl (Ac.mk 1 addr word thread line).cells HC.out (act_agg _) (act_size _ _) ?_)
          | (refine wpList_store_mid rfl 50 _ _ rfl wr.heap.size _ (Ac.mk 1 addr word thread line).cells.toArray rfl rfl (there_row _ _ _ _ rfl) (act_info (Ac.mk 1 addr word thread line)) (act_one (Ac.mk 1 addr word thread line)) ?_
             obtain ⟨L, gW⟩ := ActAt.born wr (Ac.mk 1 addr word thread line) #[.int .i64 0, .int .i64 0, .int .u64 0, .int .i64 0, .int .i64 0] rfl 50
             generalize (wr.alloc (.cells #[.int .i64 0, .int .i64 0, .int .u64 0, .int .i64 0, .int .i64 0] 50)).setCells wr.heap.size 0 (Ac.mk 1 addr word thread line).cells = W at L gW ⊢
             have c0 := L.c0
             simp only at c0
             have c3 := L.c3
             simp only at c3
             have c4 := L.c4
             simp only at c4))
          have PW := PP.out.grow gW
          go_region_held3 (fun w' => w'.cell? ⟨wr.heap.size, 3, none⟩ = some (.int .i64 thread) ∧ w'.cell? ⟨wr.heap.size, 4, none⟩ = some (.int .i64 line)) (go_keep)
            (first
              | (go_at_call 20; refine (Flush_no thread line _ _ HN.out).mono ?_; rintro e ux ⟨rfl, hu⟩; rw [hu]; clear hu)
              | (go_at_call 21; refine (refFlush_no r thread line _ HN.out).mono ?_; rintro e ux ⟨rfl, hu⟩; rw [hu]; clear hu)
              | (go_at_call 10; refine (bare_range _ (HH.out.later PW.gr.drew)).mono ?_; rintro e w6 ⟨rfl, g6⟩; have L6 := L.drew.gr g6; have k3 := L6.c3; have k4 := L6.c4; simp only at k3 k4))
          have P6 : Hid (Pair w b r m s w6) := PW.drew.grow g6
          clear PW g6 L6 L
          go_wp2
          go_roundw
          case rel => exact ⟨k + 1, _, m, by omega, by go_num, P6.out⟩
          case measure => simp [intOf]; omega
      by_cases q2 : what = 2
      · subst q2
        by_cases hin : 0 ≤ thread ∧ thread < 4
        · obtain ⟨t, rfl⟩ := Int.eq_ofNat_of_zero_le hin.1
          have ht : t < 4 := by omega
          clear hin
          go_wp2_with (first
          | (refine wpList_load_at rfl 50 _ rfl _ rfl (Ac.mk 2 addr word (t : Nat) line).cells HC.out (act_agg _) (act_size _ _) ?_)
          | (refine wpList_store_mid rfl 50 _ _ rfl wr.heap.size _ (Ac.mk 2 addr word (t : Nat) line).cells.toArray rfl rfl (there_row _ _ _ _ rfl) (act_info (Ac.mk 2 addr word (t : Nat) line)) (act_one (Ac.mk 2 addr word (t : Nat) line)) ?_
             obtain ⟨L, gW⟩ := ActAt.born wr (Ac.mk 2 addr word (t : Nat) line) #[.int .i64 0, .int .i64 0, .int .u64 0, .int .i64 0, .int .i64 0] rfl 50
             generalize (wr.alloc (.cells #[.int .i64 0, .int .i64 0, .int .u64 0, .int .i64 0, .int .i64 0] 50)).setCells wr.heap.size 0 (Ac.mk 2 addr word (t : Nat) line).cells = W at L gW ⊢
             have c0 := L.c0
             simp only at c0
             have c3 := L.c3
             simp only at c3))
          have PW := PP.out.grow gW
          go_region_held3 (fun w' => w'.cell? ⟨wr.heap.size, 3, none⟩ = some (.int .i64 (t : Nat))) (go_keep)
            (first
              | (go_at_call 22; refine (Fence_yes t b s _ ht PW.st.drew).mono ?_; rintro e w4 ⟨rfl, h4, o4⟩; have L4 := L.drew.only nb o4; have k3 := L4.c3; simp only at k3)
              | (go_at_call 23; refine (refFence_yes t r m s _ ht (PW.rf.drew.only (Ne.symm PW.br) (Ne.symm PW.bm) o4)).mono ?_; rintro e w5 ⟨rfl, h5, o5⟩; have L5 := L4.two nr nm o5; have kk3 := L5.c3; simp only at kk3)
              | (go_at_call 10; refine (bare_ok _).mono ?_; rintro e ux ⟨rfl, hu⟩; rw [hu]; clear hu))
          have P5 : Hid (Pair w b r m (s.fence t) w5) := ⟨(PW.gr.drew.only PW.lb o4).two PW.lr PW.lm o5, h4.two PW.br PW.bm o5, h5, PW.br, PW.bm, PW.lb, PW.lr, PW.lm⟩
          clear PW h4 h5 o4 o5 L4 L5 L
          go_wp2
          go_roundw
          case rel => exact ⟨k + 1, _, m, by omega, by go_num, P5.out⟩
          case measure => simp [intOf]; omega
        · have hno : thread < 0 ∨ 4 ≤ thread := by omega
          have HN : Hid _ := hno
          clear hin hno
          go_wp2_with (first
          | (refine wpList_load_at rfl 50 _ rfl _ rfl (Ac.mk 2 addr word thread line).cells HC.out (act_agg _) (act_size _ _) ?_)
          | (refine wpList_store_mid rfl 50 _ _ rfl wr.heap.size _ (Ac.mk 2 addr word thread line).cells.toArray rfl rfl (there_row _ _ _ _ rfl) (act_info (Ac.mk 2 addr word thread line)) (act_one (Ac.mk 2 addr word thread line)) ?_
             obtain ⟨L, gW⟩ := ActAt.born wr (Ac.mk 2 addr word thread line) #[.int .i64 0, .int .i64 0, .int .u64 0, .int .i64 0, .int .i64 0] rfl 50
             generalize (wr.alloc (.cells #[.int .i64 0, .int .i64 0, .int .u64 0, .int .i64 0, .int .i64 0] 50)).setCells wr.heap.size 0 (Ac.mk 2 addr word thread line).cells = W at L gW ⊢
             have c0 := L.c0
             simp only at c0
             have c3 := L.c3
             simp only at c3))
          have PW := PP.out.grow gW
          go_region_held3 (fun w' => w'.cell? ⟨wr.heap.size, 3, none⟩ = some (.int .i64 thread)) (go_keep)
            (first
              | (go_at_call 22; refine (Fence_no thread _ _ HN.out).mono ?_; rintro e ux ⟨rfl, hu⟩; rw [hu]; clear hu)
              | (go_at_call 23; refine (refFence_no r thread _ HN.out).mono ?_; rintro e ux ⟨rfl, hu⟩; rw [hu]; clear hu)
              | (go_at_call 10; refine (bare_range _ (HH.out.later PW.gr.drew)).mono ?_; rintro e w6 ⟨rfl, g6⟩; have L6 := L.drew.gr g6; have k3 := L6.c3; simp only at k3))
          have P6 : Hid (Pair w b r m s w6) := PW.drew.grow g6
          clear PW g6 L6 L
          go_wp2
          go_roundw
          case rel => exact ⟨k + 1, _, m, by omega, by go_num, P6.out⟩
          case measure => simp [intOf]; omega
      by_cases q3 : what = 3
      · subst q3
        by_cases hin : 0 ≤ line ∧ line < 9
        · obtain ⟨l, rfl⟩ := Int.eq_ofNat_of_zero_le hin.1
          have hl : l < 9 := by omega
          have h0 : (0 : Int) ≤ (l : Int) := by omega
          have h9 : (l : Int) < 9 := by omega
          clear hin
          go_wp2_with (first
          | (refine wpList_load_at rfl 50 _ rfl _ rfl (Ac.mk 3 addr word thread (l : Nat)).cells HC.out (act_agg _) (act_size _ _) ?_)
          | (refine wpList_store_mid rfl 50 _ _ rfl wr.heap.size _ (Ac.mk 3 addr word thread (l : Nat)).cells.toArray rfl rfl (there_row _ _ _ _ rfl) (act_info (Ac.mk 3 addr word thread (l : Nat))) (act_one (Ac.mk 3 addr word thread (l : Nat))) ?_
             obtain ⟨L, gW⟩ := ActAt.born wr (Ac.mk 3 addr word thread (l : Nat)) #[.int .i64 0, .int .i64 0, .int .u64 0, .int .i64 0, .int .i64 0] rfl 50
             generalize (wr.alloc (.cells #[.int .i64 0, .int .i64 0, .int .u64 0, .int .i64 0, .int .i64 0] 50)).setCells wr.heap.size 0 (Ac.mk 3 addr word thread (l : Nat)).cells = W at L gW ⊢
             have c0 := L.c0
             simp only at c0
             have c4 := L.c4
             simp only at c4))
          have PW := PP.out.grow gW
          refine (Lands_any l r m s _ PW.rf).mono ?_
          rintro e w4 ⟨rfl, h4, o4⟩
          have L4 := L.only nr o4
          have k4 := L4.c4
          simp only at k4
          have st4 := PW.st.only PW.br o4
          clear c4 c0
          go_wp2_with fail
          refine (Evict_yes l b s _ hl st4).mono ?_
          rintro e w5 ⟨rfl, h5, o5⟩
          have P5 : Hid (Pair w b r m (s.stay l) w5) := ⟨(PW.gr.only PW.lr o4).only PW.lb o5, h5, h4.only (Ne.symm PW.br) (Ne.symm PW.bm) o5, PW.br, PW.bm, PW.lb, PW.lr, PW.lm⟩
          clear PW h4 h5 o4 o5 L4 L st4 k4
          go_wp2_with fail
          refine (bare_ok _).mono ?_
          rintro e ux ⟨rfl, hu⟩
          rw [hu]; clear hu ux
          go_wp2
          go_roundw
          case rel => exact ⟨k + 1, _, m, by omega, by go_num, P5.out⟩
          case measure => simp [intOf]; omega
        · have hno : line < 0 ∨ 9 ≤ line := by omega
          by_cases hneg : 0 ≤ line
          · have hbig : ¬ line < 9 := by omega
            have HN : Hid _ := hno
            clear hin hno
            go_wp2_with (first
          | (refine wpList_load_at rfl 50 _ rfl _ rfl (Ac.mk 3 addr word thread line).cells HC.out (act_agg _) (act_size _ _) ?_)
          | (refine wpList_store_mid rfl 50 _ _ rfl wr.heap.size _ (Ac.mk 3 addr word thread line).cells.toArray rfl rfl (there_row _ _ _ _ rfl) (act_info (Ac.mk 3 addr word thread line)) (act_one (Ac.mk 3 addr word thread line)) ?_
             obtain ⟨L, gW⟩ := ActAt.born wr (Ac.mk 3 addr word thread line) #[.int .i64 0, .int .i64 0, .int .u64 0, .int .i64 0, .int .i64 0] rfl 50
             generalize (wr.alloc (.cells #[.int .i64 0, .int .i64 0, .int .u64 0, .int .i64 0, .int .i64 0] 50)).setCells wr.heap.size 0 (Ac.mk 3 addr word thread line).cells = W at L gW ⊢
             have c0 := L.c0
             simp only at c0
             have c4 := L.c4
             simp only at c4))
            have PW := PP.out.grow gW
            refine (Evict_no line _ _ HN.out).mono ?_
            rintro e ux ⟨rfl, hu⟩
            rw [hu]; clear hu ux
            go_wp2_with fail
            refine (bare_range _ (HH.out.later PW.gr)).mono ?_
            rintro e w6 ⟨rfl, g6⟩
            have P6 : Hid (Pair w b r m s w6) := PW.grow g6
            clear PW g6 L
            go_wp2
            go_roundw
            case rel => exact ⟨k + 1, _, m, by omega, by go_num, P6.out⟩
            case measure => simp [intOf]; omega
          · have HN : Hid _ := hno
            clear hin hno
            go_wp2_with (first
          | (refine wpList_load_at rfl 50 _ rfl _ rfl (Ac.mk 3 addr word thread line).cells HC.out (act_agg _) (act_size _ _) ?_)
          | (refine wpList_store_mid rfl 50 _ _ rfl wr.heap.size _ (Ac.mk 3 addr word thread line).cells.toArray rfl rfl (there_row _ _ _ _ rfl) (act_info (Ac.mk 3 addr word thread line)) (act_one (Ac.mk 3 addr word thread line)) ?_
             obtain ⟨L, gW⟩ := ActAt.born wr (Ac.mk 3 addr word thread line) #[.int .i64 0, .int .i64 0, .int .u64 0, .int .i64 0, .int .i64 0] rfl 50
             generalize (wr.alloc (.cells #[.int .i64 0, .int .i64 0, .int .u64 0, .int .i64 0, .int .i64 0] 50)).setCells wr.heap.size 0 (Ac.mk 3 addr word thread line).cells = W at L gW ⊢
             have c0 := L.c0
             simp only at c0
             have c4 := L.c4
             simp only at c4))
            have PW := PP.out.grow gW
            refine (Evict_no line _ _ HN.out).mono ?_
            rintro e ux ⟨rfl, hu⟩
            rw [hu]; clear hu ux
            go_wp2_with fail
            refine (bare_range _ (HH.out.later PW.gr)).mono ?_
            rintro e w6 ⟨rfl, g6⟩
            have P6 : Hid (Pair w b r m s w6) := PW.grow g6
            clear PW g6 L
            go_wp2
            go_roundw
            case rel => exact ⟨k + 1, _, m, by omega, by go_num, P6.out⟩
            case measure => simp [intOf]; omega
      by_cases q4 : what = 4
      · subst q4
        go_wp2_with (first
          | (refine wpList_load_at rfl 50 _ rfl _ rfl (Ac.mk 4 addr word thread line).cells HC.out (act_agg _) (act_size _ _) ?_)
          | (refine wpList_store_mid rfl 50 _ _ rfl wr.heap.size _ (Ac.mk 4 addr word thread line).cells.toArray rfl rfl (there_row _ _ _ _ rfl) (act_info (Ac.mk 4 addr word thread line)) (act_one (Ac.mk 4 addr word thread line)) ?_
             obtain ⟨L, gW⟩ := ActAt.born wr (Ac.mk 4 addr word thread line) #[.int .i64 0, .int .i64 0, .int .u64 0, .int .i64 0, .int .i64 0] rfl 50
             generalize (wr.alloc (.cells #[.int .i64 0, .int .i64 0, .int .u64 0, .int .i64 0, .int .i64 0] 50)).setCells wr.heap.size 0 (Ac.mk 4 addr word thread line).cells = W at L gW ⊢
             have c0 := L.c0
             simp only at c0
             have c2 := L.c2
             simp only at c2))
        have PW := PP.out.grow gW
        refine (Crash_any word b s _ hw PW.st).mono ?_
        rintro e w4 ⟨rfl, h4, o4⟩
        have L4 := L.only nb o4
        have k2 := L4.c2
        simp only at k2
        have rf4 := PW.rf.only (Ne.symm PW.br) (Ne.symm PW.bm) o4
        clear c0 c2
        go_wp2_with fail
        refine (refCrash_any word r m s _ hw rf4).mono ?_
        rintro e w5 ⟨rfl, m', hm', h5, o5⟩
        have P5 : Hid (Pair w b r m' (s.crash word) w5) := by
          have hb4 := h4.lt
          have g4 := PW.gr.only PW.lb o4
          have := g4.below.size
          exact ⟨g4.only PW.lr o5, h4.only PW.br o5, h5, PW.br, by omega, PW.lb, PW.lr, by omega⟩
        clear PW h4 h5 o4 o5 L4 L rf4 k2
        go_wp2
        go_roundw
        case rel => exact ⟨k + 1, _, m', by omega, by go_num, P5.out⟩
        case measure => simp [intOf]; omega
      · go_wp2_with (first
          | (refine wpList_load_at rfl 50 _ rfl _ rfl (Ac.mk what addr word thread line).cells HC.out (act_agg _) (act_size _ _) ?_)
          | (refine wpList_store_mid rfl 50 _ _ rfl wr.heap.size _ (Ac.mk what addr word thread line).cells.toArray rfl rfl (there_row _ _ _ _ rfl) (act_info (Ac.mk what addr word thread line)) (act_one (Ac.mk what addr word thread line)) ?_
             obtain ⟨L, gW⟩ := ActAt.born wr (Ac.mk what addr word thread line) #[.int .i64 0, .int .i64 0, .int .u64 0, .int .i64 0, .int .i64 0] rfl 50
             generalize (wr.alloc (.cells #[.int .i64 0, .int .i64 0, .int .u64 0, .int .i64 0, .int .i64 0] 50)).setCells wr.heap.size 0 (Ac.mk what addr word thread line).cells = W at L gW ⊢
             have c0 := L.c0
             simp only at c0))
        have PW : Hid _ := PP.out.grow gW
        clear L gW
        go_roundw
        case rel => exact ⟨k + 1, _, m, by omega, by go_num, PW.out⟩
        case measure => simp [intOf]; omega
    · go_wp2
      go_ret3
      exact ⟨b, r, m, s, rfl, P⟩
end Go.Proofs.YthgkmbimmelglaaDoor
