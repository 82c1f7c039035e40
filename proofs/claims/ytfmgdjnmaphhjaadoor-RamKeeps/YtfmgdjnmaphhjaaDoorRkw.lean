/- What RamKeeps does, walked. -/
import Derived.Test.YtfmgdjnmaphhjaaDoorRk
import Derived.Deep.RegionHeld3
import Derived.WalkKit
namespace Go.Proofs.YtfmgdjnmaphhjaaDoor
open Go.RowKit
set_option linter.unusedVariables false

set_option maxRecDepth 20000 in
set_option maxHeartbeats 4000000 in
theorem ramKeeps_walk (v0 : Value) (n0 : Nat) (a1 : Int) (w1 : (Lit.int .i64 a1).wf = true) (w : World) (hT : HandleAt w) (D0 : Acts w v0 n0) :
     Calls Tryd.prog 3 #[v0, .int .i64 a1] w fun e w' => e = .returned (.bool true) ∧ Gr w w' := by
  clear w1
  obtain ⟨A, cap, rfl, HE0⟩ := D0.open
  have HE : Hid _ := HE0
  clear HE0
  by_cases hn : n0 ≤ 60
  · have hn' : ¬ (60 : Int) < (n0 : Int) := by omega
    have B0 : Hid _ := Both.born ((Gr.refl w).alloc #[.int .u64 0, .int .u64 0, .int .u64 0, .int .u64 0, .int .u64 0, .int .u64 0, .int .u64 0, .int .u64 0, .int .u64 0, .int .u64 0, .int .u64 0, .int .u64 0, .int .u64 0, .int .u64 0, .int .u64 0, .int .u64 0] 27) (ram_new w) (Nat.le_refl _) #[.int .u64 0, .int .u64 0, .int .u64 0, .int .u64 0, .int .u64 0, .int .u64 0, .int .u64 0, .int .u64 0, .int .u64 0, .int .u64 0, .int .u64 0, .int .u64 0, .int .u64 0, .int .u64 0, .int .u64 0, .int .u64 0] z16 25
    go_enter Tryd.func3, Tryd.ntmps3
    go_wp2_with fail
    have hcb : (w.alloc (.cells #[.int .u64 0, .int .u64 0, .int .u64 0, .int .u64 0, .int .u64 0, .int .u64 0, .int .u64 0, .int .u64 0, .int .u64 0, .int .u64 0, .int .u64 0, .int .u64 0, .int .u64 0, .int .u64 0, .int .u64 0, .int .u64 0] 27)).heap.size = w.heap.size + 1 := by simp
    have B1 : Hid (Both w w.heap.size (w.heap.size + 1) (fun _ => 0) ((w.alloc (.cells #[.int .u64 0, .int .u64 0, .int .u64 0, .int .u64 0, .int .u64 0, .int .u64 0, .int .u64 0, .int .u64 0, .int .u64 0, .int .u64 0, .int .u64 0, .int .u64 0, .int .u64 0, .int .u64 0, .int .u64 0, .int .u64 0] 27)).alloc (.cells #[.int .u64 0, .int .u64 0, .int .u64 0, .int .u64 0, .int .u64 0, .int .u64 0, .int .u64 0, .int .u64 0, .int .u64 0, .int .u64 0, .int .u64 0, .int .u64 0, .int .u64 0, .int .u64 0, .int .u64 0, .int .u64 0] 25))) := by rw [← hcb]; exact B0.out
    clear B0 hcb
    generalize w.heap.size + 1 = c at *
    obtain ⟨b, HB⟩ : ∃ b, b = w.heap.size := ⟨_, rfl⟩
    rw [← HB] at B1 ⊢
    have HB' : Hid _ := HB
    clear HB
    go_loopw [7] (fun i wr => ∃ (k : Nat) (f : Nat → Int), k ≤ n0 ∧ i = .int .i64 k ∧ Both w b c f wr)
      (fun i _ => n0 - (intOf i).toNat)
    case atStart => exact ⟨0, _, by omega, rfl, B1.out⟩
    case round =>
      clear B1
      obtain ⟨k, f, hk, rfl, P⟩ := hrel
      by_cases hlt : k < n0
      · obtain ⟨a, ⟨what, addr, word, thread, line⟩, rfl, hw, hc⟩ := HE.out wr P.gr k hlt
        have HC : Hid _ := hc
        simp only at hw
        clear hc
        have nb : ¬ wr.heap.size = b := Ne.symm (Nat.ne_of_lt P.ltb)
        have nc : ¬ wr.heap.size = c := Ne.symm (Nat.ne_of_lt P.ltc)
        have PP : Hid _ := P
        clear P
        by_cases q0 : what = 0
        · subst q0
          by_cases hin : 0 ≤ addr ∧ addr < 16
          · skip
            obtain ⟨x, rfl⟩ := Int.eq_ofNat_of_zero_le hin.1
            have hx : x < 16 := by omega
            have h0 : (0 : Int) ≤ (x : Int) := by omega
            have h9 : (x : Int) < 16 := by omega
            clear hin
            go_wp2_with (first
            | (refine wpList_load_at rfl 29 _ rfl _ rfl (Ac.mk 0 (x : Nat) word thread line).cells HC.out (act_agg _) (act_size _ _) ?_)
            | (refine wpList_store_mid rfl 29 _ _ rfl wr.heap.size _ (Ac.mk 0 (x : Nat) word thread line).cells.toArray rfl rfl (there_row _ _ _ _ rfl) (act_info (Ac.mk 0 (x : Nat) word thread line)) (act_one (Ac.mk 0 (x : Nat) word thread line)) ?_
               obtain ⟨L, gW⟩ := ActAt.born wr (Ac.mk 0 (x : Nat) word thread line) #[.int .i64 0, .int .i64 0, .int .u64 0, .int .i64 0, .int .i64 0] rfl 29
               generalize (wr.alloc (.cells #[.int .i64 0, .int .i64 0, .int .u64 0, .int .i64 0, .int .i64 0] 29)).setCells wr.heap.size 0 (Ac.mk 0 (x : Nat) word thread line).cells = W at L gW ⊢
               have c0 := L.c0
               simp only at c0
               have c1 := L.c1
               simp only at c1
               have c2 := L.c2
               simp only at c2))
            have PW := PP.out.grow gW
            refine (Save_yes x b _ f _ hx PW.rb).mono ?_
            rintro e u1 ⟨rfl, h1, o1⟩
            have L1 := L.only nb o1
            have r1 := PW.rc.only PW.ltc (Ne.symm PW.ne) o1
            have S1 : Hid _ := And.intro PW (And.intro h1 (And.intro o1 r1))
            have k1 := L1.c1
            simp only at k1
            have k2 := L1.c2
            simp only at k2
            have kc := r1.cell x hx
            have kf := r1.froz x
            clear PW h1 o1 r1 L L1 c0 c1 c2
            go_wp2_with fail
            refine (bare_ok _).mono ?_
            rintro e ux ⟨rfl, hu⟩
            rw [hu]; clear hu ux
            go_wp2_with fail
            go_roundw
            case rel =>
              obtain ⟨PW, h1, o1, r1⟩ := S1.out
              exact ⟨k + 1, upd f x (word : Nat), by omega, by go_num, PW.step h1 o1 (r1.set x _) ((Only.refl _ _).setCell _ _)⟩
            case measure => simp [intOf]; omega
          by_cases hlo : addr < 0
          · skip
            have h0 : ¬ (0 : Int) ≤ addr := by omega
            have HN : Hid (addr < 0 ∨ 16 ≤ addr) := Or.inl (by omega)
            clear hin
            go_wp2_with (first
            | (refine wpList_load_at rfl 29 _ rfl _ rfl (Ac.mk 0 addr word thread line).cells HC.out (act_agg _) (act_size _ _) ?_)
            | (refine wpList_store_mid rfl 29 _ _ rfl wr.heap.size _ (Ac.mk 0 addr word thread line).cells.toArray rfl rfl (there_row _ _ _ _ rfl) (act_info (Ac.mk 0 addr word thread line)) (act_one (Ac.mk 0 addr word thread line)) ?_
               obtain ⟨L, gW⟩ := ActAt.born wr (Ac.mk 0 addr word thread line) #[.int .i64 0, .int .i64 0, .int .u64 0, .int .i64 0, .int .i64 0] rfl 29
               generalize (wr.alloc (.cells #[.int .i64 0, .int .i64 0, .int .u64 0, .int .i64 0, .int .i64 0] 29)).setCells wr.heap.size 0 (Ac.mk 0 addr word thread line).cells = W at L gW ⊢
               have c0 := L.c0
               simp only at c0
               have c1 := L.c1
               simp only at c1
               have c2 := L.c2
               simp only at c2))
            have S1 : Hid _ := PP.out.grow gW
            refine (Save_no addr _ _ _ HN.out).mono ?_
            rintro e ux ⟨rfl, hu⟩
            rw [hu]; clear hu ux
            go_wp2_with fail
            refine (bare_range _ (hT.later S1.out.gr)).mono ?_
            rintro e u2 ⟨rfl, g2⟩
            have S2 : Hid _ := S1.out.grow g2
            clear g2 S1
            go_wp2_with fail
            go_roundw
            case rel => exact ⟨k + 1, f, by omega, by go_num, S2.out⟩
            case measure => simp [intOf]; omega
          · skip
            have h0 : (0 : Int) ≤ addr := by omega
            have h9 : ¬ addr < 16 := by omega
            have HN : Hid (addr < 0 ∨ 16 ≤ addr) := Or.inr (by omega)
            clear hin
            go_wp2_with (first
            | (refine wpList_load_at rfl 29 _ rfl _ rfl (Ac.mk 0 addr word thread line).cells HC.out (act_agg _) (act_size _ _) ?_)
            | (refine wpList_store_mid rfl 29 _ _ rfl wr.heap.size _ (Ac.mk 0 addr word thread line).cells.toArray rfl rfl (there_row _ _ _ _ rfl) (act_info (Ac.mk 0 addr word thread line)) (act_one (Ac.mk 0 addr word thread line)) ?_
               obtain ⟨L, gW⟩ := ActAt.born wr (Ac.mk 0 addr word thread line) #[.int .i64 0, .int .i64 0, .int .u64 0, .int .i64 0, .int .i64 0] rfl 29
               generalize (wr.alloc (.cells #[.int .i64 0, .int .i64 0, .int .u64 0, .int .i64 0, .int .i64 0] 29)).setCells wr.heap.size 0 (Ac.mk 0 addr word thread line).cells = W at L gW ⊢
               have c0 := L.c0
               simp only at c0
               have c1 := L.c1
               simp only at c1
               have c2 := L.c2
               simp only at c2))
            have S1 : Hid _ := PP.out.grow gW
            refine (Save_no addr _ _ _ HN.out).mono ?_
            rintro e ux ⟨rfl, hu⟩
            rw [hu]; clear hu ux
            go_wp2_with fail
            refine (bare_range _ (hT.later S1.out.gr)).mono ?_
            rintro e u2 ⟨rfl, g2⟩
            have S2 : Hid _ := S1.out.grow g2
            clear g2 S1
            go_wp2_with fail
            go_roundw
            case rel => exact ⟨k + 1, f, by omega, by go_num, S2.out⟩
            case measure => simp [intOf]; omega
        by_cases q1 : what = 1
        · subst q1
          by_cases hin : 0 ≤ addr ∧ addr < 16
          · skip
            obtain ⟨x, rfl⟩ := Int.eq_ofNat_of_zero_le hin.1
            have hx : x < 16 := by omega
            have h0 : (0 : Int) ≤ (x : Int) := by omega
            have h9 : (x : Int) < 16 := by omega
            clear hin
            by_cases q : f x = IntKind.u64.wrap line
            · have q' : (f x == IntKind.u64.wrap line) = true := by simpa using q
              go_wp2_with (first
              | (refine wpList_load_at rfl 29 _ rfl _ rfl (Ac.mk 1 (x : Nat) word thread line).cells HC.out (act_agg _) (act_size _ _) ?_)
              | (refine wpList_store_mid rfl 29 _ _ rfl wr.heap.size _ (Ac.mk 1 (x : Nat) word thread line).cells.toArray rfl rfl (there_row _ _ _ _ rfl) (act_info (Ac.mk 1 (x : Nat) word thread line)) (act_one (Ac.mk 1 (x : Nat) word thread line)) ?_
                 obtain ⟨L, gW⟩ := ActAt.born wr (Ac.mk 1 (x : Nat) word thread line) #[.int .i64 0, .int .i64 0, .int .u64 0, .int .i64 0, .int .i64 0] rfl 29
                 generalize (wr.alloc (.cells #[.int .i64 0, .int .i64 0, .int .u64 0, .int .i64 0, .int .i64 0] 29)).setCells wr.heap.size 0 (Ac.mk 1 (x : Nat) word thread line).cells = W at L gW ⊢
                 have PW := PP.out.grow gW
                 have cc := PW.rc.cell x hx
                 have c0 := L.c0
                 simp only at c0
                 have c1 := L.c1
                 simp only at c1
                 have c2 := L.c2
                 simp only at c2
                 have c4 := L.c4
                 simp only at c4))
              refine (Swap_is x b _ _ f _ hx q PW.rb).mono ?_
              rintro e u1 ⟨rfl, h1, o1⟩
              have L1 := L.only nb o1
              have r1 := PW.rc.only PW.ltc (Ne.symm PW.ne) o1
              have S1 : Hid _ := And.intro PW (And.intro h1 (And.intro o1 r1))
              have k1 := L1.c1
              simp only at k1
              have k2 := L1.c2
              simp only at k2
              have kc := r1.cell x hx
              have kf := r1.froz x
              clear PW h1 o1 r1 L L1 c0 c1 c2 c4 cc q'
              go_wp2_with fail
              refine (bare_ok _).mono ?_
              rintro e ux ⟨rfl, hu⟩
              rw [hu]; clear hu ux
              go_wp2_with fail
              go_roundw
              case rel =>
                obtain ⟨PW, h1, o1, r1⟩ := S1.out
                exact ⟨k + 1, upd f x (word : Nat), by omega, by go_num, PW.step h1 o1 (r1.set x _) ((Only.refl _ _).setCell _ _)⟩
              case measure => simp [intOf]; omega
            · have q' : (f x == IntKind.u64.wrap line) = false := by simpa using q
              go_wp2_with (first
              | (refine wpList_load_at rfl 29 _ rfl _ rfl (Ac.mk 1 (x : Nat) word thread line).cells HC.out (act_agg _) (act_size _ _) ?_)
              | (refine wpList_store_mid rfl 29 _ _ rfl wr.heap.size _ (Ac.mk 1 (x : Nat) word thread line).cells.toArray rfl rfl (there_row _ _ _ _ rfl) (act_info (Ac.mk 1 (x : Nat) word thread line)) (act_one (Ac.mk 1 (x : Nat) word thread line)) ?_
                 obtain ⟨L, gW⟩ := ActAt.born wr (Ac.mk 1 (x : Nat) word thread line) #[.int .i64 0, .int .i64 0, .int .u64 0, .int .i64 0, .int .i64 0] rfl 29
                 generalize (wr.alloc (.cells #[.int .i64 0, .int .i64 0, .int .u64 0, .int .i64 0, .int .i64 0] 29)).setCells wr.heap.size 0 (Ac.mk 1 (x : Nat) word thread line).cells = W at L gW ⊢
                 have PW := PP.out.grow gW
                 have cc := PW.rc.cell x hx
                 have c0 := L.c0
                 simp only at c0
                 have c1 := L.c1
                 simp only at c1
                 have c2 := L.c2
                 simp only at c2
                 have c4 := L.c4
                 simp only at c4))
              refine (Swap_not x b _ _ f _ hx q PW.rb).mono ?_
              rintro e ux ⟨rfl, hu⟩
              rw [hu]; clear hu ux
              have S1 : Hid _ := PW
              clear PW
              go_wp2_with fail
              refine (bare_ok _).mono ?_
              rintro e ux ⟨rfl, hu⟩
              rw [hu]; clear hu ux
              go_wp2_with fail
              go_roundw
              case rel => exact ⟨k + 1, f, by omega, by go_num, S1.out⟩
              case measure => simp [intOf]; omega
          by_cases hlo : addr < 0
          · skip
            have h0 : ¬ (0 : Int) ≤ addr := by omega
            have HN : Hid (addr < 0 ∨ 16 ≤ addr) := Or.inl (by omega)
            clear hin
            go_wp2_with (first
            | (refine wpList_load_at rfl 29 _ rfl _ rfl (Ac.mk 1 addr word thread line).cells HC.out (act_agg _) (act_size _ _) ?_)
            | (refine wpList_store_mid rfl 29 _ _ rfl wr.heap.size _ (Ac.mk 1 addr word thread line).cells.toArray rfl rfl (there_row _ _ _ _ rfl) (act_info (Ac.mk 1 addr word thread line)) (act_one (Ac.mk 1 addr word thread line)) ?_
               obtain ⟨L, gW⟩ := ActAt.born wr (Ac.mk 1 addr word thread line) #[.int .i64 0, .int .i64 0, .int .u64 0, .int .i64 0, .int .i64 0] rfl 29
               generalize (wr.alloc (.cells #[.int .i64 0, .int .i64 0, .int .u64 0, .int .i64 0, .int .i64 0] 29)).setCells wr.heap.size 0 (Ac.mk 1 addr word thread line).cells = W at L gW ⊢
               have c0 := L.c0
               simp only at c0
               have c1 := L.c1
               simp only at c1
               have c2 := L.c2
               simp only at c2
               have c4 := L.c4
               simp only at c4))
            have S1 : Hid _ := PP.out.grow gW
            refine (Swap_no addr _ _ _ _ HN.out).mono ?_
            rintro e ux ⟨rfl, hu⟩
            rw [hu]; clear hu ux
            go_wp2_with fail
            refine (bare_range _ (hT.later S1.out.gr)).mono ?_
            rintro e u2 ⟨rfl, g2⟩
            have S2 : Hid _ := S1.out.grow g2
            clear g2 S1
            go_wp2_with fail
            go_roundw
            case rel => exact ⟨k + 1, f, by omega, by go_num, S2.out⟩
            case measure => simp [intOf]; omega
          · skip
            have h0 : (0 : Int) ≤ addr := by omega
            have h9 : ¬ addr < 16 := by omega
            have HN : Hid (addr < 0 ∨ 16 ≤ addr) := Or.inr (by omega)
            clear hin
            go_wp2_with (first
            | (refine wpList_load_at rfl 29 _ rfl _ rfl (Ac.mk 1 addr word thread line).cells HC.out (act_agg _) (act_size _ _) ?_)
            | (refine wpList_store_mid rfl 29 _ _ rfl wr.heap.size _ (Ac.mk 1 addr word thread line).cells.toArray rfl rfl (there_row _ _ _ _ rfl) (act_info (Ac.mk 1 addr word thread line)) (act_one (Ac.mk 1 addr word thread line)) ?_
               obtain ⟨L, gW⟩ := ActAt.born wr (Ac.mk 1 addr word thread line) #[.int .i64 0, .int .i64 0, .int .u64 0, .int .i64 0, .int .i64 0] rfl 29
               generalize (wr.alloc (.cells #[.int .i64 0, .int .i64 0, .int .u64 0, .int .i64 0, .int .i64 0] 29)).setCells wr.heap.size 0 (Ac.mk 1 addr word thread line).cells = W at L gW ⊢
               have c0 := L.c0
               simp only at c0
               have c1 := L.c1
               simp only at c1
               have c2 := L.c2
               simp only at c2
               have c4 := L.c4
               simp only at c4))
            have S1 : Hid _ := PP.out.grow gW
            refine (Swap_no addr _ _ _ _ HN.out).mono ?_
            rintro e ux ⟨rfl, hu⟩
            rw [hu]; clear hu ux
            go_wp2_with fail
            refine (bare_range _ (hT.later S1.out.gr)).mono ?_
            rintro e u2 ⟨rfl, g2⟩
            have S2 : Hid _ := S1.out.grow g2
            clear g2 S1
            go_wp2_with fail
            go_roundw
            case rel => exact ⟨k + 1, f, by omega, by go_num, S2.out⟩
            case measure => simp [intOf]; omega
        by_cases q2 : what = 2
        · subst q2
          by_cases hin : 0 ≤ addr ∧ addr < 16
          · skip
            obtain ⟨x, rfl⟩ := Int.eq_ofNat_of_zero_le hin.1
            have hx : x < 16 := by omega
            have h0 : (0 : Int) ≤ (x : Int) := by omega
            have h9 : (x : Int) < 16 := by omega
            clear hin
            go_wp2_with (first
            | (refine wpList_load_at rfl 29 _ rfl _ rfl (Ac.mk 2 (x : Nat) word thread line).cells HC.out (act_agg _) (act_size _ _) ?_)
            | (refine wpList_store_mid rfl 29 _ _ rfl wr.heap.size _ (Ac.mk 2 (x : Nat) word thread line).cells.toArray rfl rfl (there_row _ _ _ _ rfl) (act_info (Ac.mk 2 (x : Nat) word thread line)) (act_one (Ac.mk 2 (x : Nat) word thread line)) ?_
               obtain ⟨L, gW⟩ := ActAt.born wr (Ac.mk 2 (x : Nat) word thread line) #[.int .i64 0, .int .i64 0, .int .u64 0, .int .i64 0, .int .i64 0] rfl 29
               generalize (wr.alloc (.cells #[.int .i64 0, .int .i64 0, .int .u64 0, .int .i64 0, .int .i64 0] 29)).setCells wr.heap.size 0 (Ac.mk 2 (x : Nat) word thread line).cells = W at L gW ⊢
               have c0 := L.c0
               simp only at c0
               have c1 := L.c1
               simp only at c1))
            have PW := PP.out.grow gW
            refine (Clear_any b f _ PW.rb).mono ?_
            rintro e u1 ⟨rfl, h1, o1⟩
            have r1 := PW.rc.only PW.ltc (Ne.symm PW.ne) o1
            have S1 : Hid _ := And.intro PW (And.intro h1 (And.intro o1 r1))
            have T1 : Hid _ := r1.there
            clear PW h1 o1 r1 L c0 c1
            go_wp2_with (first
            | (refine wpList_store_mid rfl 25 _ _ rfl c _ (List.replicate 16 (Value.int .u64 0)).toArray rfl rfl T1.out row_info row_ones ?_
               obtain ⟨PW, h1, o1, r1⟩ := S1.out
               have S2 : Hid _ := PW.step h1 o1 (r1.all (List.replicate 16 (Value.int .u64 0)) (fun _ => 0) rfl (fun j hj => by rw [List.getElem?_replicate, if_pos hj])) ((Only.refl _ _).setCells _ _)
               clear PW h1 o1 r1 T1 S1
               generalize (u1.setCells c 0 (List.replicate 16 (Value.int .u64 0)).toArray.toList) = W2 at S2 ⊢))
            go_roundw
            case rel => exact ⟨k + 1, _, by omega, by go_num, S2.out⟩
            case measure => simp [intOf]; omega
          by_cases hlo : addr < 0
          · skip
            have h0 : ¬ (0 : Int) ≤ addr := by omega
            have HN : Hid (addr < 0 ∨ 16 ≤ addr) := Or.inl (by omega)
            clear hin
            go_wp2_with (first
            | (refine wpList_load_at rfl 29 _ rfl _ rfl (Ac.mk 2 addr word thread line).cells HC.out (act_agg _) (act_size _ _) ?_)
            | (refine wpList_store_mid rfl 29 _ _ rfl wr.heap.size _ (Ac.mk 2 addr word thread line).cells.toArray rfl rfl (there_row _ _ _ _ rfl) (act_info (Ac.mk 2 addr word thread line)) (act_one (Ac.mk 2 addr word thread line)) ?_
               obtain ⟨L, gW⟩ := ActAt.born wr (Ac.mk 2 addr word thread line) #[.int .i64 0, .int .i64 0, .int .u64 0, .int .i64 0, .int .i64 0] rfl 29
               generalize (wr.alloc (.cells #[.int .i64 0, .int .i64 0, .int .u64 0, .int .i64 0, .int .i64 0] 29)).setCells wr.heap.size 0 (Ac.mk 2 addr word thread line).cells = W at L gW ⊢
               have c0 := L.c0
               simp only at c0
               have c1 := L.c1
               simp only at c1))
            have PW := PP.out.grow gW
            refine (Clear_any b f _ PW.rb).mono ?_
            rintro e u1 ⟨rfl, h1, o1⟩
            have r1 := PW.rc.only PW.ltc (Ne.symm PW.ne) o1
            have S1 : Hid _ := And.intro PW (And.intro h1 (And.intro o1 r1))
            have T1 : Hid _ := r1.there
            clear PW h1 o1 r1 L c0 c1
            go_wp2_with (first
            | (refine wpList_store_mid rfl 25 _ _ rfl c _ (List.replicate 16 (Value.int .u64 0)).toArray rfl rfl T1.out row_info row_ones ?_
               obtain ⟨PW, h1, o1, r1⟩ := S1.out
               have S2 : Hid _ := PW.step h1 o1 (r1.all (List.replicate 16 (Value.int .u64 0)) (fun _ => 0) rfl (fun j hj => by rw [List.getElem?_replicate, if_pos hj])) ((Only.refl _ _).setCells _ _)
               clear PW h1 o1 r1 T1 S1
               generalize (u1.setCells c 0 (List.replicate 16 (Value.int .u64 0)).toArray.toList) = W2 at S2 ⊢))
            go_roundw
            case rel => exact ⟨k + 1, _, by omega, by go_num, S2.out⟩
            case measure => simp [intOf]; omega
          · skip
            have h0 : (0 : Int) ≤ addr := by omega
            have h9 : ¬ addr < 16 := by omega
            have HN : Hid (addr < 0 ∨ 16 ≤ addr) := Or.inr (by omega)
            clear hin
            go_wp2_with (first
            | (refine wpList_load_at rfl 29 _ rfl _ rfl (Ac.mk 2 addr word thread line).cells HC.out (act_agg _) (act_size _ _) ?_)
            | (refine wpList_store_mid rfl 29 _ _ rfl wr.heap.size _ (Ac.mk 2 addr word thread line).cells.toArray rfl rfl (there_row _ _ _ _ rfl) (act_info (Ac.mk 2 addr word thread line)) (act_one (Ac.mk 2 addr word thread line)) ?_
               obtain ⟨L, gW⟩ := ActAt.born wr (Ac.mk 2 addr word thread line) #[.int .i64 0, .int .i64 0, .int .u64 0, .int .i64 0, .int .i64 0] rfl 29
               generalize (wr.alloc (.cells #[.int .i64 0, .int .i64 0, .int .u64 0, .int .i64 0, .int .i64 0] 29)).setCells wr.heap.size 0 (Ac.mk 2 addr word thread line).cells = W at L gW ⊢
               have c0 := L.c0
               simp only at c0
               have c1 := L.c1
               simp only at c1))
            have PW := PP.out.grow gW
            refine (Clear_any b f _ PW.rb).mono ?_
            rintro e u1 ⟨rfl, h1, o1⟩
            have r1 := PW.rc.only PW.ltc (Ne.symm PW.ne) o1
            have S1 : Hid _ := And.intro PW (And.intro h1 (And.intro o1 r1))
            have T1 : Hid _ := r1.there
            clear PW h1 o1 r1 L c0 c1
            go_wp2_with (first
            | (refine wpList_store_mid rfl 25 _ _ rfl c _ (List.replicate 16 (Value.int .u64 0)).toArray rfl rfl T1.out row_info row_ones ?_
               obtain ⟨PW, h1, o1, r1⟩ := S1.out
               have S2 : Hid _ := PW.step h1 o1 (r1.all (List.replicate 16 (Value.int .u64 0)) (fun _ => 0) rfl (fun j hj => by rw [List.getElem?_replicate, if_pos hj])) ((Only.refl _ _).setCells _ _)
               clear PW h1 o1 r1 T1 S1
               generalize (u1.setCells c 0 (List.replicate 16 (Value.int .u64 0)).toArray.toList) = W2 at S2 ⊢))
            go_roundw
            case rel => exact ⟨k + 1, _, by omega, by go_num, S2.out⟩
            case measure => simp [intOf]; omega
        by_cases hin : 0 ≤ addr ∧ addr < 16
        · skip
          obtain ⟨x, rfl⟩ := Int.eq_ofNat_of_zero_le hin.1
          have hx : x < 16 := by omega
          have h0 : (0 : Int) ≤ (x : Int) := by omega
          have h9 : (x : Int) < 16 := by omega
          clear hin
          go_wp2_with (first
          | (refine wpList_load_at rfl 29 _ rfl _ rfl (Ac.mk what (x : Nat) word thread line).cells HC.out (act_agg _) (act_size _ _) ?_)
          | (refine wpList_store_mid rfl 29 _ _ rfl wr.heap.size _ (Ac.mk what (x : Nat) word thread line).cells.toArray rfl rfl (there_row _ _ _ _ rfl) (act_info (Ac.mk what (x : Nat) word thread line)) (act_one (Ac.mk what (x : Nat) word thread line)) ?_
             obtain ⟨L, gW⟩ := ActAt.born wr (Ac.mk what (x : Nat) word thread line) #[.int .i64 0, .int .i64 0, .int .u64 0, .int .i64 0, .int .i64 0] rfl 29
             generalize (wr.alloc (.cells #[.int .i64 0, .int .i64 0, .int .u64 0, .int .i64 0, .int .i64 0] 29)).setCells wr.heap.size 0 (Ac.mk what (x : Nat) word thread line).cells = W at L gW ⊢
             have c0 := L.c0
             simp only at c0
             have c1 := L.c1
             simp only at c1))
          go_roundw
          case rel => exact ⟨k + 1, f, by omega, by go_num, PP.out.grow gW⟩
          case measure => simp [intOf]; omega
        by_cases hlo : addr < 0
        · skip
          have h0 : ¬ (0 : Int) ≤ addr := by omega
          have HN : Hid (addr < 0 ∨ 16 ≤ addr) := Or.inl (by omega)
          clear hin
          go_wp2_with (first
          | (refine wpList_load_at rfl 29 _ rfl _ rfl (Ac.mk what addr word thread line).cells HC.out (act_agg _) (act_size _ _) ?_)
          | (refine wpList_store_mid rfl 29 _ _ rfl wr.heap.size _ (Ac.mk what addr word thread line).cells.toArray rfl rfl (there_row _ _ _ _ rfl) (act_info (Ac.mk what addr word thread line)) (act_one (Ac.mk what addr word thread line)) ?_
             obtain ⟨L, gW⟩ := ActAt.born wr (Ac.mk what addr word thread line) #[.int .i64 0, .int .i64 0, .int .u64 0, .int .i64 0, .int .i64 0] rfl 29
             generalize (wr.alloc (.cells #[.int .i64 0, .int .i64 0, .int .u64 0, .int .i64 0, .int .i64 0] 29)).setCells wr.heap.size 0 (Ac.mk what addr word thread line).cells = W at L gW ⊢
             have c0 := L.c0
             simp only at c0
             have c1 := L.c1
             simp only at c1))
          go_roundw
          case rel => exact ⟨k + 1, f, by omega, by go_num, PP.out.grow gW⟩
          case measure => simp [intOf]; omega
        · skip
          have h0 : (0 : Int) ≤ addr := by omega
          have h9 : ¬ addr < 16 := by omega
          have HN : Hid (addr < 0 ∨ 16 ≤ addr) := Or.inr (by omega)
          clear hin
          go_wp2_with (first
          | (refine wpList_load_at rfl 29 _ rfl _ rfl (Ac.mk what addr word thread line).cells HC.out (act_agg _) (act_size _ _) ?_)
          | (refine wpList_store_mid rfl 29 _ _ rfl wr.heap.size _ (Ac.mk what addr word thread line).cells.toArray rfl rfl (there_row _ _ _ _ rfl) (act_info (Ac.mk what addr word thread line)) (act_one (Ac.mk what addr word thread line)) ?_
             obtain ⟨L, gW⟩ := ActAt.born wr (Ac.mk what addr word thread line) #[.int .i64 0, .int .i64 0, .int .u64 0, .int .i64 0, .int .i64 0] rfl 29
             generalize (wr.alloc (.cells #[.int .i64 0, .int .i64 0, .int .u64 0, .int .i64 0, .int .i64 0] 29)).setCells wr.heap.size 0 (Ac.mk what addr word thread line).cells = W at L gW ⊢
             have c0 := L.c0
             simp only at c0
             have c1 := L.c1
             simp only at c1))
          go_roundw
          case rel => exact ⟨k + 1, f, by omega, by go_num, PP.out.grow gW⟩
          case measure => simp [intOf]; omega
      · have hlt' : ¬ (k : Int) < (n0 : Int) := by omega
        by_cases hin : 0 ≤ a1 ∧ a1 < 16
        · obtain ⟨x, rfl⟩ := Int.eq_ofNat_of_zero_le hin.1
          have hx : x < 16 := by omega
          have h0 : ¬ (x : Int) < 0 := by omega
          have h9 : ¬ (16 : Int) ≤ (x : Int) := by omega
          have h9' : (x : Int) < 16 := by omega
          clear hin
          go_wp2_with fail
          refine (Load_yes x b f _ hx P.rb).mono ?_
          rintro e ux ⟨rfl, hu⟩
          rw [hu]; clear hu ux
          have cc := P.rc.cell x hx
          have PP : Hid _ := P
          clear P
          go_wp2
          go_ret
          exact ⟨rfl, PP.out.gr⟩
        · have HN : Hid (a1 < 0 ∨ 16 ≤ a1) := by show a1 < 0 ∨ 16 ≤ a1; omega
          go_wp2_with fail
          refine (Load_no a1 _ _ HN.out).mono ?_
          rintro e ux ⟨rfl, hu⟩
          rw [hu]; clear hu ux
          by_cases hlo : a1 < 0
          · go_wp2_with fail
            refine (bare_range _ (hT.later P.gr)).mono ?_
            rintro e u2 ⟨rfl, g2⟩
            have G2 : Hid _ := P.gr.trans g2
            clear P g2
            go_wp2
            go_ret
            exact ⟨rfl, G2.out⟩
          · have h9 : (16 : Int) ≤ a1 := by omega
            go_wp2_with fail
            refine (bare_range _ (hT.later P.gr)).mono ?_
            rintro e u2 ⟨rfl, g2⟩
            have G2 : Hid _ := P.gr.trans g2
            clear P g2
            go_wp2
            go_ret
            exact ⟨rfl, G2.out⟩
  · have hn' : (60 : Int) < (n0 : Int) := by omega
    go_enter Tryd.func3, Tryd.ntmps3
    go_wp2
    go_ret
    exact ⟨rfl, Gr.refl _⟩
end Go.Proofs.YtfmgdjnmaphhjaaDoor
