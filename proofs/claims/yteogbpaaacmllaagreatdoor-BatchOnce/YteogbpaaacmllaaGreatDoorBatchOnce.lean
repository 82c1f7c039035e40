/- BatchOnce is proved: for every number of a kind and every two lists of deeds the call returns true (asks that were done are open no longer, and done again they change nothing but the version); the library's handle of the type error stands as the program's text lays it. -/
import Derived.Test.YteogbpaaacmllaaGreatDoorRows
import Derived.Test.YteogbpaaacmllaaGreatDoorPk08
import Derived.Test.YteogbpaaacmllaaGreatDoorPk09
import Derived.Test.YteogbpaaacmllaaGreatDoorPk07
import Derived.Test.YteogbpaaacmllaaGreatDoorPk00
import Derived.Test.YteogbpaaacmllaaGreatDoorCards
import Derived.Deep.DeepCutAuto
import Derived.Deep.RegionHeld3
import Derived.SevenTiedAt

namespace Go.Proofs.YteogbpaaacmllaaGreatDoor.Tab.batchOnce
set_option maxRecDepth 20000
open Go.ChangeShapes Go.WideShapes Go.ChangeAt Go.RowKit
set_option linter.unusedVariables false

set_option maxHeartbeats 16000000 in
set_option maxRecDepth 20000 in
theorem walk (a0 : Int) (va : Value) (n1 : Nat) (vb : Value) (n2 : Nat) (w0 : (Lit.int .i64 a0).wf = true) (w : World) (hT : HandleAt w) (D : Dds w va n1) (E : Dds w vb n2) :
    Calls Tryz.prog 5 #[.int .i64 a0, va, vb] w fun e w' => e = .returned (.bool true) ∧ Below w.heap.size w w' := by
  clear w0 hT
  have RC : Hid (∀ w : World, _) := recorded_is
  have BC : Hid (∀ w : World, _) := batched_is
  obtain ⟨kk, k1, k6, hko⟩ := kindOf_is a0
  have KO : Hid _ := hko
  clear hko
  have D1 : Hid (Dds w va n1) := D
  have D2 : Hid (Dds w vb n2) := E
  clear D E
  have hM : Hid _ := (Ms.nil w)
  go_enter Tryz.func5, Tryz.ntmps5
  go_wp2_with fail
  refine (BC.out _).mono ?_
  rintro e W ⟨rfl, hb⟩
  replace hM := hid (hM.out.later hb)
  clear hb
  go_wp2_with fail
  refine (RC.out _).mono ?_
  rintro e W ⟨rfl, hb⟩
  replace hM := hid (hM.out.later hb)
  clear hb
  go_wp2_with fail
  refine (KO.out _).mono ?_
  rintro e ux ⟨rfl, hw⟩
  rw [hw]; clear hw ux
  go_wp2_with fail
  refine (written_vis k1 k6 (Dds.later (v := va) (n := n1) D1.out hM.out.below)).mono ?_
  rintro e W ⟨d, hd, hk, hc, hv, hm, rfl, hb⟩
  replace hM := hid (hM.out.later hb)
  clear hb
  have SV : Hid (Sv d 30) := ⟨hd, hc, by omega⟩
  clear hd hk hc hv hm k1 k6
  generalize hsz : w.heap.size = n0 at hM ⊢
  clear hsz
  obtain ⟨bx1, hbx1⟩ : ∃ q, q = W.heap.size := ⟨_, rfl⟩
  replace hM := hid (hM.out.bornR rl_zero.symm 24 (b := bx1) hbx1)
  have Hbx1 : Hid _ := hbx1
  clear hbx1
  go_wp2_with (first
    | (rw [← Hbx1.out]; refine sR rfl (hM.out.at 0 rfl) rfl ((rwR wz).len (rwR d)) (rwR d) ?_
       replace hM := hid (hM.out.put 0 rfl (rl d) ((rwR wz).len (rwR d)))
       generalize World.setCells _ _ _ _ = W at hM ⊢))
  refine (asksFor_aq (Dds.later D2.out hM.out.below)).mono ?_
  rintro e W ⟨a1, c1, n, q, hn, hg, rfl, hA, hb⟩
  replace hM := hid (hM.out.later hb)
  clear hb
  have HN : Hid (n ≤ 12) := hn
  have HG : Hid _ := hid hg
  clear hn hg
  obtain ⟨W0, hW0⟩ : ∃ z, z = W := ⟨_, rfl⟩
  subst hW0
  have hA : Hid (Aq W0 (.slice a1 n c1) n q) := hid hA
  have R0 : Hid (Bo W0 bx1 (rl d)) := (hM.out.at 0 rfl)
  have hBw : Hid (Below w.heap.size w W0) := hM.out.below
  have hSz : Hid (w.heap.size ≤ W0.heap.size) := hid hM.out.below.size
  clear hM
  obtain ⟨bp, hbp⟩ : ∃ z, z = W0.heap.size := ⟨_, rfl⟩
  have hM : Hid (Ms bp W0 W0 [] []) := hid (by subst hbp; exact Ms.nil W0)
  have HBP : Hid _ := hbp
  clear hbp
  rcases id hA.out with ⟨h0, a, c, hv, ha⟩ | ⟨b, off, c, hv, h0, hc, _, _⟩
  · subst h0
    clear hv ha
    go_wp2_with fail
    go_loopg [9, 36] 0 (fun gg s9 s36 wt => wt = W0 ∧ s36 = .int .i64 0 ∧ Hid (Oak bp W0 s9 []))
    case atStart => exact ⟨rfl, rfl, Oak.nil _ _⟩
    case round =>
      obtain ⟨hw, rfl, hO0⟩ := hrel
      rw [hw]; clear hw wr
      obtain ⟨W, hWW⟩ : ∃ z, z = W0 := ⟨_, rfl⟩
      obtain ⟨l, hl⟩ : ∃ z : List AK, z = [] := ⟨_, rfl⟩
      have hO : Hid (Oak bp W u9 l) := hid (by rw [hl, hWW]; exact hO0.out)
      clear hO0
      have HU : Hid (Un l) := hid (by rw [hl]; exact Un.nil)
      have HL : Hid (l.length ≤ 12) := hid (by rw [hl]; decide)
      have hM2 : Hid (Ms bp W0 W [] []) := hid (by rw [hWW]; exact hM.out)
      rw [← hWW]
      clear hM
      have hM : Hid (Ms bp W0 W [] []) := hM2
      clear hM2 hWW hl
      have hOA : Hid (Aq W _ l.length (aof l)) := hid (hO.out.aq (by have := HL.out; omega))
      obtain ⟨a3, c3, hf⟩ := hOA.out.form
      rw [hf] at hOA
      obtain ⟨W1, hW1⟩ : ∃ z, z = W := ⟨_, rfl⟩
      subst hW1
      have hA1 : Hid (Aq W1 (.slice a3 l.length c3) l.length (aof l)) := hOA
      have R1 : Hid (Bo W1 bx1 (rl d)) := R0.out.later hM.out.below
      have hBw1 : Hid (Below w.heap.size w W1) := hid (hBw.out.trans (hM.out.below.mono hSz.out))
      have hSz1 : Hid (w.heap.size ≤ W1.heap.size) := hid (Nat.le_trans hSz.out hM.out.below.size)
      clear hM hOA hO R0 hBw hSz
      subst hf
      have hM : Hid _ := Ms.nil W1
      have DO : Hid (∀ (w : World) (D : Aq w (.slice a3 l.length c3) l.length (aof l)), _) := fun w D => do_sv SV.out D (by have := HL.out; omega) HU.out.gk
      have S1 : Hid _ := hid ((SV.out.run (n := l.length) (by have := HL.out; omega) HU.out.gk).bump (by have := HL.out; omega))
      have HS0 : ∀ i, i < l.length → (aof l i).g = ((bt (bump (st d (aof l) l.length)) (aof l i).t.toNat : Nat) : Int) := fun i hi => by rw [bt_bump]; exact run_bt HU.out.gk HU.out.ne i hi
      obtain ⟨t1, ht1⟩ : ∃ z, z = bump (st d (aof l) l.length) := ⟨_, rfl⟩
      rw [← ht1] at DO S1 HS0
      have HS : Hid _ := hid HS0
      clear HS0 ht1
      have DO2 : Hid (∀ (w : World) (D : Aq w (.slice a3 l.length c3) l.length (aof l)), _) := fun w D => do_sv S1.out D (by have := HL.out; omega) HU.out.gk
      obtain ⟨as1, as2⟩ := all_shut HS.out
      rw [as1, as2] at DO2
      clear as1 as2
      go_wp2_with (first
        | (refine lR rfl (R1.out.later hM.out.below) rfl (rwR d) ?_))
      refine (DO.out _ (hA1.out.later hM.out.below)).mono ?_
      rintro e W ⟨o4, a4, c4, rfl, _, _, hb⟩
      replace hM := hid (hM.out.later hb)
      clear hb DO
      generalize hsz : W1.heap.size = m1 at hM ⊢
      clear hsz
      obtain ⟨bx2, hbx2⟩ : ∃ q, q = W.heap.size := ⟨_, rfl⟩
      replace hM := hid (hM.out.bornR rl_zero.symm 24 (b := bx2) hbx2)
      have Hbx2 : Hid _ := hbx2
      clear hbx2
      go_wp2_with (first
        | (rw [← Hbx2.out]; refine sR rfl (hM.out.at 0 rfl) rfl ((rwR wz).len (rwR t1)) (rwR t1) ?_
           replace hM := hid (hM.out.put 0 rfl (rl t1) ((rwR wz).len (rwR t1)))
           generalize World.setCells _ _ _ _ = W at hM ⊢))
      generalize (dn d (aof l) l.length).length = ln at *
      go_loopg [60] l.length (fun gg s60 wt => ∃ i : Nat, i ≤ l.length ∧ l.length - i ≤ gg ∧ s60 = .int .i64 i ∧ Hid (Ms m1 W1 wt [(bx2, rl t1)] []))
      case atStart => exact ⟨0, by omega, by omega, rfl, hM.out.pick [0]⟩
      case round =>
        clear hM
        obtain ⟨i, hi, hgg, rfl, hM⟩ := hrel
        obtain ⟨W, rfl⟩ : ∃ q, q = wr := ⟨_, rfl⟩
        by_cases hlt : i < l.length
        · have hi1 : (i : Int) < (l.length : Int) := by omega
          have hi0 : (0 : Int) ≤ (i : Int) := by omega
          rcases id (hA1.out.later hM.out.below) with ⟨h0, _⟩ | ⟨b2, off2, cc, hv2, _, _, _, hh⟩
          · omega
          · injection hv2 with f1 _ f3
            subst f1 f3
            have RA0 := hh i hlt
            have OP0 := HS.out i hlt
            have GK := HU.out.gk i hlt
            obtain ⟨⟨t, g, o, k, x⟩, hq⟩ : ∃ z, z = aof l i := ⟨_, rfl⟩
            rw [← hq] at RA0 OP0 GK
            obtain ⟨⟨⟨t0, t4⟩, hg⟩, _⟩ := GK
            dsimp only at t0 t4 hg OP0
            obtain ⟨tn, rfl⟩ : ∃ n : Nat, t = n := ⟨t.toNat, by omega⟩
            rw [show ((tn : Nat) : Int).toNat = tn from rfl] at OP0
            have OP : Hid (∀ w : World, _) := open_yes (S1.out.isr.u64 26 (by decide)) (show tn < 4 by omega) hg o k x (v := false) ⟨fun _ => OP0, fun _ => rfl⟩
            have RA : Hid (W.rangeAt b2 (off2 + i * 5) [.int .i64 (tn : Nat), .int .i64 g, .int .i64 o, .int .i64 k, .int .i64 x]) := RA0
            clear RA0 OP0 hg t0 t4 hq hh
            obtain ⟨ba, hba⟩ : ∃ q, q = W.heap.size := ⟨_, rfl⟩
            have HBA : Hid _ := hba
            clear hba
            go_wp2_with (first
              | (refine lO rfl RA.out rfl (rwAk (tn : Nat) g o k x) ?_)
              | (rw [← HBA.out]
                 replace hM := hid (hM.out.born [.int .i64 0, .int .i64 0, .int .i64 0, .int .i64 0, .int .i64 0] 52 HBA.out)
                 refine sR rfl (hM.out.at 0 rfl) rfl ((rwAk 0 0 0 0 0).len (rwAk (tn : Nat) g o k x)) (rwAk (tn : Nat) g o k x) ?_
                 replace hM := hid (hM.out.put 0 rfl [.int .i64 (tn : Nat), .int .i64 g, .int .i64 o, .int .i64 k, .int .i64 x] ((rwAk 0 0 0 0 0).len (rwAk (tn : Nat) g o k x)))
                 generalize World.setCells _ _ _ _ = W at hM ⊢)
              | (refine lR rfl (hM.out.at 1 rfl) rfl (rwR t1) ?_)
              | (refine lR rfl (hM.out.at 0 rfl) rfl (rwAk (tn : Nat) g o k x) ?_))
            refine (OP.out _).mono ?_
            rintro e W ⟨rfl, hb⟩
            replace hM := hid (hM.out.later hb)
            clear hb
            go_wp2_with fail
            have hw : wrap64 ((i : Int) + 1) = ((i + 1 : Nat) : Int) := (by have := HL.out; unfold wrap64; omega)
            go_roundg (l.length - (i + 1))
            case measure => omega
            case rel => exact ⟨i + 1, by omega, by omega, by go_num, hM.out.pick [1]⟩
        · obtain rfl : i = l.length := by omega
          have hi1 : ¬ (l.length : Int) < (l.length : Int) := by omega
          go_wp2_with (first
            | (refine lR rfl (hM.out.at 0 rfl) rfl (rwR t1) ?_))
          refine (DO2.out _ (hA1.out.later hM.out.below)).mono ?_
          rintro e W ⟨o5, a5, c5, rfl, _, _, hb⟩
          replace hM := hid (hM.out.later hb)
          clear hb DO2
          obtain ⟨vn, hvn⟩ : ∃ v, v = t1 27 := ⟨_, rfl⟩
          have w27 : IntKind.u64.wrap ((vn : Int) + 1) = ((vn + 1 : Nat) : Int) := by rw [IntKind.wrap_u64]; have := S1.out.ver; have := HL.out; omega
          obtain ⟨v1, hv1⟩ : ∃ v, v = vn + 1 := ⟨_, rfl⟩
          rw [← hv1] at w27
          obtain ⟨tb, htb⟩ : ∃ z, z = bump t1 := ⟨_, rfl⟩
          rw [← htb]
          have HE : Hid (rl (upw t1 27 v1) = rl tb) := hid (by rw [htb, hv1, hvn]; rfl)
          have HVN : Hid (t1 27 = vn) := hvn.symm
          clear hvn hv1 htb
          have EE := rec_equal tb
          obtain ⟨bx3, hbx3⟩ : ∃ q, q = W.heap.size := ⟨_, rfl⟩
          replace hM := hid (hM.out.bornR rl_zero.symm 24 (b := bx3) hbx3)
          have Hbx3 : Hid _ := hbx3
          clear hbx3
          go_wp2_with (first
            | (rw [← Hbx3.out]; refine sR rfl (hM.out.at 0 rfl) rfl ((rwR wz).len (rwR tb)) (rwR tb) ?_
               replace hM := hid (hM.out.put 0 rfl (rl tb) ((rwR wz).len (rwR tb)))
               generalize World.setCells _ _ _ _ = W at hM ⊢
               have x4 := (hM.out.at 1 rfl).rwordx (show 27 < 32 by decide) HVN.out)
            | (refine s1 rfl (hM.out.at 1 rfl) 27 rfl (.int .u64 (v1 : Nat)) rfl sz_u ?_ (by rw [rl_length]; decide)
               replace hM := hid (hM.out.put1 1 27 rfl (.int .u64 (v1 : Nat)) (rl (upw t1 27 v1)) (by rw [rl_length]; decide) (rl_set _ _ (by decide)))
               generalize World.setCell _ _ _ = W at hM ⊢
               clear x4
               rw [HE.out] at hM)
            | (refine lW rfl (hM.out.at 0 rfl) rfl (rwR tb) ?_)
            | (refine lW rfl (hM.out.at 1 rfl) rfl (rwR tb) ?_))
          go_ret
          exact ⟨rfl, hBw1.out.trans (hM.out.below.mono hSz1.out)⟩
  · injection hv with e1 _ e3
    subst e1 e3
    have HC : Hid (0 < n ∧ n ≤ c1) := ⟨h0, hc⟩
    clear h0 hc
    go_wp2_with fail
    go_loopg [9, 36] n (fun gg s9 s36 wt => ∃ (i : Nat) (l : List AK), i ≤ n ∧ n - i ≤ gg ∧ s36 = .int .i64 i ∧ Hid (Un l) ∧ Hid (l.length ≤ i) ∧ Hid (Oak bp wt s9 l) ∧ Hid (Ms bp W0 wt [] []))
    case atStart => exact ⟨0, [], by omega, by omega, rfl, Un.nil, hid (Nat.le_refl _), Oak.nil _ _, hM⟩
    case round =>
      clear hM
      obtain ⟨i, l, hi, hgg, rfl, HU, HLi, hO, hM⟩ := hrel
      obtain ⟨W, rfl⟩ : ∃ q, q = wr := ⟨_, rfl⟩
      have HL : Hid (l.length ≤ 12) := hid (by have := HLi.out; have := HN.out; omega)
      by_cases hlt : i < n
      · have hi1 : (i : Int) < (n : Int) := by omega
        have hi0 : (0 : Int) ≤ (i : Int) := by omega
        obtain ⟨t, g, o, k, x, hq, hr⟩ := (hA.out.later hM.out.below).all W (Below.refl _ _) i hlt
        have RA : Hid _ := hr
        have GK0 := HG.out i hlt
        rw [hq] at GK0
        have GK : Hid _ := hid GK0
        clear hr hq GK0
        have hOA := hO.out.aq (by have := HL.out; omega)
        obtain ⟨a3, c3, hf⟩ := hOA.form
        clear hOA
        subst hf
        have hOl : Hid (∀ gb, (Value.slice a3 l.length c3).ownBlock = some gb → gb < W.heap.size) := fun g hg => (hO.out.lt g hg).2
        replace hO := hid (hO.out.new (.cells #[.int .i64 0, .int .i64 0, .int .i64 0, .int .i64 0, .int .i64 0] 52))
        obtain ⟨ba, hba⟩ : ∃ q, q = W.heap.size := ⟨_, rfl⟩
        have HBA : Hid _ := hba
        clear hba
        go_wp2_with (first
          | (refine lO rfl RA.out rfl (rwAk t g o k x) ?_)
          | (rw [← HBA.out]
             replace hM := hid (hM.out.born [.int .i64 0, .int .i64 0, .int .i64 0, .int .i64 0, .int .i64 0] 52 HBA.out)
             refine sR rfl (hM.out.at 0 rfl) rfl ((rwAk 0 0 0 0 0).len (rwAk t g o k x)) (rwAk t g o k x) ?_
             replace hO := hid (hO.out.asideL (c := ba) (fun gb hg => by have := hOl.out gb hg; have := HBA.out; omega) 0 [.int .i64 t, .int .i64 g, .int .i64 o, .int .i64 k, .int .i64 x])
             replace hM := hid (hM.out.put 0 rfl [.int .i64 t, .int .i64 g, .int .i64 o, .int .i64 k, .int .i64 x] ((rwAk 0 0 0 0 0).len (rwAk t g o k x)))
             generalize World.setCells _ _ _ _ = W at hM hO ⊢))
        have HXO : Hid (∀ gb, (Value.slice a3 l.length c3).ownBlock = some gb → gb < ba) := fun gb hg => by have := hOl.out gb hg; have := HBA.out; omega
        clear hOl
        refine (contains_is a3 c3 (by have := HL.out; omega) (bx := ba) _ (hO.out.aq (by have := HL.out; omega)) (hM.out.at 0 rfl)).mono ?_
        rintro e W ⟨bb, rfl, hbb, hb⟩
        replace hO := hid (hO.out.later hb)
        replace hM := hid (hM.out.later hb)
        clear hb
        have HBB : Hid _ := hid hbb
        clear hbb
        cases bb
        · go_wp2_with (first
            | (refine lR rfl (hM.out.at 0 rfl) rfl (rwAk t g o k x) ?_)
            | (at_builtin; refine wpList_pushA rfl rfl (.tmp 44) (.tmp 46) rfl rfl rfl (B := bp) (l := l) (nb := W.heap.size) (d := ⟨t, g, o, k, x⟩) (by have := hM.out.le; simp; omega) (hO.out.new _) (Bo.born W (AK.row ⟨t, g, o, k, x⟩) _ rfl) (by have := HL.out; omega) ?_
               intro v9 w9 hO9 hb9
               have hO9 : Hid _ := hid hO9
               have hM9 : Hid _ := hid (((hM.out.pick []).new _).laterA hb9 ⟨Nat.le_refl _, by simp⟩)
               clear hb9))
          have hw : wrap64 ((i : Int) + 1) = ((i + 1 : Nat) : Int) := (by have := HN.out; unfold wrap64; omega)
          go_roundg (n - (i + 1))
          case measure => omega
          case rel => exact ⟨i + 1, l ++ [⟨t, g, o, k, x⟩], by omega, by omega, by go_num, HU.out.more GK.out (fun b hb => by obtain ⟨j, hj, rfl⟩ := List.mem_iff_getElem.1 hb; rw [← aof_get hj]; exact HBB.out (by first | rfl | trivial) j hj), hid (by rw [List.length_append]; have := HLi.out; simp; omega), hO9, hM9⟩
        · go_wp2_with fail
          have hw : wrap64 ((i : Int) + 1) = ((i + 1 : Nat) : Int) := (by have := HN.out; unfold wrap64; omega)
          go_roundg (n - (i + 1))
          case measure => omega
          case rel => exact ⟨i + 1, l, by omega, by omega, by go_num, HU, hid (Nat.le_succ_of_le HLi.out), hO, hM.out.pick []⟩
      · obtain rfl : i = n := by omega
        have hi1 : ¬ (i : Int) < (i : Int) := by omega
        have hOA : Hid (Aq W _ l.length (aof l)) := hid (hO.out.aq (by have := HL.out; omega))
        obtain ⟨a3, c3, hf⟩ := hOA.out.form
        rw [hf] at hOA
        obtain ⟨W1, hW1⟩ : ∃ z, z = W := ⟨_, rfl⟩
        subst hW1
        have hA1 : Hid (Aq W1 (.slice a3 l.length c3) l.length (aof l)) := hOA
        have R1 : Hid (Bo W1 bx1 (rl d)) := R0.out.later hM.out.below
        have hBw1 : Hid (Below w.heap.size w W1) := hid (hBw.out.trans (hM.out.below.mono hSz.out))
        have hSz1 : Hid (w.heap.size ≤ W1.heap.size) := hid (Nat.le_trans hSz.out hM.out.below.size)
        clear hM hOA hO R0 hBw hSz
        subst hf
        have hM : Hid _ := Ms.nil W1
        have DO : Hid (∀ (w : World) (D : Aq w (.slice a3 l.length c3) l.length (aof l)), _) := fun w D => do_sv SV.out D (by have := HL.out; omega) HU.out.gk
        have S1 : Hid _ := hid ((SV.out.run (n := l.length) (by have := HL.out; omega) HU.out.gk).bump (by have := HL.out; omega))
        have HS0 : ∀ i, i < l.length → (aof l i).g = ((bt (bump (st d (aof l) l.length)) (aof l i).t.toNat : Nat) : Int) := fun i hi => by rw [bt_bump]; exact run_bt HU.out.gk HU.out.ne i hi
        obtain ⟨t1, ht1⟩ : ∃ z, z = bump (st d (aof l) l.length) := ⟨_, rfl⟩
        rw [← ht1] at DO S1 HS0
        have HS : Hid _ := hid HS0
        clear HS0 ht1
        have DO2 : Hid (∀ (w : World) (D : Aq w (.slice a3 l.length c3) l.length (aof l)), _) := fun w D => do_sv S1.out D (by have := HL.out; omega) HU.out.gk
        obtain ⟨as1, as2⟩ := all_shut HS.out
        rw [as1, as2] at DO2
        clear as1 as2
        go_wp2_with (first
          | (refine lR rfl (R1.out.later hM.out.below) rfl (rwR d) ?_))
        refine (DO.out _ (hA1.out.later hM.out.below)).mono ?_
        rintro e W ⟨o4, a4, c4, rfl, _, _, hb⟩
        replace hM := hid (hM.out.later hb)
        clear hb DO
        generalize hsz : W1.heap.size = m1 at hM ⊢
        clear hsz
        obtain ⟨bx2, hbx2⟩ : ∃ q, q = W.heap.size := ⟨_, rfl⟩
        replace hM := hid (hM.out.bornR rl_zero.symm 24 (b := bx2) hbx2)
        have Hbx2 : Hid _ := hbx2
        clear hbx2
        go_wp2_with (first
          | (rw [← Hbx2.out]; refine sR rfl (hM.out.at 0 rfl) rfl ((rwR wz).len (rwR t1)) (rwR t1) ?_
             replace hM := hid (hM.out.put 0 rfl (rl t1) ((rwR wz).len (rwR t1)))
             generalize World.setCells _ _ _ _ = W at hM ⊢))
        generalize (dn d (aof l) l.length).length = ln at *
        go_loopg [60] l.length (fun gg s60 wt => ∃ i : Nat, i ≤ l.length ∧ l.length - i ≤ gg ∧ s60 = .int .i64 i ∧ Hid (Ms m1 W1 wt [(bx2, rl t1)] []))
        case atStart => exact ⟨0, by omega, by omega, rfl, hM.out.pick [0]⟩
        case round =>
          clear hM
          obtain ⟨i, hi, hgg, rfl, hM⟩ := hrel
          obtain ⟨W, rfl⟩ : ∃ q, q = wr := ⟨_, rfl⟩
          by_cases hlt : i < l.length
          · have hi1 : (i : Int) < (l.length : Int) := by omega
            have hi0 : (0 : Int) ≤ (i : Int) := by omega
            rcases id (hA1.out.later hM.out.below) with ⟨h0, _⟩ | ⟨b2, off2, cc, hv2, _, _, _, hh⟩
            · omega
            · injection hv2 with f1 _ f3
              subst f1 f3
              have RA0 := hh i hlt
              have OP0 := HS.out i hlt
              have GK := HU.out.gk i hlt
              obtain ⟨⟨t, g, o, k, x⟩, hq⟩ : ∃ z, z = aof l i := ⟨_, rfl⟩
              rw [← hq] at RA0 OP0 GK
              obtain ⟨⟨⟨t0, t4⟩, hg⟩, _⟩ := GK
              dsimp only at t0 t4 hg OP0
              obtain ⟨tn, rfl⟩ : ∃ n : Nat, t = n := ⟨t.toNat, by omega⟩
              rw [show ((tn : Nat) : Int).toNat = tn from rfl] at OP0
              have OP : Hid (∀ w : World, _) := open_yes (S1.out.isr.u64 26 (by decide)) (show tn < 4 by omega) hg o k x (v := false) ⟨fun _ => OP0, fun _ => rfl⟩
              have RA : Hid (W.rangeAt b2 (off2 + i * 5) [.int .i64 (tn : Nat), .int .i64 g, .int .i64 o, .int .i64 k, .int .i64 x]) := RA0
              clear RA0 OP0 hg t0 t4 hq hh
              obtain ⟨ba, hba⟩ : ∃ q, q = W.heap.size := ⟨_, rfl⟩
              have HBA : Hid _ := hba
              clear hba
              go_wp2_with (first
                | (refine lO rfl RA.out rfl (rwAk (tn : Nat) g o k x) ?_)
                | (rw [← HBA.out]
                   replace hM := hid (hM.out.born [.int .i64 0, .int .i64 0, .int .i64 0, .int .i64 0, .int .i64 0] 52 HBA.out)
                   refine sR rfl (hM.out.at 0 rfl) rfl ((rwAk 0 0 0 0 0).len (rwAk (tn : Nat) g o k x)) (rwAk (tn : Nat) g o k x) ?_
                   replace hM := hid (hM.out.put 0 rfl [.int .i64 (tn : Nat), .int .i64 g, .int .i64 o, .int .i64 k, .int .i64 x] ((rwAk 0 0 0 0 0).len (rwAk (tn : Nat) g o k x)))
                   generalize World.setCells _ _ _ _ = W at hM ⊢)
                | (refine lR rfl (hM.out.at 1 rfl) rfl (rwR t1) ?_)
                | (refine lR rfl (hM.out.at 0 rfl) rfl (rwAk (tn : Nat) g o k x) ?_))
              refine (OP.out _).mono ?_
              rintro e W ⟨rfl, hb⟩
              replace hM := hid (hM.out.later hb)
              clear hb
              go_wp2_with fail
              have hw : wrap64 ((i : Int) + 1) = ((i + 1 : Nat) : Int) := (by have := HL.out; unfold wrap64; omega)
              go_roundg (l.length - (i + 1))
              case measure => omega
              case rel => exact ⟨i + 1, by omega, by omega, by go_num, hM.out.pick [1]⟩
          · obtain rfl : i = l.length := by omega
            have hi1 : ¬ (l.length : Int) < (l.length : Int) := by omega
            go_wp2_with (first
              | (refine lR rfl (hM.out.at 0 rfl) rfl (rwR t1) ?_))
            refine (DO2.out _ (hA1.out.later hM.out.below)).mono ?_
            rintro e W ⟨o5, a5, c5, rfl, _, _, hb⟩
            replace hM := hid (hM.out.later hb)
            clear hb DO2
            obtain ⟨vn, hvn⟩ : ∃ v, v = t1 27 := ⟨_, rfl⟩
            have w27 : IntKind.u64.wrap ((vn : Int) + 1) = ((vn + 1 : Nat) : Int) := by rw [IntKind.wrap_u64]; have := S1.out.ver; have := HL.out; omega
            obtain ⟨v1, hv1⟩ : ∃ v, v = vn + 1 := ⟨_, rfl⟩
            rw [← hv1] at w27
            obtain ⟨tb, htb⟩ : ∃ z, z = bump t1 := ⟨_, rfl⟩
            rw [← htb]
            have HE : Hid (rl (upw t1 27 v1) = rl tb) := hid (by rw [htb, hv1, hvn]; rfl)
            have HVN : Hid (t1 27 = vn) := hvn.symm
            clear hvn hv1 htb
            have EE := rec_equal tb
            obtain ⟨bx3, hbx3⟩ : ∃ q, q = W.heap.size := ⟨_, rfl⟩
            replace hM := hid (hM.out.bornR rl_zero.symm 24 (b := bx3) hbx3)
            have Hbx3 : Hid _ := hbx3
            clear hbx3
            go_wp2_with (first
              | (rw [← Hbx3.out]; refine sR rfl (hM.out.at 0 rfl) rfl ((rwR wz).len (rwR tb)) (rwR tb) ?_
                 replace hM := hid (hM.out.put 0 rfl (rl tb) ((rwR wz).len (rwR tb)))
                 generalize World.setCells _ _ _ _ = W at hM ⊢
                 have x4 := (hM.out.at 1 rfl).rwordx (show 27 < 32 by decide) HVN.out)
              | (refine s1 rfl (hM.out.at 1 rfl) 27 rfl (.int .u64 (v1 : Nat)) rfl sz_u ?_ (by rw [rl_length]; decide)
                 replace hM := hid (hM.out.put1 1 27 rfl (.int .u64 (v1 : Nat)) (rl (upw t1 27 v1)) (by rw [rl_length]; decide) (rl_set _ _ (by decide)))
                 generalize World.setCell _ _ _ = W at hM ⊢
                 clear x4
                 rw [HE.out] at hM)
              | (refine lW rfl (hM.out.at 0 rfl) rfl (rwR tb) ?_)
              | (refine lW rfl (hM.out.at 1 rfl) rfl (rwR tb) ?_))
            go_ret
            exact ⟨rfl, hBw1.out.trans (hM.out.below.mono hSz1.out)⟩


set_option maxRecDepth 100000 in
theorem lifted (os : Os) (started : os.Started) (H : Type) (enc : TypeId × Value → H) :
    ReturnsInHanded {} Tryz.checked os 5 .any (fun w args => (Rows.batchOnceSpec.pre enc Tryz.prog Tryz.f5 [] false w args ∧ laidMetH Tryz.prog laidHandle w) ∧ sizedMet enc Tryz.prog Tryz.f5 (OpenSpec.ofChange Rows.batchOnceSpec) false w args)
      (Rows.batchOnceSpec.post enc Tryz.prog Tryz.f5 false true false false) := by
  refine returnsInHanded_of_change_and (C := Tryz.checked) (X := fun w _ => laidMetH Tryz.prog laidHandle w) (fun _ _ _ hh h => h.of_heap hh) own started (by kernel_rfl) Tryz.func5
    (ChangeSpec.witness_shaped (enc := enc) (C := Tryz.checked) (os := os) (X := fun w _ => laidMetH Tryz.prog laidHandle w) false (World.doorLaid Tryz.prog 400 os) #[.int .i64 0, .slice none 0 0, .slice none 0 0] 8 rfl (World.shaped_of_RefB (by kernel_rfl) (by kernel_rfl)) (by kernel_rfl) (by kernel_rfl) (by kernel_rfl) (door_handle os _)) ?_
  intro W base args ds gs before hval0 hW _ _ hL _
  have hval : ∀ (j : Nat) t v, Tryz.f5.params[j]? = some t → args[j]? = some v → Value.okWide Tryz.prog W .any base t v := hval0
  have hW' := hW
  obtain ⟨p, q, hA0, hV, rfl, hfz, hnd⟩ := hW
  have hA : DataW.TrodAll enc Tryz.prog W 0 (fun _ => true) true Tryz.f5.params.toList args.toList ds p := hA0
  rw [Tryz.params5] at hA hval
  obtain ⟨v0, vs0, d0, ds0, p0, q0, hargs, rfl, rfl, h0, r0⟩ := trodAll_cons hA
  obtain ⟨v1, vs1, d1, ds1, p1, q1, rfl, rfl, rfl, h1, r1⟩ := trodAll_cons r0
  obtain ⟨v2, vs2, d2, ds2, p2, q2, rfl, rfl, rfl, h2, r2⟩ := trodAll_cons r1
  obtain ⟨rfl, rfl, rfl⟩ := trodAll_nil r2
  obtain rfl : args = #[v0, v1, v2] := by cases args; simp_all
  obtain ⟨rfl, rfl⟩ := trodVars_none hV
  obtain ⟨a0, rfl, rfl, rfl, w0⟩ := open_int Tryz.underlying3 (hval 0 3 v0 rfl rfl) h0
  obtain ⟨n1, D1⟩ := adeeds_of_trod (hval 1 27 v1 rfl rfl) h1
  obtain ⟨n2, D2⟩ := adeeds_of_trod (hval 2 27 v2 rfl rfl) h2
  have hT := handle_of_laid hL
  have hlt := hW'.lt
  clear hA0 hval0
  refine (walk a0 v1 n1 v2 n2 w0 W hT D1 D2).mono fun e W' ⟨he, hg⟩ => ?_
  subst he
  exact ⟨_, rfl, post_below (pv := []) hW' (fun _ _ _ => (trodAll_cons_mk (shut_bool Tryz.underlying4 _) trodAll_mk0)) (fun sp hsp => (trodAll_cons_mk (shut_int Tryz.underlying3 w0) (trodAll_cons_mk (adeeds_stay h1 hg (fun x hx => hlt x (by simp [hx])) (fun x hx => hsp x (by simp [hx]))) (trodAll_cons_mk (adeeds_stay h2 hg (fun x hx => hlt x (by simp [hx])) (fun x hx => hsp x (by simp [hx]))) trodAll_mk0)))) (fun _ _ => rfl) (by simp) (hg.frame _)⟩

theorem over : Rows.BatchOnceSaid :=
  OpenClaim.holds_of_wide 5 Tryz.f5 rfl rfl rfl rfl rfl rfl rfl ⟨rfl, rfl, rfl, rfl, rfl⟩ rfl rfl rfl rfl rfl (by kernel_rfl) Tryz.func5 (by kernel_rfl)
    (of_decide_eq_true (by kernel_rfl)) (by unfold Func.isWrapper; first | (rw [if_pos (by decide +kernel)]; kernel_rfl) | (rw [if_neg (by decide +kernel)]; exact ⟨rfl, rfl⟩))
    (fun os started H enc _ => lifted os started H enc)

theorem proved : Rows.BatchOnceCardSaid :=
  Claim7.holds_tied_plain_at .later [] [.handle] true (true, "a91206407ffc9ac50704e0f9d15d4c21b102433ee895ea6e11b36374faea923f") true
    over (fun _ h => by cases h) (by kernel_rfl) (fun _ h => by cases h) batchOnce_row_tie rfl ⟨rfl, rfl⟩ (by kernel_rfl) rfl
    (fun f fn hf hfn => by
      obtain rfl : f = 5 := Option.some.inj ((show Tryz.prog.funcNamed "gristmill/gristmillkeep.BatchOnce" = some 5 by kernel_rfl).symm.trans hf) |>.symm
      obtain rfl : fn = Tryz.f5 := (Option.some.inj (Tryz.func5.symm.trans hfn)).symm
      exact ⟨by kernel_rfl, fun j t ht => by
        rw [Tryz.params5] at ht
        have hm : t ∈ [3, 27, 27] := by simpa using Array.mem_of_getElem? ht
        have hall : ([3, 27, 27].all fun u => !Tryz.prog.wantsStandIn u) = true := by kernel_rfl
        exact (show Tryz.prog.wantsStandIn t = false by simpa using List.all_eq_true.1 hall t hm)⟩)
    (by kernel_rfl)
#print axioms proved
end Go.Proofs.YteogbpaaacmllaaGreatDoor.Tab.batchOnce
