/- JudgeJoins is proved: for every number of a kind, every list of operations and every number the call returns true (deeds are legal if a beginning is, and the rest of an object that is as it is behind that); the library's handle of the type error stands as the program's text lays it. -/
import Derived.Test.YtaipanjigindbaaDoorRows
import Derived.Test.YtaipanjigindbaaDoorPk08
import Derived.Test.YtaipanjigindbaaDoorPk00
import Derived.Test.YtaipanjigindbaaDoorCards
import Derived.Deep.DeepCutAuto
import Derived.Deep.RegionHeld3
import Derived.SevenTiedAt

namespace Go.Proofs.YtaipanjigindbaaDoor.Tab.judgeJoins
set_option maxRecDepth 20000
open Go.ChangeShapes Go.WideShapes Go.ChangeAt Go.RowKit
set_option linter.unusedVariables false

set_option maxHeartbeats 16000000 in
set_option maxRecDepth 20000 in
theorem walk (a0 : Int) (v1 : Value) (n1 : Nat) (a2 : Int) (w0 : (Lit.int .i64 a0).wf = true) (w2 : (Lit.int .i64 a2).wf = true) (w : World) (hT : HandleAt w) (D : Ops w v1 n1) :
    Calls Tryd.prog 5 #[.int .i64 a0, v1, .int .i64 a2] w fun e w' => e = .returned (.bool true) ∧ Below w.heap.size w w' := by
  have HT : Hid (HandleAt w) := hT
  clear hT w0 w2
  obtain ⟨kd, k1, k6, KF0⟩ := kindOf_any a0
  have KF : Hid _ := KF0
  clear KF0
  have K16 : Hid (1 ≤ kd ∧ kd ≤ 6) := ⟨k1, k6⟩
  clear k1 k6
  rcases id D with ⟨h0, a, c, hv, ha⟩ | ⟨b, off, c, hv, h0, hc, hm, _⟩
  · subst hv h0
    clear D
    cases a with
    | none =>
      obtain rfl := ha rfl
      clear ha
      have hM : Hid _ := (Ms.nil w)
      go_enter Tryd.func5, Tryd.ntmps5
      go_wp2_with fail
      refine (judged_is _ (HT.out.below hM.out.below)).mono ?_
      rintro e W ⟨rfl, hb⟩
      replace hM := hid (hM.out.later hb)
      clear hb
      go_wp2_with fail
      refine (things_is _).mono ?_
      rintro e W ⟨rfl, hb⟩
      replace hM := hid (hM.out.later hb)
      clear hb
      go_wp2_with fail
      refine (KF.out _).mono ?_
      rintro e ux ⟨rfl, hw⟩
      rw [hw]; clear hw ux
      generalize hsz : w.heap.size = n at hM ⊢
      clear hsz
      obtain ⟨bc, hbc⟩ : ∃ q, q = W.heap.size := ⟨_, rfl⟩
      have HB0 : Hid (n ≤ bc) := by rw [hbc]; exact hM.out.le
      replace hM := hid (hM.out.bornR wz_all.symm 31 hbc)
      have HBC : Hid _ := hbc
      clear hbc
      go_wp2_with fail
      rw [← HBC.out]
      have HZ : Hid (bc + 1 ≤ (W.alloc (.cells #[.int .u64 0, .int .u64 0, .int .u64 0, .int .u64 0, .int .u64 0, .int .u64 0, .int .u64 0, .int .u64 0, .int .u64 0, .int .u64 0, .int .u64 0, .int .u64 0, .int .u64 0, .int .u64 0, .int .u64 0, .int .u64 0, .int .u64 0] 31)).heap.size) := hid (by rw [HBC.out]; simp)
      generalize World.alloc _ _ = W at hM HZ ⊢
      go_loopg [8, 37] 0 (fun gg s8 s37 wt => wt = W ∧ s8 = .slice none 0 0 ∧ s37 = .int .i64 0)
      case atStart => exact ⟨rfl, rfl, rfl⟩
      case round =>
        obtain ⟨hw, rfl, rfl⟩ := hrel
        rw [hw]; clear hw wr
        obtain ⟨r, hr, P0⟩ := pick_any a2 1 (by decide) (by decide)
        obtain rfl : r = 0 := by omega
        have P : Hid (∀ w : World, Calls Tryd.prog 16 #[.int .i64 a2, .int .i64 1] w _) := P0
        clear P0 hr
        have LG : Hid (∀ w : World, _) := legal_nil K16.out.1 K16.out.2
        go_wp2_with fail
        refine (P.out _).mono ?_
        rintro e ux ⟨rfl, hw⟩
        rw [hw]; clear hw ux
        go_wp2_with fail
        refine (LG.out _).mono ?_
        rintro e W ⟨rfl, hb⟩
        replace hM := hid (hM.out.later hb)
        clear hb
        obtain ⟨bx1, hbx1⟩ : ∃ q, q = W.heap.size := ⟨_, rfl⟩
        replace hM := hid (hM.out.bornR wz_all.symm 31 (b := bx1) hbx1)
        have Hbx1 : Hid _ := hbx1
        clear hbx1
        go_wp2_with (first
          | (rw [← Hbx1.out]; refine sR rfl (hM.out.at 0 rfl) rfl ((rwC wz).len (rwC wz)) (rwC wz) ?_
             replace hM := hid (hM.out.put 0 rfl (wl wz) ((rwC wz).len (rwC wz)))
             generalize World.setCells _ _ _ _ = W at hM ⊢))
        refine (LG.out _).mono ?_
        rintro e W ⟨rfl, hb⟩
        replace hM := hid (hM.out.later hb)
        clear hb
        obtain ⟨bx2, hbx2⟩ : ∃ q, q = W.heap.size := ⟨_, rfl⟩
        replace hM := hid (hM.out.bornR wz_all.symm 31 (b := bx2) hbx2)
        have Hbx2 : Hid _ := hbx2
        clear hbx2
        go_wp2_with (first
          | (rw [← Hbx2.out]; refine sR rfl (hM.out.at 0 rfl) rfl ((rwC wz).len (rwC wz)) (rwC wz) ?_
             replace hM := hid (hM.out.put 0 rfl (wl wz) ((rwC wz).len (rwC wz)))
             generalize World.setCells _ _ _ _ = W at hM ⊢))
        go_loopg [82] 0 (fun gg s82 wt => wt = W ∧ s82 = .int .i64 0)
        case atStart => exact ⟨rfl, rfl⟩
        case round =>
          obtain ⟨hw, rfl⟩ := hrel
          rw [hw]; clear hw wr
          have EE := cells_equal wz
          go_wp2_with (first
            | (refine lW rfl (hM.out.at 1 rfl) rfl (rwC wz) ?_)
            | (refine lW rfl (hM.out.at 2 rfl) rfl (rwC wz) ?_)
            | (refine lW rfl (hM.out.at 0 rfl) rfl (rwC wz) ?_))
          go_ret
          exact ⟨rfl, hM.out.below⟩
    | some a =>
      clear ha
      have hM : Hid _ := (Ms.nil w)
      go_enter Tryd.func5, Tryd.ntmps5
      go_wp2_with fail
      refine (judged_is _ (HT.out.below hM.out.below)).mono ?_
      rintro e W ⟨rfl, hb⟩
      replace hM := hid (hM.out.later hb)
      clear hb
      go_wp2_with fail
      refine (things_is _).mono ?_
      rintro e W ⟨rfl, hb⟩
      replace hM := hid (hM.out.later hb)
      clear hb
      go_wp2_with fail
      refine (KF.out _).mono ?_
      rintro e ux ⟨rfl, hw⟩
      rw [hw]; clear hw ux
      generalize hsz : w.heap.size = n at hM ⊢
      clear hsz
      obtain ⟨bc, hbc⟩ : ∃ q, q = W.heap.size := ⟨_, rfl⟩
      have HB0 : Hid (n ≤ bc) := by rw [hbc]; exact hM.out.le
      replace hM := hid (hM.out.bornR wz_all.symm 31 hbc)
      have HBC : Hid _ := hbc
      clear hbc
      go_wp2_with fail
      rw [← HBC.out]
      have HZ : Hid (bc + 1 ≤ (W.alloc (.cells #[.int .u64 0, .int .u64 0, .int .u64 0, .int .u64 0, .int .u64 0, .int .u64 0, .int .u64 0, .int .u64 0, .int .u64 0, .int .u64 0, .int .u64 0, .int .u64 0, .int .u64 0, .int .u64 0, .int .u64 0, .int .u64 0, .int .u64 0] 31)).heap.size) := hid (by rw [HBC.out]; simp)
      generalize World.alloc _ _ = W at hM HZ ⊢
      go_loopg [8, 37] 0 (fun gg s8 s37 wt => wt = W ∧ s8 = .slice none 0 0 ∧ s37 = .int .i64 0)
      case atStart => exact ⟨rfl, rfl, rfl⟩
      case round =>
        obtain ⟨hw, rfl, rfl⟩ := hrel
        rw [hw]; clear hw wr
        obtain ⟨r, hr, P0⟩ := pick_any a2 1 (by decide) (by decide)
        obtain rfl : r = 0 := by omega
        have P : Hid (∀ w : World, Calls Tryd.prog 16 #[.int .i64 a2, .int .i64 1] w _) := P0
        clear P0 hr
        have LG : Hid (∀ w : World, _) := legal_nil K16.out.1 K16.out.2
        go_wp2_with fail
        refine (P.out _).mono ?_
        rintro e ux ⟨rfl, hw⟩
        rw [hw]; clear hw ux
        go_wp2_with fail
        refine (LG.out _).mono ?_
        rintro e W ⟨rfl, hb⟩
        replace hM := hid (hM.out.later hb)
        clear hb
        obtain ⟨bx1, hbx1⟩ : ∃ q, q = W.heap.size := ⟨_, rfl⟩
        replace hM := hid (hM.out.bornR wz_all.symm 31 (b := bx1) hbx1)
        have Hbx1 : Hid _ := hbx1
        clear hbx1
        go_wp2_with (first
          | (rw [← Hbx1.out]; refine sR rfl (hM.out.at 0 rfl) rfl ((rwC wz).len (rwC wz)) (rwC wz) ?_
             replace hM := hid (hM.out.put 0 rfl (wl wz) ((rwC wz).len (rwC wz)))
             generalize World.setCells _ _ _ _ = W at hM ⊢))
        refine (LG.out _).mono ?_
        rintro e W ⟨rfl, hb⟩
        replace hM := hid (hM.out.later hb)
        clear hb
        obtain ⟨bx2, hbx2⟩ : ∃ q, q = W.heap.size := ⟨_, rfl⟩
        replace hM := hid (hM.out.bornR wz_all.symm 31 (b := bx2) hbx2)
        have Hbx2 : Hid _ := hbx2
        clear hbx2
        go_wp2_with (first
          | (rw [← Hbx2.out]; refine sR rfl (hM.out.at 0 rfl) rfl ((rwC wz).len (rwC wz)) (rwC wz) ?_
             replace hM := hid (hM.out.put 0 rfl (wl wz) ((rwC wz).len (rwC wz)))
             generalize World.setCells _ _ _ _ = W at hM ⊢))
        go_loopg [82] 0 (fun gg s82 wt => wt = W ∧ s82 = .int .i64 0)
        case atStart => exact ⟨rfl, rfl⟩
        case round =>
          obtain ⟨hw, rfl⟩ := hrel
          rw [hw]; clear hw wr
          have EE := cells_equal wz
          go_wp2_with (first
            | (refine lW rfl (hM.out.at 1 rfl) rfl (rwC wz) ?_)
            | (refine lW rfl (hM.out.at 2 rfl) rfl (rwC wz) ?_)
            | (refine lW rfl (hM.out.at 0 rfl) rfl (rwC wz) ?_))
          go_ret
          exact ⟨rfl, hM.out.below⟩
  · have HE : Hid (∀ w', Below w.heap.size w w' → ∀ i, i < n1 → ∃ o k x : Int, w'.cell? ⟨b, off + i * 3, none⟩ = some (.int .i64 o) ∧ w'.cell? ⟨b, off + i * 3 + 1, none⟩ = some (.int .i64 k) ∧ w'.cell? ⟨b, off + i * 3 + 2, none⟩ = some (.int .i64 x)) := by
      intro w' hb i hi
      rcases D.later hb with ⟨h, _⟩ | ⟨b2, off2, c2, hv2, _, _, _, hh⟩
      · omega
      · rw [hv] at hv2
        injection hv2 with e1 _ _
        injection e1 with e1
        injection e1 with e1 e2
        subst e1 e2
        exact hh i hi
    clear D
    subst hv
    obtain ⟨q, hq⟩ : ∃ q, q = min n1 30 := ⟨_, rfl⟩
    have eq : min (n1 : Int) 30 = (q : Int) := by omega
    have eq2 : (if (30 : Int) < (n1 : Int) then (30 : Int) else (n1 : Int)) = (q : Int) := by split <;> omega
    have hqc : (q : Int) ≤ (c : Int) := by omega
    have hq0 : (0 : Int) ≤ (q : Int) := by omega
    have HQ : Hid (q ≤ n1 ∧ q ≤ 30 ∧ q ≤ c) := (by omega : q ≤ n1 ∧ q ≤ 30 ∧ q ≤ c)
    clear hq h0 hc hm
    have hM : Hid _ := (Ms.nil w)
    go_enter Tryd.func5, Tryd.ntmps5
    go_wp2_with fail
    refine (judged_is _ (HT.out.below hM.out.below)).mono ?_
    rintro e W ⟨rfl, hb⟩
    replace hM := hid (hM.out.later hb)
    clear hb
    go_wp2_with fail
    refine (things_is _).mono ?_
    rintro e W ⟨rfl, hb⟩
    replace hM := hid (hM.out.later hb)
    clear hb
    go_wp2_with fail
    refine (KF.out _).mono ?_
    rintro e ux ⟨rfl, hw⟩
    rw [hw]; clear hw ux
    generalize hsz : w.heap.size = n at hM ⊢
    clear hsz
    obtain ⟨bc, hbc⟩ : ∃ q, q = W.heap.size := ⟨_, rfl⟩
    have HB0 : Hid (n ≤ bc) := by rw [hbc]; exact hM.out.le
    replace hM := hid (hM.out.bornR wz_all.symm 31 hbc)
    have HBC : Hid _ := hbc
    clear hbc
    go_wp2_with fail
    rw [← HBC.out]
    have HZ : Hid (bc + 1 ≤ (W.alloc (.cells #[.int .u64 0, .int .u64 0, .int .u64 0, .int .u64 0, .int .u64 0, .int .u64 0, .int .u64 0, .int .u64 0, .int .u64 0, .int .u64 0, .int .u64 0, .int .u64 0, .int .u64 0, .int .u64 0, .int .u64 0, .int .u64 0, .int .u64 0] 31)).heap.size) := hid (by rw [HBC.out]; simp)
    generalize World.alloc _ _ = W at hM HZ ⊢
    go_loopg [8, 37] q (fun gg s8 s37 wt => ∃ (i : Nat) (l : List DD), i ≤ q ∧ q - i ≤ gg ∧ s37 = .int .i64 i ∧ Hid (l.length ≤ i) ∧ Hid (l = [] → s8 = .slice none 0 0) ∧ Hid (∀ j, j < l.length → Ok1 (kd : Nat) (qof l) j) ∧ Hid (Odd (bc + 1) wt s8 l) ∧ Hid (bc + 1 ≤ wt.heap.size) ∧ Hid (Ms n w wt [(bc, wl (oi (kd : Nat) (qof l) l.length))] []))
    case atStart => exact ⟨0, [], by omega, by omega, rfl, hid (Nat.le_refl _), hid (fun _ => rfl), hid (fun j hj => absurd hj (Nat.not_lt_zero _)), Odd.nil _ _, HZ, hM⟩
    case round =>
      clear hM HZ
      obtain ⟨i, l, hi, hgg, rfl, HL, HN, OK, hO, HZ, hM⟩ := hrel
      obtain ⟨W, rfl⟩ : ∃ q, q = wr := ⟨_, rfl⟩
      obtain ⟨ci, hci⟩ : ∃ c, c = oi (kd : Nat) (qof l) l.length := ⟨_, rfl⟩
      rw [← hci] at hM
      by_cases hlt : i < q
      · have hi1 : (i : Int) < (q : Int) := by omega
        have hi0 : (0 : Int) ≤ (i : Int) := by omega
        obtain ⟨o, k, x, c0, c1, c2⟩ := HE.out W hM.out.below i (by have := HQ.out; omega)
        have OB : Hid (isOb (kd : Nat) ci) := by rw [hci]; exact oi_ob (by have := K16.out; omega) (by have := K16.out; omega) _ OK.out
        have hOl : Hid (∀ g, u8.ownBlock = some g → g < W.heap.size) := fun g hg => (hO.out.lt g hg).2
        obtain ⟨bo, hbo⟩ : ∃ q, q = W.heap.size := ⟨_, rfl⟩
        replace hO := hid (hO.out.new (.cells #[.int .i64 o, .int .i64 k, .int .i64 x] 47))
        replace hM := hid (hM.out.born [.int .i64 o, .int .i64 k, .int .i64 x] 47 hbo)
        have HBO : Hid _ := hbo
        clear hbo
        replace HZ : Hid (bc + 1 ≤ (W.alloc (.cells #[.int .i64 o, .int .i64 k, .int .i64 x] 47)).heap.size) := hid (Nat.le_trans HZ.out (by simp))
        by_cases hR : Rt o k x
        · obtain ⟨cn, cc, y, hod⟩ : ∃ d c2 y2, odo (kd : Nat) ci o k x = (d, c2, y2) := ⟨_, _, _, rfl⟩
          have DO : Hid (∀ w : World, Calls Tryd.prog 15 #[.int .i64 (kd : Nat), .agg (wl ci).toArray, .agg #[.int .i64 o, .int .i64 k, .int .i64 x]] w (DidD w cn cc y)) := fun w => by
            have h := obDo_is (kind := (kd : Nat)) OB.out hR w
            rw [hod] at h
            exact h
          have AP := ok_app OK.out hR (c := cc) (y := y) (by rw [← hci, hod]) (by rw [← hci, hod])
          rw [← hci, hod] at AP
          have HAP : Hid _ := AP
          clear AP hod hR hci OK HN
          go_wp2_with (first
            | (refine lR rfl (hM.out.at 1 rfl) rfl (rwC ci) ?_))
          clear c0 c1 c2
          rw [← HBO.out]
          generalize World.alloc _ _ = W at hM hO HZ ⊢
          refine (DO.out _).mono ?_
          rintro e W ⟨rfl, hb⟩
          replace hO := hid (hO.out.later hb)
          replace HZ := hid (Nat.le_trans HZ.out hb.size)
          replace hM := hid (hM.out.later hb)
          clear hb
          replace hOl : Hid (∀ g, u8.ownBlock = some g → g < W.heap.size) := fun g hg => (hO.out.lt g hg).2
          replace hO := hid ((hO.out.new (.cells #[.int .u64 0, .int .u64 0, .int .u64 0, .int .u64 0, .int .u64 0, .int .u64 0, .int .u64 0, .int .u64 0, .int .u64 0, .int .u64 0, .int .u64 0, .int .u64 0, .int .u64 0, .int .u64 0, .int .u64 0, .int .u64 0, .int .u64 0] 31)).new (.cells #[.int .i64 0, .int .i64 0] 49))
          obtain ⟨bx1, hbx1⟩ : ∃ q, q = W.heap.size := ⟨_, rfl⟩
          replace hM := hid ((hM.out.bornR wz_all.symm 31 (b := bx1) hbx1).born [.int .i64 0, .int .i64 0] 49 (b := (bx1 + 1)) (by simp [hbx1]))
          have Hbx1 : Hid _ := hbx1
          clear hbx1
          go_wp2_with (first
            | (rw [← Hbx1.out]; refine sR rfl (hM.out.at 1 rfl) rfl ((rwC wz).len (rwC cn)) (rwC cn) ?_
               replace hO := hid (hO.out.asideL (c := bx1) (fun g hg => by have := hOl.out g hg; have := Hbx1.out; omega) 0 (wl cn))
               replace hM := hid (hM.out.put 1 rfl (wl cn) ((rwC wz).len (rwC cn)))
               generalize World.setCells _ _ _ _ = W at hM hO ⊢)
            | (refine sR rfl (hM.out.at 0 rfl) rfl ((rwA 0 0).len (rwA cc y)) (rwA cc y) ?_
               replace hO := hid (hO.out.asideL (c := bx1 + 1) (fun g hg => by have := hOl.out g hg; have := Hbx1.out; omega) 0 [.int .i64 cc, .int .i64 y])
               replace hM := hid (hM.out.put 0 rfl [.int .i64 cc, .int .i64 y] ((rwA 0 0).len (rwA cc y)))
               generalize World.setCells _ _ _ _ = W at hM hO ⊢)
            | (refine lR rfl (hM.out.at 1 rfl) rfl (rwC cn) ?_)
            | (refine sR rfl (hM.out.at 3 rfl) rfl ((rwC ci).len (rwC cn)) (rwC cn) ?_
               replace hO := hid (hO.out.aside (Nat.lt_succ_self bc) 0 (wl cn))
               replace hM := hid (hM.out.put 3 rfl (wl cn) ((rwC ci).len (rwC cn)))
               generalize World.setCells _ _ _ _ = W at hM hO ⊢
               have c2 := hM.out.cell 2 0 rfl rfl
               have c3 := hM.out.cell 2 1 rfl rfl
               have c4 := hM.out.cell 2 2 rfl rfl
               have c5 := hM.out.cell 0 0 rfl rfl
               have c6 := hM.out.cell 0 1 rfl rfl)
            | (at_builtin
               refine wpList_pushD rfl rfl (.tmp 52) (.tmp 56) rfl rfl rfl (B := bc + 1) (l := l) (nb := W.heap.size) (d := nd o k x cc y) (by have := hM.out.len 3 rfl; simp; omega) (hO.out.new _) (Bo.born W (nd o k x cc y).row _ rfl) (by have := HL.out; have := HQ.out; omega) ?_
               intro v9 w9 hO9 hb9
               have hO : Hid _ := hid hO9
               have HZ9 : Hid _ := hid (Nat.le_trans (Nat.le_trans (Nat.succ_le_of_lt (hM.out.len 3 rfl)) (by simp)) hb9.size)
               have hM9 : Hid _ := hid (((hM.out.pick [3]).new _).laterA hb9 ⟨by have := HB0.out; omega, by intro b hb; simp at hb; omega⟩)
               clear hO9 hb9))
          clear c2 c3 c4 c5 c6
          go_roundg (q - (i + 1))
          case measure => omega
          case rel => exact ⟨i + 1, (l ++ [nd o k x cc y]), by omega, by omega, by go_num, hid (by rw [List.length_append]; have := HL.out; simp; omega), hid (fun h => absurd h (by simp)), hid HAP.out.1, hO, HZ9, by rw [HAP.out.2]; exact hM9⟩
        · have DO : Hid (∀ w : World, _) := obDo_no (kind := (kd : Nat)) (o := o) (k := k) (x := x) (c := ci) (fun h => hR h.1)
          clear hR
          have HCI : Hid _ := hci
          clear hci
          go_wp2_with (first
            | (refine lR rfl (hM.out.at 1 rfl) rfl (rwC ci) ?_))
          clear c0 c1 c2
          rw [← HBO.out]
          generalize World.alloc _ _ = W at hM hO HZ ⊢
          refine (DO.out _).mono ?_
          rintro e W ⟨rfl, hb⟩
          replace hO := hid (hO.out.later hb)
          replace HZ := hid (Nat.le_trans HZ.out hb.size)
          replace hM := hid (hM.out.later hb)
          clear hb
          replace hOl : Hid (∀ g, u8.ownBlock = some g → g < W.heap.size) := fun g hg => (hO.out.lt g hg).2
          replace hO := hid ((hO.out.new (.cells #[.int .u64 0, .int .u64 0, .int .u64 0, .int .u64 0, .int .u64 0, .int .u64 0, .int .u64 0, .int .u64 0, .int .u64 0, .int .u64 0, .int .u64 0, .int .u64 0, .int .u64 0, .int .u64 0, .int .u64 0, .int .u64 0, .int .u64 0] 31)).new (.cells #[.int .i64 0, .int .i64 0] 49))
          obtain ⟨bx1, hbx1⟩ : ∃ q, q = W.heap.size := ⟨_, rfl⟩
          replace hM := hid ((hM.out.bornR wz_all.symm 31 (b := bx1) hbx1).born [.int .i64 0, .int .i64 0] 49 (b := (bx1 + 1)) (by simp [hbx1]))
          have Hbx1 : Hid _ := hbx1
          clear hbx1
          go_wp2_with (first
            | (rw [← Hbx1.out]; refine sR rfl (hM.out.at 1 rfl) rfl ((rwC wz).len (rwC wz)) (rwC wz) ?_
               replace hO := hid (hO.out.asideL (c := bx1) (fun g hg => by have := hOl.out g hg; have := Hbx1.out; omega) 0 (wl wz))
               replace hM := hid (hM.out.put 1 rfl (wl wz) ((rwC wz).len (rwC wz)))
               generalize World.setCells _ _ _ _ = W at hM hO ⊢)
            | (refine sR rfl (hM.out.at 0 rfl) rfl ((rwA 0 0).len (rwA 0 0)) (rwA 0 0) ?_
               replace hO := hid (hO.out.asideL (c := bx1 + 1) (fun g hg => by have := hOl.out g hg; have := Hbx1.out; omega) 0 [.int .i64 0, .int .i64 0])
               replace hM := hid (hM.out.put 0 rfl [.int .i64 0, .int .i64 0] ((rwA 0 0).len (rwA 0 0)))
               generalize World.setCells _ _ _ _ = W at hM hO ⊢))
          go_roundg (q - (i + 1))
          case measure => omega
          case rel => exact ⟨i + 1, l, by omega, by omega, by go_num, hid (Nat.le_succ_of_le HL.out), HN, OK, hO, hid (Nat.succ_le_of_lt (hM.out.len 3 rfl)), by rw [← HCI.out]; exact hM.out.pick [3]⟩
      · obtain rfl : i = q := by omega
        have hi1 : ¬ (i : Int) < (i : Int) := by omega
        by_cases h0 : l = []
        · subst h0
          have hn := HN.out rfl
          subst hn
          have hz : ci = wz := hci
          subst hz
          clear hci
          obtain ⟨r, hr, P0⟩ := pick_any a2 1 (by decide) (by decide)
          obtain rfl : r = 0 := by omega
          have P : Hid (∀ w : World, Calls Tryd.prog 16 #[.int .i64 a2, .int .i64 1] w _) := P0
          clear P0 hr
          have LG : Hid (∀ w : World, _) := legal_nil K16.out.1 K16.out.2
          go_wp2_with fail
          refine (P.out _).mono ?_
          rintro e ux ⟨rfl, hw⟩
          rw [hw]; clear hw ux
          go_wp2_with fail
          refine (LG.out _).mono ?_
          rintro e W ⟨rfl, hb⟩
          replace hM := hid (hM.out.later hb)
          clear hb
          obtain ⟨bx1, hbx1⟩ : ∃ q, q = W.heap.size := ⟨_, rfl⟩
          replace hM := hid (hM.out.bornR wz_all.symm 31 (b := bx1) hbx1)
          have Hbx1 : Hid _ := hbx1
          clear hbx1
          go_wp2_with (first
            | (rw [← Hbx1.out]; refine sR rfl (hM.out.at 0 rfl) rfl ((rwC wz).len (rwC wz)) (rwC wz) ?_
               replace hM := hid (hM.out.put 0 rfl (wl wz) ((rwC wz).len (rwC wz)))
               generalize World.setCells _ _ _ _ = W at hM ⊢))
          refine (LG.out _).mono ?_
          rintro e W ⟨rfl, hb⟩
          replace hM := hid (hM.out.later hb)
          clear hb
          obtain ⟨bx2, hbx2⟩ : ∃ q, q = W.heap.size := ⟨_, rfl⟩
          replace hM := hid (hM.out.bornR wz_all.symm 31 (b := bx2) hbx2)
          have Hbx2 : Hid _ := hbx2
          clear hbx2
          go_wp2_with (first
            | (rw [← Hbx2.out]; refine sR rfl (hM.out.at 0 rfl) rfl ((rwC wz).len (rwC wz)) (rwC wz) ?_
               replace hM := hid (hM.out.put 0 rfl (wl wz) ((rwC wz).len (rwC wz)))
               generalize World.setCells _ _ _ _ = W at hM ⊢))
          go_loopg [82] 0 (fun gg s82 wt => wt = W ∧ s82 = .int .i64 0)
          case atStart => exact ⟨rfl, rfl⟩
          case round =>
            obtain ⟨hw, rfl⟩ := hrel
            rw [hw]; clear hw wr
            have EE := cells_equal wz
            go_wp2_with (first
              | (refine lW rfl (hM.out.at 1 rfl) rfl (rwC wz) ?_)
              | (refine lW rfl (hM.out.at 2 rfl) rfl (rwC wz) ?_)
              | (refine lW rfl (hM.out.at 0 rfl) rfl (rwC wz) ?_))
            go_ret
            exact ⟨rfl, hM.out.below⟩
        · obtain ⟨g, cap, hv, hgB, hcap, hB⟩ := hO.out.form.resolve_left (fun h => h0 h.2)
          subst hv
          replace hM := hid (hM.out.also hB ⟨by have := HB0.out; omega, by intro h; simp at h; omega⟩)
          have hl30 : l.length ≤ 30 := by have := HL.out; have := HQ.out; omega
          obtain ⟨r, hr, P0⟩ := pick_any a2 (l.length + 1) (by omega) (by omega)
          have P : Hid (∀ w : World, Calls Tryd.prog 16 #[.int .i64 a2, .int .i64 (wrap64 ((l.length : Nat) + 1))] w fun e w' => e = .returned (.int .i64 (r : Nat)) ∧ w' = w) := fun w => by have h := P0 w; rw [show ((l.length + 1 : Nat) : Int) = wrap64 ((l.length : Nat) + 1) from by unfold wrap64; omega] at h; exact h
          have LG1 : Hid (∀ {w : World} (h : Bo w g (dds l)), Calls Tryd.prog 7 #[.int .i64 (kd : Nat), .slice (some ⟨g, 0, none⟩) l.length cap] w (LegalY w ci)) := fun {w} h => by rw [hci]; exact legal_yes K16.out.1 K16.out.2 (h.dq (Nat.le_refl _) hcap (by omega)) OK.out
          obtain ⟨ch, hch⟩ : ∃ c, c = oi (kd : Nat) (qof l) r := ⟨_, rfl⟩
          have LG2 : Hid (∀ {w : World} (h : Bo w g (dds l)), Calls Tryd.prog 7 #[.int .i64 (kd : Nat), .slice (some ⟨g, 0, none⟩) r cap] w (LegalY w ch)) := fun {w} h => by rw [hch]; exact legal_yes K16.out.1 K16.out.2 (h.dq (by omega) (by omega) (by omega)) fun j hj => OK.out j (by omega)
          have HCI : Hid _ := hci
          have HCH : Hid _ := hch
          have HR : Hid (r ≤ l.length ∧ l.length ≤ 30 ∧ l.length ≤ cap) := ⟨by omega, hl30, hcap⟩
          have r0 : (0 : Int) ≤ (r : Int) := by omega
          have r1 : (r : Int) ≤ (l.length : Int) := by omega
          have r2 : (r : Int) ≤ (cap : Int) := by omega
          have r3 : (l.length : Int) ≤ (cap : Int) := by omega
          clear P0 hr h0 hgB hcap hB hl30 hci hch HL HN hO HZ hi hlt hgg
          by_cases hcr : cap = r
          · subst hcr
            have e0 : l.length = cap := by have := HR.out; omega
            have E0 : Hid _ := hid e0
            have hcc : ch = ci := by rw [HCH.out, HCI.out, e0]
            subst hcc
            clear e0
            go_wp2_with fail
            refine (P.out _).mono ?_
            rintro e ux ⟨rfl, hw⟩
            rw [hw]; clear hw ux
            go_wp2_with fail
            refine (LG1.out (hM.out.at 0 rfl)).mono ?_
            rintro e W ⟨rfl, hb⟩
            replace hM := hid (hM.out.later hb)
            clear hb
            obtain ⟨bx1, hbx1⟩ : ∃ q, q = W.heap.size := ⟨_, rfl⟩
            replace hM := hid (hM.out.bornR wz_all.symm 31 (b := bx1) hbx1)
            have Hbx1 : Hid _ := hbx1
            clear hbx1
            go_wp2_with (first
              | (rw [← Hbx1.out]; refine sR rfl (hM.out.at 0 rfl) rfl ((rwC wz).len (rwC ch)) (rwC ch) ?_
                 replace hM := hid (hM.out.put 0 rfl (wl ch) ((rwC wz).len (rwC ch)))
                 generalize World.setCells _ _ _ _ = W at hM ⊢))
            refine (LG2.out (hM.out.at 1 rfl)).mono ?_
            rintro e W ⟨rfl, hb⟩
            replace hM := hid (hM.out.later hb)
            clear hb
            obtain ⟨bx2, hbx2⟩ : ∃ q, q = W.heap.size := ⟨_, rfl⟩
            replace hM := hid (hM.out.bornR wz_all.symm 31 (b := bx2) hbx2)
            have Hbx2 : Hid _ := hbx2
            clear hbx2
            go_wp2_with (first
              | (rw [← Hbx2.out]; refine sR rfl (hM.out.at 0 rfl) rfl ((rwC wz).len (rwC ch)) (rwC ch) ?_
                 replace hM := hid (hM.out.put 0 rfl (wl ch) ((rwC wz).len (rwC ch)))
                 generalize World.setCells _ _ _ _ = W at hM ⊢))
            have e1 : (l.length : Int) - (cap : Int) = 0 := by have := E0.out; omega
            have e2 : l.length - cap = 0 := by have := E0.out; omega
            go_loopg [82] 0 (fun gg s82 wt => wt = W ∧ s82 = .int .i64 0)
            case atStart => exact ⟨rfl, rfl⟩
            case round =>
              obtain ⟨hw, rfl⟩ := hrel
              rw [hw]; clear hw wr
              have EE := cells_equal ch
              go_wp2_with (first
                | (refine lW rfl (hM.out.at 1 rfl) rfl (rwC ch) ?_)
                | (refine lW rfl (hM.out.at 3 rfl) rfl (rwC ch) ?_)
                | (refine lW rfl (hM.out.at 0 rfl) rfl (rwC ch) ?_))
              go_ret
              exact ⟨rfl, hM.out.below⟩
          · go_wp2_with fail
            refine (P.out _).mono ?_
            rintro e ux ⟨rfl, hw⟩
            rw [hw]; clear hw ux
            go_wp2_with fail
            refine (LG1.out (hM.out.at 0 rfl)).mono ?_
            rintro e W ⟨rfl, hb⟩
            replace hM := hid (hM.out.later hb)
            clear hb
            obtain ⟨bx1, hbx1⟩ : ∃ q, q = W.heap.size := ⟨_, rfl⟩
            replace hM := hid (hM.out.bornR wz_all.symm 31 (b := bx1) hbx1)
            have Hbx1 : Hid _ := hbx1
            clear hbx1
            go_wp2_with (first
              | (rw [← Hbx1.out]; refine sR rfl (hM.out.at 0 rfl) rfl ((rwC wz).len (rwC ci)) (rwC ci) ?_
                 replace hM := hid (hM.out.put 0 rfl (wl ci) ((rwC wz).len (rwC ci)))
                 generalize World.setCells _ _ _ _ = W at hM ⊢))
            refine (LG2.out (hM.out.at 1 rfl)).mono ?_
            rintro e W ⟨rfl, hb⟩
            replace hM := hid (hM.out.later hb)
            clear hb
            obtain ⟨bx2, hbx2⟩ : ∃ q, q = W.heap.size := ⟨_, rfl⟩
            replace hM := hid (hM.out.bornR wz_all.symm 31 (b := bx2) hbx2)
            have Hbx2 : Hid _ := hbx2
            clear hbx2
            go_wp2_with (first
              | (rw [← Hbx2.out]; refine sR rfl (hM.out.at 0 rfl) rfl ((rwC wz).len (rwC ch)) (rwC ch) ?_
                 replace hM := hid (hM.out.put 0 rfl (wl ch) ((rwC wz).len (rwC ch)))
                 generalize World.setCells _ _ _ _ = W at hM ⊢))
            go_loopg [82] (l.length - r) (fun gg s82 wt => ∃ j : Nat, j ≤ l.length - r ∧ l.length - r - j ≤ gg ∧ s82 = .int .i64 j ∧ Hid (Ms n w wt [(bx2, wl (oi (kd : Nat) (qof l) (r + j))), (bx1, wl ci), (g, dds l), (bc, wl ci)] []))
            case atStart => exact ⟨0, by omega, by omega, rfl, by rw [Nat.add_zero, ← HCH.out]; exact hM⟩
            case round =>
              clear hM
              obtain ⟨j, hj, hgg, rfl, hM⟩ := hrel
              obtain ⟨W, rfl⟩ : ∃ q, q = wr := ⟨_, rfl⟩
              obtain ⟨cj, hcj⟩ : ∃ c, c = oi (kd : Nat) (qof l) (r + j) := ⟨_, rfl⟩
              rw [← hcj] at hM
              by_cases hlt : j < l.length - r
              · have hj2 : (j : Int) < ((l.length - r : Nat) : Int) := by omega
                have hj0 : (0 : Int) ≤ (j : Int) := by omega
                have hj1 : (j : Int) < (l.length : Int) - (r : Int) := by omega
                obtain ⟨⟨t, o, k, x, cc, y⟩, hq⟩ : ∃ d, qof l (r + j) = d := ⟨_, rfl⟩
                have hrow := (hM.out.at 2 rfl).deeds (i := r + j) (by omega)
                rw [hq, show (r + j) * 6 = r * 6 + j * 6 by omega] at hrow
                have RA : Hid (W.rangeAt g (r * 6 + j * 6) (dl t o k x cc y)) := hrow
                clear hrow
                have OKJ := (Ok1.at hq).1 (OK.out (r + j) (by omega))
                obtain ⟨cn, hcn⟩ : ∃ c, c = oi (kd : Nat) (qof l) (r + j + 1) := ⟨_, rfl⟩
                have HCN : Hid _ := hcn
                have OB : isOb (kd : Nat) cj := by rw [hcj]; exact oi_ob (by have := K16.out; omega) (by have := K16.out; omega) _ fun i hi => OK.out i (by omega)
                have DO : Hid (∀ w : World, Calls Tryd.prog 15 #[.int .i64 (kd : Nat), .agg (wl cj).toArray, .agg #[.int .i64 o, .int .i64 k, .int .i64 x]] w (DidD w cn cc y)) := fun w => by
                  have h := obDo_is (kind := (kd : Nat)) OB OKJ.1 w
                  rw [hcj, OKJ.2.1, OKJ.2.2, ← oi_at hq, ← hcj, ← hcn] at h
                  exact h
                clear OKJ hcn hcj hq OB
                obtain ⟨bd, hbd⟩ : ∃ q, q = W.heap.size := ⟨_, rfl⟩
                have HBD : Hid _ := hbd
                clear hbd
                go_wp2_with (first
                  | (refine lO rfl RA.out rfl (rwD t o k x cc y) ?_)
                  | (rw [← HBD.out]
                     replace hM := hid (hM.out.born [.int .i64 0, .int .i64 0, .int .i64 0, .int .i64 0, .int .i64 0, .int .i64 0] 53 HBD.out)
                     refine sR rfl (hM.out.at 0 rfl) rfl ((rwD 0 0 0 0 0 0).len (rwD t o k x cc y)) (rwD t o k x cc y) ?_
                     replace hM := hid (hM.out.put 0 rfl (dl t o k x cc y) ((rwD 0 0 0 0 0 0).len (rwD t o k x cc y)))
                     generalize World.setCells _ _ _ _ = W at hM ⊢
                     have c3 := hM.out.cell 0 1 rfl rfl
                     have c4 := hM.out.cell 0 2 rfl rfl
                     have c5 := hM.out.cell 0 3 rfl rfl)
                  | (refine lR rfl (hM.out.at 1 rfl) rfl (rwC cj) ?_))
                refine (DO.out _).mono ?_
                rintro e W ⟨rfl, hb⟩
                replace hM := hid (hM.out.later hb)
                clear hb
                clear c3 c4 c5
                obtain ⟨bx6, hbx6⟩ : ∃ q, q = W.heap.size := ⟨_, rfl⟩
                replace hM := hid ((hM.out.bornR wz_all.symm 31 (b := bx6) hbx6).born [.int .i64 0, .int .i64 0] 49 (b := (bx6 + 1)) (by simp [hbx6]))
                have Hbx6 : Hid _ := hbx6
                clear hbx6
                go_wp2_with (first
                  | (rw [← Hbx6.out]; refine sR rfl (hM.out.at 1 rfl) rfl ((rwC wz).len (rwC cn)) (rwC cn) ?_
                     replace hM := hid (hM.out.put 1 rfl (wl cn) ((rwC wz).len (rwC cn)))
                     generalize World.setCells _ _ _ _ = W at hM ⊢)
                  | (refine sR rfl (hM.out.at 0 rfl) rfl ((rwA 0 0).len (rwA cc y)) (rwA cc y) ?_
                     replace hM := hid (hM.out.put 0 rfl [.int .i64 cc, .int .i64 y] ((rwA 0 0).len (rwA cc y)))
                     generalize World.setCells _ _ _ _ = W at hM ⊢
                     have c7 := hM.out.cell 0 0 rfl rfl
                     have c8 := hM.out.cell 0 1 rfl rfl
                     have c9 := hM.out.cell 2 4 rfl rfl
                     have c10 := hM.out.cell 2 5 rfl rfl)
                  | (refine lR rfl (hM.out.at 1 rfl) rfl (rwC cn) ?_)
                  | (refine sR rfl (hM.out.at 3 rfl) rfl ((rwC cj).len (rwC cn)) (rwC cn) ?_
                     replace hM := hid (hM.out.put 3 rfl (wl cn) ((rwC cj).len (rwC cn)))
                     generalize World.setCells _ _ _ _ = W at hM ⊢))
                clear c7 c8 c9 c10
                go_roundg (l.length - r - (j + 1))
                case measure => omega
                case rel => exact ⟨j + 1, by omega, by omega, by have := HR.out; have hw : wrap64 ((j : Int) + 1) = ((j + 1 : Nat) : Int) := (by unfold wrap64; omega); rw [hw], by rw [← Nat.add_assoc, ← HCN.out]; exact hM.out.pick [3, 4, 5, 6]⟩
              · obtain rfl : j = l.length - r := by omega
                have e5 : r + (l.length - r) = l.length := by have := HR.out; omega
                have hcc : cj = ci := by rw [hcj, HCI.out, e5]
                subst hcc
                have hj2 : ¬ ((l.length - r : Nat) : Int) < (l.length : Int) - (r : Int) := by have := HR.out; omega
                clear hcj e5
                have EE := cells_equal cj
                go_wp2_with (first
                  | (refine lW rfl (hM.out.at 1 rfl) rfl (rwC cj) ?_)
                  | (refine lW rfl (hM.out.at 3 rfl) rfl (rwC cj) ?_)
                  | (refine lW rfl (hM.out.at 0 rfl) rfl (rwC cj) ?_))
                go_ret
                exact ⟨rfl, hM.out.below⟩


set_option maxRecDepth 100000 in
theorem lifted (os : Os) (started : os.Started) (H : Type) (enc : TypeId × Value → H) :
    ReturnsInHanded {} Tryd.checked os 5 .any (fun w args => (Rows.judgeJoinsSpec.pre enc Tryd.prog Tryd.f5 [] false w args ∧ laidMetH Tryd.prog laidHandle w) ∧ sizedMet enc Tryd.prog Tryd.f5 (OpenSpec.ofChange Rows.judgeJoinsSpec) false w args)
      (Rows.judgeJoinsSpec.post enc Tryd.prog Tryd.f5 false true false false) := by
  refine returnsInHanded_of_change_and (C := Tryd.checked) (X := fun w _ => laidMetH Tryd.prog laidHandle w) (fun _ _ _ hh h => h.of_heap hh) own started (by kernel_rfl) Tryd.func5
    (ChangeSpec.witness_shaped (enc := enc) (C := Tryd.checked) (os := os) (X := fun w _ => laidMetH Tryd.prog laidHandle w) false (World.doorLaid Tryd.prog 400 os) #[.int .i64 0, .slice none 0 0, .int .i64 0] 8 rfl (World.shaped_of_RefB (by kernel_rfl) (by kernel_rfl)) (by kernel_rfl) (by kernel_rfl) (by kernel_rfl) (door_handle os _)) ?_
  intro W base args ds gs before hval0 hW _ _ hL _
  have hval : ∀ (j : Nat) t v, Tryd.f5.params[j]? = some t → args[j]? = some v → Value.okWide Tryd.prog W .any base t v := hval0
  have hW' := hW
  obtain ⟨p, q, hA0, hV, rfl, hfz, hnd⟩ := hW
  have hA : DataW.TrodAll enc Tryd.prog W 0 (fun _ => true) true Tryd.f5.params.toList args.toList ds p := hA0
  rw [Tryd.params5] at hA hval
  obtain ⟨v0, vs0, d0, ds0, p0, q0, hargs, rfl, rfl, h0, r0⟩ := trodAll_cons hA
  obtain ⟨v1, vs1, d1, ds1, p1, q1, rfl, rfl, rfl, h1, r1⟩ := trodAll_cons r0
  obtain ⟨v2, vs2, d2, ds2, p2, q2, rfl, rfl, rfl, h2, r2⟩ := trodAll_cons r1
  obtain ⟨rfl, rfl, rfl⟩ := trodAll_nil r2
  obtain rfl : args = #[v0, v1, v2] := by cases args; simp_all
  obtain ⟨rfl, rfl⟩ := trodVars_none hV
  obtain ⟨a0, rfl, rfl, rfl, w0⟩ := open_int Tryd.underlying3 (hval 0 3 v0 rfl rfl) h0
  obtain ⟨n1, D1⟩ := ops_of_trod (hval 1 43 v1 rfl rfl) h1
  obtain ⟨a2, rfl, rfl, rfl, w2⟩ := open_int Tryd.underlying3 (hval 2 3 v2 rfl rfl) h2
  have hT := handle_of_laid hL
  have hlt := hW'.lt
  clear hA0 hval0
  refine (walk a0 v1 n1 a2 w0 w2 W hT D1).mono fun e W' ⟨he, hg⟩ => ?_
  subst he
  exact ⟨_, rfl, post_below (pv := []) hW' (fun _ _ _ => (trodAll_cons_mk (shut_bool Tryd.underlying4 _) trodAll_mk0)) (fun sp hsp => (trodAll_cons_mk (shut_int Tryd.underlying3 w0) (trodAll_cons_mk (ops_stay h1 hg (fun x hx => hlt x (by simp [hx])) (fun x hx => hsp x (by simp [hx]))) (trodAll_cons_mk (shut_int Tryd.underlying3 w2) trodAll_mk0)))) (fun _ _ => rfl) (by simp) (hg.frame _)⟩

theorem over : Rows.JudgeJoinsSaid :=
  OpenClaim.holds_of_wide 5 Tryd.f5 rfl rfl rfl rfl rfl rfl rfl ⟨rfl, rfl, rfl, rfl, rfl⟩ rfl rfl rfl rfl rfl (by kernel_rfl) Tryd.func5 (by kernel_rfl)
    (of_decide_eq_true (by kernel_rfl)) (by unfold Func.isWrapper; first | (rw [if_pos (by decide +kernel)]; kernel_rfl) | (rw [if_neg (by decide +kernel)]; exact ⟨rfl, rfl⟩))
    (fun os started H enc _ => lifted os started H enc)

theorem proved : Rows.JudgeJoinsCardSaid :=
  Claim7.holds_tied_plain_at .later [] [.handle] true (true, "393dd0ee3179eace80c24e7cab550b860e25d86ef87c5343551562d36c5e0fff") true
    over (fun _ h => by cases h) (by kernel_rfl) (fun _ h => by cases h) judgeJoins_row_tie rfl ⟨rfl, rfl⟩ (by kernel_rfl) rfl
    (fun f fn hf hfn => by
      obtain rfl : f = 5 := Option.some.inj ((show Tryd.prog.funcNamed "gristmill/gristmillkeep.JudgeJoins" = some 5 by kernel_rfl).symm.trans hf) |>.symm
      obtain rfl : fn = Tryd.f5 := (Option.some.inj (Tryd.func5.symm.trans hfn)).symm
      exact ⟨by kernel_rfl, fun j t ht => by
        rw [Tryd.params5] at ht
        have hm : t ∈ [3, 43, 3] := by simpa using Array.mem_of_getElem? ht
        have hall : ([3, 43, 3].all fun u => !Tryd.prog.wantsStandIn u) = true := by kernel_rfl
        exact (show Tryd.prog.wantsStandIn t = false by simpa using List.all_eq_true.1 hall t hm)⟩)
    (by kernel_rfl)
#print axioms proved
end Go.Proofs.YtaipanjigindbaaDoor.Tab.judgeJoins
