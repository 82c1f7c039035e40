/- Texts laid together: Package judge: giveOpen, by its contracts; The library's Backward over a row of calls, and package judge's inOrder, by their contracts; Package judge's inOrder, by its contract; What is so of the deeds that calls have; the row of pointers, made (no walk). -/
import Derived.Test.YteogbpaaacmllabGreatDoorPk09
import Derived.Deep.DeepCutAuto
import Derived.Deep.RegionHeld3
import Derived.RangeFuncBox
import Derived.RangeFuncNested
import Derived.RangeFuncWrites
import Derived.RangeFuncLeaves
import Derived.Shelf.Abstract
import Derived.WalkKit
import Derived.OwnWalkIn
import Derived.TacticsInMore
import Derived.LoopNIn
import Derived.LoopIn
import Derived.RangeFuncCalls
import Derived.TacticsIn
import Derived.RegionIn
import Derived.Shelf.RegionOpen
namespace Go.Proofs.YteogbpaaacmllabGreatDoor.Tab
set_option maxRecDepth 20000
open Go.RowKit
set_option linter.unusedVariables false

set_option maxHeartbeats 16000000 in
theorem giveO_some {n0 : Nat} {w0 w : World} {L : List (Nat × List Value)} {bb g : Nat} {db doff vdc b off c n m cap : Nat} {h : Nat → EV} {q : Nat → DD} {cs : List CC} {bl0 : List (Option Nat)} {fin : BU} (hM : Ms n0 w0 w ((bb, byr g bl0) :: L) []) (Y : Ly n0 w0 L g (.slice (some ⟨g, 0, none⟩) cs.length cap) (.slice (some ⟨b, off, none⟩) n c) (.slice (some ⟨db, doff, none⟩) m vdc) cs n h m q) (hcs : (g, ccs cs) ∈ L) (hcap : cs.length ≤ cap) (hc : n ≤ c) (hdc : m ≤ vdc) (hbl : bl0.length = m) (hwt : ∀ i, i < m → (Lit.int .i64 (q i).t).wf = true) (hO : opnF h q cs bl0 m = .ok fin) :
    Calls Tryz.prog 41 #[.slice (some ⟨bb, 0, none⟩) m m, .slice (some ⟨g, 0, none⟩) cs.length cap, .slice (some ⟨b, off, none⟩) n c, .slice (some ⟨db, doff, none⟩) m vdc] w (Given n0 w0 L bb g fin.1) := by
  have HE : Hid _ := hid Y.ev.all
  have HD : Hid _ := hid Y.de
  have GG : Hid (GC h n cs) := Y.good
  have HC : Hid (n ≤ c ∧ n ≤ 1000000 ∧ m ≤ 1000000 ∧ cs.length ≤ n ∧ cs.length ≤ cap ∧ m ≤ vdc) := ⟨hc, Y.few.1, Y.few.2, Y.good.len, hcap, hdc⟩
  have CI : Hid _ := hcs
  have HF : Hid _ := hO
  have HWT : Hid _ := hwt
  have HBL : Hid _ := hbl
  clear hO hcs hcap hc hdc hwt hbl Y
  replace hM := hid (hM.bornM rfl)
  have hS : Hid (Imp (w.alloc (.map #[] 0)) w.heap.size 0 (mpf g (opn h (cs.take 0)))) := hid ((Imp.made w).congr fun t => rfl)
  have hmm := @run_makeMap Tryz.prog
  go_enter Tryz.func41, Tryz.ntmps41
  go_wp2_with fail
  clear hmm
  generalize w.heap.size = mb at hM hS ⊢
  generalize World.alloc _ _ = W at hM hS ⊢
  go_loopg [19] cs.length (fun gg s19 wt => ∃ i : Nat, i ≤ cs.length ∧ cs.length - i ≤ gg ∧ s19 = .int .i64 i ∧ Hid (Imp wt mb i (mpf g (opn h (cs.take i)))) ∧ Hid (Ms n0 w0 wt ((mb, []) :: (bb, byr g bl0) :: L) []))
  case atStart => exact ⟨0, by omega, by omega, rfl, hS, hM⟩
  case round =>
    clear hM hS
    obtain ⟨i, hi, hgg, rfl, hS, hM⟩ := hrel
    obtain ⟨W, rfl⟩ : ∃ q, q = wr := ⟨_, rfl⟩
    by_cases hlt : i < cs.length
    · have hi0 : (0 : Int) ≤ (i : Int) := by omega
      have hil : (i : Int) < (cs.length : Int) := by omega
      obtain ⟨⟨a, zz⟩, hk⟩ : ∃ c, cs[i]? = some c := ⟨cs[i]'(by omega), List.getElem?_eq_getElem (by omega)⟩
      have CK : Hid _ := ccs_get cs i _ hk
      have OT : Hid _ := opn_take GG.out hk
      have han : a < n := (GG.out.lt _ (List.mem_of_getElem? hk)).1
      have hzn : ∀ z, zz = some z → z < n := (GG.out.lt _ (List.mem_of_getElem? hk)).2
      have c0 := (hM.out.tail.tail.bo _ CI.out).cell (i * 2) _ CK.out.1
      have c1 := (hM.out.tail.tail.bo _ CI.out).cell (i * 2 + 1) _ CK.out.2
      cases zz with
      | some z =>
        replace c1 : W.cell? ⟨g, i * 2 + 1, none⟩ = some (.int .i64 (z : Nat)) := c1
        have z1 : ((z : Int) == 9223372036854775807) = false := beq_eq_false_iff_ne.2 (by have := HC.out; have := hzn z rfl; omega)
        replace hM := hid (hM.out.new (.cells #[.int .i64 (a : Nat), .int .i64 (z : Nat)] 121))
        replace hS := hid ((hS.out.new (.cells #[.int .i64 (a : Nat), .int .i64 (z : Nat)] 121)).mono (Nat.le_succ i))
        have MF : Hid (∀ t, mpf g (opn h (cs.take (i + 1))) t = mpf g (opn h (cs.take i)) t) := fun t => by unfold mpf; rw [OT.out t, if_neg (fun hh => by cases hh.1)]
        clear hk hzn
        go_wp2
        clear c0 c1
        go_roundg (cs.length - (i + 1))
        case measure => omega
        case rel => exact ⟨i + 1, by omega, by omega, by have := HC.out; have hw : wrap64 ((i : Int) + 1) = ((i + 1 : Nat) : Int) := (by unfold wrap64; omega); rw [hw], hid (hS.out.congr MF.out), hM⟩
      | none =>
        replace c1 : W.cell? ⟨g, i * 2 + 1, none⟩ = some (.int .i64 9223372036854775807) := c1
        obtain ⟨⟨kd, th, o, k, x, cc, y, wh, st⟩, he⟩ : ∃ e, h a = e := ⟨_, rfl⟩
        have HA : Hid (∀ W, Below w0.heap.size w0 W → W.rangeAt b (off + a * 9) (el kd th o k x cc y wh st)) := fun W hb => by have := (HE.out W hb a han).1; rw [he] at this; exact this
        have HW : Hid ((Lit.int .i64 th).wf = true) := by have := (HE.out W hM.out.below a han).2; rw [he] at this; exact this
        have MF : Hid (∀ t, mpf g (opn h (cs.take (i + 1))) t = if t = th then some (.pointer (some ⟨g, i * 2, none⟩)) else mpf g (opn h (cs.take i)) t) := fun t => by
          unfold mpf
          rw [OT.out t, he]
          by_cases e : t = th
          · rw [if_pos e, if_pos ⟨rfl, e.symm⟩]; rfl
          · rw [if_neg e, if_neg (fun hh => e hh.2.symm)]
        have ha0 : (0 : Int) ≤ (a : Int) := by omega
        have ha1 : (a : Int) < (n : Int) := by omega
        clear hk hzn he han
        obtain ⟨bc, hbc⟩ : ∃ q, q = W.heap.size := ⟨_, rfl⟩
        replace hS := hid (hS.out.new (.cells #[.int .i64 (a : Nat), .int .i64 9223372036854775807] 121))
        replace hM := hid (hM.out.born [.int .i64 (a : Nat), .int .i64 9223372036854775807] 121 hbc)
        have HBC : Hid _ := hbc
        clear hbc
        go_wp2_with fail
        clear c0 c1
        rw [← HBC.out]
        generalize World.alloc _ _ = W at hM hS ⊢
        replace hM := hid (hM.out.drew)
        replace hS := hid (hS.out.drew)
        refine wp_region_held_drew (S := fun w' => Bo w' bc [.int .i64 (a : Nat), .int .i64 9223372036854775807] ∧ w'.rangeAt b (off + a * 9) (el kd th o k x cc y wh st)) (by kernel_rfl) ⟨hM.out.at 0 rfl, HA.out _ hM.out.below⟩ (fun hH => ?_)
        generalize World.drew _ = W at hM hH hS ⊢
        refine tk 0 rfl hH ?_
        simp only [Act.put, p1, p2, p3]
        refine tk 1 rfl hH ?_
        simp only [Act.put, p1, p2, p3]
        refine tk 2 rfl hH ?_
        simp only [Act.put, p1, p2, p3]
        refine tk 3 rfl hH ?_ (by intro w h; have c0 := h.1.at 0 rfl; clear h; go_simp; try with_reducible rfl)
        simp only [Act.put, p1, p2, p3]
        refine tk 4 rfl hH ?_
        simp only [Act.put, p1, p2, p3]
        refine tk 5 rfl hH ?_
        simp only [Act.put, p1, p2, p3]
        refine tk 6 rfl hH ?_ (by intro w h; have c0 := h.2 1 _ rfl; clear h; go_simp; try with_reducible rfl)
        simp only [Act.put, p1, p2, p3]
        refine tk 7 rfl hH ?_
        simp only [Act.put, p1, p2, p3]
        refine tk 8 rfl hH ?_
        simp only [Act.put, p1, p2, p3]
        refine tk 9 rfl hH ?_
        simp only [Act.put, p1, p2, p3]
        refine rd1 10 rfl (fun K hK => ?_)
        obtain ⟨W, up, hS2, ht⟩ := hS.out.add mapp_desc (by have := HC.out; unfold maxLen; omega) HW.out (.pointer (some ⟨g, i * 2, none⟩))
        refine mpR (.tmp 27) (.tmp 33) (.tmp 36) _ rfl rfl rfl rfl up ?_
        replace hM := hid (hM.out.turned 1 rfl ht.grown (fun j => hS2.froz j))
        replace hS := hid hS2
        clear hS2 ht up
        refine hK.out _ _ ⟨hM.out.at 0 rfl, HA.out _ hM.out.below⟩ (fun hH => ?_)
        clear hK K
        try simp only [Act.put]
        refine wpAnyH_done (by kernel_rfl) ?_ _
        go_wp2
        go_roundg (cs.length - (i + 1))
        case measure => omega
        case rel => exact ⟨i + 1, by omega, by omega, by have := HC.out; have hw : wrap64 ((i : Int) + 1) = ((i + 1 : Nat) : Int) := (by unfold wrap64; omega); rw [hw], hid (hS.out.congr MF.out), hM.out.tail⟩
    · obtain rfl : i = cs.length := by omega
      have hil : ¬ (cs.length : Int) < (cs.length : Int) := by omega
      rw [List.take_length] at hS
      clear hi hlt hgg
      go_wp2_with fail
      go_loopg [40] m (fun gg s40 wt => ∃ (j : Nat) (s : BU), j ≤ m ∧ m - j ≤ gg ∧ s40 = .int .i64 j ∧ Hid (opnF h q cs bl0 j = .ok s) ∧ Hid (Imp wt mb cs.length (mpf g (opu h cs s.2))) ∧ Hid (Ms n0 w0 wt ((mb, []) :: (bb, byr g s.1) :: L) []))
      case atStart => exact ⟨0, (bl0, []), by omega, by omega, rfl, hid rfl, hid (hS.out.congr fun t => rfl), hM⟩
      case round =>
        clear hM hS
        obtain ⟨j, ⟨bl, us⟩, hj, hgg, rfl, OF, hS, hM⟩ := hrel
        obtain ⟨W, rfl⟩ : ∃ q, q = wr := ⟨_, rfl⟩
        replace hS : Hid (Imp W mb cs.length (mpf g (opu h cs us))) := hS
        replace hM : Hid (Ms n0 w0 W ((mb, []) :: (bb, byr g bl) :: L) []) := hM
        have HLN : Hid (bl.length = m) := (opnF_len OF.out).trans HBL.out
        by_cases hlt2 : j < m
        · have hj0 : (0 : Int) ≤ (j : Int) := by omega
          have hjl : (j : Int) < (m : Int) := by omega
          obtain ⟨⟨t, o, k, x, cc, y⟩, hq⟩ : ∃ d, q j = d := ⟨_, rfl⟩
          have hrow := HD.out.row W hM.out.below j (by omega)
          rw [hq] at hrow
          have RA : Hid (W.rangeAt db (doff + j * 6) (dl t o k x cc y)) := hrow
          clear hrow
          have HTW : Hid ((Lit.int .i64 t).wf = true) := by have := HWT.out j (by omega); rw [hq] at this; exact this
          have HJ : Hid (j < bl.length) := by have := HLN.out; exact (by omega : j < bl.length)
          obtain ⟨s2, hst, hof⟩ := opnF_next HF.out hlt2 OF.out
          have OF2 : Hid _ := hof
          clear hof
          rcases stepO_some HJ.out hst with ⟨xx, hx, hs2⟩ | ⟨kk, a, hx, hop, hk, heq, hs2⟩
          · subst hs2
            have HX : Hid _ := hx
            clear hst hx hq
            obtain ⟨bd, hbd⟩ : ∃ q, q = W.heap.size := ⟨_, rfl⟩
            have HBD : Hid _ := hbd
            clear hbd
            go_wp2_with (first
              | (refine lO rfl RA.out rfl (rwD t o k x cc y) ?_; clear RA)
              | (rw [← HBD.out]
                 replace hS := hid (hS.out.new (.cells [.int .i64 0, .int .i64 0, .int .i64 0, .int .i64 0, .int .i64 0, .int .i64 0].toArray 46))
                 replace hM := hid (hM.out.born [.int .i64 0, .int .i64 0, .int .i64 0, .int .i64 0, .int .i64 0, .int .i64 0] 46 HBD.out)
                 refine sR rfl (hM.out.at 0 rfl) rfl ((rwD 0 0 0 0 0 0).len (rwD t o k x cc y)) (rwD t o k x cc y) ?_
                 replace hS := hid (hS.out.asideL (hM.out.ne 1 0 rfl rfl (by decide)) 0 (dl t o k x cc y))
                 replace hM := hid (hM.out.put 0 rfl (dl t o k x cc y) ((rwD 0 0 0 0 0 0).len (rwD t o k x cc y)))
                 generalize World.setCells _ _ _ _ = W at hM hS ⊢
                 clear HBD
                 have cb : W.cell? ⟨bb, j, none⟩ = some (.pointer (some ⟨g, xx * 2, none⟩)) := hM.out.cell 2 j rfl (byr_get HX.out)))
            clear cb
            go_roundg (m - (j + 1))
            case measure => omega
            case rel => exact ⟨j + 1, (bl, us), by omega, by omega, by have := HC.out; have hw : wrap64 ((j : Int) + 1) = ((j + 1 : Nat) : Int) := (by unfold wrap64; omega); rw [hw], OF2, hS, hM.out.tail⟩
          · rw [hq] at hop heq hs2
            replace hop : opu h cs us t = some kk := hop
            replace heq : (h a).op = (o, k, x) := heq
            have HX : Hid _ := hx
            have DS : Hid (s2 = (bl.set j (some kk), t :: us)) := hs2
            have HOP : Hid _ := hop
            have CK : Hid _ := ccs_get cs kk _ hk
            have han : a < n := (GG.out.lt _ (List.mem_of_getElem? hk)).1
            have hkl : kk < cs.length := (List.getElem?_eq_some_iff.1 hk).1
            obtain ⟨⟨kd2, th2, o2, k2, x2, cc2, y2, wh2, st2⟩, he2⟩ : ∃ e, h a = e := ⟨_, rfl⟩
            rw [he2] at heq
            have HA : Hid (∀ W, Below w0.heap.size w0 W → W.rangeAt b (off + a * 9) (el kd2 th2 o2 k2 x2 cc2 y2 wh2 st2)) := fun W hb => by have := (HE.out W hb a han).1; rw [he2] at this; exact this
            have EQ := fun w => op_eq o2 k2 x2 o k x true ⟨fun _ => heq, fun _ => rfl⟩ w
            have ha0 : (0 : Int) ≤ (a : Int) := by omega
            have ha1 : (a : Int) < (n : Int) := by omega
            have hk0 : (0 : Int) ≤ (kk : Int) := by omega
            have hk1 : (kk : Int) < (cs.length : Int) := by omega
            have MF : Hid (∀ r, mpf g (opu h cs (t :: us)) r = if r = t then none else mpf g (opu h cs us) r) := fun r => by
              unfold mpf opu
              by_cases e : r = t
              · rw [if_pos e, if_pos (by rw [e]; exact List.mem_cons_self)]; rfl
              · rw [if_neg e]
                by_cases e2 : r ∈ us
                · rw [if_pos e2, if_pos (List.mem_cons_of_mem _ e2)]
                · rw [if_neg e2, if_neg (fun hh => (List.mem_cons.1 hh).elim e e2)]
            clear hst hx hq hop hk heq hs2 han hkl he2
            obtain ⟨bd, hbd⟩ : ∃ q, q = W.heap.size := ⟨_, rfl⟩
            have HBD : Hid _ := hbd
            clear hbd
            go_wp2_with (first
              | (refine lO rfl RA.out rfl (rwD t o k x cc y) ?_; clear RA)
              | (rw [← HBD.out]
                 replace hS := hid (hS.out.new (.cells [.int .i64 0, .int .i64 0, .int .i64 0, .int .i64 0, .int .i64 0, .int .i64 0].toArray 46))
                 replace hM := hid (hM.out.born [.int .i64 0, .int .i64 0, .int .i64 0, .int .i64 0, .int .i64 0, .int .i64 0] 46 HBD.out)
                 refine sR rfl (hM.out.at 0 rfl) rfl ((rwD 0 0 0 0 0 0).len (rwD t o k x cc y)) (rwD t o k x cc y) ?_
                 replace hS := hid (hS.out.asideL (hM.out.ne 1 0 rfl rfl (by decide)) 0 (dl t o k x cc y))
                 replace hM := hid (hM.out.put 0 rfl (dl t o k x cc y) ((rwD 0 0 0 0 0 0).len (rwD t o k x cc y)))
                 generalize World.setCells _ _ _ _ = W at hM hS ⊢
                 clear HBD
                 have cb : W.cell? ⟨bb, j, none⟩ = some (.pointer none) := hM.out.cell 2 j rfl (byr_get HX.out)
                 have LK : Hid _ := hS.out.look mapp_desc zero_ptr HTW.out (mpf_some HOP.out)
                 have c1 := hM.out.cell 0 0 rfl rfl)
              | (at_lookup
                 refine wpList_look rfl _ _ _ rfl rfl rfl LK.out ?_))
            clear c1
            clear cb
            replace hM := hid (hM.out.drew)
            replace hS := hid (hS.out.drew)
            refine wp_region_held_drew (S := fun w' => Bo w' bd (dl t o k x cc y) ∧ Bo w' g (ccs cs) ∧ w'.rangeAt b (off + a * 9) (el kd2 th2 o2 k2 x2 cc2 y2 wh2 st2)) (by kernel_rfl) ⟨hM.out.at 0 rfl, hM.out.tail.tail.tail.bo _ CI.out, HA.out _ hM.out.below⟩ (fun hH => ?_)
            generalize World.drew _ = W at hM hH hS ⊢
            refine tk 0 rfl hH ?_
            simp only [Act.put, p1, p2, p3]
            refine tk 1 rfl hH ?_
            simp only [Act.put, p1, p2, p3]
            refine tk 2 rfl hH ?_
            simp only [Act.put, p1, p2, p3]
            refine tk 3 rfl hH ?_
            simp only [Act.put, p1, p2, p3]
            refine tk 4 rfl hH ?_
            simp only [Act.put, p1, p2, p3]
            refine tk 5 rfl hH ?_
            simp only [Act.put, p1, p2, p3]
            refine tk 6 rfl hH ?_
            simp only [Act.put, p1, p2, p3]
            refine tk 7 rfl hH ?_ (by intro w h; have c0 := h.2.1.cell (kk * 2) _ CK.out.1; clear h; go_simp; try with_reducible rfl)
            simp only [Act.put, p1, p2, p3]
            refine tk 8 rfl hH ?_
            simp only [Act.put, p1, p2, p3]
            refine tk 9 rfl hH ?_
            simp only [Act.put, p1, p2, p3]
            refine tk 10 rfl hH ?_ (by intro w h; have c0 := h.2.2 2 _ rfl; have c1 := h.2.2 3 _ rfl; have c2 := h.2.2 4 _ rfl; clear h; go_simp; try with_reducible rfl)
            simp only [Act.put, p1, p2, p3]
            refine tk 11 rfl hH ?_
            simp only [Act.put, p1, p2, p3]
            refine tk 12 rfl hH ?_ (by intro w h; have c0 := h.1.at 1 rfl; have c1 := h.1.at 2 rfl; have c2 := h.1.at 3 rfl; clear h; go_simp; try with_reducible rfl)
            simp only [Act.put, p1, p2, p3]
            refine tk 13 rfl hH ?_
            simp only [Act.put, p1, p2, p3]
            refine tk 14 rfl hH ?_
            simp only [Act.put, p1, p2, p3]
            refine wpAnyH_done (by kernel_rfl) ?_ _
            obtain ⟨W2, dl, hS2, ht⟩ := hS.out.del mapp_desc HTW.out 0
            have hS3 : Hid _ := hid (hS2.congr MF.out)
            have hM3 : Hid _ := hid (hM.out.turned 1 rfl ht.grown (fun j => hS2.froz j))
            have DL : Hid _ := dl
            clear hS2 ht dl
            have c2 := hM.out.cell 0 0 rfl rfl
            have cb : W2.cell? ⟨bb, j, none⟩ = some (.pointer none) := hM3.out.cell 2 j rfl (byr_get HX.out)
            have fb := hM3.out.froz 2 j rfl
            go_wp2_with (first
              | (at_delete
                 refine wpList_del rfl _ _ _ _ rfl rfl rfl DL.out ?_))
            clear c2
            clear cb fb
            rw [DS.out] at OF2
            have hM4 : Hid (Ms n0 w0 (W2.setCell ⟨bb, j, none⟩ (.pointer (some ⟨g, kk * 2, none⟩))) ((bd, (dl t o k x cc y)) :: (mb, []) :: (bb, byr g (bl.set j (some kk))) :: L) []) := hid (hM3.out.put1 2 j rfl (.pointer (some ⟨g, kk * 2, none⟩)) (byr g (bl.set j (some kk))) (by rw [byr_length]; exact HJ.out) (byr_set g bl j kk))
            have hS4 : Hid _ := hid (hS3.out.aside1 (c := bb) (j := j) (hM3.out.ne 1 2 rfl rfl (by decide)) (.pointer (some ⟨g, kk * 2, none⟩)))
            go_roundg (m - (j + 1))
            case measure => omega
            case rel => exact ⟨j + 1, (bl.set j (some kk), t :: us), by omega, by omega, by have := HC.out; have hw : wrap64 ((j : Int) + 1) = ((j + 1 : Nat) : Int) := (by unfold wrap64; omega); rw [hw], OF2, hS4, hM4.out.tail⟩
        · obtain rfl : j = m := by omega
          have hjl : ¬ (j : Int) < (j : Int) := by omega
          obtain rfl : fin = (bl, us) := by have h := HF.out.symm.trans OF.out; injection h
          go_wp2
          go_ret
          exact ⟨rfl, hM.out.tail⟩
set_option maxHeartbeats 16000000 in
theorem giveO_bad {n0 : Nat} {w0 w : World} {L : List (Nat × List Value)} {bb g : Nat} {db doff vdc b off c n m cap : Nat} {h : Nat → EV} {q : Nat → DD} {cs : List CC} {bl0 : List (Option Nat)} {fin : BU} {kb : Nat} {er : Int} (hM : Ms n0 w0 w ((bb, byr g bl0) :: L) []) (Y : Ly n0 w0 L g (.slice (some ⟨g, 0, none⟩) cs.length cap) (.slice (some ⟨b, off, none⟩) n c) (.slice (some ⟨db, doff, none⟩) m vdc) cs n h m q) (hcs : (g, ccs cs) ∈ L) (hcap : cs.length ≤ cap) (hc : n ≤ c) (hdc : m ≤ vdc) (hbl : bl0.length = m) (hwt : ∀ i, i < m → (Lit.int .i64 (q i).t).wf = true) (hk : kb < m) (hO : opnF h q cs bl0 kb = .ok fin) (hB : stepO h q cs kb fin = .error er) :
    Calls Tryz.prog 41 #[.slice (some ⟨bb, 0, none⟩) m m, .slice (some ⟨g, 0, none⟩) cs.length cap, .slice (some ⟨b, off, none⟩) n c, .slice (some ⟨db, doff, none⟩) m vdc] w (Refused n0 w0 L bb g er) := by
  have HE : Hid _ := hid Y.ev.all
  have HD : Hid _ := hid Y.de
  have GG : Hid (GC h n cs) := Y.good
  have HC : Hid (n ≤ c ∧ n ≤ 1000000 ∧ m ≤ 1000000 ∧ cs.length ≤ n ∧ cs.length ≤ cap ∧ m ≤ vdc) := ⟨hc, Y.few.1, Y.few.2, Y.good.len, hcap, hdc⟩
  have CI : Hid _ := hcs
  have HF : Hid _ := hO
  have HWT : Hid _ := hwt
  have HBL : Hid _ := hbl
  have HB : Hid _ := hB
  have HK2 : Hid _ := hk
  clear hO hcs hcap hc hdc hwt hbl Y hB hk
  replace hM := hid (hM.bornM rfl)
  have hS : Hid (Imp (w.alloc (.map #[] 0)) w.heap.size 0 (mpf g (opn h (cs.take 0)))) := hid ((Imp.made w).congr fun t => rfl)
  have hmm := @run_makeMap Tryz.prog
  go_enter Tryz.func41, Tryz.ntmps41
  go_wp2_with fail
  clear hmm
  generalize w.heap.size = mb at hM hS ⊢
  generalize World.alloc _ _ = W at hM hS ⊢
  go_loopg [19] cs.length (fun gg s19 wt => ∃ i : Nat, i ≤ cs.length ∧ cs.length - i ≤ gg ∧ s19 = .int .i64 i ∧ Hid (Imp wt mb i (mpf g (opn h (cs.take i)))) ∧ Hid (Ms n0 w0 wt ((mb, []) :: (bb, byr g bl0) :: L) []))
  case atStart => exact ⟨0, by omega, by omega, rfl, hS, hM⟩
  case round =>
    clear hM hS
    obtain ⟨i, hi, hgg, rfl, hS, hM⟩ := hrel
    obtain ⟨W, rfl⟩ : ∃ q, q = wr := ⟨_, rfl⟩
    by_cases hlt : i < cs.length
    · have hi0 : (0 : Int) ≤ (i : Int) := by omega
      have hil : (i : Int) < (cs.length : Int) := by omega
      obtain ⟨⟨a, zz⟩, hk⟩ : ∃ c, cs[i]? = some c := ⟨cs[i]'(by omega), List.getElem?_eq_getElem (by omega)⟩
      have CK : Hid _ := ccs_get cs i _ hk
      have OT : Hid _ := opn_take GG.out hk
      have han : a < n := (GG.out.lt _ (List.mem_of_getElem? hk)).1
      have hzn : ∀ z, zz = some z → z < n := (GG.out.lt _ (List.mem_of_getElem? hk)).2
      have c0 := (hM.out.tail.tail.bo _ CI.out).cell (i * 2) _ CK.out.1
      have c1 := (hM.out.tail.tail.bo _ CI.out).cell (i * 2 + 1) _ CK.out.2
      cases zz with
      | some z =>
        replace c1 : W.cell? ⟨g, i * 2 + 1, none⟩ = some (.int .i64 (z : Nat)) := c1
        have z1 : ((z : Int) == 9223372036854775807) = false := beq_eq_false_iff_ne.2 (by have := HC.out; have := hzn z rfl; omega)
        replace hM := hid (hM.out.new (.cells #[.int .i64 (a : Nat), .int .i64 (z : Nat)] 121))
        replace hS := hid ((hS.out.new (.cells #[.int .i64 (a : Nat), .int .i64 (z : Nat)] 121)).mono (Nat.le_succ i))
        have MF : Hid (∀ t, mpf g (opn h (cs.take (i + 1))) t = mpf g (opn h (cs.take i)) t) := fun t => by unfold mpf; rw [OT.out t, if_neg (fun hh => by cases hh.1)]
        clear hk hzn
        go_wp2
        clear c0 c1
        go_roundg (cs.length - (i + 1))
        case measure => omega
        case rel => exact ⟨i + 1, by omega, by omega, by have := HC.out; have hw : wrap64 ((i : Int) + 1) = ((i + 1 : Nat) : Int) := (by unfold wrap64; omega); rw [hw], hid (hS.out.congr MF.out), hM⟩
      | none =>
        replace c1 : W.cell? ⟨g, i * 2 + 1, none⟩ = some (.int .i64 9223372036854775807) := c1
        obtain ⟨⟨kd, th, o, k, x, cc, y, wh, st⟩, he⟩ : ∃ e, h a = e := ⟨_, rfl⟩
        have HA : Hid (∀ W, Below w0.heap.size w0 W → W.rangeAt b (off + a * 9) (el kd th o k x cc y wh st)) := fun W hb => by have := (HE.out W hb a han).1; rw [he] at this; exact this
        have HW : Hid ((Lit.int .i64 th).wf = true) := by have := (HE.out W hM.out.below a han).2; rw [he] at this; exact this
        have MF : Hid (∀ t, mpf g (opn h (cs.take (i + 1))) t = if t = th then some (.pointer (some ⟨g, i * 2, none⟩)) else mpf g (opn h (cs.take i)) t) := fun t => by
          unfold mpf
          rw [OT.out t, he]
          by_cases e : t = th
          · rw [if_pos e, if_pos ⟨rfl, e.symm⟩]; rfl
          · rw [if_neg e, if_neg (fun hh => e hh.2.symm)]
        have ha0 : (0 : Int) ≤ (a : Int) := by omega
        have ha1 : (a : Int) < (n : Int) := by omega
        clear hk hzn he han
        obtain ⟨bc, hbc⟩ : ∃ q, q = W.heap.size := ⟨_, rfl⟩
        replace hS := hid (hS.out.new (.cells #[.int .i64 (a : Nat), .int .i64 9223372036854775807] 121))
        replace hM := hid (hM.out.born [.int .i64 (a : Nat), .int .i64 9223372036854775807] 121 hbc)
        have HBC : Hid _ := hbc
        clear hbc
        go_wp2_with fail
        clear c0 c1
        rw [← HBC.out]
        generalize World.alloc _ _ = W at hM hS ⊢
        replace hM := hid (hM.out.drew)
        replace hS := hid (hS.out.drew)
        refine wp_region_held_drew (S := fun w' => Bo w' bc [.int .i64 (a : Nat), .int .i64 9223372036854775807] ∧ w'.rangeAt b (off + a * 9) (el kd th o k x cc y wh st)) (by kernel_rfl) ⟨hM.out.at 0 rfl, HA.out _ hM.out.below⟩ (fun hH => ?_)
        generalize World.drew _ = W at hM hH hS ⊢
        refine tk 0 rfl hH ?_
        simp only [Act.put, p1, p2, p3]
        refine tk 1 rfl hH ?_
        simp only [Act.put, p1, p2, p3]
        refine tk 2 rfl hH ?_
        simp only [Act.put, p1, p2, p3]
        refine tk 3 rfl hH ?_ (by intro w h; have c0 := h.1.at 0 rfl; clear h; go_simp; try with_reducible rfl)
        simp only [Act.put, p1, p2, p3]
        refine tk 4 rfl hH ?_
        simp only [Act.put, p1, p2, p3]
        refine tk 5 rfl hH ?_
        simp only [Act.put, p1, p2, p3]
        refine tk 6 rfl hH ?_ (by intro w h; have c0 := h.2 1 _ rfl; clear h; go_simp; try with_reducible rfl)
        simp only [Act.put, p1, p2, p3]
        refine tk 7 rfl hH ?_
        simp only [Act.put, p1, p2, p3]
        refine tk 8 rfl hH ?_
        simp only [Act.put, p1, p2, p3]
        refine tk 9 rfl hH ?_
        simp only [Act.put, p1, p2, p3]
        refine rd1 10 rfl (fun K hK => ?_)
        obtain ⟨W, up, hS2, ht⟩ := hS.out.add mapp_desc (by have := HC.out; unfold maxLen; omega) HW.out (.pointer (some ⟨g, i * 2, none⟩))
        refine mpR (.tmp 27) (.tmp 33) (.tmp 36) _ rfl rfl rfl rfl up ?_
        replace hM := hid (hM.out.turned 1 rfl ht.grown (fun j => hS2.froz j))
        replace hS := hid hS2
        clear hS2 ht up
        refine hK.out _ _ ⟨hM.out.at 0 rfl, HA.out _ hM.out.below⟩ (fun hH => ?_)
        clear hK K
        try simp only [Act.put]
        refine wpAnyH_done (by kernel_rfl) ?_ _
        go_wp2
        go_roundg (cs.length - (i + 1))
        case measure => omega
        case rel => exact ⟨i + 1, by omega, by omega, by have := HC.out; have hw : wrap64 ((i : Int) + 1) = ((i + 1 : Nat) : Int) := (by unfold wrap64; omega); rw [hw], hid (hS.out.congr MF.out), hM.out.tail⟩
    · obtain rfl : i = cs.length := by omega
      have hil : ¬ (cs.length : Int) < (cs.length : Int) := by omega
      rw [List.take_length] at hS
      clear hi hlt hgg
      go_wp2_with fail
      go_loopg [40] kb (fun gg s40 wt => ∃ (j : Nat) (s : BU), j ≤ kb ∧ kb - j ≤ gg ∧ s40 = .int .i64 j ∧ Hid (opnF h q cs bl0 j = .ok s) ∧ Hid (Imp wt mb cs.length (mpf g (opu h cs s.2))) ∧ Hid (Ms n0 w0 wt ((mb, []) :: (bb, byr g s.1) :: L) []))
      case atStart => exact ⟨0, (bl0, []), by omega, by omega, rfl, hid rfl, hid (hS.out.congr fun t => rfl), hM⟩
      case round =>
        clear hM hS
        obtain ⟨j, ⟨bl, us⟩, hj, hgg, rfl, OF, hS, hM⟩ := hrel
        obtain ⟨W, rfl⟩ : ∃ q, q = wr := ⟨_, rfl⟩
        replace hS : Hid (Imp W mb cs.length (mpf g (opu h cs us))) := hS
        replace hM : Hid (Ms n0 w0 W ((mb, []) :: (bb, byr g bl) :: L) []) := hM
        have HLN : Hid (bl.length = m) := (opnF_len OF.out).trans HBL.out
        by_cases hlt2 : j < kb
        · have hjm2 := HK2.out
          have hj0 : (0 : Int) ≤ (j : Int) := by omega
          have hjl : (j : Int) < (m : Int) := by omega
          obtain ⟨⟨t, o, k, x, cc, y⟩, hq⟩ : ∃ d, q j = d := ⟨_, rfl⟩
          have hrow := HD.out.row W hM.out.below j (by omega)
          rw [hq] at hrow
          have RA : Hid (W.rangeAt db (doff + j * 6) (dl t o k x cc y)) := hrow
          clear hrow
          have HTW : Hid ((Lit.int .i64 t).wf = true) := by have := HWT.out j (by omega); rw [hq] at this; exact this
          have HJ : Hid (j < bl.length) := by have := HLN.out; exact (by omega : j < bl.length)
          obtain ⟨s2, hst, hof⟩ := opnF_next HF.out hlt2 OF.out
          have OF2 : Hid _ := hof
          clear hof
          rcases stepO_some HJ.out hst with ⟨xx, hx, hs2⟩ | ⟨kk, a, hx, hop, hk, heq, hs2⟩
          · subst hs2
            have HX : Hid _ := hx
            clear hst hx hq
            obtain ⟨bd, hbd⟩ : ∃ q, q = W.heap.size := ⟨_, rfl⟩
            have HBD : Hid _ := hbd
            clear hbd
            go_wp2_with (first
              | (refine lO rfl RA.out rfl (rwD t o k x cc y) ?_; clear RA)
              | (rw [← HBD.out]
                 replace hS := hid (hS.out.new (.cells [.int .i64 0, .int .i64 0, .int .i64 0, .int .i64 0, .int .i64 0, .int .i64 0].toArray 46))
                 replace hM := hid (hM.out.born [.int .i64 0, .int .i64 0, .int .i64 0, .int .i64 0, .int .i64 0, .int .i64 0] 46 HBD.out)
                 refine sR rfl (hM.out.at 0 rfl) rfl ((rwD 0 0 0 0 0 0).len (rwD t o k x cc y)) (rwD t o k x cc y) ?_
                 replace hS := hid (hS.out.asideL (hM.out.ne 1 0 rfl rfl (by decide)) 0 (dl t o k x cc y))
                 replace hM := hid (hM.out.put 0 rfl (dl t o k x cc y) ((rwD 0 0 0 0 0 0).len (rwD t o k x cc y)))
                 generalize World.setCells _ _ _ _ = W at hM hS ⊢
                 clear HBD
                 have cb : W.cell? ⟨bb, j, none⟩ = some (.pointer (some ⟨g, xx * 2, none⟩)) := hM.out.cell 2 j rfl (byr_get HX.out)))
            clear cb
            go_roundg (kb - (j + 1))
            case measure => omega
            case rel => exact ⟨j + 1, (bl, us), by omega, by omega, by have := HC.out; have hw : wrap64 ((j : Int) + 1) = ((j + 1 : Nat) : Int) := (by unfold wrap64; omega); rw [hw], OF2, hS, hM.out.tail⟩
          · rw [hq] at hop heq hs2
            replace hop : opu h cs us t = some kk := hop
            replace heq : (h a).op = (o, k, x) := heq
            have HX : Hid _ := hx
            have DS : Hid (s2 = (bl.set j (some kk), t :: us)) := hs2
            have HOP : Hid _ := hop
            have CK : Hid _ := ccs_get cs kk _ hk
            have han : a < n := (GG.out.lt _ (List.mem_of_getElem? hk)).1
            have hkl : kk < cs.length := (List.getElem?_eq_some_iff.1 hk).1
            obtain ⟨⟨kd2, th2, o2, k2, x2, cc2, y2, wh2, st2⟩, he2⟩ : ∃ e, h a = e := ⟨_, rfl⟩
            rw [he2] at heq
            have HA : Hid (∀ W, Below w0.heap.size w0 W → W.rangeAt b (off + a * 9) (el kd2 th2 o2 k2 x2 cc2 y2 wh2 st2)) := fun W hb => by have := (HE.out W hb a han).1; rw [he2] at this; exact this
            have EQ := fun w => op_eq o2 k2 x2 o k x true ⟨fun _ => heq, fun _ => rfl⟩ w
            have ha0 : (0 : Int) ≤ (a : Int) := by omega
            have ha1 : (a : Int) < (n : Int) := by omega
            have hk0 : (0 : Int) ≤ (kk : Int) := by omega
            have hk1 : (kk : Int) < (cs.length : Int) := by omega
            have MF : Hid (∀ r, mpf g (opu h cs (t :: us)) r = if r = t then none else mpf g (opu h cs us) r) := fun r => by
              unfold mpf opu
              by_cases e : r = t
              · rw [if_pos e, if_pos (by rw [e]; exact List.mem_cons_self)]; rfl
              · rw [if_neg e]
                by_cases e2 : r ∈ us
                · rw [if_pos e2, if_pos (List.mem_cons_of_mem _ e2)]
                · rw [if_neg e2, if_neg (fun hh => (List.mem_cons.1 hh).elim e e2)]
            clear hst hx hq hop hk heq hs2 han hkl he2
            obtain ⟨bd, hbd⟩ : ∃ q, q = W.heap.size := ⟨_, rfl⟩
            have HBD : Hid _ := hbd
            clear hbd
            go_wp2_with (first
              | (refine lO rfl RA.out rfl (rwD t o k x cc y) ?_; clear RA)
              | (rw [← HBD.out]
                 replace hS := hid (hS.out.new (.cells [.int .i64 0, .int .i64 0, .int .i64 0, .int .i64 0, .int .i64 0, .int .i64 0].toArray 46))
                 replace hM := hid (hM.out.born [.int .i64 0, .int .i64 0, .int .i64 0, .int .i64 0, .int .i64 0, .int .i64 0] 46 HBD.out)
                 refine sR rfl (hM.out.at 0 rfl) rfl ((rwD 0 0 0 0 0 0).len (rwD t o k x cc y)) (rwD t o k x cc y) ?_
                 replace hS := hid (hS.out.asideL (hM.out.ne 1 0 rfl rfl (by decide)) 0 (dl t o k x cc y))
                 replace hM := hid (hM.out.put 0 rfl (dl t o k x cc y) ((rwD 0 0 0 0 0 0).len (rwD t o k x cc y)))
                 generalize World.setCells _ _ _ _ = W at hM hS ⊢
                 clear HBD
                 have cb : W.cell? ⟨bb, j, none⟩ = some (.pointer none) := hM.out.cell 2 j rfl (byr_get HX.out)
                 have LK : Hid _ := hS.out.look mapp_desc zero_ptr HTW.out (mpf_some HOP.out)
                 have c1 := hM.out.cell 0 0 rfl rfl)
              | (at_lookup
                 refine wpList_look rfl _ _ _ rfl rfl rfl LK.out ?_))
            clear c1
            clear cb
            replace hM := hid (hM.out.drew)
            replace hS := hid (hS.out.drew)
            refine wp_region_held_drew (S := fun w' => Bo w' bd (dl t o k x cc y) ∧ Bo w' g (ccs cs) ∧ w'.rangeAt b (off + a * 9) (el kd2 th2 o2 k2 x2 cc2 y2 wh2 st2)) (by kernel_rfl) ⟨hM.out.at 0 rfl, hM.out.tail.tail.tail.bo _ CI.out, HA.out _ hM.out.below⟩ (fun hH => ?_)
            generalize World.drew _ = W at hM hH hS ⊢
            refine tk 0 rfl hH ?_
            simp only [Act.put, p1, p2, p3]
            refine tk 1 rfl hH ?_
            simp only [Act.put, p1, p2, p3]
            refine tk 2 rfl hH ?_
            simp only [Act.put, p1, p2, p3]
            refine tk 3 rfl hH ?_
            simp only [Act.put, p1, p2, p3]
            refine tk 4 rfl hH ?_
            simp only [Act.put, p1, p2, p3]
            refine tk 5 rfl hH ?_
            simp only [Act.put, p1, p2, p3]
            refine tk 6 rfl hH ?_
            simp only [Act.put, p1, p2, p3]
            refine tk 7 rfl hH ?_ (by intro w h; have c0 := h.2.1.cell (kk * 2) _ CK.out.1; clear h; go_simp; try with_reducible rfl)
            simp only [Act.put, p1, p2, p3]
            refine tk 8 rfl hH ?_
            simp only [Act.put, p1, p2, p3]
            refine tk 9 rfl hH ?_
            simp only [Act.put, p1, p2, p3]
            refine tk 10 rfl hH ?_ (by intro w h; have c0 := h.2.2 2 _ rfl; have c1 := h.2.2 3 _ rfl; have c2 := h.2.2 4 _ rfl; clear h; go_simp; try with_reducible rfl)
            simp only [Act.put, p1, p2, p3]
            refine tk 11 rfl hH ?_
            simp only [Act.put, p1, p2, p3]
            refine tk 12 rfl hH ?_ (by intro w h; have c0 := h.1.at 1 rfl; have c1 := h.1.at 2 rfl; have c2 := h.1.at 3 rfl; clear h; go_simp; try with_reducible rfl)
            simp only [Act.put, p1, p2, p3]
            refine tk 13 rfl hH ?_
            simp only [Act.put, p1, p2, p3]
            refine tk 14 rfl hH ?_
            simp only [Act.put, p1, p2, p3]
            refine wpAnyH_done (by kernel_rfl) ?_ _
            obtain ⟨W2, dl, hS2, ht⟩ := hS.out.del mapp_desc HTW.out 0
            have hS3 : Hid _ := hid (hS2.congr MF.out)
            have hM3 : Hid _ := hid (hM.out.turned 1 rfl ht.grown (fun j => hS2.froz j))
            have DL : Hid _ := dl
            clear hS2 ht dl
            have c2 := hM.out.cell 0 0 rfl rfl
            have cb : W2.cell? ⟨bb, j, none⟩ = some (.pointer none) := hM3.out.cell 2 j rfl (byr_get HX.out)
            have fb := hM3.out.froz 2 j rfl
            go_wp2_with (first
              | (at_delete
                 refine wpList_del rfl _ _ _ _ rfl rfl rfl DL.out ?_))
            clear c2
            clear cb fb
            rw [DS.out] at OF2
            have hM4 : Hid (Ms n0 w0 (W2.setCell ⟨bb, j, none⟩ (.pointer (some ⟨g, kk * 2, none⟩))) ((bd, (dl t o k x cc y)) :: (mb, []) :: (bb, byr g (bl.set j (some kk))) :: L) []) := hid (hM3.out.put1 2 j rfl (.pointer (some ⟨g, kk * 2, none⟩)) (byr g (bl.set j (some kk))) (by rw [byr_length]; exact HJ.out) (byr_set g bl j kk))
            have hS4 : Hid _ := hid (hS3.out.aside1 (c := bb) (j := j) (hM3.out.ne 1 2 rfl rfl (by decide)) (.pointer (some ⟨g, kk * 2, none⟩)))
            go_roundg (kb - (j + 1))
            case measure => omega
            case rel => exact ⟨j + 1, (bl.set j (some kk), t :: us), by omega, by omega, by have := HC.out; have hw : wrap64 ((j : Int) + 1) = ((j + 1 : Nat) : Int) := (by unfold wrap64; omega); rw [hw], OF2, hS4, hM4.out.tail⟩
        · obtain rfl : j = kb := by omega
          obtain rfl : (bl, us) = fin := by have h := OF.out.symm.trans HF.out; injection h
          have hjm := HK2.out
          have hjm2 := HK2.out
          have hj0 : (0 : Int) ≤ (j : Int) := by omega
          have hjl : (j : Int) < (m : Int) := by omega
          obtain ⟨⟨t, o, k, x, cc, y⟩, hq⟩ : ∃ d, q j = d := ⟨_, rfl⟩
          have hrow := HD.out.row W hM.out.below j (by omega)
          rw [hq] at hrow
          have RA : Hid (W.rangeAt db (doff + j * 6) (dl t o k x cc y)) := hrow
          clear hrow
          have HTW : Hid ((Lit.int .i64 t).wf = true) := by have := HWT.out j (by omega); rw [hq] at this; exact this
          have HJ : Hid (j < bl.length) := by have := HLN.out; exact (by omega : j < bl.length)
          obtain ⟨rfl, hx, hor⟩ := stepO_err HJ.out HB.out
          rw [hq] at hor
          have HX : Hid _ := hx
          clear hx hq
          rcases hor with hop | ⟨kk, a, hop, hk, heq⟩
          · replace hop : opu h cs us t = none := hop
            have HOP : Hid _ := hop
            clear hop
            obtain ⟨bd, hbd⟩ : ∃ q, q = W.heap.size := ⟨_, rfl⟩
            have HBD : Hid _ := hbd
            clear hbd
            go_wp2_with (first
              | (refine lO rfl RA.out rfl (rwD t o k x cc y) ?_; clear RA)
              | (rw [← HBD.out]
                 replace hS := hid (hS.out.new (.cells [.int .i64 0, .int .i64 0, .int .i64 0, .int .i64 0, .int .i64 0, .int .i64 0].toArray 46))
                 replace hM := hid (hM.out.born [.int .i64 0, .int .i64 0, .int .i64 0, .int .i64 0, .int .i64 0, .int .i64 0] 46 HBD.out)
                 refine sR rfl (hM.out.at 0 rfl) rfl ((rwD 0 0 0 0 0 0).len (rwD t o k x cc y)) (rwD t o k x cc y) ?_
                 replace hS := hid (hS.out.asideL (hM.out.ne 1 0 rfl rfl (by decide)) 0 (dl t o k x cc y))
                 replace hM := hid (hM.out.put 0 rfl (dl t o k x cc y) ((rwD 0 0 0 0 0 0).len (rwD t o k x cc y)))
                 generalize World.setCells _ _ _ _ = W at hM hS ⊢
                 clear HBD
                 have cb : W.cell? ⟨bb, j, none⟩ = some (.pointer none) := hM.out.cell 2 j rfl (byr_get HX.out)
                 have LK : Hid _ := hS.out.miss mapp_desc zero_ptr HTW.out (mpf_none HOP.out)
                 have c1 := hM.out.cell 0 0 rfl rfl)
              | (at_lookup
                 refine wpList_look rfl _ _ _ rfl rfl rfl LK.out ?_))
            clear c1
            clear cb
            replace hM := hid (hM.out.drew)
            replace hS := hid (hS.out.drew)
            refine wp_region_held_drew (S := fun w' => Bo w' bd (dl t o k x cc y)) (by kernel_rfl) (hM.out.at 0 rfl) (fun hH => ?_)
            generalize World.drew _ = W at hM hH hS ⊢
            refine tk 0 rfl hH ?_
            simp only [Act.put, p1, p2, p3]
            refine tk 1 rfl hH ?_
            simp only [Act.put, p1, p2, p3]
            refine tk 2 rfl hH ?_
            simp only [Act.put, p1, p2, p3]
            refine tkN 3 rfl hH ?_
            simp only [Act.put, p1, p2, p3]
            refine tkN 4 rfl hH ?_
            simp only [Act.put, p1, p2, p3]
            refine tkN 5 rfl hH ?_
            simp only [Act.put, p1, p2, p3]
            refine tkN 6 rfl hH ?_
            simp only [Act.put, p1, p2, p3]
            refine tkN 7 rfl hH ?_
            simp only [Act.put, p1, p2, p3]
            refine tkN 8 rfl hH ?_
            simp only [Act.put, p1, p2, p3]
            refine tkN 9 rfl hH ?_
            simp only [Act.put, p1, p2, p3]
            refine tkN 10 rfl hH ?_
            simp only [Act.put, p1, p2, p3]
            refine tkN 11 rfl hH ?_
            simp only [Act.put, p1, p2, p3]
            refine tkN 12 rfl hH ?_
            simp only [Act.put, p1, p2, p3]
            refine tkN 13 rfl hH ?_
            simp only [Act.put, p1, p2, p3]
            refine tk 14 rfl hH ?_
            simp only [Act.put, p1, p2, p3]
            refine wpAnyH_done (by kernel_rfl) ?_ _
            go_wp2
            go_ret
            exact ⟨rfl, bl, hM.out.tail.tail⟩
          · replace hop : opu h cs us t = some kk := hop
            replace heq : (h a).op ≠ (o, k, x) := heq
            have HOP : Hid _ := hop
            have CK : Hid _ := ccs_get cs kk _ hk
            have han : a < n := (GG.out.lt _ (List.mem_of_getElem? hk)).1
            have hkl : kk < cs.length := (List.getElem?_eq_some_iff.1 hk).1
            obtain ⟨⟨kd2, th2, o2, k2, x2, cc2, y2, wh2, st2⟩, he2⟩ : ∃ e, h a = e := ⟨_, rfl⟩
            rw [he2] at heq
            have HA : Hid (∀ W, Below w0.heap.size w0 W → W.rangeAt b (off + a * 9) (el kd2 th2 o2 k2 x2 cc2 y2 wh2 st2)) := fun W hb => by have := (HE.out W hb a han).1; rw [he2] at this; exact this
            have EQ := fun w => op_eq o2 k2 x2 o k x false ⟨fun h => (by cases h), fun h => absurd h heq⟩ w
            have ha0 : (0 : Int) ≤ (a : Int) := by omega
            have ha1 : (a : Int) < (n : Int) := by omega
            have hk0 : (0 : Int) ≤ (kk : Int) := by omega
            have hk1 : (kk : Int) < (cs.length : Int) := by omega
            clear hop hk heq han hkl he2
            obtain ⟨bd, hbd⟩ : ∃ q, q = W.heap.size := ⟨_, rfl⟩
            have HBD : Hid _ := hbd
            clear hbd
            go_wp2_with (first
              | (refine lO rfl RA.out rfl (rwD t o k x cc y) ?_; clear RA)
              | (rw [← HBD.out]
                 replace hS := hid (hS.out.new (.cells [.int .i64 0, .int .i64 0, .int .i64 0, .int .i64 0, .int .i64 0, .int .i64 0].toArray 46))
                 replace hM := hid (hM.out.born [.int .i64 0, .int .i64 0, .int .i64 0, .int .i64 0, .int .i64 0, .int .i64 0] 46 HBD.out)
                 refine sR rfl (hM.out.at 0 rfl) rfl ((rwD 0 0 0 0 0 0).len (rwD t o k x cc y)) (rwD t o k x cc y) ?_
                 replace hS := hid (hS.out.asideL (hM.out.ne 1 0 rfl rfl (by decide)) 0 (dl t o k x cc y))
                 replace hM := hid (hM.out.put 0 rfl (dl t o k x cc y) ((rwD 0 0 0 0 0 0).len (rwD t o k x cc y)))
                 generalize World.setCells _ _ _ _ = W at hM hS ⊢
                 clear HBD
                 have cb : W.cell? ⟨bb, j, none⟩ = some (.pointer none) := hM.out.cell 2 j rfl (byr_get HX.out)
                 have LK : Hid _ := hS.out.look mapp_desc zero_ptr HTW.out (mpf_some HOP.out)
                 have c1 := hM.out.cell 0 0 rfl rfl)
              | (at_lookup
                 refine wpList_look rfl _ _ _ rfl rfl rfl LK.out ?_))
            clear c1
            clear cb
            replace hM := hid (hM.out.drew)
            replace hS := hid (hS.out.drew)
            refine wp_region_held_drew (S := fun w' => Bo w' bd (dl t o k x cc y) ∧ Bo w' g (ccs cs) ∧ w'.rangeAt b (off + a * 9) (el kd2 th2 o2 k2 x2 cc2 y2 wh2 st2)) (by kernel_rfl) ⟨hM.out.at 0 rfl, hM.out.tail.tail.tail.bo _ CI.out, HA.out _ hM.out.below⟩ (fun hH => ?_)
            generalize World.drew _ = W at hM hH hS ⊢
            refine tk 0 rfl hH ?_
            simp only [Act.put, p1, p2, p3]
            refine tk 1 rfl hH ?_
            simp only [Act.put, p1, p2, p3]
            refine tk 2 rfl hH ?_
            simp only [Act.put, p1, p2, p3]
            refine tk 3 rfl hH ?_
            simp only [Act.put, p1, p2, p3]
            refine tk 4 rfl hH ?_
            simp only [Act.put, p1, p2, p3]
            refine tk 5 rfl hH ?_
            simp only [Act.put, p1, p2, p3]
            refine tk 6 rfl hH ?_
            simp only [Act.put, p1, p2, p3]
            refine tk 7 rfl hH ?_ (by intro w h; have c0 := h.2.1.cell (kk * 2) _ CK.out.1; clear h; go_simp; try with_reducible rfl)
            simp only [Act.put, p1, p2, p3]
            refine tk 8 rfl hH ?_
            simp only [Act.put, p1, p2, p3]
            refine tk 9 rfl hH ?_
            simp only [Act.put, p1, p2, p3]
            refine tk 10 rfl hH ?_ (by intro w h; have c0 := h.2.2 2 _ rfl; have c1 := h.2.2 3 _ rfl; have c2 := h.2.2 4 _ rfl; clear h; go_simp; try with_reducible rfl)
            simp only [Act.put, p1, p2, p3]
            refine tk 11 rfl hH ?_
            simp only [Act.put, p1, p2, p3]
            refine tk 12 rfl hH ?_ (by intro w h; have c0 := h.1.at 1 rfl; have c1 := h.1.at 2 rfl; have c2 := h.1.at 3 rfl; clear h; go_simp; try with_reducible rfl)
            simp only [Act.put, p1, p2, p3]
            refine tk 13 rfl hH ?_
            simp only [Act.put, p1, p2, p3]
            refine tk 14 rfl hH ?_
            simp only [Act.put, p1, p2, p3]
            refine wpAnyH_done (by kernel_rfl) ?_ _
            go_wp2
            go_ret
            exact ⟨rfl, bl, hM.out.tail.tail⟩
set_option maxHeartbeats 16000000 in
theorem giveO_m0 {n0 : Nat} {w0 w : World} {L : List (Nat × List Value)} {bb g : Nat} {vda : Option Addr} {vdc b off c n cap : Nat} {h : Nat → EV} {q : Nat → DD} {cs : List CC} {bl0 : List (Option Nat)} {fin : BU} (hM : Ms n0 w0 w ((bb, byr g bl0) :: L) []) (Y : Ly n0 w0 L g (.slice (some ⟨g, 0, none⟩) cs.length cap) (.slice (some ⟨b, off, none⟩) n c) (.slice vda 0 vdc) cs n h 0 q) (hcs : (g, ccs cs) ∈ L) (hcap : cs.length ≤ cap) (hc : n ≤ c)  :
    Calls Tryz.prog 41 #[.slice (some ⟨bb, 0, none⟩) 0 0, .slice (some ⟨g, 0, none⟩) cs.length cap, .slice (some ⟨b, off, none⟩) n c, .slice vda 0 vdc] w (Given n0 w0 L bb g bl0) := by
  have HE : Hid _ := hid Y.ev.all
  have HD : Hid _ := hid Y.de
  have GG : Hid (GC h n cs) := Y.good
  have HC : Hid (n ≤ c ∧ n ≤ 1000000 ∧ cs.length ≤ n ∧ cs.length ≤ cap) := ⟨hc, Y.few.1, Y.good.len, hcap⟩
  have CI : Hid _ := hcs
  clear hcs hcap hc Y
  replace hM := hid (hM.bornM rfl)
  have hS : Hid (Imp (w.alloc (.map #[] 0)) w.heap.size 0 (mpf g (opn h (cs.take 0)))) := hid ((Imp.made w).congr fun t => rfl)
  have hmm := @run_makeMap Tryz.prog
  go_enter Tryz.func41, Tryz.ntmps41
  go_wp2_with fail
  clear hmm
  generalize w.heap.size = mb at hM hS ⊢
  generalize World.alloc _ _ = W at hM hS ⊢
  go_loopg [19] cs.length (fun gg s19 wt => ∃ i : Nat, i ≤ cs.length ∧ cs.length - i ≤ gg ∧ s19 = .int .i64 i ∧ Hid (Imp wt mb i (mpf g (opn h (cs.take i)))) ∧ Hid (Ms n0 w0 wt ((mb, []) :: (bb, byr g bl0) :: L) []))
  case atStart => exact ⟨0, by omega, by omega, rfl, hS, hM⟩
  case round =>
    clear hM hS
    obtain ⟨i, hi, hgg, rfl, hS, hM⟩ := hrel
    obtain ⟨W, rfl⟩ : ∃ q, q = wr := ⟨_, rfl⟩
    by_cases hlt : i < cs.length
    · have hi0 : (0 : Int) ≤ (i : Int) := by omega
      have hil : (i : Int) < (cs.length : Int) := by omega
      obtain ⟨⟨a, zz⟩, hk⟩ : ∃ c, cs[i]? = some c := ⟨cs[i]'(by omega), List.getElem?_eq_getElem (by omega)⟩
      have CK : Hid _ := ccs_get cs i _ hk
      have OT : Hid _ := opn_take GG.out hk
      have han : a < n := (GG.out.lt _ (List.mem_of_getElem? hk)).1
      have hzn : ∀ z, zz = some z → z < n := (GG.out.lt _ (List.mem_of_getElem? hk)).2
      have c0 := (hM.out.tail.tail.bo _ CI.out).cell (i * 2) _ CK.out.1
      have c1 := (hM.out.tail.tail.bo _ CI.out).cell (i * 2 + 1) _ CK.out.2
      cases zz with
      | some z =>
        replace c1 : W.cell? ⟨g, i * 2 + 1, none⟩ = some (.int .i64 (z : Nat)) := c1
        have z1 : ((z : Int) == 9223372036854775807) = false := beq_eq_false_iff_ne.2 (by have := HC.out; have := hzn z rfl; omega)
        replace hM := hid (hM.out.new (.cells #[.int .i64 (a : Nat), .int .i64 (z : Nat)] 121))
        replace hS := hid ((hS.out.new (.cells #[.int .i64 (a : Nat), .int .i64 (z : Nat)] 121)).mono (Nat.le_succ i))
        have MF : Hid (∀ t, mpf g (opn h (cs.take (i + 1))) t = mpf g (opn h (cs.take i)) t) := fun t => by unfold mpf; rw [OT.out t, if_neg (fun hh => by cases hh.1)]
        clear hk hzn
        go_wp2
        clear c0 c1
        go_roundg (cs.length - (i + 1))
        case measure => omega
        case rel => exact ⟨i + 1, by omega, by omega, by have := HC.out; have hw : wrap64 ((i : Int) + 1) = ((i + 1 : Nat) : Int) := (by unfold wrap64; omega); rw [hw], hid (hS.out.congr MF.out), hM⟩
      | none =>
        replace c1 : W.cell? ⟨g, i * 2 + 1, none⟩ = some (.int .i64 9223372036854775807) := c1
        obtain ⟨⟨kd, th, o, k, x, cc, y, wh, st⟩, he⟩ : ∃ e, h a = e := ⟨_, rfl⟩
        have HA : Hid (∀ W, Below w0.heap.size w0 W → W.rangeAt b (off + a * 9) (el kd th o k x cc y wh st)) := fun W hb => by have := (HE.out W hb a han).1; rw [he] at this; exact this
        have HW : Hid ((Lit.int .i64 th).wf = true) := by have := (HE.out W hM.out.below a han).2; rw [he] at this; exact this
        have MF : Hid (∀ t, mpf g (opn h (cs.take (i + 1))) t = if t = th then some (.pointer (some ⟨g, i * 2, none⟩)) else mpf g (opn h (cs.take i)) t) := fun t => by
          unfold mpf
          rw [OT.out t, he]
          by_cases e : t = th
          · rw [if_pos e, if_pos ⟨rfl, e.symm⟩]; rfl
          · rw [if_neg e, if_neg (fun hh => e hh.2.symm)]
        have ha0 : (0 : Int) ≤ (a : Int) := by omega
        have ha1 : (a : Int) < (n : Int) := by omega
        clear hk hzn he han
        obtain ⟨bc, hbc⟩ : ∃ q, q = W.heap.size := ⟨_, rfl⟩
        replace hS := hid (hS.out.new (.cells #[.int .i64 (a : Nat), .int .i64 9223372036854775807] 121))
        replace hM := hid (hM.out.born [.int .i64 (a : Nat), .int .i64 9223372036854775807] 121 hbc)
        have HBC : Hid _ := hbc
        clear hbc
        go_wp2_with fail
        clear c0 c1
        rw [← HBC.out]
        generalize World.alloc _ _ = W at hM hS ⊢
        replace hM := hid (hM.out.drew)
        replace hS := hid (hS.out.drew)
        refine wp_region_held_drew (S := fun w' => Bo w' bc [.int .i64 (a : Nat), .int .i64 9223372036854775807] ∧ w'.rangeAt b (off + a * 9) (el kd th o k x cc y wh st)) (by kernel_rfl) ⟨hM.out.at 0 rfl, HA.out _ hM.out.below⟩ (fun hH => ?_)
        generalize World.drew _ = W at hM hH hS ⊢
        refine tk 0 rfl hH ?_
        simp only [Act.put, p1, p2, p3]
        refine tk 1 rfl hH ?_
        simp only [Act.put, p1, p2, p3]
        refine tk 2 rfl hH ?_
        simp only [Act.put, p1, p2, p3]
        refine tk 3 rfl hH ?_ (by intro w h; have c0 := h.1.at 0 rfl; clear h; go_simp; try with_reducible rfl)
        simp only [Act.put, p1, p2, p3]
        refine tk 4 rfl hH ?_
        simp only [Act.put, p1, p2, p3]
        refine tk 5 rfl hH ?_
        simp only [Act.put, p1, p2, p3]
        refine tk 6 rfl hH ?_ (by intro w h; have c0 := h.2 1 _ rfl; clear h; go_simp; try with_reducible rfl)
        simp only [Act.put, p1, p2, p3]
        refine tk 7 rfl hH ?_
        simp only [Act.put, p1, p2, p3]
        refine tk 8 rfl hH ?_
        simp only [Act.put, p1, p2, p3]
        refine tk 9 rfl hH ?_
        simp only [Act.put, p1, p2, p3]
        refine rd1 10 rfl (fun K hK => ?_)
        obtain ⟨W, up, hS2, ht⟩ := hS.out.add mapp_desc (by have := HC.out; unfold maxLen; omega) HW.out (.pointer (some ⟨g, i * 2, none⟩))
        refine mpR (.tmp 27) (.tmp 33) (.tmp 36) _ rfl rfl rfl rfl up ?_
        replace hM := hid (hM.out.turned 1 rfl ht.grown (fun j => hS2.froz j))
        replace hS := hid hS2
        clear hS2 ht up
        refine hK.out _ _ ⟨hM.out.at 0 rfl, HA.out _ hM.out.below⟩ (fun hH => ?_)
        clear hK K
        try simp only [Act.put]
        refine wpAnyH_done (by kernel_rfl) ?_ _
        go_wp2
        go_roundg (cs.length - (i + 1))
        case measure => omega
        case rel => exact ⟨i + 1, by omega, by omega, by have := HC.out; have hw : wrap64 ((i : Int) + 1) = ((i + 1 : Nat) : Int) := (by unfold wrap64; omega); rw [hw], hid (hS.out.congr MF.out), hM.out.tail⟩
    · obtain rfl : i = cs.length := by omega
      have hil : ¬ (cs.length : Int) < (cs.length : Int) := by omega
      rw [List.take_length] at hS
      clear hi hlt hgg
      go_wp2_with fail
      go_loopg [40] 0 (fun gg s40 wt => wt = W ∧ s40 = .int .i64 0)
      case atStart => exact ⟨rfl, rfl⟩
      case round =>
        obtain ⟨hw, rfl⟩ := hrel
        rw [hw]; clear hw wr
        go_wp2
        go_ret
        exact ⟨rfl, hM.out.tail⟩
set_option maxHeartbeats 4000000 in
theorem giveA_nil {n0 : Nat} {w0 w : World} {L : List (Nat × List Value)} {bb g m : Nat} {bl : List (Option Nat)} {va : Option Addr} {vcp : Nat} (ve vd : Value) (hM : Ms n0 w0 w ((bb, byr g bl) :: L) []) :
    Calls Tryz.prog 40 #[.slice (some ⟨bb, 0, none⟩) m m, .slice va 0 vcp, ve, vd] w (Given n0 w0 L bb g bl) := by
  replace hM := hid hM
  obtain ⟨W, hW⟩ : ∃ q, q = w := ⟨_, rfl⟩
  subst hW
  go_enter Tryz.func40, Tryz.ntmps40
  go_wp2_with fail
  go_loopg [15] 0 (fun gg s15 wt => wt = W ∧ s15 = .int .i64 0)
  case atStart => exact ⟨rfl, rfl⟩
  case round =>
    obtain ⟨hw, rfl⟩ := hrel
    rw [hw]; clear hw wr
    go_wp2
    go_ret
    exact ⟨rfl, hM.out⟩
set_option maxHeartbeats 4000000 in
theorem giveO_nn {n0 : Nat} {w0 w : World} {L : List (Nat × List Value)} {bb g vdc : Nat} {vda : Option Addr} {bl0 : List (Option Nat)} {va : Option Addr} {vcp : Nat} (ve : Value) (hM : Ms n0 w0 w ((bb, byr g bl0) :: L) []) :
    Calls Tryz.prog 41 #[.slice (some ⟨bb, 0, none⟩) 0 0, .slice va 0 vcp, ve, .slice vda 0 vdc] w (Given n0 w0 L bb g bl0) := by
  replace hM := hid (hM.bornM rfl)
  have hS : Hid (Imp (w.alloc (.map #[] 0)) w.heap.size 0 (fun _ => none)) := hid (Imp.made w)
  have hmm := @run_makeMap Tryz.prog
  go_enter Tryz.func41, Tryz.ntmps41
  go_wp2_with fail
  clear hmm
  generalize w.heap.size = mb at hM hS ⊢
  generalize World.alloc _ _ = W at hM hS ⊢
  go_loopg [19] 0 (fun gg s19 wt => wt = W ∧ s19 = .int .i64 0)
  case atStart => exact ⟨rfl, rfl⟩
  case round =>
    obtain ⟨hw, rfl⟩ := hrel
    rw [hw]; clear hw wr
    go_wp2_with fail
    go_loopg [40] 0 (fun gg s40 wt => wt = W ∧ s40 = .int .i64 0)
    case atStart => exact ⟨rfl, rfl⟩
    case round =>
      obtain ⟨hw, rfl⟩ := hrel
      rw [hw]; clear hw wr
      go_wp2
      go_ret
      exact ⟨rfl, hM.out.tail⟩
set_option maxHeartbeats 4000000 in
theorem giveO_ns {n0 : Nat} {w0 w : World} {L : List (Nat × List Value)} {bb g m db doff vdc : Nat} {q : Nat → DD} {bl0 : List (Option Nat)} {va : Option Addr} {vcp : Nat} (ve : Value) (hM : Ms n0 w0 w ((bb, byr g bl0) :: L) []) (D : Dq w0 (.slice (some ⟨db, doff, none⟩) m vdc) m q) (hm0 : 0 < m) (hm : m ≤ 1000000) (hdc : m ≤ vdc) (hbl : bl0[0]? = some none) (hwt : (Lit.int .i64 (q 0).t).wf = true) :
    Calls Tryz.prog 41 #[.slice (some ⟨bb, 0, none⟩) m m, .slice va 0 vcp, ve, .slice (some ⟨db, doff, none⟩) m vdc] w (Refused n0 w0 L bb g 8) := by
  replace hM := hid (hM.bornM rfl)
  have hS : Hid (Imp (w.alloc (.map #[] 0)) w.heap.size 0 (fun _ => none)) := hid (Imp.made w)
  have HD : Hid _ := hid D
  have HX : Hid _ := hbl
  have HTW0 : Hid _ := hwt
  have hj1 : (0 : Int) < (m : Int) := by omega
  clear D hbl hwt
  have HM0 : Hid (0 < m) := hm0
  clear hm0 hm hdc
  have hmm := @run_makeMap Tryz.prog
  go_enter Tryz.func41, Tryz.ntmps41
  go_wp2_with fail
  clear hmm
  generalize w.heap.size = mb at hM hS ⊢
  generalize World.alloc _ _ = W at hM hS ⊢
  go_loopg [19] 0 (fun gg s19 wt => wt = W ∧ s19 = .int .i64 0)
  case atStart => exact ⟨rfl, rfl⟩
  case round =>
    obtain ⟨hw, rfl⟩ := hrel
    rw [hw]; clear hw wr
    go_wp2_with fail
    go_loopg [40] 1 (fun gg s40 wt => wt = W ∧ s40 = .int .i64 0)
    case atStart => exact ⟨rfl, rfl⟩
    case round =>
      obtain ⟨hw, rfl⟩ := hrel
      rw [hw]; clear hw wr
      obtain ⟨⟨t, o, k, x, cc, y⟩, hq⟩ : ∃ d, q 0 = d := ⟨_, rfl⟩
      have hrow := HD.out.row W hM.out.below 0 HM0.out
      rw [hq] at hrow
      have RA : Hid (W.rangeAt db (doff + 0 * 6) (dl t o k x cc y)) := hrow
      clear hrow
      rw [Nat.zero_mul, Nat.add_zero] at RA
      have HTW : Hid ((Lit.int .i64 t).wf = true) := by have := HTW0.out; rw [hq] at this; exact this
      clear hq
      obtain ⟨bd, hbd⟩ : ∃ q, q = W.heap.size := ⟨_, rfl⟩
      have HBD : Hid _ := hbd
      clear hbd
      go_wp2_with (first
        | (refine lO rfl RA.out rfl (rwD t o k x cc y) ?_; clear RA)
        | (rw [← HBD.out]
           replace hS := hid (hS.out.new (.cells [.int .i64 0, .int .i64 0, .int .i64 0, .int .i64 0, .int .i64 0, .int .i64 0].toArray 46))
           replace hM := hid (hM.out.born [.int .i64 0, .int .i64 0, .int .i64 0, .int .i64 0, .int .i64 0, .int .i64 0] 46 HBD.out)
           refine sR rfl (hM.out.at 0 rfl) rfl ((rwD 0 0 0 0 0 0).len (rwD t o k x cc y)) (rwD t o k x cc y) ?_
           replace hS := hid (hS.out.asideL (hM.out.ne 1 0 rfl rfl (by decide)) 0 (dl t o k x cc y))
           replace hM := hid (hM.out.put 0 rfl (dl t o k x cc y) ((rwD 0 0 0 0 0 0).len (rwD t o k x cc y)))
           generalize World.setCells _ _ _ _ = W at hM hS ⊢
           clear HBD
           have cb : W.cell? ⟨bb, 0, none⟩ = some (.pointer none) := hM.out.cell 2 0 rfl (byr_get HX.out)
           have LK : Hid _ := hS.out.miss mapp_desc zero_ptr HTW.out rfl
           have c1 := hM.out.cell 0 0 rfl rfl)
        | (at_lookup
           refine wpList_look rfl _ _ _ rfl rfl rfl LK.out ?_))
      clear c1
      clear cb
      replace hM := hid (hM.out.drew)
      replace hS := hid (hS.out.drew)
      refine wp_region_held_drew (S := fun w' => Bo w' bd (dl t o k x cc y)) (by kernel_rfl) (hM.out.at 0 rfl) (fun hH => ?_)
      generalize World.drew _ = W at hM hH hS ⊢
      refine tk 0 rfl hH ?_
      simp only [Act.put, p1, p2, p3]
      refine tk 1 rfl hH ?_
      simp only [Act.put, p1, p2, p3]
      refine tk 2 rfl hH ?_
      simp only [Act.put, p1, p2, p3]
      refine tkN 3 rfl hH ?_
      simp only [Act.put, p1, p2, p3]
      refine tkN 4 rfl hH ?_
      simp only [Act.put, p1, p2, p3]
      refine tkN 5 rfl hH ?_
      simp only [Act.put, p1, p2, p3]
      refine tkN 6 rfl hH ?_
      simp only [Act.put, p1, p2, p3]
      refine tkN 7 rfl hH ?_
      simp only [Act.put, p1, p2, p3]
      refine tkN 8 rfl hH ?_
      simp only [Act.put, p1, p2, p3]
      refine tkN 9 rfl hH ?_
      simp only [Act.put, p1, p2, p3]
      refine tkN 10 rfl hH ?_
      simp only [Act.put, p1, p2, p3]
      refine tkN 11 rfl hH ?_
      simp only [Act.put, p1, p2, p3]
      refine tkN 12 rfl hH ?_
      simp only [Act.put, p1, p2, p3]
      refine tkN 13 rfl hH ?_
      simp only [Act.put, p1, p2, p3]
      refine tk 14 rfl hH ?_
      simp only [Act.put, p1, p2, p3]
      refine wpAnyH_done (by kernel_rfl) ?_ _
      go_wp2
      go_ret
      exact ⟨rfl, bl0, hM.out.tail.tail⟩
end Go.Proofs.YteogbpaaacmllabGreatDoor.Tab
namespace Go.Proofs.YteogbpaaacmllabGreatDoor.Tab
set_option maxRecDepth 20000
open Go.RowKit Go.Shelf
set_option linter.unusedVariables false
attribute [local go_sem] Oper.semAt_some

/-- What a round keeps: what lay below n₀, and the block Bs. -/
def Kb (n₀ Bs : Nat) (W W' : World) : Prop := Below n₀ W W' ∧ W'.heap[Bs]? = W.heap[Bs]?
theorem Kb.refl (n₀ Bs : Nat) (W : World) : Kb n₀ Bs W W := ⟨Below.refl _ _, rfl⟩
theorem Kb.trans {n₀ Bs : Nat} {A B C : World} (h : Kb n₀ Bs A B) (k : Kb n₀ Bs B C) : Kb n₀ Bs A C := ⟨h.1.trans k.1, k.2.trans h.2⟩
theorem kb_b {n₀ Bs : Nat} {w : World} (hn : n₀ ≤ w.heap.size) (hB : Bs < w.heap.size) (W : World) (l : Nat) (o o' : Obj) (hl : w.heap.size ≤ l) (h : W.heap[l]? = some o) (h1 : o.isCells = false) (h2 : o.isWalk = false) : Kb n₀ Bs W (W.putObj l o') :=
  ⟨belowK_b hn W l o o' hl h h1 h2, (grownBy_putObj' W l o').block Bs (by have := (Array.getElem?_eq_some_iff.1 h).1; omega) (fun e => by injection e with e; omega)⟩

set_option maxRecDepth 100000 in
set_option maxHeartbeats 2000000 in
/-- Backward's closure: for every loop's body that keeps what lay below n₀. -/
theorem back1_in (F : Fence) (n : Nat) (h62 : F.fn 72) (hro : F.round = none) (hn : 1 ≤ n) (l Bs n₀ b m cap g : Nat) (u : Nat → Nat) (hm : m ≤ 1000000) (hb : b < n₀) (J Jx : List Nat → World → Prop)
    (hY : ∀ pre x W, J pre W → pre.length < m → YieldAt F (n - 1) Tryz.prog l #[.int .i64 ((m - 1 - x : Nat) : Int), .pointer (some ⟨g, u (m - 1 - x) * 2, none⟩)] W fun e W' =>
      (e = .returned (.bool true) ∧ J (pre ++ [x]) W' ∧ Kb n₀ Bs W W') ∨ (e = .returned (.bool false) ∧ Jx (pre ++ [x]) W'))
    (W : World) (hBs : W.cell? ⟨Bs, 0, none⟩ = some (.slice (some ⟨b, 0, none⟩) m cap)) (hc : ∀ j, j < m → W.cell? ⟨b, j, none⟩ = some (.pointer (some ⟨g, u j * 2, none⟩))) (h0 : J [] W) :
    CallsIn F n Tryz.prog 72 #[.func (.yield l) #[] #[], .pointer (some ⟨Bs, 0, none⟩)] W fun e W' => (∃ v, e = .returned v) ∧
      ((∃ ys, ys = List.range m ∧ J ys W') ∨ (∃ pre, (∃ k, k ≤ m ∧ pre = List.range k) ∧ Jx pre W')) := by
  refine callsIn_of_wp Tryz.func72 rfl h62 ?_ hro
  simp only [Tryz.ntmps72, List.size_toArray, List.length_cons, List.length_nil, Nat.reduceAdd, Nat.reduceSub, Array.replicate_succ, Array.replicate_zero, List.push_toArray, List.append_toArray, List.nil_append, List.cons_append]
  gi_wp2
  gi_loopw [3] (fun i wr => ((∃ j k : Nat, j + k + 1 = m ∧ i = .int .i64 (j : Nat) ∧ J (List.range k) wr) ∨ (i = .int .i64 (-1) ∧ J (List.range m) wr)) ∧ Kb n₀ Bs W wr)
    (fun i _ => (intOf i + 1).toNat)
  case atStart =>
    refine ⟨?_, Kb.refl _ _ _⟩
    cases m with
    | zero => exact .inr ⟨by simp, h0⟩
    | succ m => exact .inl ⟨m, 0, rfl, by congr 1; omega, h0⟩
  case round =>
    obtain ⟨⟨j, k, hjk, rfl, hJs⟩ | ⟨rfl, hJs⟩, hnx⟩ := hrel
    · have hcx : wr.cell? ⟨b, j, none⟩ = some (.pointer (some ⟨g, u j * 2, none⟩)) := (hnx.1.cell (p := ⟨b, j, none⟩) hb).trans (hc j (by omega))
      have hbx : wr.cell? ⟨Bs, 0, none⟩ = some (.slice (some ⟨b, 0, none⟩) m cap) := (World.cell?_of_block (w := W) (a := ⟨Bs, 0, none⟩) hnx.2).trans hBs
      have hY' := hY (List.range k) k wr hJs (by rw [List.length_range]; omega)
      rw [show m - 1 - k = j by omega] at hY'
      obtain ⟨fn, tmps, assign, body, hy, hR⟩ := hY'
      have j0 : (0 : Int) ≤ (j : Int) := by omega
      have j1 : (j : Int) < (m : Int) := by omega
      gi_wp2
      refine hR.mono ?_
      rintro e W3 (⟨rfl, hJ3, hk3⟩ | ⟨rfl, hJx3⟩)
      · gi_wp2
        go_roundw
        case rel =>
          refine ⟨?_, hnx.trans hk3⟩
          rw [← List.range_succ] at hJ3
          cases j with
          | zero => exact .inr ⟨by simp, by rw [show m = k + 1 by omega]; exact hJ3⟩
          | succ j => exact .inl ⟨j, k + 1, by omega, by congr 1; omega, hJ3⟩
        case measure => simp [intOf]
      · gi_wp2
        refine bodyPost_ret (results_none rfl _ _ _) rfl ?_
        exact ⟨⟨_, rfl⟩, .inr ⟨_, ⟨k + 1, by omega, List.range_succ.symm⟩, hJx3⟩⟩
    · gi_wp2
      go_end0
      exact ⟨⟨_, rfl⟩, .inl ⟨_, rfl, hJs⟩⟩

set_option maxHeartbeats 1000000 in
theorem back_in (F : Fence) (n : Nat) (h43 : F.fn 57) (hro : F.round = none) (a : Option Addr) (len cap : Nat) (w : World) :
    CallsIn F n Tryz.prog 57 #[.slice a len cap] w fun e w' => e = .returned (.func (.func 72) #[] #[.pointer (some ⟨w.heap.size, 0, none⟩)]) ∧ w' = w.alloc (.cells #[.slice a len cap] 88) := by
  refine callsIn_of_wp Tryz.func57 rfl h43 ?_ hro
  simp only [Tryz.ntmps57, List.size_toArray, List.length_cons, List.length_nil, Nat.reduceAdd, Nat.reduceSub, Array.replicate_succ, Array.replicate_zero, List.push_toArray, List.append_toArray, List.nil_append, List.cons_append]
  gi_wp2
  go_ret
  exact ⟨rfl, rfl⟩

theorem back_stops (F : Fence) (n : Nat) (h62 : F.fn 72) (hro : F.round = none) (hn : 1 ≤ n) (Bs n₀ b m cap g : Nat) (u : Nat → Nat) (hm : m ≤ 1000000) (w : World) (hBs : Bs < w.heap.size) (hb : b < n₀) (hn₀ : n₀ ≤ w.heap.size)
    (hc : w.cell? ⟨Bs, 0, none⟩ = some (.slice (some ⟨b, 0, none⟩) m cap)) (hI : ∀ j, j < m → w.cell? ⟨b, j, none⟩ = some (.pointer (some ⟨g, u j * 2, none⟩))) :
    SeqStopsK F n Tryz.prog 72 #[.pointer (some ⟨Bs, 0, none⟩)] (fun x : Nat => #[Value.int .i64 ((m - 1 - x : Nat) : Int), .pointer (some ⟨g, u (m - 1 - x) * 2, none⟩)]) (Kb n₀ Bs) (fun ys => ys = List.range m)
      (fun pre => ∃ k, k ≤ m ∧ pre = List.range k) m w := fun l J Jx W hW _ _ hY h0 =>
  back1_in F n h62 hro hn l Bs n₀ b m cap g u hm hb J Jx hY W ((hW.cell (p := ⟨Bs, 0, none⟩) hBs).trans hc) (fun j hj => ((hW.mono hn₀).cell (p := ⟨b, j, none⟩) hb).trans (hI j hj)) h0
end Go.Proofs.YteogbpaaacmllabGreatDoor.Tab
namespace Go.Proofs.YteogbpaaacmllabGreatDoor.Tab
set_option maxRecDepth 20000
open Go.RowKit Go.Shelf
set_option linter.unusedVariables false
attribute [local go_sem] Oper.semAt_some

/-- From the last deed on: whether all is in order, and the first answer so far. -/
def ost (A : Nat → Nat) (Z : Nat → Int) (v : Nat → Nat) (l : List Nat) : Bool × Int := l.foldl (fun s x => (s.1 && !decide (s.2 < (A (v x) : Int)), min s.2 (Z (v x)))) (true, 9223372036854775807)
theorem ost_snoc (A : Nat → Nat) (Z : Nat → Int) (v : Nat → Nat) (l : List Nat) (x : Nat) : ost A Z v (l ++ [x]) = ((ost A Z v l).1 && !decide ((ost A Z v l).2 < (A (v x) : Int)), min (ost A Z v l).2 (Z (v x))) := by unfold ost; rw [List.foldl_append]; rfl
theorem ost_false (A : Nat → Nat) (Z : Nat → Int) (v : Nat → Nat) : ∀ (r l : List Nat), (ost A Z v l).1 = false → (ost A Z v (l ++ r)).1 = false
  | [], l, h => by rw [List.append_nil]; exact h
  | x :: r, l, h => by
    rw [show l ++ x :: r = (l ++ [x]) ++ r by simp]
    exact ost_false A Z v r _ (by rw [ost_snoc, h]; rfl)
theorem range_split {k m : Nat} (h : k ≤ m) : List.range m = List.range k ++ (List.range (m - k)).map (k + ·) := by
  rw [show m = k + (m - k) by omega, List.range_add]; simp

set_option maxRecDepth 100000 in
set_option maxHeartbeats 4000000 in
theorem inOrder_in (F : Fence) (n : Nat) (h28 : F.fn 42) (h43 : F.fn 57) (h62 : F.fn 72) (hro : F.round = none) (hn : 3 ≤ n)
    (b m cap g N : Nat) (A : Nat → Nat) (Z : Nat → Int) (u : Nat → Nat) (hm : m ≤ 1000000) (hu : ∀ j, j < m → u j < N) (w : World) (hb : b < w.heap.size) (hg : g < w.heap.size ∨ N = 0)
    (hI : ∀ j, j < m → w.cell? ⟨b, j, none⟩ = some (.pointer (some ⟨g, u j * 2, none⟩))) (hA : ∀ k, k < N → w.cell? ⟨g, k * 2, none⟩ = some (.int .i64 (A k : Nat)) ∧ w.cell? ⟨g, k * 2 + 1, none⟩ = some (.int .i64 (Z k)))
    (r : Value) (hrv : (ost A Z (fun x => u (m - 1 - x)) (List.range m)).1 = true → r = .nilIface) (hrw : (ost A Z (fun x => u (m - 1 - x)) (List.range m)).1 = false → r = .iface 59 (.int .i64 6)) :
    CallsIn F n Tryz.prog 42 #[.slice (some ⟨b, 0, none⟩) m cap] w fun e W' =>
      e = .returned r ∧ Below w.heap.size w W' := by
  have h1 : 1 ≤ n := by omega
  have hmo : Tryz.prog.follows .mixedOrders = true := by kernel_rfl
  refine callsIn_of_wp_marks Tryz.func42 rfl h28 ?_ hro
  simp only [Tryz.ntmps42, List.size_toArray, List.length_cons, List.length_nil, Nat.reduceAdd, Nat.reduceSub, Array.replicate_succ, Array.replicate_zero, List.push_toArray, List.append_toArray, List.nil_append, List.cons_append]
  gi_wp2_with (gi_at_call 57; refine (back_in F (n - 1) h43 hro _ _ _ _).mono ?_; rintro e w' ⟨rfl, rfl⟩)
  have bR := Boxed.new w 29 .nilIface
  have bF := Boxed.new (w.alloc (.cells #[.nilIface] 29)) 3 (.int .i64 9223372036854775807)
  have bN := Boxed.new ((w.alloc (.cells #[.nilIface] 29)).alloc (.cells #[.int .i64 9223372036854775807] 3)) 88 (.slice (some ⟨b, 0, none⟩) m cap)
  simp only [World.size_alloc] at bF bN
  have hB0 : Below w.heap.size w (((w.alloc (.cells #[.nilIface] 29)).alloc (.cells #[.int .i64 9223372036854775807] 3)).alloc (.cells #[.slice (some ⟨b, 0, none⟩) m cap] 88)) := (((Below.refl _ w).alloc (Nat.le_refl _) _).alloc (by simp) _).alloc (by simp; omega) _
  have fA : ∀ W, Below w.heap.size w W → ∀ x, 0 < m → W.cell? ⟨g, u (m - 1 - x) * 2, none⟩ = some (.int .i64 (A (u (m - 1 - x)) : Nat)) ∧ W.cell? ⟨g, u (m - 1 - x) * 2 + 1, none⟩ = some (.int .i64 (Z (u (m - 1 - x)))) := fun W hW x h0 => by
    have hk := hu (m - 1 - x) (by omega)
    have hgl : g < w.heap.size := hg.resolve_right (by omega)
    have := hA _ hk
    exact ⟨(hW.cell (p := ⟨g, u (m - 1 - x) * 2, none⟩) hgl).trans this.1, (hW.cell (p := ⟨g, u (m - 1 - x) * 2 + 1, none⟩) hgl).trans this.2⟩
  refine wpIn_rangeFunc_ownG hro h1 (gf := 72) (lb := #[.pointer (some ⟨w.heap.size + 1 + 1, 0, none⟩)]) rfl h62 (enters_of Tryz.func72 (by kernel_rfl) rfl)
    (back_stops F (n - 1) h62 hro (by omega) (w.heap.size + 1 + 1) w.heap.size b m cap g u hm _ (by simp) hb (by simp; omega) bN.cell (fun j hj => (hB0.cell (p := ⟨b, j, none⟩) hb).trans (hI j hj)))
    (fun h k => h.trans k) (kb_b (by simp; omega) (by simp)) (Below.refl _ _) (fun _ => rfl)
    (fun pre W => ((ost A Z (fun x => u (m - 1 - x)) pre).1 = true ∧ (W.cell? ⟨w.heap.size, 0, none⟩ = some .nilIface ∧ W.frozen? ⟨w.heap.size, 0, none⟩ = false) ∧ W.cell? ⟨w.heap.size + 1, 0, none⟩ = some (.int .i64 (ost A Z (fun x => u (m - 1 - x)) pre).2) ∧ W.frozen? ⟨w.heap.size + 1, 0, none⟩ = false) ∧ Below w.heap.size w W)
    (fun c pre W => (c = .ret ∧ (ost A Z (fun x => u (m - 1 - x)) pre).1 = false ∧ W.cell? ⟨w.heap.size, 0, none⟩ = some (.iface 59 (.int .i64 6))) ∧ Below w.heap.size w W)
    (OwnFrom.and (Own.from (fun s A B row hs hg hr => ⟨hs.1, ⟨cell_kept hs.2.1.1 hg hr, (frozen_kept hs.2.1.1 hg hr).trans hs.2.1.2⟩, cell_kept hs.2.2.1 hg hr, (frozen_kept hs.2.2.1 hg hr).trans hs.2.2.2⟩) _) (ownFrom_below (Nat.le_refl _) (by simp; omega)))
    (fun c => OwnFrom.and (Own.from (fun s A B row hs hg hr => ⟨hs.1, hs.2.1, cell_kept hs.2.2 hg hr⟩) _) (ownFrom_below (Nat.le_refl _) (by simp; omega)))
    ⟨⟨rfl, ⟨((bR.alloc _).alloc _).cell, ((bR.alloc _).alloc _).frozen⟩, (bF.alloc _).cell, (bF.alloc _).frozen⟩, hB0⟩
    (fun x => { tmps := #[.slice (some ⟨b, 0, none⟩) m cap, undef, .pointer (some ⟨w.heap.size, 0, none⟩), .pointer (some ⟨w.heap.size + 1, 0, none⟩), undef, .pointer (some ⟨g, u (m - 1 - x) * 2, none⟩), .slice (some ⟨b, 0, none⟩) m cap, .func (.func 72) #[] #[.pointer (some ⟨w.heap.size + 1 + 1, 0, none⟩)], .int .i64 ((m - 1 - x : Nat) : Int), .pointer (some ⟨g, u (m - 1 - x) * 2, none⟩), undef, undef, undef, undef, undef, undef, undef, undef, undef, undef, undef, undef, undef], defers := [] }) ?assign ?body ?done ?stop
  case assign =>
    intro l x W K hK
    gi_wp2
    exact hK
  case body =>
    rintro l pre x W ⟨⟨hok, ⟨hr, hfr⟩, hc, hf⟩, hB⟩ hlt
    obtain ⟨ca, cz⟩ := fA W hB x (by omega)
    have hsn := ost_snoc A Z (fun x => u (m - 1 - x)) pre x
    rw [hok] at hsn
    generalize (ost A Z (fun x => u (m - 1 - x)) pre).2 = f at *
    generalize u (m - 1 - x) = k at *
    by_cases hlt2 : f < (A k : Int)
    · rw [decide_eq_true hlt2] at hsn
      gi_wp2
      gi_region_with_o (fail)
      all_goals gi_wp2
      all_goals (try go_bits)
      all_goals exact ⟨((KeepsOthers.setCell _ _ _).trans (KeepsOthers.drew _)).from _, ⟨rfl, by rw [hsn]; rfl, World.cell?_setCell_same' _ _ _ (by rw [hr]; rfl)⟩, (hB.setCell (p := ⟨w.heap.size, 0, none⟩) (Nat.le_refl _) _).drew⟩
    · rw [decide_eq_false hlt2] at hsn
      gi_wp2
      gi_region_with_o (fail)
      all_goals gi_wp2
      all_goals (try go_bits)
      all_goals gi_region_with_o (fail)
      all_goals gi_wp2
      all_goals (try go_bits)
      all_goals exact ⟨(((KeepsOthers.setCell _ _ _).trans (KeepsOthers.drew _)).trans (KeepsOthers.drew _)).from _, ⟨(((Below.refl w.heap.size W).setCell (p := ⟨w.heap.size + 1, 0, none⟩) (by simp) _).drew).drew, Below.heap_setCell _ _ _ _ (by simp)⟩,
        ⟨by rw [hsn]; rfl, ⟨(World.cell?_of_block (w := W) (a := ⟨w.heap.size, 0, none⟩) (Below.heap_setCell _ _ _ _ (by simp))).trans hr, (World.frozen?_of_block (w := W) (a := ⟨w.heap.size, 0, none⟩) (Below.heap_setCell _ _ _ _ (by simp))).trans hfr⟩, by rw [hsn]; exact World.cell?_setCell_same' _ _ _ (by rw [hc]; rfl), by rw [frozen_drew_own, frozen_drew_own, World.frozen?_setCell]; exact hf⟩, ((hB.setCell (p := ⟨w.heap.size + 1, 0, none⟩) (by simp) _).drew).drew⟩
  case done =>
    rintro D ys W hD rfl ⟨⟨hok, ⟨hr, hfr⟩, hc, hf⟩, hB⟩ hK
    gi_wp2
    have hK' := (KeepsOthers.setCell W ⟨w.heap.size, 0, none⟩ .nilIface).same D _ hK rfl
    refine ⟨by simp, .inl ⟨_, _, rfl, run_takeDeferred hK', ?_⟩⟩
    have hc5 := cell_kept (World.cell?_setCell_same' W ⟨w.heap.size, 0, none⟩ .nilIface (by rw [hr]; rfl)) (grownBy_putObj' _ D (.deferred none)) (fun r e => by cases e; exact ⟨_, hK', rfl⟩)
    refine ⟨.nilIface, ?_, by rw [hrv hok], (hB.setCell (p := ⟨w.heap.size, 0, none⟩) (Nat.le_refl _) _).trans (belowK_b (w := w) (Nat.le_refl _) _ D _ _ (by simp at hD; omega) hK' rfl rfl)⟩
    simp [results, Tryz.f42, go_sem, hc5]
  case stop =>
    rintro D c pre W hD ⟨k, hk, rfl⟩ ⟨⟨rfl, hbad, hcr⟩, hB⟩ hK
    gi_wp2
    refine ⟨by simp, .inl ⟨_, _, rfl, run_takeDeferred hK, ?_⟩⟩
    have hc5 := cell_kept hcr (grownBy_putObj' _ D (.deferred none)) (fun r e => by cases e; exact ⟨_, hK, rfl⟩)
    have hall := ost_false A Z (fun x => u (m - 1 - x)) ((List.range (m - k)).map (k + ·)) _ hbad
    rw [← range_split hk] at hall
    refine ⟨.iface 59 (.int .i64 6), ?_, by rw [hrw hall], hB.trans (belowK_b (w := w) (Nat.le_refl _) W D _ _ (by simp at hD; omega) hK rfl rfl)⟩
    simp [results, Tryz.f42, go_sem, hc5]
theorem inOrder_is {b m cap g N : Nat} {A : Nat → Nat} {Z : Nat → Int} {u : Nat → Nat} (hm : m ≤ 1000000) (hu : ∀ j, j < m → u j < N) {w : World} (hb : b < w.heap.size) (hg : g < w.heap.size ∨ N = 0)
    (hI : ∀ j, j < m → w.cell? ⟨b, j, none⟩ = some (.pointer (some ⟨g, u j * 2, none⟩))) (hA : ∀ k, k < N → w.cell? ⟨g, k * 2, none⟩ = some (.int .i64 (A k : Nat)) ∧ w.cell? ⟨g, k * 2 + 1, none⟩ = some (.int .i64 (Z k))) :
    Calls Tryz.prog 42 #[.slice (some ⟨b, 0, none⟩) m cap] w fun e W' =>
      e = .returned (if (ost A Z (fun x => u (m - 1 - x)) (List.range m)).1 then .nilIface else .iface 59 (.int .i64 6)) ∧ Below w.heap.size w W' :=
  (callsIn_wide (n := 3)).1 (inOrder_in _ 3 trivial trivial trivial rfl (by omega) b m cap g N A Z u hm hu w hb hg hI hA _ (fun h => by rw [if_pos h]) (fun h => by rw [if_neg (by rw [h]; decide)]))
end Go.Proofs.YteogbpaaacmllabGreatDoor.Tab
namespace Go.Proofs.YteogbpaaacmllabGreatDoor.Tab
set_option maxRecDepth 20000
open Go.RowKit
set_option linter.unusedVariables false

def AllLt (cs : List CC) (bl : List (Option Nat)) : Prop := ∀ j k : Nat, bl[j]? = some (some k) → k < cs.length
theorem AllLt.set {cs : List CC} {bl : List (Option Nat)} (h : AllLt cs bl) {p k : Nat} (hk : k < cs.length) : AllLt cs (bl.set p (some k)) := fun j x hj => by
  rw [List.getElem?_set] at hj
  split at hj
  · split at hj
    · injection hj with hj; injection hj with hj; omega
    · cases hj
  · exact h j x hj
theorem ansF_lt {h : Nat → EV} {q : Nat → DD} {m : Nat} {cs : List CC} : ∀ {k : Nat} {bl : List (Option Nat)}, k ≤ cs.length → ansF h q m cs k = .ok bl → AllLt cs bl
  | 0, bl, _, e => by
    injection e with e; subst e
    intro j k hj
    rw [List.getElem?_replicate] at hj
    split at hj
    · injection hj with hj; cases hj
    · cases hj
  | k + 1, bl, hk, e => by
    cases e2 : ansF h q m cs k with
    | error c => unfold ansF at e; rw [e2] at e; cases e
    | ok b2 =>
      rw [ansF_step e2] at e
      rcases stepA_some (ansF_len e2) e with ⟨_, rfl⟩ | ⟨z, p, _, _, _, _, _, rfl⟩
      · exact ansF_lt (by omega) e2
      · exact (ansF_lt (by omega) e2).set (by omega)
theorem opnF_lt {h : Nat → EV} {q : Nat → DD} {cs : List CC} {bl : List (Option Nat)} (hl : AllLt cs bl) : ∀ {i : Nat} {s : BU}, i ≤ bl.length → opnF h q cs bl i = .ok s → AllLt cs s.1
  | 0, s, _, e => by injection e with e; subst e; exact hl
  | i + 1, s, hi, e => by
    cases e2 : opnF h q cs bl i with
    | error c => unfold opnF at e; rw [e2] at e; cases e
    | ok b2 =>
      rw [opnF_step e2] at e
      have ih := opnF_lt hl (by omega) e2
      rcases stepO_some (by rw [opnF_len e2]; omega) e with ⟨_, _, rfl⟩ | ⟨k, a, _, _, hk, _, rfl⟩
      · exact ih
      · exact ih.set (List.getElem?_eq_some_iff.1 hk).1
theorem opnF_all {h : Nat → EV} {q : Nat → DD} {cs : List CC} {bl : List (Option Nat)} : ∀ {i : Nat} {s : BU}, i ≤ bl.length → opnF h q cs bl i = .ok s → ∀ j, j < i → ∃ k, s.1[j]? = some (some k)
  | 0, s, _, e, j, hj => absurd hj (Nat.not_lt_zero _)
  | i + 1, s, hi, e, j, hj => by
    cases e2 : opnF h q cs bl i with
    | error c => unfold opnF at e; rw [e2] at e; cases e
    | ok b2 =>
      have hl := opnF_len e2
      rw [opnF_step e2] at e
      rcases stepO_some (by rw [hl]; omega) e with ⟨x, hx, rfl⟩ | ⟨k, a, _, _, hk, _, rfl⟩
      · by_cases hji : j = i
        · subst hji; exact ⟨x, hx⟩
        · exact opnF_all (by omega) e2 j (by omega)
      · by_cases hji : j = i
        · subst hji; exact ⟨k, by simp [List.getElem?_set, hl]; omega⟩
        · obtain ⟨k2, h2⟩ := opnF_all (by omega) e2 j (by omega)
          exact ⟨k2, by show (b2.1.set i (some k))[j]? = _; rw [List.getElem?_set_ne (fun h => hji h.symm)]; exact h2⟩
/-- The call of a deed. -/
def uof (bl : List (Option Nat)) (j : Nat) : Nat := (bl.getD j none).getD 0
theorem uof_of {bl : List (Option Nat)} {j k : Nat} (h : bl[j]? = some (some k)) : uof bl j = k := by unfold uof; rw [List.getD_eq_getElem?_getD, h]; rfl
/-- All is in order, from the last deed on. -/
def ordB (cs : List CC) (bl : List (Option Nat)) (m : Nat) : Bool := (ost (fun k => (cg cs k).1) (fun k => zp (cg cs k).2) (fun x => uof bl (m - 1 - x)) (List.range m)).1
theorem info_ptr : (Tryz.prog.info? 122).map (fun i => (i.zero, i.size, i.bytes)) = some (some (.pointer none), 1, 8) := by kernel_rfl
theorem made_ptr (g m : Nat) : madeCells (Value.pointer none).cells m = (byr g (List.replicate m none)).toArray := by
  apply Array.ext
  · simp [madeCells, byr]
  · intro i h1 h2
    simp [madeCells, byr, bp, Value.cells]
    rw [Nat.mod_one]; rfl
theorem mkby (g m : Nat) (hm : m ≤ 1000000) (w : World) : (Instr.makeSlice 88 (.int .i64 (m : Nat)) (.int .i64 (m : Nat))).run Tryz.prog w = .ok (.slice (some ⟨w.heap.size, 0, none⟩) m m) (w.alloc (.cells (byr g (List.replicate m none)).toArray 122)) := by
  obtain ⟨i, hi, hz, h1, h2⟩ := info_parts info_ptr
  have := run_make (P := Tryz.prog) w 88 122 i _ Tryz.underlying88 hi hz .i64 .i64 (m : Nat) (m : Nat) (by omega) (by omega) (by rw [h2]; omega) (by omega)
  rw [h1, Int.toNat_natCast, Nat.mul_one, made_ptr g m] at this
  exact this
end Go.Proofs.YteogbpaaacmllabGreatDoor.Tab
