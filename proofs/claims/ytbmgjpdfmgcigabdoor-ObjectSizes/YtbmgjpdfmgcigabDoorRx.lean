/- The reference's Heap, where something is taken out. -/
import Derived.Test.YtbmgjpdfmgcigabDoorRu
import Derived.Test.YtbmgjpdfmgcigabDoorRh
namespace Go.Proofs.YtbmgjpdfmgcigabDoor
set_option maxRecDepth 20000
open Go.RowKit

/-- The place below place i that the reference has found behind j looks: -1: none. -/
def kap (l : List Int) (i : Nat) : Nat → Int
  | 0 => -1
  | 1 => if 2 * i + 1 < l.length then ((2 * i + 1 : Nat) : Int) else -1
  | _ => if blw l i < l.length then (blw l i : Nat) else -1
theorem blw_set (l : List Int) (i : Nat) (t : Int) (hi : i < l.length) : blw (l.set i t) i = blw l i := by
  have e1 : gt (l.set i t) (2 * i + 1) = gt l (2 * i + 1) := by rw [gt_set l i _ t hi, if_neg (show 2 * i + 1 ≠ i by omega)]
  have e2 : gt (l.set i t) (2 * i + 2) = gt l (2 * i + 2) := by rw [gt_set l i _ t hi, if_neg (show 2 * i + 2 ≠ i by omega)]
  unfold blw
  rw [List.length_set, e1, e2]

set_option maxRecDepth 20000 in
set_option maxHeartbeats 2000000 in
theorem RHeap_one {B : Nat} {v : Value} {z : Int} {w : World} (k x : Int) (h : IsL B w v [z]) :
    Calls Tryd.prog 24 #[v, .agg #[.int .i64 2, .int .i64 k, .int .i64 x]] w (MadeN w [] 1 z) := by
  have hx : [z].length ≤ 60 := by simp
  have F0 : Hid (Fr w (two w 2 k x) 2 k x) := Fr.start w 2 k x
  have X : Hid (IsL B (two w 2 k x) v [z]) := h.later F0.out.gr
  have HX : Hid ([z].length ≤ 1000000) := Nat.le_trans hx (by decide)
  obtain ⟨av, cv, rfl⟩ := h.form
  clear h
  go_enter Tryd.func24, Tryd.ntmps24
  go_wp2_with (at_builtin; refine wpList_copy rfl rfl (.const (.slice none 0 0)) (.tmp 14) rfl rfl rfl X.out HX.out ?_)
  intro v1 w1 hown hb
  have hown' : Own (w.heap.size + 2) w1 v1 [z] := hown
  have hb' : Below (w.heap.size + 2) (two w 2 k x) w1 := hb
  have F1 : Hid (Fr w w1 2 k x) := F0.out.later hb'
  have O1 : Hid (Own (w.heap.size + 2) w1 v1 [z]) := hown'
  clear hown hb hown' hb' F0 X
  have o0 := F1.out.o0
  have o1 := F1.out.o1
  have o2 := F1.out.o2
  have r0 := F1.out.r0
  have r1 := F1.out.r1
  have f0 := F1.out.f0
  have f1 := F1.out.f1
  go_wp2_with fail
  refine (within_is _ _ _ _).mono ?_
  rintro e W ⟨rfl, hW⟩
  rw [hW]; clear hW W
  obtain ⟨b, off, c, rfl, hB, hbl, hc, hR⟩ := O1.out.isL.row (by omega) (by simp)
  have R1 : Hid (Row b off [z] w1) := hR
  have g0 : w1.cell? ⟨b, off, none⟩ = some (.int .i64 z) := R1.out.cell 0 (Nat.succ_pos _)
  have hc1 : 1 ≤ c := hc
  have en : [z].length = 1 := rfl
  rw [en]
  clear hR en hc
  go_wp2_with fail
  go_quiet (fail)
  go_wp2_with fail
  refine (said_is _ _ _).mono ?_
  rintro e w3 ⟨rfl, hb⟩
  have F2 : Hid (Fr w w3 2 k x) := (F1.out.drewN _).later (hb.mono (F1.out.drewN _).sz)
  clear hb r0 r1 f0 f1 o0 o1 o2 g0 F1 O1 R1
  have r0 := F2.out.r0
  have r1 := F2.out.r1
  have f0 := F2.out.f0
  have f1 := F2.out.f1
  go_wp2
  have E := F2.out.ends 1 z
  refine bodyPost_ret (v := .tuple #[.slice (some ⟨b, off, none⟩) 0 c, .agg #[.int .i64 1, .int .i64 z]]) ?_ rfl ⟨_, rfl, IsL.nil _ _ _ _, E.2.2⟩
  unfold wr at E
  simp [results, Tryd.results24, go_sem, E.1, E.2.1]

theorem kap_one_yes {l : List Int} {i : Nat} (h : 2 * i + 1 < l.length) : kap l i 1 = ((2 * i + 1 : Nat) : Int) := by simp [kap, h]
theorem kap_one_no {l : List Int} {i : Nat} (h : ¬ 2 * i + 1 < l.length) : kap l i 1 = -1 := by simp [kap, h]
theorem kap_two_yes {l : List Int} {i : Nat} (h : 2 * i + 2 < l.length) (hg : gt l (2 * i + 2) < gt l (2 * i + 1)) : kap l i 2 = ((2 * i + 2 : Nat) : Int) := by
  have e : blw l i = 2 * i + 2 := by unfold blw; rw [if_pos ⟨h, hg⟩]
  show (if blw l i < l.length then ((blw l i : Nat) : Int) else -1) = _
  rw [e, if_pos h]
theorem kap_two_no {l : List Int} {i : Nat} (h : ¬ (2 * i + 2 < l.length ∧ gt l (2 * i + 2) < gt l (2 * i + 1))) : kap l i 2 = kap l i 1 := by
  have e : blw l i = 2 * i + 1 := by unfold blw; rw [if_neg h]
  show (if blw l i < l.length then ((blw l i : Nat) : Int) else -1) = _
  rw [e]; rfl
theorem kap_end (l : List Int) (i : Nat) : kap l i 2 = if blw l i < l.length then ((blw l i : Nat) : Int) else -1 := rfl

set_option maxRecDepth 20000 in
set_option maxHeartbeats 8000000 in
theorem RHeap_more {B : Nat} {v : Value} {r : List Int} {z t : Int} {w : World} (k x : Int) (h : IsL B w v (z :: (r ++ [t]))) (hr : r.length ≤ 4) :
    Calls Tryd.prog 24 #[v, .agg #[.int .i64 2, .int .i64 k, .int .i64 x]] w (MadeN w (sink (t :: r)) 1 z) := by
  obtain ⟨xs, hxs⟩ : ∃ xs, xs = z :: (r ++ [t]) := ⟨_, rfl⟩
  rw [← hxs] at h
  have XS : Hid (xs = z :: (r ++ [t])) := hxs
  obtain ⟨m, hm⟩ : ∃ m, m = r.length + 1 := ⟨_, rfl⟩
  have hxl : xs.length = m + 1 := by rw [hxs, hm]; simp
  have hx : xs.length ≤ 60 := by omega
  have M : Hid (m = r.length + 1) := hm
  have hm0 : 0 < m := by omega
  have hm5 : m ≤ 5 := by omega
  clear hxs hm hr
  have F0 : Hid (Fr w (two w 2 k x) 2 k x) := Fr.start w 2 k x
  have X : Hid (IsL B (two w 2 k x) v xs) := h.later F0.out.gr
  have HX : Hid (xs.length ≤ 1000000) := Nat.le_trans hx (by decide)
  obtain ⟨av, cv, rfl⟩ := h.form
  clear h
  go_enter Tryd.func24, Tryd.ntmps24
  go_wp2_with (at_builtin; refine wpList_copy rfl rfl (.const (.slice none 0 0)) (.tmp 14) rfl rfl rfl X.out HX.out ?_)
  intro v1 w1 hown hb
  have hown' : Own (w.heap.size + 2) w1 v1 xs := hown
  have hb' : Below (w.heap.size + 2) (two w 2 k x) w1 := hb
  have F1 : Hid (Fr w w1 2 k x) := F0.out.later hb'
  have O1 : Hid (Own (w.heap.size + 2) w1 v1 xs) := hown'
  clear hown hb hown' hb' F0 X
  have o0 := F1.out.o0
  have o1 := F1.out.o1
  have o2 := F1.out.o2
  have r0 := F1.out.r0
  have r1 := F1.out.r1
  have f0 := F1.out.f0
  have f1 := F1.out.f1
  go_wp2_with fail
  refine (within_is _ _ _ _).mono ?_
  rintro e W ⟨rfl, hW⟩
  rw [hW]; clear hW W
  obtain ⟨b, off, c, rfl, hB, hbl, hc, hR⟩ := O1.out.isL.row (by omega) (by omega)
  have g0 : w1.cell? ⟨b, off, none⟩ = some (.int .i64 z) := by have := hR.cell 0 (by omega); rw [XS.out] at this; exact this
  have gm : w1.cell? ⟨b, off + m, none⟩ = some (.int .i64 t) := by
    have e := hR.cell m (by omega)
    rw [e, XS.out, M.out]
    simp [gt, List.getD]
  have hcut : Row b off (z :: r) w1 := by
    have hl : (z :: r).length = m := by rw [M.out]; rfl
    refine ⟨fun j hj => ?_, fun j hj => hR.froz j (by omega)⟩
    rw [hR.cell j (by omega), XS.out]
    have : (z :: (r ++ [t])) = (z :: r) ++ [t] := rfl
    rw [this]
    simp only [gt, List.getD, List.getElem?_append_left hj]
  have R1 : Hid (Row b off (z :: r) w1) := hcut
  rw [hxl] at hc ⊢
  have hcm : m ≤ c := by omega
  have hci : (m : Int) ≤ (c : Int) := by omega
  have em : ((m : Int) + 1 - 1) = (m : Int) := by omega
  have hp1 : (0 : Int) < (m : Int) + 1 := by omega
  have hp2 : (m : Int) < (m : Int) + 1 := by omega
  have hp3 : ((m : Int) == 0) = false := by rw [beq_eq_false_iff_ne]; omega
  clear hR hcut hc O1
  go_wp2_with fail
  go_quiet (fail)
  go_wp2_with fail
  generalize hW : w1.drewN _ = W1
  have R2 : Hid (Row b off (z :: r) W1) := by rw [← hW]; exact R1.out.drewN _
  have F2 : Hid (Fr w W1 2 k x) := by rw [← hW]; exact F1.out.drewN _
  clear hW R1 F1 o0 o1 o2 r0 r1 f0 f1 g0 gm
  go_loopg [10] m (fun gg s10 wt => ∃ (i : Nat) (l' : List Int), s10 = .int .i64 i ∧ i < m ∧ m ≤ gg + i ∧ Hid (l'.length = m) ∧ Hid (Row b off l' wt) ∧ Hid (Fr w wt 2 k x) ∧ Hid (sinkF gg (l'.set i t) i = sink (t :: r)))
  case atStart =>
    refine ⟨0, z :: r, rfl, hm0, by omega, M.out.symm, R2, F2, ?_⟩
    show sinkF m ((z :: r).set 0 t) 0 = sink (t :: r)
    unfold sink; rw [M.out]; rfl
  case round =>
    obtain ⟨i, l', rfl, hi, hgg, N', R', G, E⟩ := hrel
    clear R2 F2
    obtain ⟨gk0, rfl⟩ : ∃ gk0, gk0 = gk := ⟨_, rfl⟩
    obtain ⟨wq, rfl⟩ : ∃ wq, wq = wr := ⟨_, rfl⟩
    have LB : Hid (Below wq.heap.size wq (wq.alloc (.cells #[.int .i64 (2 * (i : Int) + 1), .int .i64 (2 * (i : Int) + 2)] 3))) := (Below.refl _ _).alloc (Nat.le_refl _) _
    have LC : Hid ((wq.alloc (.cells #[.int .i64 (2 * (i : Int) + 1), .int .i64 (2 * (i : Int) + 2)] 3)).cell? ⟨wq.heap.size, 0, none⟩ = some (.int .i64 (2 * (i : Int) + 1)) ∧ (wq.alloc (.cells #[.int .i64 (2 * (i : Int) + 1), .int .i64 (2 * (i : Int) + 2)] 3)).cell? ⟨wq.heap.size, 1, none⟩ = some (.int .i64 (2 * (i : Int) + 2))) := lit_two _ _ _ _
    have hbq : b < wq.heap.size := World.block_lt_of_cell? _ _ (R'.out.cell i (by rw [N'.out]; exact hi))
    have R3 : Hid (Row b off l' (wq.alloc (.cells #[.int .i64 (2 * (i : Int) + 1), .int .i64 (2 * (i : Int) + 2)] 3))) := R'.out.keep LB.out hbq
    have G3 : Hid (Fr w (wq.alloc (.cells #[.int .i64 (2 * (i : Int) + 1), .int .i64 (2 * (i : Int) + 2)] 3)) 2 k x) := G.out.alloc _
    go_wp2_with fail
    generalize wq.alloc (.cells #[.int .i64 (2 * (i : Int) + 1), .int .i64 (2 * (i : Int) + 2)] 3) = W at LB LC R3 G3 ⊢
    clear R' G LB
    go_loopg [116, 11] 2 (fun gg s116 s11 wt => ∃ j : Nat, j ≤ 2 ∧ 2 - j ≤ gg ∧ s116 = .int .i64 j ∧ s11 = .int .i64 (kap l' i j) ∧ Hid (wt.cell? ⟨wq.heap.size, 0, none⟩ = some (.int .i64 (2 * (i : Int) + 1)) ∧ wt.cell? ⟨wq.heap.size, 1, none⟩ = some (.int .i64 (2 * (i : Int) + 2))) ∧ Hid (Row b off l' wt) ∧ Hid (Fr w wt 2 k x))
    case atStart => exact ⟨0, Nat.zero_le _, by omega, rfl, rfl, LC, R3, G3⟩
    case round =>
      clear LC R3 G3
      obtain ⟨j, hj, hgj, rfl, hu, LC, R3, G3⟩ := hrel
      have p1 : (0 : Int) ≤ 2 * (i : Int) + 1 := by omega
      have p2 : (0 : Int) ≤ 2 * (i : Int) + 2 := by omega
      have e1 : (2 * (i : Int) + 1).toNat = 2 * i + 1 := by omega
      have e2 : (2 * (i : Int) + 2).toNat = 2 * i + 2 := by omega
      have hcase : j = 0 ∨ j = 1 ∨ j = 2 := by omega
      rcases hcase with rfl | rfl | rfl
      · have hu0 : u11 = .int .i64 (-1) := hu
        clear hu
        subst hu0
        have cj := LC.out.1
        by_cases hk : 2 * i + 1 < m
        · have hk1 : 2 * (i : Int) + 1 < (m : Int) := by omega
          go_wp2_with fail
          go_quiet (fail)
          go_wp2
          go_roundg 1
          case measure => omega
          case rel => exact ⟨1, by omega, by omega, rfl, by rw [kap_one_yes (by rw [N'.out]; exact hk)]; exact congrArg _ (by omega), LC, R3.out.drewN _, G3.out.drewN _⟩
        · have hk1 : decide (2 * (i : Int) + 1 < (m : Int)) = false := by simp; omega
          go_wp2_with fail
          go_quiet (fail)
          go_wp2
          go_roundg 1
          case measure => omega
          case rel => exact ⟨1, by omega, by omega, rfl, by rw [kap_one_no (by rw [N'.out]; exact hk)], LC, R3.out.drewN _, G3.out.drewN _⟩
      · have cj := LC.out.2
        by_cases hk : 2 * i + 2 < m
        · have hu0 : u11 = .int .i64 (2 * (i : Int) + 1) := by rw [hu, kap_one_yes (by rw [N'.out]; omega)]; exact congrArg _ (by omega)
          clear hu
          subst hu0
          have hk2 : 2 * (i : Int) + 2 < (m : Int) := by omega
          have hk1 : 2 * (i : Int) + 1 < (m : Int) := by omega
          have hkn : decide (2 * (i : Int) + 1 < 0) = false := by simp; omega
          obtain ⟨x1, hx1⟩ : ∃ x, gt l' (2 * i + 2) = x := ⟨_, rfl⟩
          obtain ⟨y1, hy1⟩ : ∃ y, gt l' (2 * i + 1) = y := ⟨_, rfl⟩
          have g2 : wr.cell? ⟨b, off + (2 * i + 2), none⟩ = some (.int .i64 x1) := by rw [← hx1]; exact R3.out.cell _ (by rw [N'.out]; exact hk)
          have g1 : wr.cell? ⟨b, off + (2 * i + 1), none⟩ = some (.int .i64 y1) := by rw [← hy1]; exact R3.out.cell _ (by rw [N'.out]; omega)
          have X : Hid (gt l' (2 * i + 2) = x1 ∧ gt l' (2 * i + 1) = y1) := ⟨hx1, hy1⟩
          clear hx1 hy1
          by_cases hxy : x1 < y1
          · go_wp2_with fail
            go_quiet (fail)
            go_wp2
            go_roundg 0
            case measure => omega
            case rel => exact ⟨2, by omega, by omega, rfl, by rw [kap_two_yes (by rw [N'.out]; exact hk) (by rw [X.out.1, X.out.2]; exact hxy)]; exact congrArg _ (by omega), LC, R3.out.drewN _, G3.out.drewN _⟩
          · have hd2 : decide (x1 < y1) = false := by simpa using hxy
            go_wp2_with fail
            go_quiet (fail)
            go_wp2
            go_roundg 0
            case measure => omega
            case rel => exact ⟨2, by omega, by omega, rfl, by rw [kap_two_no (by rw [X.out.1, X.out.2]; omega), kap_one_yes (by rw [N'.out]; omega)]; exact congrArg _ (by omega), LC, R3.out.drewN _, G3.out.drewN _⟩
        · have hk2 : decide (2 * (i : Int) + 2 < (m : Int)) = false := by simp; omega
          obtain ⟨kp, hkp⟩ : ∃ kp, kp = kap l' i 1 := ⟨_, rfl⟩
          rw [← hkp] at hu
          have KP : Hid (kap l' i 2 = kp) := by rw [hkp]; exact kap_two_no (by rw [N'.out]; omega)
          clear hkp
          subst hu
          go_wp2_with fail
          go_quiet (fail)
          go_wp2
          go_roundg 0
          case measure => omega
          case rel => exact ⟨2, by omega, by omega, rfl, by rw [KP.out], LC, R3.out.drewN _, G3.out.drewN _⟩
      · by_cases hbm : blw l' i < m
        · obtain ⟨c0, hc0⟩ : ∃ c0, c0 = blw l' i := ⟨_, rfl⟩
          have hu0 : u11 = .int .i64 (c0 : Nat) := by rw [hu, kap_end, N'.out, if_pos hbm, hc0]
          have C0 : Hid (c0 = blw l' i) := hc0
          have hic : i < c0 := by rw [hc0]; exact blw_gt l' i
          rw [← hc0] at hbm
          clear hu hc0
          subst hu0
          have hc1 : (c0 : Int) < (m : Int) := by omega
          have hc2 : (0 : Int) ≤ (c0 : Int) := by omega
          have hc3 : decide ((c0 : Int) < 0) = false := by simp
          have hi1 : (i : Int) < (m : Int) := by omega
          obtain ⟨y1, hy1⟩ : ∃ y, gt l' c0 = y := ⟨_, rfl⟩
          have g1 : wr.cell? ⟨b, off + c0, none⟩ = some (.int .i64 y1) := by rw [← hy1]; exact R3.out.cell _ (by rw [N'.out]; exact hbm)
          have X : Hid (gt l' c0 = y1) := hy1
          clear hy1
          by_cases hyt : t ≤ y1
          · have hyt' : y1 ≥ t := hyt
            have fi : wr.frozen? ⟨b, off + i, none⟩ = false := R3.out.froz i (by rw [N'.out]; exact hi)
            have ci : ∃ u, wr.cell? ⟨b, off + i, none⟩ = some u := ⟨_, R3.out.cell i (by rw [N'.out]; exact hi)⟩
            obtain ⟨u0, ci⟩ := ci
            have R4 : Hid (Row b off (sink (t :: r)) (wr.setCell ⟨b, off + i, none⟩ (.int .i64 t))) := by rw [← E.out, sinkF_stop (by rw [blw_set _ _ _ (by rw [N'.out]; exact hi), ← C0.out, gt_set _ _ _ _ (by rw [N'.out]; exact hi), gt_set _ _ _ _ (by rw [N'.out]; exact hi), if_neg (show c0 ≠ i by omega), if_pos rfl, X.out]; omega)]; exact R3.out.set i t (by rw [N'.out]; exact hi)
            have G4 : Hid (Fr w (wr.setCell ⟨b, off + i, none⟩ (.int .i64 t)) 2 k x) := G3.out.set hB _ _
            go_wp2_with fail
            generalize wr.setCell ⟨b, off + i, none⟩ (.int .i64 t) = w5 at R4 G4 ⊢
            refine (said_is _ _ _).mono ?_
            rintro e w6 ⟨rfl, hb⟩
            have F2 : Hid (Fr w w6 2 k x) := G4.out.later (hb.mono G4.out.sz)
            have I2 : Hid (IsL (w.heap.size + 2) w6 (.slice (some ⟨b, off, none⟩) m c) (sink (t :: r))) := by
              have e := (sink_perm (t :: r)).length_eq
              have e2 : (sink (t :: r)).length = m := by rw [e, M.out]; rfl
              have := (R4.out.isL (B := w.heap.size + 2) (c := c) hB (by omega) (by omega)).later hb
              rwa [e2] at this
            have r0 := F2.out.r0
            have r1 := F2.out.r1
            have f0 := F2.out.f0
            have f1 := F2.out.f1
            clear hb R4 G4 R3 G3 ci fi
            go_wp2
            have E := F2.out.ends 1 z
            refine bodyPost_ret (v := .tuple #[(.slice (some ⟨b, off, none⟩) m c), .agg #[.int .i64 1, .int .i64 z]]) ?_ rfl ⟨(.slice (some ⟨b, off, none⟩) m c), rfl, (I2.out.wr 1 z).mono (by omega), E.2.2⟩
            unfold Go.Proofs.YtbmgjpdfmgcigabDoor.wr at E
            simp [results, Tryd.results24, go_sem, E.1, E.2.1]
          · have hyt' : ¬ y1 ≥ t := hyt
            have hyd : decide (y1 ≥ t) = false := by simpa using hyt
            have fi : wr.frozen? ⟨b, off + i, none⟩ = false := R3.out.froz i (by rw [N'.out]; exact hi)
            have ci : ∃ u, wr.cell? ⟨b, off + i, none⟩ = some u := ⟨_, R3.out.cell i (by rw [N'.out]; exact hi)⟩
            obtain ⟨u0, ci⟩ := ci
            go_wp2
            go_roundg (gk0 - 1)
            case measure => omega
            case rel =>
              refine ⟨c0, l'.set i y1, rfl, hbm, by omega, by rw [List.length_set]; exact N'.out, R3.out.set i y1 (by rw [N'.out]; exact hi), G3.out.set hB _ _, ?_⟩
              have hil : i < l'.length := by rw [N'.out]; exact hi
              have eb : blw (l'.set i t) i = c0 := by rw [blw_set _ _ _ hil]; exact C0.out.symm
              have g2 : gt (l'.set i t) c0 = y1 := by rw [gt_set _ _ _ _ hil, if_neg (show c0 ≠ i by omega)]; exact X.out
              have g3 : gt (l'.set i t) i = t := by rw [gt_set _ _ _ _ hil, if_pos rfl]
              have e := sinkF_go (n := gk0) (l := l'.set i t) (i := i) (by omega) (by rw [eb, List.length_set, N'.out, g2, g3]; exact ⟨hbm, by omega⟩)
              rw [eb] at e
              have es : swp (l'.set i t) i c0 = (l'.set i y1).set c0 t := by unfold swp; rw [g2, g3, List.set_set]
              rw [es] at e
              exact e.symm.trans E.out
        · have hu0 : u11 = .int .i64 (-1) := by rw [hu, kap_end, N'.out, if_neg hbm]
          clear hu
          subst hu0
          have hi1 : (i : Int) < (m : Int) := by omega
          have fi : wr.frozen? ⟨b, off + i, none⟩ = false := R3.out.froz i (by rw [N'.out]; exact hi)
          have ci : ∃ u, wr.cell? ⟨b, off + i, none⟩ = some u := ⟨_, R3.out.cell i (by rw [N'.out]; exact hi)⟩
          obtain ⟨u0, ci⟩ := ci
          have R4 : Hid (Row b off (sink (t :: r)) (wr.setCell ⟨b, off + i, none⟩ (.int .i64 t))) := by rw [← E.out, sinkF_stop (by rw [blw_set _ _ _ (by rw [N'.out]; exact hi), List.length_set, N'.out]; omega)]; exact R3.out.set i t (by rw [N'.out]; exact hi)
          have G4 : Hid (Fr w (wr.setCell ⟨b, off + i, none⟩ (.int .i64 t)) 2 k x) := G3.out.set hB _ _
          go_wp2_with fail
          generalize wr.setCell ⟨b, off + i, none⟩ (.int .i64 t) = w5 at R4 G4 ⊢
          refine (said_is _ _ _).mono ?_
          rintro e w6 ⟨rfl, hb⟩
          have F2 : Hid (Fr w w6 2 k x) := G4.out.later (hb.mono G4.out.sz)
          have I2 : Hid (IsL (w.heap.size + 2) w6 (.slice (some ⟨b, off, none⟩) m c) (sink (t :: r))) := by
            have e := (sink_perm (t :: r)).length_eq
            have e2 : (sink (t :: r)).length = m := by rw [e, M.out]; rfl
            have := (R4.out.isL (B := w.heap.size + 2) (c := c) hB (by omega) (by omega)).later hb
            rwa [e2] at this
          have r0 := F2.out.r0
          have r1 := F2.out.r1
          have f0 := F2.out.f0
          have f1 := F2.out.f1
          clear hb R4 G4 R3 G3 ci fi
          go_wp2
          have E := F2.out.ends 1 z
          refine bodyPost_ret (v := .tuple #[(.slice (some ⟨b, off, none⟩) m c), .agg #[.int .i64 1, .int .i64 z]]) ?_ rfl ⟨(.slice (some ⟨b, off, none⟩) m c), rfl, (I2.out.wr 1 z).mono (by omega), E.2.2⟩
          unfold Go.Proofs.YtbmgjpdfmgcigabDoor.wr at E
          simp [results, Tryd.results24, go_sem, E.1, E.2.1]
end Go.Proofs.YtbmgjpdfmgcigabDoor
