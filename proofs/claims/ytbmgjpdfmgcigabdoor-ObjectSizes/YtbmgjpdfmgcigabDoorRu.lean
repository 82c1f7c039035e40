/- The reference's Heap, where something is put in. -/
import Derived.Test.YtbmgjpdfmgcigabDoorRk
namespace Go.Proofs.YtbmgjpdfmgcigabDoor
set_option maxRecDepth 20000
open Go.RowKit

theorem swp_comm (l : List Int) {i j : Nat} (h : i ≠ j) : swp l i j = swp l j i := by
  unfold swp
  exact List.set_comm _ _ h
theorem Fr.set {w W : World} {o k x : Int} (h : Fr w W o k x) {b : Nat} (hb : w.heap.size + 2 ≤ b) (j : Nat) (v : Value) : Fr w (W.setCell ⟨b, j, none⟩ v) o k x := h.later ((Below.refl _ W).setCell hb v)
theorem Fr.drewN {w W : World} {o k x : Int} (h : Fr w W o k x) (q : Nat) : Fr w (W.drewN q) o k x := h.later ((below_drewN W q).mono h.sz)
theorem Fr.drew {w W : World} {o k x : Int} (h : Fr w W o k x) : Fr w W.drew o k x := h.later ((Below.refl _ W).drew)

set_option maxRecDepth 20000 in
set_option maxHeartbeats 4000000 in
theorem RHeap_put {B : Nat} {v : Value} {xs : List Int} {w : World} (k x : Int) (h : IsL B w v xs) (h6 : xs.length < 6) :
    Calls Tryd.prog 24 #[v, .agg #[.int .i64 1, .int .i64 k, .int .i64 x]] w (MadeN w (rise (xs ++ [x])) 1 0) := by
  have hx : xs.length ≤ 60 := by omega
  have F0 : Hid (Fr w (two w 1 k x) 1 k x) := Fr.start w 1 k x
  have X : Hid (IsL B (two w 1 k x) v xs) := h.later F0.out.gr
  have HX : Hid (xs.length ≤ 1000000) := Nat.le_trans hx (by decide)
  obtain ⟨av, cv, rfl⟩ := h.form
  clear h
  go_enter Tryd.func24, Tryd.ntmps24
  go_wp2_with (at_builtin; refine wpList_copy rfl rfl (.const (.slice none 0 0)) (.tmp 14) rfl rfl rfl X.out HX.out ?_)
  intro v1 w1 hown hb
  have hown' : Own (w.heap.size + 2) w1 v1 xs := hown
  have hb' : Below (w.heap.size + 2) (two w 1 k x) w1 := hb
  have F1 : Hid (Fr w w1 1 k x) := F0.out.later hb'
  have O1 : Hid (Own (w.heap.size + 2) w1 v1 xs) := hown'
  clear hown hb hown' hb' F0 X
  have o0 := F1.out.o0
  have o1 := F1.out.o1
  have o2 := F1.out.o2
  have r0 := F1.out.r0
  have r1 := F1.out.r1
  have f0 := F1.out.f0
  have f1 := F1.out.f1
  go_wp2_with fail
  refine (within_is _ _ _ _).mono ?_
  rintro e W ⟨rfl, hW⟩
  rw [hW]; clear hW W
  obtain ⟨a, cp, rfl⟩ := O1.out.form
  have hl6 : (xs.length : Int) < 6 := by omega
  have n1 : Hid (w.heap.size + 2 ≤ (w1.alloc (.cells #[.int .i64 x] 3)).heap.size) := Nat.le_trans F1.out.sz (by simp)
  have n2 : Hid (Own (w.heap.size + 2) (w1.alloc (.cells #[.int .i64 x] 3)) (.slice a xs.length cp) xs) := O1.out.alloc _
  have n3 : Hid (IsL 0 (w1.alloc (.cells #[.int .i64 x] 3)) (.slice (some ⟨w1.heap.size, 0, none⟩) 1 1) [x]) := IsL.lit w1 [x] (Nat.succ_pos _)
  have n4 : Hid (xs.length + [x].length ≤ 1000000) := (show xs.length + [x].length ≤ 1000000 by simp; omega)
  go_wp2_with (at_builtin; refine wpList_onto rfl rfl (.tmp 43) (.tmp 46) rfl rfl rfl n1.out n2.out n3.out n4.out ?_)
  intro v2 w2 hO hb
  obtain ⟨b, off, c, rfl, hB, hbl, hc, hR⟩ := hO.isL.row (by omega) (by simp)
  have F2 : Hid (Fr w w2 1 k x) := (F1.out.alloc _).later hb
  obtain ⟨l, hl⟩ : ∃ l, l = xs ++ [x] := ⟨_, rfl⟩
  have L : Hid (l = xs ++ [x]) := hl
  have R2 : Hid (Row b off l w2) := by rw [hl]; exact hR
  have HC : Hid (l.length ≤ c) := by rw [hl]; exact hc
  have en : (xs ++ [x]).length = xs.length + 1 := by simp
  have N : Hid (l.length = xs.length + 1) := by rw [hl]; exact en
  rw [en]
  clear hO hb hR hl hc en n1 n2 n3 n4 F1 O1 o0 o1 o2 r0 r1 f0 f1
  go_wp2_with fail
  go_loopg [6] (xs.length + 1) (fun gg s6 wt => ∃ (i : Nat) (l' : List Int), s6 = .int .i64 i ∧ i < xs.length + 1 ∧ i ≤ gg ∧ Hid (l'.length = xs.length + 1) ∧ Hid (Row b off l' wt) ∧ Hid (Fr w wt 1 k x) ∧ Hid (riseF gg l' i = rise (xs ++ [x])))
  case atStart =>
    refine ⟨xs.length, l, rfl, by omega, by omega, N, R2, F2, ?_⟩
    show riseF (xs.length + 1) l xs.length = rise (xs ++ [x])
    rw [← L.out]; unfold rise; rw [N.out, Nat.add_sub_cancel]
  case round =>
    obtain ⟨i, l', rfl, hi, hgg, N', R', G, E⟩ := hrel
    clear R2 F2
    obtain ⟨wq, rfl⟩ : ∃ wq, wq = wr := ⟨_, rfl⟩
    by_cases hi0 : i = 0
    · subst hi0
      have r0 := G.out.r0
      have r1 := G.out.r1
      have f0 := G.out.f0
      have f1 := G.out.f1
      have I' : Hid (IsL (w.heap.size + 2) wq (.slice (some ⟨b, off, none⟩) (xs.length + 1) c) (rise (xs ++ [x]))) := by
        rw [← E.out, riseF_stop (by omega), ← N'.out]
        exact R'.out.isL hB (by rw [N'.out]; omega) (by rw [N'.out, ← N.out]; exact HC.out)
      go_wp2_with fail
      refine (said_is _ _ _).mono ?_
      rintro e w3 ⟨rfl, hb⟩
      have F2 : Hid (Fr w w3 1 k x) := G.out.later (hb.mono G.out.sz)
      have I2 : Hid (IsL (w.heap.size + 2) w3 (.slice (some ⟨b, off, none⟩) (xs.length + 1) c) (rise (xs ++ [x]))) := I'.out.later hb
      clear hb r0 r1 f0 f1 G R' I'
      have r0 := F2.out.r0
      have r1 := F2.out.r1
      have f0 := F2.out.f0
      have f1 := F2.out.f1
      go_wp2
      have E := F2.out.ends 1 0
      refine bodyPost_ret (v := .tuple #[(.slice (some ⟨b, off, none⟩) (xs.length + 1) c), .agg #[.int .i64 1, .int .i64 0]]) ?_ rfl ⟨(.slice (some ⟨b, off, none⟩) (xs.length + 1) c), rfl, (I2.out.wr 1 0).mono (by omega), E.2.2⟩
      unfold wr at E
      simp [results, Tryd.results24, go_sem, E.1, E.2.1]
    · obtain ⟨p, hp⟩ : ∃ p, p = (i - 1) / 2 := ⟨_, rfl⟩
      obtain ⟨x1, hx1⟩ : ∃ x, gt l' i = x := ⟨_, rfl⟩
      obtain ⟨y1, hy1⟩ : ∃ y, gt l' p = y := ⟨_, rfl⟩
      have hpn : p < xs.length + 1 := by omega
      have hpi : p < i := by omega
      have g1 : wq.cell? ⟨b, off + i, none⟩ = some (.int .i64 x1) := by rw [← hx1]; exact R'.out.cell i (by rw [N'.out]; exact hi)
      have g2 : wq.cell? ⟨b, off + p, none⟩ = some (.int .i64 y1) := by rw [← hy1]; exact R'.out.cell p (by rw [N'.out]; exact hpn)
      have z1 : wq.frozen? ⟨b, off + i, none⟩ = false := R'.out.froz i (by rw [N'.out]; exact hi)
      have z2 : wq.frozen? ⟨b, off + p, none⟩ = false := R'.out.froz p (by rw [N'.out]; exact hpn)
      have X : Hid (p = (i - 1) / 2 ∧ gt l' i = x1 ∧ gt l' p = y1) := ⟨hp, hx1, hy1⟩
      have ep : ((i : Int) - 1) / 2 = (p : Int) := by omega
      have hi0' : (0 : Int) < (i : Int) := by omega
      clear hp hx1 hy1
      have hi1 : (i : Int) < (xs.length : Int) + 1 := by omega
      have hi2 : (0 : Int) ≤ (i : Int) := by omega
      have hp1 : (p : Int) < (xs.length : Int) + 1 := by omega
      have hp2 : (0 : Int) ≤ (p : Int) := by omega
      have r0 := G.out.r0
      have r1 := G.out.r1
      have f0 := G.out.f0
      have f1 := G.out.f1
      by_cases hxy : y1 ≤ x1
      · have I' : Hid (IsL (w.heap.size + 2) wq (.slice (some ⟨b, off, none⟩) (xs.length + 1) c) (rise (xs ++ [x]))) := by
          rw [← E.out, riseF_stop (by rw [← X.out.1, X.out.2.1, X.out.2.2]; omega), ← N'.out]
          exact R'.out.isL hB (by rw [N'.out]; omega) (by rw [N'.out, ← N.out]; exact HC.out)
        go_wp2_with fail
        try rw [ep]
        go_quiet (fail)
        go_wp2_with fail
        refine (said_is _ _ _).mono ?_
        rintro e w3 ⟨rfl, hb⟩
        have F2 : Hid (Fr w w3 1 k x) := (G.out.drewN _).later (hb.mono (G.out.drewN _).sz)
        have I2 : Hid (IsL (w.heap.size + 2) w3 (.slice (some ⟨b, off, none⟩) (xs.length + 1) c) (rise (xs ++ [x]))) := (I'.out.later (below_drewN _ _)).later hb
        clear hb r0 r1 f0 f1 g1 g2 z1 z2 G R' I'
        have r0 := F2.out.r0
        have r1 := F2.out.r1
        have f0 := F2.out.f0
        have f1 := F2.out.f1
        go_wp2
        have E := F2.out.ends 1 0
        refine bodyPost_ret (v := .tuple #[(.slice (some ⟨b, off, none⟩) (xs.length + 1) c), .agg #[.int .i64 1, .int .i64 0]]) ?_ rfl ⟨(.slice (some ⟨b, off, none⟩) (xs.length + 1) c), rfl, (I2.out.wr 1 0).mono (by omega), E.2.2⟩
        unfold wr at E
        simp [results, Tryd.results24, go_sem, E.1, E.2.1]
      · have hd2 : decide (y1 ≤ x1) = false := by simpa using hxy
        go_wp2_with fail
        try rw [ep]
        go_quiet (fail)
        go_wp2_with fail
        generalize hwq : wq.drewN _ = wz
        have q1 : wz.cell? ⟨b, off + i, none⟩ = some (.int .i64 x1) := by rw [← hwq]; exact g1
        have q2 : wz.cell? ⟨b, off + p, none⟩ = some (.int .i64 y1) := by rw [← hwq]; exact g2
        have k1 : wz.frozen? ⟨b, off + i, none⟩ = false := by rw [← hwq]; exact z1
        have k2 : wz.frozen? ⟨b, off + p, none⟩ = false := by rw [← hwq]; exact z2
        have R2 : Hid (Row b off l' wz) := by rw [← hwq]; exact R'.out.drewN _
        have G2 : Hid (Fr w wz 1 k x) := by rw [← hwq]; exact G.out.drewN _
        clear hwq g1 g2 z1 z2 r0 r1 f0 f1 R' G
        go_region
        all_goals
          go_wp2
          go_roundg (gk - 1)
          case measure => omega
          case rel =>
            have ei := X.out.1
            refine ⟨p, swp l' i p, rfl, hpn, by omega, (swp_len _ _ _).trans N'.out, ?_, (((G2.out.set hB _ _).set hB _ _).drew), ?_⟩
            · rw [swp_comm l' (show i ≠ p by omega)]
              exact (R2.out.swap p i y1 x1 (by rw [N'.out]; exact hpn) (by rw [N'.out]; exact hi) X.out.2.2 X.out.2.1).drew
            · have e := riseF_go (n := gk) (l := l') (i := i) (by omega) (by omega) (by rw [← ei, X.out.2.1, X.out.2.2]; omega)
              rw [← ei] at e
              exact e.symm.trans E.out
end Go.Proofs.YtbmgjpdfmgcigabDoor
