/- Package heap's below and sink, by their contracts. -/
import Derived.Test.YtbmgjpdfmgcigabDoorHs
namespace Go.Proofs.YtbmgjpdfmgcigabDoor
set_option maxRecDepth 20000
open Go.RowKit

set_option maxHeartbeats 2000000 in
theorem below_is {b off c : Nat} {l : List Int} {w : World} (R : Row b off l w) (i : Nat) (hi : i < l.length) (hl : l.length ≤ 1000000) :
    Calls Tryd.prog 77 #[.slice (some ⟨b, off, none⟩) l.length c, .int .i64 i] w fun e w' => e = .returned (.int .i64 (blw l i : Nat)) ∧ ∃ q, w' = w.drewN q := by
  obtain ⟨n, hn⟩ : ∃ n, n = l.length := ⟨_, rfl⟩
  have R0 : Hid (Row b off l w) := R
  have N : Hid (n = l.length) := hn
  rw [← hn] at hi hl ⊢
  clear hn R
  have p1 : (0 : Int) ≤ 2 * (i : Int) + 1 := by omega
  have p2 : (0 : Int) ≤ 2 * (i : Int) + 2 := by omega
  have e1 : (2 * (i : Int) + 1).toNat = 2 * i + 1 := by omega
  have e2 : (2 * (i : Int) + 2).toNat = 2 * i + 2 := by omega
  have im : (i : Int) < (n : Int) := by omega
  by_cases h2 : 2 * i + 2 < n
  · obtain ⟨x, hx⟩ : ∃ x, gt l (2 * i + 2) = x := ⟨_, rfl⟩
    obtain ⟨y, hy⟩ : ∃ y, gt l (2 * i + 1) = y := ⟨_, rfl⟩
    have g2 : w.cell? ⟨b, off + (2 * i + 2), none⟩ = some (.int .i64 x) := by rw [← hx]; exact R0.out.cell _ (by rw [← N.out]; exact h2)
    have g1 : w.cell? ⟨b, off + (2 * i + 1), none⟩ = some (.int .i64 y) := by rw [← hy]; exact R0.out.cell _ (by rw [← N.out]; omega)
    have X : Hid (gt l (2 * i + 2) = x ∧ gt l (2 * i + 1) = y) := ⟨hx, hy⟩
    clear hx hy
    have c1' : 2 * (i : Int) + 1 < (n : Int) := by omega
    have c2' : 2 * (i : Int) + 2 < (n : Int) := by omega
    by_cases hxy : x < y
    · go_enter Tryd.func77, Tryd.ntmps77
      go_wp2_with fail
      go_quiet (fail)
      go_wp2
      go_ret
      have e : blw l i = 2 * i + 2 := by unfold blw; rw [← N.out, X.out.1, X.out.2, if_pos ⟨h2, hxy⟩]
      refine ⟨?_, _, rfl⟩
      show Ending.returned (.int .i64 (2 * (i : Int) + 2)) = _
      rw [e]; exact ret_int (by omega)
    · have hd2 : decide (x < y) = false := by simpa using hxy
      go_enter Tryd.func77, Tryd.ntmps77
      go_wp2_with fail
      go_quiet (fail)
      go_wp2
      go_ret
      have e : blw l i = 2 * i + 1 := by unfold blw; rw [← N.out, X.out.1, X.out.2, if_neg (by omega)]
      refine ⟨?_, _, rfl⟩
      show Ending.returned (.int .i64 (2 * (i : Int) + 1)) = _
      rw [e]; exact ret_int (by omega)
  · have hd2 : decide (2 * (i : Int) + 2 < (n : Int)) = false := by simp; omega
    go_enter Tryd.func77, Tryd.ntmps77
    go_wp2_with fail
    go_quiet (fail)
    go_wp2
    go_ret
    have e : blw l i = 2 * i + 1 := by unfold blw; rw [← N.out, if_neg (by omega)]
    refine ⟨?_, _, rfl⟩
    show Ending.returned (.int .i64 (2 * (i : Int) + 1)) = _
    rw [e]; exact ret_int (by omega)

theorem sinkF_stop {n : Nat} {l : List Int} {i : Nat} (h : ¬ (blw l i < l.length ∧ gt l (blw l i) < gt l i)) : sinkF n l i = l := by
  cases n with
  | zero => rfl
  | succ n => unfold sinkF; rw [if_neg h]
theorem sinkF_go {n : Nat} {l : List Int} {i : Nat} (hn : 0 < n) (h : blw l i < l.length ∧ gt l (blw l i) < gt l i) : sinkF n l i = sinkF (n - 1) (swp l i (blw l i)) (blw l i) := by
  obtain ⟨m, rfl⟩ : ∃ m, n = m + 1 := ⟨n - 1, by omega⟩
  rw [sinkF, if_pos h, Nat.add_sub_cancel]

set_option maxHeartbeats 2000000 in
theorem sink_is {b off c : Nat} {l : List Int} {w : World} (R : Row b off l w) (h0 : 0 < l.length) (hl : l.length ≤ 1000000) :
    Calls Tryd.prog 68 #[.slice (some ⟨b, off, none⟩) l.length c] w fun e w' => e = .returned (.tuple #[]) ∧ Row b off (sink l) w' ∧ w.grownBy w' (some b) := by
  have R0 : Hid (Row b off l w) := R
  clear R
  obtain ⟨n, hn⟩ : ∃ n, n = l.length := ⟨_, rfl⟩
  have N : Hid (n = l.length) := hn
  have B0 : Hid (Calls Tryd.prog 77 #[.slice (some ⟨b, off, none⟩) n c, .int .i64 0] w fun e w' => e = .returned (.int .i64 (blw l 0 : Nat)) ∧ ∃ q, w' = w.drewN q) := by
    have := below_is (c := c) R0.out 0 h0 hl
    rw [hn]; exact this
  rw [← hn] at h0 hl ⊢
  clear hn
  have hn1 : (1 : Int) ≤ (n : Int) := by omega
  go_enter Tryd.func68, Tryd.ntmps68
  go_wp2_with fail
  refine B0.out.mono ?_
  rintro e w1 ⟨rfl, q, hw⟩
  have R1 : Hid (Row b off l w1) := by rw [hw]; exact R0.out.drewN q
  have G1 : Hid (w.grownBy w1 (some b)) := by rw [hw]; exact grown_drewN ⟨rfl, rfl, rfl, Nat.le_refl _, fun _ _ _ => rfl⟩ _
  clear hw B0 R0
  obtain ⟨c0, hc0⟩ : ∃ c0, c0 = blw l 0 := ⟨_, rfl⟩
  have C0 : Hid (c0 = blw l 0) := hc0
  have c0n : c0 ≤ 2 * n := by rw [hc0]; unfold blw; split <;> omega
  rw [← hc0]
  clear hc0
  go_wp2_with fail
  go_loopg [2, 3] n (fun gg s2 s3 wt => ∃ (i k : Nat) (l' : List Int), s2 = .int .i64 i ∧ s3 = .int .i64 k ∧ i < n ∧ i < k ∧ k ≤ 2 * n + 2 ∧ n ≤ gg + i ∧ Hid (k = blw l' i) ∧ Hid (l'.length = n) ∧ Hid (Row b off l' wt) ∧ Hid (w.grownBy wt (some b)) ∧ Hid (sinkF gg l' i = sink l))
  case atStart =>
    refine ⟨0, c0, l, rfl, rfl, by omega, ?_, by omega, by omega, C0.out, N.out.symm, R1, G1, ?_⟩
    · rw [C0.out]; exact blw_gt l 0
    · show sinkF n l 0 = sink l
      unfold sink; rw [N.out]
  case round =>
    obtain ⟨i, k, l', rfl, rfl, hi, hik, hk2, hgg, K', N', R', G, E⟩ := hrel
    clear R1 G1
    have hi1 : (i : Int) < (n : Int) := by omega
    have hi2 : (0 : Int) ≤ (i : Int) := by omega
    have hk0 : (0 : Int) ≤ (k : Int) := by omega
    by_cases hkn : k < n
    · have hk1 : (k : Int) < (n : Int) := by omega
      obtain ⟨x, hx⟩ : ∃ x, gt l' i = x := ⟨_, rfl⟩
      obtain ⟨y, hy⟩ : ∃ y, gt l' k = y := ⟨_, rfl⟩
      have g1 : wr.cell? ⟨b, off + i, none⟩ = some (.int .i64 x) := by rw [← hx]; exact R'.out.cell i (by rw [N'.out]; exact hi)
      have g2 : wr.cell? ⟨b, off + k, none⟩ = some (.int .i64 y) := by rw [← hy]; exact R'.out.cell k (by rw [N'.out]; exact hkn)
      have f1 : wr.frozen? ⟨b, off + i, none⟩ = false := R'.out.froz i (by rw [N'.out]; exact hi)
      have f2 : wr.frozen? ⟨b, off + k, none⟩ = false := R'.out.froz k (by rw [N'.out]; exact hkn)
      have X : Hid (gt l' i = x ∧ gt l' k = y) := ⟨hx, hy⟩
      clear hx hy
      by_cases hxy : y < x
      · go_wp2_with fail
        go_quiet (fail)
        go_wp2_with fail
        generalize hwq : wr.drewN _ = wq
        have q1 : wq.cell? ⟨b, off + i, none⟩ = some (.int .i64 x) := by rw [← hwq]; exact g1
        have q2 : wq.cell? ⟨b, off + k, none⟩ = some (.int .i64 y) := by rw [← hwq]; exact g2
        have k1 : wq.frozen? ⟨b, off + i, none⟩ = false := by rw [← hwq]; exact f1
        have k2 : wq.frozen? ⟨b, off + k, none⟩ = false := by rw [← hwq]; exact f2
        have R2 : Hid (Row b off (swp l' i k) ((wq.setCell ⟨b, off + i, none⟩ (.int .i64 y)).setCell ⟨b, off + k, none⟩ (.int .i64 x)).drew) := by rw [← hwq]; exact ((R'.out.drewN _).swap i k x y (by rw [N'.out]; exact hi) (by rw [N'.out]; exact hkn) X.out.1 X.out.2).drew
        have G2 : Hid (w.grownBy ((wq.setCell ⟨b, off + i, none⟩ (.int .i64 y)).setCell ⟨b, off + k, none⟩ (.int .i64 x)).drew (some b)) := by rw [← hwq]; exact grown_drew (grown_set (grown_set (grown_drewN G.out _) _ _) _ _)
        have B2 : Hid (Calls Tryd.prog 77 #[.slice (some ⟨b, off, none⟩) n c, .int .i64 k] ((wq.setCell ⟨b, off + i, none⟩ (.int .i64 y)).setCell ⟨b, off + k, none⟩ (.int .i64 x)).drew fun e w' => e = .returned (.int .i64 (blw (swp l' i k) k : Nat)) ∧ ∃ q, w' = (((wq.setCell ⟨b, off + i, none⟩ (.int .i64 y)).setCell ⟨b, off + k, none⟩ (.int .i64 x)).drew).drewN q) := by
          have := below_is (c := c) R2.out k (by rw [swp_len, N'.out]; exact hkn) (by rw [swp_len, N'.out]; exact hl)
          rw [swp_len, N'.out] at this
          exact this
        clear hwq g1 g2 f1 f2 R' G
        go_region
        all_goals
          go_wp2_with fail
          refine B2.out.mono ?_
          rintro e w3 ⟨rfl, q, hw⟩
          have R3 : Hid (Row b off (swp l' i k) w3) := by rw [hw]; exact R2.out.drewN q
          have G3 : Hid (w.grownBy w3 (some b)) := by rw [hw]; exact grown_drewN G2.out q
          clear hw B2 R2 G2
          go_wp2
          go_roundg (gk - 1)
          case measure => omega
          case rel =>
            have ek := K'.out
            refine ⟨k, blw (swp l' i k) k, swp l' i k, rfl, rfl, hkn, blw_gt _ _, by unfold blw; split <;> omega, by omega, rfl, (swp_len _ _ _).trans N'.out, R3, G3, ?_⟩
            have e := sinkF_go (n := gk) (l := l') (i := i) (by omega) (by rw [← ek, N'.out, X.out.1, X.out.2]; exact ⟨hkn, hxy⟩)
            rw [← ek] at e
            exact e.symm.trans E.out
      · have hd2 : decide (y < x) = false := by simpa using hxy
        go_wp2_with fail
        go_quiet (fail)
        go_wp2
        go_end0
        have e := E.out
        rw [sinkF_stop (by rw [← K'.out, X.out.1, X.out.2]; omega)] at e
        rw [← e]
        exact ⟨rfl, R'.out.drewN _, grown_drewN G.out _⟩
    · have hd2 : decide ((k : Int) < (n : Int)) = false := by simp; omega
      go_wp2_with fail
      go_quiet (fail)
      go_wp2
      go_end0
      have e := E.out
      rw [sinkF_stop (by rw [← K'.out, N'.out]; omega)] at e
      rw [← e]
      exact ⟨rfl, R'.out.drewN _, grown_drewN G.out _⟩
end Go.Proofs.YtbmgjpdfmgcigabDoor
