/- Package heap's rise and sink, by their contracts. -/
import Derived.Test.YtbmgjpdfmgcigabDoorHr
import Derived.RegionTactic
import Derived.BigRegion
namespace Go.Proofs.YtbmgjpdfmgcigabDoor
set_option maxRecDepth 20000
open Go.RowKit

theorem Row.set {b off : Nat} {l : List Int} {w : World} (h : Row b off l w) (j : Nat) (x : Int) (hj : j < l.length) : Row b off (l.set j x) (w.setCell ⟨b, off + j, none⟩ (.int .i64 x)) where
  cell k hk := by
    rw [List.length_set] at hk
    rw [gt_set l j k x hj]
    by_cases e : k = j
    · subst e
      rw [World.cell?_setCell_same _ _ _ (h.cell k hk), if_pos rfl]
    · rw [World.cell?_setCell_other, h.cell k hk, if_neg e]
      intro hh
      injection hh with _ h2
      omega
  froz k hk := by
    rw [List.length_set] at hk
    simpa using h.froz k hk
theorem Row.swap {b off : Nat} {l : List Int} {w : World} (h : Row b off l w) (i j : Nat) (x y : Int) (hi : i < l.length) (hj : j < l.length) (hx : gt l i = x) (hy : gt l j = y) : Row b off (swp l i j) ((w.setCell ⟨b, off + i, none⟩ (.int .i64 y)).setCell ⟨b, off + j, none⟩ (.int .i64 x)) := by
  subst hx hy
  exact (h.set i _ hi).set j _ (by simpa using hj)
theorem Row.drew {b off : Nat} {l : List Int} {w : World} (h : Row b off l w) : Row b off l w.drew := ⟨h.cell, h.froz⟩
theorem Row.drewN {b off : Nat} {l : List Int} {w : World} (h : Row b off l w) (q : Nat) : Row b off l (w.drewN q) := ⟨h.cell, h.froz⟩
theorem grown_set {w w' : World} {b : Nat} (h : w.grownBy w' (some b)) (o : Nat) (v : Value) : w.grownBy (w'.setCell ⟨b, o, none⟩ v) (some b) :=
  ⟨h.os, h.tape, h.output, by simpa [World.setCell] using h.size, fun k hk hne => (Below.heap_setCell _ _ _ k (fun e => hne (by rw [e]))).trans (h.block k hk hne)⟩
theorem grown_drew {w w' : World} {r : Option Nat} (h : w.grownBy w' r) : w.grownBy w'.drew r := ⟨h.os, h.tape, h.output, h.size, h.block⟩
theorem grown_drewN {w w' : World} {r : Option Nat} (h : w.grownBy w' r) (q : Nat) : w.grownBy (w'.drewN q) r := ⟨h.os, h.tape, h.output, h.size, h.block⟩

theorem riseF_stop {n : Nat} {l : List Int} {i : Nat} (h : ¬ (0 < i ∧ gt l i < gt l ((i - 1) / 2))) : riseF n l i = l := by
  cases n with
  | zero => rfl
  | succ n => unfold riseF; rw [if_neg h]
theorem riseF_go {n : Nat} {l : List Int} {i : Nat} (hn : 0 < n) (h : 0 < i) (h2 : gt l i < gt l ((i - 1) / 2)) : riseF n l i = riseF (n - 1) (swp l i ((i - 1) / 2)) ((i - 1) / 2) := by
  obtain ⟨m, rfl⟩ : ∃ m, n = m + 1 := ⟨n - 1, by omega⟩
  rw [riseF, if_pos ⟨h, h2⟩, Nat.add_sub_cancel]

set_option maxHeartbeats 2000000 in
theorem rise_is {b off c : Nat} {l : List Int} {w : World} (R : Row b off l w) (h0 : 0 < l.length) (hl : l.length ≤ 1000000) :
    Calls Tryd.prog 67 #[.slice (some ⟨b, off, none⟩) l.length c] w fun e w' => e = .returned (.tuple #[]) ∧ Row b off (rise l) w' ∧ w.grownBy w' (some b) := by
  have R0 : Hid (Row b off l w) := R
  clear R
  obtain ⟨n, hn⟩ : ∃ n, n = l.length := ⟨_, rfl⟩
  have N : Hid (n = l.length) := hn
  rw [← hn] at h0 hl ⊢
  clear hn
  have hn1 : (1 : Int) ≤ (n : Int) := by omega
  go_enter Tryd.func67, Tryd.ntmps67
  go_wp2_with fail
  go_loopg [2] n (fun gg s2 wt => ∃ (i : Nat) (l' : List Int), s2 = .int .i64 i ∧ i < n ∧ i ≤ gg ∧ Hid (l'.length = n) ∧ Hid (Row b off l' wt) ∧ Hid (w.grownBy wt (some b)) ∧ Hid (riseF gg l' i = rise l))
  case atStart =>
    refine ⟨n - 1, l, by go_num, by omega, by omega, N.out.symm, R0, ⟨rfl, rfl, rfl, Nat.le_refl _, fun _ _ _ => rfl⟩, ?_⟩
    show riseF n l (n - 1) = rise l
    unfold rise; rw [N.out]
  case round =>
    obtain ⟨i, l', rfl, hi, hgg, N', R', G, E⟩ := hrel
    clear R0
    by_cases hi0 : i = 0
    · subst hi0
      have hd : decide ((0 : Int) < ((0 : Nat) : Int)) = false := by decide
      go_wp2_with fail
      go_quiet (fail)
      go_wp2
      go_end0
      have e := E.out
      rw [riseF_stop (by omega)] at e
      rw [← e]
      exact ⟨rfl, R'.out.drewN _, grown_drewN G.out _⟩
    · have hp0 : 0 < i := by omega
      have hd : (0 : Int) < (i : Int) := by omega
      obtain ⟨p, hp⟩ : ∃ p, p = (i - 1) / 2 := ⟨_, rfl⟩
      obtain ⟨x, hx⟩ : ∃ x, gt l' i = x := ⟨_, rfl⟩
      obtain ⟨y, hy⟩ : ∃ y, gt l' p = y := ⟨_, rfl⟩
      have hpn : p < n := by omega
      have g1 : wr.cell? ⟨b, off + i, none⟩ = some (.int .i64 x) := by rw [← hx]; exact R'.out.cell i (by rw [N'.out]; exact hi)
      have g2 : wr.cell? ⟨b, off + p, none⟩ = some (.int .i64 y) := by rw [← hy]; exact R'.out.cell p (by rw [N'.out]; exact hpn)
      have f1 : wr.frozen? ⟨b, off + i, none⟩ = false := R'.out.froz i (by rw [N'.out]; exact hi)
      have f2 : wr.frozen? ⟨b, off + p, none⟩ = false := R'.out.froz p (by rw [N'.out]; exact hpn)
      have A : Hid (∀ W, Calls Tryd.prog 47 #[.int .i64 i] W fun e w' => e = .returned (.int .i64 (p : Int)) ∧ w' = W) := by rw [hp]; exact above_is i hp0 (by omega)
      have X : Hid (p = (i - 1) / 2 ∧ gt l' i = x ∧ gt l' p = y) := ⟨hp, hx, hy⟩
      have hpi : p < i := by omega
      clear hp hx hy
      have hi1 : (i : Int) < (n : Int) := by omega
      have hi2 : (0 : Int) ≤ (i : Int) := by omega
      have hp1 : (p : Int) < (n : Int) := by omega
      have hp2 : (0 : Int) ≤ (p : Int) := by omega
      by_cases hxy : x < y
      · go_wp2_with fail
        go_quiet ((go_at_call 47; exact Calls.quiet_of_same (A.out _)))
        go_wp2_with fail
        generalize hwq : wr.drewN _ = wq
        have q1 : wq.cell? ⟨b, off + i, none⟩ = some (.int .i64 x) := by rw [← hwq]; exact g1
        have q2 : wq.cell? ⟨b, off + p, none⟩ = some (.int .i64 y) := by rw [← hwq]; exact g2
        have k1 : wq.frozen? ⟨b, off + i, none⟩ = false := by rw [← hwq]; exact f1
        have k2 : wq.frozen? ⟨b, off + p, none⟩ = false := by rw [← hwq]; exact f2
        have R2 : Hid (Row b off l' wq) := by rw [← hwq]; exact R'.out.drewN _
        have G2 : Hid (w.grownBy wq (some b)) := by rw [← hwq]; exact grown_drewN G.out _
        clear hwq g1 g2 f1 f2 R' G
        go_region_with (go_at_call 47; refine (A.out _).mono ?_; rintro e w3 ⟨rfl, hw⟩; rw [hw]; clear hw)
        all_goals
          go_wp2_with fail
          refine (A.out _).mono ?_
          rintro e w3 ⟨rfl, hw⟩
          rw [hw]; clear hw
          go_wp2
          go_roundg (gk - 1)
          case measure => omega
          case rel =>
            have ei := X.out.1
            refine ⟨p, swp l' i p, rfl, hpn, by omega, (swp_len _ _ _).trans N'.out, (R2.out.swap i p x y (by rw [N'.out]; exact hi) (by rw [N'.out]; exact hpn) X.out.2.1 X.out.2.2).drew, grown_drew (grown_set (grown_set G2.out _ _) _ _), ?_⟩
            have e := riseF_go (n := gk) (l := l') (i := i) (by omega) hp0 (by rw [← ei, X.out.2.1, X.out.2.2]; exact hxy)
            rw [← ei] at e
            exact e.symm.trans E.out
      · have hd2 : decide (x < y) = false := by simpa using hxy
        go_wp2_with fail
        go_quiet ((go_at_call 47; exact Calls.quiet_of_same (A.out _)))
        go_wp2
        go_end0
        have e := E.out
        rw [riseF_stop (by rw [← X.out.1, X.out.2.1, X.out.2.2]; omega)] at e
        rw [← e]
        exact ⟨rfl, R'.out.drewN _, grown_drewN G.out _⟩
end Go.Proofs.YtbmgjpdfmgcigabDoor
