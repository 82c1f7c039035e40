/- Texts laid together: Package heap's below and sink, by their contracts; Package heap's Do, by its contract; What a heap does, as lists: it stays one, and has just the same things; A tally: what is done with it, and package tally by its contract; What objects do, as words: facts of no program; Deeds as a function from numbers; what an object is behind some of them (no program); Records as words, and answers: facts of no program; Records as words: 12.1 and 12.2; facts of no program; Asks as a function from numbers; what a record is behind some of them, and what was done (no program); Rows of this program's types: deeds, asks, errors at a place; Rows of this program: records; a copy as a step; Package record: New, by its contract; Appending onto a row of one's own: the texts that have it here; What slots take in . -/
import Derived.Test.YteogbpaaacmllaaGreatDoorPk02
import Derived.Test.YteogbpaaacmllaaGreatDoorRows
import Derived.Test.YteogbpaaacmllaaGreatDoorPk00
import Derived.RegionTactic
import Derived.BigRegion
import Derived.Test.YteogbpaaacmllaaGreatDoorPk01
import Derived.Laws.IdiomCopy
import Derived.Deep.DeepCutAuto
import Derived.Deep.RegionHeld3
namespace Go.Proofs.YteogbpaaacmllaaGreatDoor
set_option maxRecDepth 20000
open Go.RowKit

set_option maxHeartbeats 2000000 in
theorem below_is {b off c : Nat} {l : List Int} {w : World} (R : Row b off l w) (i : Nat) (hi : i < l.length) (hl : l.length ≤ 1000000) :
    Calls Tryz.prog 137 #[.slice (some ⟨b, off, none⟩) l.length c, .int .i64 i] w fun e w' => e = .returned (.int .i64 (blw l i : Nat)) ∧ ∃ q, w' = w.drewN q := by
  obtain ⟨n, hn⟩ : ∃ n, n = l.length := ⟨_, rfl⟩
  have R0 : Hid (Row b off l w) := R
  have N : Hid (n = l.length) := hn
  rw [← hn] at hi hl ⊢
  clear hn R
  have p1 : (0 : Int) ≤ 2 * (i : Int) + 1 := by omega
  have p2 : (0 : Int) ≤ 2 * (i : Int) + 2 := by omega
  have e1 : (2 * (i : Int) + 1).toNat = 2 * i + 1 := by omega
  have e2 : (2 * (i : Int) + 2).toNat = 2 * i + 2 := by omega
  have im : (i : Int) < (n : Int) := by omega
  by_cases h2 : 2 * i + 2 < n
  · obtain ⟨x, hx⟩ : ∃ x, gt l (2 * i + 2) = x := ⟨_, rfl⟩
    obtain ⟨y, hy⟩ : ∃ y, gt l (2 * i + 1) = y := ⟨_, rfl⟩
    have g2 : w.cell? ⟨b, off + (2 * i + 2), none⟩ = some (.int .i64 x) := by rw [← hx]; exact R0.out.cell _ (by rw [← N.out]; exact h2)
    have g1 : w.cell? ⟨b, off + (2 * i + 1), none⟩ = some (.int .i64 y) := by rw [← hy]; exact R0.out.cell _ (by rw [← N.out]; omega)
    have X : Hid (gt l (2 * i + 2) = x ∧ gt l (2 * i + 1) = y) := ⟨hx, hy⟩
    clear hx hy
    have c1' : 2 * (i : Int) + 1 < (n : Int) := by omega
    have c2' : 2 * (i : Int) + 2 < (n : Int) := by omega
    by_cases hxy : x < y
    · go_enter Tryz.func137, Tryz.ntmps137
      go_wp2_with fail
      go_quiet (fail)
      go_wp2
      go_ret
      have e : blw l i = 2 * i + 2 := by unfold blw; rw [← N.out, X.out.1, X.out.2, if_pos ⟨h2, hxy⟩]
      refine ⟨?_, _, rfl⟩
      show Ending.returned (.int .i64 (2 * (i : Int) + 2)) = _
      rw [e]; exact ret_int (by omega)
    · have hd2 : decide (x < y) = false := by simpa using hxy
      go_enter Tryz.func137, Tryz.ntmps137
      go_wp2_with fail
      go_quiet (fail)
      go_wp2
      go_ret
      have e : blw l i = 2 * i + 1 := by unfold blw; rw [← N.out, X.out.1, X.out.2, if_neg (by omega)]
      refine ⟨?_, _, rfl⟩
      show Ending.returned (.int .i64 (2 * (i : Int) + 1)) = _
      rw [e]; exact ret_int (by omega)
  · have hd2 : decide (2 * (i : Int) + 2 < (n : Int)) = false := by simp; omega
    go_enter Tryz.func137, Tryz.ntmps137
    go_wp2_with fail
    go_quiet (fail)
    go_wp2
    go_ret
    have e : blw l i = 2 * i + 1 := by unfold blw; rw [← N.out, if_neg (by omega)]
    refine ⟨?_, _, rfl⟩
    show Ending.returned (.int .i64 (2 * (i : Int) + 1)) = _
    rw [e]; exact ret_int (by omega)

theorem sinkF_stop {n : Nat} {l : List Int} {i : Nat} (h : ¬ (blw l i < l.length ∧ gt l (blw l i) < gt l i)) : sinkF n l i = l := by
  cases n with
  | zero => rfl
  | succ n => unfold sinkF; rw [if_neg h]
theorem sinkF_go {n : Nat} {l : List Int} {i : Nat} (hn : 0 < n) (h : blw l i < l.length ∧ gt l (blw l i) < gt l i) : sinkF n l i = sinkF (n - 1) (swp l i (blw l i)) (blw l i) := by
  obtain ⟨m, rfl⟩ : ∃ m, n = m + 1 := ⟨n - 1, by omega⟩
  rw [sinkF, if_pos h, Nat.add_sub_cancel]

set_option maxHeartbeats 2000000 in
theorem sink_is {b off c : Nat} {l : List Int} {w : World} (R : Row b off l w) (h0 : 0 < l.length) (hl : l.length ≤ 1000000) :
    Calls Tryz.prog 132 #[.slice (some ⟨b, off, none⟩) l.length c] w fun e w' => e = .returned (.tuple #[]) ∧ Row b off (sink l) w' ∧ w.grownBy w' (some b) := by
  have R0 : Hid (Row b off l w) := R
  clear R
  obtain ⟨n, hn⟩ : ∃ n, n = l.length := ⟨_, rfl⟩
  have N : Hid (n = l.length) := hn
  have B0 : Hid (Calls Tryz.prog 137 #[.slice (some ⟨b, off, none⟩) n c, .int .i64 0] w fun e w' => e = .returned (.int .i64 (blw l 0 : Nat)) ∧ ∃ q, w' = w.drewN q) := by
    have := below_is (c := c) R0.out 0 h0 hl
    rw [hn]; exact this
  rw [← hn] at h0 hl ⊢
  clear hn
  have hn1 : (1 : Int) ≤ (n : Int) := by omega
  go_enter Tryz.func132, Tryz.ntmps132
  go_wp2_with fail
  refine B0.out.mono ?_
  rintro e w1 ⟨rfl, q, hw⟩
  have R1 : Hid (Row b off l w1) := by rw [hw]; exact R0.out.drewN q
  have G1 : Hid (w.grownBy w1 (some b)) := by rw [hw]; exact grown_drewN ⟨rfl, rfl, rfl, Nat.le_refl _, fun _ _ _ => rfl⟩ _
  clear hw B0 R0
  obtain ⟨c0, hc0⟩ : ∃ c0, c0 = blw l 0 := ⟨_, rfl⟩
  have C0 : Hid (c0 = blw l 0) := hc0
  have c0n : c0 ≤ 2 * n := by rw [hc0]; unfold blw; split <;> omega
  rw [← hc0]
  clear hc0
  go_wp2_with fail
  go_loopg [2, 3] n (fun gg s2 s3 wt => ∃ (i k : Nat) (l' : List Int), s2 = .int .i64 i ∧ s3 = .int .i64 k ∧ i < n ∧ i < k ∧ k ≤ 2 * n + 2 ∧ n ≤ gg + i ∧ Hid (k = blw l' i) ∧ Hid (l'.length = n) ∧ Hid (Row b off l' wt) ∧ Hid (w.grownBy wt (some b)) ∧ Hid (sinkF gg l' i = sink l))
  case atStart =>
    refine ⟨0, c0, l, rfl, rfl, by omega, ?_, by omega, by omega, C0.out, N.out.symm, R1, G1, ?_⟩
    · rw [C0.out]; exact blw_gt l 0
    · show sinkF n l 0 = sink l
      unfold sink; rw [N.out]
  case round =>
    obtain ⟨i, k, l', rfl, rfl, hi, hik, hk2, hgg, K', N', R', G, E⟩ := hrel
    clear R1 G1
    have hi1 : (i : Int) < (n : Int) := by omega
    have hi2 : (0 : Int) ≤ (i : Int) := by omega
    have hk0 : (0 : Int) ≤ (k : Int) := by omega
    by_cases hkn : k < n
    · have hk1 : (k : Int) < (n : Int) := by omega
      obtain ⟨x, hx⟩ : ∃ x, gt l' i = x := ⟨_, rfl⟩
      obtain ⟨y, hy⟩ : ∃ y, gt l' k = y := ⟨_, rfl⟩
      have g1 : wr.cell? ⟨b, off + i, none⟩ = some (.int .i64 x) := by rw [← hx]; exact R'.out.cell i (by rw [N'.out]; exact hi)
      have g2 : wr.cell? ⟨b, off + k, none⟩ = some (.int .i64 y) := by rw [← hy]; exact R'.out.cell k (by rw [N'.out]; exact hkn)
      have f1 : wr.frozen? ⟨b, off + i, none⟩ = false := R'.out.froz i (by rw [N'.out]; exact hi)
      have f2 : wr.frozen? ⟨b, off + k, none⟩ = false := R'.out.froz k (by rw [N'.out]; exact hkn)
      have X : Hid (gt l' i = x ∧ gt l' k = y) := ⟨hx, hy⟩
      clear hx hy
      by_cases hxy : y < x
      · go_wp2_with fail
        go_quiet (fail)
        go_wp2_with fail
        generalize hwq : wr.drewN _ = wq
        have q1 : wq.cell? ⟨b, off + i, none⟩ = some (.int .i64 x) := by rw [← hwq]; exact g1
        have q2 : wq.cell? ⟨b, off + k, none⟩ = some (.int .i64 y) := by rw [← hwq]; exact g2
        have k1 : wq.frozen? ⟨b, off + i, none⟩ = false := by rw [← hwq]; exact f1
        have k2 : wq.frozen? ⟨b, off + k, none⟩ = false := by rw [← hwq]; exact f2
        have R2 : Hid (Row b off (swp l' i k) ((wq.setCell ⟨b, off + i, none⟩ (.int .i64 y)).setCell ⟨b, off + k, none⟩ (.int .i64 x)).drew) := by rw [← hwq]; exact ((R'.out.drewN _).swap i k x y (by rw [N'.out]; exact hi) (by rw [N'.out]; exact hkn) X.out.1 X.out.2).drew
        have G2 : Hid (w.grownBy ((wq.setCell ⟨b, off + i, none⟩ (.int .i64 y)).setCell ⟨b, off + k, none⟩ (.int .i64 x)).drew (some b)) := by rw [← hwq]; exact grown_drew (grown_set (grown_set (grown_drewN G.out _) _ _) _ _)
        have B2 : Hid (Calls Tryz.prog 137 #[.slice (some ⟨b, off, none⟩) n c, .int .i64 k] ((wq.setCell ⟨b, off + i, none⟩ (.int .i64 y)).setCell ⟨b, off + k, none⟩ (.int .i64 x)).drew fun e w' => e = .returned (.int .i64 (blw (swp l' i k) k : Nat)) ∧ ∃ q, w' = (((wq.setCell ⟨b, off + i, none⟩ (.int .i64 y)).setCell ⟨b, off + k, none⟩ (.int .i64 x)).drew).drewN q) := by
          have := below_is (c := c) R2.out k (by rw [swp_len, N'.out]; exact hkn) (by rw [swp_len, N'.out]; exact hl)
          rw [swp_len, N'.out] at this
          exact this
        clear hwq g1 g2 f1 f2 R' G
        go_region
        all_goals
          go_wp2_with fail
          refine B2.out.mono ?_
          rintro e w3 ⟨rfl, q, hw⟩
          have R3 : Hid (Row b off (swp l' i k) w3) := by rw [hw]; exact R2.out.drewN q
          have G3 : Hid (w.grownBy w3 (some b)) := by rw [hw]; exact grown_drewN G2.out q
          clear hw B2 R2 G2
          go_wp2
          go_roundg (gk - 1)
          case measure => omega
          case rel =>
            have ek := K'.out
            refine ⟨k, blw (swp l' i k) k, swp l' i k, rfl, rfl, hkn, blw_gt _ _, by unfold blw; split <;> omega, by omega, rfl, (swp_len _ _ _).trans N'.out, R3, G3, ?_⟩
            have e := sinkF_go (n := gk) (l := l') (i := i) (by omega) (by rw [← ek, N'.out, X.out.1, X.out.2]; exact ⟨hkn, hxy⟩)
            rw [← ek] at e
            exact e.symm.trans E.out
      · have hd2 : decide (y < x) = false := by simpa using hxy
        go_wp2_with fail
        go_quiet (fail)
        go_wp2
        go_end0
        have e := E.out
        rw [sinkF_stop (by rw [← K'.out, X.out.1, X.out.2]; omega)] at e
        rw [← e]
        exact ⟨rfl, R'.out.drewN _, grown_drewN G.out _⟩
    · have hd2 : decide ((k : Int) < (n : Int)) = false := by simp; omega
      go_wp2_with fail
      go_quiet (fail)
      go_wp2
      go_end0
      have e := E.out
      rw [sinkF_stop (by rw [← K'.out, N'.out]; omega)] at e
      rw [← e]
      exact ⟨rfl, R'.out.drewN _, grown_drewN G.out _⟩
end Go.Proofs.YteogbpaaacmllaaGreatDoor
namespace Go.Proofs.YteogbpaaacmllaaGreatDoor
set_option maxRecDepth 20000
open Go.RowKit

/-- What an operation makes of a heap, and its answer: 8.1. -/
def hdo (xs : List Int) (what value : Int) : List Int × Int × Int :=
  if what = 1 then (if 6 ≤ xs.length then (xs, 3, 0) else (rise (xs ++ [value]), 1, 0))
  else if what = 2 then (match xs with | [] => ([], 2, 0) | x :: r => (if r = [] then [] else sink (r.getLastD 0 :: r.dropLast), 1, x))
  else qdo xs what value

theorem IsL.row {B : Nat} {w : World} {v : Value} {xs : List Int} (h : IsL B w v xs) (hB : 0 < B) (h0 : 0 < xs.length) : ∃ b off c, v = .slice (some ⟨b, off, none⟩) xs.length c ∧ B ≤ b ∧ b < w.heap.size ∧ xs.length ≤ c ∧ Row b off xs w := by
  rcases h with ⟨rfl, _⟩ | ⟨b, off, c, rfl, hb, _, hc, hcell, hfz⟩
  · simp at h0
  · exact ⟨b, off, c, rfl, hb, World.block_lt_of_cell? _ _ (hcell 0 h0), hc, ⟨hcell, hfz hB⟩⟩
theorem Row.isL {B b off c : Nat} {l : List Int} {w : World} (h : Row b off l w) (hB : B ≤ b) (h0 : 0 < l.length) (hc : l.length ≤ c) : IsL B w (.slice (some ⟨b, off, none⟩) l.length c) l :=
  Or.inr ⟨b, off, c, rfl, hB, h0, hc, h.cell, fun _ => h.froz⟩
theorem Row.keep {C b off : Nat} {l : List Int} {w w' : World} (h : Row b off l w) (hb : Below C w w') (hC : b < C) : Row b off l w' where
  cell j hj := by rw [World.cell?_of_block (hb.block b hC)]; exact h.cell j hj
  froz j hj := by rw [World.frozen?_of_block (hb.block b hC)]; exact h.froz j hj
theorem Bx.aside {n : Nat} {c y : Int} {w w' : World} {row : Option Nat} (h : Bx n c y w) (hg : w.grownBy w' row) (hn : some n ≠ row) : Bx n c y w' where
  lt := Nat.lt_of_lt_of_le h.lt hg.size
  c0 := by rw [World.cell?_of_block (hg.block n h.lt hn)]; exact h.c0
  c1 := by rw [World.cell?_of_block (hg.block n h.lt hn)]; exact h.c1
  f0 := by rw [World.frozen?_of_block (hg.block n h.lt hn)]; exact h.f0
  f1 := by rw [World.frozen?_of_block (hg.block n h.lt hn)]; exact h.f1

theorem Fr.alloc {w W : World} {o k x : Int} (h : Fr w W o k x) (ob : Obj) : Fr w (W.alloc ob) o k x := h.later ((Below.refl _ W).alloc h.sz ob)

set_option maxHeartbeats 1000000 in
theorem hput_full {B : Nat} {v : Value} {xs : List Int} {w : World} (k x : Int) (h : IsL B w v xs) (hx : xs.length ≤ 1000000) (h6 : 6 ≤ xs.length) :
    Calls Tryz.prog 124 #[v, .agg #[.int .i64 1, .int .i64 k, .int .i64 x]] w (Made w xs 3 0) := by
  have F0 : Hid (Fr w (two w 1 k x) 1 k x) := Fr.start w 1 k x
  have X : Hid (IsL B (two w 1 k x) v xs) := h.later F0.out.gr
  clear h
  go_enter Tryz.func124, Tryz.ntmps124
  go_wp2_with fail
  refine (qDo_eq (w := two w 1 k x) (ys := xs) (c := 3) (y := 0) k X.out hx (by simp [qdo, h6])).mono ?_
  rintro e w1 ⟨v1, rfl, hi, hb⟩
  rw [two_size] at hi hb
  have F1 : Hid (Fr w (w1.alloc (.cells #[.int .i64 3, .int .i64 0] 58)) 1 k x) := (F0.out.later hb).alloc _
  have I1 : Hid (IsL (w.heap.size + 2) (w1.alloc (.cells #[.int .i64 3, .int .i64 0] 58)) v1 xs) := hi.new _
  have z1 : Hid (w.heap.size + 2 ≤ w1.heap.size) := (F0.out.later hb).sz
  clear hi hb F0 X
  have r0 := F1.out.r0
  have r1 := F1.out.r1
  have f0 := F1.out.f0
  have f1 := F1.out.f1
  have n1 : w.heap.size + 1 ≠ w1.heap.size := by have := z1.out; omega
  go_wp2_with fail
  go_region
  all_goals go_wp2
  refine bodyPost_ret (v := .tuple #[v1, .agg #[.int .i64 3, .int .i64 0]]) ?_ rfl (F1.out.made3 3 0 I1.out)
  have E := F1.out.ends 3 0
  unfold wr at E
  simp [results, Tryz.results124, go_sem, E.1, E.2.1]

set_option maxHeartbeats 1000000 in
theorem hput_done {B : Nat} {v : Value} {xs : List Int} {w : World} (k x : Int) (h : IsL B w v xs) (h6 : xs.length < 6) :
    Calls Tryz.prog 124 #[v, .agg #[.int .i64 1, .int .i64 k, .int .i64 x]] w (Made w (rise (xs ++ [x])) 1 0) := by
  have F0 : Hid (Fr w (two w 1 k x) 1 k x) := Fr.start w 1 k x
  have X : Hid (IsL B (two w 1 k x) v xs) := h.later F0.out.gr
  clear h
  go_enter Tryz.func124, Tryz.ntmps124
  go_wp2_with fail
  refine (qDo_eq (w := two w 1 k x) (ys := xs ++ [x]) (c := 1) (y := 0) k X.out (by omega) (by simp [qdo, show ¬ 6 ≤ xs.length by omega])).mono ?_
  rintro e w1 ⟨v1, rfl, hi, hb⟩
  rw [two_size] at hi hb
  obtain ⟨b, off, c, rfl, hB, hbl, hc, hR⟩ := hi.row (by omega) (by simp)
  have F1 : Hid (Fr w (w1.alloc (.cells #[.int .i64 1, .int .i64 0] 58)) 1 k x) := (F0.out.later hb).alloc _
  have Q1 : Hid (Bx w1.heap.size 1 0 (w1.alloc (.cells #[.int .i64 1, .int .i64 0] 58))) := Bx.born w1 1 0 _
  have R1 : Hid (Row b off (xs ++ [x]) (w1.alloc (.cells #[.int .i64 1, .int .i64 0] 58))) := hR.keep (new_below w1 _) hbl
  clear hi hb F0 X hR
  obtain ⟨l, hl⟩ : ∃ l, l = xs ++ [x] := ⟨_, rfl⟩
  have h0 : 0 < l.length := by rw [hl]; simp
  have h7 : l.length ≤ 1000000 := by rw [hl]; simp; omega
  have L : Hid (l = xs ++ [x]) := hl
  rw [← hl] at R1 hc ⊢
  clear hl
  go_wp2_with fail
  refine (rise_is R1.out h0 h7).mono ?_
  rintro e w3 ⟨rfl, hR, hg⟩
  have e3 : (rise l).length = l.length := (rise_perm l).length_eq
  have F3 : Hid (Fr w w3 1 k x) := F1.out.later ((Below.refl _ _).grown hg F1.out.sz (fun k hk => by injection hk with hk; omega))
  have I3 : Hid (IsL (w.heap.size + 2) w3 (.slice (some ⟨b, off, none⟩) l.length c) (rise (xs ++ [x]))) := by
    rw [← L.out, ← e3]; exact hR.isL hB (by omega) (by omega)
  have Q3 : Hid (Bx w1.heap.size 1 0 w3) := Q1.out.aside hg (fun e => by injection e with e; omega)
  have z1 : Hid (w.heap.size + 2 ≤ w1.heap.size) := (by omega : w.heap.size + 2 ≤ w1.heap.size)
  clear hR hg F1 Q1 R1 e3
  have r0 := F3.out.r0
  have r1 := F3.out.r1
  have f0 := F3.out.f0
  have f1 := F3.out.f1
  have y0 := Q3.out.c0
  have y1 := Q3.out.c1
  go_wp2_with fail
  go_region
  all_goals go_wp2
  refine bodyPost_ret (v := .tuple #[.slice (some ⟨b, off, none⟩) l.length c, .agg #[.int .i64 1, .int .i64 0]]) ?_ rfl (F3.out.made3 1 0 I3.out)
  have E := F3.out.ends 1 0
  unfold wr at E
  simp [results, Tryz.results124, go_sem, E.1, E.2.1]

set_option maxHeartbeats 1000000 in
theorem htake_few {B : Nat} {v : Value} {xs : List Int} {w : World} {c y : Int} (h : IsL B w v xs) (hx : xs.length ≤ 1000000) (hs : sdo xs 2 0 = ([], c, y)) :
    Calls Tryz.prog 125 #[v] w (Made w [] c y) := by
  have X : Hid (IsL B (w.alloc (.cells #[.int .i64 0, .int .i64 0] 58)) v xs) := h.new _
  have Q0 : Hid (Bx w.heap.size 0 0 (w.alloc (.cells #[.int .i64 0, .int .i64 0] 58))) := Bx.born w 0 0 _
  clear h
  go_enter Tryz.func125, Tryz.ntmps125
  go_wp2_with fail
  refine (sDo_eq 0 X.out hx hs).mono ?_
  rintro e w1 ⟨v1, rfl, hi, hb⟩
  obtain ⟨a, cp, rfl⟩ := hi.form
  have Q1 : Hid (Bx w.heap.size 0 0 (w1.alloc (.cells #[.int .i64 c, .int .i64 y] 58))) := (Q0.out.later hb).new _
  have G1 : Hid (Gd w (w1.alloc (.cells #[.int .i64 c, .int .i64 y] 58))) := (((Gd.refl w).new _).later hb).new _
  have hlt : w.heap.size < w1.heap.size := (Q0.out.later hb).lt
  have S1 : Hid (Bx w1.heap.size c y (w1.alloc (.cells #[.int .i64 c, .int .i64 y] 58))) := Bx.born w1 c y _
  clear hi hb X Q0
  go_wp2_with fail
  generalize w1.alloc (.cells #[.int .i64 c, .int .i64 y] 58) = W at Q1 G1 S1 ⊢
  have x0 := Q1.out.c0
  have x1 := Q1.out.c1
  have y0 := Q1.out.f0
  have y1 := Q1.out.f1
  have z0 := S1.out.c0
  have z1 := S1.out.c1
  go_region
  all_goals go_wp2
  have E := Q1.out.put (c' := c) (y' := y) (Nat.le_refl _) G1.out
  refine bodyPost_ret (v := .tuple #[.slice a 0 cp, .agg #[.int .i64 c, .int .i64 y]]) ?_ rfl ⟨_, rfl, IsL.nil _ _ _ _, Below.drew E.2⟩
  simp [results, Tryz.results125, go_sem, E.1.c0, E.1.c1]

set_option maxHeartbeats 1000000 in
theorem htake_more {B : Nat} {v : Value} {r : List Int} {x z : Int} {w : World} (h : IsL B w v (x :: (r ++ [z]))) (hx : r.length ≤ 100000) :
    Calls Tryz.prog 125 #[v] w (Made w (sink (z :: r)) 1 x) := by
  have X : Hid (IsL B (w.alloc (.cells #[.int .i64 0, .int .i64 0] 58)) v (x :: (r ++ [z]))) := h.new _
  have Q0 : Hid (Bx w.heap.size 0 0 (w.alloc (.cells #[.int .i64 0, .int .i64 0] 58))) := Bx.born w 0 0 _
  clear h
  have hs : Hid (sdo (x :: (r ++ [z])) 2 0 = (x :: r, 1, z)) := sdo_take (x :: r) z 0
  go_enter Tryz.func125, Tryz.ntmps125
  go_wp2_with fail
  refine (sDo_eq 0 X.out (by simp; omega) hs.out).mono ?_
  rintro e w1 ⟨v1, rfl, hi, hb⟩
  have hB0 : 0 < (w.alloc (.cells #[.int .i64 0, .int .i64 0] 58)).heap.size := by simp
  obtain ⟨b, off, cp, rfl, hB, hbl, hc, hR⟩ := hi.row hB0 (by simp)
  have hB' : w.heap.size + 1 ≤ b := by simpa using hB
  have hlt : w.heap.size < w1.heap.size := (Q0.out.later hb).lt
  have g1 : w1.cell? ⟨b, off, none⟩ = some (.int .i64 x) := hR.cell 0 (Nat.succ_pos _)
  have k1 : w1.frozen? ⟨b, off, none⟩ = false := hR.froz 0 (Nat.succ_pos _)
  have hgr : w1.grownBy (w1.setCell ⟨b, off, none⟩ (.int .i64 z)) (some b) := grown_set (World.grownBy.refl _ _) _ _
  have Q2 : Hid (Bx w.heap.size 0 0 ((w1.setCell ⟨b, off, none⟩ (.int .i64 z)).alloc (.cells #[.int .i64 1, .int .i64 z] 58))) := ((Q0.out.later hb).aside hgr (fun e => by injection e with e; omega)).new _
  have G2 : Hid (Gd w ((w1.setCell ⟨b, off, none⟩ (.int .i64 z)).alloc (.cells #[.int .i64 1, .int .i64 z] 58))) := Gd.new (Below.setCell (((Gd.refl w).new _).later hb) (show w.heap.size ≤ b by omega) _) _
  have R2 : Hid (Row b off (z :: r) ((w1.setCell ⟨b, off, none⟩ (.int .i64 z)).alloc (.cells #[.int .i64 1, .int .i64 z] 58))) := (hR.set 0 z (Nat.succ_pos _)).keep (new_below _ _) (by simpa using hbl)
  clear hi hb X Q0 hB hB0 hR hs hgr
  have hn : (0 : Int) < ((r.length + 1 : Nat) : Int) := by omega
  have hl : (x :: r).length = r.length + 1 := rfl
  rw [hl] at hc ⊢
  clear hl
  go_wp2_with fail
  generalize (w1.setCell ⟨b, off, none⟩ (.int .i64 z)).alloc (.cells #[.int .i64 1, .int .i64 z] 58) = W at Q2 G2 R2 ⊢
  refine (sink_is (c := cp) R2.out (Nat.succ_pos _) (by simp; omega)).mono ?_
  rintro e w3 ⟨rfl, hR, hg⟩
  have e3 : (sink (z :: r)).length = r.length + 1 := (sink_perm (z :: r)).length_eq
  have Q3 : Hid (Bx w.heap.size 0 0 w3) := Q2.out.aside hg (fun e => by injection e with e; omega)
  have G3 : Hid (Gd w w3) := Below.grown G2.out hg (Below.size G2.out) (fun k hk => by injection hk with hk; omega)
  have I3 : Hid (IsL (w.heap.size + 1) w3 (.slice (some ⟨b, off, none⟩) (r.length + 1) cp) (sink (z :: r))) := by
    rw [← e3]; exact hR.isL hB' (by omega) (by omega)
  clear hR hg Q2 G2 R2 e3
  have x0 := Q3.out.c0
  have x1 := Q3.out.c1
  have y0 := Q3.out.f0
  have y1 := Q3.out.f1
  go_wp2
  have E := Q3.out.put (c' := 1) (y' := x) (Nat.le_refl _) G3.out
  refine bodyPost_ret (v := .tuple #[.slice (some ⟨b, off, none⟩) (r.length + 1) cp, .agg #[.int .i64 1, .int .i64 x]]) ?_ rfl ⟨_, rfl, ((I3.out.setCell (Nat.lt_succ_self _) _).setCell (Nat.lt_succ_self _) _).mono (Nat.le_succ _), E.2⟩
  simp [results, Tryz.results125, go_sem, E.1.c0, E.1.c1]

/-- Where the answer is put in its place: all three ways of Do. -/
theorem Made.two {w : World} {ys : List Int} {o k x c y : Int} {e : Ending} {w1 : World} (h : Made (two w o k x) ys c y e w1) : ∃ v1, e = .returned (.tuple #[v1, .agg #[.int .i64 c, .int .i64 y]]) ∧ Hid (Fr w w1 o k x) ∧ Hid (IsL (w.heap.size + 2) w1 v1 ys) := by
  obtain ⟨v1, he, hi, hb⟩ := h
  rw [two_size] at hi hb
  exact ⟨v1, he, (Fr.start w o k x).later hb, hi⟩

set_option maxHeartbeats 1000000 in
theorem hDo_put {B : Nat} {v : Value} {xs ys : List Int} {w : World} {x c y : Int} (k : Int) (h : IsL B w v xs) (hp : ∀ W, IsL B W v xs → Calls Tryz.prog 124 #[v, .agg #[.int .i64 1, .int .i64 k, .int .i64 x]] W (Made W ys c y)) :
    Calls Tryz.prog 111 #[v, .agg #[.int .i64 1, .int .i64 k, .int .i64 x]] w (Made w ys c y) := by
  have P : Hid (Calls Tryz.prog 124 #[v, .agg #[.int .i64 1, .int .i64 k, .int .i64 x]] (two w 1 k x) (Made (two w 1 k x) ys c y)) := hp _ (h.later (Fr.start w 1 k x).gr)
  clear h hp
  go_enter Tryz.func111, Tryz.ntmps111
  go_wp2_with fail
  refine P.out.mono ?_
  intro e w1 hm
  obtain ⟨v1, rfl, F1, I1⟩ := hm.two
  clear hm P
  have r0 := F1.out.r0
  have r1 := F1.out.r1
  have f0 := F1.out.f0
  have f1 := F1.out.f1
  go_wp2
  refine bodyPost_ret (v := .tuple #[v1, .agg #[.int .i64 c, .int .i64 y]]) ?_ rfl (F1.out.made c y I1.out)
  have E := F1.out.ends c y
  unfold wr at E
  simp [results, Tryz.results111, go_sem, E.1, E.2.1]

set_option maxHeartbeats 1000000 in
theorem hDo_take {B : Nat} {v : Value} {xs ys : List Int} {w : World} {c y : Int} (k x : Int) (h : IsL B w v xs) (hp : ∀ W, IsL B W v xs → Calls Tryz.prog 125 #[v] W (Made W ys c y)) :
    Calls Tryz.prog 111 #[v, .agg #[.int .i64 2, .int .i64 k, .int .i64 x]] w (Made w ys c y) := by
  have P : Hid (Calls Tryz.prog 125 #[v] (two w 2 k x) (Made (two w 2 k x) ys c y)) := hp _ (h.later (Fr.start w 2 k x).gr)
  clear h hp
  go_enter Tryz.func111, Tryz.ntmps111
  go_wp2_with fail
  refine P.out.mono ?_
  intro e w1 hm
  obtain ⟨v1, rfl, F1, I1⟩ := hm.two
  clear hm P
  have r0 := F1.out.r0
  have r1 := F1.out.r1
  have f0 := F1.out.f0
  have f1 := F1.out.f1
  go_wp2
  refine bodyPost_ret (v := .tuple #[v1, .agg #[.int .i64 c, .int .i64 y]]) ?_ rfl (F1.out.made c y I1.out)
  have E := F1.out.ends c y
  unfold wr at E
  simp [results, Tryz.results111, go_sem, E.1, E.2.1]

set_option maxHeartbeats 1000000 in
theorem hDo_else {B : Nat} {v : Value} {xs ys : List Int} {w : World} {o x c y : Int} (k : Int) (n1 : o ≠ 1) (n2 : o ≠ 2) (h : IsL B w v xs) (hx : xs.length ≤ 1000000) (hq : qdo xs o x = (ys, c, y)) :
    Calls Tryz.prog 111 #[v, .agg #[.int .i64 o, .int .i64 k, .int .i64 x]] w (Made w ys c y) := by
  have P : Hid (Calls Tryz.prog 108 #[v, .agg #[.int .i64 o, .int .i64 k, .int .i64 x]] (two w o k x) (Made (two w o k x) ys c y)) := qDo_eq k (h.later (Fr.start w o k x).gr) hx hq
  have m1 : (o == 1) = false := by simp [n1]
  have m2 : (o == 2) = false := by simp [n2]
  clear h hq
  go_enter Tryz.func111, Tryz.ntmps111
  go_wp2_with fail
  refine P.out.mono ?_
  intro e w1 hm
  obtain ⟨v1, rfl, F1, I1⟩ := hm.two
  clear hm P
  have r0 := F1.out.r0
  have r1 := F1.out.r1
  have f0 := F1.out.f0
  have f1 := F1.out.f1
  go_wp2
  refine bodyPost_ret (v := .tuple #[v1, .agg #[.int .i64 c, .int .i64 y]]) ?_ rfl (F1.out.made c y I1.out)
  have E := F1.out.ends c y
  unfold wr at E
  simp [results, Tryz.results111, go_sem, E.1, E.2.1]

theorem hdo_put {xs : List Int} (x : Int) (h : xs.length < 6) : hdo xs 1 x = (rise (xs ++ [x]), 1, 0) := by simp [hdo, show ¬ 6 ≤ xs.length by omega]
theorem hdo_full {xs : List Int} (x : Int) (h : 6 ≤ xs.length) : hdo xs 1 x = (xs, 3, 0) := by simp [hdo, h]
theorem hdo_none (x : Int) : hdo [] 2 x = ([], 2, 0) := by simp [hdo]
theorem hdo_one (z x : Int) : hdo [z] 2 x = ([], 1, z) := by simp [hdo]
theorem hdo_more (z : Int) (r : List Int) (y x : Int) : hdo (z :: (r ++ [y])) 2 x = (sink (y :: r), 1, z) := by simp [hdo]
theorem hdo_else (xs : List Int) (o x : Int) (n1 : o ≠ 1) (n2 : o ≠ 2) : hdo xs o x = qdo xs o x := by simp [hdo, n1, n2]

theorem hDo_eq {B : Nat} {v : Value} {xs ys : List Int} {w : World} {o x c y : Int} (k : Int) (h : IsL B w v xs) (hx : xs.length ≤ 60) (hq : hdo xs o x = (ys, c, y)) :
    Calls Tryz.prog 111 #[v, .agg #[.int .i64 o, .int .i64 k, .int .i64 x]] w (Made w ys c y) := by
  by_cases n1 : o = 1
  · subst n1
    by_cases h6 : 6 ≤ xs.length
    · rw [hdo_full x h6] at hq
      simp only [Prod.mk.injEq] at hq
      obtain ⟨rfl, rfl, rfl⟩ := hq
      exact hDo_put k h fun W hW => hput_full k x hW (by omega) h6
    · rw [hdo_put x (by omega)] at hq
      simp only [Prod.mk.injEq] at hq
      obtain ⟨rfl, rfl, rfl⟩ := hq
      exact hDo_put k h fun W hW => hput_done k x hW (by omega)
  by_cases n2 : o = 2
  · subst n2
    refine hDo_take k x h fun W hW => ?_
    cases xs with
    | nil =>
      rw [hdo_none] at hq
      simp only [Prod.mk.injEq] at hq
      obtain ⟨rfl, rfl, rfl⟩ := hq
      exact htake_few hW (by simp) (by simp [sdo, qdo])
    | cons z r =>
      rcases List.eq_nil_or_concat r with rfl | ⟨r', t, rfl⟩
      · rw [hdo_one] at hq
        simp only [Prod.mk.injEq] at hq
        obtain ⟨rfl, rfl, rfl⟩ := hq
        exact htake_few hW (by simp) (by simp [sdo])
      · rw [List.concat_eq_append] at hW hx hq
        rw [hdo_more] at hq
        simp only [Prod.mk.injEq] at hq
        obtain ⟨rfl, rfl, rfl⟩ := hq
        exact htake_more hW (by simp at hx; omega)
  · rw [hdo_else xs o x n1 n2] at hq
    exact hDo_else k n1 n2 h (by omega) hq
end Go.Proofs.YteogbpaaacmllaaGreatDoor
namespace Go.Proofs.YteogbpaaacmllaaGreatDoor
set_option maxRecDepth 20000

theorem hdo_takes {z : Int} {r : List Int} (x : Int) (h : Hp (z :: r)) : ∃ ys, hdo (z :: r) 2 x = (ys, 1, z) ∧ ys.Perm r ∧ Hp ys := by
  rcases List.eq_nil_or_concat r with rfl | ⟨r', t, rfl⟩
  · exact ⟨[], hdo_one z x, .refl _, fun i _ hi => absurd hi (by simp)⟩
  · rw [List.concat_eq_append] at h ⊢
    refine ⟨sink (t :: r'), hdo_more z r' t x, (sink_perm _).trans ?_, sink_heap z t r' (Hp.cut (r := [t]) h)⟩
    exact (List.perm_append_comm (l₁ := [t]) (l₂ := r'))
theorem hdo_puts {xs : List Int} (x : Int) (h : Hp xs) (h6 : xs.length < 6) : ∃ ys, hdo xs 1 x = (ys, 1, 0) ∧ ys.Perm (xs ++ [x]) ∧ Hp ys :=
  ⟨_, hdo_put x h6, rise_perm _, rise_heap xs x h⟩
theorem qdo_keeps (xs : List Int) (o x : Int) (n1 : o ≠ 1) (n2 : o ≠ 2) : ∃ c y, qdo xs o x = (xs, c, y) := by
  by_cases n5 : o = 5
  · subst n5
    cases xs with
    | nil => exact ⟨2, 0, by simp [qdo]⟩
    | cons z r => exact ⟨1, z, by simp [qdo]⟩
  by_cases n6 : o = 6
  · exact ⟨1, xs.length, by simp [qdo, n6]⟩
  · exact ⟨5, 0, by simp [qdo, n1, n2, n5, n6]⟩
theorem hdo_keeps (xs : List Int) (o x : Int) (n1 : o ≠ 1) (n2 : o ≠ 2) : ∃ c y, hdo xs o x = (xs, c, y) := by
  rw [hdo_else xs o x n1 n2]
  exact qdo_keeps xs o x n1 n2
theorem Hp.nil : Hp [] := fun i _ hi => absurd hi (by simp)
theorem hdo_peeks (z : Int) (r : List Int) (x : Int) : hdo (z :: r) 5 x = (z :: r, 1, z) := by simp [hdo, qdo]
/-- What is put in and is less than all comes out. -/
theorem Hp.first {m l : List Int} {z : Int} (h : Hp m) (hm : m.Perm (l ++ [z])) (hz : ∀ y ∈ l, z ≤ y) : ∃ r, m = z :: r ∧ r.Perm l := by
  cases m with
  | nil => exact absurd hm.length_eq (by simp)
  | cons t r =>
    have h1 : t ≤ z := h.head z (hm.mem_iff.2 (by simp))
    have h2 : z ≤ t := by
      have : t ∈ l ++ [z] := hm.mem_iff.1 (by simp)
      rcases List.mem_append.1 this with h | h
      · exact hz t h
      · simp at h; omega
    obtain rfl : t = z := by omega
    refine ⟨r, rfl, ?_⟩
    have := hm.trans (List.perm_append_comm (l₁ := l) (l₂ := [t]))
    exact List.Perm.cons_inv this
/-- Of a heap that has the same things as a list that rises, the first one is the same. -/
theorem Hp.rises {m r : List Int} {z : Int} (h : Hp m) (hm : m.Perm (z :: r)) (hz : (z :: r).Pairwise (· ≤ ·)) : ∃ m', m = z :: m' ∧ m'.Perm r := by
  have h1 : ∀ y ∈ r, z ≤ y := (List.pairwise_cons.1 hz).1
  exact h.first (hm.trans (List.perm_append_comm (l₁ := [z]) (l₂ := r))) h1
end Go.Proofs.YteogbpaaacmllaaGreatDoor
namespace Go.Proofs.YteogbpaaacmllaaGreatDoor
set_option maxRecDepth 20000
set_option linter.unusedVariables false
open Go.RowKit

/-- What an operation makes of a tally, and its answer: 10.1. -/
def ado (n what value : Int) : Int × Int × Int :=
  if what = 1 then (if 4294967295 < n + value then (n, 3, 0) else (n + value, 1, n))
  else if what = 2 then (if n < value then (n, 2, 0) else (n - value, 1, n))
  else if what = 5 ∨ what = 6 then (n, 1, n) else (n, 5, 0)

theorem aDo_put_full (n k x : Int) (n0 : 0 ≤ n) (n1 : n ≤ 4294967295) (x0 : 0 ≤ x) (x1 : x ≤ 4294967295) (h : 4294967295 < n + x) (w : World) :
    Calls Tryz.prog 128 #[.int .i64 n, .agg #[.int .i64 1, .int .i64 k, .int .i64 x]] w fun e w' => e = .returned (.tuple #[.int .i64 (n), .agg #[.int .i64 3, .int .i64 0]]) ∧ Below w.heap.size w w' := by
  have hs : IntKind.i64.wrap (n + x) = n + x := by rw [IntKind.wrap_i64]; omega
  go_enter Tryz.func128, Tryz.ntmps128
  go_wp2
  try (go_region; all_goals go_wp2)
  all_goals exact bodyPost_ret (v := .tuple #[.int .i64 (n), .agg #[.int .i64 3, .int .i64 0]]) (by simp [results, Tryz.results128, go_sem]) rfl ⟨rfl, by repeat first | with_reducible exact Below.refl _ _ | with_reducible apply Below.drew | (with_reducible refine Below.alloc ?_ ?g _; case g => (simp <;> omega)) | (with_reducible refine Below.setCell ?_ ?g _; case g => (simp <;> omega))⟩
theorem aDo_put (n k x : Int) (n0 : 0 ≤ n) (n1 : n ≤ 4294967295) (x0 : 0 ≤ x) (x1 : x ≤ 4294967295) (h : n + x ≤ 4294967295) (w : World) :
    Calls Tryz.prog 128 #[.int .i64 n, .agg #[.int .i64 1, .int .i64 k, .int .i64 x]] w fun e w' => e = .returned (.tuple #[.int .i64 (n + x), .agg #[.int .i64 1, .int .i64 n]]) ∧ Below w.heap.size w w' := by
  have hs : IntKind.i64.wrap (n + x) = n + x := by rw [IntKind.wrap_i64]; omega
  go_enter Tryz.func128, Tryz.ntmps128
  go_wp2
  try (go_region; all_goals go_wp2)
  all_goals exact bodyPost_ret (v := .tuple #[.int .i64 (n + x), .agg #[.int .i64 1, .int .i64 n]]) (by simp [results, Tryz.results128, go_sem]) rfl ⟨rfl, by repeat first | with_reducible exact Below.refl _ _ | with_reducible apply Below.drew | (with_reducible refine Below.alloc ?_ ?g _; case g => (simp <;> omega)) | (with_reducible refine Below.setCell ?_ ?g _; case g => (simp <;> omega))⟩
theorem aDo_take_none (n k x : Int) (n0 : 0 ≤ n) (n1 : n ≤ 4294967295) (x0 : 0 ≤ x) (x1 : x ≤ 4294967295) (h : n < x) (w : World) :
    Calls Tryz.prog 128 #[.int .i64 n, .agg #[.int .i64 2, .int .i64 k, .int .i64 x]] w fun e w' => e = .returned (.tuple #[.int .i64 (n), .agg #[.int .i64 2, .int .i64 0]]) ∧ Below w.heap.size w w' := by
  have hs : IntKind.i64.wrap (n - x) = n - x := by rw [IntKind.wrap_i64]; omega
  have hd : n - x < 0 := by omega
  go_enter Tryz.func128, Tryz.ntmps128
  go_wp2
  try (go_region; all_goals go_wp2)
  all_goals exact bodyPost_ret (v := .tuple #[.int .i64 (n), .agg #[.int .i64 2, .int .i64 0]]) (by simp [results, Tryz.results128, go_sem]) rfl ⟨rfl, by repeat first | with_reducible exact Below.refl _ _ | with_reducible apply Below.drew | (with_reducible refine Below.alloc ?_ ?g _; case g => (simp <;> omega)) | (with_reducible refine Below.setCell ?_ ?g _; case g => (simp <;> omega))⟩
theorem aDo_take (n k x : Int) (n0 : 0 ≤ n) (n1 : n ≤ 4294967295) (x0 : 0 ≤ x) (x1 : x ≤ 4294967295) (h : x ≤ n) (w : World) :
    Calls Tryz.prog 128 #[.int .i64 n, .agg #[.int .i64 2, .int .i64 k, .int .i64 x]] w fun e w' => e = .returned (.tuple #[.int .i64 (n - x), .agg #[.int .i64 1, .int .i64 n]]) ∧ Below w.heap.size w w' := by
  have hs : IntKind.i64.wrap (n - x) = n - x := by rw [IntKind.wrap_i64]; omega
  have hd : 0 ≤ n - x := by omega
  go_enter Tryz.func128, Tryz.ntmps128
  go_wp2
  try (go_region; all_goals go_wp2)
  all_goals exact bodyPost_ret (v := .tuple #[.int .i64 (n - x), .agg #[.int .i64 1, .int .i64 n]]) (by simp [results, Tryz.results128, go_sem]) rfl ⟨rfl, by repeat first | with_reducible exact Below.refl _ _ | with_reducible apply Below.drew | (with_reducible refine Below.alloc ?_ ?g _; case g => (simp <;> omega)) | (with_reducible refine Below.setCell ?_ ?g _; case g => (simp <;> omega))⟩
theorem aDo_look5 (n k x : Int) (n0 : 0 ≤ n) (n1 : n ≤ 4294967295) (x0 : 0 ≤ x) (x1 : x ≤ 4294967295)  (w : World) :
    Calls Tryz.prog 128 #[.int .i64 n, .agg #[.int .i64 5, .int .i64 k, .int .i64 x]] w fun e w' => e = .returned (.tuple #[.int .i64 (n), .agg #[.int .i64 1, .int .i64 n]]) ∧ Below w.heap.size w w' := by
  go_enter Tryz.func128, Tryz.ntmps128
  go_wp2
  try (go_region; all_goals go_wp2)
  all_goals exact bodyPost_ret (v := .tuple #[.int .i64 (n), .agg #[.int .i64 1, .int .i64 n]]) (by simp [results, Tryz.results128, go_sem]) rfl ⟨rfl, by repeat first | with_reducible exact Below.refl _ _ | with_reducible apply Below.drew | (with_reducible refine Below.alloc ?_ ?g _; case g => (simp <;> omega)) | (with_reducible refine Below.setCell ?_ ?g _; case g => (simp <;> omega))⟩
theorem aDo_look6 (n k x : Int) (n0 : 0 ≤ n) (n1 : n ≤ 4294967295) (x0 : 0 ≤ x) (x1 : x ≤ 4294967295)  (w : World) :
    Calls Tryz.prog 128 #[.int .i64 n, .agg #[.int .i64 6, .int .i64 k, .int .i64 x]] w fun e w' => e = .returned (.tuple #[.int .i64 (n), .agg #[.int .i64 1, .int .i64 n]]) ∧ Below w.heap.size w w' := by
  go_enter Tryz.func128, Tryz.ntmps128
  go_wp2
  try (go_region; all_goals go_wp2)
  all_goals exact bodyPost_ret (v := .tuple #[.int .i64 (n), .agg #[.int .i64 1, .int .i64 n]]) (by simp [results, Tryz.results128, go_sem]) rfl ⟨rfl, by repeat first | with_reducible exact Below.refl _ _ | with_reducible apply Below.drew | (with_reducible refine Below.alloc ?_ ?g _; case g => (simp <;> omega)) | (with_reducible refine Below.setCell ?_ ?g _; case g => (simp <;> omega))⟩
theorem aDo_wrong (o : Int) (n k x : Int) (n0 : 0 ≤ n) (n1 : n ≤ 4294967295) (x0 : 0 ≤ x) (x1 : x ≤ 4294967295) (m1 : (o == 1) = false) (m2 : (o == 2) = false) (m5 : (o == 5) = false) (m6 : (o == 6) = false) (w : World) :
    Calls Tryz.prog 128 #[.int .i64 n, .agg #[.int .i64 o, .int .i64 k, .int .i64 x]] w fun e w' => e = .returned (.tuple #[.int .i64 (n), .agg #[.int .i64 5, .int .i64 0]]) ∧ Below w.heap.size w w' := by
  go_enter Tryz.func128, Tryz.ntmps128
  go_wp2
  try (go_region; all_goals go_wp2)
  all_goals exact bodyPost_ret (v := .tuple #[.int .i64 (n), .agg #[.int .i64 5, .int .i64 0]]) (by simp [results, Tryz.results128, go_sem]) rfl ⟨rfl, by repeat first | with_reducible exact Below.refl _ _ | with_reducible apply Below.drew | (with_reducible refine Below.alloc ?_ ?g _; case g => (simp <;> omega)) | (with_reducible refine Below.setCell ?_ ?g _; case g => (simp <;> omega))⟩
theorem aDo_eq {n o k x m c y : Int} (n0 : 0 ≤ n) (n1 : n ≤ 4294967295) (x0 : 0 ≤ x) (x1 : x ≤ 4294967295) (h : ado n o x = (m, c, y)) (w : World) :
    Calls Tryz.prog 128 #[.int .i64 n, .agg #[.int .i64 o, .int .i64 k, .int .i64 x]] w fun e w' => e = .returned (.tuple #[.int .i64 m, .agg #[.int .i64 c, .int .i64 y]]) ∧ Below w.heap.size w w' := by
  unfold ado at h
  by_cases e1 : o = 1
  · subst e1
    by_cases hf : 4294967295 < n + x
    · simp [hf] at h; obtain ⟨rfl, rfl, rfl⟩ := h; exact aDo_put_full n k x n0 n1 x0 x1 hf w
    · simp [hf] at h; obtain ⟨rfl, rfl, rfl⟩ := h; exact aDo_put n k x n0 n1 x0 x1 (by omega) w
  by_cases e2 : o = 2
  · subst e2
    by_cases hf : n < x
    · simp [hf] at h; obtain ⟨rfl, rfl, rfl⟩ := h; exact aDo_take_none n k x n0 n1 x0 x1 hf w
    · simp [hf] at h; obtain ⟨rfl, rfl, rfl⟩ := h; exact aDo_take n k x n0 n1 x0 x1 (by omega) w
  by_cases e5 : o = 5
  · subst e5
    simp at h; obtain ⟨rfl, rfl, rfl⟩ := h; exact aDo_look5 n k x n0 n1 x0 x1 w
  by_cases e6 : o = 6
  · subst e6
    simp at h; obtain ⟨rfl, rfl, rfl⟩ := h; exact aDo_look6 n k x n0 n1 x0 x1 w
  · simp [e1, e2, e5, e6] at h; obtain ⟨rfl, rfl, rfl⟩ := h
    exact aDo_wrong o n k x n0 n1 x0 x1 (by simp [e1]) (by simp [e2]) (by simp [e5]) (by simp [e6]) w
end Go.Proofs.YteogbpaaacmllaaGreatDoor
namespace Go.Proofs.YteogbpaaacmllaaGreatDoor.Tab
set_option maxRecDepth 20000
open Go.RowKit
set_option linter.unusedVariables false

/-- What every list does: facts of queues, stacks, deques and heaps alike. -/
structure LF (two : Bool) (xs : List Int) (o x : Int) (r : List Int × Int × Int) : Prop where
  len : r.1.length ≤ 6
  val : ∀ z ∈ r.1, 0 ≤ z ∧ z ≤ 4294967295
  code : 1 ≤ r.2.1 ∧ r.2.1 ≤ 5
  told : 0 ≤ r.2.2 ∧ r.2.2 ≤ 4294967295
  zero : r.2.1 ≠ 1 → r.2.2 = 0
  same : (r.2.1 ≠ 1 ∨ o = 5 ∨ o = 6) → r.1 = xs
  less : r.2.1 = 1 → (o = 2 ∨ o = 4) → r.1.length + 1 = xs.length
  more : r.2.1 = 1 → (o = 1 ∨ o = 3) → r.1.length = xs.length + 1
  count : o = 6 → r.2.1 = 1 ∧ r.2.2 = xs.length
  wrong : r.2.1 = 5 ↔ ((o = 3 ∨ o = 4) ∧ two = false)
  take : o = 2 → (r.2.1 = 2 ∧ xs.length = 0) ∨ (r.2.1 = 1 ∧ 0 < xs.length)
  put : o = 1 → (r.2.1 = 3 ∧ xs.length = 6) ∨ (r.2.1 = 1 ∧ xs.length < 6)

theorem qdo_facts {xs : List Int} {o k x : Int} (hl : xs.length ≤ 6) (hv : ∀ z ∈ xs, 0 ≤ z ∧ z ≤ 4294967295) (w1 : 1 ≤ o) (w6 : o ≤ 6) (v0 : 0 ≤ x) (v1 : x ≤ 4294967295) : LF false xs o x (qdo xs o x) := by
  have : o = 1 ∨ o = 2 ∨ o = 3 ∨ o = 4 ∨ o = 5 ∨ o = 6 := by omega
  rcases this with rfl | rfl | rfl | rfl | rfl | rfl
  · by_cases h6 : 6 ≤ xs.length
    · have e : qdo xs 1 x = (xs, 3, 0) := by simp [qdo, h6]
      rw [e]
      constructor <;> first | exact hv | (simp <;> omega)
    · have e : qdo xs 1 x = (xs ++ [x], 1, 0) := by simp [qdo, h6]
      rw [e]
      constructor <;> first | (intro z hz; simp at hz; rcases hz with hz | rfl; exact hv z hz; exact ⟨v0, v1⟩) | (simp <;> omega)
  · cases xs with
    | nil =>
      have e : qdo [] 2 x = ([], 2, 0) := by simp [qdo]
      rw [e]
      constructor <;> simp
    | cons z r =>
      have e : qdo (z :: r) 2 x = (r, 1, z) := by simp [qdo]
      have hz := hv z (by simp)
      simp at hl
      rw [e]
      constructor <;> first | (intro y hy; exact hv y (by simp [hy])) | (simp <;> omega)
  · have e : qdo xs 3 x = (xs, 5, 0) := by simp [qdo]
    rw [e]
    constructor <;> first | exact hv | (simp <;> omega)
  · have e : qdo xs 4 x = (xs, 5, 0) := by simp [qdo]
    rw [e]
    constructor <;> first | exact hv | (simp <;> omega)
  · cases xs with
    | nil =>
      have e : qdo [] 5 x = ([], 2, 0) := by simp [qdo]
      rw [e]
      constructor <;> simp
    | cons z r =>
      have e : qdo (z :: r) 5 x = (z :: r, 1, z) := by simp [qdo]
      have hz := hv z (by simp)
      rw [e]
      constructor <;> first | exact hv | exact hl | (simp <;> omega)
  · have e : qdo xs 6 x = (xs, 1, (xs.length : Int)) := by simp [qdo]
    rw [e]
    constructor <;> first | exact hv | (simp <;> omega)

theorem sdo_facts {xs : List Int} {o k x : Int} (hl : xs.length ≤ 6) (hv : ∀ z ∈ xs, 0 ≤ z ∧ z ≤ 4294967295) (w1 : 1 ≤ o) (w6 : o ≤ 6) (v0 : 0 ≤ x) (v1 : x ≤ 4294967295) : LF false xs o x (sdo xs o x) := by
  rcases List.eq_nil_or_concat xs with rfl | ⟨r, z, rfl⟩
  · rw [sdo_nil]; exact qdo_facts (k := k) hl hv w1 w6 v0 v1
  · rw [List.concat_eq_append] at *
    have hz := hv z (by simp)
    by_cases e2 : o = 2
    · subst e2
      rw [sdo_take]
      simp at hl
      constructor <;> first | (intro y hy; exact hv y (by simp [hy])) | (simp <;> omega)
    by_cases e5 : o = 5
    · subst e5
      rw [sdo_peek]
      constructor <;> first | exact hv | exact hl | (simp <;> omega)
    rw [sdo_other _ _ _ e2 e5]; exact qdo_facts (k := k) hl hv w1 w6 v0 v1

theorem ddo_facts {xs : List Int} {o k x : Int} (hl : xs.length ≤ 6) (hv : ∀ z ∈ xs, 0 ≤ z ∧ z ≤ 4294967295) (w1 : 1 ≤ o) (w6 : o ≤ 6) (v0 : 0 ≤ x) (v1 : x ≤ 4294967295) : LF true xs o x (ddo xs o x) := by
  by_cases e3 : o = 3
  · subst e3
    by_cases h6 : 6 ≤ xs.length
    · have e : ddo xs 3 x = (xs, 3, 0) := by simp [ddo, h6]
      rw [e]
      constructor <;> first | exact hv | (simp <;> omega)
    · have e : ddo xs 3 x = (x :: xs, 1, 0) := by simp [ddo, h6]
      rw [e]
      constructor <;> first | (intro z hz; simp at hz; rcases hz with rfl | hz; exact ⟨v0, v1⟩; exact hv z hz) | (simp <;> omega)
  by_cases e4 : o = 4
  · subst e4
    have e : ddo xs 4 x = sdo xs 2 0 := by simp [ddo]
    rw [e]
    rcases List.eq_nil_or_concat xs with rfl | ⟨r, z, rfl⟩
    · have e : sdo [] 2 0 = ([], 2, 0) := by simp [sdo, qdo]
      rw [e]
      constructor <;> simp
    · rw [List.concat_eq_append] at *
      have hz := hv z (by simp)
      rw [sdo_take]
      simp at hl
      constructor <;> first | (intro y hy; exact hv y (by simp [hy])) | (simp <;> omega)
  have e : ddo xs o x = qdo xs o x := by simp [ddo, e3, e4]
  rw [e]
  have := qdo_facts (k := k) hl hv w1 w6 v0 v1
  exact { this with wrong := by rw [this.wrong]; simp [e3, e4] }

theorem hdo_facts {xs : List Int} {o k x : Int} (hl : xs.length ≤ 6) (hv : ∀ z ∈ xs, 0 ≤ z ∧ z ≤ 4294967295) (hp : Hp xs) (w1 : 1 ≤ o) (w6 : o ≤ 6) (v0 : 0 ≤ x) (v1 : x ≤ 4294967295) : LF false xs o x (hdo xs o x) ∧ Hp (hdo xs o x).1 := by
  by_cases e1 : o = 1
  · subst e1
    by_cases h6 : 6 ≤ xs.length
    · rw [hdo_full x h6]
      refine ⟨?_, hp⟩
      constructor <;> first | exact hv | (simp <;> omega)
    · obtain ⟨ys, e, p, h⟩ := hdo_puts x hp (by omega)
      rw [e]
      refine ⟨?_, h⟩
      have pl := p.length_eq
      simp at pl
      constructor <;> first | (intro z hz; rcases List.mem_append.1 (p.mem_iff.1 hz) with hz | hz; exact hv z hz; (simp at hz; subst hz; exact ⟨v0, v1⟩)) | (simp <;> omega)
  by_cases e2 : o = 2
  · subst e2
    cases xs with
    | nil =>
      rw [hdo_none]
      refine ⟨?_, Hp.nil⟩
      constructor <;> simp
    | cons z r =>
      obtain ⟨ys, e, p, h⟩ := hdo_takes x hp
      rw [e]
      refine ⟨?_, h⟩
      have pl := p.length_eq
      have hz := hv z (by simp)
      simp at hl
      constructor <;> first | (intro y hy; exact hv y (by simp [p.mem_iff.1 hy])) | (simp <;> omega)
  obtain ⟨c, y, e⟩ := hdo_keeps xs o x e1 e2
  refine ⟨?_, by rw [e]; exact hp⟩
  rw [hdo_else _ _ _ e1 e2]; exact qdo_facts (k := k) hl hv w1 w6 v0 v1
/-- What a table does. -/
structure TF (t : Tb) (o k x : Int) (r : Tb × Int × Int) : Prop where
  rt : RT r.1
  code : 1 ≤ r.2.1 ∧ r.2.1 ≤ 5
  told : 0 ≤ r.2.2 ∧ r.2.2 ≤ 4294967295
  zero : r.2.1 ≠ 1 → r.2.2 = 0
  same : (r.2.1 ≠ 1 ∨ o = 5 ∨ o = 6) → r.1 = t
  less : r.2.1 = 1 → (o = 2 ∨ o = 4) → len r.1 + 1 = len t
  more : r.2.1 = 1 → (o = 1 ∨ o = 3) → len r.1 = len t + 1 ∨ len r.1 = len t
  count : o = 6 → r.2.1 = 1 ∧ r.2.2 = len t
  wrong : r.2.1 = 5 ↔ (o ≠ 6 ∧ (o = 3 ∨ o = 4 ∨ k = 0))
theorem tdo_facts {t : Tb} (h : RT t) {o k x : Int} (w1 : 1 ≤ o) (w6 : o ≤ 6) (k0 : 0 ≤ k) (k1 : k ≤ 1000) (v0 : 0 ≤ x) (v1 : x ≤ 4294967295) : TF t o k x (tdo t o k x) := by
  have st := (tdo_stays h (o := o) (k := k) v0 v1).1
  have hr := h.room
  by_cases h6 : o = 6
  · subst h6; rw [tdo_count] at st ⊢
    exact ⟨st, by simp, ⟨by simp, by simp; omega⟩, by simp, by simp, by simp, by simp, by simp, by simp⟩
  by_cases hb : byKey o k
  · obtain ⟨ho, hk1, hk2⟩ := hb
    have hk0 : k ≠ 0 := by omega
    have hp := place_lt t k
    by_cases hh : t.k (place t k) = k
    · have hn : t.k (place t k) ≠ 0 := by rw [hh]; exact hk0
      have hvv := h.vals _ hp
      rcases ho with rfl | rfl | rfl
      · rw [tdo_put x hk1 hk2 (Or.inl hh)] at st ⊢
        have l := len_set t hp k x
        have hi : ind t (place t k) = 1 := by unfold ind; rw [if_neg hn]
        rw [if_neg hk0] at l
        exact ⟨st, by simp, by simp, by simp, by simp, by simp, fun _ _ => Or.inr (by simp only; omega), by simp, by simp [hk0]⟩
      · rw [tdo_take x hk1 hk2 hh] at st ⊢
        obtain ⟨a, -, c⟩ := without_all h hp hn
        exact ⟨st, by simp, hvv, by simp, by simp, fun _ _ => c, by simp, by simp, by simp [hk0]⟩
      · rw [tdo_peek x hk1 hk2, look, if_pos hh]
        exact ⟨h, by simp, hvv, by simp, by simp, by simp, by simp, by simp, by simp [hk0]⟩
    · rcases ho with rfl | rfl | rfl
      · by_cases hl : 6 ≤ len t
        · rw [tdo_full x hk1 hk2 hh hl]
          exact ⟨h, by simp, by simp, by simp, by simp, by simp, by simp, by simp, by simp [hk0]⟩
        · rw [tdo_put x hk1 hk2 (Or.inr (by omega))] at st ⊢
          have l := len_set t hp k x
          have hi := ind_le t (place t k)
          have hf := free_of_place h hh
          have hi : ind t (place t k) = 0 := by unfold ind; rw [if_pos hf]
          rw [if_neg hk0] at l
          exact ⟨st, by simp, by simp, by simp, by simp, by simp, fun _ _ => Or.inl (by simp only; omega), by simp, by simp [hk0]⟩
      · rw [tdo_absent x (Or.inl rfl) hk1 hk2 hh]
        exact ⟨h, by simp, by simp, by simp, by simp, by simp, by simp, by simp, by simp [hk0]⟩
      · rw [tdo_absent x (Or.inr rfl) hk1 hk2 hh]
        exact ⟨h, by simp, by simp, by simp, by simp, by simp, by simp, by simp, by simp [hk0]⟩
  · rw [tdo_wrong t x h6 hb]
    refine ⟨h, by simp, by simp, by simp, by simp, by simp, by simp, fun e => absurd e h6, ?_⟩
    simp only [true_iff]
    refine ⟨h6, ?_⟩
    unfold byKey at hb
    omega
/-- What a tally does. -/
structure AF (n o x : Int) (r : Int × Int × Int) : Prop where
  rt : 0 ≤ r.1 ∧ r.1 ≤ 4294967295
  code : 1 ≤ r.2.1 ∧ r.2.1 ≤ 5
  told : 0 ≤ r.2.2 ∧ r.2.2 ≤ 4294967295
  zero : r.2.1 ≠ 1 → r.2.2 = 0
  same : (r.2.1 ≠ 1 ∨ o = 5 ∨ o = 6) → r.1 = n
  count : o = 6 → r.2.1 = 1 ∧ r.2.2 = n
  wrong : r.2.1 = 5 ↔ (o = 3 ∨ o = 4)
theorem ado_facts {n o x : Int} (n0 : 0 ≤ n) (n1 : n ≤ 4294967295) (w1 : 1 ≤ o) (w6 : o ≤ 6) (v0 : 0 ≤ x) (v1 : x ≤ 4294967295) : AF n o x (ado n o x) := by
  have : o = 1 ∨ o = 2 ∨ o = 3 ∨ o = 4 ∨ o = 5 ∨ o = 6 := by omega
  rcases this with rfl | rfl | rfl | rfl | rfl | rfl
  · by_cases h : 4294967295 < n + x
    · have e : ado n 1 x = (n, 3, 0) := by simp [ado, h]
      rw [e]; constructor <;> (simp <;> omega)
    · have e : ado n 1 x = (n + x, 1, n) := by simp [ado, h]
      rw [e]; constructor <;> (simp <;> omega)
  · by_cases h : n < x
    · have e : ado n 2 x = (n, 2, 0) := by simp [ado, h]
      rw [e]; constructor <;> (simp <;> omega)
    · have e : ado n 2 x = (n - x, 1, n) := by simp [ado, h]
      rw [e]; constructor <;> (simp <;> omega)
  · have e : ado n 3 x = (n, 5, 0) := by simp [ado]
    rw [e]; constructor <;> (simp <;> omega)
  · have e : ado n 4 x = (n, 5, 0) := by simp [ado]
    rw [e]; constructor <;> (simp <;> omega)
  · have e : ado n 5 x = (n, 1, n) := by simp [ado]
    rw [e]; constructor <;> (simp <;> omega)
  · have e : ado n 6 x = (n, 1, n) := by simp [ado]
    rw [e]; constructor <;> (simp <;> omega)

/-- 11.1's Do: what an object is then, as words, and its answer. -/
def ldo (kind : Int) (l : List Int) (o x : Int) : List Int × Int × Int := if kind = 1 then qdo l o x else if kind = 2 then sdo l o x else if kind = 3 then ddo l o x else hdo l o x
def odo (kind : Int) (c : Nat → Nat) (o k x : Int) : (Nat → Nat) × Int × Int :=
  if kind = 5 then (tw (tdo (tbl c) o k x).1, (tdo (tbl c) o k x).2) else if kind = 6 then (tyw (ado (c 0) o x).1, (ado (c 0) o x).2) else (lw (ldo kind (lst c) o x).1, (ldo kind (lst c) o x).2)
/-- How many things there are in an object. -/
def osz (kind : Int) (c : Nat → Nat) : Int := if kind = 5 then (len (tbl c) : Int) else (c 0 : Nat)

theorem WList.congr {c d : Nat → Nat} (h : WList c) (e : ∀ j, j < 17 → d j = c j) : WList d where
  len := by rw [e 0 (by decide)]; exact h.len
  val i h1 h2 := by rw [e 0 (by decide)] at h2; have := h.len; rw [e i (by omega)]; exact h.val i h1 h2
  rest i h1 h2 := by rw [e 0 (by decide)] at h1; rw [e i h2]; exact h.rest i h1 h2
theorem tw_tbl {c : Nat → Nat} (h : upC c 16 1 0 = true) : wl (tw (tbl c)) = wl c := wl_congr fun j hj => by
  unfold tw tbl
  by_cases h16 : j < 16
  · rw [if_pos h16]
    split
    · simp only [Int.toNat_natCast]; congr 1; omega
    · simp only [Int.toNat_natCast]; congr 1; omega
  · rw [if_neg h16]
    have := upC_all h (j := j) (by omega) (by omega)
    omega
theorem tyw_0 {c : Nat → Nat} (h : isTb c = true) : wl (tyw (c 0 : Nat)) = wl c := wl_congr fun j hj => by
  unfold isTb at h
  simp only [Bool.and_eq_true] at h
  unfold tyw
  by_cases e : j = 0
  · subst e; simp
  · rw [if_neg e]
    have := upC_all h.2 (j := j) (by omega) (by omega)
    omega
theorem tbl_tw {t : Tb} (h : RT t) : (tbl (tw t)).k 0 = t.k 0 ∧ ∀ i, i < 8 → (tbl (tw t)).k i = t.k i ∧ (tbl (tw t)).v i = t.v i := by
  have H : ∀ i, i < 8 → (tbl (tw t)).k i = t.k i ∧ (tbl (tw t)).v i = t.v i := fun i hi => by
    have a := h.keys i hi
    have b := h.vals i hi
    have e1 : 2 * i / 2 = i := by omega
    have e2 : (2 * i + 1) / 2 = i := by omega
    have e3 : 2 * i % 2 = 0 := by omega
    have e4 : ¬ (2 * i + 1) % 2 = 0 := by omega
    constructor
    · show ((tw t (2 * i) : Nat) : Int) = t.k i
      unfold tw; rw [if_pos (by omega), if_pos e3, e1]; omega
    · show ((tw t (2 * i + 1) : Nat) : Int) = t.v i
      unfold tw; rw [if_pos (by omega), if_neg e4, e2]; omega
  exact ⟨(H 0 (by decide)).1, H⟩
theorem ind_congr {t u : Tb} {i : Nat} (h : u.k i = t.k i) : ind u i = ind t i := by unfold ind; rw [h]
theorem len_congr {t u : Tb} (h : ∀ i, i < 8 → u.k i = t.k i ∧ u.v i = t.v i) : len u = len t := by
  unfold len
  rw [ind_congr (h 0 (by decide)).1, ind_congr (h 1 (by decide)).1, ind_congr (h 2 (by decide)).1, ind_congr (h 3 (by decide)).1, ind_congr (h 4 (by decide)).1, ind_congr (h 5 (by decide)).1, ind_congr (h 6 (by decide)).1, ind_congr (h 7 (by decide)).1]
theorem RT.congr {t u : Tb} (hr : RT t) (h : ∀ i, i < 8 → u.k i = t.k i ∧ u.v i = t.v i) : RT u where
  keys p hp := by rw [(h p hp).1]; exact hr.keys p hp
  vals p hp := by rw [(h p hp).2]; exact hr.vals p hp
  none p hp := by rw [(h p hp).1, (h p hp).2]; exact hr.none p hp
  row p hp := by
    rw [(h p hp).1]
    intro h0 q hq hd
    have := hr.row p hp h0 q hq hd
    unfold Hit at this ⊢
    rw [(h q hq).1]; exact this
  room := by rw [len_congr h]; exact hr.room
theorem wtab_tw {t : Tb} (h : RT t) : WTab (tw t) := by
  refine ⟨upC_iff.2 fun j hj => ?_, upC_iff.2 fun j hj => ?_, h.congr (tbl_tw h).2⟩
  · have a := h.keys ((0 + j) / 2) (by omega)
    have b := h.vals ((0 + j) / 2) (by omega)
    unfold tw
    rw [if_pos (by omega)]
    split <;> omega
  · unfold tw
    rw [if_neg (by omega)]
    decide
theorem isTb_tyw {n : Int} (h0 : 0 ≤ n) (h1 : n ≤ 4294967295) : isTb (tyw n) = true := by
  unfold isTb
  simp only [Bool.and_eq_true]
  refine ⟨upC_iff.2 fun j hj => ?_, upC_iff.2 fun j hj => ?_⟩
  · obtain rfl : j = 0 := by omega
    unfold tyw; simp; omega
  · unfold tyw; rw [if_neg (by omega)]; decide

/-- What every object does. -/
structure OF (kind : Int) (c : Nat → Nat) (o k x : Int) (r : (Nat → Nat) × Int × Int) : Prop where
  ob : isOb kind r.1
  code : 1 ≤ r.2.1 ∧ r.2.1 ≤ 5
  told : 0 ≤ r.2.2 ∧ r.2.2 ≤ 4294967295
  zero : r.2.1 ≠ 1 → r.2.2 = 0
  same : (r.2.1 ≠ 1 ∨ o = 5 ∨ o = 6) → wl r.1 = wl c
  less : kind ≠ 6 → r.2.1 = 1 → (o = 2 ∨ o = 4) → osz kind r.1 + 1 = osz kind c
  more : kind ≠ 6 → r.2.1 = 1 → (o = 1 ∨ o = 3) → osz kind r.1 = osz kind c + 1 ∨ (kind = 5 ∧ osz kind r.1 = osz kind c)
  count : o = 6 → r.2.1 = 1 ∧ r.2.2 = osz kind c
  wrong : r.2.1 = 5 ↔ (((o = 3 ∨ o = 4) ∧ kind ≠ 3) ∨ (kind = 5 ∧ o ≠ 6 ∧ (o = 3 ∨ o = 4 ∨ k = 0)))
  take : kind ≤ 4 → o = 2 → (r.2.1 = 2 ∧ osz kind c = 0) ∨ (r.2.1 = 1 ∧ 0 < osz kind c)
  put : kind ≤ 4 → o = 1 → (r.2.1 = 3 ∧ osz kind c = 6) ∨ (r.2.1 = 1 ∧ osz kind c < 6)
theorem isOb_kind {kind : Int} {c : Nat → Nat} (h : isOb kind c) : 1 ≤ kind ∧ kind ≤ 6 := by
  rcases h with ⟨h | h | h, _⟩ | ⟨h, _⟩ | ⟨h, _⟩ | ⟨h, _⟩ <;> subst h <;> decide
theorem osz_in {kind : Int} {c : Nat → Nat} (h : isOb kind c) : 0 ≤ osz kind c ∧ (kind ≠ 6 → osz kind c ≤ 6) ∧ osz kind c ≤ 4294967295 := by
  unfold osz
  rcases h with ⟨hk, hl⟩ | ⟨hk, hl, _⟩ | ⟨hk, _, _, hr⟩ | ⟨hk, hl⟩
  · have := (isLb_w hl).len
    rw [if_neg (by omega)]; omega
  · have := (isLb_w hl).len
    rw [if_neg (by omega)]; omega
  · have := hr.room
    rw [if_pos hk]; omega
  · unfold isTb at hl
    simp only [Bool.and_eq_true] at hl
    have := upC_all hl.1 (j := 0) (by omega) (by omega)
    rw [if_neg (by omega)]; omega
theorem ldo_facts {kind : Int} {l : List Int} {o k x : Int} (h1 : 1 ≤ kind) (h4 : kind ≤ 4) (hl : l.length ≤ 6) (hv : ∀ z ∈ l, 0 ≤ z ∧ z ≤ 4294967295) (hp : kind = 4 → Hp l) (w1 : 1 ≤ o) (w6 : o ≤ 6) (v0 : 0 ≤ x) (v1 : x ≤ 4294967295) :
    LF (decide (kind = 3)) l o x (ldo kind l o x) ∧ (kind = 4 → Hp (ldo kind l o x).1) := by
  have : kind = 1 ∨ kind = 2 ∨ kind = 3 ∨ kind = 4 := by omega
  rcases this with rfl | rfl | rfl | rfl
  · exact ⟨qdo_facts (k := k) hl hv w1 w6 v0 v1, by simp⟩
  · exact ⟨sdo_facts (k := k) hl hv w1 w6 v0 v1, by simp⟩
  · exact ⟨ddo_facts (k := k) hl hv w1 w6 v0 v1, by simp⟩
  · have := hdo_facts (k := k) hl hv (hp rfl) w1 w6 v0 v1
    exact ⟨this.1, fun _ => this.2⟩
theorem isOb_list {kind : Int} {c : Nat → Nat} (h4 : kind ≤ 4) (h : isOb kind c) : isLb c = true ∧ (kind = 4 → Hp (lst c)) := by
  rcases h with ⟨hk, hl⟩ | ⟨hk, hl, hp⟩ | ⟨hk, _⟩ | ⟨hk, _⟩
  · exact ⟨hl, by omega⟩
  · exact ⟨hl, fun _ => hp⟩
  · omega
  · omega
theorem isOb_ofList {kind : Int} {l : List Int} (h1 : 1 ≤ kind) (h4 : kind ≤ 4) (hl : l.length ≤ 6) (hv : ∀ z ∈ l, 0 ≤ z ∧ z ≤ 4294967295) (hp : kind = 4 → Hp l) : isOb kind (lw l) := by
  have := isLb_of (lw_in hl hv)
  by_cases e : kind = 4
  · exact Or.inr (Or.inl ⟨e, this, by rw [lst_lw hv]; exact hp e⟩)
  · exact Or.inl ⟨by omega, this⟩
theorem odo_facts {kind : Int} {c : Nat → Nat} {o k x : Int} (h : isOb kind c) (w1 : 1 ≤ o) (w6 : o ≤ 6) (k0 : 0 ≤ k) (k1 : k ≤ 1000) (v0 : 0 ≤ x) (v1 : x ≤ 4294967295) : OF kind c o k x (odo kind c o k x) := by
  obtain ⟨b1, b6⟩ := isOb_kind h
  by_cases e5 : kind = 5
  · subst e5
    obtain ⟨h1, h2, h3⟩ : WTab c := by
      rcases h with ⟨hk, _⟩ | ⟨hk, _⟩ | ⟨_, h⟩ | ⟨hk, _⟩ <;> first | exact h | omega
    have f := tdo_facts h3 w1 w6 k0 k1 v0 v1
    have e : odo 5 c o k x = (tw (tdo (tbl c) o k x).1, (tdo (tbl c) o k x).2) := by rw [odo, if_pos rfl]
    rw [e]
    have hs : ∀ d, osz 5 d = (len (tbl d) : Int) := fun d => by rw [osz, if_pos rfl]
    have hl := len_congr (tbl_tw f.rt).2
    refine ⟨Or.inr (Or.inr (Or.inl ⟨rfl, wtab_tw f.rt⟩)), f.code, f.told, f.zero, fun hh => ?_, fun _ a b => ?_, fun _ a b => ?_, fun a => ?_, ?_, fun a => absurd a (by decide), fun a => absurd a (by decide)⟩
    · show wl (tw (tdo (tbl c) o k x).1) = wl c
      rw [f.same hh]; exact tw_tbl h2
    · rw [hs, hs]; show ((len (tbl (tw (tdo (tbl c) o k x).1)) : Nat) : Int) + 1 = _; rw [hl]; have := f.less a b; omega
    · rw [hs, hs]; show ((len (tbl (tw (tdo (tbl c) o k x).1)) : Nat) : Int) = _ ∨ (_ ∧ ((len (tbl (tw (tdo (tbl c) o k x).1)) : Nat) : Int) = _); rw [hl]; have := f.more a b; omega
    · rw [hs]; exact f.count a
    · have := f.wrong; show (tdo (tbl c) o k x).2.1 = 5 ↔ _; rw [this]; omega
  by_cases e6 : kind = 6
  · subst e6
    have h1 : isTb c = true := by
      rcases h with ⟨hk, _⟩ | ⟨hk, _⟩ | ⟨hk, _⟩ | ⟨_, h⟩ <;> first | exact h | omega
    have hc : 0 ≤ ((c 0 : Nat) : Int) ∧ ((c 0 : Nat) : Int) ≤ 4294967295 := by
      unfold isTb at h1
      simp only [Bool.and_eq_true] at h1
      have := upC_all h1.1 (j := 0) (by omega) (by omega)
      omega
    have f := ado_facts hc.1 hc.2 w1 w6 v0 v1
    have e : odo 6 c o k x = (tyw (ado (c 0) o x).1, (ado (c 0) o x).2) := by rw [odo, if_neg (by decide), if_pos rfl]
    rw [e]
    refine ⟨Or.inr (Or.inr (Or.inr ⟨rfl, isTb_tyw f.rt.1 f.rt.2⟩)), f.code, f.told, f.zero, fun hh => ?_, fun a => absurd rfl a, fun a => absurd rfl a, fun a => ?_, ?_, fun a => absurd a (by decide), fun a => absurd a (by decide)⟩
    · show wl (tyw (ado (c 0) o x).1) = wl c
      rw [f.same hh]; exact tyw_0 h1
    · rw [osz, if_neg (by decide)]; exact f.count a
    · have := f.wrong; show (ado (c 0) o x).2.1 = 5 ↔ _; rw [this]; omega
  have h4 : kind ≤ 4 := by omega
  obtain ⟨hb, hp⟩ := isOb_list h4 h
  have hw := isLb_w hb
  obtain ⟨f, g⟩ := ldo_facts (k := k) b1 h4 (by rw [lst_length]; exact hw.len) (lst_val hw) hp w1 w6 v0 v1
  have e : odo kind c o k x = (lw (ldo kind (lst c) o x).1, (ldo kind (lst c) o x).2) := by rw [odo, if_neg e5, if_neg e6]
  rw [e]
  have hs : osz kind c = (lst c).length := by rw [osz, if_neg e5, lst_length]
  have hs2 : ∀ l : List Int, osz kind (lw l) = l.length := fun l => by rw [osz, if_neg e5]; simp [lw]
  refine ⟨isOb_ofList b1 h4 f.len f.val g, f.code, f.told, f.zero, fun hh => ?_, fun _ a b => ?_, fun _ a b => ?_, fun a => ?_, ?_, fun _ a => ?_, fun _ a => ?_⟩
  · show wl (lw (ldo kind (lst c) o x).1) = wl c
    rw [f.same hh]; exact wl_congr (lw_lst hw)
  · show osz kind (lw (ldo kind (lst c) o x).1) + 1 = _; rw [hs, hs2]; have := f.less a b; omega
  · show osz kind (lw (ldo kind (lst c) o x).1) = _ ∨ _; rw [hs, hs2]; have := f.more a b; omega
  · rw [hs]; exact f.count a
  · show (ldo kind (lst c) o x).2.1 = 5 ↔ _; rw [f.wrong]; simp; omega
  · rw [hs]; have := f.take a; show ((ldo kind (lst c) o x).2.1 = 2 ∧ _) ∨ ((ldo kind (lst c) o x).2.1 = 1 ∧ _); omega
  · rw [hs]; have := f.put a; show ((ldo kind (lst c) o x).2.1 = 3 ∧ _) ∨ ((ldo kind (lst c) o x).2.1 = 1 ∧ _); omega
theorem isOb_zero {kind : Int} (h1 : 1 ≤ kind) (h6 : kind ≤ 6) : isOb kind wz := by
  by_cases h4 : kind ≤ 4
  · have : isLb wz = true := by decide
    by_cases e : kind = 4
    · exact Or.inr (Or.inl ⟨e, this, Hp.nil⟩)
    · exact Or.inl ⟨by omega, this⟩
  by_cases e5 : kind = 5
  · exact Or.inr (Or.inr (Or.inl ⟨e5, by decide, by decide, RT.zero⟩))
  · exact Or.inr (Or.inr (Or.inr ⟨by omega, by decide⟩))
end Go.Proofs.YteogbpaaacmllaaGreatDoor.Tab
namespace Go.Proofs.YteogbpaaacmllaaGreatDoor.Tab
set_option maxRecDepth 20000
open Go.RowKit
set_option linter.unusedVariables false

/-- A deed. -/
structure DD where
  t : Int
  o : Int
  k : Int
  x : Int
  c : Int
  y : Int
def DD.row (d : DD) : List Value := dl d.t d.o d.k d.x d.c d.y

/-- n deeds, q 0 to q (n - 1), lie in the slice v. -/
def Dq (w : World) (v : Value) (n : Nat) (q : Nat → DD) : Prop :=
  (n = 0 ∧ ∃ (a : Option Addr) (c : Nat), v = .slice a 0 c ∧ (a = none → c = 0)) ∨
  ∃ (b off c : Nat), v = .slice (some ⟨b, off, none⟩) n c ∧ 0 < n ∧ n ≤ c ∧ n ≤ 9223372036854775807 ∧ ∀ i, i < n → w.rangeAt b (off + i * 6) (q i).row
theorem Dds.dq {w : World} {v : Value} {n : Nat} (h : Dds w v n) : ∃ q, Dq w v n q := by
  rcases h with ⟨h, h'⟩ | ⟨b, off, c, h1, h2, h3, h4, h5⟩
  · exact ⟨fun _ => ⟨0, 0, 0, 0, 0, 0⟩, Or.inl ⟨h, h'⟩⟩
  · have : ∀ i, ∃ d : DD, i < n → w.rangeAt b (off + i * 6) d.row := fun i => by
      by_cases hi : i < n
      · obtain ⟨t, o, k, x, cc, y, hr⟩ := h5 i hi
        exact ⟨⟨t, o, k, x, cc, y⟩, fun _ => hr⟩
      · exact ⟨⟨0, 0, 0, 0, 0, 0⟩, fun h => absurd h hi⟩
    exact ⟨fun i => Classical.choose (this i), Or.inr ⟨b, off, c, h1, h2, h3, h4, fun i hi => Classical.choose_spec (this i) hi⟩⟩
theorem Dq.later {w w' : World} {v : Value} {n : Nat} {q : Nat → DD} (h : Dq w v n q) (hb : Below w.heap.size w w') : Dq w' v n q := by
  rcases h with h | ⟨b, off, c, h1, h2, h3, h4, h5⟩
  · exact Or.inl h
  · exact Or.inr ⟨b, off, c, h1, h2, h3, h4, fun i hi j v hv => by
      have := h5 i hi j v hv
      rw [hb.cell (World.block_lt_of_cell? w _ this)]; exact this⟩

theorem Dq.form {w : World} {v : Value} {n : Nat} {q : Nat → DD} (h : Dq w v n q) : ∃ a c, v = .slice a n c := by
  rcases h with ⟨h, a, c, e, _⟩ | ⟨b, off, c, e, _⟩
  · exact ⟨a, c, h ▸ e⟩
  · exact ⟨_, c, e⟩

/-- An object of noughts behind i deeds. -/
def oi (kind : Int) (q : Nat → DD) : Nat → (Nat → Nat)
  | 0 => wz
  | i + 1 => (odo kind (oi kind q i) (q i).o (q i).k (q i).x).1
/-- The deed of number i is what the object does. -/
def Ok1 (kind : Int) (q : Nat → DD) (i : Nat) : Prop := Rt (q i).o (q i).k (q i).x ∧ (odo kind (oi kind q i) (q i).o (q i).k (q i).x).2.1 = (q i).c ∧ (odo kind (oi kind q i) (q i).o (q i).k (q i).x).2.2 = (q i).y
theorem oi_ob {kind : Int} (h1 : 1 ≤ kind) (h6 : kind ≤ 6) {q : Nat → DD} : ∀ i, (∀ j, j < i → Ok1 kind q j) → isOb kind (oi kind q i)
  | 0, _ => isOb_zero h1 h6
  | i + 1, h => by
    have r := (h i (Nat.lt_succ_self _)).1
    exact (odo_facts (oi_ob h1 h6 i fun j hj => h j (Nat.lt_succ_of_lt hj)) r.w1 r.w6 r.k0 r.k1 r.v0 r.v1).ob
/-- All are what the object does, or there is a first one that is not. -/
theorem first_bad (kind : Int) (q : Nat → DD) : ∀ n, (∀ j, j < n → Ok1 kind q j) ∨ ∃ m, m < n ∧ (∀ j, j < m → Ok1 kind q j) ∧ ¬ Ok1 kind q m
  | 0 => Or.inl fun j hj => absurd hj (Nat.not_lt_zero _)
  | n + 1 => by
    rcases first_bad kind q n with h | ⟨m, hm, h⟩
    · by_cases hn : Ok1 kind q n
      · refine Or.inl fun j hj => ?_
        rcases Nat.lt_or_eq_of_le (Nat.le_of_lt_succ hj) with h' | rfl
        · exact h j h'
        · exact hn
      · exact Or.inr ⟨n, Nat.lt_succ_self _, h, hn⟩
    · exact Or.inr ⟨m, Nat.lt_succ_of_lt hm, h⟩
/-- A thing of noughts. -/
theorem Ok1.at {kind : Int} {q : Nat → DD} {i : Nat} {t o k x c y : Int} (hq : q i = ⟨t, o, k, x, c, y⟩) : Ok1 kind q i ↔ Rt o k x ∧ (odo kind (oi kind q i) o k x).2.1 = c ∧ (odo kind (oi kind q i) o k x).2.2 = y := by unfold Ok1; rw [hq]
theorem oi_at {kind : Int} {q : Nat → DD} {i : Nat} {t o k x c y : Int} (hq : q i = ⟨t, o, k, x, c, y⟩) : oi kind q (i + 1) = (odo kind (oi kind q i) o k x).1 := by show (odo kind (oi kind q i) (q i).o (q i).k (q i).x).1 = _; rw [hq]
theorem Dq.all {w : World} {b off c n : Nat} {q : Nat → DD} (D : Dq w (.slice (some ⟨b, off, none⟩) n c) n q) : ∀ w', Below w.heap.size w w' → ∀ i, i < n → ∃ t o k x cc y : Int, q i = ⟨t, o, k, x, cc, y⟩ ∧ w'.rangeAt b (off + i * 6) (dl t o k x cc y) := by
  intro w' hb i hi
  rcases D.later hb with ⟨h, _⟩ | ⟨b2, off2, c2, hv2, _, _, _, hh⟩
  · omega
  · injection hv2 with e1 _ _
    injection e1 with e1
    injection e1 with e1 e2
    subst e1 e2
    exact ⟨(q i).t, (q i).o, (q i).k, (q i).x, (q i).c, (q i).y, rfl, hh i hi⟩
theorem Dq.row {w : World} {b off c n : Nat} {q : Nat → DD} (D : Dq w (.slice (some ⟨b, off, none⟩) n c) n q) : ∀ w', Below w.heap.size w w' → ∀ i, i < n → w'.rangeAt b (off + i * 6) (q i).row := by
  intro w' hb i hi
  rcases D.later hb with ⟨h, _⟩ | ⟨b2, off2, c2, hv2, _, _, _, hh⟩
  · omega
  · injection hv2 with e1 _ _
    injection e1 with e1
    injection e1 with e1 e2
    subst e1 e2
    exact hh i hi
theorem Dq.some {w : World} {a : Option Addr} {c n : Nat} {q : Nat → DD} (D : Dq w (.slice a n c) n q) (hn : 0 < n) : ∃ b off, a = some ⟨b, off, none⟩ ∧ n ≤ c := by
  rcases D with ⟨h, _⟩ | ⟨b, off, c2, hv, _, hc, _⟩
  · omega
  · injection hv with e1 e2 e3
    exact ⟨b, off, e1, e3 ▸ hc⟩
theorem rg0 {w : World} {b o : Nat} {v : Value} {l : List Value} (h : w.rangeAt b o (v :: l)) : w.cell? ⟨b, o, none⟩ = some v := h 0 v rfl
end Go.Proofs.YteogbpaaacmllaaGreatDoor.Tab
namespace Go.Proofs.YteogbpaaacmllaaGreatDoor.Tab
set_option maxRecDepth 20000
open Go.RowKit
set_option linter.unusedVariables false

/-- Thirty-two words as they lie. -/
def rl (r : Nat → Nat) : List Value := (List.range 32).map fun j => .int .u64 (r j : Nat)
theorem rl_length (r : Nat → Nat) : (rl r).length = 32 := by simp [rl]
theorem rl_at (r : Nat → Nat) {j : Nat} (h : j < 32) : (rl r)[j]? = some (.int .u64 (r j : Nat)) := by simp [rl, h]
theorem rl_one (r : Nat → Nat) : ∀ v ∈ rl r, v.oneCell' = true := by
  intro v hv; simp only [rl, List.mem_map] at hv; obtain ⟨j, _, rfl⟩ := hv; rfl
theorem rl_congr {r d : Nat → Nat} (h : ∀ j, j < 32 → r j = d j) : rl r = rl d := by
  unfold rl
  refine List.map_congr_left fun j hj => ?_
  rw [h j (by simpa using hj)]
theorem rl_inj {r d : Nat → Nat} (h : rl r = rl d) : ∀ j, j < 32 → r j = d j := by
  intro j hj
  have h1 := rl_at r hj
  rw [h, rl_at d hj] at h1
  simp at h1
  omega
theorem rl_zero : (rl wz).toArray = #[.int .u64 0, .int .u64 0, .int .u64 0, .int .u64 0, .int .u64 0, .int .u64 0, .int .u64 0, .int .u64 0, .int .u64 0, .int .u64 0, .int .u64 0, .int .u64 0, .int .u64 0, .int .u64 0, .int .u64 0, .int .u64 0, .int .u64 0, .int .u64 0, .int .u64 0, .int .u64 0, .int .u64 0, .int .u64 0, .int .u64 0, .int .u64 0, .int .u64 0, .int .u64 0, .int .u64 0, .int .u64 0, .int .u64 0, .int .u64 0, .int .u64 0, .int .u64 0] := rfl
theorem rl_set (r : Nat → Nat) {j : Nat} (x : Nat) (hj : j < 32) : (rl r).set j (.int .u64 (x : Nat)) = rl (upw r j x) := by
  apply List.ext_getElem?
  intro k
  by_cases hk : k < 32
  · rw [rl_at _ hk, List.getElem?_set, rl_length]
    by_cases e : j = k
    · subst e; simp [hj, upw]
    · rw [if_neg e, rl_at _ hk]; simp [upw, show k ≠ j from fun h => e h.symm]
  · rw [List.getElem?_eq_none (by rw [List.length_set, rl_length]; omega), List.getElem?_eq_none (by rw [rl_length]; omega)]
theorem Bo.rword {w : World} {b j : Nat} {r : Nat → Nat} (h : Bo w b (rl r)) (hj : j < 32) : w.cell? ⟨b, j, none⟩ = some (.int .u64 (r j : Nat)) := h.cell j _ (rl_at r hj)

theorem Bo.rwordx {w : World} {b j x : Nat} {r : Nat → Nat} (h : Bo w b (rl r)) (hj : j < 32) (hx : r j = x) : w.cell? ⟨b, j, none⟩ = some (.int .u64 (x : Nat)) := hx ▸ h.rword hj

/-- Some cells of a row are written. -/
theorem Bo.setAt {w : World} {b o : Nat} {cs vs ds : List Value} (h : Bo w b cs) (hl : o + vs.length ≤ cs.length) (hd : ∀ j v, ds[j]? = some v → (o ≤ j ∧ j < o + vs.length ∧ vs[j - o]? = some v) ∨ ((j < o ∨ o + vs.length ≤ j) ∧ cs[j]? = some v)) : Bo (w.setCells b o vs) b ds where
  cell j v hv := by
    rcases hd j v hv with ⟨h1, h2, h3⟩ | ⟨h1, h2⟩
    · have := World.cell?_setCells_in b vs o w (fun k hk => by rw [h.cell (o + k) _ (List.getElem?_eq_getElem (by omega))]; rfl) (j - o) (by omega)
      rw [show o + (j - o) = j by omega] at this
      rw [this]
      rw [List.getElem?_eq_getElem (by omega)] at h3
      exact h3
    · rw [World.cell?_setCells_out b vs o w ⟨b, j, none⟩ (fun _ _ => by show j < o ∨ o + vs.length ≤ j; exact h1)]
      exact h.cell j v h2
  froz j := by rw [World.frozen?_setCells]; exact h.froz j
  lt := by rw [size_setCells]; exact h.lt
theorem Bo.thereAt {w : World} {b o n : Nat} {cs : List Value} (h : Bo w b cs) (hn : o + n ≤ cs.length) : w.there b o n := fun j hj =>
  ⟨by rw [h.cell (o + j) _ (List.getElem?_eq_getElem (by omega))]; rfl, h.froz _⟩

/-- A record's object, and one that is another record's. -/
def ob (r : Nat → Nat) : Nat → Nat := fun j => r (1 + j)
def wo (r d : Nat → Nat) : Nat → Nat := fun j => if 1 ≤ j ∧ j < 18 then d (j - 1) else r j
theorem Bo.setOb {w : World} {b : Nat} {r : Nat → Nat} (h : Bo w b (rl r)) (d : Nat → Nat) : Bo (w.setCells b 1 (wl d)) b (rl (wo r d)) :=
  h.setAt (by rw [wl_length, rl_length]; decide) fun j v hv => by
    have hj : j < 32 := by have := (List.getElem?_eq_some_iff.1 hv).1; rwa [rl_length] at this
    rw [rl_at _ hj] at hv
    rw [wl_length]
    by_cases e : 1 ≤ j ∧ j < 18
    · refine Or.inl ⟨e.1, e.2, ?_⟩
      rw [wl_at _ (by omega), ← hv]; unfold wo; rw [if_pos e]
    · refine Or.inr ⟨by omega, ?_⟩
      rw [rl_at _ hj, ← hv]; unfold wo; rw [if_neg e]
theorem rl_obj (r : Nat → Nat) : ∀ j v, (wl (ob r))[j]? = some v → (rl r)[1 + j]? = some v := fun j v hv => by
  have hj : j < 17 := by have := (List.getElem?_eq_some_iff.1 hv).1; rwa [wl_length] at this
  rw [wl_at _ hj] at hv
  rw [rl_at _ (by omega), ← hv]; rfl
theorem Bo.objCells {w : World} {b : Nat} {r : Nat → Nat} (h : Bo w b (rl r)) : ∀ j v, (wl (ob r))[j]? = some v → w.cell? ⟨b, 1 + j, none⟩ = some v := fun j v hv => h.cell _ _ (rl_obj r j v hv)

/-- An answer that fits, as a word: 4.1. -/
abbrev Ft (c v : Int) : Prop := 1 ≤ c ∧ c ≤ 5 ∧ 0 ≤ v ∧ v ≤ 4294967295 ∧ (c = 1 ∨ v = 0)
def ansN (c v : Nat) : Nat := c * 4294967296 + v
abbrev Aw (x : Nat) : Prop := Ft ((x / 4294967296 : Nat) : Int) ((x % 4294967296 : Nat) : Int)
theorem ansN_lt {c v : Nat} (h : Ft c v) : ansN c v < 18446744073709551616 := by
  obtain ⟨h1, h2, h3, h4, h5⟩ := h
  unfold ansN; omega
theorem ansN_parts {c v : Nat} (h : Ft c v) : ansN c v / 4294967296 = c ∧ ansN c v % 4294967296 = v := by
  obtain ⟨h1, h2, h3, h4, h5⟩ := h
  unfold ansN; omega
theorem ansN_of (x : Nat) : ansN (x / 4294967296) (x % 4294967296) = x := by
  unfold ansN; omega
theorem aw_ans {c v : Nat} (h : Ft c v) : Aw (ansN c v) := by
  obtain ⟨p1, p2⟩ := ansN_parts h
  unfold Aw; rw [p1, p2]; exact h
theorem ansN_pos {c v : Nat} (h : Ft c v) : ansN c v ≠ 0 := by
  obtain ⟨h1, h2, h3, h4, h5⟩ := h
  unfold ansN; omega
theorem aw_zero : ¬ Aw 0 := by decide
theorem not_ft' {c v : Int} (h : ¬ Ft c v) : (c = 1 ∧ (v < 0 ∨ 4294967295 < v)) ∨ (c ≠ 1 ∧ (c < 1 ∨ 5 < c)) ∨ (c ≠ 1 ∧ (1 ≤ c ∧ c ≤ 5) ∧ v ≠ 0) := by
  have : ¬ (1 ≤ c ∧ c ≤ 5 ∧ 0 ≤ v ∧ v ≤ 4294967295 ∧ (c = 1 ∨ v = 0)) := h
  omega

/-- New. -/
def newR (k : Nat) : Nat → Nat := fun j => if j = 0 then k else 0
end Go.Proofs.YteogbpaaacmllaaGreatDoor.Tab
namespace Go.Proofs.YteogbpaaacmllaaGreatDoor.Tab
set_option maxRecDepth 20000
open Go.RowKit
set_option linter.unusedVariables false

/-- What words are a record: 12.2. -/
abbrev aR1 (r : Nat → Nat) (t : Nat) : Prop := (r (18 + t) = 0 ↔ r (22 + t) = 0) ∧ (r (18 + t) = 0 ∨ Aw (r (18 + t)))
abbrev nR1 (r : Nat → Nat) (t : Nat) : Prop := r (22 + t) ≤ r 28 ∧ ∀ o, o < t → r (22 + t) = 0 ∨ r (22 + t) ≠ r (22 + o)
abbrev zR (r : Nat → Nat) : Prop := ∀ j, j < 3 → r (29 + j) = 0
abbrev tR (r : Nat → Nat) : Prop := r 26 < 16 ∧ r 27 ≤ 1099511627776 ∧ r 28 ≤ 1099511627776
abbrev aR (r : Nat → Nat) : Prop := ∀ t, t < 4 → aR1 r t
abbrev nR (r : Nat → Nat) : Prop := ∀ t, t < 4 → nR1 r t
def isRec (r : Nat → Nat) : Prop := isOb (r 0 : Nat) (ob r) ∧ aR r ∧ nR r ∧ zR r ∧ tR r
/-- Done. -/
def rdo (r : Nat → Nat) (t : Nat) (o k x : Int) : Nat → Nat := fun j =>
  if j = 26 then r 26 ^^^ 2 ^ t else if j = 28 ∨ j = 22 + t then r 28 + 1 else if j = 18 + t then ansN (odo (r 0 : Nat) (ob r) o k x).2.1.toNat (odo (r 0 : Nat) (ob r) o k x).2.2.toNat
  else if 1 ≤ j ∧ j < 18 then (odo (r 0 : Nat) (ob r) o k x).1 (j - 1) else r j

theorem lst_congr {c d : Nat → Nat} (h : WList c) (e : ∀ j, j < 17 → d j = c j) : lst d = lst c := by
  unfold lst
  rw [e 0 (by decide)]
  refine List.map_congr_left fun i hi => ?_
  have h1 : i < c 0 := by simpa using hi
  have := h.len
  rw [e (i + 1) (by omega)]
theorem upC_congr {c d : Nat → Nat} {off n : Nat} {m : Int} (e : ∀ j, j < 17 → d j = c j) (hn : off + n ≤ 17) (h : upC c off n m = true) : upC d off n m = true :=
  upC_iff.2 fun j hj => by rw [e (off + j) (by omega)]; exact upC_iff.1 h j hj
theorem isOb_congr {k : Int} {c d : Nat → Nat} (e : ∀ j, j < 17 → d j = c j) (h : isOb k c) : isOb k d := by
  rcases h with ⟨hk, hl⟩ | ⟨hk, hl, hp⟩ | ⟨hk, h1, h2, h3⟩ | ⟨hk, hl⟩
  · exact Or.inl ⟨hk, isLb_of ((isLb_w hl).congr e)⟩
  · exact Or.inr (Or.inl ⟨hk, isLb_of ((isLb_w hl).congr e), by rw [lst_congr (isLb_w hl) e]; exact hp⟩)
  · refine Or.inr (Or.inr (Or.inl ⟨hk, upC_congr e (by decide) h1, upC_congr e (by decide) h2, h3.congr fun i hi => ?_⟩))
    unfold tbl
    exact ⟨by show ((d (2 * i) : Nat) : Int) = _; rw [e (2 * i) (by omega)], by show ((d (2 * i + 1) : Nat) : Int) = _; rw [e (2 * i + 1) (by omega)]⟩
  · refine Or.inr (Or.inr (Or.inr ⟨hk, ?_⟩))
    unfold isTb at hl ⊢
    simp only [Bool.and_eq_true] at hl ⊢
    exact ⟨upC_congr e (by decide) hl.1, upC_congr e (by decide) hl.2⟩
theorem isOb_zero' {k : Int} (h1 : 1 ≤ k) (h6 : k ≤ 6) {c : Nat → Nat} (h : ∀ j, j < 17 → c j = 0) : isOb k c := isOb_congr (c := wz) h (isOb_zero h1 h6)

theorem newR_rec {k : Nat} (h1 : 1 ≤ k) (h6 : k ≤ 6) : isRec (newR k) := by
  have e : ∀ j, 0 < j → newR k j = 0 := fun j hj => by unfold newR; rw [if_neg (by omega)]
  refine ⟨isOb_zero' (by show (1 : Int) ≤ ((newR k 0 : Nat) : Int); unfold newR; rw [if_pos rfl]; omega) (by show ((newR k 0 : Nat) : Int) ≤ 6; unfold newR; rw [if_pos rfl]; omega) fun j _ => e _ (by omega), fun t ht => ⟨?_, Or.inl (e _ (by omega))⟩, fun t ht => ⟨?_, fun o ho => Or.inl (e _ (by omega))⟩, fun j hj => e _ (by omega), ?_⟩
  · rw [e _ (by omega), e _ (by omega)]
  · rw [e _ (by omega)]; exact Nat.zero_le _
  · refine ⟨?_, ?_, ?_⟩ <;> rw [e _ (by decide)] <;> decide
theorem xor_four {a t : Nat} (ha : a < 16) (ht : t < 4) : a ^^^ 2 ^ t < 16 := by
  have h1 : 2 ^ t < 2 ^ 4 := Nat.pow_lt_pow_right (by decide) ht
  exact Nat.xor_lt_two_pow (n := 4) ha h1
section
variable {r : Nat → Nat} {t : Nat} {o k x : Int}
theorem rdo_0 (ht : t < 4) : rdo r t o k x 0 = r 0 := by unfold rdo; rw [if_neg (by decide), if_neg (by omega), if_neg (by omega), if_neg (by decide)]
theorem rdo_ob (ht : t < 4) : ∀ j, j < 17 → ob (rdo r t o k x) j = (odo (r 0 : Nat) (ob r) o k x).1 j := fun j hj => by
  unfold ob rdo; rw [if_neg (by omega), if_neg (by omega), if_neg (by omega), if_pos (by omega), show 1 + j - 1 = j by omega]; rfl
theorem rdo_26 : rdo r t o k x 26 = r 26 ^^^ 2 ^ t := by unfold rdo; rw [if_pos rfl]
theorem rdo_27 (ht : t < 4) : rdo r t o k x 27 = r 27 := by unfold rdo; rw [if_neg (by decide), if_neg (by omega), if_neg (by omega), if_neg (by decide)]
theorem rdo_28 : rdo r t o k x 28 = r 28 + 1 := by unfold rdo; rw [if_neg (by decide), if_pos (Or.inl rfl)]
theorem rdo_w : t < 4 → rdo r t o k x (22 + t) = r 28 + 1 := fun ht => by unfold rdo; rw [if_neg (by omega), if_pos (Or.inr rfl)]
theorem rdo_a : t < 4 → rdo r t o k x (18 + t) = ansN (odo (r 0 : Nat) (ob r) o k x).2.1.toNat (odo (r 0 : Nat) (ob r) o k x).2.2.toNat := fun ht => by unfold rdo; rw [if_neg (by omega), if_neg (by omega), if_pos rfl]
theorem rdo_w' {s : Nat} (hs : s < 4) (ht : t < 4) (hne : s ≠ t) : rdo r t o k x (22 + s) = r (22 + s) := by unfold rdo; rw [if_neg (by omega), if_neg (by omega), if_neg (by omega), if_neg (by omega)]
theorem rdo_a' {s : Nat} (hs : s < 4) (ht : t < 4) (hne : s ≠ t) : rdo r t o k x (18 + s) = r (18 + s) := by unfold rdo; rw [if_neg (by omega), if_neg (by omega), if_neg (by omega), if_neg (by omega)]
theorem rdo_z {j : Nat} (ht : t < 4) (hj : j < 3) : rdo r t o k x (29 + j) = r (29 + j) := by unfold rdo; rw [if_neg (by omega), if_neg (by omega), if_neg (by omega), if_neg (by omega)]
theorem odo_ft (hO : isOb (r 0 : Nat) (ob r)) (hR : Rt o k x) : Ft ((odo (r 0 : Nat) (ob r) o k x).2.1.toNat : Nat) ((odo (r 0 : Nat) (ob r) o k x).2.2.toNat : Nat) := by
  have f := odo_facts hO hR.w1 hR.w6 hR.k0 hR.k1 hR.v0 hR.v1
  have h1 := f.code; have h2 := f.told; have h3 := f.zero
  refine ⟨by omega, by omega, by omega, by omega, ?_⟩
  by_cases e : (odo (r 0 : Nat) (ob r) o k x).2.1 = 1
  · exact Or.inl (by omega)
  · exact Or.inr (by have := h3 e; omega)
theorem rdo_rec (h : isRec r) (hR : Rt o k x) (ht : t < 4) (hc : r 28 < 1099511627776) : isRec (rdo r t o k x) := by
  obtain ⟨hO, hA, hN, hZ, hT⟩ := h
  have f := odo_facts hO hR.w1 hR.w6 hR.k0 hR.k1 hR.v0 hR.v1
  have ft := odo_ft hO hR
  refine ⟨?_, fun s hs => ?_, fun s hs => ?_, fun j hj => ?_, ?_⟩
  · rw [rdo_0 ht]; exact isOb_congr (rdo_ob ht) f.ob
  · by_cases e : s = t
    · subst e
      unfold aR1
      rw [rdo_a hs, rdo_w hs]
      exact ⟨⟨fun h => absurd h (ansN_pos ft), fun h => by omega⟩, Or.inr (aw_ans ft)⟩
    · unfold aR1
      rw [rdo_a' hs ht e, rdo_w' hs ht e]; exact hA s hs
  · unfold nR1
    rw [rdo_28]
    by_cases e : s = t
    · subst e
      rw [rdo_w hs]
      refine ⟨Nat.le_refl _, fun o2 ho => Or.inr ?_⟩
      rw [rdo_w' (by omega) ht (by omega)]
      have := (hN o2 (by omega)).1
      omega
    · rw [rdo_w' hs ht e]
      have hs1 := hN s hs
      refine ⟨by omega, fun o2 ho => ?_⟩
      by_cases e2 : o2 = t
      · subst e2
        rw [rdo_w (by omega)]; omega
      · rw [rdo_w' (by omega) ht e2]; exact hs1.2 o2 ho
  · rw [rdo_z ht hj]; exact hZ j hj
  · unfold tR
    rw [rdo_26, rdo_27 ht, rdo_28]
    exact ⟨xor_four hT.1 ht, hT.2.1, by omega⟩
end
theorem isRec.ob1 {r : Nat → Nat} (h : isRec r) : 1 ≤ ((r 0 : Nat) : Int) ∧ ((r 0 : Nat) : Int) ≤ 6 := isOb_kind h.1
end Go.Proofs.YteogbpaaacmllaaGreatDoor.Tab
namespace Go.Proofs.YteogbpaaacmllaaGreatDoor.Tab
set_option maxRecDepth 20000
open Go.RowKit
set_option linter.unusedVariables false

/-- An ask. -/
structure AK where
  t : Int
  g : Int
  o : Int
  k : Int
  x : Int
def AK.row (a : AK) : List Value := [.int .i64 a.t, .int .i64 a.g, .int .i64 a.o, .int .i64 a.k, .int .i64 a.x]

/-- n asks, q 0 to q (n - 1), lie in the slice v. -/
def Aq (w : World) (v : Value) (n : Nat) (q : Nat → AK) : Prop :=
  (n = 0 ∧ ∃ (a : Option Addr) (c : Nat), v = .slice a 0 c ∧ (a = none → c = 0)) ∨
  ∃ (b off c : Nat), v = .slice (some ⟨b, off, none⟩) n c ∧ 0 < n ∧ n ≤ c ∧ n ≤ 9223372036854775807 ∧ ∀ i, i < n → w.rangeAt b (off + i * 5) (q i).row
theorem Aq.later {w w' : World} {v : Value} {n : Nat} {q : Nat → AK} (h : Aq w v n q) (hb : Below w.heap.size w w') : Aq w' v n q := by
  rcases h with h | ⟨b, off, c, h1, h2, h3, h4, h5⟩
  · exact Or.inl h
  · exact Or.inr ⟨b, off, c, h1, h2, h3, h4, fun i hi j v hv => by
      have := h5 i hi j v hv
      rw [hb.cell (World.block_lt_of_cell? w _ this)]; exact this⟩
theorem Aq.form {w : World} {v : Value} {n : Nat} {q : Nat → AK} (h : Aq w v n q) : ∃ a c, v = .slice a n c := by
  rcases h with ⟨h, a, c, e, _⟩ | ⟨b, off, c, e, _⟩
  · exact ⟨a, c, h ▸ e⟩
  · exact ⟨_, c, e⟩
theorem Aq.all {w : World} {b off c n : Nat} {q : Nat → AK} (D : Aq w (.slice (some ⟨b, off, none⟩) n c) n q) : ∀ w', Below w.heap.size w w' → ∀ i, i < n → ∃ t g o k x : Int, q i = ⟨t, g, o, k, x⟩ ∧ w'.rangeAt b (off + i * 5) [.int .i64 t, .int .i64 g, .int .i64 o, .int .i64 k, .int .i64 x] := by
  intro w' hb i hi
  rcases D.later hb with ⟨h, _⟩ | ⟨b2, off2, c2, hv2, _, _, _, hh⟩
  · omega
  · injection hv2 with e1 _ _
    injection e1 with e1
    injection e1 with e1 e2
    subst e1 e2
    exact ⟨(q i).t, (q i).g, (q i).o, (q i).k, (q i).x, rfl, hh i hi⟩

/-- A thread's toggle. -/
def bt (r : Nat → Nat) (t : Nat) : Nat := ((r 26).testBit t).toNat
/-- One ask: the record behind it, and what was done. -/
def nx (r : Nat → Nat) (a : AK) : Nat → Nat := if a.g = (bt r a.t.toNat : Nat) then r else rdo r a.t.toNat a.o a.k a.x
def nd' (r : Nat → Nat) (a : AK) : List DD :=
  if a.g = (bt r a.t.toNat : Nat) then [] else [⟨a.t, a.o, a.k, a.x, (odo (r 0 : Nat) (ob r) a.o a.k a.x).2.1, (odo (r 0 : Nat) (ob r) a.o a.k a.x).2.2⟩]
/-- i asks. -/
def st (r : Nat → Nat) (q : Nat → AK) : Nat → Nat → Nat
  | 0 => r
  | i + 1 => nx (st r q i) (q i)
def dn (r : Nat → Nat) (q : Nat → AK) : Nat → List DD
  | 0 => []
  | i + 1 => dn r q i ++ nd' (st r q i) (q i)
/-- An ask of a thread and a toggle that there are. -/
def Ak1 (a : AK) : Prop := (0 ≤ a.t ∧ a.t < 4) ∧ (a.g = 0 ∨ a.g = 1)
/-- An ask that is answered. -/
def Oka (r : Nat → Nat) (a : AK) : Prop := Ak1 a ∧ (a.g = (bt r a.t.toNat : Nat) ∨ isRec r ∧ Rt a.o a.k a.x)
/-- An ask that is not: with an error's number. -/
def Bad (r : Nat → Nat) (a : AK) (e : Int) : Prop :=
  ((a.t < 0 ∨ 4 ≤ a.t) ∧ e = 2) ∨ ((0 ≤ a.t ∧ a.t < 4) ∧ ¬ (a.g = 0 ∨ a.g = 1) ∧ e = 1) ∨ (Ak1 a ∧ a.g ≠ (bt r a.t.toNat : Nat) ∧ ¬ (isRec r ∧ Rt a.o a.k a.x) ∧ e = 1)
theorem not_oka {r : Nat → Nat} {a : AK} (h : ¬ Oka r a) : ∃ e, Bad r a e := by
  by_cases h1 : 0 ≤ a.t ∧ a.t < 4
  · by_cases h2 : a.g = 0 ∨ a.g = 1
    · refine ⟨1, Or.inr (Or.inr ⟨⟨h1, h2⟩, fun h3 => h ⟨⟨h1, h2⟩, Or.inl h3⟩, fun h3 => h ⟨⟨h1, h2⟩, Or.inr h3⟩, rfl⟩)⟩
    · exact ⟨1, Or.inr (Or.inl ⟨h1, h2, rfl⟩)⟩
  · exact ⟨2, Or.inl ⟨by omega, rfl⟩⟩
theorem first_not (r : Nat → Nat) (q : Nat → AK) : ∀ n, (∀ i, i < n → Oka (st r q i) (q i)) ∨ ∃ m e, m < n ∧ (∀ i, i < m → Oka (st r q i) (q i)) ∧ Bad (st r q m) (q m) e
  | 0 => Or.inl fun i hi => absurd hi (Nat.not_lt_zero _)
  | n + 1 => by
    rcases first_not r q n with h | ⟨m, e, hm, h⟩
    · by_cases ho : Oka (st r q n) (q n)
      · exact Or.inl fun i hi => by
          by_cases e : i = n
          · subst e; exact ho
          · exact h i (by omega)
      · obtain ⟨e, he⟩ := not_oka ho
        exact Or.inr ⟨n, e, by omega, h, he⟩
    · exact Or.inr ⟨m, e, by omega, h⟩

section
variable {r : Nat → Nat} {a : AK}
theorem nx_shut (h : a.g = (bt r a.t.toNat : Nat)) : nx r a = r := by unfold nx; rw [if_pos h]
theorem nd_shut (h : a.g = (bt r a.t.toNat : Nat)) : nd' r a = [] := by unfold nd'; rw [if_pos h]
theorem nx_open (h : a.g ≠ (bt r a.t.toNat : Nat)) : nx r a = rdo r a.t.toNat a.o a.k a.x := by unfold nx; rw [if_neg h]
theorem nd_open (h : a.g ≠ (bt r a.t.toNat : Nat)) : nd' r a = [⟨a.t, a.o, a.k, a.x, (odo (r 0 : Nat) (ob r) a.o a.k a.x).2.1, (odo (r 0 : Nat) (ob r) a.o a.k a.x).2.2⟩] := by unfold nd'; rw [if_neg h]
theorem nd_length : (nd' r a).length ≤ 1 := by unfold nd'; split <;> simp
end
theorem dn_length (r : Nat → Nat) (q : Nat → AK) : ∀ i, (dn r q i).length ≤ i
  | 0 => Nat.le_refl _
  | i + 1 => by
    show (dn r q i ++ nd' (st r q i) (q i)).length ≤ i + 1
    have := dn_length r q i
    have := @nd_length (st r q i) (q i)
    rw [List.length_append]; omega
theorem st_congr {r : Nat → Nat} {p q : Nat → AK} : ∀ {n}, (∀ i, i < n → p i = q i) → st r p n = st r q n
  | 0, _ => rfl
  | n + 1, h => by
    show nx (st r p n) (p n) = nx (st r q n) (q n)
    rw [st_congr fun i hi => h i (by omega), h n (by omega)]
theorem dn_congr {r : Nat → Nat} {p q : Nat → AK} : ∀ {n}, (∀ i, i < n → p i = q i) → dn r p n = dn r q n
  | 0, _ => rfl
  | n + 1, h => by
    show dn r p n ++ nd' (st r p n) (p n) = dn r q n ++ nd' (st r q n) (q n)
    rw [dn_congr fun i hi => h i (by omega), st_congr (fun i hi => h i (by omega)), h n (by omega)]
/-- A record of the next version. -/
def bump (r : Nat → Nat) : Nat → Nat := upw r 27 (r 27 + 1)
end Go.Proofs.YteogbpaaacmllaaGreatDoor.Tab
namespace Go.Proofs.YteogbpaaacmllaaGreatDoor.Tab
set_option maxRecDepth 20000
open Go.RowKit

theorem rwD (t o k x c y : Int) : Rw Tryz.prog 60 (dl t o k x c y) := ⟨⟨_, Tryz.underlying60, rfl⟩, by kernel_rfl, by intro v hv; simp [dl] at hv; rcases hv with rfl | rfl | rfl | rfl | rfl | rfl <;> rfl⟩
theorem rwAk (t g o k x : Int) : Rw Tryz.prog 52 [.int .i64 t, .int .i64 g, .int .i64 o, .int .i64 k, .int .i64 x] := ⟨⟨_, Tryz.underlying52, rfl⟩, by kernel_rfl, by intro v hv; simp at hv; rcases hv with rfl | rfl | rfl | rfl | rfl <;> rfl⟩
theorem rwAt (x y : Int) : Rw Tryz.prog 90 [.int .i64 x, .int .i64 y] := ⟨⟨_, Tryz.underlying90, rfl⟩, by kernel_rfl, by intro v hv; simp at hv; rcases hv with rfl | rfl <;> rfl⟩
end Go.Proofs.YteogbpaaacmllaaGreatDoor.Tab
namespace Go.Proofs.YteogbpaaacmllaaGreatDoor.Tab
set_option maxRecDepth 20000
open Go.RowKit
set_option linter.unusedVariables false

theorem rec_array : ∃ n e, Tryz.prog.underlying 24 = some (.array n e) := ⟨_, _, Tryz.underlying24⟩
theorem rwR (r : Nat → Nat) : Rw Tryz.prog 24 (rl r) := ⟨let ⟨_, _, h⟩ := rec_array; ⟨_, h, rfl⟩, by rw [rl_length]; kernel_rfl, rl_one r⟩
/-- A copy of a row, as a step. -/
theorem cpR {P : Program} {o : Oper} {a : Act} {w : World} {K : Act → World → Prop} {Q : Exit → Act → World → Prop} {dT sT elem : TypeId} {x y : Operand} (ho : o.op = .call { callee := .builtin .copy, args := #[x, y], argTypes := #[dT, sT] })
    (hu : P.underlying dT = some (.slice elem)) (hsz : (P.info? elem).map (·.size) = some 1) {b off dLen dCap bs os sLen sCap : Nat} {vs : List Value} (hn : vs.length = Nat.min sLen dLen)
    (hsrc : ∀ j v, vs[j]? = some v → w.cell? ⟨bs, os + j, none⟩ = some v) (ht : w.there b off vs.length) (h1 : ∀ v ∈ vs, v.oneCell' = true)
    (k : K (a.put o.dst (goInt vs.length)) (w.setCells b off vs)) (hx : a.eval x = .slice (some ⟨b, off, none⟩) dLen dCap := by rfl) (hy : a.eval y = .slice (some ⟨bs, os, none⟩) sLen sCap := by rfl) : o.wp P a w K Q := by
  have hadd : ∀ j, (⟨bs, os, none⟩ : Addr).add j = ⟨bs, os + j, none⟩ := fun j => by unfold Addr.add; split <;> simp_all
  have hrun := run_copy_cells (P := P) w dT sT o.type elem b off dLen dCap ⟨bs, os, none⟩ sLen sCap vs hu hsz hn (fun j v hv => by rw [hadd]; exact hsrc j v hv) (fun j hj => (ht j hj).1) (fun j hj => (ht j hj).2) h1
  unfold Oper.wp
  simp [execOp, ho, resolve, invoke, builtin, hx, hy, hrun, Result.andThen]
  exact k
theorem sz_u : (Tryz.prog.info? 22).map (·.size) = some 1 := by kernel_rfl
end Go.Proofs.YteogbpaaacmllaaGreatDoor.Tab
namespace Go.Proofs.YteogbpaaacmllaaGreatDoor.Tab
set_option maxRecDepth 20000
open Go.RowKit
set_option linter.unusedVariables false

theorem obIs_yes {k : Int} (h1 : 1 ≤ k) (h6 : k ≤ 6) (w : World) : Calls Tryz.prog 65 #[.int .i64 k] w fun e w' => e = .returned (.bool true) ∧ w' = w := by
  go_enter Tryz.func65, Tryz.ntmps65
  go_wp2
  go_ret
  exact ⟨rfl, rfl⟩
theorem obIs_no {k : Int} (h : ¬ (1 ≤ k ∧ k ≤ 6)) (w : World) : Calls Tryz.prog 65 #[.int .i64 k] w fun e w' => e = .returned (.bool false) ∧ w' = w := by
  by_cases h1 : 1 ≤ k
  · have h2 : ¬ k ≤ 6 := by omega
    clear h
    go_enter Tryz.func65, Tryz.ntmps65
    go_wp2
    go_ret
    exact ⟨rfl, rfl⟩
  · clear h
    go_enter Tryz.func65, Tryz.ntmps65
    go_wp2
    go_ret
    exact ⟨rfl, rfl⟩
set_option maxHeartbeats 2000000 in
theorem recNew_no {k : Int} (h : ¬ (1 ≤ k ∧ k ≤ 6)) (w : World) :
    Calls Tryz.prog 40 #[.int .i64 k] w (fun e w' => e = .returned (.tuple #[.agg (rl wz).toArray, .iface 28 (.int .i64 1)]) ∧ Below w.heap.size w w') := by
  have IS : Hid (∀ w : World, _) := obIs_no h
  clear h
  have hM : Hid _ := ((Ms.nil w).bornR rl_zero.symm 24 (b := w.heap.size) rfl)
  go_enter Tryz.func40, Tryz.ntmps40
  go_wp2_with fail
  refine (IS.out _).mono ?_
  rintro e ux ⟨rfl, hw⟩
  rw [hw]; clear hw ux
  go_wp2_with (first
    | (refine sR rfl (hM.out.at 0 rfl) rfl ((rwR wz).len (rwR wz)) (rwR wz) ?_
       replace hM := hid (hM.out.put 0 rfl (rl wz) ((rwR wz).len (rwR wz)))
       generalize World.setCells _ _ _ _ = W at hM ⊢))
  exact bodyPost_ret (res1s Tryz.results40 (hM.out.at 0 rfl) (rwR wz) (.iface 28 (.int .i64 1))) rfl ⟨rfl, hM.out.below⟩
set_option maxHeartbeats 2000000 in
theorem recNew_yes {k : Nat} (h1 : 1 ≤ k) (h6 : k ≤ 6) (w : World) :
    Calls Tryz.prog 40 #[.int .i64 (k : Nat)] w (fun e w' => e = .returned (.tuple #[.agg (rl (newR k)).toArray, .nilIface]) ∧ Below w.heap.size w w') := by
  have IS : Hid (∀ w : World, _) := obIs_yes (k := (k : Nat)) (by omega) (by omega)
  have w1 : IntKind.u64.wrap (k : Int) = (k : Nat) := by rw [IntKind.wrap_u64]; omega
  have hz : (rl (newR k)).toArray = #[.int .u64 (k : Nat), .int .u64 0, .int .u64 0, .int .u64 0, .int .u64 0, .int .u64 0, .int .u64 0, .int .u64 0, .int .u64 0, .int .u64 0, .int .u64 0, .int .u64 0, .int .u64 0, .int .u64 0, .int .u64 0, .int .u64 0, .int .u64 0, .int .u64 0, .int .u64 0, .int .u64 0, .int .u64 0, .int .u64 0, .int .u64 0, .int .u64 0, .int .u64 0, .int .u64 0, .int .u64 0, .int .u64 0, .int .u64 0, .int .u64 0, .int .u64 0, .int .u64 0] := rfl
  clear h1 h6
  have hM : Hid _ := ((Ms.nil w).bornR rl_zero.symm 24 (b := w.heap.size) rfl)
  go_enter Tryz.func40, Tryz.ntmps40
  go_wp2_with fail
  refine (IS.out _).mono ?_
  rintro e ux ⟨rfl, hw⟩
  rw [hw]; clear hw ux
  have HZ : Hid _ := hz
  clear hz
  go_wp2_with (first
    | (refine sR rfl (hM.out.at 0 rfl) rfl ((rwR wz).len (rwR (newR k))) (rwR (newR k)) ?_
       replace hM := hid (hM.out.put 0 rfl (rl (newR k)) ((rwR wz).len (rwR (newR k))))
       generalize World.setCells _ _ _ _ = W at hM ⊢))
  exact bodyPost_ret (res1s Tryz.results40 (hM.out.at 0 rfl) (rwR (newR k)) (.nilIface)) rfl ⟨rfl, hM.out.below⟩
end Go.Proofs.YteogbpaaacmllaaGreatDoor.Tab
namespace Go.Proofs.YteogbpaaacmllaaGreatDoor.Tab
set_option maxRecDepth 20000
open Go.RowKit

theorem own_new {B : Nat} {w : World} {v : Value} {xs : List Int} (h : Own B w v xs) (o : Obj) : Own B (w.alloc o) v xs := World.ownsRow.alloc h o
theorem rwithin_yes (n a b : Int) (w : World) (h1 : a ≤ n) (h2 : n ≤ b) :
    Calls Tryz.prog 31 #[.int .i64 n, .int .i64 a, .int .i64 b] w fun e w' => e = .returned (.bool true) ∧ w' = w := by
  go_enter Tryz.func31, Tryz.ntmps31
  go_wp2
  go_ret
  exact ⟨rfl, rfl⟩
theorem rwithin_no (n a b : Int) (w : World) (h : n < a ∨ b < n) :
    Calls Tryz.prog 31 #[.int .i64 n, .int .i64 a, .int .i64 b] w fun e w' => e = .returned (.bool false) ∧ w' = w := by
  by_cases h1 : a ≤ n
  · have h2 : ¬ n ≤ b := by omega
    clear h
    go_enter Tryz.func31, Tryz.ntmps31
    go_wp2
    go_ret
    exact ⟨rfl, rfl⟩
  · clear h
    go_enter Tryz.func31, Tryz.ntmps31
    go_wp2
    go_ret
    exact ⟨rfl, rfl⟩
theorem said_is (c y : Int) (w : World) :
    Calls Tryz.prog 97 #[.int .i64 c, .int .i64 y] w fun e w' => e = .returned (.agg #[.int .i64 c, .int .i64 y]) ∧ Below w.heap.size w w' := by
  go_enter Tryz.func97, Tryz.ntmps97
  go_wp2
  exact bodyPost_ret (v := .agg #[.int .i64 c, .int .i64 y]) (by simp [results, Tryz.results97, go_sem]) rfl ⟨rfl, new_below _ _⟩

/-- The first i slots of a key's row. -/
def rowL (k : Int) (i : Nat) : List Int := (List.range i).map fun j => (rowAt k j : Int)
theorem rowL_len (k : Int) (i : Nat) : (rowL k i).length = i := by simp [rowL]
theorem rowL_succ (k : Int) (i : Nat) : rowL k (i + 1) = rowL k i ++ [(rowAt k i : Int)] := by simp [rowL, List.range_succ]
theorem rowL_at (k : Int) {i n : Nat} (h : i < n) : (rowL k n).getD i 0 = (rowAt k i : Int) := by simp [rowL, List.getD, h]

set_option maxHeartbeats 1000000 in
theorem row_is (k : Int) (h0 : 0 ≤ k) (h1 : k ≤ 1000) (w : World) :
    Calls Tryz.prog 95 #[.int .i64 k] w fun e w' => ∃ v, e = .returned v ∧ IsL w.heap.size w' v (rowL k 8) ∧ Below w.heap.size w w' := by
  have N0 : Hid (Own w.heap.size w (.slice none 0 0) []) := World.ownsRow_nil w _ _ 1
  go_enter Tryz.func95, Tryz.ntmps95
  go_wp2_with fail
  go_loopg [3, 5] 8 (fun gg s3 s5 wt => ∃ i : Nat, i ≤ 8 ∧ 8 - i ≤ gg ∧ s5 = .int .i64 i ∧ Hid (Own w.heap.size wt s3 (rowL k i)) ∧ Hid (Below w.heap.size w wt))
  case atStart => exact ⟨0, by omega, by omega, rfl, N0, Below.refl _ _⟩
  case round =>
    obtain ⟨i, hi, hgg, rfl, O, B⟩ := hrel
    clear N0
    by_cases hlt : i < 8
    · have RS : Hid (rowL k (i + 1) = rowL k i ++ [(rowAt k i : Int)]) := rowL_succ k i
      have ep : (k * 5 % 8 + (i : Int)) % 8 = (rowAt k i : Nat) := by unfold rowAt home; omega
      have hl : Hid ((rowL k i).length + 1 ≤ 1000000) := by have := rowL_len k i; show (rowL k i).length + 1 ≤ 1000000; omega
      generalize rowAt k i = p at *
      have L : Hid (IsL 0 (wr.alloc (.cells #[.int .i64 (p : Int)] 3)) (.slice (some ⟨wr.heap.size, 0, none⟩) 1 1) [(p : Int)]) := IsL.lit wr [(p : Int)] Nat.zero_lt_one
      have O' : Hid (Own w.heap.size (wr.alloc (.cells #[.int .i64 (p : Int)] 3)) u3 (rowL k i)) := own_new O.out _
      have B' : Hid (Below w.heap.size w (wr.alloc (.cells #[.int .i64 (p : Int)] 3))) := B.out.alloc B.out.size _
      clear O B
      go_wp2_with (at_builtin; refine wpList_onto rfl rfl (.tmp 8) (.tmp 15) rfl rfl rfl B'.out.size O'.out L.out hl.out ?_; intro v3 w3 hO3 hb3; have Q3 : Hid (Own w.heap.size w3 v3 (rowL k i ++ [(p : Int)]) ∧ Below w.heap.size w w3) := ⟨hO3, B'.out.trans hb3⟩; clear hO3 hb3)
      go_roundg (8 - (i + 1))
      case measure => omega
      case rel => exact ⟨i + 1, by omega, by omega, by go_num, RS.out ▸ Q3.out.1, Q3.out.2⟩
    · obtain rfl : i = 8 := by omega
      go_wp2
      go_ret
      exact ⟨_, rfl, O.out.isL, B.out⟩
theorem rslot_at0 (t : Tb) (w : World) : (Instr.index 70 (.agg t.all.toArray) (.int .i64 0)).run Tryz.prog w = .ok (.agg #[.int .i64 (t.k 0), .int .i64 (t.v 0)]) w := by kernel_rfl
theorem rslot_at1 (t : Tb) (w : World) : (Instr.index 70 (.agg t.all.toArray) (.int .i64 1)).run Tryz.prog w = .ok (.agg #[.int .i64 (t.k 1), .int .i64 (t.v 1)]) w := by kernel_rfl
theorem rslot_at2 (t : Tb) (w : World) : (Instr.index 70 (.agg t.all.toArray) (.int .i64 2)).run Tryz.prog w = .ok (.agg #[.int .i64 (t.k 2), .int .i64 (t.v 2)]) w := by kernel_rfl
theorem rslot_at3 (t : Tb) (w : World) : (Instr.index 70 (.agg t.all.toArray) (.int .i64 3)).run Tryz.prog w = .ok (.agg #[.int .i64 (t.k 3), .int .i64 (t.v 3)]) w := by kernel_rfl
theorem rslot_at4 (t : Tb) (w : World) : (Instr.index 70 (.agg t.all.toArray) (.int .i64 4)).run Tryz.prog w = .ok (.agg #[.int .i64 (t.k 4), .int .i64 (t.v 4)]) w := by kernel_rfl
theorem rslot_at5 (t : Tb) (w : World) : (Instr.index 70 (.agg t.all.toArray) (.int .i64 5)).run Tryz.prog w = .ok (.agg #[.int .i64 (t.k 5), .int .i64 (t.v 5)]) w := by kernel_rfl
theorem rslot_at6 (t : Tb) (w : World) : (Instr.index 70 (.agg t.all.toArray) (.int .i64 6)).run Tryz.prog w = .ok (.agg #[.int .i64 (t.k 6), .int .i64 (t.v 6)]) w := by kernel_rfl
theorem rslot_at7 (t : Tb) (w : World) : (Instr.index 70 (.agg t.all.toArray) (.int .i64 7)).run Tryz.prog w = .ok (.agg #[.int .i64 (t.k 7), .int .i64 (t.v 7)]) w := by kernel_rfl
theorem rslot_at (t : Tb) (i : Nat) (hi : i < 8) (w : World) :
    (Instr.index 70 (.agg t.all.toArray) (.int .i64 (i : Nat))).run Tryz.prog w = .ok (.agg #[.int .i64 (t.k i), .int .i64 (t.v i)]) w := by
  have : i = 0 ∨ i = 1 ∨ i = 2 ∨ i = 3 ∨ i = 4 ∨ i = 5 ∨ i = 6 ∨ i = 7 := by omega
  rcases this with rfl | rfl | rfl | rfl | rfl | rfl | rfl | rfl
  · exact rslot_at0 t w
  · exact rslot_at1 t w
  · exact rslot_at2 t w
  · exact rslot_at3 t w
  · exact rslot_at4 t w
  · exact rslot_at5 t w
  · exact rslot_at6 t w
  · exact rslot_at7 t w
theorem rslots_array : ∃ n e, Tryz.prog.underlying 70 = some (.array n e) := ⟨_, _, Tryz.underlying70⟩
theorem rslots_size (t : Tb) : (Tryz.prog.info? 70).map (·.size) = some t.all.length := by rw [t.all_length]; kernel_rfl
theorem rslots_size2 (t : Tb) : (Tryz.prog.info? 70).map (·.size) = some t.all.toArray.size := by rw [List.size_toArray]; exact rslots_size t
theorem rslot_size : (Tryz.prog.info? 68).map (·.size) = some 2 := by kernel_rfl

set_option maxHeartbeats 1000000 in
theorem RLen_is (t : Tb) (w : World) : Calls Tryz.prog 96 #[.agg t.all.toArray] w fun e w' => e = .returned (.int .i64 (len t : Nat)) ∧ Below w.heap.size w w' := by
  have T0 : Hid (TAt (w.alloc (.cells t.all.toArray 70)) w.heap.size t) := TAt.born w t _
  have B0 : Hid (Below w.heap.size w (w.alloc (.cells t.all.toArray 70))) := new_below w _
  have HL : Hid (cnt t 8 = len t) := cnt_len t
  go_enter Tryz.func96, Tryz.ntmps96
  go_wp2_with fail
  generalize w.alloc (.cells t.all.toArray 70) = W at T0 B0 ⊢
  generalize hn : w.heap.size = n at T0 ⊢
  have HN : Hid (w.heap.size = n) := hn
  clear hn
  go_loopg [3, 5] 8 (fun gg s3 s5 wt => W = wt ∧ ∃ i : Nat, i ≤ 8 ∧ 8 - i ≤ gg ∧ s5 = .int .i64 i ∧ ∃ c : Nat, c ≤ i ∧ s3 = .int .i64 c ∧ Hid (cnt t i = c))
  case atStart => exact ⟨rfl, 0, by omega, by omega, rfl, 0, by omega, rfl, rfl⟩
  case round =>
    obtain ⟨rfl, i, hi, hgg, rfl, c, hc, rfl, C⟩ := hrel
    by_cases hlt : i < 8
    · have hi1 : (i : Int) < 8 := by omega
      have hi0 : (0 : Int) ≤ (i : Int) := by omega
      have c0 := T0.out.key hlt
      by_cases h0 : t.k i = 0
      · have C' : Hid (cnt t (i + 1) = c) := by show cnt t i + ind t i = c; rw [C.out]; unfold ind; rw [if_pos h0]; rfl
        rw [h0] at c0
        clear h0
        go_wp2
        go_roundg (8 - (i + 1))
        case measure => omega
        case rel => exact ⟨rfl, i + 1, by omega, by omega, by go_num, c, by omega, rfl, C'⟩
      · have C' : Hid (cnt t (i + 1) = c + 1) := by show cnt t i + ind t i = c + 1; rw [C.out]; unfold ind; rw [if_neg h0]
        have m0 : (t.k i == 0) = false := by simp [h0]
        have m1 : (t.k i != 0) = true := by simp [h0]
        clear h0
        go_wp2
        go_roundg (8 - (i + 1))
        case measure => omega
        case rel => exact ⟨rfl, i + 1, by omega, by omega, by go_num, c + 1, by omega, by go_num, C'⟩
    · obtain rfl : i = 8 := by omega
      go_wp2
      go_ret
      refine ⟨by rw [← HL.out, C.out]; rfl, ?_⟩
      first | exact B0.out | exact HN.out ▸ B0.out
end Go.Proofs.YteogbpaaacmllaaGreatDoor.Tab
namespace Go.Proofs.YteogbpaaacmllaaGreatDoor.Tab
set_option maxRecDepth 20000
open Go.RowKit
theorem rwRS (t : Tb) : Rw Tryz.prog 70 t.all := ⟨let ⟨_, _, h⟩ := rslots_array; ⟨_, h, rfl⟩, rslots_size t, t.all_one⟩
theorem rwRl (x y : Int) : Rw Tryz.prog 68 [.int .i64 x, .int .i64 y] := two_row x y ⟨_, Tryz.underlying68, rfl⟩ rslot_size
end Go.Proofs.YteogbpaaacmllaaGreatDoor.Tab
namespace Go.Proofs.YteogbpaaacmllaaGreatDoor.Tab
set_option maxRecDepth 20000
open Go.RowKit

def tg (kind : Int) (v : Value) (t : Tb) (n : Int) : List Value := .int .i64 kind :: v :: (t.all ++ [.int .i64 n])
theorem tg_length (kind : Int) (v : Value) (t : Tb) (n : Int) : (tg kind v t n).length = 19 := by simp [tg, Tb.all_length]
theorem tg_0 (kind : Int) (v : Value) (t : Tb) (n : Int) : (tg kind v t n)[0]? = some (.int .i64 kind) := rfl
theorem tg_1 (kind : Int) (v : Value) (t : Tb) (n : Int) : (tg kind v t n)[1]? = some v := rfl
theorem tg_18 (kind : Int) (v : Value) (t : Tb) (n : Int) : (tg kind v t n)[18]? = some (.int .i64 n) := by
  simp [tg, Tb.all_length]
theorem tg_at (kind : Int) (v : Value) (t : Tb) (n : Int) {j : Nat} (hj : j < 16) : (tg kind v t n)[2 + j]? = some (t.at j) := by
  rw [show 2 + j = j + 1 + 1 by omega, tg, List.getElem?_cons_succ, List.getElem?_cons_succ, List.getElem?_append, if_pos (by rw [Tb.all_length]; exact hj), Tb.all_at t j hj]
theorem tg_one (kind : Int) {v : Value} (hv : v.oneCell' = true) (t : Tb) (n : Int) : ∀ u ∈ tg kind v t n, u.oneCell' = true := by
  intro u hu
  simp only [tg, List.mem_cons, List.mem_append, List.not_mem_nil, or_false] at hu
  rcases hu with rfl | rfl | hu | rfl
  · rfl
  · exact hv
  · exact t.all_one u hu
  · rfl
theorem slice_one (a : Option Addr) (n c : Nat) : (Value.slice a n c).oneCell' = true := rfl
theorem tg_zero (kind : Int) : (tg kind (.slice none 0 0) Tb.zero 0).toArray = #[.int .i64 kind, .slice none 0 0, .int .i64 0, .int .i64 0, .int .i64 0, .int .i64 0, .int .i64 0, .int .i64 0, .int .i64 0, .int .i64 0, .int .i64 0, .int .i64 0, .int .i64 0, .int .i64 0, .int .i64 0, .int .i64 0, .int .i64 0, .int .i64 0, .int .i64 0] := rfl
/-- The slots of a thing, as a row within it. -/
theorem Bo.slots {w : World} {b : Nat} {kind : Int} {v : Value} {t : Tb} {n : Int} (h : Bo w b (tg kind v t n)) : w.rangeAt b 2 t.all := fun j u hu => by
  have hj : j < 16 := by have := (List.getElem?_eq_some_iff.1 hu).1; rwa [Tb.all_length] at this
  rw [Tb.all_at t j hj] at hu
  exact h.cell (2 + j) u (by rw [tg_at _ _ _ _ hj]; exact hu)
theorem Bo.tcell {w : World} {b : Nat} {kind : Int} {v : Value} {t : Tb} {n : Int} (h : Bo w b (tg kind v t n)) : w.cell? ⟨b, 0, none⟩ = some (.int .i64 kind) ∧ w.cell? ⟨b, 1, none⟩ = some v ∧ w.cell? ⟨b, 18, none⟩ = some (.int .i64 n) :=
  ⟨h.cell 0 _ rfl, h.cell 1 _ rfl, h.cell 18 _ (tg_18 _ _ _ _)⟩
/-- Another list, another number, another slot. -/
theorem tg_list (kind : Int) (v u : Value) (t : Tb) (n : Int) : (tg kind v t n).set 1 u = tg kind u t n := rfl
theorem tg_num (kind : Int) (v : Value) (t : Tb) (n m : Int) : (tg kind v t n).set 18 (.int .i64 m) = tg kind v t m := by
  simp [tg, Tb.all_length]
end Go.Proofs.YteogbpaaacmllaaGreatDoor.Tab
namespace Go.Proofs.YteogbpaaacmllaaGreatDoor.Tab
set_option maxRecDepth 20000
open Go.RowKit
set_option linter.unusedVariables false

theorem thing_struct : ∃ fs, Tryz.prog.underlying 72 = some (.struct fs) := ⟨_, Tryz.underlying72⟩
theorem thing_size (kind : Int) (v : Value) (t : Tb) (n : Int) : (Tryz.prog.info? 72).map (·.size) = some (tg kind v t n).length := by rw [tg_length]; kernel_rfl
theorem thing_size2 (kind : Int) (v : Value) (t : Tb) (n : Int) : (Tryz.prog.info? 72).map (·.size) = some (tg kind v t n).toArray.size := by rw [List.size_toArray, tg_length]; kernel_rfl
theorem thing_size3 : (Tryz.prog.info? 72).map (·.size) = some 19 := by kernel_rfl
theorem tg_all (kind : Int) {v : Value} (hv : v.oneCell' = true) (t : Tb) (n : Int) : (tg kind v t n).toArray.all (·.oneCell') = true := all_oneCell_toArray (tg_one kind hv t n)
theorem results_rowS {P : Program} {fn : Func} {p q : Tmp} {ty : TypeId} (h : fn.results = #[.cell p ty, .tmp q]) (tmps : Array Value) (w : World) (b : Nat) (cs : List Value) (d : TypeDesc) (r : Value) (hp : tmps.getD p undef = .pointer (some ⟨b, 0, none⟩)) (hq : tmps.getD q undef = r)
    (hc : w.rangeAt b 0 cs) (hu : P.underlying ty = some d) (hd : d.isRow = true) (hi : (P.info? ty).map (·.size) = some cs.length) :
    (results fn tmps).run P w = .ok (.tuple #[.agg cs.toArray, r]) w := by
  have hp' : tmps[p]?.getD undef = .pointer (some ⟨b, 0, none⟩) := by simpa using hp
  have hq' : tmps[q]?.getD undef = r := by simpa using hq
  simp [results, h, hp', hq', asAddr, run_loadVar_mid w b 0 ty cs d hc hu hd hi]

theorem Bo.bornTh (w : World) (kind : Int) (ty : TypeId) {n : Nat} (hn : n = w.heap.size) : Bo (w.alloc (.cells #[.int .i64 kind, .slice none 0 0, .int .i64 0, .int .i64 0, .int .i64 0, .int .i64 0, .int .i64 0, .int .i64 0, .int .i64 0, .int .i64 0, .int .i64 0, .int .i64 0, .int .i64 0, .int .i64 0, .int .i64 0, .int .i64 0, .int .i64 0, .int .i64 0, .int .i64 0] ty)) n (tg kind (.slice none 0 0) Tb.zero 0) := by
  rw [← tg_zero]; exact Bo.born w _ ty hn
theorem tg_nil (kind : Int) : tg kind (.slice none 0 0) Tb.zero 0 = [.int .i64 kind, .slice none 0 0, .int .i64 0, .int .i64 0, .int .i64 0, .int .i64 0, .int .i64 0, .int .i64 0, .int .i64 0, .int .i64 0, .int .i64 0, .int .i64 0, .int .i64 0, .int .i64 0, .int .i64 0, .int .i64 0, .int .i64 0, .int .i64 0, .int .i64 0] := congrArg Array.toList (tg_zero kind)
theorem Bo.setZ {w : World} {b : Nat} {k : Int} {v : Value} {t : Tb} {n : Int} (h : Bo w b (tg k v t n)) (kind : Int) : Bo (w.setCells b 0 [.int .i64 kind, .slice none 0 0, .int .i64 0, .int .i64 0, .int .i64 0, .int .i64 0, .int .i64 0, .int .i64 0, .int .i64 0, .int .i64 0, .int .i64 0, .int .i64 0, .int .i64 0, .int .i64 0, .int .i64 0, .int .i64 0, .int .i64 0, .int .i64 0, .int .i64 0]) b (tg kind (.slice none 0 0) Tb.zero 0) := by
  rw [← tg_nil]; exact h.setL (by rw [tg_length, tg_length])
theorem nil_all (kind : Int) : (#[.int .i64 kind, .slice none 0 0, .int .i64 0, .int .i64 0, .int .i64 0, .int .i64 0, .int .i64 0, .int .i64 0, .int .i64 0, .int .i64 0, .int .i64 0, .int .i64 0, .int .i64 0, .int .i64 0, .int .i64 0, .int .i64 0, .int .i64 0, .int .i64 0, .int .i64 0] : Array Value).all (·.oneCell') = true := by
  rw [← tg_zero]; exact all_oneCell_toArray (tg_one kind rfl Tb.zero 0)
theorem Bo.setT {w : World} {b : Nat} {k : Int} {v : Value} {t : Tb} {n : Int} (h : Bo w b (tg k v t n)) (k' : Int) (v' : Value) (t' : Tb) (n' : Int) : Bo (w.setCells b 0 (tg k' v' t' n')) b (tg k' v' t' n') := h.setL (by rw [tg_length, tg_length])
theorem Bo.thereT {w : World} {b : Nat} {k : Int} {v : Value} {t : Tb} {n : Int} (h : Bo w b (tg k v t n)) (k' : Int) (v' : Value) (t' : Tb) (n' : Int) : w.there b 0 (tg k' v' t' n').toArray.size := by
  rw [List.size_toArray, tg_length]; exact h.thereL (tg_length _ _ _ _).symm

/-- Seventeen words lie in block b, from o on. -/
structure Wf (w : World) (b o : Nat) (c : Nat → Nat) : Prop where
  cell : ∀ j, j < 17 → w.cell? ⟨b, o + j, none⟩ = some (.int .u64 (c j : Nat))
theorem Wf.lt {w : World} {b o : Nat} {c : Nat → Nat} (h : Wf w b o c) : b < w.heap.size := World.block_lt_of_cell? w _ (h.cell 0 (by decide))
theorem Wf.later {w w' : World} {b o : Nat} {c : Nat → Nat} (h : Wf w b o c) (hb : Below w.heap.size w w') : Wf w' b o c :=
  ⟨fun j hj => by rw [hb.cell (p := ⟨b, o + j, none⟩) h.lt]; exact h.cell j hj⟩
theorem Wf.keep {w w' : World} {b o : Nat} {c : Nat → Nat} (h : Wf w b o c) (hb : w'.heap[b]? = w.heap[b]?) : Wf w' b o c :=
  ⟨fun j hj => by rw [World.cell?_of_block (w := w) hb]; exact h.cell j hj⟩
theorem Wf.of_bo {w : World} {b : Nat} {c : Nat → Nat} (h : Bo w b (wl c)) : Wf w b 0 c := ⟨fun j hj => by rw [Nat.zero_add]; exact h.word hj⟩

theorem Wf.new {w : World} {b o : Nat} {c : Nat → Nat} (h : Wf w b o c) (x : Obj) : Wf (w.alloc x) b o c := h.later (new_below w x)
theorem Wf.drew {w : World} {b o : Nat} {c : Nat → Nat} (h : Wf w b o c) : Wf w.drew b o c := ⟨h.cell⟩
theorem Wf.asideL {w : World} {b o k : Nat} {c : Nat → Nat} (h : Wf w b o c) (hk : b ≠ k) (p : Nat) (vs : List Value) : Wf (w.setCells k p vs) b o c := h.keep (heap_setCells hk _ _ _)
theorem Wf.aside {w : World} {b o : Nat} {c : Nat → Nat} (h : Wf w b o c) {p : Addr} (hp : b ≠ p.block) (v : Value) : Wf (w.setCell p v) b o c := h.keep (Below.heap_setCell _ _ _ _ hp)
theorem isL_block {B : Nat} {w w' : World} {v : Value} {xs : List Int} (h : IsL B w v xs) (hb : ∀ b, B ≤ b → w'.heap[b]? = w.heap[b]?) : IsL B w' v xs := by
  rcases h with h | ⟨b, off, c, h1, hB, h2, h3, h4, h5⟩
  · exact Or.inl h
  · refine Or.inr ⟨b, off, c, h1, hB, h2, h3, fun j hj => ?_, fun h0 j hj => ?_⟩
    · rw [World.cell?_of_block (w := w) (hb b hB)]; exact h4 j hj
    · rw [World.frozen?_of_block (w := w) (hb b hB)]; exact h5 h0 j hj
end Go.Proofs.YteogbpaaacmllaaGreatDoor.Tab
namespace Go.Proofs.YteogbpaaacmllaaGreatDoor
set_option maxRecDepth 20000
open Go.RowKit
theorem IsL.drew {B : Nat} {w : World} {v : Value} {xs : List Int} (h : IsL B w v xs) : IsL B w.drew v xs := Tab.isL_block h fun _ _ => rfl
theorem IsL.asideL {B k : Nat} {w : World} {v : Value} {xs : List Int} (h : IsL B w v xs) (hk : k < B) (p : Nat) (vs : List Value) : IsL B (w.setCells k p vs) v xs := Tab.isL_block h fun b hb => Tab.heap_setCells (by omega) _ _ _
theorem IsL.aside {B : Nat} {w : World} {v : Value} {xs : List Int} (h : IsL B w v xs) {p : Addr} (hp : p.block < B) (u : Value) : IsL B (w.setCell p u) v xs := h.setCell hp u
theorem Own.new {B : Nat} {w : World} {v : Value} {xs : List Int} (h : Own B w v xs) (o : Obj) : Own B (w.alloc o) v xs := World.ownsRow.alloc h o
theorem Own.drew {B : Nat} {w : World} {v : Value} {xs : List Int} (h : Own B w v xs) : Own B w.drew v xs := h
theorem Own.aside {B : Nat} {w : World} {v : Value} {xs : List Int} (h : Own B w v xs) {p : Addr} (hp : p.block < B) (u : Value) : Own B (w.setCell p u) v xs := ownsRow_setCell_below h hp u
end Go.Proofs.YteogbpaaacmllaaGreatDoor
namespace Go.Proofs.YteogbpaaacmllaaGreatDoor.Tab
set_option maxRecDepth 20000
open Go.RowKit
theorem Bo.laterB {B : Nat} {w w' : World} {b : Nat} {cs : List Value} (h : Bo w b cs) (hB : b < B) (hb : Below B w w') : Bo w' b cs := h.keep (hb.block b hB) (Nat.lt_of_lt_of_le h.lt hb.size)
theorem Wf.laterB {B : Nat} {w w' : World} {b o : Nat} {c : Nat → Nat} (h : Wf w b o c) (hB : b < B) (hb : Below B w w') : Wf w' b o c := h.keep (hb.block b hB)
theorem Gd.laterB {B n : Nat} {w a b : World} (h : Gd n w a) (hB : n ≤ B) (hb : Below B a b) : Gd n w b := ⟨h.1, h.2.trans (hb.mono (h.1 ▸ hB))⟩

/-- What words are a thing of a kind. -/
def WT (c : Nat → Nat) : Prop := (∀ j, j < 16 → c j ≤ 4294967295) ∧ c 16 = 0 ∧ RT (tbl c)
def WN (c : Nat → Nat) : Prop := c 0 ≤ 4294967295 ∧ ∀ j, 1 ≤ j → j < 17 → c j = 0
def isTh (kind : Int) (c : Nat → Nat) : Prop :=
  ((kind = 1 ∨ kind = 2 ∨ kind = 3) ∧ WList c) ∨ (kind = 4 ∧ WList c ∧ Hp (lst c)) ∨ (kind = 5 ∧ WT c) ∨ (kind = 6 ∧ WN c)
theorem isTh.kind {k : Int} {c : Nat → Nat} (h : isTh k c) : 1 ≤ k ∧ k ≤ 6 := by
  rcases h with ⟨h, _⟩ | ⟨h, _⟩ | ⟨h, _⟩ | ⟨h, _⟩ <;> omega
theorem WList.le {c : Nat → Nat} (h : WList c) : ∀ j, j < 17 → c j ≤ 4294967295 := fun j hj => by
  have := h.len
  by_cases e : j = 0
  · subst e; omega
  · by_cases e1 : j ≤ c 0
    · exact h.val j (by omega) e1
    · rw [h.rest j (by omega) hj]; omega
theorem isTh.le {k : Int} {c : Nat → Nat} (h : isTh k c) : ∀ j, j < 17 → c j ≤ 4294967295 := fun j hj => by
  rcases h with ⟨_, h⟩ | ⟨_, h, _⟩ | ⟨_, h⟩ | ⟨_, h⟩
  · exact h.le j hj
  · exact h.le j hj
  · by_cases e : j < 16
    · exact h.1 j e
    · rw [show j = 16 by omega, h.2.1]; omega
  · by_cases e : j = 0
    · subst e; exact h.1
    · rw [h.2 j (by omega) hj]; omega
end Go.Proofs.YteogbpaaacmllaaGreatDoor.Tab
namespace Go.Proofs.YteogbpaaacmllaaGreatDoor.Tab
set_option maxRecDepth 20000
open Go.RowKit
theorem rwTh (k : Int) {v : Value} (hv : v.oneCell' = true) (t : Tb) (n : Int) : Rw Tryz.prog 72 (tg k v t n) := ⟨let ⟨_, h⟩ := thing_struct; ⟨_, h, rfl⟩, thing_size k v t n, tg_one k hv t n⟩
theorem rwN : Rw Tryz.prog 72 (tg 0 (.slice none 0 0) Tb.zero 0) := rwTh 0 rfl _ _
theorem rwC (c : Nat → Nat) : Rw Tryz.prog 119 (wl c) := ⟨let ⟨_, _, h⟩ := cells_array; ⟨_, h, rfl⟩, cells_size c, wl_one c⟩
theorem sz_sl : (Tryz.prog.info? 66).map (·.size) = some 1 := by kernel_rfl
theorem sz_i : (Tryz.prog.info? 3).map (·.size) = some 1 := by kernel_rfl
end Go.Proofs.YteogbpaaacmllaaGreatDoor.Tab
namespace Go.Proofs.YteogbpaaacmllaaGreatDoor.Tab
set_option maxRecDepth 20000
open Go.RowKit
set_option linter.unusedVariables false

end Go.Proofs.YteogbpaaacmllaaGreatDoor.Tab
