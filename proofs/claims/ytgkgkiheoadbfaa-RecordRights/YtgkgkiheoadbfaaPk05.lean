/- Texts laid together: Package deque's front and Do, by their contracts; Package heap's rise and sink, by their contracts; Package heap's below and sink, by their contracts; Package heap's Do, by its contract; What a heap does, as lists: it stays one, and has just the same things; A tally: what is done with it, and package tally by its contract; What objects do, as words: facts of no program; Records as words: 12.1 and 12.2; facts of no program; Package record: Kind, Object, by their contracts; Package record: answersRight, by its contract; Package record: numbersRight, by its contract; Package record: restRight, by its contract. -/
import Derived.Test.YtgkgkiheoadbfaaPk04
import Derived.Test.YtgkgkiheoadbfaaPk02
import Derived.Test.YtgkgkiheoadbfaaPk03
import Derived.RegionTactic
import Derived.BigRegion
import Derived.Test.YtgkgkiheoadbfaaRows
import Derived.Test.YtgkgkiheoadbfaaPk00
import Derived.Test.YtgkgkiheoadbfaaPk01
import Derived.Deep.DeepCutAuto
import Derived.Deep.RegionHeld3
namespace Go.Proofs.Ytgkgkiheoadbfaa
set_option maxRecDepth 20000
open Go.RowKit

/-- What an operation makes of a deque, and its answer: 7.1. -/
def ddo (xs : List Int) (what value : Int) : List Int × Int × Int :=
  if what = 3 then (if 6 ≤ xs.length then (xs, 3, 0) else (value :: xs, 1, 0)) else if what = 4 then sdo xs 2 0 else qdo xs what value

set_option maxHeartbeats 1000000 in
theorem front_full {B : Nat} {v : Value} {xs : List Int} {w : World} (x : Int) (h : IsL B w v xs) (hx : xs.length ≤ 1000000) (h6 : 6 ≤ xs.length) :
    Calls Try.prog 77 #[v, .int .i64 x] w (Made w xs 3 0) := by
  obtain ⟨a, c, rfl⟩ := h.form
  have h6i : (6 : Int) ≤ (xs.length : Int) := by omega
  have B0 : Hid (Bx w.heap.size 0 0 (w.alloc (.cells #[.int .i64 0, .int .i64 0] 42))) := Bx.born w 0 0 _
  have G0 : Hid (Gd w (w.alloc (.cells #[.int .i64 0, .int .i64 0] 42))) := (Gd.refl w).new _
  have X : Hid (IsL B (w.alloc (.cells #[.int .i64 0, .int .i64 0] 42)) (.slice a xs.length c) xs) := h.new _
  clear h
  go_enter Try.func77, Try.ntmps77
  go_wp2_with fail
  refine (Clone_is X.out hx).mono ?_
  rintro e w1 ⟨v1, rfl, hown, hb⟩
  have B1 : Hid (Bx w.heap.size 0 0 w1) := B0.out.later hb
  have G1 : Hid (Gd w w1) := G0.out.later hb
  have I1 : Hid (IsL (w.heap.size + 1) w1 v1 xs) := hown.isL.mono (by simp)
  clear hown hb B0 G0 X
  have c0 := B1.out.c0
  have c1 := B1.out.c1
  have f0 := B1.out.f0
  have f1 := B1.out.f1
  go_wp2
  obtain ⟨E, G⟩ := B1.out.put (c' := 3) (y' := 0) (Nat.le_refl _) G1.out
  refine bodyPost_ret (v := .tuple #[v1, .agg #[.int .i64 3, .int .i64 0]]) ?_ rfl ⟨v1, rfl, (((I1.out.setCell (by simp) _).setCell (by simp) _).mono (by omega)), G⟩
  have d0 := E.c0
  have d1 := E.c1
  simp [results, Try.results77, go_sem, d0, d1]

theorem pair_at (u : World) (p q : Value) (t : TypeId) {n : Nat} (h : n = u.heap.size) : (u.alloc (.cells #[p, q] t)).cell? ⟨n, 0, none⟩ = some p ∧ (u.alloc (.cells #[p, q] t)).cell? ⟨n, 1, none⟩ = some q := by
  subst h
  exact ⟨by simp, by simp⟩

set_option maxHeartbeats 1000000 in
theorem front_room {B : Nat} {v : Value} {xs : List Int} {w : World} (x : Int) (h : IsL B w v xs) (h6 : xs.length < 6) :
    Calls Try.prog 77 #[v, .int .i64 x] w (Made w (x :: xs) 1 0) := by
  obtain ⟨a, c, rfl⟩ := h.form
  have h6i : (xs.length : Int) < 6 := by omega
  obtain ⟨W, hW⟩ : ∃ W, W = ((w.alloc (.cells #[.int .i64 0, .int .i64 0] 42)).alloc (.cells #[.int .i64 x] 3)).alloc (.cells #[.slice (some ⟨w.heap.size + 1, 0, none⟩) 1 1, .slice a xs.length c] 34) := ⟨_, rfl⟩
  have B0 : Hid (Bx w.heap.size 0 0 W) := by rw [hW]; exact ((Bx.born w 0 0 _).new _).new _
  have G0 : Hid (Gd w W) := by rw [hW]; exact (((Gd.refl w).new _).new _).new _
  have X : Hid (IsL B W (.slice a xs.length c) xs) := by rw [hW]; exact ((h.new _).new _).new _
  have L : Hid (IsL 0 W (.slice (some ⟨w.heap.size + 1, 0, none⟩) 1 1) [x]) := by rw [hW]; exact (IsL.litAt (w.alloc (.cells #[.int .i64 0, .int .i64 0] 42)) [x] (by simp) (by simp)).new _
  have j0 : W.cell? ⟨w.heap.size + 2, 0, none⟩ = some (.slice (some ⟨w.heap.size + 1, 0, none⟩) 1 1) := by rw [hW]; exact (pair_at _ _ _ _ (by simp)).1
  have j1 : W.cell? ⟨w.heap.size + 2, 1, none⟩ = some (.slice a xs.length c) := by rw [hW]; exact (pair_at _ _ _ _ (by simp)).2
  have k0 : Hid (W.cell? ⟨w.heap.size + 2, 0, none⟩ = some (.slice (some ⟨w.heap.size + 1, 0, none⟩) 1 1)) := j0
  have k1 : Hid (W.cell? ⟨w.heap.size + 2, 1, none⟩ = some (.slice a xs.length c)) := j1
  have Z : Hid (w.heap.size + 1 ≤ W.heap.size) := show _ ≤ _ by rw [hW]; simp
  have hx : Hid ([x].length + xs.length ≤ 1000000) := show _ ≤ _ by simp; omega
  clear h h6 j0 j1
  go_enter Try.func77, Try.ntmps77
  go_wp2_with fail
  rw [← hW]
  clear hW
  refine (Concat_two k0.out k1.out L.out X.out (by simp) hx.out).mono ?_
  rintro e w1 ⟨v1, rfl, hown, hb⟩
  have B1 : Hid (Bx w.heap.size 0 0 w1) := B0.out.later hb
  have G1 : Hid (Gd w w1) := G0.out.later hb
  have I1 : Hid (IsL (w.heap.size + 1) w1 v1 (x :: xs)) := hown.isL.mono Z.out
  clear hown hb B0 G0 X L k0 k1 Z
  have c0 := B1.out.c0
  have c1 := B1.out.c1
  have f0 := B1.out.f0
  have f1 := B1.out.f1
  go_wp2
  obtain ⟨E, G⟩ := B1.out.put (c' := 1) (y' := 0) (Nat.le_refl _) G1.out
  refine bodyPost_ret (v := .tuple #[v1, .agg #[.int .i64 1, .int .i64 0]]) ?_ rfl ⟨v1, rfl, (((I1.out.setCell (by simp) _).setCell (by simp) _).mono (by omega)), G⟩
  have d0 := E.c0
  have d1 := E.c1
  simp [results, Try.results77, go_sem, d0, d1]

theorem front_is {B : Nat} {v : Value} {xs ys : List Int} {w : World} {x c y : Int} (h : IsL B w v xs) (hx : xs.length ≤ 1000000) (hd : ddo xs 3 x = (ys, c, y)) :
    Calls Try.prog 77 #[v, .int .i64 x] w (Made w ys c y) := by
  by_cases h6 : 6 ≤ xs.length
  · simp [ddo, h6] at hd
    obtain ⟨rfl, rfl, rfl⟩ := hd
    exact front_full x h hx h6
  · simp [ddo, h6] at hd
    obtain ⟨rfl, rfl, rfl⟩ := hd
    exact front_room x h (by omega)

set_option maxHeartbeats 1000000 in
theorem dDo_front {B : Nat} {v : Value} {xs ys : List Int} {w : World} {x c y : Int} (k : Int) (h : IsL B w v xs) (hx : xs.length ≤ 1000000) (hd : ddo xs 3 x = (ys, c, y)) :
    Calls Try.prog 64 #[v, .agg #[.int .i64 3, .int .i64 k, .int .i64 x]] w (Made w ys c y) := by
  have F0 : Hid (Fr w (two w 3 k x) 3 k x) := Fr.start w 3 k x
  have X : Hid (IsL B (two w 3 k x) v xs) := h.later F0.out.gr
  have Q : Hid (ddo xs 3 x = (ys, c, y)) := hd
  clear h hd
  go_enter Try.func64, Try.ntmps64
  go_wp2_with fail
  refine (front_is (w := two w 3 k x) X.out hx Q.out).mono ?_
  rintro e w1 ⟨v1, rfl, hi, hb⟩
  rw [two_size] at hi hb
  have F1 : Hid (Fr w w1 3 k x) := F0.out.later hb
  have I1 : Hid (IsL (w.heap.size + 2) w1 v1 ys) := hi
  clear hi hb F0 X Q
  have r0 := F1.out.r0
  have r1 := F1.out.r1
  have f0 := F1.out.f0
  have f1 := F1.out.f1
  go_wp2
  refine bodyPost_ret (v := .tuple #[v1, .agg #[.int .i64 c, .int .i64 y]]) ?_ rfl (F1.out.made c y I1.out)
  have E := F1.out.ends c y
  unfold wr at E
  simp [results, Try.results64, go_sem, E.1, E.2.1]

set_option maxHeartbeats 1000000 in
theorem dDo_back {B : Nat} {v : Value} {xs ys : List Int} {w : World} {c y : Int} (k x : Int) (h : IsL B w v xs) (hx : xs.length ≤ 1000000) (hd : sdo xs 2 0 = (ys, c, y)) :
    Calls Try.prog 64 #[v, .agg #[.int .i64 4, .int .i64 k, .int .i64 x]] w (Made w ys c y) := by
  have F0 : Hid (Fr w (two w 4 k x) 4 k x) := Fr.start w 4 k x
  have X : Hid (IsL B (two w 4 k x) v xs) := h.later F0.out.gr
  have Q : Hid (sdo xs 2 0 = (ys, c, y)) := hd
  clear h hd
  go_enter Try.func64, Try.ntmps64
  go_wp2_with fail
  refine (sDo_eq (w := two w 4 k x) 0 X.out hx Q.out).mono ?_
  rintro e w1 ⟨v1, rfl, hi, hb⟩
  rw [two_size] at hi hb
  have F1 : Hid (Fr w w1 4 k x) := F0.out.later hb
  have I1 : Hid (IsL (w.heap.size + 2) w1 v1 ys) := hi
  clear hi hb F0 X Q
  have r0 := F1.out.r0
  have r1 := F1.out.r1
  have f0 := F1.out.f0
  have f1 := F1.out.f1
  go_wp2
  refine bodyPost_ret (v := .tuple #[v1, .agg #[.int .i64 c, .int .i64 y]]) ?_ rfl (F1.out.made c y I1.out)
  have E := F1.out.ends c y
  unfold wr at E
  simp [results, Try.results64, go_sem, E.1, E.2.1]

set_option maxHeartbeats 1000000 in
theorem dDo_else {B : Nat} {v : Value} {xs ys : List Int} {w : World} {o x c y : Int} (k : Int) (h : IsL B w v xs) (hx : xs.length ≤ 1000000) (n3 : o ≠ 3) (n4 : o ≠ 4) (hd : qdo xs o x = (ys, c, y)) :
    Calls Try.prog 64 #[v, .agg #[.int .i64 o, .int .i64 k, .int .i64 x]] w (Made w ys c y) := by
  have F0 : Hid (Fr w (two w o k x) o k x) := Fr.start w o k x
  have X : Hid (IsL B (two w o k x) v xs) := h.later F0.out.gr
  have Q : Hid (qdo xs o x = (ys, c, y)) := hd
  clear h hd
  have m3 : (o == 3) = false := by simp [n3]
  have m4 : (o == 4) = false := by simp [n4]
  go_enter Try.func64, Try.ntmps64
  go_wp2_with fail
  refine (qDo_eq (w := two w o k x) k X.out hx Q.out).mono ?_
  rintro e w1 ⟨v1, rfl, hi, hb⟩
  rw [two_size] at hi hb
  have F1 : Hid (Fr w w1 o k x) := F0.out.later hb
  have I1 : Hid (IsL (w.heap.size + 2) w1 v1 ys) := hi
  clear hi hb F0 X Q
  have r0 := F1.out.r0
  have r1 := F1.out.r1
  have f0 := F1.out.f0
  have f1 := F1.out.f1
  go_wp2
  refine bodyPost_ret (v := .tuple #[v1, .agg #[.int .i64 c, .int .i64 y]]) ?_ rfl (F1.out.made c y I1.out)
  have E := F1.out.ends c y
  unfold wr at E
  simp [results, Try.results64, go_sem, E.1, E.2.1]

theorem dDo_eq {B : Nat} {v : Value} {xs ys : List Int} {w : World} {o x c y : Int} (k : Int) (h : IsL B w v xs) (hx : xs.length ≤ 1000000) (hd : ddo xs o x = (ys, c, y)) :
    Calls Try.prog 64 #[v, .agg #[.int .i64 o, .int .i64 k, .int .i64 x]] w (Made w ys c y) := by
  by_cases n3 : o = 3
  · subst n3
    exact dDo_front k h hx hd
  by_cases n4 : o = 4
  · subst n4
    exact dDo_back k x h hx (by simpa [ddo] using hd)
  · exact dDo_else k h hx n3 n4 (by simpa [ddo, n3, n4] using hd)
end Go.Proofs.Ytgkgkiheoadbfaa
namespace Go.Proofs.Ytgkgkiheoadbfaa
set_option maxRecDepth 20000
open Go.RowKit

theorem Row.set {b off : Nat} {l : List Int} {w : World} (h : Row b off l w) (j : Nat) (x : Int) (hj : j < l.length) : Row b off (l.set j x) (w.setCell ⟨b, off + j, none⟩ (.int .i64 x)) where
  cell k hk := by
    rw [List.length_set] at hk
    rw [gt_set l j k x hj]
    by_cases e : k = j
    · subst e
      rw [World.cell?_setCell_same _ _ _ (h.cell k hk), if_pos rfl]
    · rw [World.cell?_setCell_other, h.cell k hk, if_neg e]
      intro hh
      injection hh with _ h2
      omega
  froz k hk := by
    rw [List.length_set] at hk
    simpa using h.froz k hk
theorem Row.swap {b off : Nat} {l : List Int} {w : World} (h : Row b off l w) (i j : Nat) (x y : Int) (hi : i < l.length) (hj : j < l.length) (hx : gt l i = x) (hy : gt l j = y) : Row b off (swp l i j) ((w.setCell ⟨b, off + i, none⟩ (.int .i64 y)).setCell ⟨b, off + j, none⟩ (.int .i64 x)) := by
  subst hx hy
  exact (h.set i _ hi).set j _ (by simpa using hj)
theorem Row.drew {b off : Nat} {l : List Int} {w : World} (h : Row b off l w) : Row b off l w.drew := ⟨h.cell, h.froz⟩
theorem Row.drewN {b off : Nat} {l : List Int} {w : World} (h : Row b off l w) (q : Nat) : Row b off l (w.drewN q) := ⟨h.cell, h.froz⟩
theorem grown_set {w w' : World} {b : Nat} (h : w.grownBy w' (some b)) (o : Nat) (v : Value) : w.grownBy (w'.setCell ⟨b, o, none⟩ v) (some b) :=
  ⟨h.os, h.tape, h.output, by simpa [World.setCell] using h.size, fun k hk hne => (Below.heap_setCell _ _ _ k (fun e => hne (by rw [e]))).trans (h.block k hk hne)⟩
theorem grown_drew {w w' : World} {r : Option Nat} (h : w.grownBy w' r) : w.grownBy w'.drew r := ⟨h.os, h.tape, h.output, h.size, h.block⟩
theorem grown_drewN {w w' : World} {r : Option Nat} (h : w.grownBy w' r) (q : Nat) : w.grownBy (w'.drewN q) r := ⟨h.os, h.tape, h.output, h.size, h.block⟩

theorem riseF_stop {n : Nat} {l : List Int} {i : Nat} (h : ¬ (0 < i ∧ gt l i < gt l ((i - 1) / 2))) : riseF n l i = l := by
  cases n with
  | zero => rfl
  | succ n => unfold riseF; rw [if_neg h]
theorem riseF_go {n : Nat} {l : List Int} {i : Nat} (hn : 0 < n) (h : 0 < i) (h2 : gt l i < gt l ((i - 1) / 2)) : riseF n l i = riseF (n - 1) (swp l i ((i - 1) / 2)) ((i - 1) / 2) := by
  obtain ⟨m, rfl⟩ : ∃ m, n = m + 1 := ⟨n - 1, by omega⟩
  rw [riseF, if_pos ⟨h, h2⟩, Nat.add_sub_cancel]

set_option maxHeartbeats 2000000 in
theorem rise_is {b off c : Nat} {l : List Int} {w : World} (R : Row b off l w) (h0 : 0 < l.length) (hl : l.length ≤ 1000000) :
    Calls Try.prog 85 #[.slice (some ⟨b, off, none⟩) l.length c] w fun e w' => e = .returned (.tuple #[]) ∧ Row b off (rise l) w' ∧ w.grownBy w' (some b) := by
  have R0 : Hid (Row b off l w) := R
  clear R
  obtain ⟨n, hn⟩ : ∃ n, n = l.length := ⟨_, rfl⟩
  have N : Hid (n = l.length) := hn
  rw [← hn] at h0 hl ⊢
  clear hn
  have hn1 : (1 : Int) ≤ (n : Int) := by omega
  go_enter Try.func85, Try.ntmps85
  go_wp2_with fail
  go_loopg [2] n (fun gg s2 wt => ∃ (i : Nat) (l' : List Int), s2 = .int .i64 i ∧ i < n ∧ i ≤ gg ∧ Hid (l'.length = n) ∧ Hid (Row b off l' wt) ∧ Hid (w.grownBy wt (some b)) ∧ Hid (riseF gg l' i = rise l))
  case atStart =>
    refine ⟨n - 1, l, by go_num, by omega, by omega, N.out.symm, R0, ⟨rfl, rfl, rfl, Nat.le_refl _, fun _ _ _ => rfl⟩, ?_⟩
    show riseF n l (n - 1) = rise l
    unfold rise; rw [N.out]
  case round =>
    obtain ⟨i, l', rfl, hi, hgg, N', R', G, E⟩ := hrel
    clear R0
    by_cases hi0 : i = 0
    · subst hi0
      have hd : decide ((0 : Int) < ((0 : Nat) : Int)) = false := by decide
      go_wp2_with fail
      go_quiet (fail)
      go_wp2
      go_end0
      have e := E.out
      rw [riseF_stop (by omega)] at e
      rw [← e]
      exact ⟨rfl, R'.out.drewN _, grown_drewN G.out _⟩
    · have hp0 : 0 < i := by omega
      have hd : (0 : Int) < (i : Int) := by omega
      obtain ⟨p, hp⟩ : ∃ p, p = (i - 1) / 2 := ⟨_, rfl⟩
      obtain ⟨x, hx⟩ : ∃ x, gt l' i = x := ⟨_, rfl⟩
      obtain ⟨y, hy⟩ : ∃ y, gt l' p = y := ⟨_, rfl⟩
      have hpn : p < n := by omega
      have g1 : wr.cell? ⟨b, off + i, none⟩ = some (.int .i64 x) := by rw [← hx]; exact R'.out.cell i (by rw [N'.out]; exact hi)
      have g2 : wr.cell? ⟨b, off + p, none⟩ = some (.int .i64 y) := by rw [← hy]; exact R'.out.cell p (by rw [N'.out]; exact hpn)
      have f1 : wr.frozen? ⟨b, off + i, none⟩ = false := R'.out.froz i (by rw [N'.out]; exact hi)
      have f2 : wr.frozen? ⟨b, off + p, none⟩ = false := R'.out.froz p (by rw [N'.out]; exact hpn)
      have A : Hid (∀ W, Calls Try.prog 58 #[.int .i64 i] W fun e w' => e = .returned (.int .i64 (p : Int)) ∧ w' = W) := by rw [hp]; exact above_is i hp0 (by omega)
      have X : Hid (p = (i - 1) / 2 ∧ gt l' i = x ∧ gt l' p = y) := ⟨hp, hx, hy⟩
      have hpi : p < i := by omega
      clear hp hx hy
      have hi1 : (i : Int) < (n : Int) := by omega
      have hi2 : (0 : Int) ≤ (i : Int) := by omega
      have hp1 : (p : Int) < (n : Int) := by omega
      have hp2 : (0 : Int) ≤ (p : Int) := by omega
      by_cases hxy : x < y
      · go_wp2_with fail
        go_quiet ((go_at_call 58; exact Calls.quiet_of_same (A.out _)))
        go_wp2_with fail
        generalize hwq : wr.drewN _ = wq
        have q1 : wq.cell? ⟨b, off + i, none⟩ = some (.int .i64 x) := by rw [← hwq]; exact g1
        have q2 : wq.cell? ⟨b, off + p, none⟩ = some (.int .i64 y) := by rw [← hwq]; exact g2
        have k1 : wq.frozen? ⟨b, off + i, none⟩ = false := by rw [← hwq]; exact f1
        have k2 : wq.frozen? ⟨b, off + p, none⟩ = false := by rw [← hwq]; exact f2
        have R2 : Hid (Row b off l' wq) := by rw [← hwq]; exact R'.out.drewN _
        have G2 : Hid (w.grownBy wq (some b)) := by rw [← hwq]; exact grown_drewN G.out _
        clear hwq g1 g2 f1 f2 R' G
        go_region_with (go_at_call 58; refine (A.out _).mono ?_; rintro e w3 ⟨rfl, hw⟩; rw [hw]; clear hw)
        all_goals
          go_wp2_with fail
          refine (A.out _).mono ?_
          rintro e w3 ⟨rfl, hw⟩
          rw [hw]; clear hw
          go_wp2
          go_roundg (gk - 1)
          case measure => omega
          case rel =>
            have ei := X.out.1
            refine ⟨p, swp l' i p, rfl, hpn, by omega, (swp_len _ _ _).trans N'.out, (R2.out.swap i p x y (by rw [N'.out]; exact hi) (by rw [N'.out]; exact hpn) X.out.2.1 X.out.2.2).drew, grown_drew (grown_set (grown_set G2.out _ _) _ _), ?_⟩
            have e := riseF_go (n := gk) (l := l') (i := i) (by omega) hp0 (by rw [← ei, X.out.2.1, X.out.2.2]; exact hxy)
            rw [← ei] at e
            exact e.symm.trans E.out
      · have hd2 : decide (x < y) = false := by simpa using hxy
        go_wp2_with fail
        go_quiet ((go_at_call 58; exact Calls.quiet_of_same (A.out _)))
        go_wp2
        go_end0
        have e := E.out
        rw [riseF_stop (by rw [← X.out.1, X.out.2.1, X.out.2.2]; omega)] at e
        rw [← e]
        exact ⟨rfl, R'.out.drewN _, grown_drewN G.out _⟩
end Go.Proofs.Ytgkgkiheoadbfaa
namespace Go.Proofs.Ytgkgkiheoadbfaa
set_option maxRecDepth 20000
open Go.RowKit

set_option maxHeartbeats 2000000 in
theorem below_is {b off c : Nat} {l : List Int} {w : World} (R : Row b off l w) (i : Nat) (hi : i < l.length) (hl : l.length ≤ 1000000) :
    Calls Try.prog 91 #[.slice (some ⟨b, off, none⟩) l.length c, .int .i64 i] w fun e w' => e = .returned (.int .i64 (blw l i : Nat)) ∧ ∃ q, w' = w.drewN q := by
  obtain ⟨n, hn⟩ : ∃ n, n = l.length := ⟨_, rfl⟩
  have R0 : Hid (Row b off l w) := R
  have N : Hid (n = l.length) := hn
  rw [← hn] at hi hl ⊢
  clear hn R
  have p1 : (0 : Int) ≤ 2 * (i : Int) + 1 := by omega
  have p2 : (0 : Int) ≤ 2 * (i : Int) + 2 := by omega
  have e1 : (2 * (i : Int) + 1).toNat = 2 * i + 1 := by omega
  have e2 : (2 * (i : Int) + 2).toNat = 2 * i + 2 := by omega
  have im : (i : Int) < (n : Int) := by omega
  by_cases h2 : 2 * i + 2 < n
  · obtain ⟨x, hx⟩ : ∃ x, gt l (2 * i + 2) = x := ⟨_, rfl⟩
    obtain ⟨y, hy⟩ : ∃ y, gt l (2 * i + 1) = y := ⟨_, rfl⟩
    have g2 : w.cell? ⟨b, off + (2 * i + 2), none⟩ = some (.int .i64 x) := by rw [← hx]; exact R0.out.cell _ (by rw [← N.out]; exact h2)
    have g1 : w.cell? ⟨b, off + (2 * i + 1), none⟩ = some (.int .i64 y) := by rw [← hy]; exact R0.out.cell _ (by rw [← N.out]; omega)
    have X : Hid (gt l (2 * i + 2) = x ∧ gt l (2 * i + 1) = y) := ⟨hx, hy⟩
    clear hx hy
    have c1' : 2 * (i : Int) + 1 < (n : Int) := by omega
    have c2' : 2 * (i : Int) + 2 < (n : Int) := by omega
    by_cases hxy : x < y
    · go_enter Try.func91, Try.ntmps91
      go_wp2_with fail
      go_quiet (fail)
      go_wp2
      go_ret
      have e : blw l i = 2 * i + 2 := by unfold blw; rw [← N.out, X.out.1, X.out.2, if_pos ⟨h2, hxy⟩]
      refine ⟨?_, _, rfl⟩
      show Ending.returned (.int .i64 (2 * (i : Int) + 2)) = _
      rw [e]; exact ret_int (by omega)
    · have hd2 : decide (x < y) = false := by simpa using hxy
      go_enter Try.func91, Try.ntmps91
      go_wp2_with fail
      go_quiet (fail)
      go_wp2
      go_ret
      have e : blw l i = 2 * i + 1 := by unfold blw; rw [← N.out, X.out.1, X.out.2, if_neg (by omega)]
      refine ⟨?_, _, rfl⟩
      show Ending.returned (.int .i64 (2 * (i : Int) + 1)) = _
      rw [e]; exact ret_int (by omega)
  · have hd2 : decide (2 * (i : Int) + 2 < (n : Int)) = false := by simp; omega
    go_enter Try.func91, Try.ntmps91
    go_wp2_with fail
    go_quiet (fail)
    go_wp2
    go_ret
    have e : blw l i = 2 * i + 1 := by unfold blw; rw [← N.out, if_neg (by omega)]
    refine ⟨?_, _, rfl⟩
    show Ending.returned (.int .i64 (2 * (i : Int) + 1)) = _
    rw [e]; exact ret_int (by omega)

theorem sinkF_stop {n : Nat} {l : List Int} {i : Nat} (h : ¬ (blw l i < l.length ∧ gt l (blw l i) < gt l i)) : sinkF n l i = l := by
  cases n with
  | zero => rfl
  | succ n => unfold sinkF; rw [if_neg h]
theorem sinkF_go {n : Nat} {l : List Int} {i : Nat} (hn : 0 < n) (h : blw l i < l.length ∧ gt l (blw l i) < gt l i) : sinkF n l i = sinkF (n - 1) (swp l i (blw l i)) (blw l i) := by
  obtain ⟨m, rfl⟩ : ∃ m, n = m + 1 := ⟨n - 1, by omega⟩
  rw [sinkF, if_pos h, Nat.add_sub_cancel]

set_option maxHeartbeats 2000000 in
theorem sink_is {b off c : Nat} {l : List Int} {w : World} (R : Row b off l w) (h0 : 0 < l.length) (hl : l.length ≤ 1000000) :
    Calls Try.prog 86 #[.slice (some ⟨b, off, none⟩) l.length c] w fun e w' => e = .returned (.tuple #[]) ∧ Row b off (sink l) w' ∧ w.grownBy w' (some b) := by
  have R0 : Hid (Row b off l w) := R
  clear R
  obtain ⟨n, hn⟩ : ∃ n, n = l.length := ⟨_, rfl⟩
  have N : Hid (n = l.length) := hn
  have B0 : Hid (Calls Try.prog 91 #[.slice (some ⟨b, off, none⟩) n c, .int .i64 0] w fun e w' => e = .returned (.int .i64 (blw l 0 : Nat)) ∧ ∃ q, w' = w.drewN q) := by
    have := below_is (c := c) R0.out 0 h0 hl
    rw [hn]; exact this
  rw [← hn] at h0 hl ⊢
  clear hn
  have hn1 : (1 : Int) ≤ (n : Int) := by omega
  go_enter Try.func86, Try.ntmps86
  go_wp2_with fail
  refine B0.out.mono ?_
  rintro e w1 ⟨rfl, q, hw⟩
  have R1 : Hid (Row b off l w1) := by rw [hw]; exact R0.out.drewN q
  have G1 : Hid (w.grownBy w1 (some b)) := by rw [hw]; exact grown_drewN ⟨rfl, rfl, rfl, Nat.le_refl _, fun _ _ _ => rfl⟩ _
  clear hw B0 R0
  obtain ⟨c0, hc0⟩ : ∃ c0, c0 = blw l 0 := ⟨_, rfl⟩
  have C0 : Hid (c0 = blw l 0) := hc0
  have c0n : c0 ≤ 2 * n := by rw [hc0]; unfold blw; split <;> omega
  rw [← hc0]
  clear hc0
  go_wp2_with fail
  go_loopg [2, 3] n (fun gg s2 s3 wt => ∃ (i k : Nat) (l' : List Int), s2 = .int .i64 i ∧ s3 = .int .i64 k ∧ i < n ∧ i < k ∧ k ≤ 2 * n + 2 ∧ n ≤ gg + i ∧ Hid (k = blw l' i) ∧ Hid (l'.length = n) ∧ Hid (Row b off l' wt) ∧ Hid (w.grownBy wt (some b)) ∧ Hid (sinkF gg l' i = sink l))
  case atStart =>
    refine ⟨0, c0, l, rfl, rfl, by omega, ?_, by omega, by omega, C0.out, N.out.symm, R1, G1, ?_⟩
    · rw [C0.out]; exact blw_gt l 0
    · show sinkF n l 0 = sink l
      unfold sink; rw [N.out]
  case round =>
    obtain ⟨i, k, l', rfl, rfl, hi, hik, hk2, hgg, K', N', R', G, E⟩ := hrel
    clear R1 G1
    have hi1 : (i : Int) < (n : Int) := by omega
    have hi2 : (0 : Int) ≤ (i : Int) := by omega
    have hk0 : (0 : Int) ≤ (k : Int) := by omega
    by_cases hkn : k < n
    · have hk1 : (k : Int) < (n : Int) := by omega
      obtain ⟨x, hx⟩ : ∃ x, gt l' i = x := ⟨_, rfl⟩
      obtain ⟨y, hy⟩ : ∃ y, gt l' k = y := ⟨_, rfl⟩
      have g1 : wr.cell? ⟨b, off + i, none⟩ = some (.int .i64 x) := by rw [← hx]; exact R'.out.cell i (by rw [N'.out]; exact hi)
      have g2 : wr.cell? ⟨b, off + k, none⟩ = some (.int .i64 y) := by rw [← hy]; exact R'.out.cell k (by rw [N'.out]; exact hkn)
      have f1 : wr.frozen? ⟨b, off + i, none⟩ = false := R'.out.froz i (by rw [N'.out]; exact hi)
      have f2 : wr.frozen? ⟨b, off + k, none⟩ = false := R'.out.froz k (by rw [N'.out]; exact hkn)
      have X : Hid (gt l' i = x ∧ gt l' k = y) := ⟨hx, hy⟩
      clear hx hy
      by_cases hxy : y < x
      · go_wp2_with fail
        go_quiet (fail)
        go_wp2_with fail
        generalize hwq : wr.drewN _ = wq
        have q1 : wq.cell? ⟨b, off + i, none⟩ = some (.int .i64 x) := by rw [← hwq]; exact g1
        have q2 : wq.cell? ⟨b, off + k, none⟩ = some (.int .i64 y) := by rw [← hwq]; exact g2
        have k1 : wq.frozen? ⟨b, off + i, none⟩ = false := by rw [← hwq]; exact f1
        have k2 : wq.frozen? ⟨b, off + k, none⟩ = false := by rw [← hwq]; exact f2
        have R2 : Hid (Row b off (swp l' i k) ((wq.setCell ⟨b, off + i, none⟩ (.int .i64 y)).setCell ⟨b, off + k, none⟩ (.int .i64 x)).drew) := by rw [← hwq]; exact ((R'.out.drewN _).swap i k x y (by rw [N'.out]; exact hi) (by rw [N'.out]; exact hkn) X.out.1 X.out.2).drew
        have G2 : Hid (w.grownBy ((wq.setCell ⟨b, off + i, none⟩ (.int .i64 y)).setCell ⟨b, off + k, none⟩ (.int .i64 x)).drew (some b)) := by rw [← hwq]; exact grown_drew (grown_set (grown_set (grown_drewN G.out _) _ _) _ _)
        have B2 : Hid (Calls Try.prog 91 #[.slice (some ⟨b, off, none⟩) n c, .int .i64 k] ((wq.setCell ⟨b, off + i, none⟩ (.int .i64 y)).setCell ⟨b, off + k, none⟩ (.int .i64 x)).drew fun e w' => e = .returned (.int .i64 (blw (swp l' i k) k : Nat)) ∧ ∃ q, w' = (((wq.setCell ⟨b, off + i, none⟩ (.int .i64 y)).setCell ⟨b, off + k, none⟩ (.int .i64 x)).drew).drewN q) := by
          have := below_is (c := c) R2.out k (by rw [swp_len, N'.out]; exact hkn) (by rw [swp_len, N'.out]; exact hl)
          rw [swp_len, N'.out] at this
          exact this
        clear hwq g1 g2 f1 f2 R' G
        go_region
        all_goals
          go_wp2_with fail
          refine B2.out.mono ?_
          rintro e w3 ⟨rfl, q, hw⟩
          have R3 : Hid (Row b off (swp l' i k) w3) := by rw [hw]; exact R2.out.drewN q
          have G3 : Hid (w.grownBy w3 (some b)) := by rw [hw]; exact grown_drewN G2.out q
          clear hw B2 R2 G2
          go_wp2
          go_roundg (gk - 1)
          case measure => omega
          case rel =>
            have ek := K'.out
            refine ⟨k, blw (swp l' i k) k, swp l' i k, rfl, rfl, hkn, blw_gt _ _, by unfold blw; split <;> omega, by omega, rfl, (swp_len _ _ _).trans N'.out, R3, G3, ?_⟩
            have e := sinkF_go (n := gk) (l := l') (i := i) (by omega) (by rw [← ek, N'.out, X.out.1, X.out.2]; exact ⟨hkn, hxy⟩)
            rw [← ek] at e
            exact e.symm.trans E.out
      · have hd2 : decide (y < x) = false := by simpa using hxy
        go_wp2_with fail
        go_quiet (fail)
        go_wp2
        go_end0
        have e := E.out
        rw [sinkF_stop (by rw [← K'.out, X.out.1, X.out.2]; omega)] at e
        rw [← e]
        exact ⟨rfl, R'.out.drewN _, grown_drewN G.out _⟩
    · have hd2 : decide ((k : Int) < (n : Int)) = false := by simp; omega
      go_wp2_with fail
      go_quiet (fail)
      go_wp2
      go_end0
      have e := E.out
      rw [sinkF_stop (by rw [← K'.out, N'.out]; omega)] at e
      rw [← e]
      exact ⟨rfl, R'.out.drewN _, grown_drewN G.out _⟩
end Go.Proofs.Ytgkgkiheoadbfaa
namespace Go.Proofs.Ytgkgkiheoadbfaa
set_option maxRecDepth 20000
open Go.RowKit

/-- What an operation makes of a heap, and its answer: 8.1. -/
def hdo (xs : List Int) (what value : Int) : List Int × Int × Int :=
  if what = 1 then (if 6 ≤ xs.length then (xs, 3, 0) else (rise (xs ++ [value]), 1, 0))
  else if what = 2 then (match xs with | [] => ([], 2, 0) | x :: r => (if r = [] then [] else sink (r.getLastD 0 :: r.dropLast), 1, x))
  else qdo xs what value

theorem IsL.row {B : Nat} {w : World} {v : Value} {xs : List Int} (h : IsL B w v xs) (hB : 0 < B) (h0 : 0 < xs.length) : ∃ b off c, v = .slice (some ⟨b, off, none⟩) xs.length c ∧ B ≤ b ∧ b < w.heap.size ∧ xs.length ≤ c ∧ Row b off xs w := by
  rcases h with ⟨rfl, _⟩ | ⟨b, off, c, rfl, hb, _, hc, hcell, hfz⟩
  · simp at h0
  · exact ⟨b, off, c, rfl, hb, World.block_lt_of_cell? _ _ (hcell 0 h0), hc, ⟨hcell, hfz hB⟩⟩
theorem Row.isL {B b off c : Nat} {l : List Int} {w : World} (h : Row b off l w) (hB : B ≤ b) (h0 : 0 < l.length) (hc : l.length ≤ c) : IsL B w (.slice (some ⟨b, off, none⟩) l.length c) l :=
  Or.inr ⟨b, off, c, rfl, hB, h0, hc, h.cell, fun _ => h.froz⟩
theorem Row.keep {C b off : Nat} {l : List Int} {w w' : World} (h : Row b off l w) (hb : Below C w w') (hC : b < C) : Row b off l w' where
  cell j hj := by rw [World.cell?_of_block (hb.block b hC)]; exact h.cell j hj
  froz j hj := by rw [World.frozen?_of_block (hb.block b hC)]; exact h.froz j hj
theorem Bx.aside {n : Nat} {c y : Int} {w w' : World} {row : Option Nat} (h : Bx n c y w) (hg : w.grownBy w' row) (hn : some n ≠ row) : Bx n c y w' where
  lt := Nat.lt_of_lt_of_le h.lt hg.size
  c0 := by rw [World.cell?_of_block (hg.block n h.lt hn)]; exact h.c0
  c1 := by rw [World.cell?_of_block (hg.block n h.lt hn)]; exact h.c1
  f0 := by rw [World.frozen?_of_block (hg.block n h.lt hn)]; exact h.f0
  f1 := by rw [World.frozen?_of_block (hg.block n h.lt hn)]; exact h.f1

theorem Fr.alloc {w W : World} {o k x : Int} (h : Fr w W o k x) (ob : Obj) : Fr w (W.alloc ob) o k x := h.later ((Below.refl _ W).alloc h.sz ob)

set_option maxHeartbeats 1000000 in
theorem hput_full {B : Nat} {v : Value} {xs : List Int} {w : World} (k x : Int) (h : IsL B w v xs) (hx : xs.length ≤ 1000000) (h6 : 6 ≤ xs.length) :
    Calls Try.prog 78 #[v, .agg #[.int .i64 1, .int .i64 k, .int .i64 x]] w (Made w xs 3 0) := by
  have F0 : Hid (Fr w (two w 1 k x) 1 k x) := Fr.start w 1 k x
  have X : Hid (IsL B (two w 1 k x) v xs) := h.later F0.out.gr
  clear h
  go_enter Try.func78, Try.ntmps78
  go_wp2_with fail
  refine (qDo_eq (w := two w 1 k x) (ys := xs) (c := 3) (y := 0) k X.out hx (by simp [qdo, h6])).mono ?_
  rintro e w1 ⟨v1, rfl, hi, hb⟩
  rw [two_size] at hi hb
  have F1 : Hid (Fr w (w1.alloc (.cells #[.int .i64 3, .int .i64 0] 42)) 1 k x) := (F0.out.later hb).alloc _
  have I1 : Hid (IsL (w.heap.size + 2) (w1.alloc (.cells #[.int .i64 3, .int .i64 0] 42)) v1 xs) := hi.new _
  have z1 : Hid (w.heap.size + 2 ≤ w1.heap.size) := (F0.out.later hb).sz
  clear hi hb F0 X
  have r0 := F1.out.r0
  have r1 := F1.out.r1
  have f0 := F1.out.f0
  have f1 := F1.out.f1
  have n1 : w.heap.size + 1 ≠ w1.heap.size := by have := z1.out; omega
  go_wp2_with fail
  go_region
  all_goals go_wp2
  refine bodyPost_ret (v := .tuple #[v1, .agg #[.int .i64 3, .int .i64 0]]) ?_ rfl (F1.out.made3 3 0 I1.out)
  have E := F1.out.ends 3 0
  unfold wr at E
  simp [results, Try.results78, go_sem, E.1, E.2.1]

set_option maxHeartbeats 1000000 in
theorem hput_done {B : Nat} {v : Value} {xs : List Int} {w : World} (k x : Int) (h : IsL B w v xs) (h6 : xs.length < 6) :
    Calls Try.prog 78 #[v, .agg #[.int .i64 1, .int .i64 k, .int .i64 x]] w (Made w (rise (xs ++ [x])) 1 0) := by
  have F0 : Hid (Fr w (two w 1 k x) 1 k x) := Fr.start w 1 k x
  have X : Hid (IsL B (two w 1 k x) v xs) := h.later F0.out.gr
  clear h
  go_enter Try.func78, Try.ntmps78
  go_wp2_with fail
  refine (qDo_eq (w := two w 1 k x) (ys := xs ++ [x]) (c := 1) (y := 0) k X.out (by omega) (by simp [qdo, show ¬ 6 ≤ xs.length by omega])).mono ?_
  rintro e w1 ⟨v1, rfl, hi, hb⟩
  rw [two_size] at hi hb
  obtain ⟨b, off, c, rfl, hB, hbl, hc, hR⟩ := hi.row (by omega) (by simp)
  have F1 : Hid (Fr w (w1.alloc (.cells #[.int .i64 1, .int .i64 0] 42)) 1 k x) := (F0.out.later hb).alloc _
  have Q1 : Hid (Bx w1.heap.size 1 0 (w1.alloc (.cells #[.int .i64 1, .int .i64 0] 42))) := Bx.born w1 1 0 _
  have R1 : Hid (Row b off (xs ++ [x]) (w1.alloc (.cells #[.int .i64 1, .int .i64 0] 42))) := hR.keep (new_below w1 _) hbl
  clear hi hb F0 X hR
  obtain ⟨l, hl⟩ : ∃ l, l = xs ++ [x] := ⟨_, rfl⟩
  have h0 : 0 < l.length := by rw [hl]; simp
  have h7 : l.length ≤ 1000000 := by rw [hl]; simp; omega
  have L : Hid (l = xs ++ [x]) := hl
  rw [← hl] at R1 hc ⊢
  clear hl
  go_wp2_with fail
  refine (rise_is R1.out h0 h7).mono ?_
  rintro e w3 ⟨rfl, hR, hg⟩
  have e3 : (rise l).length = l.length := (rise_perm l).length_eq
  have F3 : Hid (Fr w w3 1 k x) := F1.out.later ((Below.refl _ _).grown hg F1.out.sz (fun k hk => by injection hk with hk; omega))
  have I3 : Hid (IsL (w.heap.size + 2) w3 (.slice (some ⟨b, off, none⟩) l.length c) (rise (xs ++ [x]))) := by
    rw [← L.out, ← e3]; exact hR.isL hB (by omega) (by omega)
  have Q3 : Hid (Bx w1.heap.size 1 0 w3) := Q1.out.aside hg (fun e => by injection e with e; omega)
  have z1 : Hid (w.heap.size + 2 ≤ w1.heap.size) := (by omega : w.heap.size + 2 ≤ w1.heap.size)
  clear hR hg F1 Q1 R1 e3
  have r0 := F3.out.r0
  have r1 := F3.out.r1
  have f0 := F3.out.f0
  have f1 := F3.out.f1
  have y0 := Q3.out.c0
  have y1 := Q3.out.c1
  go_wp2_with fail
  go_region
  all_goals go_wp2
  refine bodyPost_ret (v := .tuple #[.slice (some ⟨b, off, none⟩) l.length c, .agg #[.int .i64 1, .int .i64 0]]) ?_ rfl (F3.out.made3 1 0 I3.out)
  have E := F3.out.ends 1 0
  unfold wr at E
  simp [results, Try.results78, go_sem, E.1, E.2.1]

set_option maxHeartbeats 1000000 in
theorem htake_few {B : Nat} {v : Value} {xs : List Int} {w : World} {c y : Int} (h : IsL B w v xs) (hx : xs.length ≤ 1000000) (hs : sdo xs 2 0 = ([], c, y)) :
    Calls Try.prog 79 #[v] w (Made w [] c y) := by
  have X : Hid (IsL B (w.alloc (.cells #[.int .i64 0, .int .i64 0] 42)) v xs) := h.new _
  have Q0 : Hid (Bx w.heap.size 0 0 (w.alloc (.cells #[.int .i64 0, .int .i64 0] 42))) := Bx.born w 0 0 _
  clear h
  go_enter Try.func79, Try.ntmps79
  go_wp2_with fail
  refine (sDo_eq 0 X.out hx hs).mono ?_
  rintro e w1 ⟨v1, rfl, hi, hb⟩
  obtain ⟨a, cp, rfl⟩ := hi.form
  have Q1 : Hid (Bx w.heap.size 0 0 (w1.alloc (.cells #[.int .i64 c, .int .i64 y] 42))) := (Q0.out.later hb).new _
  have G1 : Hid (Gd w (w1.alloc (.cells #[.int .i64 c, .int .i64 y] 42))) := (((Gd.refl w).new _).later hb).new _
  have hlt : w.heap.size < w1.heap.size := (Q0.out.later hb).lt
  have S1 : Hid (Bx w1.heap.size c y (w1.alloc (.cells #[.int .i64 c, .int .i64 y] 42))) := Bx.born w1 c y _
  clear hi hb X Q0
  go_wp2_with fail
  generalize w1.alloc (.cells #[.int .i64 c, .int .i64 y] 42) = W at Q1 G1 S1 ⊢
  have x0 := Q1.out.c0
  have x1 := Q1.out.c1
  have y0 := Q1.out.f0
  have y1 := Q1.out.f1
  have z0 := S1.out.c0
  have z1 := S1.out.c1
  go_region
  all_goals go_wp2
  have E := Q1.out.put (c' := c) (y' := y) (Nat.le_refl _) G1.out
  refine bodyPost_ret (v := .tuple #[.slice a 0 cp, .agg #[.int .i64 c, .int .i64 y]]) ?_ rfl ⟨_, rfl, IsL.nil _ _ _ _, Below.drew E.2⟩
  simp [results, Try.results79, go_sem, E.1.c0, E.1.c1]

set_option maxHeartbeats 1000000 in
theorem htake_more {B : Nat} {v : Value} {r : List Int} {x z : Int} {w : World} (h : IsL B w v (x :: (r ++ [z]))) (hx : r.length ≤ 100000) :
    Calls Try.prog 79 #[v] w (Made w (sink (z :: r)) 1 x) := by
  have X : Hid (IsL B (w.alloc (.cells #[.int .i64 0, .int .i64 0] 42)) v (x :: (r ++ [z]))) := h.new _
  have Q0 : Hid (Bx w.heap.size 0 0 (w.alloc (.cells #[.int .i64 0, .int .i64 0] 42))) := Bx.born w 0 0 _
  clear h
  have hs : Hid (sdo (x :: (r ++ [z])) 2 0 = (x :: r, 1, z)) := sdo_take (x :: r) z 0
  go_enter Try.func79, Try.ntmps79
  go_wp2_with fail
  refine (sDo_eq 0 X.out (by simp; omega) hs.out).mono ?_
  rintro e w1 ⟨v1, rfl, hi, hb⟩
  have hB0 : 0 < (w.alloc (.cells #[.int .i64 0, .int .i64 0] 42)).heap.size := by simp
  obtain ⟨b, off, cp, rfl, hB, hbl, hc, hR⟩ := hi.row hB0 (by simp)
  have hB' : w.heap.size + 1 ≤ b := by simpa using hB
  have hlt : w.heap.size < w1.heap.size := (Q0.out.later hb).lt
  have g1 : w1.cell? ⟨b, off, none⟩ = some (.int .i64 x) := hR.cell 0 (Nat.succ_pos _)
  have k1 : w1.frozen? ⟨b, off, none⟩ = false := hR.froz 0 (Nat.succ_pos _)
  have hgr : w1.grownBy (w1.setCell ⟨b, off, none⟩ (.int .i64 z)) (some b) := grown_set (World.grownBy.refl _ _) _ _
  have Q2 : Hid (Bx w.heap.size 0 0 ((w1.setCell ⟨b, off, none⟩ (.int .i64 z)).alloc (.cells #[.int .i64 1, .int .i64 z] 42))) := ((Q0.out.later hb).aside hgr (fun e => by injection e with e; omega)).new _
  have G2 : Hid (Gd w ((w1.setCell ⟨b, off, none⟩ (.int .i64 z)).alloc (.cells #[.int .i64 1, .int .i64 z] 42))) := Gd.new (Below.setCell (((Gd.refl w).new _).later hb) (show w.heap.size ≤ b by omega) _) _
  have R2 : Hid (Row b off (z :: r) ((w1.setCell ⟨b, off, none⟩ (.int .i64 z)).alloc (.cells #[.int .i64 1, .int .i64 z] 42))) := (hR.set 0 z (Nat.succ_pos _)).keep (new_below _ _) (by simpa using hbl)
  clear hi hb X Q0 hB hB0 hR hs hgr
  have hn : (0 : Int) < ((r.length + 1 : Nat) : Int) := by omega
  have hl : (x :: r).length = r.length + 1 := rfl
  rw [hl] at hc ⊢
  clear hl
  go_wp2_with fail
  generalize (w1.setCell ⟨b, off, none⟩ (.int .i64 z)).alloc (.cells #[.int .i64 1, .int .i64 z] 42) = W at Q2 G2 R2 ⊢
  refine (sink_is (c := cp) R2.out (Nat.succ_pos _) (by simp; omega)).mono ?_
  rintro e w3 ⟨rfl, hR, hg⟩
  have e3 : (sink (z :: r)).length = r.length + 1 := (sink_perm (z :: r)).length_eq
  have Q3 : Hid (Bx w.heap.size 0 0 w3) := Q2.out.aside hg (fun e => by injection e with e; omega)
  have G3 : Hid (Gd w w3) := Below.grown G2.out hg (Below.size G2.out) (fun k hk => by injection hk with hk; omega)
  have I3 : Hid (IsL (w.heap.size + 1) w3 (.slice (some ⟨b, off, none⟩) (r.length + 1) cp) (sink (z :: r))) := by
    rw [← e3]; exact hR.isL hB' (by omega) (by omega)
  clear hR hg Q2 G2 R2 e3
  have x0 := Q3.out.c0
  have x1 := Q3.out.c1
  have y0 := Q3.out.f0
  have y1 := Q3.out.f1
  go_wp2
  have E := Q3.out.put (c' := 1) (y' := x) (Nat.le_refl _) G3.out
  refine bodyPost_ret (v := .tuple #[.slice (some ⟨b, off, none⟩) (r.length + 1) cp, .agg #[.int .i64 1, .int .i64 x]]) ?_ rfl ⟨_, rfl, ((I3.out.setCell (Nat.lt_succ_self _) _).setCell (Nat.lt_succ_self _) _).mono (Nat.le_succ _), E.2⟩
  simp [results, Try.results79, go_sem, E.1.c0, E.1.c1]

/-- Where the answer is put in its place: all three ways of Do. -/
theorem Made.two {w : World} {ys : List Int} {o k x c y : Int} {e : Ending} {w1 : World} (h : Made (two w o k x) ys c y e w1) : ∃ v1, e = .returned (.tuple #[v1, .agg #[.int .i64 c, .int .i64 y]]) ∧ Hid (Fr w w1 o k x) ∧ Hid (IsL (w.heap.size + 2) w1 v1 ys) := by
  obtain ⟨v1, he, hi, hb⟩ := h
  rw [two_size] at hi hb
  exact ⟨v1, he, (Fr.start w o k x).later hb, hi⟩

set_option maxHeartbeats 1000000 in
theorem hDo_put {B : Nat} {v : Value} {xs ys : List Int} {w : World} {x c y : Int} (k : Int) (h : IsL B w v xs) (hp : ∀ W, IsL B W v xs → Calls Try.prog 78 #[v, .agg #[.int .i64 1, .int .i64 k, .int .i64 x]] W (Made W ys c y)) :
    Calls Try.prog 65 #[v, .agg #[.int .i64 1, .int .i64 k, .int .i64 x]] w (Made w ys c y) := by
  have P : Hid (Calls Try.prog 78 #[v, .agg #[.int .i64 1, .int .i64 k, .int .i64 x]] (two w 1 k x) (Made (two w 1 k x) ys c y)) := hp _ (h.later (Fr.start w 1 k x).gr)
  clear h hp
  go_enter Try.func65, Try.ntmps65
  go_wp2_with fail
  refine P.out.mono ?_
  intro e w1 hm
  obtain ⟨v1, rfl, F1, I1⟩ := hm.two
  clear hm P
  have r0 := F1.out.r0
  have r1 := F1.out.r1
  have f0 := F1.out.f0
  have f1 := F1.out.f1
  go_wp2
  refine bodyPost_ret (v := .tuple #[v1, .agg #[.int .i64 c, .int .i64 y]]) ?_ rfl (F1.out.made c y I1.out)
  have E := F1.out.ends c y
  unfold wr at E
  simp [results, Try.results65, go_sem, E.1, E.2.1]

set_option maxHeartbeats 1000000 in
theorem hDo_take {B : Nat} {v : Value} {xs ys : List Int} {w : World} {c y : Int} (k x : Int) (h : IsL B w v xs) (hp : ∀ W, IsL B W v xs → Calls Try.prog 79 #[v] W (Made W ys c y)) :
    Calls Try.prog 65 #[v, .agg #[.int .i64 2, .int .i64 k, .int .i64 x]] w (Made w ys c y) := by
  have P : Hid (Calls Try.prog 79 #[v] (two w 2 k x) (Made (two w 2 k x) ys c y)) := hp _ (h.later (Fr.start w 2 k x).gr)
  clear h hp
  go_enter Try.func65, Try.ntmps65
  go_wp2_with fail
  refine P.out.mono ?_
  intro e w1 hm
  obtain ⟨v1, rfl, F1, I1⟩ := hm.two
  clear hm P
  have r0 := F1.out.r0
  have r1 := F1.out.r1
  have f0 := F1.out.f0
  have f1 := F1.out.f1
  go_wp2
  refine bodyPost_ret (v := .tuple #[v1, .agg #[.int .i64 c, .int .i64 y]]) ?_ rfl (F1.out.made c y I1.out)
  have E := F1.out.ends c y
  unfold wr at E
  simp [results, Try.results65, go_sem, E.1, E.2.1]

set_option maxHeartbeats 1000000 in
theorem hDo_else {B : Nat} {v : Value} {xs ys : List Int} {w : World} {o x c y : Int} (k : Int) (n1 : o ≠ 1) (n2 : o ≠ 2) (h : IsL B w v xs) (hx : xs.length ≤ 1000000) (hq : qdo xs o x = (ys, c, y)) :
    Calls Try.prog 65 #[v, .agg #[.int .i64 o, .int .i64 k, .int .i64 x]] w (Made w ys c y) := by
  have P : Hid (Calls Try.prog 62 #[v, .agg #[.int .i64 o, .int .i64 k, .int .i64 x]] (two w o k x) (Made (two w o k x) ys c y)) := qDo_eq k (h.later (Fr.start w o k x).gr) hx hq
  have m1 : (o == 1) = false := by simp [n1]
  have m2 : (o == 2) = false := by simp [n2]
  clear h hq
  go_enter Try.func65, Try.ntmps65
  go_wp2_with fail
  refine P.out.mono ?_
  intro e w1 hm
  obtain ⟨v1, rfl, F1, I1⟩ := hm.two
  clear hm P
  have r0 := F1.out.r0
  have r1 := F1.out.r1
  have f0 := F1.out.f0
  have f1 := F1.out.f1
  go_wp2
  refine bodyPost_ret (v := .tuple #[v1, .agg #[.int .i64 c, .int .i64 y]]) ?_ rfl (F1.out.made c y I1.out)
  have E := F1.out.ends c y
  unfold wr at E
  simp [results, Try.results65, go_sem, E.1, E.2.1]

theorem hdo_put {xs : List Int} (x : Int) (h : xs.length < 6) : hdo xs 1 x = (rise (xs ++ [x]), 1, 0) := by simp [hdo, show ¬ 6 ≤ xs.length by omega]
theorem hdo_full {xs : List Int} (x : Int) (h : 6 ≤ xs.length) : hdo xs 1 x = (xs, 3, 0) := by simp [hdo, h]
theorem hdo_none (x : Int) : hdo [] 2 x = ([], 2, 0) := by simp [hdo]
theorem hdo_one (z x : Int) : hdo [z] 2 x = ([], 1, z) := by simp [hdo]
theorem hdo_more (z : Int) (r : List Int) (y x : Int) : hdo (z :: (r ++ [y])) 2 x = (sink (y :: r), 1, z) := by simp [hdo]
theorem hdo_else (xs : List Int) (o x : Int) (n1 : o ≠ 1) (n2 : o ≠ 2) : hdo xs o x = qdo xs o x := by simp [hdo, n1, n2]

theorem hDo_eq {B : Nat} {v : Value} {xs ys : List Int} {w : World} {o x c y : Int} (k : Int) (h : IsL B w v xs) (hx : xs.length ≤ 60) (hq : hdo xs o x = (ys, c, y)) :
    Calls Try.prog 65 #[v, .agg #[.int .i64 o, .int .i64 k, .int .i64 x]] w (Made w ys c y) := by
  by_cases n1 : o = 1
  · subst n1
    by_cases h6 : 6 ≤ xs.length
    · rw [hdo_full x h6] at hq
      simp only [Prod.mk.injEq] at hq
      obtain ⟨rfl, rfl, rfl⟩ := hq
      exact hDo_put k h fun W hW => hput_full k x hW (by omega) h6
    · rw [hdo_put x (by omega)] at hq
      simp only [Prod.mk.injEq] at hq
      obtain ⟨rfl, rfl, rfl⟩ := hq
      exact hDo_put k h fun W hW => hput_done k x hW (by omega)
  by_cases n2 : o = 2
  · subst n2
    refine hDo_take k x h fun W hW => ?_
    cases xs with
    | nil =>
      rw [hdo_none] at hq
      simp only [Prod.mk.injEq] at hq
      obtain ⟨rfl, rfl, rfl⟩ := hq
      exact htake_few hW (by simp) (by simp [sdo, qdo])
    | cons z r =>
      rcases List.eq_nil_or_concat r with rfl | ⟨r', t, rfl⟩
      · rw [hdo_one] at hq
        simp only [Prod.mk.injEq] at hq
        obtain ⟨rfl, rfl, rfl⟩ := hq
        exact htake_few hW (by simp) (by simp [sdo])
      · rw [List.concat_eq_append] at hW hx hq
        rw [hdo_more] at hq
        simp only [Prod.mk.injEq] at hq
        obtain ⟨rfl, rfl, rfl⟩ := hq
        exact htake_more hW (by simp at hx; omega)
  · rw [hdo_else xs o x n1 n2] at hq
    exact hDo_else k n1 n2 h (by omega) hq
end Go.Proofs.Ytgkgkiheoadbfaa
namespace Go.Proofs.Ytgkgkiheoadbfaa
set_option maxRecDepth 20000

theorem hdo_takes {z : Int} {r : List Int} (x : Int) (h : Hp (z :: r)) : ∃ ys, hdo (z :: r) 2 x = (ys, 1, z) ∧ ys.Perm r ∧ Hp ys := by
  rcases List.eq_nil_or_concat r with rfl | ⟨r', t, rfl⟩
  · exact ⟨[], hdo_one z x, .refl _, fun i _ hi => absurd hi (by simp)⟩
  · rw [List.concat_eq_append] at h ⊢
    refine ⟨sink (t :: r'), hdo_more z r' t x, (sink_perm _).trans ?_, sink_heap z t r' (Hp.cut (r := [t]) h)⟩
    exact (List.perm_append_comm (l₁ := [t]) (l₂ := r'))
theorem hdo_puts {xs : List Int} (x : Int) (h : Hp xs) (h6 : xs.length < 6) : ∃ ys, hdo xs 1 x = (ys, 1, 0) ∧ ys.Perm (xs ++ [x]) ∧ Hp ys :=
  ⟨_, hdo_put x h6, rise_perm _, rise_heap xs x h⟩
theorem qdo_keeps (xs : List Int) (o x : Int) (n1 : o ≠ 1) (n2 : o ≠ 2) : ∃ c y, qdo xs o x = (xs, c, y) := by
  by_cases n5 : o = 5
  · subst n5
    cases xs with
    | nil => exact ⟨2, 0, by simp [qdo]⟩
    | cons z r => exact ⟨1, z, by simp [qdo]⟩
  by_cases n6 : o = 6
  · exact ⟨1, xs.length, by simp [qdo, n6]⟩
  · exact ⟨5, 0, by simp [qdo, n1, n2, n5, n6]⟩
theorem hdo_keeps (xs : List Int) (o x : Int) (n1 : o ≠ 1) (n2 : o ≠ 2) : ∃ c y, hdo xs o x = (xs, c, y) := by
  rw [hdo_else xs o x n1 n2]
  exact qdo_keeps xs o x n1 n2
theorem Hp.nil : Hp [] := fun i _ hi => absurd hi (by simp)
theorem hdo_peeks (z : Int) (r : List Int) (x : Int) : hdo (z :: r) 5 x = (z :: r, 1, z) := by simp [hdo, qdo]
/-- What is put in and is less than all comes out. -/
theorem Hp.first {m l : List Int} {z : Int} (h : Hp m) (hm : m.Perm (l ++ [z])) (hz : ∀ y ∈ l, z ≤ y) : ∃ r, m = z :: r ∧ r.Perm l := by
  cases m with
  | nil => exact absurd hm.length_eq (by simp)
  | cons t r =>
    have h1 : t ≤ z := h.head z (hm.mem_iff.2 (by simp))
    have h2 : z ≤ t := by
      have : t ∈ l ++ [z] := hm.mem_iff.1 (by simp)
      rcases List.mem_append.1 this with h | h
      · exact hz t h
      · simp at h; omega
    obtain rfl : t = z := by omega
    refine ⟨r, rfl, ?_⟩
    have := hm.trans (List.perm_append_comm (l₁ := l) (l₂ := [t]))
    exact List.Perm.cons_inv this
/-- Of a heap that has the same things as a list that rises, the first one is the same. -/
theorem Hp.rises {m r : List Int} {z : Int} (h : Hp m) (hm : m.Perm (z :: r)) (hz : (z :: r).Pairwise (· ≤ ·)) : ∃ m', m = z :: m' ∧ m'.Perm r := by
  have h1 : ∀ y ∈ r, z ≤ y := (List.pairwise_cons.1 hz).1
  exact h.first (hm.trans (List.perm_append_comm (l₁ := [z]) (l₂ := r))) h1
end Go.Proofs.Ytgkgkiheoadbfaa
namespace Go.Proofs.Ytgkgkiheoadbfaa
set_option maxRecDepth 20000
set_option linter.unusedVariables false
open Go.RowKit

/-- What an operation makes of a tally, and its answer: 10.1. -/
def ado (n what value : Int) : Int × Int × Int :=
  if what = 1 then (if 4294967295 < n + value then (n, 3, 0) else (n + value, 1, n))
  else if what = 2 then (if n < value then (n, 2, 0) else (n - value, 1, n))
  else if what = 5 ∨ what = 6 then (n, 1, n) else (n, 5, 0)

theorem aDo_put_full (n k x : Int) (n0 : 0 ≤ n) (n1 : n ≤ 4294967295) (x0 : 0 ≤ x) (x1 : x ≤ 4294967295) (h : 4294967295 < n + x) (w : World) :
    Calls Try.prog 82 #[.int .i64 n, .agg #[.int .i64 1, .int .i64 k, .int .i64 x]] w fun e w' => e = .returned (.tuple #[.int .i64 (n), .agg #[.int .i64 3, .int .i64 0]]) ∧ Below w.heap.size w w' := by
  have hs : IntKind.i64.wrap (n + x) = n + x := by rw [IntKind.wrap_i64]; omega
  go_enter Try.func82, Try.ntmps82
  go_wp2
  try (go_region; all_goals go_wp2)
  all_goals exact bodyPost_ret (v := .tuple #[.int .i64 (n), .agg #[.int .i64 3, .int .i64 0]]) (by simp [results, Try.results82, go_sem]) rfl ⟨rfl, by repeat first | with_reducible exact Below.refl _ _ | with_reducible apply Below.drew | (with_reducible refine Below.alloc ?_ ?g _; case g => (simp <;> omega)) | (with_reducible refine Below.setCell ?_ ?g _; case g => (simp <;> omega))⟩
theorem aDo_put (n k x : Int) (n0 : 0 ≤ n) (n1 : n ≤ 4294967295) (x0 : 0 ≤ x) (x1 : x ≤ 4294967295) (h : n + x ≤ 4294967295) (w : World) :
    Calls Try.prog 82 #[.int .i64 n, .agg #[.int .i64 1, .int .i64 k, .int .i64 x]] w fun e w' => e = .returned (.tuple #[.int .i64 (n + x), .agg #[.int .i64 1, .int .i64 n]]) ∧ Below w.heap.size w w' := by
  have hs : IntKind.i64.wrap (n + x) = n + x := by rw [IntKind.wrap_i64]; omega
  go_enter Try.func82, Try.ntmps82
  go_wp2
  try (go_region; all_goals go_wp2)
  all_goals exact bodyPost_ret (v := .tuple #[.int .i64 (n + x), .agg #[.int .i64 1, .int .i64 n]]) (by simp [results, Try.results82, go_sem]) rfl ⟨rfl, by repeat first | with_reducible exact Below.refl _ _ | with_reducible apply Below.drew | (with_reducible refine Below.alloc ?_ ?g _; case g => (simp <;> omega)) | (with_reducible refine Below.setCell ?_ ?g _; case g => (simp <;> omega))⟩
theorem aDo_take_none (n k x : Int) (n0 : 0 ≤ n) (n1 : n ≤ 4294967295) (x0 : 0 ≤ x) (x1 : x ≤ 4294967295) (h : n < x) (w : World) :
    Calls Try.prog 82 #[.int .i64 n, .agg #[.int .i64 2, .int .i64 k, .int .i64 x]] w fun e w' => e = .returned (.tuple #[.int .i64 (n), .agg #[.int .i64 2, .int .i64 0]]) ∧ Below w.heap.size w w' := by
  have hs : IntKind.i64.wrap (n - x) = n - x := by rw [IntKind.wrap_i64]; omega
  have hd : n - x < 0 := by omega
  go_enter Try.func82, Try.ntmps82
  go_wp2
  try (go_region; all_goals go_wp2)
  all_goals exact bodyPost_ret (v := .tuple #[.int .i64 (n), .agg #[.int .i64 2, .int .i64 0]]) (by simp [results, Try.results82, go_sem]) rfl ⟨rfl, by repeat first | with_reducible exact Below.refl _ _ | with_reducible apply Below.drew | (with_reducible refine Below.alloc ?_ ?g _; case g => (simp <;> omega)) | (with_reducible refine Below.setCell ?_ ?g _; case g => (simp <;> omega))⟩
theorem aDo_take (n k x : Int) (n0 : 0 ≤ n) (n1 : n ≤ 4294967295) (x0 : 0 ≤ x) (x1 : x ≤ 4294967295) (h : x ≤ n) (w : World) :
    Calls Try.prog 82 #[.int .i64 n, .agg #[.int .i64 2, .int .i64 k, .int .i64 x]] w fun e w' => e = .returned (.tuple #[.int .i64 (n - x), .agg #[.int .i64 1, .int .i64 n]]) ∧ Below w.heap.size w w' := by
  have hs : IntKind.i64.wrap (n - x) = n - x := by rw [IntKind.wrap_i64]; omega
  have hd : 0 ≤ n - x := by omega
  go_enter Try.func82, Try.ntmps82
  go_wp2
  try (go_region; all_goals go_wp2)
  all_goals exact bodyPost_ret (v := .tuple #[.int .i64 (n - x), .agg #[.int .i64 1, .int .i64 n]]) (by simp [results, Try.results82, go_sem]) rfl ⟨rfl, by repeat first | with_reducible exact Below.refl _ _ | with_reducible apply Below.drew | (with_reducible refine Below.alloc ?_ ?g _; case g => (simp <;> omega)) | (with_reducible refine Below.setCell ?_ ?g _; case g => (simp <;> omega))⟩
theorem aDo_look5 (n k x : Int) (n0 : 0 ≤ n) (n1 : n ≤ 4294967295) (x0 : 0 ≤ x) (x1 : x ≤ 4294967295)  (w : World) :
    Calls Try.prog 82 #[.int .i64 n, .agg #[.int .i64 5, .int .i64 k, .int .i64 x]] w fun e w' => e = .returned (.tuple #[.int .i64 (n), .agg #[.int .i64 1, .int .i64 n]]) ∧ Below w.heap.size w w' := by
  go_enter Try.func82, Try.ntmps82
  go_wp2
  try (go_region; all_goals go_wp2)
  all_goals exact bodyPost_ret (v := .tuple #[.int .i64 (n), .agg #[.int .i64 1, .int .i64 n]]) (by simp [results, Try.results82, go_sem]) rfl ⟨rfl, by repeat first | with_reducible exact Below.refl _ _ | with_reducible apply Below.drew | (with_reducible refine Below.alloc ?_ ?g _; case g => (simp <;> omega)) | (with_reducible refine Below.setCell ?_ ?g _; case g => (simp <;> omega))⟩
theorem aDo_look6 (n k x : Int) (n0 : 0 ≤ n) (n1 : n ≤ 4294967295) (x0 : 0 ≤ x) (x1 : x ≤ 4294967295)  (w : World) :
    Calls Try.prog 82 #[.int .i64 n, .agg #[.int .i64 6, .int .i64 k, .int .i64 x]] w fun e w' => e = .returned (.tuple #[.int .i64 (n), .agg #[.int .i64 1, .int .i64 n]]) ∧ Below w.heap.size w w' := by
  go_enter Try.func82, Try.ntmps82
  go_wp2
  try (go_region; all_goals go_wp2)
  all_goals exact bodyPost_ret (v := .tuple #[.int .i64 (n), .agg #[.int .i64 1, .int .i64 n]]) (by simp [results, Try.results82, go_sem]) rfl ⟨rfl, by repeat first | with_reducible exact Below.refl _ _ | with_reducible apply Below.drew | (with_reducible refine Below.alloc ?_ ?g _; case g => (simp <;> omega)) | (with_reducible refine Below.setCell ?_ ?g _; case g => (simp <;> omega))⟩
theorem aDo_wrong (o : Int) (n k x : Int) (n0 : 0 ≤ n) (n1 : n ≤ 4294967295) (x0 : 0 ≤ x) (x1 : x ≤ 4294967295) (m1 : (o == 1) = false) (m2 : (o == 2) = false) (m5 : (o == 5) = false) (m6 : (o == 6) = false) (w : World) :
    Calls Try.prog 82 #[.int .i64 n, .agg #[.int .i64 o, .int .i64 k, .int .i64 x]] w fun e w' => e = .returned (.tuple #[.int .i64 (n), .agg #[.int .i64 5, .int .i64 0]]) ∧ Below w.heap.size w w' := by
  go_enter Try.func82, Try.ntmps82
  go_wp2
  try (go_region; all_goals go_wp2)
  all_goals exact bodyPost_ret (v := .tuple #[.int .i64 (n), .agg #[.int .i64 5, .int .i64 0]]) (by simp [results, Try.results82, go_sem]) rfl ⟨rfl, by repeat first | with_reducible exact Below.refl _ _ | with_reducible apply Below.drew | (with_reducible refine Below.alloc ?_ ?g _; case g => (simp <;> omega)) | (with_reducible refine Below.setCell ?_ ?g _; case g => (simp <;> omega))⟩
theorem aDo_eq {n o k x m c y : Int} (n0 : 0 ≤ n) (n1 : n ≤ 4294967295) (x0 : 0 ≤ x) (x1 : x ≤ 4294967295) (h : ado n o x = (m, c, y)) (w : World) :
    Calls Try.prog 82 #[.int .i64 n, .agg #[.int .i64 o, .int .i64 k, .int .i64 x]] w fun e w' => e = .returned (.tuple #[.int .i64 m, .agg #[.int .i64 c, .int .i64 y]]) ∧ Below w.heap.size w w' := by
  unfold ado at h
  by_cases e1 : o = 1
  · subst e1
    by_cases hf : 4294967295 < n + x
    · simp [hf] at h; obtain ⟨rfl, rfl, rfl⟩ := h; exact aDo_put_full n k x n0 n1 x0 x1 hf w
    · simp [hf] at h; obtain ⟨rfl, rfl, rfl⟩ := h; exact aDo_put n k x n0 n1 x0 x1 (by omega) w
  by_cases e2 : o = 2
  · subst e2
    by_cases hf : n < x
    · simp [hf] at h; obtain ⟨rfl, rfl, rfl⟩ := h; exact aDo_take_none n k x n0 n1 x0 x1 hf w
    · simp [hf] at h; obtain ⟨rfl, rfl, rfl⟩ := h; exact aDo_take n k x n0 n1 x0 x1 (by omega) w
  by_cases e5 : o = 5
  · subst e5
    simp at h; obtain ⟨rfl, rfl, rfl⟩ := h; exact aDo_look5 n k x n0 n1 x0 x1 w
  by_cases e6 : o = 6
  · subst e6
    simp at h; obtain ⟨rfl, rfl, rfl⟩ := h; exact aDo_look6 n k x n0 n1 x0 x1 w
  · simp [e1, e2, e5, e6] at h; obtain ⟨rfl, rfl, rfl⟩ := h
    exact aDo_wrong o n k x n0 n1 x0 x1 (by simp [e1]) (by simp [e2]) (by simp [e5]) (by simp [e6]) w
end Go.Proofs.Ytgkgkiheoadbfaa
namespace Go.Proofs.Ytgkgkiheoadbfaa.Tab
set_option maxRecDepth 20000
open Go.RowKit
set_option linter.unusedVariables false

/-- What every list does: facts of queues, stacks, deques and heaps alike. -/
structure LF (two : Bool) (xs : List Int) (o x : Int) (r : List Int × Int × Int) : Prop where
  len : r.1.length ≤ 6
  val : ∀ z ∈ r.1, 0 ≤ z ∧ z ≤ 4294967295
  code : 1 ≤ r.2.1 ∧ r.2.1 ≤ 5
  told : 0 ≤ r.2.2 ∧ r.2.2 ≤ 4294967295
  zero : r.2.1 ≠ 1 → r.2.2 = 0
  same : (r.2.1 ≠ 1 ∨ o = 5 ∨ o = 6) → r.1 = xs
  less : r.2.1 = 1 → (o = 2 ∨ o = 4) → r.1.length + 1 = xs.length
  more : r.2.1 = 1 → (o = 1 ∨ o = 3) → r.1.length = xs.length + 1
  count : o = 6 → r.2.1 = 1 ∧ r.2.2 = xs.length
  wrong : r.2.1 = 5 ↔ ((o = 3 ∨ o = 4) ∧ two = false)
  take : o = 2 → (r.2.1 = 2 ∧ xs.length = 0) ∨ (r.2.1 = 1 ∧ 0 < xs.length)
  put : o = 1 → (r.2.1 = 3 ∧ xs.length = 6) ∨ (r.2.1 = 1 ∧ xs.length < 6)

theorem qdo_facts {xs : List Int} {o k x : Int} (hl : xs.length ≤ 6) (hv : ∀ z ∈ xs, 0 ≤ z ∧ z ≤ 4294967295) (w1 : 1 ≤ o) (w6 : o ≤ 6) (v0 : 0 ≤ x) (v1 : x ≤ 4294967295) : LF false xs o x (qdo xs o x) := by
  have : o = 1 ∨ o = 2 ∨ o = 3 ∨ o = 4 ∨ o = 5 ∨ o = 6 := by omega
  rcases this with rfl | rfl | rfl | rfl | rfl | rfl
  · by_cases h6 : 6 ≤ xs.length
    · have e : qdo xs 1 x = (xs, 3, 0) := by simp [qdo, h6]
      rw [e]
      constructor <;> first | exact hv | (simp <;> omega)
    · have e : qdo xs 1 x = (xs ++ [x], 1, 0) := by simp [qdo, h6]
      rw [e]
      constructor <;> first | (intro z hz; simp at hz; rcases hz with hz | rfl; exact hv z hz; exact ⟨v0, v1⟩) | (simp <;> omega)
  · cases xs with
    | nil =>
      have e : qdo [] 2 x = ([], 2, 0) := by simp [qdo]
      rw [e]
      constructor <;> simp
    | cons z r =>
      have e : qdo (z :: r) 2 x = (r, 1, z) := by simp [qdo]
      have hz := hv z (by simp)
      simp at hl
      rw [e]
      constructor <;> first | (intro y hy; exact hv y (by simp [hy])) | (simp <;> omega)
  · have e : qdo xs 3 x = (xs, 5, 0) := by simp [qdo]
    rw [e]
    constructor <;> first | exact hv | (simp <;> omega)
  · have e : qdo xs 4 x = (xs, 5, 0) := by simp [qdo]
    rw [e]
    constructor <;> first | exact hv | (simp <;> omega)
  · cases xs with
    | nil =>
      have e : qdo [] 5 x = ([], 2, 0) := by simp [qdo]
      rw [e]
      constructor <;> simp
    | cons z r =>
      have e : qdo (z :: r) 5 x = (z :: r, 1, z) := by simp [qdo]
      have hz := hv z (by simp)
      rw [e]
      constructor <;> first | exact hv | exact hl | (simp <;> omega)
  · have e : qdo xs 6 x = (xs, 1, (xs.length : Int)) := by simp [qdo]
    rw [e]
    constructor <;> first | exact hv | (simp <;> omega)

theorem sdo_facts {xs : List Int} {o k x : Int} (hl : xs.length ≤ 6) (hv : ∀ z ∈ xs, 0 ≤ z ∧ z ≤ 4294967295) (w1 : 1 ≤ o) (w6 : o ≤ 6) (v0 : 0 ≤ x) (v1 : x ≤ 4294967295) : LF false xs o x (sdo xs o x) := by
  rcases List.eq_nil_or_concat xs with rfl | ⟨r, z, rfl⟩
  · rw [sdo_nil]; exact qdo_facts (k := k) hl hv w1 w6 v0 v1
  · rw [List.concat_eq_append] at *
    have hz := hv z (by simp)
    by_cases e2 : o = 2
    · subst e2
      rw [sdo_take]
      simp at hl
      constructor <;> first | (intro y hy; exact hv y (by simp [hy])) | (simp <;> omega)
    by_cases e5 : o = 5
    · subst e5
      rw [sdo_peek]
      constructor <;> first | exact hv | exact hl | (simp <;> omega)
    rw [sdo_other _ _ _ e2 e5]; exact qdo_facts (k := k) hl hv w1 w6 v0 v1

theorem ddo_facts {xs : List Int} {o k x : Int} (hl : xs.length ≤ 6) (hv : ∀ z ∈ xs, 0 ≤ z ∧ z ≤ 4294967295) (w1 : 1 ≤ o) (w6 : o ≤ 6) (v0 : 0 ≤ x) (v1 : x ≤ 4294967295) : LF true xs o x (ddo xs o x) := by
  by_cases e3 : o = 3
  · subst e3
    by_cases h6 : 6 ≤ xs.length
    · have e : ddo xs 3 x = (xs, 3, 0) := by simp [ddo, h6]
      rw [e]
      constructor <;> first | exact hv | (simp <;> omega)
    · have e : ddo xs 3 x = (x :: xs, 1, 0) := by simp [ddo, h6]
      rw [e]
      constructor <;> first | (intro z hz; simp at hz; rcases hz with rfl | hz; exact ⟨v0, v1⟩; exact hv z hz) | (simp <;> omega)
  by_cases e4 : o = 4
  · subst e4
    have e : ddo xs 4 x = sdo xs 2 0 := by simp [ddo]
    rw [e]
    rcases List.eq_nil_or_concat xs with rfl | ⟨r, z, rfl⟩
    · have e : sdo [] 2 0 = ([], 2, 0) := by simp [sdo, qdo]
      rw [e]
      constructor <;> simp
    · rw [List.concat_eq_append] at *
      have hz := hv z (by simp)
      rw [sdo_take]
      simp at hl
      constructor <;> first | (intro y hy; exact hv y (by simp [hy])) | (simp <;> omega)
  have e : ddo xs o x = qdo xs o x := by simp [ddo, e3, e4]
  rw [e]
  have := qdo_facts (k := k) hl hv w1 w6 v0 v1
  exact { this with wrong := by rw [this.wrong]; simp [e3, e4] }

theorem hdo_facts {xs : List Int} {o k x : Int} (hl : xs.length ≤ 6) (hv : ∀ z ∈ xs, 0 ≤ z ∧ z ≤ 4294967295) (hp : Hp xs) (w1 : 1 ≤ o) (w6 : o ≤ 6) (v0 : 0 ≤ x) (v1 : x ≤ 4294967295) : LF false xs o x (hdo xs o x) ∧ Hp (hdo xs o x).1 := by
  by_cases e1 : o = 1
  · subst e1
    by_cases h6 : 6 ≤ xs.length
    · rw [hdo_full x h6]
      refine ⟨?_, hp⟩
      constructor <;> first | exact hv | (simp <;> omega)
    · obtain ⟨ys, e, p, h⟩ := hdo_puts x hp (by omega)
      rw [e]
      refine ⟨?_, h⟩
      have pl := p.length_eq
      simp at pl
      constructor <;> first | (intro z hz; rcases List.mem_append.1 (p.mem_iff.1 hz) with hz | hz; exact hv z hz; (simp at hz; subst hz; exact ⟨v0, v1⟩)) | (simp <;> omega)
  by_cases e2 : o = 2
  · subst e2
    cases xs with
    | nil =>
      rw [hdo_none]
      refine ⟨?_, Hp.nil⟩
      constructor <;> simp
    | cons z r =>
      obtain ⟨ys, e, p, h⟩ := hdo_takes x hp
      rw [e]
      refine ⟨?_, h⟩
      have pl := p.length_eq
      have hz := hv z (by simp)
      simp at hl
      constructor <;> first | (intro y hy; exact hv y (by simp [p.mem_iff.1 hy])) | (simp <;> omega)
  obtain ⟨c, y, e⟩ := hdo_keeps xs o x e1 e2
  refine ⟨?_, by rw [e]; exact hp⟩
  rw [hdo_else _ _ _ e1 e2]; exact qdo_facts (k := k) hl hv w1 w6 v0 v1
/-- What a table does. -/
structure TF (t : Tb) (o k x : Int) (r : Tb × Int × Int) : Prop where
  rt : RT r.1
  code : 1 ≤ r.2.1 ∧ r.2.1 ≤ 5
  told : 0 ≤ r.2.2 ∧ r.2.2 ≤ 4294967295
  zero : r.2.1 ≠ 1 → r.2.2 = 0
  same : (r.2.1 ≠ 1 ∨ o = 5 ∨ o = 6) → r.1 = t
  less : r.2.1 = 1 → (o = 2 ∨ o = 4) → len r.1 + 1 = len t
  more : r.2.1 = 1 → (o = 1 ∨ o = 3) → len r.1 = len t + 1 ∨ len r.1 = len t
  count : o = 6 → r.2.1 = 1 ∧ r.2.2 = len t
  wrong : r.2.1 = 5 ↔ (o ≠ 6 ∧ (o = 3 ∨ o = 4 ∨ k = 0))
theorem tdo_facts {t : Tb} (h : RT t) {o k x : Int} (w1 : 1 ≤ o) (w6 : o ≤ 6) (k0 : 0 ≤ k) (k1 : k ≤ 1000) (v0 : 0 ≤ x) (v1 : x ≤ 4294967295) : TF t o k x (tdo t o k x) := by
  have st := (tdo_stays h (o := o) (k := k) v0 v1).1
  have hr := h.room
  by_cases h6 : o = 6
  · subst h6; rw [tdo_count] at st ⊢
    exact ⟨st, by simp, ⟨by simp, by simp; omega⟩, by simp, by simp, by simp, by simp, by simp, by simp⟩
  by_cases hb : byKey o k
  · obtain ⟨ho, hk1, hk2⟩ := hb
    have hk0 : k ≠ 0 := by omega
    have hp := place_lt t k
    by_cases hh : t.k (place t k) = k
    · have hn : t.k (place t k) ≠ 0 := by rw [hh]; exact hk0
      have hvv := h.vals _ hp
      rcases ho with rfl | rfl | rfl
      · rw [tdo_put x hk1 hk2 (Or.inl hh)] at st ⊢
        have l := len_set t hp k x
        have hi : ind t (place t k) = 1 := by unfold ind; rw [if_neg hn]
        rw [if_neg hk0] at l
        exact ⟨st, by simp, by simp, by simp, by simp, by simp, fun _ _ => Or.inr (by simp only; omega), by simp, by simp [hk0]⟩
      · rw [tdo_take x hk1 hk2 hh] at st ⊢
        obtain ⟨a, -, c⟩ := without_all h hp hn
        exact ⟨st, by simp, hvv, by simp, by simp, fun _ _ => c, by simp, by simp, by simp [hk0]⟩
      · rw [tdo_peek x hk1 hk2, look, if_pos hh]
        exact ⟨h, by simp, hvv, by simp, by simp, by simp, by simp, by simp, by simp [hk0]⟩
    · rcases ho with rfl | rfl | rfl
      · by_cases hl : 6 ≤ len t
        · rw [tdo_full x hk1 hk2 hh hl]
          exact ⟨h, by simp, by simp, by simp, by simp, by simp, by simp, by simp, by simp [hk0]⟩
        · rw [tdo_put x hk1 hk2 (Or.inr (by omega))] at st ⊢
          have l := len_set t hp k x
          have hi := ind_le t (place t k)
          have hf := free_of_place h hh
          have hi : ind t (place t k) = 0 := by unfold ind; rw [if_pos hf]
          rw [if_neg hk0] at l
          exact ⟨st, by simp, by simp, by simp, by simp, by simp, fun _ _ => Or.inl (by simp only; omega), by simp, by simp [hk0]⟩
      · rw [tdo_absent x (Or.inl rfl) hk1 hk2 hh]
        exact ⟨h, by simp, by simp, by simp, by simp, by simp, by simp, by simp, by simp [hk0]⟩
      · rw [tdo_absent x (Or.inr rfl) hk1 hk2 hh]
        exact ⟨h, by simp, by simp, by simp, by simp, by simp, by simp, by simp, by simp [hk0]⟩
  · rw [tdo_wrong t x h6 hb]
    refine ⟨h, by simp, by simp, by simp, by simp, by simp, by simp, fun e => absurd e h6, ?_⟩
    simp only [true_iff]
    refine ⟨h6, ?_⟩
    unfold byKey at hb
    omega
/-- What a tally does. -/
structure AF (n o x : Int) (r : Int × Int × Int) : Prop where
  rt : 0 ≤ r.1 ∧ r.1 ≤ 4294967295
  code : 1 ≤ r.2.1 ∧ r.2.1 ≤ 5
  told : 0 ≤ r.2.2 ∧ r.2.2 ≤ 4294967295
  zero : r.2.1 ≠ 1 → r.2.2 = 0
  same : (r.2.1 ≠ 1 ∨ o = 5 ∨ o = 6) → r.1 = n
  count : o = 6 → r.2.1 = 1 ∧ r.2.2 = n
  wrong : r.2.1 = 5 ↔ (o = 3 ∨ o = 4)
theorem ado_facts {n o x : Int} (n0 : 0 ≤ n) (n1 : n ≤ 4294967295) (w1 : 1 ≤ o) (w6 : o ≤ 6) (v0 : 0 ≤ x) (v1 : x ≤ 4294967295) : AF n o x (ado n o x) := by
  have : o = 1 ∨ o = 2 ∨ o = 3 ∨ o = 4 ∨ o = 5 ∨ o = 6 := by omega
  rcases this with rfl | rfl | rfl | rfl | rfl | rfl
  · by_cases h : 4294967295 < n + x
    · have e : ado n 1 x = (n, 3, 0) := by simp [ado, h]
      rw [e]; constructor <;> (simp <;> omega)
    · have e : ado n 1 x = (n + x, 1, n) := by simp [ado, h]
      rw [e]; constructor <;> (simp <;> omega)
  · by_cases h : n < x
    · have e : ado n 2 x = (n, 2, 0) := by simp [ado, h]
      rw [e]; constructor <;> (simp <;> omega)
    · have e : ado n 2 x = (n - x, 1, n) := by simp [ado, h]
      rw [e]; constructor <;> (simp <;> omega)
  · have e : ado n 3 x = (n, 5, 0) := by simp [ado]
    rw [e]; constructor <;> (simp <;> omega)
  · have e : ado n 4 x = (n, 5, 0) := by simp [ado]
    rw [e]; constructor <;> (simp <;> omega)
  · have e : ado n 5 x = (n, 1, n) := by simp [ado]
    rw [e]; constructor <;> (simp <;> omega)
  · have e : ado n 6 x = (n, 1, n) := by simp [ado]
    rw [e]; constructor <;> (simp <;> omega)

/-- 11.1's Do: what an object is then, as words, and its answer. -/
def ldo (kind : Int) (l : List Int) (o x : Int) : List Int × Int × Int := if kind = 1 then qdo l o x else if kind = 2 then sdo l o x else if kind = 3 then ddo l o x else hdo l o x
def odo (kind : Int) (c : Nat → Nat) (o k x : Int) : (Nat → Nat) × Int × Int :=
  if kind = 5 then (tw (tdo (tbl c) o k x).1, (tdo (tbl c) o k x).2) else if kind = 6 then (tyw (ado (c 0) o x).1, (ado (c 0) o x).2) else (lw (ldo kind (lst c) o x).1, (ldo kind (lst c) o x).2)
/-- How many things there are in an object. -/
def osz (kind : Int) (c : Nat → Nat) : Int := if kind = 5 then (len (tbl c) : Int) else (c 0 : Nat)

theorem WList.congr {c d : Nat → Nat} (h : WList c) (e : ∀ j, j < 17 → d j = c j) : WList d where
  len := by rw [e 0 (by decide)]; exact h.len
  val i h1 h2 := by rw [e 0 (by decide)] at h2; have := h.len; rw [e i (by omega)]; exact h.val i h1 h2
  rest i h1 h2 := by rw [e 0 (by decide)] at h1; rw [e i h2]; exact h.rest i h1 h2
theorem tw_tbl {c : Nat → Nat} (h : upC c 16 1 0 = true) : wl (tw (tbl c)) = wl c := wl_congr fun j hj => by
  unfold tw tbl
  by_cases h16 : j < 16
  · rw [if_pos h16]
    split
    · simp only [Int.toNat_natCast]; congr 1; omega
    · simp only [Int.toNat_natCast]; congr 1; omega
  · rw [if_neg h16]
    have := upC_all h (j := j) (by omega) (by omega)
    omega
theorem tyw_0 {c : Nat → Nat} (h : isTb c = true) : wl (tyw (c 0 : Nat)) = wl c := wl_congr fun j hj => by
  unfold isTb at h
  simp only [Bool.and_eq_true] at h
  unfold tyw
  by_cases e : j = 0
  · subst e; simp
  · rw [if_neg e]
    have := upC_all h.2 (j := j) (by omega) (by omega)
    omega
theorem tbl_tw {t : Tb} (h : RT t) : (tbl (tw t)).k 0 = t.k 0 ∧ ∀ i, i < 8 → (tbl (tw t)).k i = t.k i ∧ (tbl (tw t)).v i = t.v i := by
  have H : ∀ i, i < 8 → (tbl (tw t)).k i = t.k i ∧ (tbl (tw t)).v i = t.v i := fun i hi => by
    have a := h.keys i hi
    have b := h.vals i hi
    have e1 : 2 * i / 2 = i := by omega
    have e2 : (2 * i + 1) / 2 = i := by omega
    have e3 : 2 * i % 2 = 0 := by omega
    have e4 : ¬ (2 * i + 1) % 2 = 0 := by omega
    constructor
    · show ((tw t (2 * i) : Nat) : Int) = t.k i
      unfold tw; rw [if_pos (by omega), if_pos e3, e1]; omega
    · show ((tw t (2 * i + 1) : Nat) : Int) = t.v i
      unfold tw; rw [if_pos (by omega), if_neg e4, e2]; omega
  exact ⟨(H 0 (by decide)).1, H⟩
theorem ind_congr {t u : Tb} {i : Nat} (h : u.k i = t.k i) : ind u i = ind t i := by unfold ind; rw [h]
theorem len_congr {t u : Tb} (h : ∀ i, i < 8 → u.k i = t.k i ∧ u.v i = t.v i) : len u = len t := by
  unfold len
  rw [ind_congr (h 0 (by decide)).1, ind_congr (h 1 (by decide)).1, ind_congr (h 2 (by decide)).1, ind_congr (h 3 (by decide)).1, ind_congr (h 4 (by decide)).1, ind_congr (h 5 (by decide)).1, ind_congr (h 6 (by decide)).1, ind_congr (h 7 (by decide)).1]
theorem RT.congr {t u : Tb} (hr : RT t) (h : ∀ i, i < 8 → u.k i = t.k i ∧ u.v i = t.v i) : RT u where
  keys p hp := by rw [(h p hp).1]; exact hr.keys p hp
  vals p hp := by rw [(h p hp).2]; exact hr.vals p hp
  none p hp := by rw [(h p hp).1, (h p hp).2]; exact hr.none p hp
  row p hp := by
    rw [(h p hp).1]
    intro h0 q hq hd
    have := hr.row p hp h0 q hq hd
    unfold Hit at this ⊢
    rw [(h q hq).1]; exact this
  room := by rw [len_congr h]; exact hr.room
theorem wtab_tw {t : Tb} (h : RT t) : WTab (tw t) := by
  refine ⟨upC_iff.2 fun j hj => ?_, upC_iff.2 fun j hj => ?_, h.congr (tbl_tw h).2⟩
  · have a := h.keys ((0 + j) / 2) (by omega)
    have b := h.vals ((0 + j) / 2) (by omega)
    unfold tw
    rw [if_pos (by omega)]
    split <;> omega
  · unfold tw
    rw [if_neg (by omega)]
    decide
theorem isTb_tyw {n : Int} (h0 : 0 ≤ n) (h1 : n ≤ 4294967295) : isTb (tyw n) = true := by
  unfold isTb
  simp only [Bool.and_eq_true]
  refine ⟨upC_iff.2 fun j hj => ?_, upC_iff.2 fun j hj => ?_⟩
  · obtain rfl : j = 0 := by omega
    unfold tyw; simp; omega
  · unfold tyw; rw [if_neg (by omega)]; decide

/-- What every object does. -/
structure OF (kind : Int) (c : Nat → Nat) (o k x : Int) (r : (Nat → Nat) × Int × Int) : Prop where
  ob : isOb kind r.1
  code : 1 ≤ r.2.1 ∧ r.2.1 ≤ 5
  told : 0 ≤ r.2.2 ∧ r.2.2 ≤ 4294967295
  zero : r.2.1 ≠ 1 → r.2.2 = 0
  same : (r.2.1 ≠ 1 ∨ o = 5 ∨ o = 6) → wl r.1 = wl c
  less : kind ≠ 6 → r.2.1 = 1 → (o = 2 ∨ o = 4) → osz kind r.1 + 1 = osz kind c
  more : kind ≠ 6 → r.2.1 = 1 → (o = 1 ∨ o = 3) → osz kind r.1 = osz kind c + 1 ∨ (kind = 5 ∧ osz kind r.1 = osz kind c)
  count : o = 6 → r.2.1 = 1 ∧ r.2.2 = osz kind c
  wrong : r.2.1 = 5 ↔ (((o = 3 ∨ o = 4) ∧ kind ≠ 3) ∨ (kind = 5 ∧ o ≠ 6 ∧ (o = 3 ∨ o = 4 ∨ k = 0)))
  take : kind ≤ 4 → o = 2 → (r.2.1 = 2 ∧ osz kind c = 0) ∨ (r.2.1 = 1 ∧ 0 < osz kind c)
  put : kind ≤ 4 → o = 1 → (r.2.1 = 3 ∧ osz kind c = 6) ∨ (r.2.1 = 1 ∧ osz kind c < 6)
theorem isOb_kind {kind : Int} {c : Nat → Nat} (h : isOb kind c) : 1 ≤ kind ∧ kind ≤ 6 := by
  rcases h with ⟨h | h | h, _⟩ | ⟨h, _⟩ | ⟨h, _⟩ | ⟨h, _⟩ <;> subst h <;> decide
theorem osz_in {kind : Int} {c : Nat → Nat} (h : isOb kind c) : 0 ≤ osz kind c ∧ (kind ≠ 6 → osz kind c ≤ 6) ∧ osz kind c ≤ 4294967295 := by
  unfold osz
  rcases h with ⟨hk, hl⟩ | ⟨hk, hl, _⟩ | ⟨hk, _, _, hr⟩ | ⟨hk, hl⟩
  · have := (isLb_w hl).len
    rw [if_neg (by omega)]; omega
  · have := (isLb_w hl).len
    rw [if_neg (by omega)]; omega
  · have := hr.room
    rw [if_pos hk]; omega
  · unfold isTb at hl
    simp only [Bool.and_eq_true] at hl
    have := upC_all hl.1 (j := 0) (by omega) (by omega)
    rw [if_neg (by omega)]; omega
theorem ldo_facts {kind : Int} {l : List Int} {o k x : Int} (h1 : 1 ≤ kind) (h4 : kind ≤ 4) (hl : l.length ≤ 6) (hv : ∀ z ∈ l, 0 ≤ z ∧ z ≤ 4294967295) (hp : kind = 4 → Hp l) (w1 : 1 ≤ o) (w6 : o ≤ 6) (v0 : 0 ≤ x) (v1 : x ≤ 4294967295) :
    LF (decide (kind = 3)) l o x (ldo kind l o x) ∧ (kind = 4 → Hp (ldo kind l o x).1) := by
  have : kind = 1 ∨ kind = 2 ∨ kind = 3 ∨ kind = 4 := by omega
  rcases this with rfl | rfl | rfl | rfl
  · exact ⟨qdo_facts (k := k) hl hv w1 w6 v0 v1, by simp⟩
  · exact ⟨sdo_facts (k := k) hl hv w1 w6 v0 v1, by simp⟩
  · exact ⟨ddo_facts (k := k) hl hv w1 w6 v0 v1, by simp⟩
  · have := hdo_facts (k := k) hl hv (hp rfl) w1 w6 v0 v1
    exact ⟨this.1, fun _ => this.2⟩
theorem isOb_list {kind : Int} {c : Nat → Nat} (h4 : kind ≤ 4) (h : isOb kind c) : isLb c = true ∧ (kind = 4 → Hp (lst c)) := by
  rcases h with ⟨hk, hl⟩ | ⟨hk, hl, hp⟩ | ⟨hk, _⟩ | ⟨hk, _⟩
  · exact ⟨hl, by omega⟩
  · exact ⟨hl, fun _ => hp⟩
  · omega
  · omega
theorem isOb_ofList {kind : Int} {l : List Int} (h1 : 1 ≤ kind) (h4 : kind ≤ 4) (hl : l.length ≤ 6) (hv : ∀ z ∈ l, 0 ≤ z ∧ z ≤ 4294967295) (hp : kind = 4 → Hp l) : isOb kind (lw l) := by
  have := isLb_of (lw_in hl hv)
  by_cases e : kind = 4
  · exact Or.inr (Or.inl ⟨e, this, by rw [lst_lw hv]; exact hp e⟩)
  · exact Or.inl ⟨by omega, this⟩
theorem odo_facts {kind : Int} {c : Nat → Nat} {o k x : Int} (h : isOb kind c) (w1 : 1 ≤ o) (w6 : o ≤ 6) (k0 : 0 ≤ k) (k1 : k ≤ 1000) (v0 : 0 ≤ x) (v1 : x ≤ 4294967295) : OF kind c o k x (odo kind c o k x) := by
  obtain ⟨b1, b6⟩ := isOb_kind h
  by_cases e5 : kind = 5
  · subst e5
    obtain ⟨h1, h2, h3⟩ : WTab c := by
      rcases h with ⟨hk, _⟩ | ⟨hk, _⟩ | ⟨_, h⟩ | ⟨hk, _⟩ <;> first | exact h | omega
    have f := tdo_facts h3 w1 w6 k0 k1 v0 v1
    have e : odo 5 c o k x = (tw (tdo (tbl c) o k x).1, (tdo (tbl c) o k x).2) := by rw [odo, if_pos rfl]
    rw [e]
    have hs : ∀ d, osz 5 d = (len (tbl d) : Int) := fun d => by rw [osz, if_pos rfl]
    have hl := len_congr (tbl_tw f.rt).2
    refine ⟨Or.inr (Or.inr (Or.inl ⟨rfl, wtab_tw f.rt⟩)), f.code, f.told, f.zero, fun hh => ?_, fun _ a b => ?_, fun _ a b => ?_, fun a => ?_, ?_, fun a => absurd a (by decide), fun a => absurd a (by decide)⟩
    · show wl (tw (tdo (tbl c) o k x).1) = wl c
      rw [f.same hh]; exact tw_tbl h2
    · rw [hs, hs]; show ((len (tbl (tw (tdo (tbl c) o k x).1)) : Nat) : Int) + 1 = _; rw [hl]; have := f.less a b; omega
    · rw [hs, hs]; show ((len (tbl (tw (tdo (tbl c) o k x).1)) : Nat) : Int) = _ ∨ (_ ∧ ((len (tbl (tw (tdo (tbl c) o k x).1)) : Nat) : Int) = _); rw [hl]; have := f.more a b; omega
    · rw [hs]; exact f.count a
    · have := f.wrong; show (tdo (tbl c) o k x).2.1 = 5 ↔ _; rw [this]; omega
  by_cases e6 : kind = 6
  · subst e6
    have h1 : isTb c = true := by
      rcases h with ⟨hk, _⟩ | ⟨hk, _⟩ | ⟨hk, _⟩ | ⟨_, h⟩ <;> first | exact h | omega
    have hc : 0 ≤ ((c 0 : Nat) : Int) ∧ ((c 0 : Nat) : Int) ≤ 4294967295 := by
      unfold isTb at h1
      simp only [Bool.and_eq_true] at h1
      have := upC_all h1.1 (j := 0) (by omega) (by omega)
      omega
    have f := ado_facts hc.1 hc.2 w1 w6 v0 v1
    have e : odo 6 c o k x = (tyw (ado (c 0) o x).1, (ado (c 0) o x).2) := by rw [odo, if_neg (by decide), if_pos rfl]
    rw [e]
    refine ⟨Or.inr (Or.inr (Or.inr ⟨rfl, isTb_tyw f.rt.1 f.rt.2⟩)), f.code, f.told, f.zero, fun hh => ?_, fun a => absurd rfl a, fun a => absurd rfl a, fun a => ?_, ?_, fun a => absurd a (by decide), fun a => absurd a (by decide)⟩
    · show wl (tyw (ado (c 0) o x).1) = wl c
      rw [f.same hh]; exact tyw_0 h1
    · rw [osz, if_neg (by decide)]; exact f.count a
    · have := f.wrong; show (ado (c 0) o x).2.1 = 5 ↔ _; rw [this]; omega
  have h4 : kind ≤ 4 := by omega
  obtain ⟨hb, hp⟩ := isOb_list h4 h
  have hw := isLb_w hb
  obtain ⟨f, g⟩ := ldo_facts (k := k) b1 h4 (by rw [lst_length]; exact hw.len) (lst_val hw) hp w1 w6 v0 v1
  have e : odo kind c o k x = (lw (ldo kind (lst c) o x).1, (ldo kind (lst c) o x).2) := by rw [odo, if_neg e5, if_neg e6]
  rw [e]
  have hs : osz kind c = (lst c).length := by rw [osz, if_neg e5, lst_length]
  have hs2 : ∀ l : List Int, osz kind (lw l) = l.length := fun l => by rw [osz, if_neg e5]; simp [lw]
  refine ⟨isOb_ofList b1 h4 f.len f.val g, f.code, f.told, f.zero, fun hh => ?_, fun _ a b => ?_, fun _ a b => ?_, fun a => ?_, ?_, fun _ a => ?_, fun _ a => ?_⟩
  · show wl (lw (ldo kind (lst c) o x).1) = wl c
    rw [f.same hh]; exact wl_congr (lw_lst hw)
  · show osz kind (lw (ldo kind (lst c) o x).1) + 1 = _; rw [hs, hs2]; have := f.less a b; omega
  · show osz kind (lw (ldo kind (lst c) o x).1) = _ ∨ _; rw [hs, hs2]; have := f.more a b; omega
  · rw [hs]; exact f.count a
  · show (ldo kind (lst c) o x).2.1 = 5 ↔ _; rw [f.wrong]; simp; omega
  · rw [hs]; have := f.take a; show ((ldo kind (lst c) o x).2.1 = 2 ∧ _) ∨ ((ldo kind (lst c) o x).2.1 = 1 ∧ _); omega
  · rw [hs]; have := f.put a; show ((ldo kind (lst c) o x).2.1 = 3 ∧ _) ∨ ((ldo kind (lst c) o x).2.1 = 1 ∧ _); omega
theorem isOb_zero {kind : Int} (h1 : 1 ≤ kind) (h6 : kind ≤ 6) : isOb kind wz := by
  by_cases h4 : kind ≤ 4
  · have : isLb wz = true := by decide
    by_cases e : kind = 4
    · exact Or.inr (Or.inl ⟨e, this, Hp.nil⟩)
    · exact Or.inl ⟨by omega, this⟩
  by_cases e5 : kind = 5
  · exact Or.inr (Or.inr (Or.inl ⟨e5, by decide, by decide, RT.zero⟩))
  · exact Or.inr (Or.inr (Or.inr ⟨by omega, by decide⟩))
end Go.Proofs.Ytgkgkiheoadbfaa.Tab
namespace Go.Proofs.Ytgkgkiheoadbfaa.Tab
set_option maxRecDepth 20000
open Go.RowKit
set_option linter.unusedVariables false

/-- What words are a record: 12.2. -/
abbrev aR1 (r : Nat → Nat) (t : Nat) : Prop := (r (18 + t) = 0 ↔ r (22 + t) = 0) ∧ (r (18 + t) = 0 ∨ Aw (r (18 + t)))
abbrev nR1 (r : Nat → Nat) (t : Nat) : Prop := r (22 + t) ≤ r 28 ∧ ∀ o, o < t → r (22 + t) = 0 ∨ r (22 + t) ≠ r (22 + o)
abbrev zR (r : Nat → Nat) : Prop := ∀ j, j < 3 → r (29 + j) = 0
abbrev tR (r : Nat → Nat) : Prop := r 26 < 16 ∧ r 27 ≤ 1099511627776 ∧ r 28 ≤ 1099511627776
abbrev aR (r : Nat → Nat) : Prop := ∀ t, t < 4 → aR1 r t
abbrev nR (r : Nat → Nat) : Prop := ∀ t, t < 4 → nR1 r t
def isRec (r : Nat → Nat) : Prop := isOb (r 0 : Nat) (ob r) ∧ aR r ∧ nR r ∧ zR r ∧ tR r
/-- Done. -/
def rdo (r : Nat → Nat) (t : Nat) (o k x : Int) : Nat → Nat := fun j =>
  if j = 26 then r 26 ^^^ 2 ^ t else if j = 28 ∨ j = 22 + t then r 28 + 1 else if j = 18 + t then ansN (odo (r 0 : Nat) (ob r) o k x).2.1.toNat (odo (r 0 : Nat) (ob r) o k x).2.2.toNat
  else if 1 ≤ j ∧ j < 18 then (odo (r 0 : Nat) (ob r) o k x).1 (j - 1) else r j

theorem lst_congr {c d : Nat → Nat} (h : WList c) (e : ∀ j, j < 17 → d j = c j) : lst d = lst c := by
  unfold lst
  rw [e 0 (by decide)]
  refine List.map_congr_left fun i hi => ?_
  have h1 : i < c 0 := by simpa using hi
  have := h.len
  rw [e (i + 1) (by omega)]
theorem upC_congr {c d : Nat → Nat} {off n : Nat} {m : Int} (e : ∀ j, j < 17 → d j = c j) (hn : off + n ≤ 17) (h : upC c off n m = true) : upC d off n m = true :=
  upC_iff.2 fun j hj => by rw [e (off + j) (by omega)]; exact upC_iff.1 h j hj
theorem isOb_congr {k : Int} {c d : Nat → Nat} (e : ∀ j, j < 17 → d j = c j) (h : isOb k c) : isOb k d := by
  rcases h with ⟨hk, hl⟩ | ⟨hk, hl, hp⟩ | ⟨hk, h1, h2, h3⟩ | ⟨hk, hl⟩
  · exact Or.inl ⟨hk, isLb_of ((isLb_w hl).congr e)⟩
  · exact Or.inr (Or.inl ⟨hk, isLb_of ((isLb_w hl).congr e), by rw [lst_congr (isLb_w hl) e]; exact hp⟩)
  · refine Or.inr (Or.inr (Or.inl ⟨hk, upC_congr e (by decide) h1, upC_congr e (by decide) h2, h3.congr fun i hi => ?_⟩))
    unfold tbl
    exact ⟨by show ((d (2 * i) : Nat) : Int) = _; rw [e (2 * i) (by omega)], by show ((d (2 * i + 1) : Nat) : Int) = _; rw [e (2 * i + 1) (by omega)]⟩
  · refine Or.inr (Or.inr (Or.inr ⟨hk, ?_⟩))
    unfold isTb at hl ⊢
    simp only [Bool.and_eq_true] at hl ⊢
    exact ⟨upC_congr e (by decide) hl.1, upC_congr e (by decide) hl.2⟩
theorem isOb_zero' {k : Int} (h1 : 1 ≤ k) (h6 : k ≤ 6) {c : Nat → Nat} (h : ∀ j, j < 17 → c j = 0) : isOb k c := isOb_congr (c := wz) h (isOb_zero h1 h6)

theorem newR_rec {k : Nat} (h1 : 1 ≤ k) (h6 : k ≤ 6) : isRec (newR k) := by
  have e : ∀ j, 0 < j → newR k j = 0 := fun j hj => by unfold newR; rw [if_neg (by omega)]
  refine ⟨isOb_zero' (by show (1 : Int) ≤ ((newR k 0 : Nat) : Int); unfold newR; rw [if_pos rfl]; omega) (by show ((newR k 0 : Nat) : Int) ≤ 6; unfold newR; rw [if_pos rfl]; omega) fun j _ => e _ (by omega), fun t ht => ⟨?_, Or.inl (e _ (by omega))⟩, fun t ht => ⟨?_, fun o ho => Or.inl (e _ (by omega))⟩, fun j hj => e _ (by omega), ?_⟩
  · rw [e _ (by omega), e _ (by omega)]
  · rw [e _ (by omega)]; exact Nat.zero_le _
  · refine ⟨?_, ?_, ?_⟩ <;> rw [e _ (by decide)] <;> decide
theorem xor_four {a t : Nat} (ha : a < 16) (ht : t < 4) : a ^^^ 2 ^ t < 16 := by
  have h1 : 2 ^ t < 2 ^ 4 := Nat.pow_lt_pow_right (by decide) ht
  exact Nat.xor_lt_two_pow (n := 4) ha h1
section
variable {r : Nat → Nat} {t : Nat} {o k x : Int}
theorem rdo_0 (ht : t < 4) : rdo r t o k x 0 = r 0 := by unfold rdo; rw [if_neg (by decide), if_neg (by omega), if_neg (by omega), if_neg (by decide)]
theorem rdo_ob (ht : t < 4) : ∀ j, j < 17 → ob (rdo r t o k x) j = (odo (r 0 : Nat) (ob r) o k x).1 j := fun j hj => by
  unfold ob rdo; rw [if_neg (by omega), if_neg (by omega), if_neg (by omega), if_pos (by omega), show 1 + j - 1 = j by omega]; rfl
theorem rdo_26 : rdo r t o k x 26 = r 26 ^^^ 2 ^ t := by unfold rdo; rw [if_pos rfl]
theorem rdo_27 (ht : t < 4) : rdo r t o k x 27 = r 27 := by unfold rdo; rw [if_neg (by decide), if_neg (by omega), if_neg (by omega), if_neg (by decide)]
theorem rdo_28 : rdo r t o k x 28 = r 28 + 1 := by unfold rdo; rw [if_neg (by decide), if_pos (Or.inl rfl)]
theorem rdo_w : t < 4 → rdo r t o k x (22 + t) = r 28 + 1 := fun ht => by unfold rdo; rw [if_neg (by omega), if_pos (Or.inr rfl)]
theorem rdo_a : t < 4 → rdo r t o k x (18 + t) = ansN (odo (r 0 : Nat) (ob r) o k x).2.1.toNat (odo (r 0 : Nat) (ob r) o k x).2.2.toNat := fun ht => by unfold rdo; rw [if_neg (by omega), if_neg (by omega), if_pos rfl]
theorem rdo_w' {s : Nat} (hs : s < 4) (ht : t < 4) (hne : s ≠ t) : rdo r t o k x (22 + s) = r (22 + s) := by unfold rdo; rw [if_neg (by omega), if_neg (by omega), if_neg (by omega), if_neg (by omega)]
theorem rdo_a' {s : Nat} (hs : s < 4) (ht : t < 4) (hne : s ≠ t) : rdo r t o k x (18 + s) = r (18 + s) := by unfold rdo; rw [if_neg (by omega), if_neg (by omega), if_neg (by omega), if_neg (by omega)]
theorem rdo_z {j : Nat} (ht : t < 4) (hj : j < 3) : rdo r t o k x (29 + j) = r (29 + j) := by unfold rdo; rw [if_neg (by omega), if_neg (by omega), if_neg (by omega), if_neg (by omega)]
theorem odo_ft (hO : isOb (r 0 : Nat) (ob r)) (hR : Rt o k x) : Ft ((odo (r 0 : Nat) (ob r) o k x).2.1.toNat : Nat) ((odo (r 0 : Nat) (ob r) o k x).2.2.toNat : Nat) := by
  have f := odo_facts hO hR.w1 hR.w6 hR.k0 hR.k1 hR.v0 hR.v1
  have h1 := f.code; have h2 := f.told; have h3 := f.zero
  refine ⟨by omega, by omega, by omega, by omega, ?_⟩
  by_cases e : (odo (r 0 : Nat) (ob r) o k x).2.1 = 1
  · exact Or.inl (by omega)
  · exact Or.inr (by have := h3 e; omega)
theorem rdo_rec (h : isRec r) (hR : Rt o k x) (ht : t < 4) (hc : r 28 < 1099511627776) : isRec (rdo r t o k x) := by
  obtain ⟨hO, hA, hN, hZ, hT⟩ := h
  have f := odo_facts hO hR.w1 hR.w6 hR.k0 hR.k1 hR.v0 hR.v1
  have ft := odo_ft hO hR
  refine ⟨?_, fun s hs => ?_, fun s hs => ?_, fun j hj => ?_, ?_⟩
  · rw [rdo_0 ht]; exact isOb_congr (rdo_ob ht) f.ob
  · by_cases e : s = t
    · subst e
      unfold aR1
      rw [rdo_a hs, rdo_w hs]
      exact ⟨⟨fun h => absurd h (ansN_pos ft), fun h => by omega⟩, Or.inr (aw_ans ft)⟩
    · unfold aR1
      rw [rdo_a' hs ht e, rdo_w' hs ht e]; exact hA s hs
  · unfold nR1
    rw [rdo_28]
    by_cases e : s = t
    · subst e
      rw [rdo_w hs]
      refine ⟨Nat.le_refl _, fun o2 ho => Or.inr ?_⟩
      rw [rdo_w' (by omega) ht (by omega)]
      have := (hN o2 (by omega)).1
      omega
    · rw [rdo_w' hs ht e]
      have hs1 := hN s hs
      refine ⟨by omega, fun o2 ho => ?_⟩
      by_cases e2 : o2 = t
      · subst e2
        rw [rdo_w (by omega)]; omega
      · rw [rdo_w' (by omega) ht e2]; exact hs1.2 o2 ho
  · rw [rdo_z ht hj]; exact hZ j hj
  · unfold tR
    rw [rdo_26, rdo_27 ht, rdo_28]
    exact ⟨xor_four hT.1 ht, hT.2.1, by omega⟩
end
theorem isRec.ob1 {r : Nat → Nat} (h : isRec r) : 1 ≤ ((r 0 : Nat) : Int) ∧ ((r 0 : Nat) : Int) ≤ 6 := isOb_kind h.1
end Go.Proofs.Ytgkgkiheoadbfaa.Tab
namespace Go.Proofs.Ytgkgkiheoadbfaa.Tab
set_option maxRecDepth 20000
open Go.RowKit
set_option linter.unusedVariables false

theorem rwO (o k x : Int) : Rw Try.prog 54 [.int .i64 o, .int .i64 k, .int .i64 x] := ⟨⟨_, Try.underlying54, rfl⟩, by kernel_rfl, by intro v hv; simp at hv; rcases hv with rfl | rfl | rfl <;> rfl⟩
set_option maxHeartbeats 2000000 in
theorem recKind_is (r : Nat → Nat) {q : Nat} (hq : q = min (r 0) 4294967296) (w : World) :
    Calls Try.prog 7 #[.agg (rl r).toArray] w (fun e w' => e = .returned (.int .i64 (q : Nat)) ∧ Below w.heap.size w w') := by
  have e1 : min ((r 0 : Nat) : Int) 4294967296 = (q : Int) := by omega
  have e2 : (if (4294967296 : Int) < ((r 0 : Nat) : Int) then (4294967296 : Int) else ((r 0 : Nat) : Int)) = (q : Int) := by split <;> omega
  have e3 : wrap64 (q : Int) = q := by unfold wrap64; omega
  have hM : Hid _ := ((Ms.nil w).born (rl r) 24 (b := w.heap.size) rfl)
  have x1 := (hM.out.at 0 rfl).rword (show 0 < 32 by decide)
  clear hq
  go_enter Try.func7, Try.ntmps7
  go_wp2
  go_ret
  exact ⟨ret_int (by omega), hM.out.below⟩
set_option maxHeartbeats 4000000 in
theorem recObject_is (r : Nat → Nat) (w : World) :
    Calls Try.prog 8 #[.agg (rl r).toArray] w (fun e w' => e = .returned (.agg (wl (ob r)).toArray) ∧ Below w.heap.size w w') := by
  have hM : Hid _ := ((((Ms.nil w).born (rl r) 24 (b := w.heap.size) rfl).bornR wz_all.symm 28 (b := w.heap.size + 1) (by simp)).bornR wz_all.symm 28 (b := w.heap.size + 2) (by simp))
  go_enter Try.func8, Try.ntmps8
  go_wp2_with fail
  generalize World.alloc _ _ = W at hM ⊢
  generalize hsz : w.heap.size = n at hM ⊢
  clear hsz
  replace hM := hid (hM.out.drew)
  refine wp_region_held_drew (S := fun w' => Bo w' n (rl r)) (by kernel_rfl) (hM.out.at 2 rfl) (fun hH => ?_)
  generalize World.drew _ = W at hM hH  ⊢
  refine tk 0 rfl hH ?_
  simp only [Act.put, p1, p2, p3]
  refine tk 1 rfl hH ?_
  simp only [Act.put, p1, p2, p3]
  refine rd1 2 rfl (fun K hK => ?_)
  refine cpR rfl Try.underlying31 sz_u (vs := wl (ob r)) (dLen := 17) (sLen := 31) (by rw [wl_length]; rfl) ((hM.out.at 2 rfl).objCells) ((hM.out.at 0 rfl).thereL (by rw [wl_length, wl_length])) (wl_one _) ?_
  replace hM := hid (hM.out.put 0 rfl (wl (ob r)) (by rw [wl_length, wl_length]))
  refine hK.out _ _ (hM.out.at 2 rfl) (fun hH => ?_)
  clear hK K
  generalize World.setCells _ _ _ _ = W at hM hH ⊢
  try simp only [Act.put, p1, p2, p3]
  refine wpAnyH_done (by kernel_rfl) ?_ _
  go_wp2_with (first
    | (refine lR rfl (hM.out.at 0 rfl) rfl (rwC (ob r)) ?_)
    | (refine sR rfl (hM.out.at 1 rfl) rfl ((rwC wz).len (rwC (ob r))) (rwC (ob r)) ?_
       replace hM := hid (hM.out.put 1 rfl (wl (ob r)) ((rwC wz).len (rwC (ob r))))
       generalize World.setCells _ _ _ _ = W at hM ⊢))
  exact bodyPost_ret (res1 Try.results8 (hM.out.at 1 rfl) (rwC (ob r))) rfl ⟨rfl, hM.out.below⟩
end Go.Proofs.Ytgkgkiheoadbfaa.Tab
namespace Go.Proofs.Ytgkgkiheoadbfaa.Tab
set_option maxRecDepth 20000
open Go.RowKit
set_option linter.unusedVariables false

set_option maxHeartbeats 4000000 in
theorem answersRight_is {r : Nat → Nat} (U : ∀ j, j < 32 → r j < 18446744073709551616) {v : Bool} (hv : v = true ↔ aR r) (w : World) :
    Calls Try.prog 28 #[.agg (rl r).toArray] w (fun e w' => e = .returned (.bool v) ∧ Below w.heap.size w w') := by
  have HV : Hid _ := hv
  have HU : Hid _ := U
  clear hv U
  have hM : Hid _ := ((Ms.nil w).born (rl r) 24 (b := w.heap.size) rfl)
  go_enter Try.func28, Try.ntmps28
  go_wp2_with fail
  generalize World.alloc _ _ = W at hM ⊢
  generalize hsz : w.heap.size = n at hM ⊢
  clear hsz
  go_loopg [8] 4 (fun gg s8 wt => ∃ i : Nat, i ≤ 4 ∧ 4 - i ≤ gg ∧ s8 = .int .i64 i ∧ Hid (Ms n w wt [(n, rl r)] []) ∧ Hid (∀ t, t < i → aR1 r t))
  case atStart => exact ⟨0, by omega, by omega, rfl, hM, fun t ht => absurd ht (by omega)⟩
  case round =>
    clear hM
    obtain ⟨i, hi, hgg, rfl, hM, A⟩ := hrel
    obtain ⟨W, rfl⟩ : ∃ q, q = wr := ⟨_, rfl⟩
    by_cases hlt : i < 4
    · have fa0 : (0 : Int) ≤ 18 + (i : Int) := by omega
      have fa1 : 18 + (i : Int) < 32 := by omega
      have fa2 : IntKind.i64.wrap (18 + (i : Int)) = 18 + i := by rw [IntKind.wrap_i64]; omega
      have fa3 : wrap64 (18 + (i : Int)) = 18 + i := by unfold wrap64; omega
      have fa4 : (18 + (i : Int)).toNat = 18 + i := by omega
      have fb0 : (0 : Int) ≤ 22 + (i : Int) := by omega
      have fb1 : 22 + (i : Int) < 32 := by omega
      have fb2 : IntKind.i64.wrap (22 + (i : Int)) = 22 + i := by rw [IntKind.wrap_i64]; omega
      have fb3 : wrap64 (22 + (i : Int)) = 22 + i := by unfold wrap64; omega
      have fb4 : (22 + (i : Int)).toNat = 22 + i := by omega
      have hi1 : (i : Int) < 4 := by omega
      obtain ⟨x, hx⟩ : ∃ x, r (18 + i) = x := ⟨_, rfl⟩
      obtain ⟨y, hy⟩ : ∃ y, r (22 + i) = y := ⟨_, rfl⟩
      have HX : Hid _ := hx
      have HY : Hid _ := hy
      have x64 : x < 18446744073709551616 := hx ▸ HU.out _ (by omega)
      clear hx hy
      by_cases hx0 : x = 0
      · subst hx0
        by_cases hy0 : y = 0
        · subst hy0
          have A1 : Hid (aR1 r i) := ⟨by rw [HX.out, HY.out], Or.inl HX.out⟩
          go_wp2_with fail
          replace hM := hid (hM.out.drew)
          refine wp_region_held_drew (S := fun w' => Bo w' n (rl r)) (by kernel_rfl) (hM.out.at 0 rfl) (fun hH => ?_)
          generalize World.drew _ = W at hM hH  ⊢
          refine tk 0 rfl hH ?_
          simp only [Act.put, p1, p2, p3]
          refine tk 1 rfl hH ?_
          simp only [Act.put, p1, p2, p3]
          refine tk 2 rfl hH ?_
          simp only [Act.put, p1, p2, p3]
          refine tk 3 rfl hH ?_ (by intro w h; have c0 := h.rwordx (show 18 + i < 32 by omega) HX.out; clear h; go_simp; try with_reducible rfl)
          simp only [Act.put, p1, p2, p3]
          refine tk 4 rfl hH ?_
          simp only [Act.put, p1, p2, p3]
          refine tk 5 rfl hH ?_
          simp only [Act.put, p1, p2, p3]
          refine tk 6 rfl hH ?_
          simp only [Act.put, p1, p2, p3]
          refine tk 7 rfl hH ?_ (by intro w h; have c0 := h.rwordx (show 22 + i < 32 by omega) HY.out; clear h; go_simp; try with_reducible rfl)
          simp only [Act.put, p1, p2, p3]
          refine tk 8 rfl hH ?_
          simp only [Act.put, p1, p2, p3]
          refine tk 9 rfl hH ?_
          simp only [Act.put, p1, p2, p3]
          refine wpAnyH_done (by kernel_rfl) ?_ _
          go_wp2_with fail
          refine (told_no (x := 0) (by decide) aw_zero _).mono ?_
          rintro e W ⟨rfl, hb⟩
          replace hM := hid (hM.out.later hb)
          clear hb
          obtain ⟨bq0, hq0⟩ : ∃ q, q = W.heap.size := ⟨_, rfl⟩
          replace hM := hid (hM.out.born [.int .i64 0, .int .i64 0] 42 hq0)
          have HQ : Hid _ := hq0
          clear hq0
          go_wp2_with (first
            | (rw [← HQ.out]; refine sR rfl (hM.out.at 0 rfl) rfl ((rwA 0 0).len (rwA _ _)) (rwA _ _) ?_
               replace hM := hid (hM.out.put 0 rfl [.int .i64 0, .int .i64 0] ((rwA 0 0).len (rwA _ _)))
               generalize World.setCells _ _ _ _ = W at hM ⊢))
          go_roundg (4 - (i + 1))
          case measure => omega
          case rel => exact ⟨i + 1, by omega, by omega, by go_num, hM.out.pick [1], fun t ht => by by_cases e : t = i; (subst e; exact A1.out); exact A.out t (by omega)⟩
        · have fy : ((y : Nat) : Int) ≠ 0 := by omega
          have gy : (((y : Nat) : Int) == 0) = false := by simpa using hy0
          have E : Hid (v = false) := by cases v with | false => rfl | true => exact absurd (HV.out.1 rfl) (fun h => hy0 (by have := (h i hlt).1.1 HX.out; rw [HY.out] at this; exact this))
          go_wp2_with fail
          replace hM := hid (hM.out.drew)
          refine wp_region_held_drew (S := fun w' => Bo w' n (rl r)) (by kernel_rfl) (hM.out.at 0 rfl) (fun hH => ?_)
          generalize World.drew _ = W at hM hH  ⊢
          refine tk 0 rfl hH ?_
          simp only [Act.put, p1, p2, p3]
          refine tk 1 rfl hH ?_
          simp only [Act.put, p1, p2, p3]
          refine tk 2 rfl hH ?_
          simp only [Act.put, p1, p2, p3]
          refine tk 3 rfl hH ?_ (by intro w h; have c0 := h.rwordx (show 18 + i < 32 by omega) HX.out; clear h; go_simp; try with_reducible rfl)
          simp only [Act.put, p1, p2, p3]
          refine tk 4 rfl hH ?_
          simp only [Act.put, p1, p2, p3]
          refine tk 5 rfl hH ?_
          simp only [Act.put, p1, p2, p3]
          refine tk 6 rfl hH ?_
          simp only [Act.put, p1, p2, p3]
          refine tk 7 rfl hH ?_ (by intro w h; have c0 := h.rwordx (show 22 + i < 32 by omega) HY.out; clear h; go_simp; try with_reducible rfl)
          simp only [Act.put, p1, p2, p3]
          refine tk 8 rfl hH ?_
          simp only [Act.put, p1, p2, p3]
          refine tk 9 rfl hH ?_
          simp only [Act.put, p1, p2, p3]
          refine wpAnyH_done (by kernel_rfl) ?_ _
          go_wp2
          go_ret
          exact ⟨ret_bool E.out.symm, hM.out.below⟩
      · have fx : ((x : Nat) : Int) ≠ 0 := by omega
        have gx : (((x : Nat) : Int) == 0) = false := by simpa using hx0
        by_cases hy0 : y = 0
        · subst hy0
          have E : Hid (v = false) := by cases v with | false => rfl | true => exact absurd (HV.out.1 rfl) (fun h => hx0 (by have := (h i hlt).1.2 HY.out; rw [HX.out] at this; exact this))
          go_wp2_with fail
          replace hM := hid (hM.out.drew)
          refine wp_region_held_drew (S := fun w' => Bo w' n (rl r)) (by kernel_rfl) (hM.out.at 0 rfl) (fun hH => ?_)
          generalize World.drew _ = W at hM hH  ⊢
          refine tk 0 rfl hH ?_
          simp only [Act.put, p1, p2, p3]
          refine tk 1 rfl hH ?_
          simp only [Act.put, p1, p2, p3]
          refine tk 2 rfl hH ?_
          simp only [Act.put, p1, p2, p3]
          refine tk 3 rfl hH ?_ (by intro w h; have c0 := h.rwordx (show 18 + i < 32 by omega) HX.out; clear h; go_simp; try with_reducible rfl)
          simp only [Act.put, p1, p2, p3]
          refine tk 4 rfl hH ?_
          simp only [Act.put, p1, p2, p3]
          refine tk 5 rfl hH ?_
          simp only [Act.put, p1, p2, p3]
          refine tk 6 rfl hH ?_
          simp only [Act.put, p1, p2, p3]
          refine tk 7 rfl hH ?_ (by intro w h; have c0 := h.rwordx (show 22 + i < 32 by omega) HY.out; clear h; go_simp; try with_reducible rfl)
          simp only [Act.put, p1, p2, p3]
          refine tk 8 rfl hH ?_
          simp only [Act.put, p1, p2, p3]
          refine tk 9 rfl hH ?_
          simp only [Act.put, p1, p2, p3]
          refine wpAnyH_done (by kernel_rfl) ?_ _
          go_wp2
          go_ret
          exact ⟨ret_bool E.out.symm, hM.out.below⟩
        · have fy : ((y : Nat) : Int) ≠ 0 := by omega
          have gy : (((y : Nat) : Int) == 0) = false := by simpa using hy0
          by_cases ha : Aw x
          · have A1 : Hid (aR1 r i) := ⟨by rw [HX.out, HY.out]; exact ⟨fun h => absurd h hx0, fun h => absurd h hy0⟩, Or.inr (by rw [HX.out]; exact ha)⟩
            have TY : Hid (∀ w : World, _) := fun w => told_yes x64 ha w
            clear ha
            generalize x / 4294967296 = xa at *
            generalize x % 4294967296 = xb at *
            go_wp2_with fail
            replace hM := hid (hM.out.drew)
            refine wp_region_held_drew (S := fun w' => Bo w' n (rl r)) (by kernel_rfl) (hM.out.at 0 rfl) (fun hH => ?_)
            generalize World.drew _ = W at hM hH  ⊢
            refine tk 0 rfl hH ?_
            simp only [Act.put, p1, p2, p3]
            refine tk 1 rfl hH ?_
            simp only [Act.put, p1, p2, p3]
            refine tk 2 rfl hH ?_
            simp only [Act.put, p1, p2, p3]
            refine tk 3 rfl hH ?_ (by intro w h; have c0 := h.rwordx (show 18 + i < 32 by omega) HX.out; clear h; go_simp; try with_reducible rfl)
            simp only [Act.put, p1, p2, p3]
            refine tk 4 rfl hH ?_
            simp only [Act.put, p1, p2, p3]
            refine tk 5 rfl hH ?_
            simp only [Act.put, p1, p2, p3]
            refine tk 6 rfl hH ?_
            simp only [Act.put, p1, p2, p3]
            refine tk 7 rfl hH ?_ (by intro w h; have c0 := h.rwordx (show 22 + i < 32 by omega) HY.out; clear h; go_simp; try with_reducible rfl)
            simp only [Act.put, p1, p2, p3]
            refine tk 8 rfl hH ?_
            simp only [Act.put, p1, p2, p3]
            refine tk 9 rfl hH ?_
            simp only [Act.put, p1, p2, p3]
            refine wpAnyH_done (by kernel_rfl) ?_ _
            go_wp2_with fail
            refine (TY.out _).mono ?_
            rintro e W ⟨rfl, hb⟩
            replace hM := hid (hM.out.later hb)
            clear hb
            obtain ⟨bq0, hq0⟩ : ∃ q, q = W.heap.size := ⟨_, rfl⟩
            replace hM := hid (hM.out.born [.int .i64 0, .int .i64 0] 42 hq0)
            have HQ : Hid _ := hq0
            clear hq0
            go_wp2_with (first
              | (rw [← HQ.out]; refine sR rfl (hM.out.at 0 rfl) rfl ((rwA 0 0).len (rwA _ _)) (rwA _ _) ?_
                 replace hM := hid (hM.out.put 0 rfl [.int .i64 (xa : Nat), .int .i64 (xb : Nat)] ((rwA 0 0).len (rwA _ _)))
                 generalize World.setCells _ _ _ _ = W at hM ⊢))
            go_roundg (4 - (i + 1))
            case measure => omega
            case rel => exact ⟨i + 1, by omega, by omega, by go_num, hM.out.pick [1], fun t ht => by by_cases e : t = i; (subst e; exact A1.out); exact A.out t (by omega)⟩
          · have E : Hid (v = false) := by cases v with | false => rfl | true => exact absurd (HV.out.1 rfl) (fun h => by rcases (h i hlt).2 with e | e <;> rw [HX.out] at e; exact hx0 e; exact ha e)
            have TN : Hid (∀ w : World, _) := fun w => told_no x64 ha w
            clear ha
            go_wp2_with fail
            replace hM := hid (hM.out.drew)
            refine wp_region_held_drew (S := fun w' => Bo w' n (rl r)) (by kernel_rfl) (hM.out.at 0 rfl) (fun hH => ?_)
            generalize World.drew _ = W at hM hH  ⊢
            refine tk 0 rfl hH ?_
            simp only [Act.put, p1, p2, p3]
            refine tk 1 rfl hH ?_
            simp only [Act.put, p1, p2, p3]
            refine tk 2 rfl hH ?_
            simp only [Act.put, p1, p2, p3]
            refine tk 3 rfl hH ?_ (by intro w h; have c0 := h.rwordx (show 18 + i < 32 by omega) HX.out; clear h; go_simp; try with_reducible rfl)
            simp only [Act.put, p1, p2, p3]
            refine tk 4 rfl hH ?_
            simp only [Act.put, p1, p2, p3]
            refine tk 5 rfl hH ?_
            simp only [Act.put, p1, p2, p3]
            refine tk 6 rfl hH ?_
            simp only [Act.put, p1, p2, p3]
            refine tk 7 rfl hH ?_ (by intro w h; have c0 := h.rwordx (show 22 + i < 32 by omega) HY.out; clear h; go_simp; try with_reducible rfl)
            simp only [Act.put, p1, p2, p3]
            refine tk 8 rfl hH ?_
            simp only [Act.put, p1, p2, p3]
            refine tk 9 rfl hH ?_
            simp only [Act.put, p1, p2, p3]
            refine wpAnyH_done (by kernel_rfl) ?_ _
            go_wp2_with fail
            refine (TN.out _).mono ?_
            rintro e W ⟨rfl, hb⟩
            replace hM := hid (hM.out.later hb)
            clear hb
            obtain ⟨bq0, hq0⟩ : ∃ q, q = W.heap.size := ⟨_, rfl⟩
            replace hM := hid (hM.out.born [.int .i64 0, .int .i64 0] 42 hq0)
            have HQ : Hid _ := hq0
            clear hq0
            go_wp2_with (first
              | (rw [← HQ.out]; refine sR rfl (hM.out.at 0 rfl) rfl ((rwA 0 0).len (rwA _ _)) (rwA _ _) ?_
                 replace hM := hid (hM.out.put 0 rfl [.int .i64 0, .int .i64 0] ((rwA 0 0).len (rwA _ _)))
                 generalize World.setCells _ _ _ _ = W at hM ⊢))
            go_ret
            exact ⟨ret_bool E.out.symm, hM.out.below⟩
    · obtain rfl : i = 4 := by omega
      have E : Hid (v = true) := HV.out.2 A.out
      go_wp2
      go_ret
      exact ⟨ret_bool E.out.symm, hM.out.below⟩
end Go.Proofs.Ytgkgkiheoadbfaa.Tab
namespace Go.Proofs.Ytgkgkiheoadbfaa.Tab
set_option maxRecDepth 20000
open Go.RowKit
set_option linter.unusedVariables false

set_option maxHeartbeats 4000000 in
theorem numbersRight_is {r : Nat → Nat} {v : Bool} (hv : v = true ↔ nR r) (w : World) :
    Calls Try.prog 29 #[.agg (rl r).toArray] w (fun e w' => e = .returned (.bool v) ∧ Below w.heap.size w w') := by
  have HV : Hid _ := hv
  clear hv
  have hM : Hid _ := ((Ms.nil w).born (rl r) 24 (b := w.heap.size) rfl)
  go_enter Try.func29, Try.ntmps29
  go_wp2_with fail
  generalize World.alloc _ _ = W at hM ⊢
  generalize hsz : w.heap.size = n at hM ⊢
  clear hsz
  go_loopg [6] 4 (fun gg s6 wt => wt = W ∧ ∃ i : Nat, i ≤ 4 ∧ 4 - i ≤ gg ∧ s6 = .int .i64 i ∧ Hid (∀ t, t < i → nR1 r t))
  case atStart => exact ⟨rfl, 0, by omega, by omega, rfl, fun t ht => absurd ht (by omega)⟩
  case round =>
    obtain ⟨hw, i, hi, hgg, rfl, A⟩ := hrel
    rw [hw]; clear hw wr
    by_cases hlt : i < 4
    · have hi1 : (i : Int) < 4 := by omega
      have hi0 : (0 : Int) ≤ (i : Int) := by omega
      have fb0 : (0 : Int) ≤ 22 + (i : Int) := by omega
      have fb1 : 22 + (i : Int) < 32 := by omega
      have fb2 : IntKind.i64.wrap (22 + (i : Int)) = 22 + i := by rw [IntKind.wrap_i64]; omega
      have fb3 : wrap64 (22 + (i : Int)) = 22 + i := by unfold wrap64; omega
      have fb4 : (22 + (i : Int)).toNat = 22 + i := by omega
      obtain ⟨x, hx⟩ : ∃ x, r (22 + i) = x := ⟨_, rfl⟩
      obtain ⟨c, hc⟩ : ∃ c, r 28 = c := ⟨_, rfl⟩
      have c1 := (hM.out.at 0 rfl).rwordx (show 22 + i < 32 by omega) hx
      have c2 := (hM.out.at 0 rfl).rwordx (show 28 < 32 by omega) hc
      have HX : Hid _ := hx
      have HC : Hid _ := hc
      clear hx hc
      by_cases hg : c < x
      · have hd : (c : Int) < (x : Int) := by omega
        have E : Hid (v = false) := by cases v with | false => rfl | true => exact absurd (HV.out.1 rfl) (fun h => by have := (h i hlt).1; rw [HX.out, HC.out] at this; omega)
        clear hg
        go_wp2
        go_ret
        exact ⟨ret_bool E.out.symm, hM.out.below⟩
      · have hd : ¬ (c : Int) < (x : Int) := by omega
        have G : Hid (x ≤ c) := (by omega : x ≤ c)
        clear hg
        go_wp2_with fail
        clear fb0 fb1 fb2 fb3 fb4 c1 c2 hd
        obtain ⟨gk0, hgk0⟩ : ∃ gk0, gk0 = gk := ⟨_, rfl⟩
        have GK : Hid (gk = gk0) := hgk0.symm
        go_loopg [18] i (fun gg s18 wt => wt = W ∧ ∃ o : Nat, o ≤ i ∧ i - o ≤ gg ∧ s18 = .int .i64 o ∧ Hid (∀ q, q < o → r (22 + i) = 0 ∨ r (22 + i) ≠ r (22 + q)))
        case atStart => exact ⟨rfl, 0, by omega, by omega, rfl, fun q hq => absurd hq (by omega)⟩
        case round =>
          obtain ⟨hw, o, ho, hgo, rfl, B⟩ := hrel
          rw [hw]; clear hw wr
          by_cases hol : o < i
          · have ho1 : (o : Int) < (i : Int) := by omega
            have ho0 : (0 : Int) ≤ (o : Int) := by omega
            have fc0 : (0 : Int) ≤ 22 + (o : Int) := by omega
            have fc1 : 22 + (o : Int) < 32 := by omega
            have fc2 : IntKind.i64.wrap (22 + (o : Int)) = 22 + o := by rw [IntKind.wrap_i64]; omega
            have fc3 : wrap64 (22 + (o : Int)) = 22 + o := by unfold wrap64; omega
            have fc4 : (22 + (o : Int)).toNat = 22 + o := by omega
            obtain ⟨y, hy⟩ : ∃ y, r (22 + o) = y := ⟨_, rfl⟩
            have c3 := (hM.out.at 0 rfl).rwordx (show 22 + o < 32 by omega) hy
            have HY : Hid _ := hy
            clear hy
            by_cases hx0 : x = 0
            · have gx : (((x : Nat) : Int) == 0) = true := by simp [hx0]
              have fx : ((x : Nat) : Int) = 0 := by omega
              have B1 : Hid (r (22 + i) = 0) := HX.out.trans hx0
              clear hx0
              go_wp2
              go_roundg (i - (o + 1))
              case measure => omega
              case rel => exact ⟨rfl, o + 1, by omega, by omega, by go_num, fun q hq => Or.inl B1.out⟩
            · have gx : (((x : Nat) : Int) == 0) = false := by simpa using hx0
              have fx : ((x : Nat) : Int) ≠ 0 := by omega
              have X0 : Hid (x ≠ 0) := hx0
              clear hx0
              by_cases hxy : x = y
              · have gy : (((x : Nat) : Int) == ((y : Nat) : Int)) = true := by simp [hxy]
                have E : Hid (v = false) := by cases v with | false => rfl | true => exact absurd (HV.out.1 rfl) (fun h => by rcases (h i hlt).2 o hol with e | e <;> rw [HX.out] at e; exact X0.out e; rw [HY.out] at e; exact e hxy)
                clear hxy
                go_wp2
                go_ret
                exact ⟨ret_bool E.out.symm, hM.out.below⟩
              · have gy : (((x : Nat) : Int) == ((y : Nat) : Int)) = false := by simp; omega
                have B1 : Hid (r (22 + i) ≠ r (22 + o)) := by show _ ≠ _; rw [HX.out, HY.out]; exact hxy
                clear hxy
                go_wp2
                go_roundg (i - (o + 1))
                case measure => omega
                case rel => exact ⟨rfl, o + 1, by omega, by omega, by go_num, fun q hq => by by_cases e : q = o; (subst e; exact Or.inr B1.out); exact B.out q (by omega)⟩
          · have ho1 : ¬ (o : Int) < (i : Int) := by omega
            have A1 : Hid (nR1 r i) := ⟨by rw [HX.out, HC.out]; exact G.out, fun q hq => B.out q (by omega)⟩
            go_wp2
            go_roundg (4 - (i + 1))
            case measure => have := GK.out; omega
            case rel => exact ⟨rfl, i + 1, by omega, by have := GK.out; omega, by go_num, fun t ht => by by_cases e : t = i; (subst e; exact A1.out); exact A.out t (by omega)⟩
    · obtain rfl : i = 4 := by omega
      have E : Hid (v = true) := HV.out.2 A.out
      go_wp2
      go_ret
      exact ⟨ret_bool E.out.symm, hM.out.below⟩
end Go.Proofs.Ytgkgkiheoadbfaa.Tab
namespace Go.Proofs.Ytgkgkiheoadbfaa.Tab
set_option maxRecDepth 20000
open Go.RowKit
set_option linter.unusedVariables false

set_option maxHeartbeats 4000000 in
theorem restRight_is {r : Nat → Nat} {v : Bool} (hv : v = true ↔ zR r ∧ tR r) (w : World) :
    Calls Try.prog 30 #[.agg (rl r).toArray] w (fun e w' => e = .returned (.bool v) ∧ Below w.heap.size w w') := by
  have HV : Hid _ := hv
  clear hv
  have hM : Hid _ := ((Ms.nil w).born (rl r) 24 (b := w.heap.size) rfl)
  go_enter Try.func30, Try.ntmps30
  go_wp2_with fail
  generalize World.alloc _ _ = W at hM ⊢
  generalize hsz : w.heap.size = n at hM ⊢
  clear hsz
  go_loopg [7] 3 (fun gg s7 wt => wt = W ∧ ∃ i : Nat, i ≤ 3 ∧ 3 - i ≤ gg ∧ s7 = .int .i64 i ∧ Hid (∀ j, j < i → r (29 + j) = 0))
  case atStart => exact ⟨rfl, 0, by omega, by omega, rfl, fun t ht => absurd ht (by omega)⟩
  case round =>
    obtain ⟨hw, i, hi, hgg, rfl, A⟩ := hrel
    rw [hw]; clear hw wr
    by_cases hlt : i < 3
    · have hi1 : (i : Int) < 3 := by omega
      have hi0 : (0 : Int) ≤ (i : Int) := by omega
      obtain ⟨x, hx⟩ : ∃ x, r (29 + i) = x := ⟨_, rfl⟩
      have c1 := (hM.out.at 0 rfl).rwordx (show 29 + i < 32 by omega) hx
      have HX : Hid _ := hx
      clear hx
      by_cases hx0 : x = 0
      · have gx : (((x : Nat) : Int) == 0) = true := by simp [hx0]
        have fx : ((x : Nat) : Int) = 0 := by omega
        have A1 : Hid (r (29 + i) = 0) := HX.out.trans hx0
        clear hx0
        go_wp2
        go_roundg (3 - (i + 1))
        case measure => omega
        case rel => exact ⟨rfl, i + 1, by omega, by omega, by go_num, fun j hj => by by_cases e : j = i; (subst e; exact A1.out); exact A.out j (by omega)⟩
      · have gx : (((x : Nat) : Int) == 0) = false := by simpa using hx0
        have fx : ((x : Nat) : Int) ≠ 0 := by omega
        have E : Hid (v = false) := by cases v with | false => rfl | true => exact absurd (HV.out.1 rfl).1 (fun h => hx0 (HX.out.symm.trans (h i hlt)))
        clear hx0
        go_wp2
        go_ret
        exact ⟨ret_bool E.out.symm, hM.out.below⟩
    · obtain rfl : i = 3 := by omega
      obtain ⟨a, ha⟩ : ∃ a, r 26 = a := ⟨_, rfl⟩
      obtain ⟨b, hb⟩ : ∃ b, r 27 = b := ⟨_, rfl⟩
      obtain ⟨c, hc⟩ : ∃ c, r 28 = c := ⟨_, rfl⟩
      have c1 := (hM.out.at 0 rfl).rwordx (show 26 < 32 by omega) ha
      have c2 := (hM.out.at 0 rfl).rwordx (show 27 < 32 by omega) hb
      have c3 := (hM.out.at 0 rfl).rwordx (show 28 < 32 by omega) hc
      have TT : Hid (tR r ↔ a < 16 ∧ b ≤ 1099511627776 ∧ c ≤ 1099511627776) := by unfold tR; rw [ha, hb, hc]; exact Iff.rfl
      clear ha hb hc
      by_cases h1 : a < 16
      · have d1 : (a : Int) < 16 := by omega
        by_cases h2 : b ≤ 1099511627776
        · have d2 : (b : Int) ≤ 1099511627776 := by omega
          by_cases h3 : c ≤ 1099511627776
          · have d3 : (c : Int) ≤ 1099511627776 := by omega
            have E : Hid (v = true) := HV.out.2 ⟨A.out, TT.out.2 ⟨h1, h2, h3⟩⟩
            clear h1 h2 h3
            go_wp2
            go_ret
            exact ⟨ret_bool E.out.symm, hM.out.below⟩
          · have d3 : ¬ (c : Int) ≤ 1099511627776 := by omega
            have E : Hid (v = false) := by cases v with | false => rfl | true => exact absurd (TT.out.1 (HV.out.1 rfl).2).2.2 h3
            clear h1 h2 h3
            go_wp2
            go_ret
            exact ⟨ret_bool E.out.symm, hM.out.below⟩
        · have d2 : ¬ (b : Int) ≤ 1099511627776 := by omega
          have E : Hid (v = false) := by cases v with | false => rfl | true => exact absurd (TT.out.1 (HV.out.1 rfl).2).2.1 h2
          clear h1 h2
          go_wp2
          go_ret
          exact ⟨ret_bool E.out.symm, hM.out.below⟩
      · have d1 : ¬ (a : Int) < 16 := by omega
        have E : Hid (v = false) := by cases v with | false => rfl | true => exact absurd (TT.out.1 (HV.out.1 rfl).2).1 h1
        clear h1
        go_wp2
        go_ret
        exact ⟨ret_bool E.out.symm, hM.out.below⟩
end Go.Proofs.Ytgkgkiheoadbfaa.Tab
