/- Texts laid together: Package heap's Do, by its contract; What a heap does, as lists: it stays one, and has just the same things; A tally: what is done with it, and package tally by its contract; What objects do, as words: facts of no program; Package op's within and Right, by their contracts; Records as words: 12.1 and 12.2; facts of no program; Rows of this program: records; a copy as a step; Appending onto a row of one's own: the texts that have it here; What slots take in memory: the text that has it here; The reference's row, within, said, TableLen, by their contracts; Rows of this program's types: the reference's tables; A thing of the reference's, as it lies: its kind, its list, its slots, its number; A thing of the reference's as a row of cells; what words are a thing; Rows of this program's types; Pack. -/
import Derived.Test.YtgkgkiheoadbfaaPk02
import Derived.Test.YtgkgkiheoadbfaaRows
import Derived.Test.YtgkgkiheoadbfaaPk00
import Derived.RegionTactic
import Derived.BigRegion
import Derived.Laws.IdiomCopy
import Derived.Deep.DeepCutAuto
import Derived.Deep.RegionHeld3
import Derived.Test.YtgkgkiheoadbfaaPk01
import Derived.Carry
import Derived.Lib.SmallJoins
import Derived.Deep.Slices
import Derived.Deep.MidRow
namespace Go.Proofs.Ytgkgkiheoadbfaa
set_option maxRecDepth 20000
open Go.RowKit

/-- What an operation makes of a heap, and its answer: 8.1. -/
def hdo (xs : List Int) (what value : Int) : List Int × Int × Int :=
  if what = 1 then (if 6 ≤ xs.length then (xs, 3, 0) else (rise (xs ++ [value]), 1, 0))
  else if what = 2 then (match xs with | [] => ([], 2, 0) | x :: r => (if r = [] then [] else sink (r.getLastD 0 :: r.dropLast), 1, x))
  else qdo xs what value

theorem IsL.row {B : Nat} {w : World} {v : Value} {xs : List Int} (h : IsL B w v xs) (hB : 0 < B) (h0 : 0 < xs.length) : ∃ b off c, v = .slice (some ⟨b, off, none⟩) xs.length c ∧ B ≤ b ∧ b < w.heap.size ∧ xs.length ≤ c ∧ Row b off xs w := by
  rcases h with ⟨rfl, _⟩ | ⟨b, off, c, rfl, hb, _, hc, hcell, hfz⟩
  · simp at h0
  · exact ⟨b, off, c, rfl, hb, World.block_lt_of_cell? _ _ (hcell 0 h0), hc, ⟨hcell, hfz hB⟩⟩
theorem Row.isL {B b off c : Nat} {l : List Int} {w : World} (h : Row b off l w) (hB : B ≤ b) (h0 : 0 < l.length) (hc : l.length ≤ c) : IsL B w (.slice (some ⟨b, off, none⟩) l.length c) l :=
  Or.inr ⟨b, off, c, rfl, hB, h0, hc, h.cell, fun _ => h.froz⟩
theorem Row.keep {C b off : Nat} {l : List Int} {w w' : World} (h : Row b off l w) (hb : Below C w w') (hC : b < C) : Row b off l w' where
  cell j hj := by rw [World.cell?_of_block (hb.block b hC)]; exact h.cell j hj
  froz j hj := by rw [World.frozen?_of_block (hb.block b hC)]; exact h.froz j hj
theorem Bx.aside {n : Nat} {c y : Int} {w w' : World} {row : Option Nat} (h : Bx n c y w) (hg : w.grownBy w' row) (hn : some n ≠ row) : Bx n c y w' where
  lt := Nat.lt_of_lt_of_le h.lt hg.size
  c0 := by rw [World.cell?_of_block (hg.block n h.lt hn)]; exact h.c0
  c1 := by rw [World.cell?_of_block (hg.block n h.lt hn)]; exact h.c1
  f0 := by rw [World.frozen?_of_block (hg.block n h.lt hn)]; exact h.f0
  f1 := by rw [World.frozen?_of_block (hg.block n h.lt hn)]; exact h.f1

theorem Fr.alloc {w W : World} {o k x : Int} (h : Fr w W o k x) (ob : Obj) : Fr w (W.alloc ob) o k x := h.later ((Below.refl _ W).alloc h.sz ob)

set_option maxHeartbeats 1000000 in
theorem hput_full {B : Nat} {v : Value} {xs : List Int} {w : World} (k x : Int) (h : IsL B w v xs) (hx : xs.length ≤ 1000000) (h6 : 6 ≤ xs.length) :
    Calls Try.prog 78 #[v, .agg #[.int .i64 1, .int .i64 k, .int .i64 x]] w (Made w xs 3 0) := by
  have F0 : Hid (Fr w (two w 1 k x) 1 k x) := Fr.start w 1 k x
  have X : Hid (IsL B (two w 1 k x) v xs) := h.later F0.out.gr
  clear h
  go_enter Try.func78, Try.ntmps78
  go_wp2_with fail
  refine (qDo_eq (w := two w 1 k x) (ys := xs) (c := 3) (y := 0) k X.out hx (by simp [qdo, h6])).mono ?_
  rintro e w1 ⟨v1, rfl, hi, hb⟩
  rw [two_size] at hi hb
  have F1 : Hid (Fr w (w1.alloc (.cells #[.int .i64 3, .int .i64 0] 42)) 1 k x) := (F0.out.later hb).alloc _
  have I1 : Hid (IsL (w.heap.size + 2) (w1.alloc (.cells #[.int .i64 3, .int .i64 0] 42)) v1 xs) := hi.new _
  have z1 : Hid (w.heap.size + 2 ≤ w1.heap.size) := (F0.out.later hb).sz
  clear hi hb F0 X
  have r0 := F1.out.r0
  have r1 := F1.out.r1
  have f0 := F1.out.f0
  have f1 := F1.out.f1
  have n1 : w.heap.size + 1 ≠ w1.heap.size := by have := z1.out; omega
  go_wp2_with fail
  go_region
  all_goals go_wp2
  refine bodyPost_ret (v := .tuple #[v1, .agg #[.int .i64 3, .int .i64 0]]) ?_ rfl (F1.out.made3 3 0 I1.out)
  have E := F1.out.ends 3 0
  unfold wr at E
  simp [results, Try.results78, go_sem, E.1, E.2.1]

set_option maxHeartbeats 1000000 in
theorem hput_done {B : Nat} {v : Value} {xs : List Int} {w : World} (k x : Int) (h : IsL B w v xs) (h6 : xs.length < 6) :
    Calls Try.prog 78 #[v, .agg #[.int .i64 1, .int .i64 k, .int .i64 x]] w (Made w (rise (xs ++ [x])) 1 0) := by
  have F0 : Hid (Fr w (two w 1 k x) 1 k x) := Fr.start w 1 k x
  have X : Hid (IsL B (two w 1 k x) v xs) := h.later F0.out.gr
  clear h
  go_enter Try.func78, Try.ntmps78
  go_wp2_with fail
  refine (qDo_eq (w := two w 1 k x) (ys := xs ++ [x]) (c := 1) (y := 0) k X.out (by omega) (by simp [qdo, show ¬ 6 ≤ xs.length by omega])).mono ?_
  rintro e w1 ⟨v1, rfl, hi, hb⟩
  rw [two_size] at hi hb
  obtain ⟨b, off, c, rfl, hB, hbl, hc, hR⟩ := hi.row (by omega) (by simp)
  have F1 : Hid (Fr w (w1.alloc (.cells #[.int .i64 1, .int .i64 0] 42)) 1 k x) := (F0.out.later hb).alloc _
  have Q1 : Hid (Bx w1.heap.size 1 0 (w1.alloc (.cells #[.int .i64 1, .int .i64 0] 42))) := Bx.born w1 1 0 _
  have R1 : Hid (Row b off (xs ++ [x]) (w1.alloc (.cells #[.int .i64 1, .int .i64 0] 42))) := hR.keep (new_below w1 _) hbl
  clear hi hb F0 X hR
  obtain ⟨l, hl⟩ : ∃ l, l = xs ++ [x] := ⟨_, rfl⟩
  have h0 : 0 < l.length := by rw [hl]; simp
  have h7 : l.length ≤ 1000000 := by rw [hl]; simp; omega
  have L : Hid (l = xs ++ [x]) := hl
  rw [← hl] at R1 hc ⊢
  clear hl
  go_wp2_with fail
  refine (rise_is R1.out h0 h7).mono ?_
  rintro e w3 ⟨rfl, hR, hg⟩
  have e3 : (rise l).length = l.length := (rise_perm l).length_eq
  have F3 : Hid (Fr w w3 1 k x) := F1.out.later ((Below.refl _ _).grown hg F1.out.sz (fun k hk => by injection hk with hk; omega))
  have I3 : Hid (IsL (w.heap.size + 2) w3 (.slice (some ⟨b, off, none⟩) l.length c) (rise (xs ++ [x]))) := by
    rw [← L.out, ← e3]; exact hR.isL hB (by omega) (by omega)
  have Q3 : Hid (Bx w1.heap.size 1 0 w3) := Q1.out.aside hg (fun e => by injection e with e; omega)
  have z1 : Hid (w.heap.size + 2 ≤ w1.heap.size) := (by omega : w.heap.size + 2 ≤ w1.heap.size)
  clear hR hg F1 Q1 R1 e3
  have r0 := F3.out.r0
  have r1 := F3.out.r1
  have f0 := F3.out.f0
  have f1 := F3.out.f1
  have y0 := Q3.out.c0
  have y1 := Q3.out.c1
  go_wp2_with fail
  go_region
  all_goals go_wp2
  refine bodyPost_ret (v := .tuple #[.slice (some ⟨b, off, none⟩) l.length c, .agg #[.int .i64 1, .int .i64 0]]) ?_ rfl (F3.out.made3 1 0 I3.out)
  have E := F3.out.ends 1 0
  unfold wr at E
  simp [results, Try.results78, go_sem, E.1, E.2.1]

set_option maxHeartbeats 1000000 in
theorem htake_few {B : Nat} {v : Value} {xs : List Int} {w : World} {c y : Int} (h : IsL B w v xs) (hx : xs.length ≤ 1000000) (hs : sdo xs 2 0 = ([], c, y)) :
    Calls Try.prog 79 #[v] w (Made w [] c y) := by
  have X : Hid (IsL B (w.alloc (.cells #[.int .i64 0, .int .i64 0] 42)) v xs) := h.new _
  have Q0 : Hid (Bx w.heap.size 0 0 (w.alloc (.cells #[.int .i64 0, .int .i64 0] 42))) := Bx.born w 0 0 _
  clear h
  go_enter Try.func79, Try.ntmps79
  go_wp2_with fail
  refine (sDo_eq 0 X.out hx hs).mono ?_
  rintro e w1 ⟨v1, rfl, hi, hb⟩
  obtain ⟨a, cp, rfl⟩ := hi.form
  have Q1 : Hid (Bx w.heap.size 0 0 (w1.alloc (.cells #[.int .i64 c, .int .i64 y] 42))) := (Q0.out.later hb).new _
  have G1 : Hid (Gd w (w1.alloc (.cells #[.int .i64 c, .int .i64 y] 42))) := (((Gd.refl w).new _).later hb).new _
  have hlt : w.heap.size < w1.heap.size := (Q0.out.later hb).lt
  have S1 : Hid (Bx w1.heap.size c y (w1.alloc (.cells #[.int .i64 c, .int .i64 y] 42))) := Bx.born w1 c y _
  clear hi hb X Q0
  go_wp2_with fail
  generalize w1.alloc (.cells #[.int .i64 c, .int .i64 y] 42) = W at Q1 G1 S1 ⊢
  have x0 := Q1.out.c0
  have x1 := Q1.out.c1
  have y0 := Q1.out.f0
  have y1 := Q1.out.f1
  have z0 := S1.out.c0
  have z1 := S1.out.c1
  go_region
  all_goals go_wp2
  have E := Q1.out.put (c' := c) (y' := y) (Nat.le_refl _) G1.out
  refine bodyPost_ret (v := .tuple #[.slice a 0 cp, .agg #[.int .i64 c, .int .i64 y]]) ?_ rfl ⟨_, rfl, IsL.nil _ _ _ _, Below.drew E.2⟩
  simp [results, Try.results79, go_sem, E.1.c0, E.1.c1]

set_option maxHeartbeats 1000000 in
theorem htake_more {B : Nat} {v : Value} {r : List Int} {x z : Int} {w : World} (h : IsL B w v (x :: (r ++ [z]))) (hx : r.length ≤ 100000) :
    Calls Try.prog 79 #[v] w (Made w (sink (z :: r)) 1 x) := by
  have X : Hid (IsL B (w.alloc (.cells #[.int .i64 0, .int .i64 0] 42)) v (x :: (r ++ [z]))) := h.new _
  have Q0 : Hid (Bx w.heap.size 0 0 (w.alloc (.cells #[.int .i64 0, .int .i64 0] 42))) := Bx.born w 0 0 _
  clear h
  have hs : Hid (sdo (x :: (r ++ [z])) 2 0 = (x :: r, 1, z)) := sdo_take (x :: r) z 0
  go_enter Try.func79, Try.ntmps79
  go_wp2_with fail
  refine (sDo_eq 0 X.out (by simp; omega) hs.out).mono ?_
  rintro e w1 ⟨v1, rfl, hi, hb⟩
  have hB0 : 0 < (w.alloc (.cells #[.int .i64 0, .int .i64 0] 42)).heap.size := by simp
  obtain ⟨b, off, cp, rfl, hB, hbl, hc, hR⟩ := hi.row hB0 (by simp)
  have hB' : w.heap.size + 1 ≤ b := by simpa using hB
  have hlt : w.heap.size < w1.heap.size := (Q0.out.later hb).lt
  have g1 : w1.cell? ⟨b, off, none⟩ = some (.int .i64 x) := hR.cell 0 (Nat.succ_pos _)
  have k1 : w1.frozen? ⟨b, off, none⟩ = false := hR.froz 0 (Nat.succ_pos _)
  have hgr : w1.grownBy (w1.setCell ⟨b, off, none⟩ (.int .i64 z)) (some b) := grown_set (World.grownBy.refl _ _) _ _
  have Q2 : Hid (Bx w.heap.size 0 0 ((w1.setCell ⟨b, off, none⟩ (.int .i64 z)).alloc (.cells #[.int .i64 1, .int .i64 z] 42))) := ((Q0.out.later hb).aside hgr (fun e => by injection e with e; omega)).new _
  have G2 : Hid (Gd w ((w1.setCell ⟨b, off, none⟩ (.int .i64 z)).alloc (.cells #[.int .i64 1, .int .i64 z] 42))) := Gd.new (Below.setCell (((Gd.refl w).new _).later hb) (show w.heap.size ≤ b by omega) _) _
  have R2 : Hid (Row b off (z :: r) ((w1.setCell ⟨b, off, none⟩ (.int .i64 z)).alloc (.cells #[.int .i64 1, .int .i64 z] 42))) := (hR.set 0 z (Nat.succ_pos _)).keep (new_below _ _) (by simpa using hbl)
  clear hi hb X Q0 hB hB0 hR hs hgr
  have hn : (0 : Int) < ((r.length + 1 : Nat) : Int) := by omega
  have hl : (x :: r).length = r.length + 1 := rfl
  rw [hl] at hc ⊢
  clear hl
  go_wp2_with fail
  generalize (w1.setCell ⟨b, off, none⟩ (.int .i64 z)).alloc (.cells #[.int .i64 1, .int .i64 z] 42) = W at Q2 G2 R2 ⊢
  refine (sink_is (c := cp) R2.out (Nat.succ_pos _) (by simp; omega)).mono ?_
  rintro e w3 ⟨rfl, hR, hg⟩
  have e3 : (sink (z :: r)).length = r.length + 1 := (sink_perm (z :: r)).length_eq
  have Q3 : Hid (Bx w.heap.size 0 0 w3) := Q2.out.aside hg (fun e => by injection e with e; omega)
  have G3 : Hid (Gd w w3) := Below.grown G2.out hg (Below.size G2.out) (fun k hk => by injection hk with hk; omega)
  have I3 : Hid (IsL (w.heap.size + 1) w3 (.slice (some ⟨b, off, none⟩) (r.length + 1) cp) (sink (z :: r))) := by
    rw [← e3]; exact hR.isL hB' (by omega) (by omega)
  clear hR hg Q2 G2 R2 e3
  have x0 := Q3.out.c0
  have x1 := Q3.out.c1
  have y0 := Q3.out.f0
  have y1 := Q3.out.f1
  go_wp2
  have E := Q3.out.put (c' := 1) (y' := x) (Nat.le_refl _) G3.out
  refine bodyPost_ret (v := .tuple #[.slice (some ⟨b, off, none⟩) (r.length + 1) cp, .agg #[.int .i64 1, .int .i64 x]]) ?_ rfl ⟨_, rfl, ((I3.out.setCell (Nat.lt_succ_self _) _).setCell (Nat.lt_succ_self _) _).mono (Nat.le_succ _), E.2⟩
  simp [results, Try.results79, go_sem, E.1.c0, E.1.c1]

/-- Where the answer is put in its place: all three ways of Do. -/
theorem Made.two {w : World} {ys : List Int} {o k x c y : Int} {e : Ending} {w1 : World} (h : Made (two w o k x) ys c y e w1) : ∃ v1, e = .returned (.tuple #[v1, .agg #[.int .i64 c, .int .i64 y]]) ∧ Hid (Fr w w1 o k x) ∧ Hid (IsL (w.heap.size + 2) w1 v1 ys) := by
  obtain ⟨v1, he, hi, hb⟩ := h
  rw [two_size] at hi hb
  exact ⟨v1, he, (Fr.start w o k x).later hb, hi⟩

set_option maxHeartbeats 1000000 in
theorem hDo_put {B : Nat} {v : Value} {xs ys : List Int} {w : World} {x c y : Int} (k : Int) (h : IsL B w v xs) (hp : ∀ W, IsL B W v xs → Calls Try.prog 78 #[v, .agg #[.int .i64 1, .int .i64 k, .int .i64 x]] W (Made W ys c y)) :
    Calls Try.prog 65 #[v, .agg #[.int .i64 1, .int .i64 k, .int .i64 x]] w (Made w ys c y) := by
  have P : Hid (Calls Try.prog 78 #[v, .agg #[.int .i64 1, .int .i64 k, .int .i64 x]] (two w 1 k x) (Made (two w 1 k x) ys c y)) := hp _ (h.later (Fr.start w 1 k x).gr)
  clear h hp
  go_enter Try.func65, Try.ntmps65
  go_wp2_with fail
  refine P.out.mono ?_
  intro e w1 hm
  obtain ⟨v1, rfl, F1, I1⟩ := hm.two
  clear hm P
  have r0 := F1.out.r0
  have r1 := F1.out.r1
  have f0 := F1.out.f0
  have f1 := F1.out.f1
  go_wp2
  refine bodyPost_ret (v := .tuple #[v1, .agg #[.int .i64 c, .int .i64 y]]) ?_ rfl (F1.out.made c y I1.out)
  have E := F1.out.ends c y
  unfold wr at E
  simp [results, Try.results65, go_sem, E.1, E.2.1]

set_option maxHeartbeats 1000000 in
theorem hDo_take {B : Nat} {v : Value} {xs ys : List Int} {w : World} {c y : Int} (k x : Int) (h : IsL B w v xs) (hp : ∀ W, IsL B W v xs → Calls Try.prog 79 #[v] W (Made W ys c y)) :
    Calls Try.prog 65 #[v, .agg #[.int .i64 2, .int .i64 k, .int .i64 x]] w (Made w ys c y) := by
  have P : Hid (Calls Try.prog 79 #[v] (two w 2 k x) (Made (two w 2 k x) ys c y)) := hp _ (h.later (Fr.start w 2 k x).gr)
  clear h hp
  go_enter Try.func65, Try.ntmps65
  go_wp2_with fail
  refine P.out.mono ?_
  intro e w1 hm
  obtain ⟨v1, rfl, F1, I1⟩ := hm.two
  clear hm P
  have r0 := F1.out.r0
  have r1 := F1.out.r1
  have f0 := F1.out.f0
  have f1 := F1.out.f1
  go_wp2
  refine bodyPost_ret (v := .tuple #[v1, .agg #[.int .i64 c, .int .i64 y]]) ?_ rfl (F1.out.made c y I1.out)
  have E := F1.out.ends c y
  unfold wr at E
  simp [results, Try.results65, go_sem, E.1, E.2.1]

set_option maxHeartbeats 1000000 in
theorem hDo_else {B : Nat} {v : Value} {xs ys : List Int} {w : World} {o x c y : Int} (k : Int) (n1 : o ≠ 1) (n2 : o ≠ 2) (h : IsL B w v xs) (hx : xs.length ≤ 1000000) (hq : qdo xs o x = (ys, c, y)) :
    Calls Try.prog 65 #[v, .agg #[.int .i64 o, .int .i64 k, .int .i64 x]] w (Made w ys c y) := by
  have P : Hid (Calls Try.prog 62 #[v, .agg #[.int .i64 o, .int .i64 k, .int .i64 x]] (two w o k x) (Made (two w o k x) ys c y)) := qDo_eq k (h.later (Fr.start w o k x).gr) hx hq
  have m1 : (o == 1) = false := by simp [n1]
  have m2 : (o == 2) = false := by simp [n2]
  clear h hq
  go_enter Try.func65, Try.ntmps65
  go_wp2_with fail
  refine P.out.mono ?_
  intro e w1 hm
  obtain ⟨v1, rfl, F1, I1⟩ := hm.two
  clear hm P
  have r0 := F1.out.r0
  have r1 := F1.out.r1
  have f0 := F1.out.f0
  have f1 := F1.out.f1
  go_wp2
  refine bodyPost_ret (v := .tuple #[v1, .agg #[.int .i64 c, .int .i64 y]]) ?_ rfl (F1.out.made c y I1.out)
  have E := F1.out.ends c y
  unfold wr at E
  simp [results, Try.results65, go_sem, E.1, E.2.1]

theorem hdo_put {xs : List Int} (x : Int) (h : xs.length < 6) : hdo xs 1 x = (rise (xs ++ [x]), 1, 0) := by simp [hdo, show ¬ 6 ≤ xs.length by omega]
theorem hdo_full {xs : List Int} (x : Int) (h : 6 ≤ xs.length) : hdo xs 1 x = (xs, 3, 0) := by simp [hdo, h]
theorem hdo_none (x : Int) : hdo [] 2 x = ([], 2, 0) := by simp [hdo]
theorem hdo_one (z x : Int) : hdo [z] 2 x = ([], 1, z) := by simp [hdo]
theorem hdo_more (z : Int) (r : List Int) (y x : Int) : hdo (z :: (r ++ [y])) 2 x = (sink (y :: r), 1, z) := by simp [hdo]
theorem hdo_else (xs : List Int) (o x : Int) (n1 : o ≠ 1) (n2 : o ≠ 2) : hdo xs o x = qdo xs o x := by simp [hdo, n1, n2]

theorem hDo_eq {B : Nat} {v : Value} {xs ys : List Int} {w : World} {o x c y : Int} (k : Int) (h : IsL B w v xs) (hx : xs.length ≤ 60) (hq : hdo xs o x = (ys, c, y)) :
    Calls Try.prog 65 #[v, .agg #[.int .i64 o, .int .i64 k, .int .i64 x]] w (Made w ys c y) := by
  by_cases n1 : o = 1
  · subst n1
    by_cases h6 : 6 ≤ xs.length
    · rw [hdo_full x h6] at hq
      simp only [Prod.mk.injEq] at hq
      obtain ⟨rfl, rfl, rfl⟩ := hq
      exact hDo_put k h fun W hW => hput_full k x hW (by omega) h6
    · rw [hdo_put x (by omega)] at hq
      simp only [Prod.mk.injEq] at hq
      obtain ⟨rfl, rfl, rfl⟩ := hq
      exact hDo_put k h fun W hW => hput_done k x hW (by omega)
  by_cases n2 : o = 2
  · subst n2
    refine hDo_take k x h fun W hW => ?_
    cases xs with
    | nil =>
      rw [hdo_none] at hq
      simp only [Prod.mk.injEq] at hq
      obtain ⟨rfl, rfl, rfl⟩ := hq
      exact htake_few hW (by simp) (by simp [sdo, qdo])
    | cons z r =>
      rcases List.eq_nil_or_concat r with rfl | ⟨r', t, rfl⟩
      · rw [hdo_one] at hq
        simp only [Prod.mk.injEq] at hq
        obtain ⟨rfl, rfl, rfl⟩ := hq
        exact htake_few hW (by simp) (by simp [sdo])
      · rw [List.concat_eq_append] at hW hx hq
        rw [hdo_more] at hq
        simp only [Prod.mk.injEq] at hq
        obtain ⟨rfl, rfl, rfl⟩ := hq
        exact htake_more hW (by simp at hx; omega)
  · rw [hdo_else xs o x n1 n2] at hq
    exact hDo_else k n1 n2 h (by omega) hq
end Go.Proofs.Ytgkgkiheoadbfaa
namespace Go.Proofs.Ytgkgkiheoadbfaa
set_option maxRecDepth 20000

theorem hdo_takes {z : Int} {r : List Int} (x : Int) (h : Hp (z :: r)) : ∃ ys, hdo (z :: r) 2 x = (ys, 1, z) ∧ ys.Perm r ∧ Hp ys := by
  rcases List.eq_nil_or_concat r with rfl | ⟨r', t, rfl⟩
  · exact ⟨[], hdo_one z x, .refl _, fun i _ hi => absurd hi (by simp)⟩
  · rw [List.concat_eq_append] at h ⊢
    refine ⟨sink (t :: r'), hdo_more z r' t x, (sink_perm _).trans ?_, sink_heap z t r' (Hp.cut (r := [t]) h)⟩
    exact (List.perm_append_comm (l₁ := [t]) (l₂ := r'))
theorem hdo_puts {xs : List Int} (x : Int) (h : Hp xs) (h6 : xs.length < 6) : ∃ ys, hdo xs 1 x = (ys, 1, 0) ∧ ys.Perm (xs ++ [x]) ∧ Hp ys :=
  ⟨_, hdo_put x h6, rise_perm _, rise_heap xs x h⟩
theorem qdo_keeps (xs : List Int) (o x : Int) (n1 : o ≠ 1) (n2 : o ≠ 2) : ∃ c y, qdo xs o x = (xs, c, y) := by
  by_cases n5 : o = 5
  · subst n5
    cases xs with
    | nil => exact ⟨2, 0, by simp [qdo]⟩
    | cons z r => exact ⟨1, z, by simp [qdo]⟩
  by_cases n6 : o = 6
  · exact ⟨1, xs.length, by simp [qdo, n6]⟩
  · exact ⟨5, 0, by simp [qdo, n1, n2, n5, n6]⟩
theorem hdo_keeps (xs : List Int) (o x : Int) (n1 : o ≠ 1) (n2 : o ≠ 2) : ∃ c y, hdo xs o x = (xs, c, y) := by
  rw [hdo_else xs o x n1 n2]
  exact qdo_keeps xs o x n1 n2
theorem Hp.nil : Hp [] := fun i _ hi => absurd hi (by simp)
theorem hdo_peeks (z : Int) (r : List Int) (x : Int) : hdo (z :: r) 5 x = (z :: r, 1, z) := by simp [hdo, qdo]
/-- What is put in and is less than all comes out. -/
theorem Hp.first {m l : List Int} {z : Int} (h : Hp m) (hm : m.Perm (l ++ [z])) (hz : ∀ y ∈ l, z ≤ y) : ∃ r, m = z :: r ∧ r.Perm l := by
  cases m with
  | nil => exact absurd hm.length_eq (by simp)
  | cons t r =>
    have h1 : t ≤ z := h.head z (hm.mem_iff.2 (by simp))
    have h2 : z ≤ t := by
      have : t ∈ l ++ [z] := hm.mem_iff.1 (by simp)
      rcases List.mem_append.1 this with h | h
      · exact hz t h
      · simp at h; omega
    obtain rfl : t = z := by omega
    refine ⟨r, rfl, ?_⟩
    have := hm.trans (List.perm_append_comm (l₁ := l) (l₂ := [t]))
    exact List.Perm.cons_inv this
/-- Of a heap that has the same things as a list that rises, the first one is the same. -/
theorem Hp.rises {m r : List Int} {z : Int} (h : Hp m) (hm : m.Perm (z :: r)) (hz : (z :: r).Pairwise (· ≤ ·)) : ∃ m', m = z :: m' ∧ m'.Perm r := by
  have h1 : ∀ y ∈ r, z ≤ y := (List.pairwise_cons.1 hz).1
  exact h.first (hm.trans (List.perm_append_comm (l₁ := [z]) (l₂ := r))) h1
end Go.Proofs.Ytgkgkiheoadbfaa
namespace Go.Proofs.Ytgkgkiheoadbfaa
set_option maxRecDepth 20000
set_option linter.unusedVariables false
open Go.RowKit

/-- What an operation makes of a tally, and its answer: 10.1. -/
def ado (n what value : Int) : Int × Int × Int :=
  if what = 1 then (if 4294967295 < n + value then (n, 3, 0) else (n + value, 1, n))
  else if what = 2 then (if n < value then (n, 2, 0) else (n - value, 1, n))
  else if what = 5 ∨ what = 6 then (n, 1, n) else (n, 5, 0)

theorem aDo_put_full (n k x : Int) (n0 : 0 ≤ n) (n1 : n ≤ 4294967295) (x0 : 0 ≤ x) (x1 : x ≤ 4294967295) (h : 4294967295 < n + x) (w : World) :
    Calls Try.prog 82 #[.int .i64 n, .agg #[.int .i64 1, .int .i64 k, .int .i64 x]] w fun e w' => e = .returned (.tuple #[.int .i64 (n), .agg #[.int .i64 3, .int .i64 0]]) ∧ Below w.heap.size w w' := by
  have hs : IntKind.i64.wrap (n + x) = n + x := by rw [IntKind.wrap_i64]; omega
  go_enter Try.func82, Try.ntmps82
  go_wp2
  try (go_region; all_goals go_wp2)
  all_goals exact bodyPost_ret (v := .tuple #[.int .i64 (n), .agg #[.int .i64 3, .int .i64 0]]) (by simp [results, Try.results82, go_sem]) rfl ⟨rfl, by repeat first | with_reducible exact Below.refl _ _ | with_reducible apply Below.drew | (with_reducible refine Below.alloc ?_ ?g _; case g => (simp <;> omega)) | (with_reducible refine Below.setCell ?_ ?g _; case g => (simp <;> omega))⟩
theorem aDo_put (n k x : Int) (n0 : 0 ≤ n) (n1 : n ≤ 4294967295) (x0 : 0 ≤ x) (x1 : x ≤ 4294967295) (h : n + x ≤ 4294967295) (w : World) :
    Calls Try.prog 82 #[.int .i64 n, .agg #[.int .i64 1, .int .i64 k, .int .i64 x]] w fun e w' => e = .returned (.tuple #[.int .i64 (n + x), .agg #[.int .i64 1, .int .i64 n]]) ∧ Below w.heap.size w w' := by
  have hs : IntKind.i64.wrap (n + x) = n + x := by rw [IntKind.wrap_i64]; omega
  go_enter Try.func82, Try.ntmps82
  go_wp2
  try (go_region; all_goals go_wp2)
  all_goals exact bodyPost_ret (v := .tuple #[.int .i64 (n + x), .agg #[.int .i64 1, .int .i64 n]]) (by simp [results, Try.results82, go_sem]) rfl ⟨rfl, by repeat first | with_reducible exact Below.refl _ _ | with_reducible apply Below.drew | (with_reducible refine Below.alloc ?_ ?g _; case g => (simp <;> omega)) | (with_reducible refine Below.setCell ?_ ?g _; case g => (simp <;> omega))⟩
theorem aDo_take_none (n k x : Int) (n0 : 0 ≤ n) (n1 : n ≤ 4294967295) (x0 : 0 ≤ x) (x1 : x ≤ 4294967295) (h : n < x) (w : World) :
    Calls Try.prog 82 #[.int .i64 n, .agg #[.int .i64 2, .int .i64 k, .int .i64 x]] w fun e w' => e = .returned (.tuple #[.int .i64 (n), .agg #[.int .i64 2, .int .i64 0]]) ∧ Below w.heap.size w w' := by
  have hs : IntKind.i64.wrap (n - x) = n - x := by rw [IntKind.wrap_i64]; omega
  have hd : n - x < 0 := by omega
  go_enter Try.func82, Try.ntmps82
  go_wp2
  try (go_region; all_goals go_wp2)
  all_goals exact bodyPost_ret (v := .tuple #[.int .i64 (n), .agg #[.int .i64 2, .int .i64 0]]) (by simp [results, Try.results82, go_sem]) rfl ⟨rfl, by repeat first | with_reducible exact Below.refl _ _ | with_reducible apply Below.drew | (with_reducible refine Below.alloc ?_ ?g _; case g => (simp <;> omega)) | (with_reducible refine Below.setCell ?_ ?g _; case g => (simp <;> omega))⟩
theorem aDo_take (n k x : Int) (n0 : 0 ≤ n) (n1 : n ≤ 4294967295) (x0 : 0 ≤ x) (x1 : x ≤ 4294967295) (h : x ≤ n) (w : World) :
    Calls Try.prog 82 #[.int .i64 n, .agg #[.int .i64 2, .int .i64 k, .int .i64 x]] w fun e w' => e = .returned (.tuple #[.int .i64 (n - x), .agg #[.int .i64 1, .int .i64 n]]) ∧ Below w.heap.size w w' := by
  have hs : IntKind.i64.wrap (n - x) = n - x := by rw [IntKind.wrap_i64]; omega
  have hd : 0 ≤ n - x := by omega
  go_enter Try.func82, Try.ntmps82
  go_wp2
  try (go_region; all_goals go_wp2)
  all_goals exact bodyPost_ret (v := .tuple #[.int .i64 (n - x), .agg #[.int .i64 1, .int .i64 n]]) (by simp [results, Try.results82, go_sem]) rfl ⟨rfl, by repeat first | with_reducible exact Below.refl _ _ | with_reducible apply Below.drew | (with_reducible refine Below.alloc ?_ ?g _; case g => (simp <;> omega)) | (with_reducible refine Below.setCell ?_ ?g _; case g => (simp <;> omega))⟩
theorem aDo_look5 (n k x : Int) (n0 : 0 ≤ n) (n1 : n ≤ 4294967295) (x0 : 0 ≤ x) (x1 : x ≤ 4294967295)  (w : World) :
    Calls Try.prog 82 #[.int .i64 n, .agg #[.int .i64 5, .int .i64 k, .int .i64 x]] w fun e w' => e = .returned (.tuple #[.int .i64 (n), .agg #[.int .i64 1, .int .i64 n]]) ∧ Below w.heap.size w w' := by
  go_enter Try.func82, Try.ntmps82
  go_wp2
  try (go_region; all_goals go_wp2)
  all_goals exact bodyPost_ret (v := .tuple #[.int .i64 (n), .agg #[.int .i64 1, .int .i64 n]]) (by simp [results, Try.results82, go_sem]) rfl ⟨rfl, by repeat first | with_reducible exact Below.refl _ _ | with_reducible apply Below.drew | (with_reducible refine Below.alloc ?_ ?g _; case g => (simp <;> omega)) | (with_reducible refine Below.setCell ?_ ?g _; case g => (simp <;> omega))⟩
theorem aDo_look6 (n k x : Int) (n0 : 0 ≤ n) (n1 : n ≤ 4294967295) (x0 : 0 ≤ x) (x1 : x ≤ 4294967295)  (w : World) :
    Calls Try.prog 82 #[.int .i64 n, .agg #[.int .i64 6, .int .i64 k, .int .i64 x]] w fun e w' => e = .returned (.tuple #[.int .i64 (n), .agg #[.int .i64 1, .int .i64 n]]) ∧ Below w.heap.size w w' := by
  go_enter Try.func82, Try.ntmps82
  go_wp2
  try (go_region; all_goals go_wp2)
  all_goals exact bodyPost_ret (v := .tuple #[.int .i64 (n), .agg #[.int .i64 1, .int .i64 n]]) (by simp [results, Try.results82, go_sem]) rfl ⟨rfl, by repeat first | with_reducible exact Below.refl _ _ | with_reducible apply Below.drew | (with_reducible refine Below.alloc ?_ ?g _; case g => (simp <;> omega)) | (with_reducible refine Below.setCell ?_ ?g _; case g => (simp <;> omega))⟩
theorem aDo_wrong (o : Int) (n k x : Int) (n0 : 0 ≤ n) (n1 : n ≤ 4294967295) (x0 : 0 ≤ x) (x1 : x ≤ 4294967295) (m1 : (o == 1) = false) (m2 : (o == 2) = false) (m5 : (o == 5) = false) (m6 : (o == 6) = false) (w : World) :
    Calls Try.prog 82 #[.int .i64 n, .agg #[.int .i64 o, .int .i64 k, .int .i64 x]] w fun e w' => e = .returned (.tuple #[.int .i64 (n), .agg #[.int .i64 5, .int .i64 0]]) ∧ Below w.heap.size w w' := by
  go_enter Try.func82, Try.ntmps82
  go_wp2
  try (go_region; all_goals go_wp2)
  all_goals exact bodyPost_ret (v := .tuple #[.int .i64 (n), .agg #[.int .i64 5, .int .i64 0]]) (by simp [results, Try.results82, go_sem]) rfl ⟨rfl, by repeat first | with_reducible exact Below.refl _ _ | with_reducible apply Below.drew | (with_reducible refine Below.alloc ?_ ?g _; case g => (simp <;> omega)) | (with_reducible refine Below.setCell ?_ ?g _; case g => (simp <;> omega))⟩
theorem aDo_eq {n o k x m c y : Int} (n0 : 0 ≤ n) (n1 : n ≤ 4294967295) (x0 : 0 ≤ x) (x1 : x ≤ 4294967295) (h : ado n o x = (m, c, y)) (w : World) :
    Calls Try.prog 82 #[.int .i64 n, .agg #[.int .i64 o, .int .i64 k, .int .i64 x]] w fun e w' => e = .returned (.tuple #[.int .i64 m, .agg #[.int .i64 c, .int .i64 y]]) ∧ Below w.heap.size w w' := by
  unfold ado at h
  by_cases e1 : o = 1
  · subst e1
    by_cases hf : 4294967295 < n + x
    · simp [hf] at h; obtain ⟨rfl, rfl, rfl⟩ := h; exact aDo_put_full n k x n0 n1 x0 x1 hf w
    · simp [hf] at h; obtain ⟨rfl, rfl, rfl⟩ := h; exact aDo_put n k x n0 n1 x0 x1 (by omega) w
  by_cases e2 : o = 2
  · subst e2
    by_cases hf : n < x
    · simp [hf] at h; obtain ⟨rfl, rfl, rfl⟩ := h; exact aDo_take_none n k x n0 n1 x0 x1 hf w
    · simp [hf] at h; obtain ⟨rfl, rfl, rfl⟩ := h; exact aDo_take n k x n0 n1 x0 x1 (by omega) w
  by_cases e5 : o = 5
  · subst e5
    simp at h; obtain ⟨rfl, rfl, rfl⟩ := h; exact aDo_look5 n k x n0 n1 x0 x1 w
  by_cases e6 : o = 6
  · subst e6
    simp at h; obtain ⟨rfl, rfl, rfl⟩ := h; exact aDo_look6 n k x n0 n1 x0 x1 w
  · simp [e1, e2, e5, e6] at h; obtain ⟨rfl, rfl, rfl⟩ := h
    exact aDo_wrong o n k x n0 n1 x0 x1 (by simp [e1]) (by simp [e2]) (by simp [e5]) (by simp [e6]) w
end Go.Proofs.Ytgkgkiheoadbfaa
namespace Go.Proofs.Ytgkgkiheoadbfaa.Tab
set_option maxRecDepth 20000
open Go.RowKit
set_option linter.unusedVariables false

/-- What every list does: facts of queues, stacks, deques and heaps alike. -/
structure LF (two : Bool) (xs : List Int) (o x : Int) (r : List Int × Int × Int) : Prop where
  len : r.1.length ≤ 6
  val : ∀ z ∈ r.1, 0 ≤ z ∧ z ≤ 4294967295
  code : 1 ≤ r.2.1 ∧ r.2.1 ≤ 5
  told : 0 ≤ r.2.2 ∧ r.2.2 ≤ 4294967295
  zero : r.2.1 ≠ 1 → r.2.2 = 0
  same : (r.2.1 ≠ 1 ∨ o = 5 ∨ o = 6) → r.1 = xs
  less : r.2.1 = 1 → (o = 2 ∨ o = 4) → r.1.length + 1 = xs.length
  more : r.2.1 = 1 → (o = 1 ∨ o = 3) → r.1.length = xs.length + 1
  count : o = 6 → r.2.1 = 1 ∧ r.2.2 = xs.length
  wrong : r.2.1 = 5 ↔ ((o = 3 ∨ o = 4) ∧ two = false)
  take : o = 2 → (r.2.1 = 2 ∧ xs.length = 0) ∨ (r.2.1 = 1 ∧ 0 < xs.length)
  put : o = 1 → (r.2.1 = 3 ∧ xs.length = 6) ∨ (r.2.1 = 1 ∧ xs.length < 6)

theorem qdo_facts {xs : List Int} {o k x : Int} (hl : xs.length ≤ 6) (hv : ∀ z ∈ xs, 0 ≤ z ∧ z ≤ 4294967295) (w1 : 1 ≤ o) (w6 : o ≤ 6) (v0 : 0 ≤ x) (v1 : x ≤ 4294967295) : LF false xs o x (qdo xs o x) := by
  have : o = 1 ∨ o = 2 ∨ o = 3 ∨ o = 4 ∨ o = 5 ∨ o = 6 := by omega
  rcases this with rfl | rfl | rfl | rfl | rfl | rfl
  · by_cases h6 : 6 ≤ xs.length
    · have e : qdo xs 1 x = (xs, 3, 0) := by simp [qdo, h6]
      rw [e]
      constructor <;> first | exact hv | (simp <;> omega)
    · have e : qdo xs 1 x = (xs ++ [x], 1, 0) := by simp [qdo, h6]
      rw [e]
      constructor <;> first | (intro z hz; simp at hz; rcases hz with hz | rfl; exact hv z hz; exact ⟨v0, v1⟩) | (simp <;> omega)
  · cases xs with
    | nil =>
      have e : qdo [] 2 x = ([], 2, 0) := by simp [qdo]
      rw [e]
      constructor <;> simp
    | cons z r =>
      have e : qdo (z :: r) 2 x = (r, 1, z) := by simp [qdo]
      have hz := hv z (by simp)
      simp at hl
      rw [e]
      constructor <;> first | (intro y hy; exact hv y (by simp [hy])) | (simp <;> omega)
  · have e : qdo xs 3 x = (xs, 5, 0) := by simp [qdo]
    rw [e]
    constructor <;> first | exact hv | (simp <;> omega)
  · have e : qdo xs 4 x = (xs, 5, 0) := by simp [qdo]
    rw [e]
    constructor <;> first | exact hv | (simp <;> omega)
  · cases xs with
    | nil =>
      have e : qdo [] 5 x = ([], 2, 0) := by simp [qdo]
      rw [e]
      constructor <;> simp
    | cons z r =>
      have e : qdo (z :: r) 5 x = (z :: r, 1, z) := by simp [qdo]
      have hz := hv z (by simp)
      rw [e]
      constructor <;> first | exact hv | exact hl | (simp <;> omega)
  · have e : qdo xs 6 x = (xs, 1, (xs.length : Int)) := by simp [qdo]
    rw [e]
    constructor <;> first | exact hv | (simp <;> omega)

theorem sdo_facts {xs : List Int} {o k x : Int} (hl : xs.length ≤ 6) (hv : ∀ z ∈ xs, 0 ≤ z ∧ z ≤ 4294967295) (w1 : 1 ≤ o) (w6 : o ≤ 6) (v0 : 0 ≤ x) (v1 : x ≤ 4294967295) : LF false xs o x (sdo xs o x) := by
  rcases List.eq_nil_or_concat xs with rfl | ⟨r, z, rfl⟩
  · rw [sdo_nil]; exact qdo_facts (k := k) hl hv w1 w6 v0 v1
  · rw [List.concat_eq_append] at *
    have hz := hv z (by simp)
    by_cases e2 : o = 2
    · subst e2
      rw [sdo_take]
      simp at hl
      constructor <;> first | (intro y hy; exact hv y (by simp [hy])) | (simp <;> omega)
    by_cases e5 : o = 5
    · subst e5
      rw [sdo_peek]
      constructor <;> first | exact hv | exact hl | (simp <;> omega)
    rw [sdo_other _ _ _ e2 e5]; exact qdo_facts (k := k) hl hv w1 w6 v0 v1

theorem ddo_facts {xs : List Int} {o k x : Int} (hl : xs.length ≤ 6) (hv : ∀ z ∈ xs, 0 ≤ z ∧ z ≤ 4294967295) (w1 : 1 ≤ o) (w6 : o ≤ 6) (v0 : 0 ≤ x) (v1 : x ≤ 4294967295) : LF true xs o x (ddo xs o x) := by
  by_cases e3 : o = 3
  · subst e3
    by_cases h6 : 6 ≤ xs.length
    · have e : ddo xs 3 x = (xs, 3, 0) := by simp [ddo, h6]
      rw [e]
      constructor <;> first | exact hv | (simp <;> omega)
    · have e : ddo xs 3 x = (x :: xs, 1, 0) := by simp [ddo, h6]
      rw [e]
      constructor <;> first | (intro z hz; simp at hz; rcases hz with rfl | hz; exact ⟨v0, v1⟩; exact hv z hz) | (simp <;> omega)
  by_cases e4 : o = 4
  · subst e4
    have e : ddo xs 4 x = sdo xs 2 0 := by simp [ddo]
    rw [e]
    rcases List.eq_nil_or_concat xs with rfl | ⟨r, z, rfl⟩
    · have e : sdo [] 2 0 = ([], 2, 0) := by simp [sdo, qdo]
      rw [e]
      constructor <;> simp
    · rw [List.concat_eq_append] at *
      have hz := hv z (by simp)
      rw [sdo_take]
      simp at hl
      constructor <;> first | (intro y hy; exact hv y (by simp [hy])) | (simp <;> omega)
  have e : ddo xs o x = qdo xs o x := by simp [ddo, e3, e4]
  rw [e]
  have := qdo_facts (k := k) hl hv w1 w6 v0 v1
  exact { this with wrong := by rw [this.wrong]; simp [e3, e4] }

theorem hdo_facts {xs : List Int} {o k x : Int} (hl : xs.length ≤ 6) (hv : ∀ z ∈ xs, 0 ≤ z ∧ z ≤ 4294967295) (hp : Hp xs) (w1 : 1 ≤ o) (w6 : o ≤ 6) (v0 : 0 ≤ x) (v1 : x ≤ 4294967295) : LF false xs o x (hdo xs o x) ∧ Hp (hdo xs o x).1 := by
  by_cases e1 : o = 1
  · subst e1
    by_cases h6 : 6 ≤ xs.length
    · rw [hdo_full x h6]
      refine ⟨?_, hp⟩
      constructor <;> first | exact hv | (simp <;> omega)
    · obtain ⟨ys, e, p, h⟩ := hdo_puts x hp (by omega)
      rw [e]
      refine ⟨?_, h⟩
      have pl := p.length_eq
      simp at pl
      constructor <;> first | (intro z hz; rcases List.mem_append.1 (p.mem_iff.1 hz) with hz | hz; exact hv z hz; (simp at hz; subst hz; exact ⟨v0, v1⟩)) | (simp <;> omega)
  by_cases e2 : o = 2
  · subst e2
    cases xs with
    | nil =>
      rw [hdo_none]
      refine ⟨?_, Hp.nil⟩
      constructor <;> simp
    | cons z r =>
      obtain ⟨ys, e, p, h⟩ := hdo_takes x hp
      rw [e]
      refine ⟨?_, h⟩
      have pl := p.length_eq
      have hz := hv z (by simp)
      simp at hl
      constructor <;> first | (intro y hy; exact hv y (by simp [p.mem_iff.1 hy])) | (simp <;> omega)
  obtain ⟨c, y, e⟩ := hdo_keeps xs o x e1 e2
  refine ⟨?_, by rw [e]; exact hp⟩
  rw [hdo_else _ _ _ e1 e2]; exact qdo_facts (k := k) hl hv w1 w6 v0 v1
/-- What a table does. -/
structure TF (t : Tb) (o k x : Int) (r : Tb × Int × Int) : Prop where
  rt : RT r.1
  code : 1 ≤ r.2.1 ∧ r.2.1 ≤ 5
  told : 0 ≤ r.2.2 ∧ r.2.2 ≤ 4294967295
  zero : r.2.1 ≠ 1 → r.2.2 = 0
  same : (r.2.1 ≠ 1 ∨ o = 5 ∨ o = 6) → r.1 = t
  less : r.2.1 = 1 → (o = 2 ∨ o = 4) → len r.1 + 1 = len t
  more : r.2.1 = 1 → (o = 1 ∨ o = 3) → len r.1 = len t + 1 ∨ len r.1 = len t
  count : o = 6 → r.2.1 = 1 ∧ r.2.2 = len t
  wrong : r.2.1 = 5 ↔ (o ≠ 6 ∧ (o = 3 ∨ o = 4 ∨ k = 0))
theorem tdo_facts {t : Tb} (h : RT t) {o k x : Int} (w1 : 1 ≤ o) (w6 : o ≤ 6) (k0 : 0 ≤ k) (k1 : k ≤ 1000) (v0 : 0 ≤ x) (v1 : x ≤ 4294967295) : TF t o k x (tdo t o k x) := by
  have st := (tdo_stays h (o := o) (k := k) v0 v1).1
  have hr := h.room
  by_cases h6 : o = 6
  · subst h6; rw [tdo_count] at st ⊢
    exact ⟨st, by simp, ⟨by simp, by simp; omega⟩, by simp, by simp, by simp, by simp, by simp, by simp⟩
  by_cases hb : byKey o k
  · obtain ⟨ho, hk1, hk2⟩ := hb
    have hk0 : k ≠ 0 := by omega
    have hp := place_lt t k
    by_cases hh : t.k (place t k) = k
    · have hn : t.k (place t k) ≠ 0 := by rw [hh]; exact hk0
      have hvv := h.vals _ hp
      rcases ho with rfl | rfl | rfl
      · rw [tdo_put x hk1 hk2 (Or.inl hh)] at st ⊢
        have l := len_set t hp k x
        have hi : ind t (place t k) = 1 := by unfold ind; rw [if_neg hn]
        rw [if_neg hk0] at l
        exact ⟨st, by simp, by simp, by simp, by simp, by simp, fun _ _ => Or.inr (by simp only; omega), by simp, by simp [hk0]⟩
      · rw [tdo_take x hk1 hk2 hh] at st ⊢
        obtain ⟨a, -, c⟩ := without_all h hp hn
        exact ⟨st, by simp, hvv, by simp, by simp, fun _ _ => c, by simp, by simp, by simp [hk0]⟩
      · rw [tdo_peek x hk1 hk2, look, if_pos hh]
        exact ⟨h, by simp, hvv, by simp, by simp, by simp, by simp, by simp, by simp [hk0]⟩
    · rcases ho with rfl | rfl | rfl
      · by_cases hl : 6 ≤ len t
        · rw [tdo_full x hk1 hk2 hh hl]
          exact ⟨h, by simp, by simp, by simp, by simp, by simp, by simp, by simp, by simp [hk0]⟩
        · rw [tdo_put x hk1 hk2 (Or.inr (by omega))] at st ⊢
          have l := len_set t hp k x
          have hi := ind_le t (place t k)
          have hf := free_of_place h hh
          have hi : ind t (place t k) = 0 := by unfold ind; rw [if_pos hf]
          rw [if_neg hk0] at l
          exact ⟨st, by simp, by simp, by simp, by simp, by simp, fun _ _ => Or.inl (by simp only; omega), by simp, by simp [hk0]⟩
      · rw [tdo_absent x (Or.inl rfl) hk1 hk2 hh]
        exact ⟨h, by simp, by simp, by simp, by simp, by simp, by simp, by simp, by simp [hk0]⟩
      · rw [tdo_absent x (Or.inr rfl) hk1 hk2 hh]
        exact ⟨h, by simp, by simp, by simp, by simp, by simp, by simp, by simp, by simp [hk0]⟩
  · rw [tdo_wrong t x h6 hb]
    refine ⟨h, by simp, by simp, by simp, by simp, by simp, by simp, fun e => absurd e h6, ?_⟩
    simp only [true_iff]
    refine ⟨h6, ?_⟩
    unfold byKey at hb
    omega
/-- What a tally does. -/
structure AF (n o x : Int) (r : Int × Int × Int) : Prop where
  rt : 0 ≤ r.1 ∧ r.1 ≤ 4294967295
  code : 1 ≤ r.2.1 ∧ r.2.1 ≤ 5
  told : 0 ≤ r.2.2 ∧ r.2.2 ≤ 4294967295
  zero : r.2.1 ≠ 1 → r.2.2 = 0
  same : (r.2.1 ≠ 1 ∨ o = 5 ∨ o = 6) → r.1 = n
  count : o = 6 → r.2.1 = 1 ∧ r.2.2 = n
  wrong : r.2.1 = 5 ↔ (o = 3 ∨ o = 4)
theorem ado_facts {n o x : Int} (n0 : 0 ≤ n) (n1 : n ≤ 4294967295) (w1 : 1 ≤ o) (w6 : o ≤ 6) (v0 : 0 ≤ x) (v1 : x ≤ 4294967295) : AF n o x (ado n o x) := by
  have : o = 1 ∨ o = 2 ∨ o = 3 ∨ o = 4 ∨ o = 5 ∨ o = 6 := by omega
  rcases this with rfl | rfl | rfl | rfl | rfl | rfl
  · by_cases h : 4294967295 < n + x
    · have e : ado n 1 x = (n, 3, 0) := by simp [ado, h]
      rw [e]; constructor <;> (simp <;> omega)
    · have e : ado n 1 x = (n + x, 1, n) := by simp [ado, h]
      rw [e]; constructor <;> (simp <;> omega)
  · by_cases h : n < x
    · have e : ado n 2 x = (n, 2, 0) := by simp [ado, h]
      rw [e]; constructor <;> (simp <;> omega)
    · have e : ado n 2 x = (n - x, 1, n) := by simp [ado, h]
      rw [e]; constructor <;> (simp <;> omega)
  · have e : ado n 3 x = (n, 5, 0) := by simp [ado]
    rw [e]; constructor <;> (simp <;> omega)
  · have e : ado n 4 x = (n, 5, 0) := by simp [ado]
    rw [e]; constructor <;> (simp <;> omega)
  · have e : ado n 5 x = (n, 1, n) := by simp [ado]
    rw [e]; constructor <;> (simp <;> omega)
  · have e : ado n 6 x = (n, 1, n) := by simp [ado]
    rw [e]; constructor <;> (simp <;> omega)

/-- 11.1's Do: what an object is then, as words, and its answer. -/
def ldo (kind : Int) (l : List Int) (o x : Int) : List Int × Int × Int := if kind = 1 then qdo l o x else if kind = 2 then sdo l o x else if kind = 3 then ddo l o x else hdo l o x
def odo (kind : Int) (c : Nat → Nat) (o k x : Int) : (Nat → Nat) × Int × Int :=
  if kind = 5 then (tw (tdo (tbl c) o k x).1, (tdo (tbl c) o k x).2) else if kind = 6 then (tyw (ado (c 0) o x).1, (ado (c 0) o x).2) else (lw (ldo kind (lst c) o x).1, (ldo kind (lst c) o x).2)
/-- How many things there are in an object. -/
def osz (kind : Int) (c : Nat → Nat) : Int := if kind = 5 then (len (tbl c) : Int) else (c 0 : Nat)

theorem WList.congr {c d : Nat → Nat} (h : WList c) (e : ∀ j, j < 17 → d j = c j) : WList d where
  len := by rw [e 0 (by decide)]; exact h.len
  val i h1 h2 := by rw [e 0 (by decide)] at h2; have := h.len; rw [e i (by omega)]; exact h.val i h1 h2
  rest i h1 h2 := by rw [e 0 (by decide)] at h1; rw [e i h2]; exact h.rest i h1 h2
theorem tw_tbl {c : Nat → Nat} (h : upC c 16 1 0 = true) : wl (tw (tbl c)) = wl c := wl_congr fun j hj => by
  unfold tw tbl
  by_cases h16 : j < 16
  · rw [if_pos h16]
    split
    · simp only [Int.toNat_natCast]; congr 1; omega
    · simp only [Int.toNat_natCast]; congr 1; omega
  · rw [if_neg h16]
    have := upC_all h (j := j) (by omega) (by omega)
    omega
theorem tyw_0 {c : Nat → Nat} (h : isTb c = true) : wl (tyw (c 0 : Nat)) = wl c := wl_congr fun j hj => by
  unfold isTb at h
  simp only [Bool.and_eq_true] at h
  unfold tyw
  by_cases e : j = 0
  · subst e; simp
  · rw [if_neg e]
    have := upC_all h.2 (j := j) (by omega) (by omega)
    omega
theorem tbl_tw {t : Tb} (h : RT t) : (tbl (tw t)).k 0 = t.k 0 ∧ ∀ i, i < 8 → (tbl (tw t)).k i = t.k i ∧ (tbl (tw t)).v i = t.v i := by
  have H : ∀ i, i < 8 → (tbl (tw t)).k i = t.k i ∧ (tbl (tw t)).v i = t.v i := fun i hi => by
    have a := h.keys i hi
    have b := h.vals i hi
    have e1 : 2 * i / 2 = i := by omega
    have e2 : (2 * i + 1) / 2 = i := by omega
    have e3 : 2 * i % 2 = 0 := by omega
    have e4 : ¬ (2 * i + 1) % 2 = 0 := by omega
    constructor
    · show ((tw t (2 * i) : Nat) : Int) = t.k i
      unfold tw; rw [if_pos (by omega), if_pos e3, e1]; omega
    · show ((tw t (2 * i + 1) : Nat) : Int) = t.v i
      unfold tw; rw [if_pos (by omega), if_neg e4, e2]; omega
  exact ⟨(H 0 (by decide)).1, H⟩
theorem ind_congr {t u : Tb} {i : Nat} (h : u.k i = t.k i) : ind u i = ind t i := by unfold ind; rw [h]
theorem len_congr {t u : Tb} (h : ∀ i, i < 8 → u.k i = t.k i ∧ u.v i = t.v i) : len u = len t := by
  unfold len
  rw [ind_congr (h 0 (by decide)).1, ind_congr (h 1 (by decide)).1, ind_congr (h 2 (by decide)).1, ind_congr (h 3 (by decide)).1, ind_congr (h 4 (by decide)).1, ind_congr (h 5 (by decide)).1, ind_congr (h 6 (by decide)).1, ind_congr (h 7 (by decide)).1]
theorem RT.congr {t u : Tb} (hr : RT t) (h : ∀ i, i < 8 → u.k i = t.k i ∧ u.v i = t.v i) : RT u where
  keys p hp := by rw [(h p hp).1]; exact hr.keys p hp
  vals p hp := by rw [(h p hp).2]; exact hr.vals p hp
  none p hp := by rw [(h p hp).1, (h p hp).2]; exact hr.none p hp
  row p hp := by
    rw [(h p hp).1]
    intro h0 q hq hd
    have := hr.row p hp h0 q hq hd
    unfold Hit at this ⊢
    rw [(h q hq).1]; exact this
  room := by rw [len_congr h]; exact hr.room
theorem wtab_tw {t : Tb} (h : RT t) : WTab (tw t) := by
  refine ⟨upC_iff.2 fun j hj => ?_, upC_iff.2 fun j hj => ?_, h.congr (tbl_tw h).2⟩
  · have a := h.keys ((0 + j) / 2) (by omega)
    have b := h.vals ((0 + j) / 2) (by omega)
    unfold tw
    rw [if_pos (by omega)]
    split <;> omega
  · unfold tw
    rw [if_neg (by omega)]
    decide
theorem isTb_tyw {n : Int} (h0 : 0 ≤ n) (h1 : n ≤ 4294967295) : isTb (tyw n) = true := by
  unfold isTb
  simp only [Bool.and_eq_true]
  refine ⟨upC_iff.2 fun j hj => ?_, upC_iff.2 fun j hj => ?_⟩
  · obtain rfl : j = 0 := by omega
    unfold tyw; simp; omega
  · unfold tyw; rw [if_neg (by omega)]; decide

/-- What every object does. -/
structure OF (kind : Int) (c : Nat → Nat) (o k x : Int) (r : (Nat → Nat) × Int × Int) : Prop where
  ob : isOb kind r.1
  code : 1 ≤ r.2.1 ∧ r.2.1 ≤ 5
  told : 0 ≤ r.2.2 ∧ r.2.2 ≤ 4294967295
  zero : r.2.1 ≠ 1 → r.2.2 = 0
  same : (r.2.1 ≠ 1 ∨ o = 5 ∨ o = 6) → wl r.1 = wl c
  less : kind ≠ 6 → r.2.1 = 1 → (o = 2 ∨ o = 4) → osz kind r.1 + 1 = osz kind c
  more : kind ≠ 6 → r.2.1 = 1 → (o = 1 ∨ o = 3) → osz kind r.1 = osz kind c + 1 ∨ (kind = 5 ∧ osz kind r.1 = osz kind c)
  count : o = 6 → r.2.1 = 1 ∧ r.2.2 = osz kind c
  wrong : r.2.1 = 5 ↔ (((o = 3 ∨ o = 4) ∧ kind ≠ 3) ∨ (kind = 5 ∧ o ≠ 6 ∧ (o = 3 ∨ o = 4 ∨ k = 0)))
  take : kind ≤ 4 → o = 2 → (r.2.1 = 2 ∧ osz kind c = 0) ∨ (r.2.1 = 1 ∧ 0 < osz kind c)
  put : kind ≤ 4 → o = 1 → (r.2.1 = 3 ∧ osz kind c = 6) ∨ (r.2.1 = 1 ∧ osz kind c < 6)
theorem isOb_kind {kind : Int} {c : Nat → Nat} (h : isOb kind c) : 1 ≤ kind ∧ kind ≤ 6 := by
  rcases h with ⟨h | h | h, _⟩ | ⟨h, _⟩ | ⟨h, _⟩ | ⟨h, _⟩ <;> subst h <;> decide
theorem osz_in {kind : Int} {c : Nat → Nat} (h : isOb kind c) : 0 ≤ osz kind c ∧ (kind ≠ 6 → osz kind c ≤ 6) ∧ osz kind c ≤ 4294967295 := by
  unfold osz
  rcases h with ⟨hk, hl⟩ | ⟨hk, hl, _⟩ | ⟨hk, _, _, hr⟩ | ⟨hk, hl⟩
  · have := (isLb_w hl).len
    rw [if_neg (by omega)]; omega
  · have := (isLb_w hl).len
    rw [if_neg (by omega)]; omega
  · have := hr.room
    rw [if_pos hk]; omega
  · unfold isTb at hl
    simp only [Bool.and_eq_true] at hl
    have := upC_all hl.1 (j := 0) (by omega) (by omega)
    rw [if_neg (by omega)]; omega
theorem ldo_facts {kind : Int} {l : List Int} {o k x : Int} (h1 : 1 ≤ kind) (h4 : kind ≤ 4) (hl : l.length ≤ 6) (hv : ∀ z ∈ l, 0 ≤ z ∧ z ≤ 4294967295) (hp : kind = 4 → Hp l) (w1 : 1 ≤ o) (w6 : o ≤ 6) (v0 : 0 ≤ x) (v1 : x ≤ 4294967295) :
    LF (decide (kind = 3)) l o x (ldo kind l o x) ∧ (kind = 4 → Hp (ldo kind l o x).1) := by
  have : kind = 1 ∨ kind = 2 ∨ kind = 3 ∨ kind = 4 := by omega
  rcases this with rfl | rfl | rfl | rfl
  · exact ⟨qdo_facts (k := k) hl hv w1 w6 v0 v1, by simp⟩
  · exact ⟨sdo_facts (k := k) hl hv w1 w6 v0 v1, by simp⟩
  · exact ⟨ddo_facts (k := k) hl hv w1 w6 v0 v1, by simp⟩
  · have := hdo_facts (k := k) hl hv (hp rfl) w1 w6 v0 v1
    exact ⟨this.1, fun _ => this.2⟩
theorem isOb_list {kind : Int} {c : Nat → Nat} (h4 : kind ≤ 4) (h : isOb kind c) : isLb c = true ∧ (kind = 4 → Hp (lst c)) := by
  rcases h with ⟨hk, hl⟩ | ⟨hk, hl, hp⟩ | ⟨hk, _⟩ | ⟨hk, _⟩
  · exact ⟨hl, by omega⟩
  · exact ⟨hl, fun _ => hp⟩
  · omega
  · omega
theorem isOb_ofList {kind : Int} {l : List Int} (h1 : 1 ≤ kind) (h4 : kind ≤ 4) (hl : l.length ≤ 6) (hv : ∀ z ∈ l, 0 ≤ z ∧ z ≤ 4294967295) (hp : kind = 4 → Hp l) : isOb kind (lw l) := by
  have := isLb_of (lw_in hl hv)
  by_cases e : kind = 4
  · exact Or.inr (Or.inl ⟨e, this, by rw [lst_lw hv]; exact hp e⟩)
  · exact Or.inl ⟨by omega, this⟩
theorem odo_facts {kind : Int} {c : Nat → Nat} {o k x : Int} (h : isOb kind c) (w1 : 1 ≤ o) (w6 : o ≤ 6) (k0 : 0 ≤ k) (k1 : k ≤ 1000) (v0 : 0 ≤ x) (v1 : x ≤ 4294967295) : OF kind c o k x (odo kind c o k x) := by
  obtain ⟨b1, b6⟩ := isOb_kind h
  by_cases e5 : kind = 5
  · subst e5
    obtain ⟨h1, h2, h3⟩ : WTab c := by
      rcases h with ⟨hk, _⟩ | ⟨hk, _⟩ | ⟨_, h⟩ | ⟨hk, _⟩ <;> first | exact h | omega
    have f := tdo_facts h3 w1 w6 k0 k1 v0 v1
    have e : odo 5 c o k x = (tw (tdo (tbl c) o k x).1, (tdo (tbl c) o k x).2) := by rw [odo, if_pos rfl]
    rw [e]
    have hs : ∀ d, osz 5 d = (len (tbl d) : Int) := fun d => by rw [osz, if_pos rfl]
    have hl := len_congr (tbl_tw f.rt).2
    refine ⟨Or.inr (Or.inr (Or.inl ⟨rfl, wtab_tw f.rt⟩)), f.code, f.told, f.zero, fun hh => ?_, fun _ a b => ?_, fun _ a b => ?_, fun a => ?_, ?_, fun a => absurd a (by decide), fun a => absurd a (by decide)⟩
    · show wl (tw (tdo (tbl c) o k x).1) = wl c
      rw [f.same hh]; exact tw_tbl h2
    · rw [hs, hs]; show ((len (tbl (tw (tdo (tbl c) o k x).1)) : Nat) : Int) + 1 = _; rw [hl]; have := f.less a b; omega
    · rw [hs, hs]; show ((len (tbl (tw (tdo (tbl c) o k x).1)) : Nat) : Int) = _ ∨ (_ ∧ ((len (tbl (tw (tdo (tbl c) o k x).1)) : Nat) : Int) = _); rw [hl]; have := f.more a b; omega
    · rw [hs]; exact f.count a
    · have := f.wrong; show (tdo (tbl c) o k x).2.1 = 5 ↔ _; rw [this]; omega
  by_cases e6 : kind = 6
  · subst e6
    have h1 : isTb c = true := by
      rcases h with ⟨hk, _⟩ | ⟨hk, _⟩ | ⟨hk, _⟩ | ⟨_, h⟩ <;> first | exact h | omega
    have hc : 0 ≤ ((c 0 : Nat) : Int) ∧ ((c 0 : Nat) : Int) ≤ 4294967295 := by
      unfold isTb at h1
      simp only [Bool.and_eq_true] at h1
      have := upC_all h1.1 (j := 0) (by omega) (by omega)
      omega
    have f := ado_facts hc.1 hc.2 w1 w6 v0 v1
    have e : odo 6 c o k x = (tyw (ado (c 0) o x).1, (ado (c 0) o x).2) := by rw [odo, if_neg (by decide), if_pos rfl]
    rw [e]
    refine ⟨Or.inr (Or.inr (Or.inr ⟨rfl, isTb_tyw f.rt.1 f.rt.2⟩)), f.code, f.told, f.zero, fun hh => ?_, fun a => absurd rfl a, fun a => absurd rfl a, fun a => ?_, ?_, fun a => absurd a (by decide), fun a => absurd a (by decide)⟩
    · show wl (tyw (ado (c 0) o x).1) = wl c
      rw [f.same hh]; exact tyw_0 h1
    · rw [osz, if_neg (by decide)]; exact f.count a
    · have := f.wrong; show (ado (c 0) o x).2.1 = 5 ↔ _; rw [this]; omega
  have h4 : kind ≤ 4 := by omega
  obtain ⟨hb, hp⟩ := isOb_list h4 h
  have hw := isLb_w hb
  obtain ⟨f, g⟩ := ldo_facts (k := k) b1 h4 (by rw [lst_length]; exact hw.len) (lst_val hw) hp w1 w6 v0 v1
  have e : odo kind c o k x = (lw (ldo kind (lst c) o x).1, (ldo kind (lst c) o x).2) := by rw [odo, if_neg e5, if_neg e6]
  rw [e]
  have hs : osz kind c = (lst c).length := by rw [osz, if_neg e5, lst_length]
  have hs2 : ∀ l : List Int, osz kind (lw l) = l.length := fun l => by rw [osz, if_neg e5]; simp [lw]
  refine ⟨isOb_ofList b1 h4 f.len f.val g, f.code, f.told, f.zero, fun hh => ?_, fun _ a b => ?_, fun _ a b => ?_, fun a => ?_, ?_, fun _ a => ?_, fun _ a => ?_⟩
  · show wl (lw (ldo kind (lst c) o x).1) = wl c
    rw [f.same hh]; exact wl_congr (lw_lst hw)
  · show osz kind (lw (ldo kind (lst c) o x).1) + 1 = _; rw [hs, hs2]; have := f.less a b; omega
  · show osz kind (lw (ldo kind (lst c) o x).1) = _ ∨ _; rw [hs, hs2]; have := f.more a b; omega
  · rw [hs]; exact f.count a
  · show (ldo kind (lst c) o x).2.1 = 5 ↔ _; rw [f.wrong]; simp; omega
  · rw [hs]; have := f.take a; show ((ldo kind (lst c) o x).2.1 = 2 ∧ _) ∨ ((ldo kind (lst c) o x).2.1 = 1 ∧ _); omega
  · rw [hs]; have := f.put a; show ((ldo kind (lst c) o x).2.1 = 3 ∧ _) ∨ ((ldo kind (lst c) o x).2.1 = 1 ∧ _); omega
theorem isOb_zero {kind : Int} (h1 : 1 ≤ kind) (h6 : kind ≤ 6) : isOb kind wz := by
  by_cases h4 : kind ≤ 4
  · have : isLb wz = true := by decide
    by_cases e : kind = 4
    · exact Or.inr (Or.inl ⟨e, this, Hp.nil⟩)
    · exact Or.inl ⟨by omega, this⟩
  by_cases e5 : kind = 5
  · exact Or.inr (Or.inr (Or.inl ⟨e5, by decide, by decide, RT.zero⟩))
  · exact Or.inr (Or.inr (Or.inr ⟨by omega, by decide⟩))
end Go.Proofs.Ytgkgkiheoadbfaa.Tab
namespace Go.Proofs.Ytgkgkiheoadbfaa
set_option maxRecDepth 20000
open Go.RowKit

/-- An operation that is right: 4.1. -/
structure Rt (w k v : Int) : Prop where
  w1 : 1 ≤ w
  w6 : w ≤ 6
  k0 : 0 ≤ k
  k1 : k ≤ 1000
  v0 : 0 ≤ v
  v1 : v ≤ 4294967295

theorem within_yes (n a b : Int) (w : World) (h1 : a ≤ n) (h2 : n ≤ b) :
    Calls Try.prog 34 #[.int .i64 n, .int .i64 a, .int .i64 b] w fun e w' => e = .returned (.bool true) ∧ w' = w := by
  go_enter Try.func34, Try.ntmps34
  go_wp2
  go_ret
  exact ⟨rfl, rfl⟩

theorem within_no (n a b : Int) (w : World) (h : n < a ∨ b < n) :
    Calls Try.prog 34 #[.int .i64 n, .int .i64 a, .int .i64 b] w fun e w' => e = .returned (.bool false) ∧ w' = w := by
  by_cases h1 : a ≤ n
  · have h2 : ¬ n ≤ b := by omega
    clear h
    go_enter Try.func34, Try.ntmps34
    go_wp2
    go_ret
    exact ⟨rfl, rfl⟩
  · clear h
    go_enter Try.func34, Try.ntmps34
    go_wp2
    go_ret
    exact ⟨rfl, rfl⟩

theorem opRight_is {o k v : Int} (h : Rt o k v) (w : World) :
    Calls Try.prog 14 #[.agg #[.int .i64 o, .int .i64 k, .int .i64 v]] w fun e w' => e = .returned (.bool true) ∧ w' = w.alloc (.cells #[.int .i64 o, .int .i64 k, .int .i64 v] 54) := by
  obtain ⟨h1, h2, h3, h4, h5, h6⟩ := h
  go_enter Try.func14, Try.ntmps14
  go_wp2_with (go_at_call 34; refine (within_yes _ _ _ _ (by omega) (by omega)).mono ?_; rintro e w' ⟨rfl, rfl⟩)
  go_ret
  exact ⟨rfl, rfl⟩

theorem not_rt {o k v : Int} (h : ¬ Rt o k v) : (o < 1 ∨ 6 < o) ∨ (1 ≤ o ∧ o ≤ 6) ∧ ((k < 0 ∨ 1000 < k) ∨ (0 ≤ k ∧ k ≤ 1000) ∧ (v < 0 ∨ 4294967295 < v)) := by
  have : ¬ (1 ≤ o ∧ o ≤ 6 ∧ 0 ≤ k ∧ k ≤ 1000 ∧ 0 ≤ v ∧ v ≤ 4294967295) := fun ⟨a, b, c, d, e, f⟩ => h ⟨a, b, c, d, e, f⟩
  omega

theorem opRight_isnt {o k v : Int} (h : ¬ Rt o k v) (w : World) :
    Calls Try.prog 14 #[.agg #[.int .i64 o, .int .i64 k, .int .i64 v]] w fun e w' => e = .returned (.bool false) ∧ w' = w.alloc (.cells #[.int .i64 o, .int .i64 k, .int .i64 v] 54) := by
  rcases not_rt h with h1 | ⟨⟨h1, h2⟩, h3 | ⟨⟨h3, h4⟩, h5⟩⟩
  · clear h
    go_enter Try.func14, Try.ntmps14
    go_wp2_with (go_at_call 34; refine (within_no _ _ _ _ (by omega)).mono ?_; rintro e w' ⟨rfl, rfl⟩)
    go_ret
    exact ⟨rfl, rfl⟩
  · clear h
    go_enter Try.func14, Try.ntmps14
    go_wp2_with fail
    refine (within_yes _ _ _ _ h1 h2).mono ?_
    rintro e w' ⟨rfl, rfl⟩
    go_wp2_with fail
    refine (within_no _ _ _ _ h3).mono ?_
    rintro e w' ⟨rfl, rfl⟩
    go_wp2
    go_ret
    exact ⟨rfl, rfl⟩
  · clear h
    go_enter Try.func14, Try.ntmps14
    go_wp2_with fail
    refine (within_yes _ _ _ _ h1 h2).mono ?_
    rintro e w' ⟨rfl, rfl⟩
    go_wp2_with fail
    refine (within_yes _ _ _ _ h3 h4).mono ?_
    rintro e w' ⟨rfl, rfl⟩
    go_wp2_with fail
    refine (within_no _ _ _ _ h5).mono ?_
    rintro e w' ⟨rfl, rfl⟩
    go_wp2
    go_ret
    exact ⟨rfl, rfl⟩

theorem opRight_yes {o k v : Int} (h : Rt o k v) (w : World) :
    Calls Try.prog 14 #[.agg #[.int .i64 o, .int .i64 k, .int .i64 v]] w fun e w' => e = .returned (.bool true) ∧ Gr w w' :=
  (opRight_is h w).mono fun _ _ ⟨he, hw⟩ => ⟨he, hw ▸ (Gr.refl w).alloc _ _⟩
theorem opRight_no {o k v : Int} (h : ¬ Rt o k v) (w : World) :
    Calls Try.prog 14 #[.agg #[.int .i64 o, .int .i64 k, .int .i64 v]] w fun e w' => e = .returned (.bool false) ∧ Gr w w' :=
  (opRight_isnt h w).mono fun _ _ ⟨he, hw⟩ => ⟨he, hw ▸ (Gr.refl w).alloc _ _⟩
end Go.Proofs.Ytgkgkiheoadbfaa
namespace Go.Proofs.Ytgkgkiheoadbfaa.Tab
set_option maxRecDepth 20000
open Go.RowKit
set_option linter.unusedVariables false

/-- What words are a record: 12.2. -/
abbrev aR1 (r : Nat → Nat) (t : Nat) : Prop := (r (18 + t) = 0 ↔ r (22 + t) = 0) ∧ (r (18 + t) = 0 ∨ Aw (r (18 + t)))
abbrev nR1 (r : Nat → Nat) (t : Nat) : Prop := r (22 + t) ≤ r 28 ∧ ∀ o, o < t → r (22 + t) = 0 ∨ r (22 + t) ≠ r (22 + o)
abbrev zR (r : Nat → Nat) : Prop := ∀ j, j < 3 → r (29 + j) = 0
abbrev tR (r : Nat → Nat) : Prop := r 26 < 16 ∧ r 27 ≤ 1099511627776 ∧ r 28 ≤ 1099511627776
abbrev aR (r : Nat → Nat) : Prop := ∀ t, t < 4 → aR1 r t
abbrev nR (r : Nat → Nat) : Prop := ∀ t, t < 4 → nR1 r t
def isRec (r : Nat → Nat) : Prop := isOb (r 0 : Nat) (ob r) ∧ aR r ∧ nR r ∧ zR r ∧ tR r
/-- Done. -/
def rdo (r : Nat → Nat) (t : Nat) (o k x : Int) : Nat → Nat := fun j =>
  if j = 26 then r 26 ^^^ 2 ^ t else if j = 28 ∨ j = 22 + t then r 28 + 1 else if j = 18 + t then ansN (odo (r 0 : Nat) (ob r) o k x).2.1.toNat (odo (r 0 : Nat) (ob r) o k x).2.2.toNat
  else if 1 ≤ j ∧ j < 18 then (odo (r 0 : Nat) (ob r) o k x).1 (j - 1) else r j

theorem lst_congr {c d : Nat → Nat} (h : WList c) (e : ∀ j, j < 17 → d j = c j) : lst d = lst c := by
  unfold lst
  rw [e 0 (by decide)]
  refine List.map_congr_left fun i hi => ?_
  have h1 : i < c 0 := by simpa using hi
  have := h.len
  rw [e (i + 1) (by omega)]
theorem upC_congr {c d : Nat → Nat} {off n : Nat} {m : Int} (e : ∀ j, j < 17 → d j = c j) (hn : off + n ≤ 17) (h : upC c off n m = true) : upC d off n m = true :=
  upC_iff.2 fun j hj => by rw [e (off + j) (by omega)]; exact upC_iff.1 h j hj
theorem isOb_congr {k : Int} {c d : Nat → Nat} (e : ∀ j, j < 17 → d j = c j) (h : isOb k c) : isOb k d := by
  rcases h with ⟨hk, hl⟩ | ⟨hk, hl, hp⟩ | ⟨hk, h1, h2, h3⟩ | ⟨hk, hl⟩
  · exact Or.inl ⟨hk, isLb_of ((isLb_w hl).congr e)⟩
  · exact Or.inr (Or.inl ⟨hk, isLb_of ((isLb_w hl).congr e), by rw [lst_congr (isLb_w hl) e]; exact hp⟩)
  · refine Or.inr (Or.inr (Or.inl ⟨hk, upC_congr e (by decide) h1, upC_congr e (by decide) h2, h3.congr fun i hi => ?_⟩))
    unfold tbl
    exact ⟨by show ((d (2 * i) : Nat) : Int) = _; rw [e (2 * i) (by omega)], by show ((d (2 * i + 1) : Nat) : Int) = _; rw [e (2 * i + 1) (by omega)]⟩
  · refine Or.inr (Or.inr (Or.inr ⟨hk, ?_⟩))
    unfold isTb at hl ⊢
    simp only [Bool.and_eq_true] at hl ⊢
    exact ⟨upC_congr e (by decide) hl.1, upC_congr e (by decide) hl.2⟩
theorem isOb_zero' {k : Int} (h1 : 1 ≤ k) (h6 : k ≤ 6) {c : Nat → Nat} (h : ∀ j, j < 17 → c j = 0) : isOb k c := isOb_congr (c := wz) h (isOb_zero h1 h6)

theorem newR_rec {k : Nat} (h1 : 1 ≤ k) (h6 : k ≤ 6) : isRec (newR k) := by
  have e : ∀ j, 0 < j → newR k j = 0 := fun j hj => by unfold newR; rw [if_neg (by omega)]
  refine ⟨isOb_zero' (by show (1 : Int) ≤ ((newR k 0 : Nat) : Int); unfold newR; rw [if_pos rfl]; omega) (by show ((newR k 0 : Nat) : Int) ≤ 6; unfold newR; rw [if_pos rfl]; omega) fun j _ => e _ (by omega), fun t ht => ⟨?_, Or.inl (e _ (by omega))⟩, fun t ht => ⟨?_, fun o ho => Or.inl (e _ (by omega))⟩, fun j hj => e _ (by omega), ?_⟩
  · rw [e _ (by omega), e _ (by omega)]
  · rw [e _ (by omega)]; exact Nat.zero_le _
  · refine ⟨?_, ?_, ?_⟩ <;> rw [e _ (by decide)] <;> decide
theorem xor_four {a t : Nat} (ha : a < 16) (ht : t < 4) : a ^^^ 2 ^ t < 16 := by
  have h1 : 2 ^ t < 2 ^ 4 := Nat.pow_lt_pow_right (by decide) ht
  exact Nat.xor_lt_two_pow (n := 4) ha h1
section
variable {r : Nat → Nat} {t : Nat} {o k x : Int}
theorem rdo_0 (ht : t < 4) : rdo r t o k x 0 = r 0 := by unfold rdo; rw [if_neg (by decide), if_neg (by omega), if_neg (by omega), if_neg (by decide)]
theorem rdo_ob (ht : t < 4) : ∀ j, j < 17 → ob (rdo r t o k x) j = (odo (r 0 : Nat) (ob r) o k x).1 j := fun j hj => by
  unfold ob rdo; rw [if_neg (by omega), if_neg (by omega), if_neg (by omega), if_pos (by omega), show 1 + j - 1 = j by omega]; rfl
theorem rdo_26 : rdo r t o k x 26 = r 26 ^^^ 2 ^ t := by unfold rdo; rw [if_pos rfl]
theorem rdo_27 (ht : t < 4) : rdo r t o k x 27 = r 27 := by unfold rdo; rw [if_neg (by decide), if_neg (by omega), if_neg (by omega), if_neg (by decide)]
theorem rdo_28 : rdo r t o k x 28 = r 28 + 1 := by unfold rdo; rw [if_neg (by decide), if_pos (Or.inl rfl)]
theorem rdo_w : t < 4 → rdo r t o k x (22 + t) = r 28 + 1 := fun ht => by unfold rdo; rw [if_neg (by omega), if_pos (Or.inr rfl)]
theorem rdo_a : t < 4 → rdo r t o k x (18 + t) = ansN (odo (r 0 : Nat) (ob r) o k x).2.1.toNat (odo (r 0 : Nat) (ob r) o k x).2.2.toNat := fun ht => by unfold rdo; rw [if_neg (by omega), if_neg (by omega), if_pos rfl]
theorem rdo_w' {s : Nat} (hs : s < 4) (ht : t < 4) (hne : s ≠ t) : rdo r t o k x (22 + s) = r (22 + s) := by unfold rdo; rw [if_neg (by omega), if_neg (by omega), if_neg (by omega), if_neg (by omega)]
theorem rdo_a' {s : Nat} (hs : s < 4) (ht : t < 4) (hne : s ≠ t) : rdo r t o k x (18 + s) = r (18 + s) := by unfold rdo; rw [if_neg (by omega), if_neg (by omega), if_neg (by omega), if_neg (by omega)]
theorem rdo_z {j : Nat} (ht : t < 4) (hj : j < 3) : rdo r t o k x (29 + j) = r (29 + j) := by unfold rdo; rw [if_neg (by omega), if_neg (by omega), if_neg (by omega), if_neg (by omega)]
theorem odo_ft (hO : isOb (r 0 : Nat) (ob r)) (hR : Rt o k x) : Ft ((odo (r 0 : Nat) (ob r) o k x).2.1.toNat : Nat) ((odo (r 0 : Nat) (ob r) o k x).2.2.toNat : Nat) := by
  have f := odo_facts hO hR.w1 hR.w6 hR.k0 hR.k1 hR.v0 hR.v1
  have h1 := f.code; have h2 := f.told; have h3 := f.zero
  refine ⟨by omega, by omega, by omega, by omega, ?_⟩
  by_cases e : (odo (r 0 : Nat) (ob r) o k x).2.1 = 1
  · exact Or.inl (by omega)
  · exact Or.inr (by have := h3 e; omega)
theorem rdo_rec (h : isRec r) (hR : Rt o k x) (ht : t < 4) (hc : r 28 < 1099511627776) : isRec (rdo r t o k x) := by
  obtain ⟨hO, hA, hN, hZ, hT⟩ := h
  have f := odo_facts hO hR.w1 hR.w6 hR.k0 hR.k1 hR.v0 hR.v1
  have ft := odo_ft hO hR
  refine ⟨?_, fun s hs => ?_, fun s hs => ?_, fun j hj => ?_, ?_⟩
  · rw [rdo_0 ht]; exact isOb_congr (rdo_ob ht) f.ob
  · by_cases e : s = t
    · subst e
      unfold aR1
      rw [rdo_a hs, rdo_w hs]
      exact ⟨⟨fun h => absurd h (ansN_pos ft), fun h => by omega⟩, Or.inr (aw_ans ft)⟩
    · unfold aR1
      rw [rdo_a' hs ht e, rdo_w' hs ht e]; exact hA s hs
  · unfold nR1
    rw [rdo_28]
    by_cases e : s = t
    · subst e
      rw [rdo_w hs]
      refine ⟨Nat.le_refl _, fun o2 ho => Or.inr ?_⟩
      rw [rdo_w' (by omega) ht (by omega)]
      have := (hN o2 (by omega)).1
      omega
    · rw [rdo_w' hs ht e]
      have hs1 := hN s hs
      refine ⟨by omega, fun o2 ho => ?_⟩
      by_cases e2 : o2 = t
      · subst e2
        rw [rdo_w (by omega)]; omega
      · rw [rdo_w' (by omega) ht e2]; exact hs1.2 o2 ho
  · rw [rdo_z ht hj]; exact hZ j hj
  · unfold tR
    rw [rdo_26, rdo_27 ht, rdo_28]
    exact ⟨xor_four hT.1 ht, hT.2.1, by omega⟩
end
theorem isRec.ob1 {r : Nat → Nat} (h : isRec r) : 1 ≤ ((r 0 : Nat) : Int) ∧ ((r 0 : Nat) : Int) ≤ 6 := isOb_kind h.1
end Go.Proofs.Ytgkgkiheoadbfaa.Tab
namespace Go.Proofs.Ytgkgkiheoadbfaa.Tab
set_option maxRecDepth 20000
open Go.RowKit
set_option linter.unusedVariables false

theorem rec_array : ∃ n e, Try.prog.underlying 24 = some (.array n e) := ⟨_, _, Try.underlying24⟩
theorem rwR (r : Nat → Nat) : Rw Try.prog 24 (rl r) := ⟨let ⟨_, _, h⟩ := rec_array; ⟨_, h, rfl⟩, by rw [rl_length]; kernel_rfl, rl_one r⟩
/-- A copy of a row, as a step. -/
theorem cpR {P : Program} {o : Oper} {a : Act} {w : World} {K : Act → World → Prop} {Q : Exit → Act → World → Prop} {dT sT elem : TypeId} {x y : Operand} (ho : o.op = .call { callee := .builtin .copy, args := #[x, y], argTypes := #[dT, sT] })
    (hu : P.underlying dT = some (.slice elem)) (hsz : (P.info? elem).map (·.size) = some 1) {b off dLen dCap bs os sLen sCap : Nat} {vs : List Value} (hn : vs.length = Nat.min sLen dLen)
    (hsrc : ∀ j v, vs[j]? = some v → w.cell? ⟨bs, os + j, none⟩ = some v) (ht : w.there b off vs.length) (h1 : ∀ v ∈ vs, v.oneCell' = true)
    (k : K (a.put o.dst (goInt vs.length)) (w.setCells b off vs)) (hx : a.eval x = .slice (some ⟨b, off, none⟩) dLen dCap := by rfl) (hy : a.eval y = .slice (some ⟨bs, os, none⟩) sLen sCap := by rfl) : o.wp P a w K Q := by
  have hadd : ∀ j, (⟨bs, os, none⟩ : Addr).add j = ⟨bs, os + j, none⟩ := fun j => by unfold Addr.add; split <;> simp_all
  have hrun := run_copy_cells (P := P) w dT sT o.type elem b off dLen dCap ⟨bs, os, none⟩ sLen sCap vs hu hsz hn (fun j v hv => by rw [hadd]; exact hsrc j v hv) (fun j hj => (ht j hj).1) (fun j hj => (ht j hj).2) h1
  unfold Oper.wp
  simp [execOp, ho, resolve, invoke, builtin, hx, hy, hrun, Result.andThen]
  exact k
theorem sz_u : (Try.prog.info? 22).map (·.size) = some 1 := by kernel_rfl
end Go.Proofs.Ytgkgkiheoadbfaa.Tab
namespace Go.Proofs.Ytgkgkiheoadbfaa.Tab
set_option maxRecDepth 20000
open Go.RowKit

theorem own_new {B : Nat} {w : World} {v : Value} {xs : List Int} (h : Own B w v xs) (o : Obj) : Own B (w.alloc o) v xs := World.ownsRow.alloc h o
theorem rwithin_yes (n a b : Int) (w : World) (h1 : a ≤ n) (h2 : n ≤ b) :
    Calls Try.prog 19 #[.int .i64 n, .int .i64 a, .int .i64 b] w fun e w' => e = .returned (.bool true) ∧ w' = w := by
  go_enter Try.func19, Try.ntmps19
  go_wp2
  go_ret
  exact ⟨rfl, rfl⟩
theorem rwithin_no (n a b : Int) (w : World) (h : n < a ∨ b < n) :
    Calls Try.prog 19 #[.int .i64 n, .int .i64 a, .int .i64 b] w fun e w' => e = .returned (.bool false) ∧ w' = w := by
  by_cases h1 : a ≤ n
  · have h2 : ¬ n ≤ b := by omega
    clear h
    go_enter Try.func19, Try.ntmps19
    go_wp2
    go_ret
    exact ⟨rfl, rfl⟩
  · clear h
    go_enter Try.func19, Try.ntmps19
    go_wp2
    go_ret
    exact ⟨rfl, rfl⟩

/-- The first i slots of a key's row. -/
def rowL (k : Int) (i : Nat) : List Int := (List.range i).map fun j => (rowAt k j : Int)
theorem rowL_len (k : Int) (i : Nat) : (rowL k i).length = i := by simp [rowL]
theorem rowL_succ (k : Int) (i : Nat) : rowL k (i + 1) = rowL k i ++ [(rowAt k i : Int)] := by simp [rowL, List.range_succ]
theorem rowL_at (k : Int) {i n : Nat} (h : i < n) : (rowL k n).getD i 0 = (rowAt k i : Int) := by simp [rowL, List.getD, h]

set_option maxHeartbeats 1000000 in
theorem row_is (k : Int) (h0 : 0 ≤ k) (h1 : k ≤ 1000) (w : World) :
    Calls Try.prog 54 #[.int .i64 k] w fun e w' => ∃ v, e = .returned v ∧ IsL w.heap.size w' v (rowL k 8) ∧ Below w.heap.size w w' := by
  have N0 : Hid (Own w.heap.size w (.slice none 0 0) []) := World.ownsRow_nil w _ _ 1
  go_enter Try.func54, Try.ntmps54
  go_wp2_with fail
  go_loopg [3, 5] 8 (fun gg s3 s5 wt => ∃ i : Nat, i ≤ 8 ∧ 8 - i ≤ gg ∧ s5 = .int .i64 i ∧ Hid (Own w.heap.size wt s3 (rowL k i)) ∧ Hid (Below w.heap.size w wt))
  case atStart => exact ⟨0, by omega, by omega, rfl, N0, Below.refl _ _⟩
  case round =>
    obtain ⟨i, hi, hgg, rfl, O, B⟩ := hrel
    clear N0
    by_cases hlt : i < 8
    · have RS : Hid (rowL k (i + 1) = rowL k i ++ [(rowAt k i : Int)]) := rowL_succ k i
      have ep : (k * 5 % 8 + (i : Int)) % 8 = (rowAt k i : Nat) := by unfold rowAt home; omega
      have hl : Hid ((rowL k i).length + 1 ≤ 1000000) := by have := rowL_len k i; show (rowL k i).length + 1 ≤ 1000000; omega
      generalize rowAt k i = p at *
      have L : Hid (IsL 0 (wr.alloc (.cells #[.int .i64 (p : Int)] 3)) (.slice (some ⟨wr.heap.size, 0, none⟩) 1 1) [(p : Int)]) := IsL.lit wr [(p : Int)] Nat.zero_lt_one
      have O' : Hid (Own w.heap.size (wr.alloc (.cells #[.int .i64 (p : Int)] 3)) u3 (rowL k i)) := own_new O.out _
      have B' : Hid (Below w.heap.size w (wr.alloc (.cells #[.int .i64 (p : Int)] 3))) := B.out.alloc B.out.size _
      clear O B
      go_wp2_with (at_builtin; refine wpList_onto rfl rfl (.tmp 8) (.tmp 15) rfl rfl rfl B'.out.size O'.out L.out hl.out ?_; intro v3 w3 hO3 hb3; have Q3 : Hid (Own w.heap.size w3 v3 (rowL k i ++ [(p : Int)]) ∧ Below w.heap.size w w3) := ⟨hO3, B'.out.trans hb3⟩; clear hO3 hb3)
      go_roundg (8 - (i + 1))
      case measure => omega
      case rel => exact ⟨i + 1, by omega, by omega, by go_num, RS.out ▸ Q3.out.1, Q3.out.2⟩
    · obtain rfl : i = 8 := by omega
      go_wp2
      go_ret
      exact ⟨_, rfl, O.out.isL, B.out⟩
theorem rslot_at0 (t : Tb) (w : World) : (Instr.index 38 (.agg t.all.toArray) (.int .i64 0)).run Try.prog w = .ok (.agg #[.int .i64 (t.k 0), .int .i64 (t.v 0)]) w := by kernel_rfl
theorem rslot_at1 (t : Tb) (w : World) : (Instr.index 38 (.agg t.all.toArray) (.int .i64 1)).run Try.prog w = .ok (.agg #[.int .i64 (t.k 1), .int .i64 (t.v 1)]) w := by kernel_rfl
theorem rslot_at2 (t : Tb) (w : World) : (Instr.index 38 (.agg t.all.toArray) (.int .i64 2)).run Try.prog w = .ok (.agg #[.int .i64 (t.k 2), .int .i64 (t.v 2)]) w := by kernel_rfl
theorem rslot_at3 (t : Tb) (w : World) : (Instr.index 38 (.agg t.all.toArray) (.int .i64 3)).run Try.prog w = .ok (.agg #[.int .i64 (t.k 3), .int .i64 (t.v 3)]) w := by kernel_rfl
theorem rslot_at4 (t : Tb) (w : World) : (Instr.index 38 (.agg t.all.toArray) (.int .i64 4)).run Try.prog w = .ok (.agg #[.int .i64 (t.k 4), .int .i64 (t.v 4)]) w := by kernel_rfl
theorem rslot_at5 (t : Tb) (w : World) : (Instr.index 38 (.agg t.all.toArray) (.int .i64 5)).run Try.prog w = .ok (.agg #[.int .i64 (t.k 5), .int .i64 (t.v 5)]) w := by kernel_rfl
theorem rslot_at6 (t : Tb) (w : World) : (Instr.index 38 (.agg t.all.toArray) (.int .i64 6)).run Try.prog w = .ok (.agg #[.int .i64 (t.k 6), .int .i64 (t.v 6)]) w := by kernel_rfl
theorem rslot_at7 (t : Tb) (w : World) : (Instr.index 38 (.agg t.all.toArray) (.int .i64 7)).run Try.prog w = .ok (.agg #[.int .i64 (t.k 7), .int .i64 (t.v 7)]) w := by kernel_rfl
theorem rslot_at (t : Tb) (i : Nat) (hi : i < 8) (w : World) :
    (Instr.index 38 (.agg t.all.toArray) (.int .i64 (i : Nat))).run Try.prog w = .ok (.agg #[.int .i64 (t.k i), .int .i64 (t.v i)]) w := by
  have : i = 0 ∨ i = 1 ∨ i = 2 ∨ i = 3 ∨ i = 4 ∨ i = 5 ∨ i = 6 ∨ i = 7 := by omega
  rcases this with rfl | rfl | rfl | rfl | rfl | rfl | rfl | rfl
  · exact rslot_at0 t w
  · exact rslot_at1 t w
  · exact rslot_at2 t w
  · exact rslot_at3 t w
  · exact rslot_at4 t w
  · exact rslot_at5 t w
  · exact rslot_at6 t w
  · exact rslot_at7 t w
theorem rslots_array : ∃ n e, Try.prog.underlying 38 = some (.array n e) := ⟨_, _, Try.underlying38⟩
theorem rslots_size (t : Tb) : (Try.prog.info? 38).map (·.size) = some t.all.length := by rw [t.all_length]; kernel_rfl
theorem rslots_size2 (t : Tb) : (Try.prog.info? 38).map (·.size) = some t.all.toArray.size := by rw [List.size_toArray]; exact rslots_size t
theorem rslot_size : (Try.prog.info? 36).map (·.size) = some 2 := by kernel_rfl

set_option maxHeartbeats 1000000 in
theorem RLen_is (t : Tb) (w : World) : Calls Try.prog 55 #[.agg t.all.toArray] w fun e w' => e = .returned (.int .i64 (len t : Nat)) ∧ Below w.heap.size w w' := by
  have T0 : Hid (TAt (w.alloc (.cells t.all.toArray 38)) w.heap.size t) := TAt.born w t _
  have B0 : Hid (Below w.heap.size w (w.alloc (.cells t.all.toArray 38))) := new_below w _
  have HL : Hid (cnt t 8 = len t) := cnt_len t
  go_enter Try.func55, Try.ntmps55
  go_wp2_with fail
  generalize w.alloc (.cells t.all.toArray 38) = W at T0 B0 ⊢
  generalize hn : w.heap.size = n at T0 ⊢
  have HN : Hid (w.heap.size = n) := hn
  clear hn
  go_loopg [3, 5] 8 (fun gg s3 s5 wt => W = wt ∧ ∃ i : Nat, i ≤ 8 ∧ 8 - i ≤ gg ∧ s5 = .int .i64 i ∧ ∃ c : Nat, c ≤ i ∧ s3 = .int .i64 c ∧ Hid (cnt t i = c))
  case atStart => exact ⟨rfl, 0, by omega, by omega, rfl, 0, by omega, rfl, rfl⟩
  case round =>
    obtain ⟨rfl, i, hi, hgg, rfl, c, hc, rfl, C⟩ := hrel
    by_cases hlt : i < 8
    · have hi1 : (i : Int) < 8 := by omega
      have hi0 : (0 : Int) ≤ (i : Int) := by omega
      have c0 := T0.out.key hlt
      by_cases h0 : t.k i = 0
      · have C' : Hid (cnt t (i + 1) = c) := by show cnt t i + ind t i = c; rw [C.out]; unfold ind; rw [if_pos h0]; rfl
        rw [h0] at c0
        clear h0
        go_wp2
        go_roundg (8 - (i + 1))
        case measure => omega
        case rel => exact ⟨rfl, i + 1, by omega, by omega, by go_num, c, by omega, rfl, C'⟩
      · have C' : Hid (cnt t (i + 1) = c + 1) := by show cnt t i + ind t i = c + 1; rw [C.out]; unfold ind; rw [if_neg h0]
        have m0 : (t.k i == 0) = false := by simp [h0]
        have m1 : (t.k i != 0) = true := by simp [h0]
        clear h0
        go_wp2
        go_roundg (8 - (i + 1))
        case measure => omega
        case rel => exact ⟨rfl, i + 1, by omega, by omega, by go_num, c + 1, by omega, by go_num, C'⟩
    · obtain rfl : i = 8 := by omega
      go_wp2
      go_ret
      refine ⟨by rw [← HL.out, C.out]; rfl, ?_⟩
      first | exact B0.out | exact HN.out ▸ B0.out
end Go.Proofs.Ytgkgkiheoadbfaa.Tab
namespace Go.Proofs.Ytgkgkiheoadbfaa.Tab
set_option maxRecDepth 20000
open Go.RowKit
theorem rwRS (t : Tb) : Rw Try.prog 38 t.all := ⟨let ⟨_, _, h⟩ := rslots_array; ⟨_, h, rfl⟩, rslots_size t, t.all_one⟩
theorem rwRl (x y : Int) : Rw Try.prog 36 [.int .i64 x, .int .i64 y] := two_row x y ⟨_, Try.underlying36, rfl⟩ rslot_size
end Go.Proofs.Ytgkgkiheoadbfaa.Tab
namespace Go.Proofs.Ytgkgkiheoadbfaa.Tab
set_option maxRecDepth 20000
open Go.RowKit

def tg (kind : Int) (v : Value) (t : Tb) (n : Int) : List Value := .int .i64 kind :: v :: (t.all ++ [.int .i64 n])
theorem tg_length (kind : Int) (v : Value) (t : Tb) (n : Int) : (tg kind v t n).length = 19 := by simp [tg, Tb.all_length]
theorem tg_0 (kind : Int) (v : Value) (t : Tb) (n : Int) : (tg kind v t n)[0]? = some (.int .i64 kind) := rfl
theorem tg_1 (kind : Int) (v : Value) (t : Tb) (n : Int) : (tg kind v t n)[1]? = some v := rfl
theorem tg_18 (kind : Int) (v : Value) (t : Tb) (n : Int) : (tg kind v t n)[18]? = some (.int .i64 n) := by
  simp [tg, Tb.all_length]
theorem tg_at (kind : Int) (v : Value) (t : Tb) (n : Int) {j : Nat} (hj : j < 16) : (tg kind v t n)[2 + j]? = some (t.at j) := by
  rw [show 2 + j = j + 1 + 1 by omega, tg, List.getElem?_cons_succ, List.getElem?_cons_succ, List.getElem?_append, if_pos (by rw [Tb.all_length]; exact hj), Tb.all_at t j hj]
theorem tg_one (kind : Int) {v : Value} (hv : v.oneCell' = true) (t : Tb) (n : Int) : ∀ u ∈ tg kind v t n, u.oneCell' = true := by
  intro u hu
  simp only [tg, List.mem_cons, List.mem_append, List.not_mem_nil, or_false] at hu
  rcases hu with rfl | rfl | hu | rfl
  · rfl
  · exact hv
  · exact t.all_one u hu
  · rfl
theorem slice_one (a : Option Addr) (n c : Nat) : (Value.slice a n c).oneCell' = true := rfl
theorem tg_zero (kind : Int) : (tg kind (.slice none 0 0) Tb.zero 0).toArray = #[.int .i64 kind, .slice none 0 0, .int .i64 0, .int .i64 0, .int .i64 0, .int .i64 0, .int .i64 0, .int .i64 0, .int .i64 0, .int .i64 0, .int .i64 0, .int .i64 0, .int .i64 0, .int .i64 0, .int .i64 0, .int .i64 0, .int .i64 0, .int .i64 0, .int .i64 0] := rfl
/-- The slots of a thing, as a row within it. -/
theorem Bo.slots {w : World} {b : Nat} {kind : Int} {v : Value} {t : Tb} {n : Int} (h : Bo w b (tg kind v t n)) : w.rangeAt b 2 t.all := fun j u hu => by
  have hj : j < 16 := by have := (List.getElem?_eq_some_iff.1 hu).1; rwa [Tb.all_length] at this
  rw [Tb.all_at t j hj] at hu
  exact h.cell (2 + j) u (by rw [tg_at _ _ _ _ hj]; exact hu)
theorem Bo.tcell {w : World} {b : Nat} {kind : Int} {v : Value} {t : Tb} {n : Int} (h : Bo w b (tg kind v t n)) : w.cell? ⟨b, 0, none⟩ = some (.int .i64 kind) ∧ w.cell? ⟨b, 1, none⟩ = some v ∧ w.cell? ⟨b, 18, none⟩ = some (.int .i64 n) :=
  ⟨h.cell 0 _ rfl, h.cell 1 _ rfl, h.cell 18 _ (tg_18 _ _ _ _)⟩
/-- Another list, another number, another slot. -/
theorem tg_list (kind : Int) (v u : Value) (t : Tb) (n : Int) : (tg kind v t n).set 1 u = tg kind u t n := rfl
theorem tg_num (kind : Int) (v : Value) (t : Tb) (n m : Int) : (tg kind v t n).set 18 (.int .i64 m) = tg kind v t m := by
  simp [tg, Tb.all_length]
end Go.Proofs.Ytgkgkiheoadbfaa.Tab
namespace Go.Proofs.Ytgkgkiheoadbfaa.Tab
set_option maxRecDepth 20000
open Go.RowKit
set_option linter.unusedVariables false

theorem thing_struct : ∃ fs, Try.prog.underlying 40 = some (.struct fs) := ⟨_, Try.underlying40⟩
theorem thing_size (kind : Int) (v : Value) (t : Tb) (n : Int) : (Try.prog.info? 40).map (·.size) = some (tg kind v t n).length := by rw [tg_length]; kernel_rfl
theorem thing_size2 (kind : Int) (v : Value) (t : Tb) (n : Int) : (Try.prog.info? 40).map (·.size) = some (tg kind v t n).toArray.size := by rw [List.size_toArray, tg_length]; kernel_rfl
theorem thing_size3 : (Try.prog.info? 40).map (·.size) = some 19 := by kernel_rfl
theorem tg_all (kind : Int) {v : Value} (hv : v.oneCell' = true) (t : Tb) (n : Int) : (tg kind v t n).toArray.all (·.oneCell') = true := all_oneCell_toArray (tg_one kind hv t n)
theorem results_rowS {P : Program} {fn : Func} {p q : Tmp} {ty : TypeId} (h : fn.results = #[.cell p ty, .tmp q]) (tmps : Array Value) (w : World) (b : Nat) (cs : List Value) (d : TypeDesc) (r : Value) (hp : tmps.getD p undef = .pointer (some ⟨b, 0, none⟩)) (hq : tmps.getD q undef = r)
    (hc : w.rangeAt b 0 cs) (hu : P.underlying ty = some d) (hd : d.isRow = true) (hi : (P.info? ty).map (·.size) = some cs.length) :
    (results fn tmps).run P w = .ok (.tuple #[.agg cs.toArray, r]) w := by
  have hp' : tmps[p]?.getD undef = .pointer (some ⟨b, 0, none⟩) := by simpa using hp
  have hq' : tmps[q]?.getD undef = r := by simpa using hq
  simp [results, h, hp', hq', asAddr, run_loadVar_mid w b 0 ty cs d hc hu hd hi]

theorem Bo.bornTh (w : World) (kind : Int) (ty : TypeId) {n : Nat} (hn : n = w.heap.size) : Bo (w.alloc (.cells #[.int .i64 kind, .slice none 0 0, .int .i64 0, .int .i64 0, .int .i64 0, .int .i64 0, .int .i64 0, .int .i64 0, .int .i64 0, .int .i64 0, .int .i64 0, .int .i64 0, .int .i64 0, .int .i64 0, .int .i64 0, .int .i64 0, .int .i64 0, .int .i64 0, .int .i64 0] ty)) n (tg kind (.slice none 0 0) Tb.zero 0) := by
  rw [← tg_zero]; exact Bo.born w _ ty hn
theorem tg_nil (kind : Int) : tg kind (.slice none 0 0) Tb.zero 0 = [.int .i64 kind, .slice none 0 0, .int .i64 0, .int .i64 0, .int .i64 0, .int .i64 0, .int .i64 0, .int .i64 0, .int .i64 0, .int .i64 0, .int .i64 0, .int .i64 0, .int .i64 0, .int .i64 0, .int .i64 0, .int .i64 0, .int .i64 0, .int .i64 0, .int .i64 0] := congrArg Array.toList (tg_zero kind)
theorem Bo.setZ {w : World} {b : Nat} {k : Int} {v : Value} {t : Tb} {n : Int} (h : Bo w b (tg k v t n)) (kind : Int) : Bo (w.setCells b 0 [.int .i64 kind, .slice none 0 0, .int .i64 0, .int .i64 0, .int .i64 0, .int .i64 0, .int .i64 0, .int .i64 0, .int .i64 0, .int .i64 0, .int .i64 0, .int .i64 0, .int .i64 0, .int .i64 0, .int .i64 0, .int .i64 0, .int .i64 0, .int .i64 0, .int .i64 0]) b (tg kind (.slice none 0 0) Tb.zero 0) := by
  rw [← tg_nil]; exact h.setL (by rw [tg_length, tg_length])
theorem nil_all (kind : Int) : (#[.int .i64 kind, .slice none 0 0, .int .i64 0, .int .i64 0, .int .i64 0, .int .i64 0, .int .i64 0, .int .i64 0, .int .i64 0, .int .i64 0, .int .i64 0, .int .i64 0, .int .i64 0, .int .i64 0, .int .i64 0, .int .i64 0, .int .i64 0, .int .i64 0, .int .i64 0] : Array Value).all (·.oneCell') = true := by
  rw [← tg_zero]; exact all_oneCell_toArray (tg_one kind rfl Tb.zero 0)
theorem Bo.setT {w : World} {b : Nat} {k : Int} {v : Value} {t : Tb} {n : Int} (h : Bo w b (tg k v t n)) (k' : Int) (v' : Value) (t' : Tb) (n' : Int) : Bo (w.setCells b 0 (tg k' v' t' n')) b (tg k' v' t' n') := h.setL (by rw [tg_length, tg_length])
theorem Bo.thereT {w : World} {b : Nat} {k : Int} {v : Value} {t : Tb} {n : Int} (h : Bo w b (tg k v t n)) (k' : Int) (v' : Value) (t' : Tb) (n' : Int) : w.there b 0 (tg k' v' t' n').toArray.size := by
  rw [List.size_toArray, tg_length]; exact h.thereL (tg_length _ _ _ _).symm

/-- Seventeen words lie in block b, from o on. -/
structure Wf (w : World) (b o : Nat) (c : Nat → Nat) : Prop where
  cell : ∀ j, j < 17 → w.cell? ⟨b, o + j, none⟩ = some (.int .u64 (c j : Nat))
theorem Wf.lt {w : World} {b o : Nat} {c : Nat → Nat} (h : Wf w b o c) : b < w.heap.size := World.block_lt_of_cell? w _ (h.cell 0 (by decide))
theorem Wf.later {w w' : World} {b o : Nat} {c : Nat → Nat} (h : Wf w b o c) (hb : Below w.heap.size w w') : Wf w' b o c :=
  ⟨fun j hj => by rw [hb.cell (p := ⟨b, o + j, none⟩) h.lt]; exact h.cell j hj⟩
theorem Wf.keep {w w' : World} {b o : Nat} {c : Nat → Nat} (h : Wf w b o c) (hb : w'.heap[b]? = w.heap[b]?) : Wf w' b o c :=
  ⟨fun j hj => by rw [World.cell?_of_block (w := w) hb]; exact h.cell j hj⟩
theorem Wf.of_bo {w : World} {b : Nat} {c : Nat → Nat} (h : Bo w b (wl c)) : Wf w b 0 c := ⟨fun j hj => by rw [Nat.zero_add]; exact h.word hj⟩

theorem Wf.new {w : World} {b o : Nat} {c : Nat → Nat} (h : Wf w b o c) (x : Obj) : Wf (w.alloc x) b o c := h.later (new_below w x)
theorem Wf.drew {w : World} {b o : Nat} {c : Nat → Nat} (h : Wf w b o c) : Wf w.drew b o c := ⟨h.cell⟩
theorem Wf.asideL {w : World} {b o k : Nat} {c : Nat → Nat} (h : Wf w b o c) (hk : b ≠ k) (p : Nat) (vs : List Value) : Wf (w.setCells k p vs) b o c := h.keep (heap_setCells hk _ _ _)
theorem Wf.aside {w : World} {b o : Nat} {c : Nat → Nat} (h : Wf w b o c) {p : Addr} (hp : b ≠ p.block) (v : Value) : Wf (w.setCell p v) b o c := h.keep (Below.heap_setCell _ _ _ _ hp)
theorem isL_block {B : Nat} {w w' : World} {v : Value} {xs : List Int} (h : IsL B w v xs) (hb : ∀ b, B ≤ b → w'.heap[b]? = w.heap[b]?) : IsL B w' v xs := by
  rcases h with h | ⟨b, off, c, h1, hB, h2, h3, h4, h5⟩
  · exact Or.inl h
  · refine Or.inr ⟨b, off, c, h1, hB, h2, h3, fun j hj => ?_, fun h0 j hj => ?_⟩
    · rw [World.cell?_of_block (w := w) (hb b hB)]; exact h4 j hj
    · rw [World.frozen?_of_block (w := w) (hb b hB)]; exact h5 h0 j hj
end Go.Proofs.Ytgkgkiheoadbfaa.Tab
namespace Go.Proofs.Ytgkgkiheoadbfaa
set_option maxRecDepth 20000
open Go.RowKit
theorem IsL.drew {B : Nat} {w : World} {v : Value} {xs : List Int} (h : IsL B w v xs) : IsL B w.drew v xs := Tab.isL_block h fun _ _ => rfl
theorem IsL.asideL {B k : Nat} {w : World} {v : Value} {xs : List Int} (h : IsL B w v xs) (hk : k < B) (p : Nat) (vs : List Value) : IsL B (w.setCells k p vs) v xs := Tab.isL_block h fun b hb => Tab.heap_setCells (by omega) _ _ _
theorem IsL.aside {B : Nat} {w : World} {v : Value} {xs : List Int} (h : IsL B w v xs) {p : Addr} (hp : p.block < B) (u : Value) : IsL B (w.setCell p u) v xs := h.setCell hp u
theorem Own.new {B : Nat} {w : World} {v : Value} {xs : List Int} (h : Own B w v xs) (o : Obj) : Own B (w.alloc o) v xs := World.ownsRow.alloc h o
theorem Own.drew {B : Nat} {w : World} {v : Value} {xs : List Int} (h : Own B w v xs) : Own B w.drew v xs := h
theorem Own.aside {B : Nat} {w : World} {v : Value} {xs : List Int} (h : Own B w v xs) {p : Addr} (hp : p.block < B) (u : Value) : Own B (w.setCell p u) v xs := ownsRow_setCell_below h hp u
end Go.Proofs.Ytgkgkiheoadbfaa
namespace Go.Proofs.Ytgkgkiheoadbfaa.Tab
set_option maxRecDepth 20000
open Go.RowKit
theorem Bo.laterB {B : Nat} {w w' : World} {b : Nat} {cs : List Value} (h : Bo w b cs) (hB : b < B) (hb : Below B w w') : Bo w' b cs := h.keep (hb.block b hB) (Nat.lt_of_lt_of_le h.lt hb.size)
theorem Wf.laterB {B : Nat} {w w' : World} {b o : Nat} {c : Nat → Nat} (h : Wf w b o c) (hB : b < B) (hb : Below B w w') : Wf w' b o c := h.keep (hb.block b hB)
theorem Gd.laterB {B n : Nat} {w a b : World} (h : Gd n w a) (hB : n ≤ B) (hb : Below B a b) : Gd n w b := ⟨h.1, h.2.trans (hb.mono (h.1 ▸ hB))⟩

/-- What words are a thing of a kind. -/
def WT (c : Nat → Nat) : Prop := (∀ j, j < 16 → c j ≤ 4294967295) ∧ c 16 = 0 ∧ RT (tbl c)
def WN (c : Nat → Nat) : Prop := c 0 ≤ 4294967295 ∧ ∀ j, 1 ≤ j → j < 17 → c j = 0
def isTh (kind : Int) (c : Nat → Nat) : Prop :=
  ((kind = 1 ∨ kind = 2 ∨ kind = 3) ∧ WList c) ∨ (kind = 4 ∧ WList c ∧ Hp (lst c)) ∨ (kind = 5 ∧ WT c) ∨ (kind = 6 ∧ WN c)
theorem isTh.kind {k : Int} {c : Nat → Nat} (h : isTh k c) : 1 ≤ k ∧ k ≤ 6 := by
  rcases h with ⟨h, _⟩ | ⟨h, _⟩ | ⟨h, _⟩ | ⟨h, _⟩ <;> omega
theorem WList.le {c : Nat → Nat} (h : WList c) : ∀ j, j < 17 → c j ≤ 4294967295 := fun j hj => by
  have := h.len
  by_cases e : j = 0
  · subst e; omega
  · by_cases e1 : j ≤ c 0
    · exact h.val j (by omega) e1
    · rw [h.rest j (by omega) hj]; omega
theorem isTh.le {k : Int} {c : Nat → Nat} (h : isTh k c) : ∀ j, j < 17 → c j ≤ 4294967295 := fun j hj => by
  rcases h with ⟨_, h⟩ | ⟨_, h, _⟩ | ⟨_, h⟩ | ⟨_, h⟩
  · exact h.le j hj
  · exact h.le j hj
  · by_cases e : j < 16
    · exact h.1 j e
    · rw [show j = 16 by omega, h.2.1]; omega
  · by_cases e : j = 0
    · subst e; exact h.1
    · rw [h.2 j (by omega) hj]; omega
end Go.Proofs.Ytgkgkiheoadbfaa.Tab
namespace Go.Proofs.Ytgkgkiheoadbfaa.Tab
set_option maxRecDepth 20000
open Go.RowKit
theorem rwTh (k : Int) {v : Value} (hv : v.oneCell' = true) (t : Tb) (n : Int) : Rw Try.prog 40 (tg k v t n) := ⟨let ⟨_, h⟩ := thing_struct; ⟨_, h, rfl⟩, thing_size k v t n, tg_one k hv t n⟩
theorem rwN : Rw Try.prog 40 (tg 0 (.slice none 0 0) Tb.zero 0) := rwTh 0 rfl _ _
theorem rwC (c : Nat → Nat) : Rw Try.prog 28 (wl c) := ⟨let ⟨_, _, h⟩ := cells_array; ⟨_, h, rfl⟩, cells_size c, wl_one c⟩
theorem sz_sl : (Try.prog.info? 34).map (·.size) = some 1 := by kernel_rfl
theorem sz_i : (Try.prog.info? 3).map (·.size) = some 1 := by kernel_rfl
end Go.Proofs.Ytgkgkiheoadbfaa.Tab
namespace Go.Proofs.Ytgkgkiheoadbfaa.Tab
set_option maxRecDepth 20000
open Go.RowKit
set_option linter.unusedVariables false

theorem rwO (o k x : Int) : Rw Try.prog 54 [.int .i64 o, .int .i64 k, .int .i64 x] := ⟨⟨_, Try.underlying54, rfl⟩, by kernel_rfl, by intro v hv; simp at hv; rcases hv with rfl | rfl | rfl <;> rfl⟩
set_option maxHeartbeats 2000000 in
theorem recKind_is (r : Nat → Nat) {q : Nat} (hq : q = min (r 0) 4294967296) (w : World) :
    Calls Try.prog 7 #[.agg (rl r).toArray] w (fun e w' => e = .returned (.int .i64 (q : Nat)) ∧ Below w.heap.size w w') := by
  have e1 : min ((r 0 : Nat) : Int) 4294967296 = (q : Int) := by omega
  have e2 : (if (4294967296 : Int) < ((r 0 : Nat) : Int) then (4294967296 : Int) else ((r 0 : Nat) : Int)) = (q : Int) := by split <;> omega
  have e3 : wrap64 (q : Int) = q := by unfold wrap64; omega
  have hM : Hid _ := ((Ms.nil w).born (rl r) 24 (b := w.heap.size) rfl)
  have x1 := (hM.out.at 0 rfl).rword (show 0 < 32 by decide)
  clear hq
  go_enter Try.func7, Try.ntmps7
  go_wp2
  go_ret
  exact ⟨ret_int (by omega), hM.out.below⟩
set_option maxHeartbeats 4000000 in
theorem recObject_is (r : Nat → Nat) (w : World) :
    Calls Try.prog 8 #[.agg (rl r).toArray] w (fun e w' => e = .returned (.agg (wl (ob r)).toArray) ∧ Below w.heap.size w w') := by
  have hM : Hid _ := ((((Ms.nil w).born (rl r) 24 (b := w.heap.size) rfl).bornR wz_all.symm 28 (b := w.heap.size + 1) (by simp)).bornR wz_all.symm 28 (b := w.heap.size + 2) (by simp))
  go_enter Try.func8, Try.ntmps8
  go_wp2_with fail
  generalize World.alloc _ _ = W at hM ⊢
  generalize hsz : w.heap.size = n at hM ⊢
  clear hsz
  replace hM := hid (hM.out.drew)
  refine wp_region_held_drew (S := fun w' => Bo w' n (rl r)) (by kernel_rfl) (hM.out.at 2 rfl) (fun hH => ?_)
  generalize World.drew _ = W at hM hH  ⊢
  refine tk 0 rfl hH ?_
  simp only [Act.put, p1, p2, p3]
  refine tk 1 rfl hH ?_
  simp only [Act.put, p1, p2, p3]
  refine rd1 2 rfl (fun K hK => ?_)
  refine cpR rfl Try.underlying31 sz_u (vs := wl (ob r)) (dLen := 17) (sLen := 31) (by rw [wl_length]; rfl) ((hM.out.at 2 rfl).objCells) ((hM.out.at 0 rfl).thereL (by rw [wl_length, wl_length])) (wl_one _) ?_
  replace hM := hid (hM.out.put 0 rfl (wl (ob r)) (by rw [wl_length, wl_length]))
  refine hK.out _ _ (hM.out.at 2 rfl) (fun hH => ?_)
  clear hK K
  generalize World.setCells _ _ _ _ = W at hM hH ⊢
  try simp only [Act.put, p1, p2, p3]
  refine wpAnyH_done (by kernel_rfl) ?_ _
  go_wp2_with (first
    | (refine lR rfl (hM.out.at 0 rfl) rfl (rwC (ob r)) ?_)
    | (refine sR rfl (hM.out.at 1 rfl) rfl ((rwC wz).len (rwC (ob r))) (rwC (ob r)) ?_
       replace hM := hid (hM.out.put 1 rfl (wl (ob r)) ((rwC wz).len (rwC (ob r))))
       generalize World.setCells _ _ _ _ = W at hM ⊢))
  exact bodyPost_ret (res1 Try.results8 (hM.out.at 1 rfl) (rwC (ob r))) rfl ⟨rfl, hM.out.below⟩
end Go.Proofs.Ytgkgkiheoadbfaa.Tab
namespace Go.Proofs.Ytgkgkiheoadbfaa
set_option maxRecDepth 20000
open Go.ChangeShapes Go.WideShapes Go.ChangeAt Go.RowKit

set_option maxRecDepth 20000 in
theorem op_of_trod {H : Type} {enc : TypeId × Value → H} {W : World} {r : Reach} {b0 : Nat} {v : Value} {d : DataW H} {p : List MemPlace} (hval : Value.okWide Try.prog W r b0 54 v)
    (h : DataW.Trod enc Try.prog W 0 (fun _ => true) true 54 v d p) :
    ∃ a b c : Int, v = .agg #[.int .i64 a, .int .i64 b, .int .i64 c] ∧ (Lit.int .i64 a).wf = true ∧ (Lit.int .i64 b).wf = true ∧ (Lit.int .i64 c).wf = true := by
  obtain ⟨v0, v1, v2, y0, y1, y2, n, rfl, _, _, h0, h1, h2⟩ := Go.Joins.open_agg3 Try.underlying54 (by kernel_rfl) (by kernel_rfl) hval h
  obtain ⟨a, e0, _, w0⟩ := DataW.trod_int Try.underlying3 h0
  obtain ⟨b, e1, _, w1⟩ := DataW.trod_int Try.underlying3 h1
  obtain ⟨c, e2, _, w2⟩ := DataW.trod_int Try.underlying3 h2
  simp only [List.cons.injEq, and_true] at e0 e1 e2
  subst e0 e1 e2
  exact ⟨a, b, c, rfl, w0, w1, w2⟩

theorem laid_out : laidOutB Try.prog = true := by kernel_rfl
theorem op_stay {H : Type} {enc : TypeId × Value → H} {W W' : World} {sp : Nat → Bool} {v : Value} {d : DataW H} {p : List MemPlace}
    (h : DataW.Trod enc Try.prog W 0 (fun _ => true) true 54 v d p) (hb : Below W.heap.size W W') (hlt : ∀ x ∈ p, x.block < W.heap.size) (hs : ∀ x ∈ p, sp x.block = true) :
    DataW.Trod enc Try.prog W' 0 sp true 54 v d p :=
  WideElems.Trod_stays laid_out (by kernel_rfl) (of_decide_eq_true (by kernel_rfl)) h (fun x hx => hb.same (hlt x hx)) hs
end Go.Proofs.Ytgkgkiheoadbfaa
namespace Go.Proofs.Ytgkgkiheoadbfaa
set_option maxRecDepth 20000
open Go.ChangeShapes Go.WideShapes Go.ChangeAt Go.RowKit

def dl (t o k x c y : Int) : List Value := [.int .i64 t, .int .i64 o, .int .i64 k, .int .i64 x, .int .i64 c, .int .i64 y]
/-- n deeds lie in the slice v. -/
def Dds (w : World) (v : Value) (n : Nat) : Prop :=
  (n = 0 ∧ ∃ (a : Option Addr) (c : Nat), v = .slice a 0 c ∧ (a = none → c = 0)) ∨
  ∃ (b off c : Nat), v = .slice (some ⟨b, off, none⟩) n c ∧ 0 < n ∧ n ≤ c ∧ n ≤ 9223372036854775807 ∧
    ∀ i, i < n → ∃ t o k x cc y : Int, w.rangeAt b (off + i * 6) (dl t o k x cc y)
theorem Dds.later {w w' : World} {v : Value} {n : Nat} (h : Dds w v n) (hb : Below w.heap.size w w') : Dds w' v n := by
  rcases h with h | ⟨b, off, c, h1, h2, h3, h4, h5⟩
  · exact Or.inl h
  · refine Or.inr ⟨b, off, c, h1, h2, h3, h4, fun i hi => ?_⟩
    obtain ⟨t, o, k, x, cc, y, hr⟩ := h5 i hi
    exact ⟨t, o, k, x, cc, y, fun j v hv => by
      have := hr j v hv
      rw [hb.cell (World.block_lt_of_cell? w _ this)]; exact this⟩

theorem op_fields' : ∃ f0 f1 f2 : Field, Try.prog.underlying 54 = some (.struct #[f0, f1, f2]) ∧
    (f0.type = 3 ∧ f0.offset = 0) ∧ (f1.type = 3 ∧ f1.offset = 1) ∧ (f2.type = 3 ∧ f2.offset = 2) :=
  ⟨_, _, _, Try.underlying54, ⟨rfl, rfl⟩, ⟨rfl, rfl⟩, ⟨rfl, rfl⟩⟩
theorem answer_fields : ∃ f0 f1 : Field, Try.prog.underlying 42 = some (.struct #[f0, f1]) ∧
    (f0.type = 3 ∧ f0.offset = 0) ∧ (f1.type = 3 ∧ f1.offset = 1) :=
  ⟨_, _, Try.underlying42, ⟨rfl, rfl⟩, ⟨rfl, rfl⟩⟩
theorem deed_fields : ∃ f0 f1 f2 : Field, Try.prog.underlying 80 = some (.struct #[f0, f1, f2]) ∧
    (f0.type = 3 ∧ f0.offset = 0) ∧ (f1.type = 54 ∧ f1.offset = 1) ∧ (f2.type = 42 ∧ f2.offset = 4) :=
  ⟨_, _, _, Try.underlying80, ⟨rfl, rfl⟩, ⟨rfl, rfl⟩, ⟨rfl, rfl⟩⟩

set_option maxRecDepth 20000 in
theorem adeeds_of_trod {H : Type} {enc : TypeId × Value → H} {W : World} {r : Reach} {b0 : Nat} {v : Value} {d : DataW H} {p : List MemPlace} (hval : Value.okWide Try.prog W r b0 52 v)
    (h : DataW.Trod enc Try.prog W 0 (fun _ => true) true 52 v d p) : ∃ n, Dds W v n := by
  obtain ⟨fuel, hf⟩ := h
  obtain ⟨A, l, c, rfl⟩ := okWide_slice Try.underlying52 hval
  have hc6 : Try.prog.cellsOf 80 = 6 := by kernel_rfl
  have hc3 : Try.prog.cellsOf 54 = 3 := by kernel_rfl
  have hc2 : Try.prog.cellsOf 42 = 2 := by kernel_rfl
  have ci : Try.prog.cellsOf 3 = 1 := by kernel_rfl
  obtain ⟨f0, f1, f2, hu, ⟨t0, o0⟩, ⟨t1, o1⟩, ⟨t2, o2⟩⟩ := deed_fields
  obtain ⟨g0, g1, g2, hg, ⟨tg0, og0⟩, ⟨tg1, og1⟩, ⟨tg2, og2⟩⟩ := op_fields'
  obtain ⟨e0, e1, he, ⟨te0, oe0⟩, ⟨te1, oe1⟩⟩ := answer_fields
  rcases Deep.open_slice Try.underlying52 hf with ⟨hcs, _⟩ | ⟨a, len, cap, m, n, D, Pl, hcs, _, hl, hmx, hm, _, hx⟩
  · simp [Value.cells] at hcs
    obtain ⟨rfl, rfl, rfl⟩ := hcs
    exact ⟨0, Or.inl ⟨rfl, none, 0, rfl, fun _ => rfl⟩⟩
  · simp [Value.cells] at hcs
    obtain ⟨rfl, rfl, rfl⟩ := hcs
    by_cases h0 : l = 0
    · subst h0
      exact ⟨0, Or.inl ⟨rfl, some a, c, rfl, fun h => by cases h⟩⟩
    have hcell : ∀ i, i < l → ∃ t o k x cc y : Int, ∀ j v, (dl t o k x cc y)[j]? = some v → W.cell? ((a.add (i * 6)).add j) = some v := by
      intro i hi
      obtain ⟨cs', h1, h2⟩ := hx i (by rw [hm]; simp; omega)
      rw [hc6] at h1
      obtain ⟨_, hlen, hcell⟩ := World.cells?_some h1
      obtain ⟨xs, k, _, _, _, hxl, hfl⟩ := DataW.trod_struct hu h2
      match cs', hlen, xs, hxl with
      | [v0, v1, v2, v3, v4, v5], _, [y0, y1, y2], _ =>
        have k0 := hfl 0 f0 rfl
        have k1 := hfl 1 f1 rfl
        have k2 := hfl 2 f2 rfl
        rw [t0, o0, ci] at k0
        rw [t1, o1, hc3] at k1
        rw [t2, o2, hc2] at k2
        obtain ⟨n0, q0, _, _⟩ := DataW.trod_int Try.underlying3 k0
        obtain ⟨ys, k', _, _, _, hyl, hgl⟩ := DataW.trod_struct hg k1
        obtain ⟨zs, k'', _, _, _, hzl, hel⟩ := DataW.trod_struct he k2
        match ys, hyl, zs, hzl with
        | [z0, z1, z2], _, [u0, u1], _ =>
          have m0 := hgl 0 g0 rfl
          have m1 := hgl 1 g1 rfl
          have m2 := hgl 2 g2 rfl
          have m3 := hel 0 e0 rfl
          have m4 := hel 1 e1 rfl
          rw [tg0, og0, ci] at m0
          rw [tg1, og1, ci] at m1
          rw [tg2, og2, ci] at m2
          rw [te0, oe0, ci] at m3
          rw [te1, oe1, ci] at m4
          obtain ⟨n1, q1, _, _⟩ := DataW.trod_int Try.underlying3 m0
          obtain ⟨n2, q2, _, _⟩ := DataW.trod_int Try.underlying3 m1
          obtain ⟨n3, q3, _, _⟩ := DataW.trod_int Try.underlying3 m2
          obtain ⟨n4, q4, _, _⟩ := DataW.trod_int Try.underlying3 m3
          obtain ⟨n5, q5, _, _⟩ := DataW.trod_int Try.underlying3 m4
          simp at q0 q1 q2 q3 q4 q5
          subst q0 q1 q2 q3 q4 q5
          refine ⟨n0, n1, n2, n3, n4, n5, fun j v hv => ?_⟩
          have hj : j < 6 := by simpa [dl] using (List.getElem?_eq_some_iff.1 hv).1
          have := hcell j hj
          rw [this]
          simp only [dl] at hv
          exact hv
    obtain ⟨b, off, spot⟩ := a
    have hspot : spot = none := by
      obtain ⟨t, o, k, x, cc, y, h1⟩ := hcell 0 (by omega)
      have := h1 0 _ rfl
      simpa [Addr.add] using World.cell?_spot this
    subst hspot
    refine ⟨l, Or.inr ⟨b, off, c, rfl, by omega, hl, by unfold maxLen at hmx; omega, fun i hi => ?_⟩⟩
    obtain ⟨t, o, k, x, cc, y, h1⟩ := hcell i hi
    refine ⟨t, o, k, x, cc, y, fun j v hv => ?_⟩
    have := h1 j v hv
    rw [Addr.add_mid, Addr.add_mid] at this
    exact this

theorem adeeds_stay {H : Type} {enc : TypeId × Value → H} {W W' : World} {sp : Nat → Bool} {v : Value} {d : DataW H} {p : List MemPlace}
    (h : DataW.Trod enc Try.prog W 0 (fun _ => true) true 52 v d p) (hb : Below W.heap.size W W') (hlt : ∀ x ∈ p, x.block < W.heap.size) (hs : ∀ x ∈ p, sp x.block = true) :
    DataW.Trod enc Try.prog W' 0 sp true 52 v d p :=
  WideElems.Trod_stays laid_out (by kernel_rfl) (of_decide_eq_true (by kernel_rfl)) h (fun x hx => hb.same (hlt x hx)) hs
end Go.Proofs.Ytgkgkiheoadbfaa
namespace Go.Proofs.Ytgkgkiheoadbfaa.Tab
set_option maxRecDepth 20000
open Go.RowKit

theorem answer_sz : (Try.prog.info? 42).map (·.size) = some 2 := by kernel_rfl
theorem answer_st : ∃ fs, Try.prog.underlying 42 = some (.struct fs) := ⟨_, Try.underlying42⟩
theorem pick_mod (a : Int) (n : Nat) (h0 : 0 < n) (h : n < 4611686018427387904) : ∃ r : Nat, r < n ∧ wrap64 ((IntKind.u64.wrap a).tmod (IntKind.u64.wrap n)) = (r : Nat) := by
  rw [IntKind.wrap_u64, IntKind.wrap_u64]
  have e : (n : Int) % 18446744073709551616 = n := by omega
  rw [e, Int.tmod_eq_emod_of_nonneg (by omega)]
  have h1 : 0 ≤ a % 18446744073709551616 % (n : Int) := Int.emod_nonneg _ (by omega)
  have h2 : a % 18446744073709551616 % (n : Int) < n := Int.emod_lt_of_pos _ (by omega)
  refine ⟨(a % 18446744073709551616 % (n : Int)).toNat, by omega, ?_⟩
  generalize a % 18446744073709551616 % (n : Int) = x at *
  unfold wrap64
  omega
theorem pick_4 (a : Int) : ∃ r : Nat, r < 4 ∧ ∀ w : World, Calls Try.prog 17 #[.int .i64 a, .int .i64 4] w fun e w' => e = .returned (.int .i64 (r : Nat)) ∧ w' = w := by
  obtain ⟨r, hr, he⟩ := pick_mod a 4 (by decide) (by decide)
  refine ⟨r, hr, fun w => ?_⟩
  have HE : Hid _ := he
  clear he
  go_enter Try.func17, Try.ntmps17
  go_wp2
  go_ret
  exact ⟨ret_int HE.out, rfl⟩
theorem pick_5 (a : Int) : ∃ r : Nat, r < 5 ∧ ∀ w : World, Calls Try.prog 17 #[.int .i64 a, .int .i64 5] w fun e w' => e = .returned (.int .i64 (r : Nat)) ∧ w' = w := by
  obtain ⟨r, hr, he⟩ := pick_mod a 5 (by decide) (by decide)
  refine ⟨r, hr, fun w => ?_⟩
  have HE : Hid _ := he
  clear he
  go_enter Try.func17, Try.ntmps17
  go_wp2
  go_ret
  exact ⟨ret_int HE.out, rfl⟩
theorem pick_6 (a : Int) : ∃ r : Nat, r < 6 ∧ ∀ w : World, Calls Try.prog 17 #[.int .i64 a, .int .i64 6] w fun e w' => e = .returned (.int .i64 (r : Nat)) ∧ w' = w := by
  obtain ⟨r, hr, he⟩ := pick_mod a 6 (by decide) (by decide)
  refine ⟨r, hr, fun w => ?_⟩
  have HE : Hid _ := he
  clear he
  go_enter Try.func17, Try.ntmps17
  go_wp2
  go_ret
  exact ⟨ret_int HE.out, rfl⟩
theorem pick_1000 (a : Int) : ∃ r : Nat, r < 1000 ∧ ∀ w : World, Calls Try.prog 17 #[.int .i64 a, .int .i64 1000] w fun e w' => e = .returned (.int .i64 (r : Nat)) ∧ w' = w := by
  obtain ⟨r, hr, he⟩ := pick_mod a 1000 (by decide) (by decide)
  refine ⟨r, hr, fun w => ?_⟩
  have HE : Hid _ := he
  clear he
  go_enter Try.func17, Try.ntmps17
  go_wp2
  go_ret
  exact ⟨ret_int HE.out, rfl⟩
theorem pick_4294967296 (a : Int) : ∃ r : Nat, r < 4294967296 ∧ ∀ w : World, Calls Try.prog 17 #[.int .i64 a, .int .i64 4294967296] w fun e w' => e = .returned (.int .i64 (r : Nat)) ∧ w' = w := by
  obtain ⟨r, hr, he⟩ := pick_mod a 4294967296 (by decide) (by decide)
  refine ⟨r, hr, fun w => ?_⟩
  have HE : Hid _ := he
  clear he
  go_enter Try.func17, Try.ntmps17
  go_wp2
  go_ret
  exact ⟨ret_int HE.out, rfl⟩
end Go.Proofs.Ytgkgkiheoadbfaa.Tab
namespace Go.Proofs.Ytgkgkiheoadbfaa.Tab
set_option maxRecDepth 20000
open Go.RowKit
set_option linter.unusedVariables false

theorem put_is (x : Int) (w : World) :
    Calls Try.prog 32 #[.int .i64 x] w fun e w' => e = .returned (.agg #[.int .i64 1, .int .i64 0, .int .i64 x]) ∧ Below w.heap.size w w' := by
  go_enter Try.func32, Try.ntmps32
  go_wp2
  exact bodyPost_ret (v := .agg #[.int .i64 1, .int .i64 0, .int .i64 x]) (by simp [results, Try.results32, go_sem]) rfl ⟨rfl, (Below.refl _ w).alloc (Nat.le_refl _) _⟩
theorem rwD (t o k x c y : Int) : Rw Try.prog 80 (dl t o k x c y) := ⟨⟨_, Try.underlying80, rfl⟩, by kernel_rfl, by intro v hv; simp [dl] at hv; rcases hv with rfl | rfl | rfl | rfl | rfl | rfl <;> rfl⟩
theorem pick4_is (a : Int) : ∃ r : Nat, r < 4 ∧ ∀ w : World, Calls Try.prog 17 #[.int .i64 a, .int .i64 4] w fun e w' => e = .returned (.int .i64 (r : Nat)) ∧ Below w.heap.size w w' := by
  obtain ⟨r, hr, h⟩ := pick_4 a
  exact ⟨r, hr, fun w => (h w).mono fun _ _ ⟨he, hw⟩ => ⟨he, hw ▸ Below.refl _ _⟩⟩
theorem kindOf_is (a : Int) : ∃ r : Nat, 1 ≤ r ∧ r ≤ 6 ∧ ∀ w : World, Calls Try.prog 16 #[.int .i64 a] w fun e w' => e = .returned (.int .i64 (r : Nat)) ∧ w' = w := by
  obtain ⟨r, hr, hp⟩ := pick_6 a
  refine ⟨r + 1, by omega, by omega, fun w => ?_⟩
  have P : Hid _ := hp
  clear hp
  have hw : IntKind.i64.wrap (1 + (r : Int)) = 1 + (r : Int) := by rw [IntKind.wrap_i64]; omega
  go_enter Try.func16, Try.ntmps16
  go_wp2_with fail
  refine (P.out _).mono ?_
  rintro e w' ⟨rfl, rfl⟩
  go_wp2
  go_ret
  exact ⟨ret_int (by omega), rfl⟩
theorem isOb_le {k : Int} {c : Nat → Nat} (h : isOb k c) : ∀ j, j < 17 → c j ≤ 4294967295 := fun j hj => by
  have wl : WList c → c j ≤ 4294967295 := fun h => by
    have := h.len
    by_cases e : j = 0
    · subst e; omega
    · by_cases e1 : j ≤ c 0
      · exact h.val j (by omega) e1
      · rw [h.rest j (by omega) hj]; omega
  rcases h with ⟨_, h⟩ | ⟨_, h, _⟩ | ⟨_, h1, h2, _⟩ | ⟨_, h⟩
  · exact wl (isLb_w h)
  · exact wl (isLb_w h)
  · by_cases e : j < 16
    · have := upC_iff.1 h1 j e; rw [Nat.zero_add] at this; omega
    · have h3 : ((c 16 : Nat) : Int) ≤ 0 := upC_iff.1 h2 0 (by decide)
      rw [show j = 16 by omega]; omega
  · unfold isTb at h
    simp only [Bool.and_eq_true] at h
    by_cases e : j = 0
    · have h3 : ((c 0 : Nat) : Int) ≤ 4294967295 := upC_iff.1 h.1 0 (by decide)
      subst e; omega
    · have := upC_iff.1 h.2 (j - 1) (by omega); rw [show 1 + (j - 1) = j by omega] at this; omega
theorem isRec.u64 {r : Nat → Nat} (h : isRec r) : ∀ j, j < 32 → r j < 18446744073709551616 := fun j hj => by
  obtain ⟨hO, hA, hN, hZ, hT⟩ := h
  by_cases e0 : j = 0
  · have := (isOb_kind hO).2; subst e0; omega
  by_cases e1 : j < 18
  · have := isOb_le hO (j - 1) (by omega)
    unfold ob at this
    rw [show 1 + (j - 1) = j by omega] at this; omega
  by_cases e2 : j < 22
  · have := (hA (j - 18) (by omega)).2
    rw [show 18 + (j - 18) = j by omega] at this
    rcases this with h | ⟨_, h, _⟩ <;> omega
  by_cases e3 : j < 26
  · have := (hN (j - 22) (by omega)).1
    rw [show 22 + (j - 22) = j by omega] at this
    have := hT.2.2; omega
  have := hT.1; have := hT.2.1; have := hT.2.2
  by_cases e4 : j < 29
  · have : j = 26 ∨ j = 27 ∨ j = 28 := by omega
    rcases this with rfl | rfl | rfl <;> omega
  · have := hZ (j - 29) (by omega)
    rw [show 29 + (j - 29) = j by omega] at this; omega
end Go.Proofs.Ytgkgkiheoadbfaa.Tab
namespace Go.Proofs.Ytgkgkiheoadbfaa.Tab
set_option maxRecDepth 20000
open Go.RowKit
set_option linter.unusedVariables false

theorem obIs_yes {k : Int} (h1 : 1 ≤ k) (h6 : k ≤ 6) (w : World) : Calls Try.prog 51 #[.int .i64 k] w fun e w' => e = .returned (.bool true) ∧ w' = w := by
  go_enter Try.func51, Try.ntmps51
  go_wp2
  go_ret
  exact ⟨rfl, rfl⟩
theorem obIs_no {k : Int} (h : ¬ (1 ≤ k ∧ k ≤ 6)) (w : World) : Calls Try.prog 51 #[.int .i64 k] w fun e w' => e = .returned (.bool false) ∧ w' = w := by
  by_cases h1 : 1 ≤ k
  · have h2 : ¬ k ≤ 6 := by omega
    clear h
    go_enter Try.func51, Try.ntmps51
    go_wp2
    go_ret
    exact ⟨rfl, rfl⟩
  · clear h
    go_enter Try.func51, Try.ntmps51
    go_wp2
    go_ret
    exact ⟨rfl, rfl⟩
set_option maxHeartbeats 2000000 in
theorem recNew_no {k : Int} (h : ¬ (1 ≤ k ∧ k ≤ 6)) (w : World) :
    Calls Try.prog 31 #[.int .i64 k] w (fun e w' => e = .returned (.tuple #[.agg (rl wz).toArray, .iface 69 (.int .i64 1)]) ∧ Below w.heap.size w w') := by
  have IS : Hid (∀ w : World, _) := obIs_no h
  clear h
  have hM : Hid _ := ((Ms.nil w).bornR rl_zero.symm 24 (b := w.heap.size) rfl)
  go_enter Try.func31, Try.ntmps31
  go_wp2_with fail
  refine (IS.out _).mono ?_
  rintro e ux ⟨rfl, hw⟩
  rw [hw]; clear hw ux
  go_wp2_with (first
    | (refine sR rfl (hM.out.at 0 rfl) rfl ((rwR wz).len (rwR wz)) (rwR wz) ?_
       replace hM := hid (hM.out.put 0 rfl (rl wz) ((rwR wz).len (rwR wz)))
       generalize World.setCells _ _ _ _ = W at hM ⊢))
  exact bodyPost_ret (res1s Try.results31 (hM.out.at 0 rfl) (rwR wz) (.iface 69 (.int .i64 1))) rfl ⟨rfl, hM.out.below⟩
set_option maxHeartbeats 2000000 in
theorem recNew_yes {k : Nat} (h1 : 1 ≤ k) (h6 : k ≤ 6) (w : World) :
    Calls Try.prog 31 #[.int .i64 (k : Nat)] w (fun e w' => e = .returned (.tuple #[.agg (rl (newR k)).toArray, .nilIface]) ∧ Below w.heap.size w w') := by
  have IS : Hid (∀ w : World, _) := obIs_yes (k := (k : Nat)) (by omega) (by omega)
  have w1 : IntKind.u64.wrap (k : Int) = (k : Nat) := by rw [IntKind.wrap_u64]; omega
  have hz : (rl (newR k)).toArray = #[.int .u64 (k : Nat), .int .u64 0, .int .u64 0, .int .u64 0, .int .u64 0, .int .u64 0, .int .u64 0, .int .u64 0, .int .u64 0, .int .u64 0, .int .u64 0, .int .u64 0, .int .u64 0, .int .u64 0, .int .u64 0, .int .u64 0, .int .u64 0, .int .u64 0, .int .u64 0, .int .u64 0, .int .u64 0, .int .u64 0, .int .u64 0, .int .u64 0, .int .u64 0, .int .u64 0, .int .u64 0, .int .u64 0, .int .u64 0, .int .u64 0, .int .u64 0, .int .u64 0] := rfl
  clear h1 h6
  have hM : Hid _ := ((Ms.nil w).bornR rl_zero.symm 24 (b := w.heap.size) rfl)
  go_enter Try.func31, Try.ntmps31
  go_wp2_with fail
  refine (IS.out _).mono ?_
  rintro e ux ⟨rfl, hw⟩
  rw [hw]; clear hw ux
  have HZ : Hid _ := hz
  clear hz
  go_wp2_with (first
    | (refine sR rfl (hM.out.at 0 rfl) rfl ((rwR wz).len (rwR (newR k))) (rwR (newR k)) ?_
       replace hM := hid (hM.out.put 0 rfl (rl (newR k)) ((rwR wz).len (rwR (newR k))))
       generalize World.setCells _ _ _ _ = W at hM ⊢))
  exact bodyPost_ret (res1s Try.results31 (hM.out.at 0 rfl) (rwR (newR k)) (.nilIface)) rfl ⟨rfl, hM.out.below⟩
end Go.Proofs.Ytgkgkiheoadbfaa.Tab
namespace Go.Proofs.Ytgkgkiheoadbfaa.Tab
set_option maxRecDepth 20000
open Go.RowKit
set_option linter.unusedVariables false

theorem ret_pair' {k : IntKind} {a b : Int} {v : Value} (h : a = b) : Ending.returned (.tuple #[.int k a, v]) = .returned (.tuple #[.int k b, v]) := by rw [h]
theorem and_mask (y m : Nat) (hy : y < 18446744073709551616) (hm : m ≤ 32) : bits .and .u64 (y : Int) ((2 ^ m - 1 : Nat) : Int) = ((y % 2 ^ m : Nat) : Int) := by
  have : 2 ^ m - 1 < 18446744073709551616 := by
    have : 2 ^ m ≤ 2 ^ 32 := Nat.pow_le_pow_right (by decide) hm
    omega
  rw [u64_and_nat _ _ hy this, Nat.and_two_pow_sub_one_eq_mod]
theorem of_val (x : Nat) (hx : x < 18446744073709551616) : wrap64 (bits .and .u64 (x : Int) 4294967295) = ((x % 4294967296 : Nat) : Int) := by
  have := and_mask x 32 hx (by decide)
  rw [show (4294967295 : Int) = ((2 ^ 32 - 1 : Nat) : Int) from rfl, this, IntWalk.wrap64_in _ (by omega)]
theorem opFits_is {c v : Int} (h : Ft c v) (w : World) :
    Calls Try.prog 53 #[.agg #[.int .i64 c, .int .i64 v]] w fun e w' => e = .returned (.bool true) ∧ w' = w.alloc (.cells #[.int .i64 c, .int .i64 v] 42) := by
  obtain ⟨h1, h2, h3, h4, h5⟩ := h
  by_cases hc : c = 1
  · subst hc
    clear h5
    go_enter Try.func53, Try.ntmps53
    go_wp2_with (go_at_call 34; refine (within_yes _ _ _ _ (by omega) (by omega)).mono ?_; rintro e w' ⟨rfl, rfl⟩)
    go_ret
    exact ⟨rfl, rfl⟩
  · obtain rfl : v = 0 := by omega
    clear h5
    go_enter Try.func53, Try.ntmps53
    go_wp2_with (go_at_call 34; refine (within_yes _ _ _ _ (by omega) (by omega)).mono ?_; rintro e w' ⟨rfl, rfl⟩)
    go_ret
    exact ⟨rfl, rfl⟩



theorem opFits_isnt {c v : Int} (h : ¬ Ft c v) (w : World) :
    Calls Try.prog 53 #[.agg #[.int .i64 c, .int .i64 v]] w fun e w' => e = .returned (.bool false) ∧ w' = w.alloc (.cells #[.int .i64 c, .int .i64 v] 42) := by
  rcases not_ft' h with ⟨rfl, hv⟩ | ⟨hc, h1⟩ | ⟨hc, ⟨h1, h2⟩, hv⟩
  · clear h
    go_enter Try.func53, Try.ntmps53
    go_wp2_with (go_at_call 34; refine (within_no _ _ _ _ hv).mono ?_; rintro e w' ⟨rfl, rfl⟩)
    go_ret
    exact ⟨rfl, rfl⟩
  · clear h
    go_enter Try.func53, Try.ntmps53
    go_wp2_with (go_at_call 34; refine (within_no _ _ _ _ h1).mono ?_; rintro e w' ⟨rfl, rfl⟩)
    go_ret
    exact ⟨rfl, rfl⟩
  · clear h
    have hv' : (v == 0) = false := beq_eq_false_iff_ne.2 hv
    go_enter Try.func53, Try.ntmps53
    go_wp2_with (go_at_call 34; refine (within_yes _ _ _ _ (by omega) (by omega)).mono ?_; rintro e w' ⟨rfl, rfl⟩)
    go_ret
    exact ⟨rfl, rfl⟩

theorem opFits_yes {c v : Int} (h : Ft c v) (w : World) :
    Calls Try.prog 53 #[.agg #[.int .i64 c, .int .i64 v]] w fun e w' => e = .returned (.bool true) ∧ Gr w w' :=
  (opFits_is h w).mono fun _ _ ⟨he, hw⟩ => ⟨he, hw ▸ (Gr.refl w).alloc _ _⟩
theorem opFits_no {c v : Int} (h : ¬ Ft c v) (w : World) :
    Calls Try.prog 53 #[.agg #[.int .i64 c, .int .i64 v]] w fun e w' => e = .returned (.bool false) ∧ Gr w w' :=
  (opFits_isnt h w).mono fun _ _ ⟨he, hw⟩ => ⟨he, hw ▸ (Gr.refl w).alloc _ _⟩



theorem ans_or (c v : Nat) (h2 : (c : Int) ≤ 5) (h6 : (v : Int) ≤ 4294967295) : bits .or .u64 ((c : Int) * 4294967296) (v : Int) = ((ansN c v : Nat) : Int) := by
  have e1 : (c : Int) * 4294967296 = ((c * 4294967296 : Nat) : Int) := by omega
  have a2 := Nat.two_pow_add_eq_or_of_lt (i := 32) (b := v) (by omega) c
  have b2 : c * 4294967296 ||| v = ansN c v := by
    rw [Nat.mul_comm c 4294967296]
    refine a2.symm.trans ?_
    unfold ansN; omega
  rw [e1, u64_or_nat _ _ (by omega) (by omega), b2]

theorem told_code (x : Nat) (hx : x < 18446744073709551616) : wrap64 ((x : Int) / 4294967296) = ((x / 4294967296 : Nat) : Int) := by
  rw [IntWalk.wrap64_in _ (by omega)]; omega

theorem Answer_no {c v : Int} (h : ¬ Ft c v) (w : World) :
    Calls Try.prog 36 #[.agg #[.int .i64 c, .int .i64 v]] w fun e w' => e = .returned (.tuple #[.int .u64 0, .iface 69 (.int .i64 1)]) ∧ Gr w w' := by
  go_enter Try.func36, Try.ntmps36
  go_wp2_with (go_at_call 53; refine (opFits_isnt h _).mono ?_; rintro e w' ⟨rfl, rfl⟩)
  go_ret2
  exact ⟨rfl, ((Gr.refl w).alloc _ _).alloc _ _⟩

theorem Answer_yes {c v : Nat} (h : Ft c v) (w : World) :
    Calls Try.prog 36 #[.agg #[.int .i64 c, .int .i64 v]] w fun e w' => e = .returned (.tuple #[.int .u64 (ansN c v : Nat), .nilIface]) ∧ Gr w w' := by
  obtain ⟨h1, h2, h3, h4, h5⟩ := id h
  clear h5
  go_enter Try.func36, Try.ntmps36
  go_wp2_with (go_at_call 53; refine (opFits_is h _).mono ?_; rintro e w' ⟨rfl, rfl⟩)
  go_ret2
  exact ⟨ret_pair' (ans_or c v h2 h4), ((Gr.refl w).alloc _ _).alloc _ _⟩

theorem Told_core (x : Nat) (a b : Int) (w : World) (e0 : wrap64 ((x : Int) / 4294967296) = a) (e2 : wrap64 (bits .and .u64 (x : Int) 4294967295) = b) (h : Ft a b) :
    Calls Try.prog 50 #[.int .u64 x] w fun e w' => e = .returned (.tuple #[.agg #[.int .i64 a, .int .i64 b], .nilIface]) ∧ Gr w w' := by
  go_enter Try.func50, Try.ntmps50
  go_wp2_with (go_at_call 53; refine (opFits_is h _).mono ?_; rintro e w' ⟨rfl, rfl⟩)
  exact bodyPost_ret (v := .tuple #[.agg #[.int .i64 a, .int .i64 b], .nilIface]) (by simp [results, Try.results50, go_sem]) rfl ⟨rfl, (((Gr.refl w).alloc _ _).alloc _ _).alloc _ _⟩

theorem Told_cono (x : Nat) (a b : Int) (w : World) (e0 : wrap64 ((x : Int) / 4294967296) = a) (e2 : wrap64 (bits .and .u64 (x : Int) 4294967295) = b) (h : ¬ Ft a b) :
    Calls Try.prog 50 #[.int .u64 x] w fun e w' => e = .returned (.tuple #[.agg #[.int .i64 0, .int .i64 0], .iface 69 (.int .i64 3)]) ∧ Gr w w' := by
  go_enter Try.func50, Try.ntmps50
  go_wp2_with (go_at_call 53; refine (opFits_isnt h _).mono ?_; rintro e w' ⟨rfl, rfl⟩)
  exact bodyPost_ret (v := .tuple #[.agg #[.int .i64 0, .int .i64 0], .iface 69 (.int .i64 3)]) (by simp [results, Try.results50, go_sem]) rfl ⟨rfl, (((Gr.refl w).alloc _ _).alloc _ _).alloc _ _⟩

theorem Told_yes {c v : Nat} (h : Ft c v) (w : World) :
    Calls Try.prog 50 #[.int .u64 (ansN c v : Nat)] w fun e w' => e = .returned (.tuple #[.agg #[.int .i64 c, .int .i64 v], .nilIface]) ∧ Gr w w' := by
  obtain ⟨p1, p2⟩ := ansN_parts h
  have hx := ansN_lt h
  exact Told_core _ _ _ w (by rw [told_code _ hx, p1]) (by rw [of_val _ hx, p2]) h

/-- No answer is this word. -/
def NoAns (x : Nat) : Prop := ¬ Ft ((x / 4294967296 : Nat) : Int) ((x % 4294967296 : Nat) : Int)

theorem Told_no (x : Nat) (hx : x < 18446744073709551616) (h : NoAns x) (w : World) :
    Calls Try.prog 50 #[.int .u64 (x : Nat)] w fun e w' => e = .returned (.tuple #[.agg #[.int .i64 0, .int .i64 0], .iface 69 (.int .i64 3)]) ∧ Gr w w' :=
  Told_cono x _ _ w (told_code x hx) (of_val x hx) h

theorem ans_cases (x : Nat) : NoAns x ∨ ∃ c v : Nat, Ft c v ∧ x = ansN c v := by
  by_cases h : Ft ((x / 4294967296 : Nat) : Int) ((x % 4294967296 : Nat) : Int)
  · exact Or.inr ⟨_, _, h, (ansN_of x).symm⟩
  · exact Or.inl h


theorem aw_iff (x : Nat) : Aw x ↔ ¬ NoAns x := by unfold NoAns; exact (Classical.not_not).symm
/-- Told, of any word. -/
theorem told_yes {x : Nat} (hx : x < 18446744073709551616) (h : Aw x) (w : World) :
    Calls Try.prog 50 #[.int .u64 (x : Nat)] w fun e w' => e = .returned (.tuple #[.agg #[.int .i64 (x / 4294967296 : Nat), .int .i64 (x % 4294967296 : Nat)], .nilIface]) ∧ Below w.heap.size w w' :=
  (Told_core x _ _ w (told_code x hx) (of_val x hx) h).mono fun _ _ ⟨he, hg⟩ => ⟨he, hg.below⟩
theorem told_no {x : Nat} (hx : x < 18446744073709551616) (h : ¬ Aw x) (w : World) :
    Calls Try.prog 50 #[.int .u64 (x : Nat)] w fun e w' => e = .returned (.tuple #[.agg #[.int .i64 0, .int .i64 0], .iface 69 (.int .i64 3)]) ∧ Below w.heap.size w w' :=
  (Told_cono x _ _ w (told_code x hx) (of_val x hx) h).mono fun _ _ ⟨he, hg⟩ => ⟨he, hg.below⟩
theorem answer_yes {c v : Nat} (h : Ft c v) (w : World) :
    Calls Try.prog 36 #[.agg #[.int .i64 c, .int .i64 v]] w fun e w' => e = .returned (.tuple #[.int .u64 (ansN c v : Nat), .nilIface]) ∧ Below w.heap.size w w' :=
  (Answer_yes h w).mono fun _ _ ⟨he, hg⟩ => ⟨he, hg.below⟩
end Go.Proofs.Ytgkgkiheoadbfaa.Tab
