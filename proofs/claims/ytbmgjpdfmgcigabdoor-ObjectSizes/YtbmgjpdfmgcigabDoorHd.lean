/- Package heap's Do, by its contract. -/
import Derived.Test.YtbmgjpdfmgcigabDoorHk
import Derived.Test.YtbmgjpdfmgcigabDoorSd
namespace Go.Proofs.YtbmgjpdfmgcigabDoor
set_option maxRecDepth 20000
open Go.RowKit

/-- What an operation makes of a heap, and its answer: 8.1. -/
def hdo (xs : List Int) (what value : Int) : List Int × Int × Int :=
  if what = 1 then (if 6 ≤ xs.length then (xs, 3, 0) else (rise (xs ++ [value]), 1, 0))
  else if what = 2 then (match xs with | [] => ([], 2, 0) | x :: r => (if r = [] then [] else sink (r.getLastD 0 :: r.dropLast), 1, x))
  else qdo xs what value

theorem IsL.row {B : Nat} {w : World} {v : Value} {xs : List Int} (h : IsL B w v xs) (hB : 0 < B) (h0 : 0 < xs.length) : ∃ b off c, v = .slice (some ⟨b, off, none⟩) xs.length c ∧ B ≤ b ∧ b < w.heap.size ∧ xs.length ≤ c ∧ Row b off xs w := by
  rcases h with ⟨rfl, _⟩ | ⟨b, off, c, rfl, hb, _, hc, hcell, hfz⟩
  · simp at h0
  · exact ⟨b, off, c, rfl, hb, World.block_lt_of_cell? _ _ (hcell 0 h0), hc, ⟨hcell, hfz hB⟩⟩
theorem Row.isL {B b off c : Nat} {l : List Int} {w : World} (h : Row b off l w) (hB : B ≤ b) (h0 : 0 < l.length) (hc : l.length ≤ c) : IsL B w (.slice (some ⟨b, off, none⟩) l.length c) l :=
  Or.inr ⟨b, off, c, rfl, hB, h0, hc, h.cell, fun _ => h.froz⟩
theorem Row.keep {C b off : Nat} {l : List Int} {w w' : World} (h : Row b off l w) (hb : Below C w w') (hC : b < C) : Row b off l w' where
  cell j hj := by rw [World.cell?_of_block (hb.block b hC)]; exact h.cell j hj
  froz j hj := by rw [World.frozen?_of_block (hb.block b hC)]; exact h.froz j hj
theorem Bx.aside {n : Nat} {c y : Int} {w w' : World} {row : Option Nat} (h : Bx n c y w) (hg : w.grownBy w' row) (hn : some n ≠ row) : Bx n c y w' where
  lt := Nat.lt_of_lt_of_le h.lt hg.size
  c0 := by rw [World.cell?_of_block (hg.block n h.lt hn)]; exact h.c0
  c1 := by rw [World.cell?_of_block (hg.block n h.lt hn)]; exact h.c1
  f0 := by rw [World.frozen?_of_block (hg.block n h.lt hn)]; exact h.f0
  f1 := by rw [World.frozen?_of_block (hg.block n h.lt hn)]; exact h.f1

theorem Fr.alloc {w W : World} {o k x : Int} (h : Fr w W o k x) (ob : Obj) : Fr w (W.alloc ob) o k x := h.later ((Below.refl _ W).alloc h.sz ob)

set_option maxHeartbeats 1000000 in
theorem hput_full {B : Nat} {v : Value} {xs : List Int} {w : World} (k x : Int) (h : IsL B w v xs) (hx : xs.length ≤ 1000000) (h6 : 6 ≤ xs.length) :
    Calls Tryd.prog 56 #[v, .agg #[.int .i64 1, .int .i64 k, .int .i64 x]] w (Made w xs 3 0) := by
  have F0 : Hid (Fr w (two w 1 k x) 1 k x) := Fr.start w 1 k x
  have X : Hid (IsL B (two w 1 k x) v xs) := h.later F0.out.gr
  clear h
  go_enter Tryd.func56, Tryd.ntmps56
  go_wp2_with fail
  refine (qDo_eq (w := two w 1 k x) (ys := xs) (c := 3) (y := 0) k X.out hx (by simp [qdo, h6])).mono ?_
  rintro e w1 ⟨v1, rfl, hi, hb⟩
  rw [two_size] at hi hb
  have F1 : Hid (Fr w (w1.alloc (.cells #[.int .i64 3, .int .i64 0] 38)) 1 k x) := (F0.out.later hb).alloc _
  have I1 : Hid (IsL (w.heap.size + 2) (w1.alloc (.cells #[.int .i64 3, .int .i64 0] 38)) v1 xs) := hi.new _
  have z1 : Hid (w.heap.size + 2 ≤ w1.heap.size) := (F0.out.later hb).sz
  clear hi hb F0 X
  have r0 := F1.out.r0
  have r1 := F1.out.r1
  have f0 := F1.out.f0
  have f1 := F1.out.f1
  have n1 : w.heap.size + 1 ≠ w1.heap.size := by have := z1.out; omega
  go_wp2_with fail
  go_region
  all_goals go_wp2
  refine bodyPost_ret (v := .tuple #[v1, .agg #[.int .i64 3, .int .i64 0]]) ?_ rfl (F1.out.made3 3 0 I1.out)
  have E := F1.out.ends 3 0
  unfold wr at E
  simp [results, Tryd.results56, go_sem, E.1, E.2.1]

set_option maxHeartbeats 1000000 in
theorem hput_done {B : Nat} {v : Value} {xs : List Int} {w : World} (k x : Int) (h : IsL B w v xs) (h6 : xs.length < 6) :
    Calls Tryd.prog 56 #[v, .agg #[.int .i64 1, .int .i64 k, .int .i64 x]] w (Made w (rise (xs ++ [x])) 1 0) := by
  have F0 : Hid (Fr w (two w 1 k x) 1 k x) := Fr.start w 1 k x
  have X : Hid (IsL B (two w 1 k x) v xs) := h.later F0.out.gr
  clear h
  go_enter Tryd.func56, Tryd.ntmps56
  go_wp2_with fail
  refine (qDo_eq (w := two w 1 k x) (ys := xs ++ [x]) (c := 1) (y := 0) k X.out (by omega) (by simp [qdo, show ¬ 6 ≤ xs.length by omega])).mono ?_
  rintro e w1 ⟨v1, rfl, hi, hb⟩
  rw [two_size] at hi hb
  obtain ⟨b, off, c, rfl, hB, hbl, hc, hR⟩ := hi.row (by omega) (by simp)
  have F1 : Hid (Fr w (w1.alloc (.cells #[.int .i64 1, .int .i64 0] 38)) 1 k x) := (F0.out.later hb).alloc _
  have Q1 : Hid (Bx w1.heap.size 1 0 (w1.alloc (.cells #[.int .i64 1, .int .i64 0] 38))) := Bx.born w1 1 0 _
  have R1 : Hid (Row b off (xs ++ [x]) (w1.alloc (.cells #[.int .i64 1, .int .i64 0] 38))) := hR.keep (new_below w1 _) hbl
  clear hi hb F0 X hR
  obtain ⟨l, hl⟩ : ∃ l, l = xs ++ [x] := ⟨_, rfl⟩
  have h0 : 0 < l.length := by rw [hl]; simp
  have h7 : l.length ≤ 1000000 := by rw [hl]; simp; omega
  have L : Hid (l = xs ++ [x]) := hl
  rw [← hl] at R1 hc ⊢
  clear hl
  go_wp2_with fail
  refine (rise_is R1.out h0 h7).mono ?_
  rintro e w3 ⟨rfl, hR, hg⟩
  have e3 : (rise l).length = l.length := (rise_perm l).length_eq
  have F3 : Hid (Fr w w3 1 k x) := F1.out.later ((Below.refl _ _).grown hg F1.out.sz (fun k hk => by injection hk with hk; omega))
  have I3 : Hid (IsL (w.heap.size + 2) w3 (.slice (some ⟨b, off, none⟩) l.length c) (rise (xs ++ [x]))) := by
    rw [← L.out, ← e3]; exact hR.isL hB (by omega) (by omega)
  have Q3 : Hid (Bx w1.heap.size 1 0 w3) := Q1.out.aside hg (fun e => by injection e with e; omega)
  have z1 : Hid (w.heap.size + 2 ≤ w1.heap.size) := (by omega : w.heap.size + 2 ≤ w1.heap.size)
  clear hR hg F1 Q1 R1 e3
  have r0 := F3.out.r0
  have r1 := F3.out.r1
  have f0 := F3.out.f0
  have f1 := F3.out.f1
  have y0 := Q3.out.c0
  have y1 := Q3.out.c1
  go_wp2_with fail
  go_region
  all_goals go_wp2
  refine bodyPost_ret (v := .tuple #[.slice (some ⟨b, off, none⟩) l.length c, .agg #[.int .i64 1, .int .i64 0]]) ?_ rfl (F3.out.made3 1 0 I3.out)
  have E := F3.out.ends 1 0
  unfold wr at E
  simp [results, Tryd.results56, go_sem, E.1, E.2.1]

set_option maxHeartbeats 1000000 in
theorem htake_few {B : Nat} {v : Value} {xs : List Int} {w : World} {c y : Int} (h : IsL B w v xs) (hx : xs.length ≤ 1000000) (hs : sdo xs 2 0 = ([], c, y)) :
    Calls Tryd.prog 57 #[v] w (Made w [] c y) := by
  have X : Hid (IsL B (w.alloc (.cells #[.int .i64 0, .int .i64 0] 38)) v xs) := h.new _
  have Q0 : Hid (Bx w.heap.size 0 0 (w.alloc (.cells #[.int .i64 0, .int .i64 0] 38))) := Bx.born w 0 0 _
  clear h
  go_enter Tryd.func57, Tryd.ntmps57
  go_wp2_with fail
  refine (sDo_eq 0 X.out hx hs).mono ?_
  rintro e w1 ⟨v1, rfl, hi, hb⟩
  obtain ⟨a, cp, rfl⟩ := hi.form
  have Q1 : Hid (Bx w.heap.size 0 0 (w1.alloc (.cells #[.int .i64 c, .int .i64 y] 38))) := (Q0.out.later hb).new _
  have G1 : Hid (Gd w (w1.alloc (.cells #[.int .i64 c, .int .i64 y] 38))) := (((Gd.refl w).new _).later hb).new _
  have hlt : w.heap.size < w1.heap.size := (Q0.out.later hb).lt
  have S1 : Hid (Bx w1.heap.size c y (w1.alloc (.cells #[.int .i64 c, .int .i64 y] 38))) := Bx.born w1 c y _
  clear hi hb X Q0
  go_wp2_with fail
  generalize w1.alloc (.cells #[.int .i64 c, .int .i64 y] 38) = W at Q1 G1 S1 ⊢
  have x0 := Q1.out.c0
  have x1 := Q1.out.c1
  have y0 := Q1.out.f0
  have y1 := Q1.out.f1
  have z0 := S1.out.c0
  have z1 := S1.out.c1
  go_region
  all_goals go_wp2
  have E := Q1.out.put (c' := c) (y' := y) (Nat.le_refl _) G1.out
  refine bodyPost_ret (v := .tuple #[.slice a 0 cp, .agg #[.int .i64 c, .int .i64 y]]) ?_ rfl ⟨_, rfl, IsL.nil _ _ _ _, Below.drew E.2⟩
  simp [results, Tryd.results57, go_sem, E.1.c0, E.1.c1]

set_option maxHeartbeats 1000000 in
theorem htake_more {B : Nat} {v : Value} {r : List Int} {x z : Int} {w : World} (h : IsL B w v (x :: (r ++ [z]))) (hx : r.length ≤ 100000) :
    Calls Tryd.prog 57 #[v] w (Made w (sink (z :: r)) 1 x) := by
  have X : Hid (IsL B (w.alloc (.cells #[.int .i64 0, .int .i64 0] 38)) v (x :: (r ++ [z]))) := h.new _
  have Q0 : Hid (Bx w.heap.size 0 0 (w.alloc (.cells #[.int .i64 0, .int .i64 0] 38))) := Bx.born w 0 0 _
  clear h
  have hs : Hid (sdo (x :: (r ++ [z])) 2 0 = (x :: r, 1, z)) := sdo_take (x :: r) z 0
  go_enter Tryd.func57, Tryd.ntmps57
  go_wp2_with fail
  refine (sDo_eq 0 X.out (by simp; omega) hs.out).mono ?_
  rintro e w1 ⟨v1, rfl, hi, hb⟩
  have hB0 : 0 < (w.alloc (.cells #[.int .i64 0, .int .i64 0] 38)).heap.size := by simp
  obtain ⟨b, off, cp, rfl, hB, hbl, hc, hR⟩ := hi.row hB0 (by simp)
  have hB' : w.heap.size + 1 ≤ b := by simpa using hB
  have hlt : w.heap.size < w1.heap.size := (Q0.out.later hb).lt
  have g1 : w1.cell? ⟨b, off, none⟩ = some (.int .i64 x) := hR.cell 0 (Nat.succ_pos _)
  have k1 : w1.frozen? ⟨b, off, none⟩ = false := hR.froz 0 (Nat.succ_pos _)
  have hgr : w1.grownBy (w1.setCell ⟨b, off, none⟩ (.int .i64 z)) (some b) := grown_set (World.grownBy.refl _ _) _ _
  have Q2 : Hid (Bx w.heap.size 0 0 ((w1.setCell ⟨b, off, none⟩ (.int .i64 z)).alloc (.cells #[.int .i64 1, .int .i64 z] 38))) := ((Q0.out.later hb).aside hgr (fun e => by injection e with e; omega)).new _
  have G2 : Hid (Gd w ((w1.setCell ⟨b, off, none⟩ (.int .i64 z)).alloc (.cells #[.int .i64 1, .int .i64 z] 38))) := Gd.new (Below.setCell (((Gd.refl w).new _).later hb) (show w.heap.size ≤ b by omega) _) _
  have R2 : Hid (Row b off (z :: r) ((w1.setCell ⟨b, off, none⟩ (.int .i64 z)).alloc (.cells #[.int .i64 1, .int .i64 z] 38))) := (hR.set 0 z (Nat.succ_pos _)).keep (new_below _ _) (by simpa using hbl)
  clear hi hb X Q0 hB hB0 hR hs hgr
  have hn : (0 : Int) < ((r.length + 1 : Nat) : Int) := by omega
  have hl : (x :: r).length = r.length + 1 := rfl
  rw [hl] at hc ⊢
  clear hl
  go_wp2_with fail
  generalize (w1.setCell ⟨b, off, none⟩ (.int .i64 z)).alloc (.cells #[.int .i64 1, .int .i64 z] 38) = W at Q2 G2 R2 ⊢
  refine (sink_is (c := cp) R2.out (Nat.succ_pos _) (by simp; omega)).mono ?_
  rintro e w3 ⟨rfl, hR, hg⟩
  have e3 : (sink (z :: r)).length = r.length + 1 := (sink_perm (z :: r)).length_eq
  have Q3 : Hid (Bx w.heap.size 0 0 w3) := Q2.out.aside hg (fun e => by injection e with e; omega)
  have G3 : Hid (Gd w w3) := Below.grown G2.out hg (Below.size G2.out) (fun k hk => by injection hk with hk; omega)
  have I3 : Hid (IsL (w.heap.size + 1) w3 (.slice (some ⟨b, off, none⟩) (r.length + 1) cp) (sink (z :: r))) := by
    rw [← e3]; exact hR.isL hB' (by omega) (by omega)
  clear hR hg Q2 G2 R2 e3
  have x0 := Q3.out.c0
  have x1 := Q3.out.c1
  have y0 := Q3.out.f0
  have y1 := Q3.out.f1
  go_wp2
  have E := Q3.out.put (c' := 1) (y' := x) (Nat.le_refl _) G3.out
  refine bodyPost_ret (v := .tuple #[.slice (some ⟨b, off, none⟩) (r.length + 1) cp, .agg #[.int .i64 1, .int .i64 x]]) ?_ rfl ⟨_, rfl, ((I3.out.setCell (Nat.lt_succ_self _) _).setCell (Nat.lt_succ_self _) _).mono (Nat.le_succ _), E.2⟩
  simp [results, Tryd.results57, go_sem, E.1.c0, E.1.c1]

/-- Where the answer is put in its place: all three ways of Do. -/
theorem Made.two {w : World} {ys : List Int} {o k x c y : Int} {e : Ending} {w1 : World} (h : Made (two w o k x) ys c y e w1) : ∃ v1, e = .returned (.tuple #[v1, .agg #[.int .i64 c, .int .i64 y]]) ∧ Hid (Fr w w1 o k x) ∧ Hid (IsL (w.heap.size + 2) w1 v1 ys) := by
  obtain ⟨v1, he, hi, hb⟩ := h
  rw [two_size] at hi hb
  exact ⟨v1, he, (Fr.start w o k x).later hb, hi⟩

set_option maxHeartbeats 1000000 in
theorem hDo_put {B : Nat} {v : Value} {xs ys : List Int} {w : World} {x c y : Int} (k : Int) (h : IsL B w v xs) (hp : ∀ W, IsL B W v xs → Calls Tryd.prog 56 #[v, .agg #[.int .i64 1, .int .i64 k, .int .i64 x]] W (Made W ys c y)) :
    Calls Tryd.prog 39 #[v, .agg #[.int .i64 1, .int .i64 k, .int .i64 x]] w (Made w ys c y) := by
  have P : Hid (Calls Tryd.prog 56 #[v, .agg #[.int .i64 1, .int .i64 k, .int .i64 x]] (two w 1 k x) (Made (two w 1 k x) ys c y)) := hp _ (h.later (Fr.start w 1 k x).gr)
  clear h hp
  go_enter Tryd.func39, Tryd.ntmps39
  go_wp2_with fail
  refine P.out.mono ?_
  intro e w1 hm
  obtain ⟨v1, rfl, F1, I1⟩ := hm.two
  clear hm P
  have r0 := F1.out.r0
  have r1 := F1.out.r1
  have f0 := F1.out.f0
  have f1 := F1.out.f1
  go_wp2
  refine bodyPost_ret (v := .tuple #[v1, .agg #[.int .i64 c, .int .i64 y]]) ?_ rfl (F1.out.made c y I1.out)
  have E := F1.out.ends c y
  unfold wr at E
  simp [results, Tryd.results39, go_sem, E.1, E.2.1]

set_option maxHeartbeats 1000000 in
theorem hDo_take {B : Nat} {v : Value} {xs ys : List Int} {w : World} {c y : Int} (k x : Int) (h : IsL B w v xs) (hp : ∀ W, IsL B W v xs → Calls Tryd.prog 57 #[v] W (Made W ys c y)) :
    Calls Tryd.prog 39 #[v, .agg #[.int .i64 2, .int .i64 k, .int .i64 x]] w (Made w ys c y) := by
  have P : Hid (Calls Tryd.prog 57 #[v] (two w 2 k x) (Made (two w 2 k x) ys c y)) := hp _ (h.later (Fr.start w 2 k x).gr)
  clear h hp
  go_enter Tryd.func39, Tryd.ntmps39
  go_wp2_with fail
  refine P.out.mono ?_
  intro e w1 hm
  obtain ⟨v1, rfl, F1, I1⟩ := hm.two
  clear hm P
  have r0 := F1.out.r0
  have r1 := F1.out.r1
  have f0 := F1.out.f0
  have f1 := F1.out.f1
  go_wp2
  refine bodyPost_ret (v := .tuple #[v1, .agg #[.int .i64 c, .int .i64 y]]) ?_ rfl (F1.out.made c y I1.out)
  have E := F1.out.ends c y
  unfold wr at E
  simp [results, Tryd.results39, go_sem, E.1, E.2.1]

set_option maxHeartbeats 1000000 in
theorem hDo_else {B : Nat} {v : Value} {xs ys : List Int} {w : World} {o x c y : Int} (k : Int) (n1 : o ≠ 1) (n2 : o ≠ 2) (h : IsL B w v xs) (hx : xs.length ≤ 1000000) (hq : qdo xs o x = (ys, c, y)) :
    Calls Tryd.prog 39 #[v, .agg #[.int .i64 o, .int .i64 k, .int .i64 x]] w (Made w ys c y) := by
  have P : Hid (Calls Tryd.prog 36 #[v, .agg #[.int .i64 o, .int .i64 k, .int .i64 x]] (two w o k x) (Made (two w o k x) ys c y)) := qDo_eq k (h.later (Fr.start w o k x).gr) hx hq
  have m1 : (o == 1) = false := by simp [n1]
  have m2 : (o == 2) = false := by simp [n2]
  clear h hq
  go_enter Tryd.func39, Tryd.ntmps39
  go_wp2_with fail
  refine P.out.mono ?_
  intro e w1 hm
  obtain ⟨v1, rfl, F1, I1⟩ := hm.two
  clear hm P
  have r0 := F1.out.r0
  have r1 := F1.out.r1
  have f0 := F1.out.f0
  have f1 := F1.out.f1
  go_wp2
  refine bodyPost_ret (v := .tuple #[v1, .agg #[.int .i64 c, .int .i64 y]]) ?_ rfl (F1.out.made c y I1.out)
  have E := F1.out.ends c y
  unfold wr at E
  simp [results, Tryd.results39, go_sem, E.1, E.2.1]

theorem hdo_put {xs : List Int} (x : Int) (h : xs.length < 6) : hdo xs 1 x = (rise (xs ++ [x]), 1, 0) := by simp [hdo, show ¬ 6 ≤ xs.length by omega]
theorem hdo_full {xs : List Int} (x : Int) (h : 6 ≤ xs.length) : hdo xs 1 x = (xs, 3, 0) := by simp [hdo, h]
theorem hdo_none (x : Int) : hdo [] 2 x = ([], 2, 0) := by simp [hdo]
theorem hdo_one (z x : Int) : hdo [z] 2 x = ([], 1, z) := by simp [hdo]
theorem hdo_more (z : Int) (r : List Int) (y x : Int) : hdo (z :: (r ++ [y])) 2 x = (sink (y :: r), 1, z) := by simp [hdo]
theorem hdo_else (xs : List Int) (o x : Int) (n1 : o ≠ 1) (n2 : o ≠ 2) : hdo xs o x = qdo xs o x := by simp [hdo, n1, n2]

theorem hDo_eq {B : Nat} {v : Value} {xs ys : List Int} {w : World} {o x c y : Int} (k : Int) (h : IsL B w v xs) (hx : xs.length ≤ 60) (hq : hdo xs o x = (ys, c, y)) :
    Calls Tryd.prog 39 #[v, .agg #[.int .i64 o, .int .i64 k, .int .i64 x]] w (Made w ys c y) := by
  by_cases n1 : o = 1
  · subst n1
    by_cases h6 : 6 ≤ xs.length
    · rw [hdo_full x h6] at hq
      simp only [Prod.mk.injEq] at hq
      obtain ⟨rfl, rfl, rfl⟩ := hq
      exact hDo_put k h fun W hW => hput_full k x hW (by omega) h6
    · rw [hdo_put x (by omega)] at hq
      simp only [Prod.mk.injEq] at hq
      obtain ⟨rfl, rfl, rfl⟩ := hq
      exact hDo_put k h fun W hW => hput_done k x hW (by omega)
  by_cases n2 : o = 2
  · subst n2
    refine hDo_take k x h fun W hW => ?_
    cases xs with
    | nil =>
      rw [hdo_none] at hq
      simp only [Prod.mk.injEq] at hq
      obtain ⟨rfl, rfl, rfl⟩ := hq
      exact htake_few hW (by simp) (by simp [sdo, qdo])
    | cons z r =>
      rcases List.eq_nil_or_concat r with rfl | ⟨r', t, rfl⟩
      · rw [hdo_one] at hq
        simp only [Prod.mk.injEq] at hq
        obtain ⟨rfl, rfl, rfl⟩ := hq
        exact htake_few hW (by simp) (by simp [sdo])
      · rw [List.concat_eq_append] at hW hx hq
        rw [hdo_more] at hq
        simp only [Prod.mk.injEq] at hq
        obtain ⟨rfl, rfl, rfl⟩ := hq
        exact htake_more hW (by simp at hx; omega)
  · rw [hdo_else xs o x n1 n2] at hq
    exact hDo_else k n1 n2 h (by omega) hq
end Go.Proofs.YtbmgjpdfmgcigabDoor
