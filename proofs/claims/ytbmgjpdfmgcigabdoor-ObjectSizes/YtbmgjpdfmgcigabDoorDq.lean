/- Package deque's front and Do, by their contracts. -/
import Derived.Test.YtbmgjpdfmgcigabDoorSd
import Derived.Test.YtbmgjpdfmgcigabDoorCc
namespace Go.Proofs.YtbmgjpdfmgcigabDoor
set_option maxRecDepth 20000
open Go.RowKit

/-- What an operation makes of a deque, and its answer: 7.1. -/
def ddo (xs : List Int) (what value : Int) : List Int × Int × Int :=
  if what = 3 then (if 6 ≤ xs.length then (xs, 3, 0) else (value :: xs, 1, 0)) else if what = 4 then sdo xs 2 0 else qdo xs what value

set_option maxHeartbeats 1000000 in
theorem front_full {B : Nat} {v : Value} {xs : List Int} {w : World} (x : Int) (h : IsL B w v xs) (hx : xs.length ≤ 1000000) (h6 : 6 ≤ xs.length) :
    Calls Tryd.prog 55 #[v, .int .i64 x] w (Made w xs 3 0) := by
  obtain ⟨a, c, rfl⟩ := h.form
  have h6i : (6 : Int) ≤ (xs.length : Int) := by omega
  have B0 : Hid (Bx w.heap.size 0 0 (w.alloc (.cells #[.int .i64 0, .int .i64 0] 38))) := Bx.born w 0 0 _
  have G0 : Hid (Gd w (w.alloc (.cells #[.int .i64 0, .int .i64 0] 38))) := (Gd.refl w).new _
  have X : Hid (IsL B (w.alloc (.cells #[.int .i64 0, .int .i64 0] 38)) (.slice a xs.length c) xs) := h.new _
  clear h
  go_enter Tryd.func55, Tryd.ntmps55
  go_wp2_with fail
  refine (Clone_is X.out hx).mono ?_
  rintro e w1 ⟨v1, rfl, hown, hb⟩
  have B1 : Hid (Bx w.heap.size 0 0 w1) := B0.out.later hb
  have G1 : Hid (Gd w w1) := G0.out.later hb
  have I1 : Hid (IsL (w.heap.size + 1) w1 v1 xs) := hown.isL.mono (by simp)
  clear hown hb B0 G0 X
  have c0 := B1.out.c0
  have c1 := B1.out.c1
  have f0 := B1.out.f0
  have f1 := B1.out.f1
  go_wp2
  obtain ⟨E, G⟩ := B1.out.put (c' := 3) (y' := 0) (Nat.le_refl _) G1.out
  refine bodyPost_ret (v := .tuple #[v1, .agg #[.int .i64 3, .int .i64 0]]) ?_ rfl ⟨v1, rfl, (((I1.out.setCell (by simp) _).setCell (by simp) _).mono (by omega)), G⟩
  have d0 := E.c0
  have d1 := E.c1
  simp [results, Tryd.results55, go_sem, d0, d1]

theorem pair_at (u : World) (p q : Value) (t : TypeId) {n : Nat} (h : n = u.heap.size) : (u.alloc (.cells #[p, q] t)).cell? ⟨n, 0, none⟩ = some p ∧ (u.alloc (.cells #[p, q] t)).cell? ⟨n, 1, none⟩ = some q := by
  subst h
  exact ⟨by simp, by simp⟩

set_option maxHeartbeats 1000000 in
theorem front_room {B : Nat} {v : Value} {xs : List Int} {w : World} (x : Int) (h : IsL B w v xs) (h6 : xs.length < 6) :
    Calls Tryd.prog 55 #[v, .int .i64 x] w (Made w (x :: xs) 1 0) := by
  obtain ⟨a, c, rfl⟩ := h.form
  have h6i : (xs.length : Int) < 6 := by omega
  obtain ⟨W, hW⟩ : ∃ W, W = ((w.alloc (.cells #[.int .i64 0, .int .i64 0] 38)).alloc (.cells #[.int .i64 x] 3)).alloc (.cells #[.slice (some ⟨w.heap.size + 1, 0, none⟩) 1 1, .slice a xs.length c] 27) := ⟨_, rfl⟩
  have B0 : Hid (Bx w.heap.size 0 0 W) := by rw [hW]; exact ((Bx.born w 0 0 _).new _).new _
  have G0 : Hid (Gd w W) := by rw [hW]; exact (((Gd.refl w).new _).new _).new _
  have X : Hid (IsL B W (.slice a xs.length c) xs) := by rw [hW]; exact ((h.new _).new _).new _
  have L : Hid (IsL 0 W (.slice (some ⟨w.heap.size + 1, 0, none⟩) 1 1) [x]) := by rw [hW]; exact (IsL.litAt (w.alloc (.cells #[.int .i64 0, .int .i64 0] 38)) [x] (by simp) (by simp)).new _
  have j0 : W.cell? ⟨w.heap.size + 2, 0, none⟩ = some (.slice (some ⟨w.heap.size + 1, 0, none⟩) 1 1) := by rw [hW]; exact (pair_at _ _ _ _ (by simp)).1
  have j1 : W.cell? ⟨w.heap.size + 2, 1, none⟩ = some (.slice a xs.length c) := by rw [hW]; exact (pair_at _ _ _ _ (by simp)).2
  have k0 : Hid (W.cell? ⟨w.heap.size + 2, 0, none⟩ = some (.slice (some ⟨w.heap.size + 1, 0, none⟩) 1 1)) := j0
  have k1 : Hid (W.cell? ⟨w.heap.size + 2, 1, none⟩ = some (.slice a xs.length c)) := j1
  have Z : Hid (w.heap.size + 1 ≤ W.heap.size) := show _ ≤ _ by rw [hW]; simp
  have hx : Hid ([x].length + xs.length ≤ 1000000) := show _ ≤ _ by simp; omega
  clear h h6 j0 j1
  go_enter Tryd.func55, Tryd.ntmps55
  go_wp2_with fail
  rw [← hW]
  clear hW
  refine (Concat_two k0.out k1.out L.out X.out (by simp) hx.out).mono ?_
  rintro e w1 ⟨v1, rfl, hown, hb⟩
  have B1 : Hid (Bx w.heap.size 0 0 w1) := B0.out.later hb
  have G1 : Hid (Gd w w1) := G0.out.later hb
  have I1 : Hid (IsL (w.heap.size + 1) w1 v1 (x :: xs)) := hown.isL.mono Z.out
  clear hown hb B0 G0 X L k0 k1 Z
  have c0 := B1.out.c0
  have c1 := B1.out.c1
  have f0 := B1.out.f0
  have f1 := B1.out.f1
  go_wp2
  obtain ⟨E, G⟩ := B1.out.put (c' := 1) (y' := 0) (Nat.le_refl _) G1.out
  refine bodyPost_ret (v := .tuple #[v1, .agg #[.int .i64 1, .int .i64 0]]) ?_ rfl ⟨v1, rfl, (((I1.out.setCell (by simp) _).setCell (by simp) _).mono (by omega)), G⟩
  have d0 := E.c0
  have d1 := E.c1
  simp [results, Tryd.results55, go_sem, d0, d1]

theorem front_is {B : Nat} {v : Value} {xs ys : List Int} {w : World} {x c y : Int} (h : IsL B w v xs) (hx : xs.length ≤ 1000000) (hd : ddo xs 3 x = (ys, c, y)) :
    Calls Tryd.prog 55 #[v, .int .i64 x] w (Made w ys c y) := by
  by_cases h6 : 6 ≤ xs.length
  · simp [ddo, h6] at hd
    obtain ⟨rfl, rfl, rfl⟩ := hd
    exact front_full x h hx h6
  · simp [ddo, h6] at hd
    obtain ⟨rfl, rfl, rfl⟩ := hd
    exact front_room x h (by omega)

set_option maxHeartbeats 1000000 in
theorem dDo_front {B : Nat} {v : Value} {xs ys : List Int} {w : World} {x c y : Int} (k : Int) (h : IsL B w v xs) (hx : xs.length ≤ 1000000) (hd : ddo xs 3 x = (ys, c, y)) :
    Calls Tryd.prog 38 #[v, .agg #[.int .i64 3, .int .i64 k, .int .i64 x]] w (Made w ys c y) := by
  have F0 : Hid (Fr w (two w 3 k x) 3 k x) := Fr.start w 3 k x
  have X : Hid (IsL B (two w 3 k x) v xs) := h.later F0.out.gr
  have Q : Hid (ddo xs 3 x = (ys, c, y)) := hd
  clear h hd
  go_enter Tryd.func38, Tryd.ntmps38
  go_wp2_with fail
  refine (front_is (w := two w 3 k x) X.out hx Q.out).mono ?_
  rintro e w1 ⟨v1, rfl, hi, hb⟩
  rw [two_size] at hi hb
  have F1 : Hid (Fr w w1 3 k x) := F0.out.later hb
  have I1 : Hid (IsL (w.heap.size + 2) w1 v1 ys) := hi
  clear hi hb F0 X Q
  have r0 := F1.out.r0
  have r1 := F1.out.r1
  have f0 := F1.out.f0
  have f1 := F1.out.f1
  go_wp2
  refine bodyPost_ret (v := .tuple #[v1, .agg #[.int .i64 c, .int .i64 y]]) ?_ rfl (F1.out.made c y I1.out)
  have E := F1.out.ends c y
  unfold wr at E
  simp [results, Tryd.results38, go_sem, E.1, E.2.1]

set_option maxHeartbeats 1000000 in
theorem dDo_back {B : Nat} {v : Value} {xs ys : List Int} {w : World} {c y : Int} (k x : Int) (h : IsL B w v xs) (hx : xs.length ≤ 1000000) (hd : sdo xs 2 0 = (ys, c, y)) :
    Calls Tryd.prog 38 #[v, .agg #[.int .i64 4, .int .i64 k, .int .i64 x]] w (Made w ys c y) := by
  have F0 : Hid (Fr w (two w 4 k x) 4 k x) := Fr.start w 4 k x
  have X : Hid (IsL B (two w 4 k x) v xs) := h.later F0.out.gr
  have Q : Hid (sdo xs 2 0 = (ys, c, y)) := hd
  clear h hd
  go_enter Tryd.func38, Tryd.ntmps38
  go_wp2_with fail
  refine (sDo_eq (w := two w 4 k x) 0 X.out hx Q.out).mono ?_
  rintro e w1 ⟨v1, rfl, hi, hb⟩
  rw [two_size] at hi hb
  have F1 : Hid (Fr w w1 4 k x) := F0.out.later hb
  have I1 : Hid (IsL (w.heap.size + 2) w1 v1 ys) := hi
  clear hi hb F0 X Q
  have r0 := F1.out.r0
  have r1 := F1.out.r1
  have f0 := F1.out.f0
  have f1 := F1.out.f1
  go_wp2
  refine bodyPost_ret (v := .tuple #[v1, .agg #[.int .i64 c, .int .i64 y]]) ?_ rfl (F1.out.made c y I1.out)
  have E := F1.out.ends c y
  unfold wr at E
  simp [results, Tryd.results38, go_sem, E.1, E.2.1]

set_option maxHeartbeats 1000000 in
theorem dDo_else {B : Nat} {v : Value} {xs ys : List Int} {w : World} {o x c y : Int} (k : Int) (h : IsL B w v xs) (hx : xs.length ≤ 1000000) (n3 : o ≠ 3) (n4 : o ≠ 4) (hd : qdo xs o x = (ys, c, y)) :
    Calls Tryd.prog 38 #[v, .agg #[.int .i64 o, .int .i64 k, .int .i64 x]] w (Made w ys c y) := by
  have F0 : Hid (Fr w (two w o k x) o k x) := Fr.start w o k x
  have X : Hid (IsL B (two w o k x) v xs) := h.later F0.out.gr
  have Q : Hid (qdo xs o x = (ys, c, y)) := hd
  clear h hd
  have m3 : (o == 3) = false := by simp [n3]
  have m4 : (o == 4) = false := by simp [n4]
  go_enter Tryd.func38, Tryd.ntmps38
  go_wp2_with fail
  refine (qDo_eq (w := two w o k x) k X.out hx Q.out).mono ?_
  rintro e w1 ⟨v1, rfl, hi, hb⟩
  rw [two_size] at hi hb
  have F1 : Hid (Fr w w1 o k x) := F0.out.later hb
  have I1 : Hid (IsL (w.heap.size + 2) w1 v1 ys) := hi
  clear hi hb F0 X Q
  have r0 := F1.out.r0
  have r1 := F1.out.r1
  have f0 := F1.out.f0
  have f1 := F1.out.f1
  go_wp2
  refine bodyPost_ret (v := .tuple #[v1, .agg #[.int .i64 c, .int .i64 y]]) ?_ rfl (F1.out.made c y I1.out)
  have E := F1.out.ends c y
  unfold wr at E
  simp [results, Tryd.results38, go_sem, E.1, E.2.1]

theorem dDo_eq {B : Nat} {v : Value} {xs ys : List Int} {w : World} {o x c y : Int} (k : Int) (h : IsL B w v xs) (hx : xs.length ≤ 1000000) (hd : ddo xs o x = (ys, c, y)) :
    Calls Tryd.prog 38 #[v, .agg #[.int .i64 o, .int .i64 k, .int .i64 x]] w (Made w ys c y) := by
  by_cases n3 : o = 3
  · subst n3
    exact dDo_front k h hx hd
  by_cases n4 : o = 4
  · subst n4
    exact dDo_back k x h hx (by simpa [ddo] using hd)
  · exact dDo_else k h hx n3 n4 (by simpa [ddo, n3, n4] using hd)
end Go.Proofs.YtbmgjpdfmgcigabDoor
