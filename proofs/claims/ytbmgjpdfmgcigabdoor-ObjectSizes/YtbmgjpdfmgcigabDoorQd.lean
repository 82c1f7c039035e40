/- Package queue's Do, by its contract. -/
import Derived.Test.YtbmgjpdfmgcigabDoorQu
namespace Go.Proofs.YtbmgjpdfmgcigabDoor
set_option maxRecDepth 20000
open Go.RowKit

/-- What an operation makes of a queue, and its answer: 5.1. -/
def qdo (xs : List Int) (what value : Int) : List Int × Int × Int :=
  if what = 1 then (if 6 ≤ xs.length then (xs, 3, 0) else (xs ++ [value], 1, 0))
  else if what = 2 then (match xs with | [] => ([], 2, 0) | x :: r => (r, 1, x))
  else if what = 5 then (match xs with | [] => ([], 2, 0) | x :: r => (x :: r, 1, x))
  else if what = 6 then (xs, 1, xs.length) else (xs, 5, 0)

/-- An operation and an answer to be, in the two blocks behind w's. -/
structure Fr (w w' : World) (o k x : Int) : Prop where
  o0 : w'.cell? ⟨w.heap.size, 0, none⟩ = some (.int .i64 o)
  o1 : w'.cell? ⟨w.heap.size, 1, none⟩ = some (.int .i64 k)
  o2 : w'.cell? ⟨w.heap.size, 2, none⟩ = some (.int .i64 x)
  r0 : w'.cell? ⟨w.heap.size + 1, 0, none⟩ = some (.int .i64 0)
  r1 : w'.cell? ⟨w.heap.size + 1, 1, none⟩ = some (.int .i64 0)
  f0 : w'.frozen? ⟨w.heap.size + 1, 0, none⟩ = false
  f1 : w'.frozen? ⟨w.heap.size + 1, 1, none⟩ = false
  gr : Below w.heap.size w w'
  sz : w.heap.size + 2 ≤ w'.heap.size

def two (w : World) (o k x : Int) : World := (w.alloc (.cells #[.int .i64 o, .int .i64 k, .int .i64 x] 26)).alloc (.cells #[.int .i64 0, .int .i64 0] 38)
theorem Fr.start (w : World) (o k x : Int) : Fr w (two w o k x) o k x where
  o0 := by simp [two]
  o1 := by simp [two]
  o2 := by simp [two]
  r0 := by simp [two]
  r1 := by simp [two]
  f0 := by simp [two]
  f1 := by simp [two]
  gr := ((Below.refl _ w).alloc (Nat.le_refl _) _).alloc (by simp) _
  sz := by simp [two]

theorem Fr.later {w w1 w2 : World} {o k x : Int} (h : Fr w w1 o k x) (hb : Below (w.heap.size + 2) w1 w2) : Fr w w2 o k x where
  o0 := by rw [hb.cell (p := ⟨w.heap.size, 0, none⟩) (by simp)]; exact h.o0
  o1 := by rw [hb.cell (p := ⟨w.heap.size, 1, none⟩) (by simp)]; exact h.o1
  o2 := by rw [hb.cell (p := ⟨w.heap.size, 2, none⟩) (by simp)]; exact h.o2
  r0 := by rw [hb.cell (p := ⟨w.heap.size + 1, 0, none⟩) (by simp)]; exact h.r0
  r1 := by rw [hb.cell (p := ⟨w.heap.size + 1, 1, none⟩) (by simp)]; exact h.r1
  f0 := by rw [World.frozen?_of_block (hb.block (w.heap.size + 1) (by omega))]; exact h.f0
  f1 := by rw [World.frozen?_of_block (hb.block (w.heap.size + 1) (by omega))]; exact h.f1
  gr := h.gr.trans (hb.mono (by omega))
  sz := Nat.le_trans h.sz hb.size
theorem two_size (w : World) (o k x : Int) : (two w o k x).heap.size = w.heap.size + 2 := by simp [two]

/-- The world behind an answer that is written. -/
def wr (w W : World) (c y : Int) : World := (W.setCell ⟨w.heap.size + 1, 0, none⟩ (.int .i64 c)).setCell ⟨w.heap.size + 1, 1, none⟩ (.int .i64 y)
theorem Fr.ends {w W : World} {o k x : Int} (h : Fr w W o k x) (c y : Int) : (wr w W c y).cell? ⟨w.heap.size + 1, 0, none⟩ = some (.int .i64 c) ∧ (wr w W c y).cell? ⟨w.heap.size + 1, 1, none⟩ = some (.int .i64 y) ∧ Below w.heap.size w (wr w W c y) := by
  have d0 := World.cell?_setCell_same W ⟨w.heap.size + 1, 0, none⟩ (.int .i64 c) h.r0
  have d1 : (W.setCell ⟨w.heap.size + 1, 0, none⟩ (.int .i64 c)).cell? ⟨w.heap.size + 1, 1, none⟩ = some (.int .i64 0) := by rw [World.cell?_setCell_other]; exact h.r1; simp
  refine ⟨?_, World.cell?_setCell_same _ _ _ d1, (h.gr.setCell (by simp) _).setCell (by simp) _⟩
  rw [wr, World.cell?_setCell_other]
  · exact d0
  · simp
theorem IsL.wr {w W : World} {v : Value} {xs : List Int} (h : IsL (w.heap.size + 2) W v xs) (c y : Int) : IsL w.heap.size (wr w W c y) v xs :=
  ((h.setCell (by simp) _).setCell (by simp) _).mono (by omega)

/-- What Do has made: the slice and the answer. -/
def Made (w : World) (ys : List Int) (c y : Int) (e : Ending) (w' : World) : Prop :=
  ∃ v', e = .returned (.tuple #[v', .agg #[.int .i64 c, .int .i64 y]]) ∧ IsL w.heap.size w' v' ys ∧ Below w.heap.size w w'

theorem Fr.made {w W : World} {o k x : Int} {v : Value} {ys : List Int} (h : Fr w W o k x) (c y : Int) (I : IsL (w.heap.size + 2) W v ys) : Made w ys c y (.returned (.tuple #[v, .agg #[.int .i64 c, .int .i64 y]])) (wr w W c y) :=
  ⟨v, rfl, I.wr c y, (h.ends c y).2.2⟩
theorem Fr.ends2 {w W : World} {o k x : Int} (h : Fr w W o k x) (c y : Int) (O : Obj) : ((wr w W c y).alloc O).cell? ⟨w.heap.size + 1, 0, none⟩ = some (.int .i64 c) ∧ ((wr w W c y).alloc O).cell? ⟨w.heap.size + 1, 1, none⟩ = some (.int .i64 y) ∧ Below w.heap.size w ((wr w W c y).alloc O).drew := by
  obtain ⟨e0, e1, e2⟩ := h.ends c y
  have hb : Below (wr w W c y).heap.size (wr w W c y) ((wr w W c y).alloc O) := (Below.refl _ _).alloc (Nat.le_refl _) _
  refine ⟨?_, ?_, (e2.alloc e2.size _).drew⟩
  · rw [hb.cell (p := ⟨w.heap.size + 1, 0, none⟩) (World.block_lt_of_cell? _ _ e0)]; exact e0
  · rw [hb.cell (p := ⟨w.heap.size + 1, 1, none⟩) (World.block_lt_of_cell? _ _ e1)]; exact e1
theorem Fr.made2 {w W : World} {o k x : Int} {v : Value} {ys : List Int} (h : Fr w W o k x) (c y : Int) (O : Obj) (I : IsL (w.heap.size + 2) W v ys) : Made w ys c y (.returned (.tuple #[v, .agg #[.int .i64 c, .int .i64 y]])) ((wr w W c y).alloc O).drew :=
  ⟨v, rfl, (I.wr c y).later ((Below.refl _ _).alloc (Nat.le_refl _) _).drew, (h.ends2 c y O).2.2⟩

set_option maxHeartbeats 1000000 in
theorem qDo_wrong {B : Nat} {v : Value} {xs : List Int} {w : World} (o k x : Int) (h : IsL B w v xs) (hx : xs.length ≤ 1000000) (n1 : o ≠ 1) (n2 : o ≠ 2) (n5 : o ≠ 5) (n6 : o ≠ 6) :
    Calls Tryd.prog 36 #[v, .agg #[.int .i64 o, .int .i64 k, .int .i64 x]] w (Made w xs 5 0) := by
  have F0 : Hid (Fr w (two w o k x) o k x) := Fr.start w o k x
  have X : Hid (IsL B (two w o k x) v xs) := h.later F0.out.gr
  clear h
  go_enter Tryd.func36, Tryd.ntmps36
  go_wp2_with fail
  refine (Clone_is (w := two w o k x) X.out hx).mono ?_
  rintro e w1 ⟨v1, rfl, hown, hb⟩
  rw [two_size] at hown hb
  have F1 : Hid (Fr w w1 o k x) := F0.out.later hb
  have O1 : Hid (Own (w.heap.size + 2) w1 v1 xs) := hown
  clear hown hb F0 X
  have o0 := F1.out.o0
  have o2 := F1.out.o2
  have r0 := F1.out.r0
  have r1 := F1.out.r1
  have f0 := F1.out.f0
  have f1 := F1.out.f1
  have sz := F1.out.sz
  obtain ⟨a, c, rfl⟩ := O1.out.form
  go_wp2
  refine bodyPost_ret (v := .tuple #[.slice a xs.length c, .agg #[.int .i64 5, .int .i64 0]]) ?_ rfl (F1.out.made 5 0 O1.out.isL)
  have E := F1.out.ends 5 0
  unfold wr at E
  simp [results, Tryd.results36, go_sem, E.1, E.2.1]

set_option maxHeartbeats 1000000 in
theorem qDo_count {B : Nat} {v : Value} {xs : List Int} {w : World} (k x : Int) (h : IsL B w v xs) (hx : xs.length ≤ 1000000)  :
    Calls Tryd.prog 36 #[v, .agg #[.int .i64 6, .int .i64 k, .int .i64 x]] w (Made w xs 1 xs.length) := by
  have F0 : Hid (Fr w (two w 6 k x) 6 k x) := Fr.start w 6 k x
  have X : Hid (IsL B (two w 6 k x) v xs) := h.later F0.out.gr
  clear h
  go_enter Tryd.func36, Tryd.ntmps36
  go_wp2_with fail
  refine (Clone_is (w := two w 6 k x) X.out hx).mono ?_
  rintro e w1 ⟨v1, rfl, hown, hb⟩
  rw [two_size] at hown hb
  have F1 : Hid (Fr w w1 6 k x) := F0.out.later hb
  have O1 : Hid (Own (w.heap.size + 2) w1 v1 xs) := hown
  clear hown hb F0 X
  have o0 := F1.out.o0
  have o2 := F1.out.o2
  have r0 := F1.out.r0
  have r1 := F1.out.r1
  have f0 := F1.out.f0
  have f1 := F1.out.f1
  have sz := F1.out.sz
  obtain ⟨a, c, rfl⟩ := O1.out.form
  go_wp2
  refine bodyPost_ret (v := .tuple #[.slice a xs.length c, .agg #[.int .i64 1, .int .i64 xs.length]]) ?_ rfl (F1.out.made 1 xs.length O1.out.isL)
  have E := F1.out.ends 1 xs.length
  unfold wr at E
  simp [results, Tryd.results36, go_sem, E.1, E.2.1]

set_option maxHeartbeats 1000000 in
theorem qDo_full {B : Nat} {v : Value} {xs : List Int} {w : World} (k x : Int) (h : IsL B w v xs) (hx : xs.length ≤ 1000000) (h6 : 6 ≤ xs.length) :
    Calls Tryd.prog 36 #[v, .agg #[.int .i64 1, .int .i64 k, .int .i64 x]] w (Made w xs 3 0) := by
  have F0 : Hid (Fr w (two w 1 k x) 1 k x) := Fr.start w 1 k x
  have X : Hid (IsL B (two w 1 k x) v xs) := h.later F0.out.gr
  clear h
  go_enter Tryd.func36, Tryd.ntmps36
  go_wp2_with fail
  refine (Clone_is (w := two w 1 k x) X.out hx).mono ?_
  rintro e w1 ⟨v1, rfl, hown, hb⟩
  rw [two_size] at hown hb
  have F1 : Hid (Fr w w1 1 k x) := F0.out.later hb
  have O1 : Hid (Own (w.heap.size + 2) w1 v1 xs) := hown
  clear hown hb F0 X
  have o0 := F1.out.o0
  have o2 := F1.out.o2
  have r0 := F1.out.r0
  have r1 := F1.out.r1
  have f0 := F1.out.f0
  have f1 := F1.out.f1
  have sz := F1.out.sz
  go_wp2_with fail
  refine (qput_full x O1.out.isL h6).mono ?_
  rintro e w2 ⟨rfl, hb⟩
  have F2 : Hid (Fr w w2 1 k x) := F1.out.later (hb.mono F1.out.sz)
  have I2 : Hid (IsL (w.heap.size + 2) w2 v1 xs) := O1.out.isL.later hb
  clear hb o0 o2 r0 r1 f0 f1 sz F1 O1
  have o0 := F2.out.o0
  have o2 := F2.out.o2
  have r0 := F2.out.r0
  have r1 := F2.out.r1
  have f0 := F2.out.f0
  have f1 := F2.out.f1
  have sz := F2.out.sz
  go_wp2
  refine bodyPost_ret (v := .tuple #[v1, .agg #[.int .i64 3, .int .i64 0]]) ?_ rfl (F2.out.made 3 0 I2.out)
  have E := F2.out.ends 3 0
  unfold wr at E
  simp [results, Tryd.results36, go_sem, E.1, E.2.1]

set_option maxHeartbeats 1000000 in
theorem qDo_put {B : Nat} {v : Value} {xs : List Int} {w : World} (k x : Int) (h : IsL B w v xs) (hx : xs.length ≤ 1000000) (h6 : xs.length < 6) :
    Calls Tryd.prog 36 #[v, .agg #[.int .i64 1, .int .i64 k, .int .i64 x]] w (Made w (xs ++ [x]) 1 0) := by
  have F0 : Hid (Fr w (two w 1 k x) 1 k x) := Fr.start w 1 k x
  have X : Hid (IsL B (two w 1 k x) v xs) := h.later F0.out.gr
  clear h
  go_enter Tryd.func36, Tryd.ntmps36
  go_wp2_with fail
  refine (Clone_is (w := two w 1 k x) X.out hx).mono ?_
  rintro e w1 ⟨v1, rfl, hown, hb⟩
  rw [two_size] at hown hb
  have F1 : Hid (Fr w w1 1 k x) := F0.out.later hb
  have O1 : Hid (Own (w.heap.size + 2) w1 v1 xs) := hown
  clear hown hb F0 X
  have o0 := F1.out.o0
  have o2 := F1.out.o2
  have r0 := F1.out.r0
  have r1 := F1.out.r1
  have f0 := F1.out.f0
  have f1 := F1.out.f1
  have sz := F1.out.sz
  go_wp2_with fail
  refine (qput_room x O1.out F1.out.sz h6).mono ?_
  rintro e w2 ⟨v2, rfl, hown, hb⟩
  have F2 : Hid (Fr w w2 1 k x) := F1.out.later hb
  have I2 : Hid (IsL (w.heap.size + 2) w2 v2 (xs ++ [x])) := hown.isL
  clear hb hown o0 o2 r0 r1 f0 f1 sz F1 O1
  have o0 := F2.out.o0
  have o2 := F2.out.o2
  have r0 := F2.out.r0
  have r1 := F2.out.r1
  have f0 := F2.out.f0
  have f1 := F2.out.f1
  have sz := F2.out.sz
  go_wp2
  refine bodyPost_ret (v := .tuple #[v2, .agg #[.int .i64 1, .int .i64 0]]) ?_ rfl (F2.out.made 1 0 I2.out)
  have E := F2.out.ends 1 0
  unfold wr at E
  simp [results, Tryd.results36, go_sem, E.1, E.2.1]

set_option maxHeartbeats 1000000 in
theorem qDo_empty {B : Nat} {v : Value}  {w : World} (k x : Int) (h : IsL B w v ([] : List Int)) (hx : ([] : List Int).length ≤ 1000000)  :
    Calls Tryd.prog 36 #[v, .agg #[.int .i64 2, .int .i64 k, .int .i64 x]] w (Made w [] 2 0) := by
  have F0 : Hid (Fr w (two w 2 k x) 2 k x) := Fr.start w 2 k x
  have X : Hid (IsL B (two w 2 k x) v ([] : List Int)) := h.later F0.out.gr
  clear h
  go_enter Tryd.func36, Tryd.ntmps36
  go_wp2_with fail
  refine (Clone_is (w := two w 2 k x) X.out hx).mono ?_
  rintro e w1 ⟨v1, rfl, hown, hb⟩
  rw [two_size] at hown hb
  have F1 : Hid (Fr w w1 2 k x) := F0.out.later hb
  have O1 : Hid (Own (w.heap.size + 2) w1 v1 ([] : List Int)) := hown
  clear hown hb F0 X
  have o0 := F1.out.o0
  have o2 := F1.out.o2
  have r0 := F1.out.r0
  have r1 := F1.out.r1
  have f0 := F1.out.f0
  have f1 := F1.out.f1
  have sz := F1.out.sz
  obtain ⟨a, c, rfl⟩ := O1.out.form
  go_wp2_with fail
  refine (qtake_none a c w1).mono ?_
  rintro e w2 ⟨rfl, hb⟩
  have F2 : Hid (Fr w w2 2 k x) := F1.out.later (hb.mono F1.out.sz)
  clear hb o0 o2 r0 r1 f0 f1 sz F1 O1
  have o0 := F2.out.o0
  have o2 := F2.out.o2
  have r0 := F2.out.r0
  have r1 := F2.out.r1
  have f0 := F2.out.f0
  have f1 := F2.out.f1
  have sz := F2.out.sz
  go_wp2
  refine bodyPost_ret (v := .tuple #[.slice a 0 c, .agg #[.int .i64 2, .int .i64 0]]) ?_ rfl (F2.out.made 2 0 (IsL.nil _ _ _ _))
  have E := F2.out.ends 2 0
  unfold wr at E
  simp [results, Tryd.results36, go_sem, E.1, E.2.1]

set_option maxHeartbeats 1000000 in
theorem qDo_take {B : Nat} {v : Value} {z : Int} {r : List Int} {w : World} (k x : Int) (h : IsL B w v (z :: r)) (hx : (z :: r).length ≤ 1000000)  :
    Calls Tryd.prog 36 #[v, .agg #[.int .i64 2, .int .i64 k, .int .i64 x]] w (Made w r 1 z) := by
  have F0 : Hid (Fr w (two w 2 k x) 2 k x) := Fr.start w 2 k x
  have X : Hid (IsL B (two w 2 k x) v (z :: r)) := h.later F0.out.gr
  clear h
  go_enter Tryd.func36, Tryd.ntmps36
  go_wp2_with fail
  refine (Clone_is (w := two w 2 k x) X.out hx).mono ?_
  rintro e w1 ⟨v1, rfl, hown, hb⟩
  rw [two_size] at hown hb
  have F1 : Hid (Fr w w1 2 k x) := F0.out.later hb
  have O1 : Hid (Own (w.heap.size + 2) w1 v1 (z :: r)) := hown
  clear hown hb F0 X
  have o0 := F1.out.o0
  have o2 := F1.out.o2
  have r0 := F1.out.r0
  have r1 := F1.out.r1
  have f0 := F1.out.f0
  have f1 := F1.out.f1
  have sz := F1.out.sz
  go_wp2_with fail
  refine (qtake_one O1.out.isL).mono ?_
  rintro e w2 ⟨v2, rfl, hi, hb⟩
  have F2 : Hid (Fr w w2 2 k x) := F1.out.later (hb.mono F1.out.sz)
  have I2 : Hid (IsL (w.heap.size + 2) w2 v2 r) := hi
  clear hb hi o0 o2 r0 r1 f0 f1 sz F1 O1
  have o0 := F2.out.o0
  have o2 := F2.out.o2
  have r0 := F2.out.r0
  have r1 := F2.out.r1
  have f0 := F2.out.f0
  have f1 := F2.out.f1
  have sz := F2.out.sz
  go_wp2
  refine bodyPost_ret (v := .tuple #[v2, .agg #[.int .i64 1, .int .i64 z]]) ?_ rfl (F2.out.made 1 z I2.out)
  have E := F2.out.ends 1 z
  unfold wr at E
  simp [results, Tryd.results36, go_sem, E.1, E.2.1]

set_option maxHeartbeats 1000000 in
theorem qDo_peekno {B : Nat} {v : Value}  {w : World} (k x : Int) (h : IsL B w v ([] : List Int)) (hx : ([] : List Int).length ≤ 1000000)  :
    Calls Tryd.prog 36 #[v, .agg #[.int .i64 5, .int .i64 k, .int .i64 x]] w (Made w [] 2 0) := by
  have F0 : Hid (Fr w (two w 5 k x) 5 k x) := Fr.start w 5 k x
  have X : Hid (IsL B (two w 5 k x) v ([] : List Int)) := h.later F0.out.gr
  clear h
  go_enter Tryd.func36, Tryd.ntmps36
  go_wp2_with fail
  refine (Clone_is (w := two w 5 k x) X.out hx).mono ?_
  rintro e w1 ⟨v1, rfl, hown, hb⟩
  rw [two_size] at hown hb
  have F1 : Hid (Fr w w1 5 k x) := F0.out.later hb
  have O1 : Hid (Own (w.heap.size + 2) w1 v1 ([] : List Int)) := hown
  clear hown hb F0 X
  have o0 := F1.out.o0
  have o2 := F1.out.o2
  have r0 := F1.out.r0
  have r1 := F1.out.r1
  have f0 := F1.out.f0
  have f1 := F1.out.f1
  have sz := F1.out.sz
  obtain ⟨a, c, rfl⟩ := O1.out.form
  go_wp2_with fail
  refine (qtake_none a c w1).mono ?_
  rintro e w2 ⟨rfl, hb⟩
  have F3 : Hid (Fr w w2 5 k x) := F1.out.later (hb.mono F1.out.sz)
  have I3 : Hid (IsL (w.heap.size + 2) w2 (.slice a 0 c) []) := O1.out.isL.later hb
  clear hb  o0 o2 r0 r1 f0 f1 sz F1 O1
  have o0 := F3.out.o0
  have o2 := F3.out.o2
  have r0 := F3.out.r0
  have r1 := F3.out.r1
  have f0 := F3.out.f0
  have f1 := F3.out.f1
  have sz := F3.out.sz
  have l1 : w.heap.size + 1 < w2.heap.size := F3.out.sz
  go_wp2_with fail
  go_region
  all_goals go_wp2
  refine bodyPost_ret (v := .tuple #[(.slice a 0 c), .agg #[.int .i64 2, .int .i64 0]]) ?_ rfl (F3.out.made2 2 0 (.cells #[.int .i64 2, .int .i64 0] 38) I3.out)
  have E := F3.out.ends2 2 0 (.cells #[.int .i64 2, .int .i64 0] 38)
  unfold wr at E
  simp [results, Tryd.results36, go_sem, E.1, E.2.1]

set_option maxHeartbeats 1000000 in
theorem qDo_peek {B : Nat} {v : Value} {z : Int} {r : List Int} {w : World} (k x : Int) (h : IsL B w v (z :: r)) (hx : (z :: r).length ≤ 1000000)  :
    Calls Tryd.prog 36 #[v, .agg #[.int .i64 5, .int .i64 k, .int .i64 x]] w (Made w (z :: r) 1 z) := by
  have F0 : Hid (Fr w (two w 5 k x) 5 k x) := Fr.start w 5 k x
  have X : Hid (IsL B (two w 5 k x) v (z :: r)) := h.later F0.out.gr
  clear h
  go_enter Tryd.func36, Tryd.ntmps36
  go_wp2_with fail
  refine (Clone_is (w := two w 5 k x) X.out hx).mono ?_
  rintro e w1 ⟨v1, rfl, hown, hb⟩
  rw [two_size] at hown hb
  have F1 : Hid (Fr w w1 5 k x) := F0.out.later hb
  have O1 : Hid (Own (w.heap.size + 2) w1 v1 (z :: r)) := hown
  clear hown hb F0 X
  have o0 := F1.out.o0
  have o2 := F1.out.o2
  have r0 := F1.out.r0
  have r1 := F1.out.r1
  have f0 := F1.out.f0
  have f1 := F1.out.f1
  have sz := F1.out.sz
  go_wp2_with fail
  refine (qtake_one O1.out.isL).mono ?_
  rintro e w2 ⟨v2, rfl, hi, hb⟩
  have F3 : Hid (Fr w w2 5 k x) := F1.out.later (hb.mono F1.out.sz)
  have I3 : Hid (IsL (w.heap.size + 2) w2 v1 (z :: r)) := O1.out.isL.later hb
  clear hb hi o0 o2 r0 r1 f0 f1 sz F1 O1
  have o0 := F3.out.o0
  have o2 := F3.out.o2
  have r0 := F3.out.r0
  have r1 := F3.out.r1
  have f0 := F3.out.f0
  have f1 := F3.out.f1
  have sz := F3.out.sz
  have l1 : w.heap.size + 1 < w2.heap.size := F3.out.sz
  go_wp2_with fail
  go_region
  all_goals go_wp2
  refine bodyPost_ret (v := .tuple #[v1, .agg #[.int .i64 1, .int .i64 z]]) ?_ rfl (F3.out.made2 1 z (.cells #[.int .i64 1, .int .i64 z] 38) I3.out)
  have E := F3.out.ends2 1 z (.cells #[.int .i64 1, .int .i64 z] 38)
  unfold wr at E
  simp [results, Tryd.results36, go_sem, E.1, E.2.1]

theorem qdo_looks (ys : List Int) : ∃ r c y, qdo ys 5 0 = (ys, c, y) ∧ qdo ys 2 0 = (r, c, y) := by
  cases ys with
  | nil => exact ⟨[], 2, 0, rfl, rfl⟩
  | cons z r => exact ⟨r, 1, z, rfl, rfl⟩
theorem qdo_count (ys : List Int) (x : Int) : qdo ys 6 x = (ys, 1, (ys.length : Int)) := by simp [qdo]
theorem qDo_eq {B : Nat} {v : Value} {xs ys : List Int} {w : World} {o x c y : Int} (k : Int) (h : IsL B w v xs) (hx : xs.length ≤ 1000000) (hq : qdo xs o x = (ys, c, y)) :
    Calls Tryd.prog 36 #[v, .agg #[.int .i64 o, .int .i64 k, .int .i64 x]] w (Made w ys c y) := by
  by_cases n1 : o = 1
  · subst n1
    by_cases h6 : 6 ≤ xs.length
    · simp [qdo, h6] at hq
      obtain ⟨rfl, rfl, rfl⟩ := hq
      exact qDo_full k x h hx h6
    · simp [qdo, h6] at hq
      obtain ⟨rfl, rfl, rfl⟩ := hq
      exact qDo_put k x h hx (by omega)
  by_cases n2 : o = 2
  · subst n2
    cases xs with
    | nil => simp [qdo] at hq; obtain ⟨rfl, rfl, rfl⟩ := hq; exact qDo_empty k x h hx
    | cons z r => simp [qdo] at hq; obtain ⟨rfl, rfl, rfl⟩ := hq; exact qDo_take k x h hx
  by_cases n5 : o = 5
  · subst n5
    cases xs with
    | nil => simp [qdo] at hq; obtain ⟨rfl, rfl, rfl⟩ := hq; exact qDo_peekno k x h hx
    | cons z r => simp [qdo] at hq; obtain ⟨rfl, rfl, rfl⟩ := hq; exact qDo_peek k x h hx
  by_cases n6 : o = 6
  · subst n6
    simp [qdo] at hq
    obtain ⟨rfl, rfl, rfl⟩ := hq
    exact qDo_count k x h hx
  · simp [qdo, n1, n2, n5, n6] at hq
    obtain ⟨rfl, rfl, rfl⟩ := hq
    exact qDo_wrong o k x h hx n1 n2 n5 n6
end Go.Proofs.YtbmgjpdfmgcigabDoor
