/- The reference's Heap, and sameInts, by their contracts. -/
import Derived.Test.YtbmgjpdfmgcigabDoorRe
import Derived.Test.YtbmgjpdfmgcigabDoorMr
import Derived.Test.YtbmgjpdfmgcigabDoorHo
namespace Go.Proofs.YtbmgjpdfmgcigabDoor
set_option maxRecDepth 20000
open Go.RowKit

set_option maxRecDepth 20000 in
set_option maxHeartbeats 2000000 in
theorem RHeap_out {B : Nat} {v : Value} {xs : List Int} {w : World} (k x : Int) (o : Int) (ho : ¬ (1 ≤ o ∧ o ≤ 6)) (h : IsL B w v xs) (hx : xs.length ≤ 60) :
    Calls Tryd.prog 24 #[v, .agg #[.int .i64 o, .int .i64 k, .int .i64 x]] w (MadeN w xs 5 0) := by
  have F0 : Hid (Fr w (two w o k x) o k x) := Fr.start w o k x
  have X : Hid (IsL B (two w o k x) v xs) := h.later F0.out.gr
  have HX : Hid (xs.length ≤ 1000000) := Nat.le_trans hx (by decide)
  obtain ⟨av, cv, rfl⟩ := h.form
  clear h
  have hd : decide (1 ≤ o ∧ o ≤ 6) = false := decide_eq_false ho
  go_enter Tryd.func24, Tryd.ntmps24
  go_wp2_with (at_builtin; refine wpList_copy rfl rfl (.const (.slice none 0 0)) (.tmp 14) rfl rfl rfl X.out HX.out ?_)
  intro v1 w1 hown hb
  have hown' : Own (w.heap.size + 2) w1 v1 xs := hown
  have hb' : Below (w.heap.size + 2) (two w o k x) w1 := hb
  have F1 : Hid (Fr w w1 o k x) := F0.out.later hb'
  have O1 : Hid (Own (w.heap.size + 2) w1 v1 xs) := hown'
  clear hown hb hown' hb' F0 X
  have o0 := F1.out.o0
  have o1 := F1.out.o1
  have o2 := F1.out.o2
  have r0 := F1.out.r0
  have r1 := F1.out.r1
  have f0 := F1.out.f0
  have f1 := F1.out.f1
  go_wp2_with fail
  refine (within_is _ _ _ _).mono ?_
  rintro e W ⟨rfl, hW⟩
  rw [hW, hd]; clear hW W
  go_wp2_with fail
  refine (said_is _ _ _).mono ?_
  rintro e w2 ⟨rfl, hb⟩
  have F2 : Hid (Fr w w2 o k x) := F1.out.later (hb.mono F1.out.sz)
  have I2 : Hid (IsL (w.heap.size + 2) w2 v1 xs) := O1.out.isL.later hb
  clear hb F1 O1 o0 o1 o2 r0 r1 f0 f1
  have r0 := F2.out.r0
  have r1 := F2.out.r1
  have f0 := F2.out.f0
  have f1 := F2.out.f1
  go_wp2
  have E := F2.out.ends 5 0
  refine bodyPost_ret (v := .tuple #[v1, .agg #[.int .i64 5, .int .i64 0]]) ?_ rfl ⟨v1, rfl, (I2.out.wr 5 0).mono (by omega), E.2.2⟩
  unfold wr at E
  simp [results, Tryd.results24, go_sem, E.1, E.2.1]

set_option maxRecDepth 20000 in
set_option maxHeartbeats 2000000 in
theorem RHeap_three {B : Nat} {v : Value} {xs : List Int} {w : World} (k x : Int) (h : IsL B w v xs) (hx : xs.length ≤ 60) :
    Calls Tryd.prog 24 #[v, .agg #[.int .i64 3, .int .i64 k, .int .i64 x]] w (MadeN w xs 5 0) := by
  have F0 : Hid (Fr w (two w 3 k x) 3 k x) := Fr.start w 3 k x
  have X : Hid (IsL B (two w 3 k x) v xs) := h.later F0.out.gr
  have HX : Hid (xs.length ≤ 1000000) := Nat.le_trans hx (by decide)
  obtain ⟨av, cv, rfl⟩ := h.form
  clear h
  go_enter Tryd.func24, Tryd.ntmps24
  go_wp2_with (at_builtin; refine wpList_copy rfl rfl (.const (.slice none 0 0)) (.tmp 14) rfl rfl rfl X.out HX.out ?_)
  intro v1 w1 hown hb
  have hown' : Own (w.heap.size + 2) w1 v1 xs := hown
  have hb' : Below (w.heap.size + 2) (two w 3 k x) w1 := hb
  have F1 : Hid (Fr w w1 3 k x) := F0.out.later hb'
  have O1 : Hid (Own (w.heap.size + 2) w1 v1 xs) := hown'
  clear hown hb hown' hb' F0 X
  have o0 := F1.out.o0
  have o1 := F1.out.o1
  have o2 := F1.out.o2
  have r0 := F1.out.r0
  have r1 := F1.out.r1
  have f0 := F1.out.f0
  have f1 := F1.out.f1
  go_wp2_with fail
  refine (within_is _ _ _ _).mono ?_
  rintro e W ⟨rfl, hW⟩
  rw [hW]; clear hW W
  go_wp2_with fail
  refine (said_is _ _ _).mono ?_
  rintro e w2 ⟨rfl, hb⟩
  have F2 : Hid (Fr w w2 3 k x) := F1.out.later (hb.mono F1.out.sz)
  have I2 : Hid (IsL (w.heap.size + 2) w2 v1 xs) := O1.out.isL.later hb
  clear hb F1 O1 o0 o1 o2 r0 r1 f0 f1
  have r0 := F2.out.r0
  have r1 := F2.out.r1
  have f0 := F2.out.f0
  have f1 := F2.out.f1
  go_wp2
  have E := F2.out.ends 5 0
  refine bodyPost_ret (v := .tuple #[v1, .agg #[.int .i64 5, .int .i64 0]]) ?_ rfl ⟨v1, rfl, (I2.out.wr 5 0).mono (by omega), E.2.2⟩
  unfold wr at E
  simp [results, Tryd.results24, go_sem, E.1, E.2.1]

set_option maxRecDepth 20000 in
set_option maxHeartbeats 2000000 in
theorem RHeap_four {B : Nat} {v : Value} {xs : List Int} {w : World} (k x : Int) (h : IsL B w v xs) (hx : xs.length ≤ 60) :
    Calls Tryd.prog 24 #[v, .agg #[.int .i64 4, .int .i64 k, .int .i64 x]] w (MadeN w xs 5 0) := by
  have F0 : Hid (Fr w (two w 4 k x) 4 k x) := Fr.start w 4 k x
  have X : Hid (IsL B (two w 4 k x) v xs) := h.later F0.out.gr
  have HX : Hid (xs.length ≤ 1000000) := Nat.le_trans hx (by decide)
  obtain ⟨av, cv, rfl⟩ := h.form
  clear h
  go_enter Tryd.func24, Tryd.ntmps24
  go_wp2_with (at_builtin; refine wpList_copy rfl rfl (.const (.slice none 0 0)) (.tmp 14) rfl rfl rfl X.out HX.out ?_)
  intro v1 w1 hown hb
  have hown' : Own (w.heap.size + 2) w1 v1 xs := hown
  have hb' : Below (w.heap.size + 2) (two w 4 k x) w1 := hb
  have F1 : Hid (Fr w w1 4 k x) := F0.out.later hb'
  have O1 : Hid (Own (w.heap.size + 2) w1 v1 xs) := hown'
  clear hown hb hown' hb' F0 X
  have o0 := F1.out.o0
  have o1 := F1.out.o1
  have o2 := F1.out.o2
  have r0 := F1.out.r0
  have r1 := F1.out.r1
  have f0 := F1.out.f0
  have f1 := F1.out.f1
  go_wp2_with fail
  refine (within_is _ _ _ _).mono ?_
  rintro e W ⟨rfl, hW⟩
  rw [hW]; clear hW W
  go_wp2_with fail
  refine (said_is _ _ _).mono ?_
  rintro e w2 ⟨rfl, hb⟩
  have F2 : Hid (Fr w w2 4 k x) := F1.out.later (hb.mono F1.out.sz)
  have I2 : Hid (IsL (w.heap.size + 2) w2 v1 xs) := O1.out.isL.later hb
  clear hb F1 O1 o0 o1 o2 r0 r1 f0 f1
  have r0 := F2.out.r0
  have r1 := F2.out.r1
  have f0 := F2.out.f0
  have f1 := F2.out.f1
  go_wp2
  have E := F2.out.ends 5 0
  refine bodyPost_ret (v := .tuple #[v1, .agg #[.int .i64 5, .int .i64 0]]) ?_ rfl ⟨v1, rfl, (I2.out.wr 5 0).mono (by omega), E.2.2⟩
  unfold wr at E
  simp [results, Tryd.results24, go_sem, E.1, E.2.1]

set_option maxRecDepth 20000 in
set_option maxHeartbeats 2000000 in
theorem RHeap_else {B : Nat} {v : Value} {xs ys : List Int} {w : World} {c y : Int} (o k x : Int) (h1 : 1 ≤ o) (h2 : o ≤ 6) (n3 : o ≠ 3) (n4 : o ≠ 4) (np : o = 1 → 6 ≤ xs.length) (nt : o = 2 → xs.length = 0) (h : IsL B w v xs) (hx : xs.length ≤ 60)
    (hE : ∀ W u, IsL (w.heap.size + 2) W u xs → Calls Tryd.prog 44 #[u, .agg #[.int .i64 o, .int .i64 k, .int .i64 x], .bool false, .int .i64 0] W (Made W ys c y)) :
    Calls Tryd.prog 24 #[v, .agg #[.int .i64 o, .int .i64 k, .int .i64 x]] w (MadeN w ys c y) := by
  have n3' : (o == 3) = false := by simp [n3]
  have n4' : (o == 4) = false := by simp [n4]
  have hd : decide (1 ≤ o ∧ o ≤ 6) = true := decide_eq_true ⟨h1, h2⟩
  have HE : Hid (∀ W u, IsL (w.heap.size + 2) W u xs → Calls Tryd.prog 44 #[u, .agg #[.int .i64 o, .int .i64 k, .int .i64 x], .bool false, .int .i64 0] W (Made W ys c y)) := hE
  clear hE
  have F0 : Hid (Fr w (two w o k x) o k x) := Fr.start w o k x
  have X : Hid (IsL B (two w o k x) v xs) := h.later F0.out.gr
  have HX : Hid (xs.length ≤ 1000000) := Nat.le_trans hx (by decide)
  obtain ⟨av, cv, rfl⟩ := h.form
  clear h
  go_enter Tryd.func24, Tryd.ntmps24
  go_wp2_with (at_builtin; refine wpList_copy rfl rfl (.const (.slice none 0 0)) (.tmp 14) rfl rfl rfl X.out HX.out ?_)
  intro v1 w1 hown hb
  have hown' : Own (w.heap.size + 2) w1 v1 xs := hown
  have hb' : Below (w.heap.size + 2) (two w o k x) w1 := hb
  have F1 : Hid (Fr w w1 o k x) := F0.out.later hb'
  have O1 : Hid (Own (w.heap.size + 2) w1 v1 xs) := hown'
  clear hown hb hown' hb' F0 X
  have o0 := F1.out.o0
  have o1 := F1.out.o1
  have o2 := F1.out.o2
  have r0 := F1.out.r0
  have r1 := F1.out.r1
  have f0 := F1.out.f0
  have f1 := F1.out.f1
  go_wp2_with fail
  refine (within_is _ _ _ _).mono ?_
  rintro e W ⟨rfl, hW⟩
  rw [hW, hd]; clear hW W
  obtain ⟨a, cp, rfl⟩ := O1.out.form
  clear hd
  by_cases n1 : o = 1
  · have hl6 : ¬ ((xs.length : Int) < 6) := by have := np n1; omega
    subst n1
    clear np nt
    go_wp2_with fail
    refine (HE.out _ _ O1.out.isL).mono ?_
    rintro e w2 ⟨v2, rfl, hi, hb⟩
    have F2 : Hid (Fr w w2 1 k x) := F1.out.later (hb.mono F1.out.sz)
    have I2 : Hid (IsL (w.heap.size + 2) w2 v2 ys) := hi.mono F1.out.sz
    clear hi hb F1 O1 o0 o1 o2 r0 r1 f0 f1 HE
    have r0 := F2.out.r0
    have r1 := F2.out.r1
    have f0 := F2.out.f0
    have f1 := F2.out.f1
    go_wp2
    have E := F2.out.ends c y
    refine bodyPost_ret (v := .tuple #[v2, .agg #[.int .i64 c, .int .i64 y]]) ?_ rfl ⟨v2, rfl, (I2.out.wr c y).mono (by omega), E.2.2⟩
    unfold wr at E
    simp [results, Tryd.results24, go_sem, E.1, E.2.1]
  by_cases n2 : o = 2
  · have hl0 : ¬ (0 < (xs.length : Int)) := by have := nt n2; omega
    subst n2
    clear np nt
    go_wp2_with fail
    refine (HE.out _ _ O1.out.isL).mono ?_
    rintro e w2 ⟨v2, rfl, hi, hb⟩
    have F2 : Hid (Fr w w2 2 k x) := F1.out.later (hb.mono F1.out.sz)
    have I2 : Hid (IsL (w.heap.size + 2) w2 v2 ys) := hi.mono F1.out.sz
    clear hi hb F1 O1 o0 o1 o2 r0 r1 f0 f1 HE
    have r0 := F2.out.r0
    have r1 := F2.out.r1
    have f0 := F2.out.f0
    have f1 := F2.out.f1
    go_wp2
    have E := F2.out.ends c y
    refine bodyPost_ret (v := .tuple #[v2, .agg #[.int .i64 c, .int .i64 y]]) ?_ rfl ⟨v2, rfl, (I2.out.wr c y).mono (by omega), E.2.2⟩
    unfold wr at E
    simp [results, Tryd.results24, go_sem, E.1, E.2.1]
  · have m1 : (o == 1) = false := by simp [n1]
    have m2 : (o == 2) = false := by simp [n2]
    clear np nt n1 n2 n3 n4
    go_wp2_with fail
    refine (HE.out _ _ O1.out.isL).mono ?_
    rintro e w2 ⟨v2, rfl, hi, hb⟩
    have F2 : Hid (Fr w w2 o k x) := F1.out.later (hb.mono F1.out.sz)
    have I2 : Hid (IsL (w.heap.size + 2) w2 v2 ys) := hi.mono F1.out.sz
    clear hi hb F1 O1 o0 o1 o2 r0 r1 f0 f1 HE
    have r0 := F2.out.r0
    have r1 := F2.out.r1
    have f0 := F2.out.f0
    have f1 := F2.out.f1
    go_wp2
    have E := F2.out.ends c y
    refine bodyPost_ret (v := .tuple #[v2, .agg #[.int .i64 c, .int .i64 y]]) ?_ rfl ⟨v2, rfl, (I2.out.wr c y).mono (by omega), E.2.2⟩
    unfold wr at E
    simp [results, Tryd.results24, go_sem, E.1, E.2.1]

end Go.Proofs.YtbmgjpdfmgcigabDoor
