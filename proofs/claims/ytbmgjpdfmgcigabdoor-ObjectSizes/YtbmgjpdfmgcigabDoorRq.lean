/- The reference's Queue and Stack, and sameInts, by their contracts. -/
import Derived.Test.YtbmgjpdfmgcigabDoorRe
import Derived.Test.YtbmgjpdfmgcigabDoorMr
import Derived.Test.YtbmgjpdfmgcigabDoorSd
namespace Go.Proofs.YtbmgjpdfmgcigabDoor
set_option maxRecDepth 20000
open Go.RowKit

set_option maxHeartbeats 1000000 in
theorem RQueue_out {B : Nat} {v : Value} {xs : List Int} {w : World} (k x : Int) (o : Int) (ho : ¬ (1 ≤ o ∧ o ≤ 6)) (h : IsL B w v xs) :
    Calls Tryd.prog 21 #[v, .agg #[.int .i64 o, .int .i64 k, .int .i64 x]] w (MadeR w v xs xs 5 0) := by
  have F0 : Hid (Fr w (two w o k x) o k x) := Fr.start w o k x
  have X : Hid (IsL B w v xs) := h
  clear h
  go_enter Tryd.func21, Tryd.ntmps21
  go_wp2_with fail
  refine (within_is _ _ _ _).mono ?_
  rintro e W ⟨rfl, hW⟩
  rw [hW]; clear hW W
  have hd : decide (1 ≤ o ∧ o ≤ 6) = false := decide_eq_false ho
  go_wp2_with fail
  refine (said_is _ _ _).mono ?_
  rintro e w2 ⟨rfl, hb⟩
  have hb' : Below (w.heap.size + 2) (two w o k x) w2 := by rw [← two_size w o k x]; exact hb
  have F2 : Hid (Fr w w2 o k x) := F0.out.later hb'
  clear hb hb' F0
  have r0 := F2.out.r0
  have r1 := F2.out.r1
  have f0 := F2.out.f0
  have f1 := F2.out.f1
  go_wp2
  have E := F2.out.ends 5 0
  refine bodyPost_ret (v := .tuple #[v, .agg #[.int .i64 5, .int .i64 0]]) ?_ rfl ⟨v, rfl, Or.inl ⟨rfl, rfl⟩, E.2.2⟩
  unfold wr at E
  simp [results, Tryd.results21, go_sem, E.1, E.2.1]

set_option maxHeartbeats 1000000 in
theorem RQueue_three {B : Nat} {v : Value} {xs : List Int} {w : World} (k x : Int) (h : IsL B w v xs) :
    Calls Tryd.prog 21 #[v, .agg #[.int .i64 3, .int .i64 k, .int .i64 x]] w (MadeR w v xs xs 5 0) := by
  have F0 : Hid (Fr w (two w 3 k x) 3 k x) := Fr.start w 3 k x
  have X : Hid (IsL B w v xs) := h
  clear h
  go_enter Tryd.func21, Tryd.ntmps21
  go_wp2_with fail
  refine (within_is _ _ _ _).mono ?_
  rintro e W ⟨rfl, hW⟩
  rw [hW]; clear hW W
  go_wp2_with fail
  refine (said_is _ _ _).mono ?_
  rintro e w2 ⟨rfl, hb⟩
  have hb' : Below (w.heap.size + 2) (two w 3 k x) w2 := by rw [← two_size w 3 k x]; exact hb
  have F2 : Hid (Fr w w2 3 k x) := F0.out.later hb'
  clear hb hb' F0
  have r0 := F2.out.r0
  have r1 := F2.out.r1
  have f0 := F2.out.f0
  have f1 := F2.out.f1
  go_wp2
  have E := F2.out.ends 5 0
  refine bodyPost_ret (v := .tuple #[v, .agg #[.int .i64 5, .int .i64 0]]) ?_ rfl ⟨v, rfl, Or.inl ⟨rfl, rfl⟩, E.2.2⟩
  unfold wr at E
  simp [results, Tryd.results21, go_sem, E.1, E.2.1]

set_option maxHeartbeats 1000000 in
theorem RQueue_four {B : Nat} {v : Value} {xs : List Int} {w : World} (k x : Int) (h : IsL B w v xs) :
    Calls Tryd.prog 21 #[v, .agg #[.int .i64 4, .int .i64 k, .int .i64 x]] w (MadeR w v xs xs 5 0) := by
  have F0 : Hid (Fr w (two w 4 k x) 4 k x) := Fr.start w 4 k x
  have X : Hid (IsL B w v xs) := h
  clear h
  go_enter Tryd.func21, Tryd.ntmps21
  go_wp2_with fail
  refine (within_is _ _ _ _).mono ?_
  rintro e W ⟨rfl, hW⟩
  rw [hW]; clear hW W
  go_wp2_with fail
  refine (said_is _ _ _).mono ?_
  rintro e w2 ⟨rfl, hb⟩
  have hb' : Below (w.heap.size + 2) (two w 4 k x) w2 := by rw [← two_size w 4 k x]; exact hb
  have F2 : Hid (Fr w w2 4 k x) := F0.out.later hb'
  clear hb hb' F0
  have r0 := F2.out.r0
  have r1 := F2.out.r1
  have f0 := F2.out.f0
  have f1 := F2.out.f1
  go_wp2
  have E := F2.out.ends 5 0
  refine bodyPost_ret (v := .tuple #[v, .agg #[.int .i64 5, .int .i64 0]]) ?_ rfl ⟨v, rfl, Or.inl ⟨rfl, rfl⟩, E.2.2⟩
  unfold wr at E
  simp [results, Tryd.results21, go_sem, E.1, E.2.1]

set_option maxHeartbeats 1000000 in
theorem RQueue_go {B : Nat} {v : Value} {xs ys : List Int} {w : World} {c y : Int} (o k x : Int) (h1 : 1 ≤ o) (h2 : o ≤ 6) (n3 : o ≠ 3) (n4 : o ≠ 4) (h : IsL B w v xs)
    (hE : ∀ W, IsL B W v xs → Calls Tryd.prog 44 #[v, .agg #[.int .i64 o, .int .i64 k, .int .i64 x], .bool false, .int .i64 0] W (Made W ys c y)) :
    Calls Tryd.prog 21 #[v, .agg #[.int .i64 o, .int .i64 k, .int .i64 x]] w (MadeR w v xs ys c y) := by
  have F0 : Hid (Fr w (two w o k x) o k x) := Fr.start w o k x
  have X : Hid (IsL B (two w o k x) v xs) := h.later F0.out.gr
  have HE : Hid (Calls Tryd.prog 44 #[v, .agg #[.int .i64 o, .int .i64 k, .int .i64 x], .bool false, .int .i64 0] (two w o k x) (Made (two w o k x) ys c y)) := hE _ X.out
  have hd : decide (1 ≤ o ∧ o ≤ 6) = true := decide_eq_true ⟨h1, h2⟩
  have n3' : (o == 3) = false := by simp [n3]
  have n4' : (o == 4) = false := by simp [n4]
  clear h hE
  go_enter Tryd.func21, Tryd.ntmps21
  go_wp2_with fail
  refine (within_is _ _ _ _).mono ?_
  rintro e W ⟨rfl, hW⟩
  rw [hW, hd]; clear hW W
  go_wp2_with fail
  refine HE.out.mono ?_
  rintro e w2 ⟨v2, rfl, hi, hb⟩
  rw [two_size] at hi hb
  have F2 : Hid (Fr w w2 o k x) := F0.out.later hb
  have I2 : Hid (IsL (w.heap.size + 2) w2 v2 ys) := hi
  clear hi hb F0 HE X hd
  have r0 := F2.out.r0
  have r1 := F2.out.r1
  have f0 := F2.out.f0
  have f1 := F2.out.f1
  go_wp2
  have E := F2.out.ends c y
  refine bodyPost_ret (v := .tuple #[v2, .agg #[.int .i64 c, .int .i64 y]]) ?_ rfl ⟨v2, rfl, Or.inr ((I2.out.wr c y).mono (by omega)), E.2.2⟩
  unfold wr at E
  simp [results, Tryd.results21, go_sem, E.1, E.2.1]

set_option maxHeartbeats 1000000 in
theorem RStack_out {B : Nat} {v : Value} {xs : List Int} {w : World} (k x : Int) (o : Int) (ho : ¬ (1 ≤ o ∧ o ≤ 6)) (h : IsL B w v xs) :
    Calls Tryd.prog 22 #[v, .agg #[.int .i64 o, .int .i64 k, .int .i64 x]] w (MadeR w v xs xs 5 0) := by
  have F0 : Hid (Fr w (two w o k x) o k x) := Fr.start w o k x
  have X : Hid (IsL B w v xs) := h
  clear h
  go_enter Tryd.func22, Tryd.ntmps22
  go_wp2_with fail
  refine (within_is _ _ _ _).mono ?_
  rintro e W ⟨rfl, hW⟩
  rw [hW]; clear hW W
  have hd : decide (1 ≤ o ∧ o ≤ 6) = false := decide_eq_false ho
  go_wp2_with fail
  refine (said_is _ _ _).mono ?_
  rintro e w2 ⟨rfl, hb⟩
  have hb' : Below (w.heap.size + 2) (two w o k x) w2 := by rw [← two_size w o k x]; exact hb
  have F2 : Hid (Fr w w2 o k x) := F0.out.later hb'
  clear hb hb' F0
  have r0 := F2.out.r0
  have r1 := F2.out.r1
  have f0 := F2.out.f0
  have f1 := F2.out.f1
  go_wp2
  have E := F2.out.ends 5 0
  refine bodyPost_ret (v := .tuple #[v, .agg #[.int .i64 5, .int .i64 0]]) ?_ rfl ⟨v, rfl, Or.inl ⟨rfl, rfl⟩, E.2.2⟩
  unfold wr at E
  simp [results, Tryd.results22, go_sem, E.1, E.2.1]

set_option maxHeartbeats 1000000 in
theorem RStack_three {B : Nat} {v : Value} {xs : List Int} {w : World} (k x : Int) (h : IsL B w v xs) :
    Calls Tryd.prog 22 #[v, .agg #[.int .i64 3, .int .i64 k, .int .i64 x]] w (MadeR w v xs xs 5 0) := by
  have F0 : Hid (Fr w (two w 3 k x) 3 k x) := Fr.start w 3 k x
  have X : Hid (IsL B w v xs) := h
  clear h
  go_enter Tryd.func22, Tryd.ntmps22
  go_wp2_with fail
  refine (within_is _ _ _ _).mono ?_
  rintro e W ⟨rfl, hW⟩
  rw [hW]; clear hW W
  go_wp2_with fail
  refine (said_is _ _ _).mono ?_
  rintro e w2 ⟨rfl, hb⟩
  have hb' : Below (w.heap.size + 2) (two w 3 k x) w2 := by rw [← two_size w 3 k x]; exact hb
  have F2 : Hid (Fr w w2 3 k x) := F0.out.later hb'
  clear hb hb' F0
  have r0 := F2.out.r0
  have r1 := F2.out.r1
  have f0 := F2.out.f0
  have f1 := F2.out.f1
  go_wp2
  have E := F2.out.ends 5 0
  refine bodyPost_ret (v := .tuple #[v, .agg #[.int .i64 5, .int .i64 0]]) ?_ rfl ⟨v, rfl, Or.inl ⟨rfl, rfl⟩, E.2.2⟩
  unfold wr at E
  simp [results, Tryd.results22, go_sem, E.1, E.2.1]

set_option maxHeartbeats 1000000 in
theorem RStack_four {B : Nat} {v : Value} {xs : List Int} {w : World} (k x : Int) (h : IsL B w v xs) :
    Calls Tryd.prog 22 #[v, .agg #[.int .i64 4, .int .i64 k, .int .i64 x]] w (MadeR w v xs xs 5 0) := by
  have F0 : Hid (Fr w (two w 4 k x) 4 k x) := Fr.start w 4 k x
  have X : Hid (IsL B w v xs) := h
  clear h
  go_enter Tryd.func22, Tryd.ntmps22
  go_wp2_with fail
  refine (within_is _ _ _ _).mono ?_
  rintro e W ⟨rfl, hW⟩
  rw [hW]; clear hW W
  go_wp2_with fail
  refine (said_is _ _ _).mono ?_
  rintro e w2 ⟨rfl, hb⟩
  have hb' : Below (w.heap.size + 2) (two w 4 k x) w2 := by rw [← two_size w 4 k x]; exact hb
  have F2 : Hid (Fr w w2 4 k x) := F0.out.later hb'
  clear hb hb' F0
  have r0 := F2.out.r0
  have r1 := F2.out.r1
  have f0 := F2.out.f0
  have f1 := F2.out.f1
  go_wp2
  have E := F2.out.ends 5 0
  refine bodyPost_ret (v := .tuple #[v, .agg #[.int .i64 5, .int .i64 0]]) ?_ rfl ⟨v, rfl, Or.inl ⟨rfl, rfl⟩, E.2.2⟩
  unfold wr at E
  simp [results, Tryd.results22, go_sem, E.1, E.2.1]

set_option maxHeartbeats 1000000 in
theorem RStack_go {B : Nat} {v : Value} {xs ys : List Int} {w : World} {c y : Int} (o k x ou : Int) (h1 : 1 ≤ o) (h2 : o ≤ 6) (n3 : o ≠ 3) (n4 : o ≠ 4) (hou : (xs.length : Int) - 1 = ou) (hx : xs.length ≤ 60) (h : IsL B w v xs)
    (hE : ∀ W, IsL B W v xs → Calls Tryd.prog 44 #[v, .agg #[.int .i64 o, .int .i64 k, .int .i64 x], .bool false, .int .i64 ou] W (Made W ys c y)) :
    Calls Tryd.prog 22 #[v, .agg #[.int .i64 o, .int .i64 k, .int .i64 x]] w (MadeR w v xs ys c y) := by
  have F0 : Hid (Fr w (two w o k x) o k x) := Fr.start w o k x
  have X : Hid (IsL B (two w o k x) v xs) := h.later F0.out.gr
  obtain ⟨a, cp, rfl⟩ := h.form
  have hl60 : xs.length ≤ 60 := hx
  have HE : Hid (Calls Tryd.prog 44 #[(.slice a xs.length cp), .agg #[.int .i64 o, .int .i64 k, .int .i64 x], .bool false, .int .i64 ou] (two w o k x) (Made (two w o k x) ys c y)) := hE _ X.out
  have hd : decide (1 ≤ o ∧ o ≤ 6) = true := decide_eq_true ⟨h1, h2⟩
  have n3' : (o == 3) = false := by simp [n3]
  have n4' : (o == 4) = false := by simp [n4]
  clear h hE
  go_enter Tryd.func22, Tryd.ntmps22
  go_wp2_with fail
  refine (within_is _ _ _ _).mono ?_
  rintro e W ⟨rfl, hW⟩
  rw [hW, hd]; clear hW W
  go_wp2_with fail
  refine HE.out.mono ?_
  rintro e w2 ⟨v2, rfl, hi, hb⟩
  rw [two_size] at hi hb
  have F2 : Hid (Fr w w2 o k x) := F0.out.later hb
  have I2 : Hid (IsL (w.heap.size + 2) w2 v2 ys) := hi
  clear hi hb F0 HE X hd
  have r0 := F2.out.r0
  have r1 := F2.out.r1
  have f0 := F2.out.f0
  have f1 := F2.out.f1
  go_wp2
  have E := F2.out.ends c y
  refine bodyPost_ret (v := .tuple #[v2, .agg #[.int .i64 c, .int .i64 y]]) ?_ rfl ⟨v2, rfl, Or.inr ((I2.out.wr c y).mono (by omega)), E.2.2⟩
  unfold wr at E
  simp [results, Tryd.results22, go_sem, E.1, E.2.1]

theorem RQueue_eq {B : Nat} {v : Value} {xs ys : List Int} {w : World} {o x c y : Int} (k : Int) (h : IsL B w v xs) (hx : xs.length ≤ 60) (hq : qdo xs o x = (ys, c, y)) :
    Calls Tryd.prog 21 #[v, .agg #[.int .i64 o, .int .i64 k, .int .i64 x]] w (MadeR w v xs ys c y) := by
  by_cases hr : 1 ≤ o ∧ o ≤ 6
  · by_cases n3 : o = 3
    · subst n3
      simp [qdo] at hq
      obtain ⟨rfl, rfl, rfl⟩ := hq
      exact RQueue_three k x h
    by_cases n4 : o = 4
    · subst n4
      simp [qdo] at hq
      obtain ⟨rfl, rfl, rfl⟩ := hq
      exact RQueue_four k x h
    refine RQueue_go o k x hr.1 hr.2 n3 n4 h fun W hW => ?_
    by_cases n1 : o = 1
    · subst n1
      by_cases h6 : 6 ≤ xs.length
      · simp [qdo, h6] at hq
        obtain ⟨rfl, rfl, rfl⟩ := hq
        exact ends_full k x 0 h6 hW hx
      · simp [qdo, h6] at hq
        obtain ⟨rfl, rfl, rfl⟩ := hq
        exact ends_put k x 0 (by omega) hW hx
    by_cases n6 : o = 6
    · subst n6
      simp [qdo] at hq
      obtain ⟨rfl, rfl, rfl⟩ := hq
      exact ends_count k x 0 hW hx
    cases xs with
    | nil =>
      have : o = 2 ∨ o = 5 := by omega
      rcases this with rfl | rfl
      · simp [qdo] at hq; obtain ⟨rfl, rfl, rfl⟩ := hq; exact ends_none k x 2 0 (by decide) (by decide) (by decide) hW hx
      · simp [qdo] at hq; obtain ⟨rfl, rfl, rfl⟩ := hq; exact ends_none k x 5 0 (by decide) (by decide) (by decide) hW hx
    | cons z r =>
      have : o = 2 ∨ o = 5 := by omega
      rcases this with rfl | rfl
      · simp [qdo] at hq
        obtain ⟨rfl, rfl, rfl⟩ := hq
        exact ends_take (xs := z :: r) (ou := 0) (z := z) k x 2 (by decide) (by decide) (by decide) (by decide) (by simp) rfl hW hx
      · simp [qdo] at hq
        obtain ⟨rfl, rfl, rfl⟩ := hq
        exact ends_peek (xs := z :: r) (ou := 0) (z := z) k x (by simp) rfl hW hx
  · have e : qdo xs o x = (xs, 5, 0) := by simp [qdo, show o ≠ 1 by omega, show o ≠ 2 by omega, show o ≠ 5 by omega, show o ≠ 6 by omega]
    rw [e] at hq
    simp only [Prod.mk.injEq] at hq
    obtain ⟨rfl, rfl, rfl⟩ := hq
    exact RQueue_out k x o hr h

theorem RStack_eq {B : Nat} {v : Value} {xs ys : List Int} {w : World} {o x c y : Int} (k : Int) (h : IsL B w v xs) (hx : xs.length ≤ 60) (hq : sdo xs o x = (ys, c, y)) :
    Calls Tryd.prog 22 #[v, .agg #[.int .i64 o, .int .i64 k, .int .i64 x]] w (MadeR w v xs ys c y) := by
  by_cases hr : 1 ≤ o ∧ o ≤ 6
  · by_cases n3 : o = 3
    · subst n3
      simp [sdo, qdo] at hq
      obtain ⟨rfl, rfl, rfl⟩ := hq
      exact RStack_three k x h
    by_cases n4 : o = 4
    · subst n4
      simp [sdo, qdo] at hq
      obtain ⟨rfl, rfl, rfl⟩ := hq
      exact RStack_four k x h
    refine RStack_go o k x ((xs.length : Int) - 1) hr.1 hr.2 n3 n4 rfl hx h fun W hW => ?_
    by_cases n1 : o = 1
    · subst n1
      by_cases h6 : 6 ≤ xs.length
      · simp [sdo, qdo, h6] at hq
        obtain ⟨rfl, rfl, rfl⟩ := hq
        exact ends_full k x _ h6 hW hx
      · simp [sdo, qdo, h6] at hq
        obtain ⟨rfl, rfl, rfl⟩ := hq
        exact ends_put k x _ (by omega) hW hx
    by_cases n6 : o = 6
    · subst n6
      simp [sdo, qdo] at hq
      obtain ⟨rfl, rfl, rfl⟩ := hq
      exact ends_count k x _ hW hx
    rcases List.eq_nil_or_concat xs with rfl | ⟨r, z, rfl⟩
    · have : o = 2 ∨ o = 5 := by omega
      rcases this with rfl | rfl
      · simp [sdo, qdo] at hq; obtain ⟨rfl, rfl, rfl⟩ := hq; exact ends_none k x 2 _ (by decide) (by decide) (by decide) hW hx
      · simp [sdo, qdo] at hq; obtain ⟨rfl, rfl, rfl⟩ := hq; exact ends_none k x 5 _ (by decide) (by decide) (by decide) hW hx
    · rw [List.concat_eq_append] at hq hW hx ⊢
      have e : (((r ++ [z]).length : Nat) : Int) - 1 = (r.length : Nat) := by simp
      have hz : (r ++ [z]).getD r.length 0 = z := by simp [List.getD]
      have hlt : r.length < (r ++ [z]).length := by simp
      rw [e]
      have : o = 2 ∨ o = 5 := by omega
      rcases this with rfl | rfl
      · rw [sdo_take] at hq
        simp only [Prod.mk.injEq] at hq
        obtain ⟨rfl, rfl, rfl⟩ := hq
        have t := ends_take (ou := r.length) (z := z) k x 2 (by decide) (by decide) (by decide) (by decide) hlt hz hW hx
        have e2 : (r ++ [z]).take r.length ++ (r ++ [z]).drop (r.length + 1) = r := by simp
        rw [e2] at t
        exact t
      · rw [sdo_peek] at hq
        simp only [Prod.mk.injEq] at hq
        obtain ⟨rfl, rfl, rfl⟩ := hq
        exact ends_peek (ou := r.length) (z := z) k x hlt hz hW hx
  · have e : sdo xs o x = (xs, 5, 0) := by simp [sdo, qdo, show o ≠ 1 by omega, show o ≠ 2 by omega, show o ≠ 5 by omega, show o ≠ 6 by omega]
    rw [e] at hq
    simp only [Prod.mk.injEq] at hq
    obtain ⟨rfl, rfl, rfl⟩ := hq
    exact RStack_out k x o hr h

end Go.Proofs.YtbmgjpdfmgcigabDoor
