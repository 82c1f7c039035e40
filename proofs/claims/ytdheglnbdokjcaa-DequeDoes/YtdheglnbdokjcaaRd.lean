/- The reference's Deque, and sameInts, by their contracts. -/
import Derived.Test.YtdheglnbdokjcaaRe
import Derived.Test.YtdheglnbdokjcaaDl
namespace Go.Proofs.Ytdheglnbdokjcaa
open Go.RowKit

/-- What the reference has made: the slice (it may be what came in) and the answer. -/
def MadeR (w : World) (ys : List Int) (c y : Int) (e : Ending) (w' : World) : Prop :=
  ∃ v', e = .returned (.tuple #[v', .agg #[.int .i64 c, .int .i64 y]]) ∧ IsL 0 w' v' ys ∧ Below w.heap.size w w'

set_option maxHeartbeats 1000000 in
theorem RDeque_out {B : Nat} {v : Value} {xs : List Int} {w : World} (k x : Int) (o : Int) (ho : ¬ (1 ≤ o ∧ o ≤ 6)) (h : IsL B w v xs) :
    Calls Try.prog 8 #[v, .agg #[.int .i64 o, .int .i64 k, .int .i64 x]] w (MadeR w xs 5 0) := by
  have F0 : Hid (Fr w (two w o k x) o k x) := Fr.start w o k x
  have X : Hid (IsL B w v xs) := h
  clear h
  go_enter Try.func8, Try.ntmps8
  go_wp2_with fail
  refine (within_is _ _ _ _).mono ?_
  rintro e W ⟨rfl, hW⟩
  rw [hW]; clear hW W
  have hd : decide (1 ≤ o ∧ o ≤ 6) = false := decide_eq_false ho
  go_wp2_with fail
  refine (said_is _ _ _).mono ?_
  rintro e w2 ⟨rfl, hb⟩
  have hb' : Below (w.heap.size + 2) (two w o k x) w2 := by rw [← two_size w o k x]; exact hb
  have F2 : Hid (Fr w w2 o k x) := F0.out.later hb'
  clear hb hb' F0
  have r0 := F2.out.r0
  have r1 := F2.out.r1
  have f0 := F2.out.f0
  have f1 := F2.out.f1
  go_wp2
  have E := F2.out.ends 5 0
  refine bodyPost_ret (v := .tuple #[v, .agg #[.int .i64 5, .int .i64 0]]) ?_ rfl ⟨v, rfl, (X.out.later E.2.2).any, E.2.2⟩
  unfold wr at E
  simp [results, Try.results8, go_sem, E.1, E.2.1]

set_option maxHeartbeats 1000000 in
theorem RDeque_back {B : Nat} {v : Value} {xs ys : List Int} {w : World} {c y : Int} (k x ou : Int) (hou : (xs.length : Int) - 1 = ou) (hx : xs.length ≤ 60) (h : IsL B w v xs)
    (hE : ∀ W, IsL B W v xs → Calls Try.prog 24 #[v, .agg #[.int .i64 4, .int .i64 k, .int .i64 x], .bool false, .int .i64 ou] W (Made W ys c y)) :
    Calls Try.prog 8 #[v, .agg #[.int .i64 4, .int .i64 k, .int .i64 x]] w (MadeR w ys c y) := by
  have F0 : Hid (Fr w (two w 4 k x) 4 k x) := Fr.start w 4 k x
  have X : Hid (IsL B (two w 4 k x) v xs) := h.later F0.out.gr
  obtain ⟨a, cp, rfl⟩ := h.form
  have hl60 : xs.length ≤ 60 := hx
  have HE : Hid (Calls Try.prog 24 #[(.slice a xs.length cp), .agg #[.int .i64 4, .int .i64 k, .int .i64 x], .bool false, .int .i64 ou] (two w 4 k x) (Made (two w 4 k x) ys c y)) := hE _ X.out
  have hd : decide ((1 : Int) ≤ 4 ∧ (4 : Int) ≤ 6) = true := decide_eq_true (by decide)
  clear h hE
  go_enter Try.func8, Try.ntmps8
  go_wp2_with fail
  refine (within_is _ _ _ _).mono ?_
  rintro e W ⟨rfl, hW⟩
  rw [hW, hd]; clear hW W
  go_wp2_with fail
  refine HE.out.mono ?_
  rintro e w2 ⟨v2, rfl, hi, hb⟩
  rw [two_size] at hi hb
  have F2 : Hid (Fr w w2 4 k x) := F0.out.later hb
  have I2 : Hid (IsL (w.heap.size + 2) w2 v2 ys) := hi
  clear hi hb F0 HE X hd
  have r0 := F2.out.r0
  have r1 := F2.out.r1
  have f0 := F2.out.f0
  have f1 := F2.out.f1
  go_wp2
  have E := F2.out.ends c y
  refine bodyPost_ret (v := .tuple #[v2, .agg #[.int .i64 c, .int .i64 y]]) ?_ rfl ⟨v2, rfl, (I2.out.wr c y).any, E.2.2⟩
  unfold wr at E
  simp [results, Try.results8, go_sem, E.1, E.2.1]

set_option maxHeartbeats 1000000 in
theorem RDeque_front {B : Nat} {v : Value} {xs ys : List Int} {w : World} {c y : Int} (k x : Int) (h : IsL B w v xs)
    (hE : ∀ W, IsL B W v xs → Calls Try.prog 24 #[v, .agg #[.int .i64 3, .int .i64 k, .int .i64 x], .bool true, .int .i64 0] W (Made W ys c y)) :
    Calls Try.prog 8 #[v, .agg #[.int .i64 3, .int .i64 k, .int .i64 x]] w (MadeR w ys c y) := by
  have F0 : Hid (Fr w (two w 3 k x) 3 k x) := Fr.start w 3 k x
  have X : Hid (IsL B (two w 3 k x) v xs) := h.later F0.out.gr
  have HE : Hid (Calls Try.prog 24 #[v, .agg #[.int .i64 3, .int .i64 k, .int .i64 x], .bool true, .int .i64 0] (two w 3 k x) (Made (two w 3 k x) ys c y)) := hE _ X.out
  have hd : decide ((1 : Int) ≤ 3 ∧ (3 : Int) ≤ 6) = true := decide_eq_true (by decide)
  clear h hE
  go_enter Try.func8, Try.ntmps8
  go_wp2_with fail
  refine (within_is _ _ _ _).mono ?_
  rintro e W ⟨rfl, hW⟩
  rw [hW, hd]; clear hW W
  go_wp2_with fail
  refine HE.out.mono ?_
  rintro e w2 ⟨v2, rfl, hi, hb⟩
  rw [two_size] at hi hb
  have F2 : Hid (Fr w w2 3 k x) := F0.out.later hb
  have I2 : Hid (IsL (w.heap.size + 2) w2 v2 ys) := hi
  clear hi hb F0 HE X hd
  have r0 := F2.out.r0
  have r1 := F2.out.r1
  have f0 := F2.out.f0
  have f1 := F2.out.f1
  go_wp2
  have E := F2.out.ends c y
  refine bodyPost_ret (v := .tuple #[v2, .agg #[.int .i64 c, .int .i64 y]]) ?_ rfl ⟨v2, rfl, (I2.out.wr c y).any, E.2.2⟩
  unfold wr at E
  simp [results, Try.results8, go_sem, E.1, E.2.1]

set_option maxHeartbeats 1000000 in
theorem RDeque_else {B : Nat} {v : Value} {xs ys : List Int} {w : World} {c y : Int} (o k x : Int) (h1 : 1 ≤ o) (h2 : o ≤ 6) (n3 : o ≠ 3) (n4 : o ≠ 4) (h : IsL B w v xs)
    (hE : ∀ W, IsL B W v xs → Calls Try.prog 24 #[v, .agg #[.int .i64 o, .int .i64 k, .int .i64 x], .bool false, .int .i64 0] W (Made W ys c y)) :
    Calls Try.prog 8 #[v, .agg #[.int .i64 o, .int .i64 k, .int .i64 x]] w (MadeR w ys c y) := by
  have F0 : Hid (Fr w (two w o k x) o k x) := Fr.start w o k x
  have X : Hid (IsL B (two w o k x) v xs) := h.later F0.out.gr
  have HE : Hid (Calls Try.prog 24 #[v, .agg #[.int .i64 o, .int .i64 k, .int .i64 x], .bool false, .int .i64 0] (two w o k x) (Made (two w o k x) ys c y)) := hE _ X.out
  have hd : decide ((1 : Int) ≤ o ∧ (o : Int) ≤ 6) = true := decide_eq_true ⟨h1, h2⟩
  have n3' : (o == 3) = false := by simp [n3]
  have n4' : (o == 4) = false := by simp [n4]
  clear h hE
  go_enter Try.func8, Try.ntmps8
  go_wp2_with fail
  refine (within_is _ _ _ _).mono ?_
  rintro e W ⟨rfl, hW⟩
  rw [hW, hd]; clear hW W
  go_wp2_with fail
  refine HE.out.mono ?_
  rintro e w2 ⟨v2, rfl, hi, hb⟩
  rw [two_size] at hi hb
  have F2 : Hid (Fr w w2 o k x) := F0.out.later hb
  have I2 : Hid (IsL (w.heap.size + 2) w2 v2 ys) := hi
  clear hi hb F0 HE X hd
  have r0 := F2.out.r0
  have r1 := F2.out.r1
  have f0 := F2.out.f0
  have f1 := F2.out.f1
  go_wp2
  have E := F2.out.ends c y
  refine bodyPost_ret (v := .tuple #[v2, .agg #[.int .i64 c, .int .i64 y]]) ?_ rfl ⟨v2, rfl, (I2.out.wr c y).any, E.2.2⟩
  unfold wr at E
  simp [results, Try.results8, go_sem, E.1, E.2.1]

theorem RDeque_eq {B : Nat} {v : Value} {xs ys : List Int} {w : World} {o x c y : Int} (k : Int) (h : IsL B w v xs) (hx : xs.length ≤ 60) (hq : ddo xs o x = (ys, c, y)) :
    Calls Try.prog 8 #[v, .agg #[.int .i64 o, .int .i64 k, .int .i64 x]] w (MadeR w ys c y) := by
  by_cases hr : 1 ≤ o ∧ o ≤ 6
  · by_cases n3 : o = 3
    · subst n3
      refine RDeque_front k x h fun W hW => ?_
      by_cases h6 : 6 ≤ xs.length
      · rw [ddo_ffull x h6] at hq
        simp only [Prod.mk.injEq] at hq
        obtain ⟨rfl, rfl, rfl⟩ := hq
        exact ends_ffull k x 0 h6 hW hx
      · rw [ddo_front x (by omega)] at hq
        simp only [Prod.mk.injEq] at hq
        obtain ⟨rfl, rfl, rfl⟩ := hq
        exact ends_front k x 0 (by omega) hW hx
    by_cases n4 : o = 4
    · subst n4
      rw [ddo_back] at hq
      rcases List.eq_nil_or_concat xs with rfl | ⟨r, z, rfl⟩
      · refine RDeque_back k x (-1) (by simp) hx h fun W hW => ?_
        simp [sdo, qdo] at hq
        obtain ⟨rfl, rfl, rfl⟩ := hq
        exact ends_none k x 4 (-1) (by decide) (by decide) (by decide) hW hx
      · rw [List.concat_eq_append] at h hx hq
        rw [sdo_take] at hq
        simp only [Prod.mk.injEq] at hq
        obtain ⟨rfl, rfl, rfl⟩ := hq
        refine RDeque_back k x (r.length : Nat) (by simp) hx h fun W hW => ?_
        have e := ends_take (xs := r ++ [z]) (ou := r.length) (z := z) k x 4 (by decide) (by decide) (by decide) (by decide) (by simp) (by simp [List.getD]) hW hx
        rwa [List.take_left, List.drop_eq_nil_of_le (by simp), List.append_nil] at e
    rw [ddo_else xs o x n3 n4] at hq
    refine RDeque_else o k x hr.1 hr.2 n3 n4 h fun W hW => ?_
    by_cases n1 : o = 1
    · subst n1
      by_cases h6 : 6 ≤ xs.length
      · simp [qdo, h6] at hq
        obtain ⟨rfl, rfl, rfl⟩ := hq
        exact ends_full k x 0 h6 hW hx
      · simp [qdo, h6] at hq
        obtain ⟨rfl, rfl, rfl⟩ := hq
        exact ends_put k x 0 (by omega) hW hx
    by_cases n6 : o = 6
    · subst n6
      simp [qdo] at hq
      obtain ⟨rfl, rfl, rfl⟩ := hq
      exact ends_count k x 0 hW hx
    cases xs with
    | nil =>
      have : o = 2 ∨ o = 5 := by omega
      rcases this with rfl | rfl
      · simp [qdo] at hq; obtain ⟨rfl, rfl, rfl⟩ := hq; exact ends_none k x 2 0 (by decide) (by decide) (by decide) hW hx
      · simp [qdo] at hq; obtain ⟨rfl, rfl, rfl⟩ := hq; exact ends_none k x 5 0 (by decide) (by decide) (by decide) hW hx
    | cons z r =>
      have : o = 2 ∨ o = 5 := by omega
      rcases this with rfl | rfl
      · simp [qdo] at hq
        obtain ⟨rfl, rfl, rfl⟩ := hq
        exact ends_take (xs := z :: r) (ou := 0) (z := z) k x 2 (by decide) (by decide) (by decide) (by decide) (by simp) rfl hW hx
      · simp [qdo] at hq
        obtain ⟨rfl, rfl, rfl⟩ := hq
        exact ends_peek (xs := z :: r) (ou := 0) (z := z) k x (by simp) rfl hW hx
  · have e : ddo xs o x = (xs, 5, 0) := by simp [ddo, qdo, show o ≠ 1 by omega, show o ≠ 2 by omega, show o ≠ 3 by omega, show o ≠ 4 by omega, show o ≠ 5 by omega, show o ≠ 6 by omega]
    rw [e] at hq
    simp only [Prod.mk.injEq] at hq
    obtain ⟨rfl, rfl, rfl⟩ := hq
    exact RDeque_out k x o hr h

set_option maxHeartbeats 1000000 in
theorem same_is {B C : Nat} {u v : Value} {xs : List Int} {w : World} (h : IsL B w u xs) (k : IsL C w v xs) (hx : xs.length ≤ 1000000) :
    Calls Try.prog 10 #[u, v] w fun e w' => e = .returned (.bool true) ∧ Below w.heap.size w w' := by
  by_cases h0 : xs.length = 0
  · have hnil : xs = [] := List.eq_nil_of_length_eq_zero h0
    subst hnil
    obtain ⟨a, c, rfl⟩ := h.form
    obtain ⟨a', c', rfl⟩ := k.form
    clear h k
    go_enter Try.func10, Try.ntmps10
    go_wp2_with fail
    go_loopg [5] 0 (fun _ s5 wt => s5 = .int .i64 0 ∧ wt = w)
    case atStart => exact ⟨rfl, rfl⟩
    case round =>
      obtain ⟨rfl, rfl⟩ := hrel
      go_wp2
      go_ret
      exact ⟨rfl, Below.refl _ _⟩
  · have hpos : 0 < xs.length := by omega
    obtain ⟨b, off, c, rfl⟩ := h.formp hpos
    obtain ⟨b', off', c', rfl⟩ := k.formp hpos
    have H : Hid (∀ j, j < xs.length → w.cell? ⟨b, off + j, none⟩ = some (.int .i64 (xs.getD j 0))) := fun j hj => h.at hj
    have K : Hid (∀ j, j < xs.length → w.cell? ⟨b', off' + j, none⟩ = some (.int .i64 (xs.getD j 0))) := fun j hj => k.at hj
    clear h k h0
    go_enter Try.func10, Try.ntmps10
    go_wp2_with fail
    go_loopg [5] xs.length (fun gg s5 wt => ∃ i q : Nat, i ≤ xs.length ∧ xs.length - i ≤ gg ∧ s5 = .int .i64 i ∧ wt = w.drewN q)
    case atStart => exact ⟨0, 0, Nat.zero_le _, by omega, rfl, rfl⟩
    case round =>
      obtain ⟨i, q, hi, hgg, rfl, rfl⟩ := hrel
      by_cases hlt : i < xs.length
      · have g1 : w.cell? ⟨b, off + i, none⟩ = some (.int .i64 (xs.getD i 0)) := H.out i hlt
        have g2 : w.cell? ⟨b', off' + i, none⟩ = some (.int .i64 (xs.getD i 0)) := K.out i hlt
        generalize xs.getD i 0 = x at g1 g2
        have hi1 : (i : Int) < (xs.length : Int) := by omega
        have hi0 : (0 : Int) ≤ (i : Int) := by omega
        go_wp2_with fail
        go_region
        all_goals go_wp2
        go_roundg (xs.length - (i + 1))
        case measure => omega
        case rel => exact ⟨i + 1, q + 1, by omega, by omega, by go_num, rfl⟩
      · obtain rfl : i = xs.length := by omega
        go_wp2
        go_ret
        exact ⟨rfl, below_drewN _ _⟩
end Go.Proofs.Ytdheglnbdokjcaa
