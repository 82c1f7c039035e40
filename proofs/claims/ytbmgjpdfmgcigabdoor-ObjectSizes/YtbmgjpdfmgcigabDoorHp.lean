/- Heaps as lists: what rises, what sinks; facts of no program. -/
import Derived.WalkKit
namespace Go.Proofs.YtbmgjpdfmgcigabDoor
set_option maxRecDepth 20000

/-- The thing at a place. -/
def gt (l : List Int) (i : Nat) : Int := l.getD i 0
/-- Two things that change places. -/
def swp (l : List Int) (i j : Nat) : List Int := (l.set i (gt l j)).set j (gt l i)
theorem swp_len (l : List Int) (i j : Nat) : (swp l i j).length = l.length := by simp [swp]
theorem gt_set (l : List Int) (i k : Nat) (x : Int) (hi : i < l.length) : gt (l.set i x) k = if k = i then x else gt l k := by
  unfold gt
  rw [List.getD_eq_getElem?_getD, List.getD_eq_getElem?_getD, List.getElem?_set]
  by_cases h : k = i
  · subst h; simp [hi]
  · simp [h, Ne.symm h]
theorem gt_swp (l : List Int) (i j k : Nat) (hi : i < l.length) (hj : j < l.length) : gt (swp l i j) k = if k = j then gt l i else if k = i then gt l j else gt l k := by
  unfold swp
  rw [gt_set _ _ _ _ (by simpa using hj), gt_set _ _ _ _ hi]
theorem swp_perm (l : List Int) (i j : Nat) (hi : i < l.length) (hj : j < l.length) : (swp l i j).Perm l := by
  have h := List.set_set_perm (as := l) hi hj
  simpa [swp, gt, List.getD, hi, hj] using h

/-- What rises from place i: while it is less than the one above. -/
def riseF : Nat → List Int → Nat → List Int
  | 0, l, _ => l
  | n + 1, l, i => if 0 < i ∧ gt l i < gt l ((i - 1) / 2) then riseF n (swp l i ((i - 1) / 2)) ((i - 1) / 2) else l
/-- The place of the lesser one below place i. -/
def blw (l : List Int) (i : Nat) : Nat := if 2 * i + 2 < l.length ∧ gt l (2 * i + 2) < gt l (2 * i + 1) then 2 * i + 2 else 2 * i + 1
/-- What sinks from place i: while the lesser one below it is less. -/
def sinkF : Nat → List Int → Nat → List Int
  | 0, l, _ => l
  | n + 1, l, i => if blw l i < l.length ∧ gt l (blw l i) < gt l i then sinkF n (swp l i (blw l i)) (blw l i) else l

/-- A heap, but for how many. -/
def Hp (l : List Int) : Prop := ∀ i, 0 < i → i < l.length → gt l ((i - 1) / 2) ≤ gt l i
/-- A heap, but for what stands above place i. -/
structure Hu (l : List Int) (i : Nat) : Prop where
  lt : i < l.length
  a : ∀ k, 0 < k → k < l.length → k ≠ i → gt l ((k - 1) / 2) ≤ gt l k
  b : 0 < i → ∀ k, 0 < k → k < l.length → (k - 1) / 2 = i → gt l ((i - 1) / 2) ≤ gt l k
/-- A heap, but for what stands below place i. -/
structure Hd (l : List Int) (i : Nat) : Prop where
  lt : i < l.length
  a : ∀ k, 0 < k → k < l.length → (k - 1) / 2 ≠ i → gt l ((k - 1) / 2) ≤ gt l k
  b : 0 < i → ∀ k, 0 < k → k < l.length → (k - 1) / 2 = i → gt l ((i - 1) / 2) ≤ gt l k

theorem riseF_perm : ∀ (n : Nat) (l : List Int) (i : Nat), i < l.length → (riseF n l i).Perm l
  | 0, l, _, _ => .refl l
  | n + 1, l, i, hi => by
    unfold riseF
    split
    · exact (riseF_perm n _ _ (by rw [swp_len]; omega)).trans (swp_perm l _ _ hi (by omega))
    · exact .refl l
theorem riseF_heap : ∀ (n : Nat) (l : List Int) (i : Nat), i ≤ n → Hu l i → Hp (riseF n l i)
  | 0, l, i, hn, h => by
    intro k h0 hk
    exact h.a k h0 hk (by omega)
  | n + 1, l, i, hn, h => by
    have hi := h.lt
    unfold riseF
    split
    · rename_i hc
      obtain ⟨h0, hlt⟩ := hc
      have hp : (i - 1) / 2 < l.length := by omega
      refine riseF_heap n _ _ (by omega) ⟨by rw [swp_len]; exact hp, fun k k0 kl kn => ?_, fun p0 k k0 kl kp => ?_⟩
      · rw [swp_len] at kl
        rw [gt_swp l i _ _ hi hp, gt_swp l i _ _ hi hp, if_neg kn]
        by_cases e1 : k = i
        · subst e1
          rw [if_pos rfl, if_pos rfl]; omega
        · rw [if_neg e1]
          by_cases e2 : (k - 1) / 2 = (i - 1) / 2
          · rw [if_pos e2]
            have := h.a k k0 kl e1
            rw [e2] at this; omega
          · rw [if_neg e2]
            by_cases e3 : (k - 1) / 2 = i
            · rw [if_pos e3]; exact h.b h0 k k0 kl e3
            · rw [if_neg e3]; exact h.a k k0 kl e1
      · rw [swp_len] at kl
        have q := h.a ((i - 1) / 2) p0 hp (by omega)
        rw [gt_swp l i _ _ hi hp, gt_swp l i _ _ hi hp, if_neg (show k ≠ (i - 1) / 2 by omega), if_neg (show ((i - 1) / 2 - 1) / 2 ≠ (i - 1) / 2 by omega), if_neg (show ((i - 1) / 2 - 1) / 2 ≠ i by omega)]
        by_cases e1 : k = i
        · rw [if_pos e1]; exact q
        · rw [if_neg e1]
          have := h.a k k0 kl e1
          rw [kp] at this; omega
    · rename_i hc
      intro k h0 hk
      by_cases e : k = i
      · subst e; exact Int.not_lt.1 fun hh => hc ⟨h0, hh⟩
      · exact h.a k h0 hk e
theorem riseF_len (n : Nat) (l : List Int) (i : Nat) (h : i < l.length) : (riseF n l i).length = l.length := (riseF_perm n l i h).length_eq

theorem blw_gt (l : List Int) (i : Nat) : i < blw l i := by unfold blw; split <;> omega
theorem blw_par (l : List Int) (i : Nat) : (blw l i - 1) / 2 = i := by unfold blw; split <;> omega
theorem blw_least (l : List Int) (i k : Nat) (hk : k < l.length) (h0 : 0 < k) (hp : (k - 1) / 2 = i) : blw l i < l.length ∧ gt l (blw l i) ≤ gt l k := by
  have : k = 2 * i + 1 ∨ k = 2 * i + 2 := by omega
  unfold blw
  split
  · rename_i hc
    refine ⟨hc.1, ?_⟩
    rcases this with rfl | rfl <;> omega
  · rename_i hc
    refine ⟨by omega, ?_⟩
    rcases this with rfl | rfl
    · exact Int.le_refl _
    · exact Int.not_lt.1 fun hh => hc ⟨hk, hh⟩
theorem sinkF_perm : ∀ (n : Nat) (l : List Int) (i : Nat), i < l.length → (sinkF n l i).Perm l
  | 0, l, _, _ => .refl l
  | n + 1, l, i, hi => by
    unfold sinkF
    split
    · rename_i hc
      exact (sinkF_perm n _ _ (by rw [swp_len]; exact hc.1)).trans (swp_perm l _ _ hi hc.1)
    · exact .refl l
theorem sinkF_heap : ∀ (n : Nat) (l : List Int) (i : Nat), l.length ≤ n + i + 1 → Hd l i → Hp (sinkF n l i)
  | 0, l, i, hn, h => by
    intro k h0 hk
    have hk' : k < l.length := hk
    exact h.a k h0 hk' (by omega)
  | n + 1, l, i, hn, h => by
    have hi := h.lt
    have hg := blw_gt l i
    have hp := blw_par l i
    unfold sinkF
    split
    · rename_i hc
      obtain ⟨hl, hlt⟩ := hc
      have hb := blw_least l i
      generalize blw l i = c at *
      refine sinkF_heap n _ _ (by rw [swp_len]; omega) ⟨by rw [swp_len]; exact hl, fun k k0 kl kn => ?_, fun p0 k k0 kl kp => ?_⟩
      · rw [swp_len] at kl
        rw [gt_swp l i _ _ hi hl, gt_swp l i _ _ hi hl, if_neg kn]
        by_cases e1 : k = c
        · subst e1
          rw [if_pos rfl, if_pos hp]; omega
        · rw [if_neg e1]
          by_cases e2 : (k - 1) / 2 = i
          · rw [if_pos e2, if_neg (show k ≠ i by omega)]
            exact (hb k kl k0 e2).2
          · rw [if_neg e2]
            by_cases e3 : k = i
            · rw [if_pos e3]
              subst e3
              exact h.b k0 c (by omega) hl hp
            · rw [if_neg e3]; exact h.a k k0 kl e2
      · rw [swp_len] at kl
        rw [gt_swp l i _ _ hi hl, gt_swp l i _ _ hi hl, if_neg (show k ≠ c by omega), if_neg (show k ≠ i by omega), if_neg (show (c - 1) / 2 ≠ c by omega), if_pos hp]
        have := h.a k k0 kl (by omega)
        rw [kp] at this; exact this
    · rename_i hc
      intro k h0 hk
      by_cases e : (k - 1) / 2 = i
      · obtain ⟨q1, q2⟩ := blw_least l i k hk h0 e
        have : gt l i ≤ gt l (blw l i) := Int.not_lt.1 fun hh => hc ⟨q1, hh⟩
        rw [e]; omega
      · exact h.a k h0 hk e

theorem Hp.least {l : List Int} (h : Hp l) : ∀ (n i : Nat), i ≤ n → i < l.length → gt l 0 ≤ gt l i
  | 0, i, hn, _ => by rw [show i = 0 by omega]; exact Int.le_refl _
  | n + 1, i, hn, hi => by
    by_cases h0 : i = 0
    · rw [h0]; exact Int.le_refl _
    · have := h.least n ((i - 1) / 2) (by omega) (by omega)
      have := h i (by omega) hi
      omega
theorem gt_mem (l : List Int) (x : Int) (h : x ∈ l) : ∃ i, i < l.length ∧ gt l i = x := by
  obtain ⟨i, hi, e⟩ := List.mem_iff_getElem.1 h
  exact ⟨i, hi, by simp [gt, List.getD, hi, e]⟩
theorem Hp.head {x : Int} {r : List Int} (h : Hp (x :: r)) : ∀ y ∈ x :: r, x ≤ y := by
  intro y hy
  obtain ⟨i, hi, rfl⟩ := gt_mem _ _ hy
  exact h.least i i (Nat.le_refl _) hi

/-- One more. -/
def rise (l : List Int) : List Int := riseF l.length l (l.length - 1)
theorem rise_perm (l : List Int) : (rise l).Perm l := by
  unfold rise
  cases l with
  | nil => simp [riseF]
  | cons x r => exact riseF_perm _ _ _ (by simp)
theorem rise_heap (l : List Int) (x : Int) (h : Hp l) : Hp (rise (l ++ [x])) := by
  unfold rise
  refine riseF_heap _ _ _ (by simp) ⟨by simp, fun k k0 kl kn => ?_, fun p0 k k0 kl kp => ?_⟩
  · have hk : k < l.length := by simp at kl kn; omega
    have e : ∀ j, j < l.length → gt (l ++ [x]) j = gt l j := fun j hj => by simp [gt, List.getD, List.getElem?_append_left hj]
    rw [e _ hk, e _ (by omega)]
    exact h k k0 hk
  · simp at kl kp; omega
/-- One less, another one at the top. -/
def sink (l : List Int) : List Int := sinkF l.length l 0
theorem sink_perm (l : List Int) : (sink l).Perm l := by
  unfold sink
  cases l with
  | nil => simp [sinkF]
  | cons x r => exact sinkF_perm _ _ _ (by simp)
theorem sink_heap (x z : Int) (r : List Int) (h : Hp (x :: r)) : Hp (sink (z :: r)) := by
  unfold sink
  refine sinkF_heap _ _ _ (by omega) ⟨by simp, fun k k0 kl kn => ?_, fun p0 => by omega⟩
  have e : ∀ j, 0 < j → gt (z :: r) j = gt (x :: r) j := fun j hj => by
    obtain ⟨m, rfl⟩ : ∃ m, j = m + 1 := ⟨j - 1, by omega⟩
    simp [gt, List.getD]
  rw [e _ k0, e _ (by omega)]
  exact h k k0 (by simpa using kl)
theorem Hp.cut {l r : List Int} (h : Hp (l ++ r)) : Hp l := by
  intro i h0 hi
  have e : ∀ j, j < l.length → gt (l ++ r) j = gt l j := fun j hj => by simp [gt, List.getD, List.getElem?_append_left hj]
  have := h i h0 (by simp; omega)
  rwa [e _ hi, e _ (by omega)] at this

/-- In order. -/
def srt (l : List Int) : List Int := l.mergeSort fun x y => decide (x ≤ y)
theorem srt_perm (l : List Int) : (srt l).Perm l := List.mergeSort_perm l _
theorem srt_rises (l : List Int) : (srt l).Pairwise (· ≤ ·) := by
  have := List.pairwise_mergeSort (le := fun x y : Int => decide (x ≤ y)) (fun a b c => by simp; omega) (fun a b => by simp; omega) l
  unfold srt
  simpa using this
theorem srt_eq {l m : List Int} (h : l.Perm m) : srt l = srt m :=
  List.Perm.eq_of_pairwise (le := (· ≤ ·)) (fun _ _ _ _ h1 h2 => Int.le_antisymm h1 h2) (srt_rises l) (srt_rises m) ((srt_perm l).trans (h.trans (srt_perm m).symm))
theorem srt_len (l : List Int) : (srt l).length = l.length := (srt_perm l).length_eq
end Go.Proofs.YtbmgjpdfmgcigabDoor
