/- What the laws ask of a table: facts of no program. -/
import Derived.Test.YtojnkfdodjcnfabTb
namespace Go.Proofs.Ytojnkfdodjcnfab

theorem look_has {t : Tb} {k : Int} (h : t.k (place t k) = k) : look t k = (1, t.v (place t k)) := by rw [look, if_pos h]
theorem look_hasnt {t : Tb} {k : Int} (h : t.k (place t k) ≠ k) : look t k = (4, 0) := by rw [look, if_neg h]
theorem has_of_look {t u : Tb} {k : Int} (h : look u k = look t k) : (u.k (place u k) = k ↔ t.k (place t k) = k) := by
  by_cases a : u.k (place u k) = k <;> by_cases b : t.k (place t k) = k
  · exact ⟨fun _ => b, fun _ => a⟩
  · rw [look_has a, look_hasnt b] at h; simp at h
  · rw [look_hasnt a, look_has b] at h; simp at h
  · exact ⟨fun h => absurd h a, fun h => absurd h b⟩

/-- What is put in is there, and all other keys have what they had. -/
structure PutF (t u : Tb) (k x : Int) : Prop where
  rt : RT u
  has : look u k = (1, x)
  other : ∀ j, j ≠ 0 → j ≠ k → look u j = look t j
  len : len u = if t.k (place t k) = k then Go.Proofs.Ytojnkfdodjcnfab.len t else Go.Proofs.Ytojnkfdodjcnfab.len t + 1
theorem put_facts {t : Tb} (h : RT t) {k x : Int} (h1 : 1 ≤ k) (h2 : k ≤ 1000) (x0 : 0 ≤ x) (x1 : x ≤ 4294967295) (hc : t.k (place t k) = k ∨ len t < 6) : PutF t (t.set (place t k) k x) k x := by
  have hk0 : k ≠ 0 := by omega
  have hp := place_lt t k
  have l := len_set t hp k x
  rw [if_neg hk0] at l
  by_cases hh : t.k (place t k) = k
  · have hn : t.k (place t k) ≠ 0 := by rw [hh]; exact hk0
    have a := put_has h hp hn x0 x1
    rw [hh] at a
    refine ⟨a, look_in a hk0 (in_put hp k x), fun j j0 jk => look_congr a h j0 fun y => ?_, ?_⟩
    · have := in_put_has (t := t) (p := place t k) x (j := j) (y := y) (by rw [hh]; exact jk)
      rw [hh] at this
      exact this
    · rw [if_pos hh]
      have hi : ind t (place t k) = 1 := by unfold ind; rw [if_neg hn]
      omega
  · have hl : len t < 6 := hc.resolve_left hh
    have a := put_new h h1 h2 x0 x1 hh hl
    have hf := free_of_place h hh
    refine ⟨a, look_in a hk0 (in_put hp k x), fun j j0 jk => look_congr a h j0 fun y => in_put_new hf k x jk j0, ?_⟩
    rw [if_neg hh]
    have hi : ind t (place t k) = 0 := by unfold ind; rw [if_pos hf]
    omega

structure TakeF (t u : Tb) (k : Int) : Prop where
  rt : RT u
  gone : look u k = (4, 0)
  other : ∀ j, j ≠ 0 → j ≠ k → look u j = look t j
  len : len u + 1 = Go.Proofs.Ytojnkfdodjcnfab.len t
theorem take_facts {t : Tb} (h : RT t) {k : Int} (hk0 : k ≠ 0) (hh : t.k (place t k) = k) : TakeF t (without t (place t k)) k := by
  have hn : t.k (place t k) ≠ 0 := by rw [hh]; exact hk0
  obtain ⟨a, b, c⟩ := without_all h (place_lt t k) hn
  rw [hh] at b
  refine ⟨a, look_out fun x hx => ((b k x hk0).1 hx).1 rfl, fun j j0 jk => look_congr a h j0 fun y => ?_, c⟩
  exact (b j y j0).trans ⟨fun h => h.2, fun h => ⟨jk, h⟩⟩

/-- Put: refused, or done. -/
theorem puts {t : Tb} (h : RT t) {k x : Int} (h1 : 1 ≤ k) (h2 : k ≤ 1000) (x0 : 0 ≤ x) (x1 : x ≤ 4294967295) :
    (tdo t 1 k x = (t, 3, 0) ∧ len t = 6 ∧ look t k = (4, 0)) ∨ ∃ u, tdo t 1 k x = (u, 1, 0) ∧ PutF t u k x := by
  by_cases hh : t.k (place t k) = k
  · exact Or.inr ⟨_, tdo_put x h1 h2 (Or.inl hh), put_facts h h1 h2 x0 x1 (Or.inl hh)⟩
  · by_cases hl : 6 ≤ len t
    · exact Or.inl ⟨tdo_full x h1 h2 hh hl, by have := h.room; omega, look_hasnt hh⟩
    · exact Or.inr ⟨_, tdo_put x h1 h2 (Or.inr (by omega)), put_facts h h1 h2 x0 x1 (Or.inr (by omega))⟩
theorem puts_room {t : Tb} (h : RT t) {k x : Int} (h1 : 1 ≤ k) (h2 : k ≤ 1000) (x0 : 0 ≤ x) (x1 : x ≤ 4294967295) (hl : len t < 6) :
    ∃ u, tdo t 1 k x = (u, 1, 0) ∧ PutF t u k x := by
  rcases puts h h1 h2 x0 x1 with ⟨_, h6, _⟩ | h
  · omega
  · exact h
theorem puts_again {t : Tb} (h : RT t) {k x y : Int} (h1 : 1 ≤ k) (h2 : k ≤ 1000) (x0 : 0 ≤ x) (x1 : x ≤ 4294967295) (hl : look t k = (1, y)) :
    ∃ u, tdo t 1 k x = (u, 1, 0) ∧ PutF t u k x ∧ len u = len t := by
  have hh : t.k (place t k) = k := Classical.byContradiction fun hn => by rw [look_hasnt hn] at hl; simp at hl
  have P := put_facts h h1 h2 x0 x1 (Or.inl hh)
  exact ⟨_, tdo_put x h1 h2 (Or.inl hh), P, by rw [P.len, if_pos hh]⟩
/-- Take: what Peek tells is told, and it is gone. -/
theorem takes {t : Tb} (h : RT t) {k x : Int} (h1 : 1 ≤ k) (h2 : k ≤ 1000) :
    ∃ u, tdo t 2 k x = (u, (look t k).1, (look t k).2) ∧ RT u ∧ look u k = (4, 0) ∧ (∀ j, j ≠ 0 → j ≠ k → look u j = look t j) ∧ (∀ y, look t k = (1, y) → len u + 1 = len t) := by
  by_cases hh : t.k (place t k) = k
  · have T := take_facts h (by omega : k ≠ 0) hh
    refine ⟨_, ?_, T.rt, T.gone, T.other, fun _ _ => T.len⟩
    rw [tdo_take x h1 h2 hh, look_has hh]
  · refine ⟨t, ?_, h, look_hasnt hh, fun _ _ _ => rfl, fun y hy => by rw [look_hasnt hh] at hy; simp at hy⟩
    rw [tdo_absent x (Or.inl rfl) h1 h2 hh, look_hasnt hh]

/-- Two keys, in whichever order. -/
theorem order {t x y x1 y1 : Tb} {a b va vb : Int} (hab : a ≠ b) (a0 : a ≠ 0) (b0 : b ≠ 0) (X1 : PutF t x1 a va) (X : PutF x1 x b vb) (Y1 : PutF t y1 b vb) (Y : PutF y1 y a va) :
    len x = len y ∧ ∀ j, j ≠ 0 → look x j = look y j := by
  constructor
  · have e1 := has_of_look (X1.other b b0 (Ne.symm hab))
    have e2 := has_of_look (Y1.other a a0 hab)
    have l1 := X1.len; have l2 := X.len; have l3 := Y1.len; have l4 := Y.len
    by_cases ha : t.k (place t a) = a <;> by_cases hb : t.k (place t b) = b <;> simp only [e1, e2, ha, hb, if_true, if_false] at l1 l2 l3 l4 <;> omega
  · intro j j0
    by_cases ja : j = a
    · subst ja
      rw [X.other j j0 hab, X1.has, Y.has]
    · by_cases jb : j = b
      · subst jb
        rw [X.has, Y.other j j0 ja, Y1.has]
      · rw [X.other j j0 jb, X1.other j j0 ja, Y.other j j0 ja, Y1.other j j0 jb]
end Go.Proofs.Ytojnkfdodjcnfab
