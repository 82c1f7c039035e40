/- Tables of eight slots: what stands where, what is put in, what is taken out: facts of no program. -/
namespace Go.Proofs.YtbmgjpdfmgcigabDoor.Tab
set_option maxRecDepth 20000

/-- A table: the key and the value of each slot. -/
structure Tb where
  k : Nat → Int
  v : Nat → Int

def Tb.zero : Tb := ⟨fun _ => 0, fun _ => 0⟩
def Tb.set (t : Tb) (p : Nat) (x y : Int) : Tb := ⟨fun i => if i = p then x else t.k i, fun i => if i = p then y else t.v i⟩

theorem Tb.set_k (t : Tb) (p : Nat) (x y : Int) (i : Nat) : (t.set p x y).k i = if i = p then x else t.k i := rfl
theorem Tb.set_v (t : Tb) (p : Nat) (x y : Int) (i : Nat) : (t.set p x y).v i = if i = p then y else t.v i := rfl

/-- Where a key would stand. -/
def home (k : Int) : Nat := (5 * k % 8).toNat
theorem home_lt (k : Int) : home k < 8 := by unfold home; omega
/-- The i-th slot of a key's row. -/
def rowAt (k : Int) (i : Nat) : Nat := (home k + i) % 8
theorem rowAt_lt (k : Int) (i : Nat) : rowAt k i < 8 := Nat.mod_lt _ (by decide)

/-- How far slot p is behind slot h, going round. -/
def ds (h p : Nat) : Nat := (p + 8 - h) % 8
theorem ds_lt (h p : Nat) : ds h p < 8 := Nat.mod_lt _ (by decide)
theorem ds_row (k : Int) (i : Nat) (hi : i < 8) : ds (home k) (rowAt k i) = i := by
  have := home_lt k
  unfold ds rowAt; omega
theorem ds_inj {h p q : Nat} (hh : h < 8) (hp : p < 8) (hq : q < 8) (e : ds h p = ds h q) : p = q := by unfold ds at e; omega
theorem row_ds (k : Int) (p : Nat) (hp : p < 8) : rowAt k (ds (home k) p) = p := by
  have := home_lt k
  unfold ds rowAt; omega

/-- Slot p has the key, or is free. -/
abbrev Hit (t : Tb) (k : Int) (p : Nat) : Prop := t.k p = k ∨ t.k p = 0

def plF (t : Tb) (k : Int) : Nat → Nat → Nat
  | 0, i => rowAt k i
  | n + 1, i => if Hit t k (rowAt k i) then rowAt k i else plF t k n (i + 1)
/-- 9.2's PLACE; the last slot of the row if there is none. -/
def place (t : Tb) (k : Int) : Nat := plF t k 7 0

theorem plF_lt (t : Tb) (k : Int) : ∀ n i, plF t k n i < 8
  | 0, i => rowAt_lt k i
  | n + 1, i => by
    unfold plF; split
    · exact rowAt_lt k i
    · exact plF_lt t k n (i + 1)
theorem place_lt (t : Tb) (k : Int) : place t k < 8 := plF_lt t k 7 0

theorem plF_spec (t : Tb) (k : Int) : ∀ n i, n + i = 7 → (∀ q, q < 8 → ds (home k) q < i → ¬ Hit t k q) →
    (∀ q, q < 8 → ds (home k) q < ds (home k) (plF t k n i) → ¬ Hit t k q) ∧ (Hit t k (plF t k n i) ∨ ∀ q, q < 8 → ¬ Hit t k q)
  | 0, i, h, hb => by
    obtain rfl : i = 7 := by omega
    rw [plF, ds_row k 7 (by decide)]
    refine ⟨hb, ?_⟩
    by_cases hh : Hit t k (rowAt k 7)
    · exact Or.inl hh
    · refine Or.inr fun q hq => ?_
      by_cases h7 : ds (home k) q < 7
      · exact hb q hq h7
      · have e : ds (home k) q = 7 := by have := ds_lt (home k) q; omega
        rw [← row_ds k q hq, e]; exact hh
  | n + 1, i, h, hb => by
    rw [plF]
    split
    · rename_i hh
      rw [ds_row k i (by omega)]
      exact ⟨hb, Or.inl hh⟩
    · rename_i hh
      refine plF_spec t k n (i + 1) (by omega) fun q hq hd => ?_
      by_cases hi : ds (home k) q < i
      · exact hb q hq hi
      · have e : ds (home k) q = i := by omega
        rw [← row_ds k q hq, e]; exact hh

theorem place_ahead (t : Tb) (k : Int) {q : Nat} (hq : q < 8) (h : ds (home k) q < ds (home k) (place t k)) : ¬ Hit t k q :=
  (plF_spec t k 7 0 rfl (fun _ _ h => absurd h (Nat.not_lt_zero _))).1 q hq h
theorem place_hit (t : Tb) (k : Int) {q : Nat} (hq : q < 8) (h : Hit t k q) : Hit t k (place t k) := by
  rcases (plF_spec t k 7 0 rfl (fun _ _ h => absurd h (Nat.not_lt_zero _))).2 with h1 | h1
  · exact h1
  · exact absurd h (h1 q hq)
theorem place_is (t : Tb) (k : Int) {p : Nat} (hp : p < 8) (hh : Hit t k p) (ha : ∀ q, q < 8 → ds (home k) q < ds (home k) p → ¬ Hit t k q) : place t k = p := by
  have h1 := place_hit t k hp hh
  have h2 := place_lt t k
  refine ds_inj (home_lt k) h2 hp ?_
  rcases Nat.lt_trichotomy (ds (home k) (place t k)) (ds (home k) p) with h | h | h
  · exact absurd h1 (ha _ h2 h)
  · exact h
  · exact absurd hh (place_ahead t k hp h)

/-- One, if slot p isn't free. -/
def ind (t : Tb) (p : Nat) : Nat := if t.k p = 0 then 0 else 1
def len (t : Tb) : Nat := ind t 0 + ind t 1 + ind t 2 + ind t 3 + ind t 4 + ind t 5 + ind t 6 + ind t 7
theorem ind_le (t : Tb) (p : Nat) : ind t p ≤ 1 := by unfold ind; split <;> omega
theorem len_le (t : Tb) : len t ≤ 8 := by
  have := ind_le t 0; have := ind_le t 1; have := ind_le t 2; have := ind_le t 3
  have := ind_le t 4; have := ind_le t 5; have := ind_le t 6; have := ind_le t 7
  unfold len; omega
theorem eight {P : Nat → Prop} (h0 : P 0) (h1 : P 1) (h2 : P 2) (h3 : P 3) (h4 : P 4) (h5 : P 5) (h6 : P 6) (h7 : P 7) {p : Nat} (hp : p < 8) : P p := by
  have : p = 0 ∨ p = 1 ∨ p = 2 ∨ p = 3 ∨ p = 4 ∨ p = 5 ∨ p = 6 ∨ p = 7 := by omega
  rcases this with rfl | rfl | rfl | rfl | rfl | rfl | rfl | rfl <;> assumption
theorem ind_set (t : Tb) (p q : Nat) (x y : Int) : ind (t.set p x y) q = if q = p then (if x = 0 then 0 else 1) else ind t q := by
  unfold ind; rw [Tb.set_k]; split <;> rfl
theorem len_set (t : Tb) {p : Nat} (hp : p < 8) (x y : Int) : len (t.set p x y) + ind t p = len t + (if x = 0 then 0 else 1) := by
  have e : p = 0 ∨ p = 1 ∨ p = 2 ∨ p = 3 ∨ p = 4 ∨ p = 5 ∨ p = 6 ∨ p = 7 := by omega
  unfold len
  simp only [ind_set]
  rcases e with rfl | rfl | rfl | rfl | rfl | rfl | rfl | rfl <;> simp <;> omega
theorem free_of_len (t : Tb) (h : len t ≤ 7) : ∃ p, p < 8 ∧ t.k p = 0 := by
  refine Classical.byContradiction fun hn => ?_
  have a : ∀ p, p < 8 → ind t p = 1 := fun p hp => by
    unfold ind; split
    · rename_i e; exact absurd ⟨p, hp, e⟩ hn
    · rfl
  have := a 0 (by decide); have := a 1 (by decide); have := a 2 (by decide); have := a 3 (by decide)
  have := a 4 (by decide); have := a 5 (by decide); have := a 6 (by decide); have := a 7 (by decide)
  unfold len at h; omega

/-- 9.1's Right. -/
structure RT (t : Tb) : Prop where
  keys : ∀ p, p < 8 → 0 ≤ t.k p ∧ t.k p ≤ 1000
  vals : ∀ p, p < 8 → 0 ≤ t.v p ∧ t.v p ≤ 4294967295
  none : ∀ p, p < 8 → t.k p = 0 → t.v p = 0
  row : ∀ p, p < 8 → t.k p ≠ 0 → ∀ q, q < 8 → ds (home (t.k p)) q < ds (home (t.k p)) p → ¬ Hit t (t.k p) q
  room : len t ≤ 6

theorem RT.free {t : Tb} (h : RT t) : ∃ p, p < 8 ∧ t.k p = 0 := free_of_len t (by have := h.room; omega)
theorem RT.hit {t : Tb} (h : RT t) (k : Int) : Hit t k (place t k) := by
  obtain ⟨p, hp, e⟩ := h.free
  exact place_hit t k hp (Or.inr e)
/-- Each key is found where it stands. -/
theorem RT.found {t : Tb} (h : RT t) {p : Nat} (hp : p < 8) (hk : t.k p ≠ 0) : place t (t.k p) = p :=
  place_is t _ hp (Or.inl rfl) (h.row p hp hk)
theorem RT.once {t : Tb} (h : RT t) {p q : Nat} (hp : p < 8) (hq : q < 8) (hk : t.k p ≠ 0) (e : t.k p = t.k q) : p = q := by
  have a := h.found hp hk
  have b := h.found hq (e ▸ hk)
  rw [← e] at b
  exact a.symm.trans b

/-- The program's own test: a slot that isn't free is the place of its key. -/
theorem RT.of_found {t : Tb} (hk : ∀ p, p < 8 → 0 ≤ t.k p ∧ t.k p ≤ 1000) (hv : ∀ p, p < 8 → 0 ≤ t.v p ∧ t.v p ≤ 4294967295) (hn : ∀ p, p < 8 → t.k p = 0 → t.v p = 0)
    (hf : ∀ p, p < 8 → t.k p ≠ 0 → place t (t.k p) = p) (hl : len t ≤ 6) : RT t where
  keys := hk
  vals := hv
  none := hn
  row p hp h0 q hq hd := by
    rw [← hf p hp h0] at hd
    refine place_ahead t (t.k p) hq ?_
    rwa [hf p hp h0] at hd ⊢
  room := hl

/-- Key and value stand somewhere. -/
def In (t : Tb) (k x : Int) : Prop := ∃ p, p < 8 ∧ t.k p = k ∧ t.v p = x

/-- What Peek tells. -/
def look (t : Tb) (k : Int) : Int × Int := if t.k (place t k) = k then (1, t.v (place t k)) else (4, 0)

theorem look_in {t : Tb} (h : RT t) {k x : Int} (hk : k ≠ 0) (hi : In t k x) : look t k = (1, x) := by
  obtain ⟨p, hp, rfl, rfl⟩ := hi
  rw [look, h.found hp hk, if_pos rfl]
theorem look_out {t : Tb} {k : Int} (hi : ∀ x, ¬ In t k x) : look t k = (4, 0) := by
  rw [look, if_neg fun e => hi _ ⟨_, place_lt t k, e, rfl⟩]
theorem in_of_place {t : Tb} {k : Int} (e : t.k (place t k) = k) : In t k (t.v (place t k)) := ⟨_, place_lt t k, e, rfl⟩
theorem out_of_place {t : Tb} (h : RT t) {k : Int} (hk : k ≠ 0) (e : t.k (place t k) ≠ k) (x : Int) : ¬ In t k x := by
  rintro ⟨p, hp, rfl, rfl⟩
  rw [h.found hp hk] at e
  exact e rfl
theorem free_of_place {t : Tb} (h : RT t) {k : Int} (e : t.k (place t k) ≠ k) : t.k (place t k) = 0 := (h.hit k).resolve_left e
theorem look_congr {t u : Tb} (h : RT t) (g : RT u) {k : Int} (hk : k ≠ 0) (hi : ∀ x, In t k x ↔ In u k x) : look t k = look u k := by
  by_cases e : t.k (place t k) = k
  · have a := in_of_place e
    rw [look_in h hk a, look_in g hk ((hi _).1 a)]
  · have o := out_of_place h hk e
    rw [look_out o, look_out fun x hx => o x ((hi x).2 hx)]

/-! Put. -/
theorem put_has {t : Tb} (h : RT t) {p : Nat} (hp : p < 8) (hk : t.k p ≠ 0) {x : Int} (h0 : 0 ≤ x) (h1 : x ≤ 4294967295) : RT (t.set p (t.k p) x) := by
  have ek : (t.set p (t.k p) x).k = t.k := by funext i; rw [Tb.set_k]; split <;> simp_all
  have hh : ∀ k q, Hit (t.set p (t.k p) x) k q ↔ Hit t k q := fun k q => by unfold Hit; rw [ek]
  refine ⟨fun q hq => by rw [ek]; exact h.keys q hq, fun q hq => ?_, fun q hq e => ?_, fun q hq e r hr hd => ?_, ?_⟩
  · rw [Tb.set_v]; split
    · exact ⟨h0, h1⟩
    · exact h.vals q hq
  · rw [ek] at e
    rw [Tb.set_v]; split
    · rename_i e2; subst e2; exact absurd e hk
    · exact h.none q hq e
  · rw [ek] at e hd ⊢
    rw [hh]; exact h.row q hq e r hr hd
  · have := len_set t hp (t.k p) x
    rw [if_neg hk] at this
    have := h.room
    have : ind t p = 1 := by unfold ind; rw [if_neg hk]
    omega

theorem put_new {t : Tb} (h : RT t) {k x : Int} (hk1 : 1 ≤ k) (hk2 : k ≤ 1000) (h0 : 0 ≤ x) (h1 : x ≤ 4294967295) (hn : t.k (place t k) ≠ k) (hl : len t < 6) : RT (t.set (place t k) k x) := by
  have hf := free_of_place h hn
  have hp := place_lt t k
  have ha := fun q hq => place_ahead t k (q := q) hq
  have ho := out_of_place h (by omega : k ≠ 0) hn
  generalize place t k = p at *
  refine ⟨fun q hq => ?_, fun q hq => ?_, fun q hq e => ?_, fun q hq e r hr hd => ?_, ?_⟩
  · rw [Tb.set_k]; split
    · omega
    · exact h.keys q hq
  · rw [Tb.set_v]; split
    · exact ⟨h0, h1⟩
    · exact h.vals q hq
  · rw [Tb.set_k] at e
    rw [Tb.set_v]; split
    · rename_i e2; rw [if_pos e2] at e; omega
    · rename_i e2; rw [if_neg e2] at e; exact h.none q hq e
  · by_cases eq : q = p
    · subst eq
      have ek : (t.set q k x).k q = k := by rw [Tb.set_k, if_pos rfl]
      rw [ek] at hd ⊢
      have hr2 : r ≠ q := fun e => by subst e; omega
      unfold Hit; rw [Tb.set_k, if_neg hr2]
      exact ha r hr hd
    · have ek : (t.set p k x).k q = t.k q := by rw [Tb.set_k, if_neg eq]
      rw [ek] at e hd ⊢
      have := h.row q hq e r hr hd
      by_cases er : r = p
      · subst er; exact absurd (Or.inr hf) this
      · unfold Hit; rw [Tb.set_k, if_neg er]; exact this
  · have := len_set t hp k x
    rw [if_neg (by omega : k ≠ 0)] at this
    omega

theorem in_put_has {t : Tb} {p : Nat} (x : Int) {j y : Int} (hj : j ≠ t.k p) : In (t.set p (t.k p) x) j y ↔ In t j y := by
  constructor
  · rintro ⟨q, hq, e1, e2⟩
    rw [Tb.set_k] at e1; rw [Tb.set_v] at e2
    by_cases e : q = p
    · rw [if_pos e] at e1; exact absurd e1.symm hj
    · rw [if_neg e] at e1 e2; exact ⟨q, hq, e1, e2⟩
  · rintro ⟨q, hq, e1, e2⟩
    have e : q ≠ p := fun e => hj (by rw [← e1, e])
    exact ⟨q, hq, by rw [Tb.set_k, if_neg e, e1], by rw [Tb.set_v, if_neg e, e2]⟩
theorem in_put_new {t : Tb} {p : Nat} (hf : t.k p = 0) (k x : Int) {j y : Int} (hj : j ≠ k) (hj0 : j ≠ 0) : In (t.set p k x) j y ↔ In t j y := by
  constructor
  · rintro ⟨q, hq, e1, e2⟩
    rw [Tb.set_k] at e1; rw [Tb.set_v] at e2
    by_cases e : q = p
    · rw [if_pos e] at e1; exact absurd e1.symm hj
    · rw [if_neg e] at e1 e2; exact ⟨q, hq, e1, e2⟩
  · rintro ⟨q, hq, e1, e2⟩
    have e : q ≠ p := fun e => hj0 (by rw [← e1, e, hf])
    exact ⟨q, hq, by rw [Tb.set_k, if_neg e, e1], by rw [Tb.set_v, if_neg e, e2]⟩
theorem in_put {t : Tb} {p : Nat} (hp : p < 8) (k x : Int) : In (t.set p k x) k x := ⟨p, hp, by rw [Tb.set_k, if_pos rfl], by rw [Tb.set_v, if_pos rfl]⟩

/-! Take. -/
/-- A slot is made free, and what stood in it stands in its key's place. -/
def anew (t : Tb) (q : Nat) : Tb := (t.set q 0 0).set (place (t.set q 0 0) (t.k q)) (t.k q) (t.v q)
def woF : Nat → Tb → Nat → Tb
  | 0, t, _ => t
  | n + 1, t, p => if t.k ((p + 1) % 8) = 0 then t else woF n (anew t ((p + 1) % 8)) ((p + 1) % 8)
def without (t : Tb) (p : Nat) : Tb := woF 7 (t.set p 0 0) p

/-- Between: behind slot p0's m-th, ahead of slot F. -/
def Bt (p0 F m y : Nat) : Prop := m < ds p0 y ∧ ds p0 y < ds p0 F

/-- From p0 on m slots have been put anew; F is the free one where it ends. -/
structure J (t : Tb) (p0 F m : Nat) : Prop where
  keys : ∀ p, p < 8 → 0 ≤ t.k p ∧ t.k p ≤ 1000
  vals : ∀ p, p < 8 → 0 ≤ t.v p ∧ t.v p ≤ 4294967295
  none : ∀ p, p < 8 → t.k p = 0 → t.v p = 0
  room : len t ≤ 6
  p8 : p0 < 8
  F8 : F < 8
  free : t.k F = 0
  mF : m < ds p0 F
  once : ∀ p q, p < 8 → q < 8 → t.k p ≠ 0 → t.k p = t.k q → p = q
  taken : ∀ y, y < 8 → Bt p0 F m y → t.k y ≠ 0
  done : ∀ y, y < 8 → t.k y ≠ 0 → ¬ Bt p0 F m y → ∀ q, q < 8 → ds (home (t.k y)) q < ds (home (t.k y)) y → t.k q ≠ 0
  todo : ∀ y, y < 8 → Bt p0 F m y → ∀ q, q < 8 → ds (home (t.k y)) q < ds (home (t.k y)) y → t.k q = 0 → ds p0 q ≤ m

theorem J.end {t : Tb} {p0 F m : Nat} (h : J t p0 F m) (he : m + 1 = ds p0 F) : RT t where
  keys := h.keys
  vals := h.vals
  none := h.none
  room := h.room
  row p hp hk q hq hd := by
    have hd' := h.done p hp hk (fun hb => by have := hb.1; have := hb.2; omega) q hq hd
    rintro (e | e)
    · have := h.once p q hp hq hk e.symm
      subst this; omega
    · exact hd' e

/-- Who stands behind slot q, but not between it and F, stands behind F. -/
theorem round_F {p0 F m q y hh : Nat} (h0 : p0 < 8) (hF : F < 8) (hq : q < 8) (hy : y < 8) (hh8 : hh < 8) (hm : ds p0 q = m) (hmF : m < ds p0 F)
    (hn : ¬ Bt p0 F m y) (hyq : y ≠ q) (hyF : y ≠ F) (hd : ds hh q < ds hh y) : ds hh F < ds hh y := by
  unfold Bt ds at *
  omega

theorem J.start {t : Tb} (h : RT t) {p0 : Nat} (hp : p0 < 8) (hk : t.k p0 ≠ 0) : ∃ F, J (t.set p0 0 0) p0 F 0 ∧ ∀ q, q < 8 → ds p0 q < ds p0 F → t.k q ≠ 0 := by
  -- the first free slot behind p0
  have ex : ∃ d, d < 8 ∧ t.k ((p0 + d) % 8) = 0 := by
    obtain ⟨f, hf, e⟩ := h.free
    refine ⟨ds p0 f, ds_lt _ _, ?_⟩
    have : (p0 + ds p0 f) % 8 = f := by unfold ds; omega
    rw [this]; exact e
  obtain ⟨d, hd8, hd0, hmin⟩ : ∃ d, d < 8 ∧ t.k ((p0 + d) % 8) = 0 ∧ ∀ e, e < d → t.k ((p0 + e) % 8) ≠ 0 := by
    obtain ⟨d, hd⟩ := ex
    induction d using Nat.strongRecOn with
    | ind d ih =>
      by_cases hm : ∃ e, e < d ∧ t.k ((p0 + e) % 8) = 0
      · obtain ⟨e, he, h0⟩ := hm
        exact ih e he ⟨by omega, h0⟩
      · exact ⟨d, hd.1, hd.2, fun e he h0 => hm ⟨e, he, h0⟩⟩
  obtain ⟨F, hFe⟩ : ∃ F, F = (p0 + d) % 8 := ⟨_, rfl⟩
  have hF : F < 8 := by omega
  have hdF : ds p0 F = d := by unfold ds; omega
  rw [← hFe] at hd0
  have hlow : ∀ q, q < 8 → ds p0 q < ds p0 F → t.k q ≠ 0 := fun q hq hd => by
    have := hmin (ds p0 q) (by omega)
    have e : (p0 + ds p0 q) % 8 = q := by unfold ds; omega
    rwa [e] at this
  have hFp : F ≠ p0 := fun e => by rw [e] at hd0; exact hk hd0
  have hd1 : 0 < ds p0 F := by unfold ds; omega
  refine ⟨F, ⟨fun q hq => ?_, fun q hq => ?_, fun q hq e => ?_, ?_, hp, hF, ?_, hd1, fun a b ha hb hka e => ?_, fun y hy hb => ?_, fun y hy hky hb q hq hd => ?_, fun y hy hb q hq hd e => ?_⟩, hlow⟩
  · rw [Tb.set_k]; split
    · omega
    · exact h.keys q hq
  · rw [Tb.set_v]; split
    · omega
    · exact h.vals q hq
  · rw [Tb.set_k] at e; rw [Tb.set_v]
    split
    · rfl
    · rename_i e2; rw [if_neg e2] at e; exact h.none q hq e
  · have := len_set t hp 0 0
    have := h.room
    simp at *; omega
  · rw [Tb.set_k, if_neg hFp]; exact hd0
  · rw [Tb.set_k] at hka e
    by_cases ea : a = p0
    · rw [if_pos ea] at hka; exact absurd rfl hka
    · rw [if_neg ea] at hka e
      rw [Tb.set_k] at e
      by_cases eb : b = p0
      · rw [if_pos eb] at e; exact absurd e hka
      · rw [if_neg eb] at e; exact h.once ha hb hka e
  · have : y ≠ p0 := fun e => by subst e; have := hb.1; unfold ds at this; omega
    rw [Tb.set_k, if_neg this]
    exact hlow y hy hb.2
  · rw [Tb.set_k] at hky hd
    by_cases ey : y = p0
    · rw [if_pos ey] at hky; exact absurd rfl hky
    · rw [if_neg ey] at hky hd
      have hr := h.row y hy hky q hq hd
      have hq0 : t.k q ≠ 0 := fun e => hr (Or.inr e)
      rw [Tb.set_k]
      by_cases eq : q = p0
      · subst eq
        have hyF : y ≠ F := fun e => by rw [e] at hky; exact hky hd0
        have hm0 : ds q q = 0 := by unfold ds; omega
        have := round_F hp hF hp hy (home_lt (t.k y)) hm0 hd1 hb ey hyF hd
        exact absurd (Or.inr hd0) (h.row y hy hky F hF this)
      · rw [if_neg eq]; exact hq0
  · have ey : y ≠ p0 := fun e => by subst e; have := hb.1; unfold ds at this; omega
    rw [Tb.set_k, if_neg ey] at hd
    have hky := hlow y hy hb.2
    have hr := h.row y hy hky q hq hd
    rw [Tb.set_k] at e
    by_cases eq : q = p0
    · subst eq; unfold ds; omega
    · rw [if_neg eq] at e; exact absurd (Or.inr e) hr

theorem J.q_bt {t : Tb} {p0 F m : Nat} (h : J t p0 F m) (hm : m + 1 < ds p0 F) : ds p0 ((p0 + (m + 1)) % 8) = m + 1 ∧ Bt p0 F m ((p0 + (m + 1)) % 8) := by
  have := h.p8; have := h.F8
  have e : ds p0 ((p0 + (m + 1)) % 8) = m + 1 := by have := ds_lt p0 F; unfold ds; omega
  exact ⟨e, by unfold Bt; omega⟩

theorem anew_k (t : Tb) (q r : Nat) (i : Nat) : ((t.set q 0 0).set r (t.k q) (t.v q)).k i = if i = r then t.k q else if i = q then 0 else t.k i := rfl
theorem anew_v (t : Tb) (q r : Nat) (i : Nat) : ((t.set q 0 0).set r (t.k q) (t.v q)).v i = if i = r then t.v q else if i = q then 0 else t.v i := rfl

/-- Where what is put anew comes to stand: in a free slot, none free ahead of it. -/
theorem J.anew_at {t : Tb} {p0 F m q : Nat} (h : J t p0 F m) (hq : q < 8) (hk : t.k q ≠ 0) : ∃ r, place (t.set q 0 0) (t.k q) = r ∧ r < 8 ∧ (t.k r = 0 ∨ r = q) ∧ ds (home (t.k q)) r ≤ ds (home (t.k q)) q ∧
    ∀ a, a < 8 → ds (home (t.k q)) a < ds (home (t.k q)) r → t.k a ≠ 0 := by
  refine ⟨_, rfl, place_lt _ _, ?_, ?_, fun a ha hd => ?_⟩
  · have hh := place_hit (t.set q 0 0) (t.k q) hq (Or.inr (by rw [Tb.set_k, if_pos rfl]))
    have hl := place_lt (t.set q 0 0) (t.k q)
    generalize place (t.set q 0 0) (t.k q) = r at hh hl
    unfold Hit at hh; rw [Tb.set_k] at hh
    by_cases e : r = q
    · exact Or.inr e
    · rw [if_neg e] at hh
      rcases hh with hh | hh
      · exact absurd (h.once q r hq hl hk hh.symm).symm e
      · exact Or.inl hh
  · refine Nat.le_of_not_lt fun hlt => ?_
    exact place_ahead (t.set q 0 0) (t.k q) hq hlt (Or.inr (by rw [Tb.set_k, if_pos rfl]))
  · have := place_ahead (t.set q 0 0) (t.k q) ha hd
    unfold Hit at this; rw [Tb.set_k] at this
    by_cases e : a = q
    · rw [if_pos e] at this; exact absurd (Or.inr rfl) this
    · rw [if_neg e] at this; exact fun e => this (Or.inr e)

theorem J.in {t : Tb} {p0 F m q : Nat} (h : J t p0 F m) (hq : q < 8) (hk : t.k q ≠ 0) {j x : Int} (hj : j ≠ 0) : In (anew t q) j x ↔ In t j x := by
  obtain ⟨r, hr, hr8, hrf, -, -⟩ := h.anew_at hq hk
  unfold anew; rw [hr]
  constructor
  · rintro ⟨i, hi, e1, e2⟩
    rw [anew_k] at e1; rw [anew_v] at e2
    by_cases e : i = r
    · rw [if_pos e] at e1 e2; exact ⟨q, hq, e1, e2⟩
    · rw [if_neg e] at e1 e2
      by_cases e3 : i = q
      · rw [if_pos e3] at e1; exact absurd e1.symm hj
      · rw [if_neg e3] at e1 e2; exact ⟨i, hi, e1, e2⟩
  · rintro ⟨i, hi, e1, e2⟩
    by_cases e : i = q
    · subst e
      exact ⟨r, hr8, by rw [anew_k, if_pos rfl, e1], by rw [anew_v, if_pos rfl, e2]⟩
    · have e3 : i ≠ r := fun e3 => by
        rcases hrf with hf | hf
        · rw [e3, hf] at e1; exact hj e1.symm
        · exact e (e3.trans hf)
      exact ⟨i, hi, by rw [anew_k, if_neg e3, if_neg e, e1], by rw [anew_v, if_neg e3, if_neg e, e2]⟩

theorem J.lenIs {t : Tb} {p0 F m q : Nat} (h : J t p0 F m) (hq : q < 8) (hk : t.k q ≠ 0) : len (anew t q) = len t := by
  obtain ⟨r, hr, hr8, hrf, -, -⟩ := h.anew_at hq hk
  unfold anew; rw [hr]
  have a := len_set t hq 0 0
  have b := len_set (t.set q 0 0) hr8 (t.k q) (t.v q)
  have c : ind (t.set q 0 0) r = 0 := by
    rw [ind_set]
    by_cases e : r = q
    · rw [if_pos e]; rfl
    · rw [if_neg e]; unfold ind; rw [if_pos (hrf.resolve_right e)]
  have d : ind t q = 1 := by unfold ind; rw [if_neg hk]
  rw [if_neg hk] at b
  simp at a
  omega

theorem J.step {t : Tb} {p0 F m : Nat} (h : J t p0 F m) (hm : m + 1 < ds p0 F) : J (anew t ((p0 + (m + 1)) % 8)) p0 F (m + 1) := by
  obtain ⟨hdq, hbq⟩ := h.q_bt hm
  have hq : (p0 + (m + 1)) % 8 < 8 := Nat.mod_lt _ (by decide)
  generalize (p0 + (m + 1)) % 8 = q at *
  have hk := h.taken q hq hbq
  have hlen := h.lenIs hq hk
  obtain ⟨r, hr, hr8, hrf, hrd, hra⟩ := h.anew_at hq hk
  have hrF : r ≠ F := fun e => by
    subst e
    have hne : r ≠ q := fun e => by subst e; omega
    have : ds (home (t.k q)) r ≠ ds (home (t.k q)) q := fun e => hne (ds_inj (home_lt _) hr8 hq e)
    have := h.todo q hq hbq r hr8 (by omega) h.free
    have := h.mF
    omega
  have hqF : q ≠ F := fun e => by subst e; omega
  have hone : ∀ y, y < 8 → Bt p0 F m y → y ≠ q → Bt p0 F (m + 1) y := fun y hy hb hne => by
    have : ds p0 y ≠ m + 1 := fun e => hne (ds_inj h.p8 hy hq (e.trans hdq.symm))
    exact ⟨by have := hb.1; omega, hb.2⟩
  have hback : ∀ y, Bt p0 F (m + 1) y → Bt p0 F m y ∧ y ≠ q := fun y hb => ⟨⟨by have := hb.1; omega, hb.2⟩, fun e => by subst e; have := hb.1; omega⟩
  unfold anew at hlen ⊢
  rw [hr] at hlen ⊢
  refine ⟨fun i hi => ?_, fun i hi => ?_, fun i hi e => ?_, by rw [hlen]; exact h.room, h.p8, h.F8, ?_, hm, fun a b ha hb hka e => ?_, fun y hy hb => ?_, fun y hy hky hb a ha hd => ?_, fun y hy hb a ha hd e => ?_⟩
  · rw [anew_k]; split
    · exact h.keys q hq
    · split
      · omega
      · exact h.keys i hi
  · rw [anew_v]; split
    · exact h.vals q hq
    · split
      · omega
      · exact h.vals i hi
  · rw [anew_k] at e; rw [anew_v]
    by_cases e1 : i = r
    · rw [if_pos e1] at e; exact absurd e hk
    · rw [if_neg e1] at e ⊢
      by_cases e2 : i = q
      · rw [if_pos e2]
      · rw [if_neg e2] at e ⊢; exact h.none i hi e
  · rw [anew_k, if_neg hrF.symm, if_neg hqF.symm]; exact h.free
  · rw [anew_k] at hka e
    rw [anew_k] at e
    by_cases ea : a = r
    · by_cases eb : b = r
      · exact ea.trans eb.symm
      · rw [if_pos ea, if_neg eb] at e
        by_cases eb2 : b = q
        · rw [if_pos eb2] at e; exact absurd e hk
        · rw [if_neg eb2] at e; exact absurd (h.once q b hq hb hk e).symm eb2
    · rw [if_neg ea] at hka e
      by_cases ea2 : a = q
      · rw [if_pos ea2] at hka; exact absurd rfl hka
      · rw [if_neg ea2] at hka e
        by_cases eb : b = r
        · rw [if_pos eb] at e; exact absurd (h.once a q ha hq hka e) ea2
        · rw [if_neg eb] at e
          by_cases eb2 : b = q
          · rw [if_pos eb2] at e; exact absurd e hka
          · rw [if_neg eb2] at e; exact h.once a b ha hb hka e
  · obtain ⟨hb1, hne⟩ := hback y hb
    rw [anew_k]; split
    · exact hk
    · exact h.taken y hy hb1
  · rw [anew_k] at hky hd
    by_cases ey : y = r
    · subst ey
      rw [if_pos rfl] at hd
      have h1 := hra a ha hd
      have h2 : a ≠ y := fun e => by subst e; omega
      have h3 : a ≠ q := fun e => by subst e; omega
      rw [anew_k, if_neg h2, if_neg h3]; exact h1
    · rw [if_neg ey] at hky hd
      by_cases ey2 : y = q
      · rw [if_pos ey2] at hky; exact absurd rfl hky
      · rw [if_neg ey2] at hky hd
        have hnb : ¬ Bt p0 F m y := fun hb' => hb (hone y hy hb' ey2)
        have h1 := h.done y hy hky hnb a ha hd
        rw [anew_k]; split
        · exact hk
        · by_cases ea : a = q
          · subst ea
            have hyF : y ≠ F := fun e => by rw [e] at hky; exact hky h.free
            have := round_F h.p8 h.F8 hq hy (home_lt (t.k y)) hdq hm hb ey2 hyF hd
            exact absurd h.free (h.done y hy hky hnb F h.F8 this)
          · rw [if_neg ea]; exact h1
  · obtain ⟨hb1, hne⟩ := hback y hb
    have hky := h.taken y hy hb1
    have hyr : y ≠ r := fun e => by
      subst e
      rcases hrf with hf | hf
      · exact hky hf
      · exact hne hf
    rw [anew_k, if_neg hyr, if_neg hne] at hd
    rw [anew_k] at e
    by_cases ea : a = r
    · rw [if_pos ea] at e; exact absurd e hk
    · rw [if_neg ea] at e
      by_cases ea2 : a = q
      · rw [ea2]; omega
      · rw [if_neg ea2] at e
        have := h.todo y hy hb1 a ha hd e
        omega

/-- The next slot: the free one, where it ends, or one that is put anew. -/
theorem J.next {t : Tb} {p0 F m : Nat} (h : J t p0 F m) : (m + 1 = ds p0 F ∧ (p0 + (m + 1)) % 8 = F) ∨ (m + 1 < ds p0 F ∧ t.k ((p0 + (m + 1)) % 8) ≠ 0) := by
  by_cases e : m + 1 = ds p0 F
  · refine Or.inl ⟨e, ?_⟩
    have := h.p8; have := h.F8
    unfold ds at e; omega
  · have hm : m + 1 < ds p0 F := by have := h.mF; omega
    exact Or.inr ⟨hm, h.taken _ (Nat.mod_lt _ (by decide)) (h.q_bt hm).2⟩

theorem J.all : ∀ (n : Nat) {t : Tb} {p0 F m : Nat}, J t p0 F m → n + m = 7 →
    RT (woF n t ((p0 + m) % 8)) ∧ (∀ j x, j ≠ 0 → (In (woF n t ((p0 + m) % 8)) j x ↔ In t j x)) ∧ len (woF n t ((p0 + m) % 8)) = len t
  | 0, t, p0, F, m, h, hm => by have := h.mF; have := ds_lt p0 F; omega
  | n + 1, t, p0, F, m, h, hm => by
    have e : ((p0 + m) % 8 + 1) % 8 = (p0 + (m + 1)) % 8 := by omega
    rw [woF, e]
    rcases h.next with ⟨h1, h2⟩ | ⟨h1, h2⟩
    · rw [h2, if_pos h.free]
      exact ⟨h.end h1, fun _ _ _ => Iff.rfl, rfl⟩
    · rw [if_neg h2]
      have hq : (p0 + (m + 1)) % 8 < 8 := Nat.mod_lt _ (by decide)
      obtain ⟨r1, r2, r3⟩ := J.all n (h.step h1) (by omega)
      exact ⟨r1, fun j x hj => (r2 j x hj).trans (h.in hq h2 hj), r3.trans (h.lenIs hq h2)⟩

theorem in_free {t : Tb} (h : RT t) {p : Nat} (hp : p < 8) (hk : t.k p ≠ 0) {j x : Int} (hj : j ≠ 0) : In (t.set p 0 0) j x ↔ j ≠ t.k p ∧ In t j x := by
  constructor
  · rintro ⟨q, hq, e1, e2⟩
    rw [Tb.set_k] at e1; rw [Tb.set_v] at e2
    by_cases e : q = p
    · rw [if_pos e] at e1; exact absurd e1.symm hj
    · rw [if_neg e] at e1 e2
      refine ⟨fun ej => e ?_, q, hq, e1, e2⟩
      exact (h.once hp hq hk (by rw [e1, ej])).symm
  · rintro ⟨hne, q, hq, e1, e2⟩
    have e : q ≠ p := fun e => hne (by rw [← e1, e])
    exact ⟨q, hq, by rw [Tb.set_k, if_neg e, e1], by rw [Tb.set_v, if_neg e, e2]⟩

theorem without_all {t : Tb} (h : RT t) {p : Nat} (hp : p < 8) (hk : t.k p ≠ 0) :
    RT (without t p) ∧ (∀ j x, j ≠ 0 → (In (without t p) j x ↔ j ≠ t.k p ∧ In t j x)) ∧ len (without t p) + 1 = len t := by
  obtain ⟨F, hJ, -⟩ := J.start h hp hk
  have e : (p + 0) % 8 = p := by omega
  have := J.all 7 hJ rfl
  rw [e] at this
  obtain ⟨a, b, c⟩ := this
  refine ⟨a, fun j x hj => (b j x hj).trans (in_free h hp hk hj), ?_⟩
  have hl := len_set t hp 0 0
  have hi : ind t p = 1 := by unfold ind; rw [if_neg hk]
  show len (woF 7 (t.set p 0 0) p) + 1 = len t
  rw [c]
  simp at hl
  omega

/-! What an operation makes of a table, and its answer: 9.2. -/
abbrev byKey (o k : Int) : Prop := (o = 1 ∨ o = 2 ∨ o = 5) ∧ 1 ≤ k ∧ k ≤ 1000
def tdo (t : Tb) (o k x : Int) : Tb × Int × Int :=
  if o = 6 then (t, 1, (len t : Int))
  else if byKey o k then
    (if o = 1 then (if t.k (place t k) ≠ k ∧ 6 ≤ len t then (t, 3, 0) else (t.set (place t k) k x, 1, 0))
     else if t.k (place t k) ≠ k then (t, 4, 0)
     else if o = 2 then (without t (place t k), 1, t.v (place t k)) else (t, 1, t.v (place t k)))
  else (t, 5, 0)

theorem tdo_count (t : Tb) (k x : Int) : tdo t 6 k x = (t, 1, (len t : Int)) := rfl
theorem tdo_wrong (t : Tb) {o k : Int} (x : Int) (h6 : o ≠ 6) (h : ¬ byKey o k) : tdo t o k x = (t, 5, 0) := by rw [tdo, if_neg h6, if_neg h]
theorem tdo_full {t : Tb} {k : Int} (x : Int) (h1 : 1 ≤ k) (h2 : k ≤ 1000) (hn : t.k (place t k) ≠ k) (hl : 6 ≤ len t) : tdo t 1 k x = (t, 3, 0) := by
  rw [tdo, if_neg (by decide), if_pos ⟨Or.inl rfl, h1, h2⟩, if_pos rfl, if_pos ⟨hn, hl⟩]
theorem tdo_put {t : Tb} {k : Int} (x : Int) (h1 : 1 ≤ k) (h2 : k ≤ 1000) (h : t.k (place t k) = k ∨ len t < 6) : tdo t 1 k x = (t.set (place t k) k x, 1, 0) := by
  rw [tdo, if_neg (by decide), if_pos ⟨Or.inl rfl, h1, h2⟩, if_pos rfl, if_neg]
  rintro ⟨a, b⟩
  rcases h with h | h
  · exact a h
  · omega
theorem tdo_absent {t : Tb} {o k : Int} (x : Int) (ho : o = 2 ∨ o = 5) (h1 : 1 ≤ k) (h2 : k ≤ 1000) (hn : t.k (place t k) ≠ k) : tdo t o k x = (t, 4, 0) := by
  rw [tdo, if_neg (by omega), if_pos ⟨Or.inr ho, h1, h2⟩, if_neg (by omega), if_pos hn]
theorem tdo_take {t : Tb} {k : Int} (x : Int) (h1 : 1 ≤ k) (h2 : k ≤ 1000) (h : t.k (place t k) = k) : tdo t 2 k x = (without t (place t k), 1, t.v (place t k)) := by
  rw [tdo, if_neg (by decide), if_pos ⟨Or.inr (Or.inl rfl), h1, h2⟩, if_neg (by decide), if_neg (fun e => e h), if_pos rfl]
theorem tdo_peek {t : Tb} {k : Int} (x : Int) (h1 : 1 ≤ k) (h2 : k ≤ 1000) : tdo t 5 k x = (t, (look t k).1, (look t k).2) := by
  rw [tdo, if_neg (by decide), if_pos ⟨Or.inr (Or.inr rfl), h1, h2⟩, if_neg (by decide), look]
  by_cases h : t.k (place t k) = k
  · rw [if_neg (fun e => e h), if_neg (by decide), if_pos h]
  · rw [if_pos h, if_neg h]

/-- A table stays one. -/
theorem tdo_stays {t : Tb} (h : RT t) {o k x : Int} (h0 : 0 ≤ x) (h1 : x ≤ 4294967295) : RT (tdo t o k x).1 ∧ len (tdo t o k x).1 ≤ len t + 1 ∧ len t ≤ len (tdo t o k x).1 + 1 ∧ ((tdo t o k x).2.1 = 1 ∨ (tdo t o k x).1 = t) := by
  by_cases h6 : o = 6
  · subst h6; rw [tdo_count]; exact ⟨h, Nat.le_succ _, Nat.le_succ _, Or.inl rfl⟩
  by_cases hb : byKey o k
  · obtain ⟨ho, hk1, hk2⟩ := hb
    have hk0 : k ≠ 0 := by omega
    have hp := place_lt t k
    by_cases hh : t.k (place t k) = k
    · rcases ho with rfl | rfl | rfl
      · rw [tdo_put x hk1 hk2 (Or.inl hh)]
        have hn : t.k (place t k) ≠ 0 := by rw [hh]; exact hk0
        have a := put_has h hp hn h0 h1
        have l := len_set t hp k x
        have hi : ind t (place t k) = 1 := by unfold ind; rw [if_neg hn]
        rw [if_neg hk0] at l
        rw [hh] at a
        exact ⟨a, by show len (t.set _ k x) ≤ _; omega, by show _ ≤ len (t.set _ k x) + 1; omega, Or.inl rfl⟩
      · rw [tdo_take x hk1 hk2 hh]
        have hn : t.k (place t k) ≠ 0 := by rw [hh]; exact hk0
        obtain ⟨a, -, c⟩ := without_all h hp hn
        exact ⟨a, by show len (without _ _) ≤ _; omega, by show _ ≤ len (without _ _) + 1; omega, Or.inl rfl⟩
      · rw [tdo_peek x hk1 hk2]; exact ⟨h, Nat.le_succ _, Nat.le_succ _, Or.inr rfl⟩
    · rcases ho with rfl | rfl | rfl
      · by_cases hl : 6 ≤ len t
        · rw [tdo_full x hk1 hk2 hh hl]; exact ⟨h, Nat.le_succ _, Nat.le_succ _, Or.inr rfl⟩
        · rw [tdo_put x hk1 hk2 (Or.inr (by omega))]
          have a := put_new h hk1 hk2 h0 h1 hh (by omega)
          have l := len_set t hp k x
          have hi := ind_le t (place t k)
          rw [if_neg hk0] at l
          exact ⟨a, by show len (t.set _ k x) ≤ _; omega, by show _ ≤ len (t.set _ k x) + 1; omega, Or.inl rfl⟩
      · rw [tdo_absent x (Or.inl rfl) hk1 hk2 hh]; exact ⟨h, Nat.le_succ _, Nat.le_succ _, Or.inr rfl⟩
      · rw [tdo_absent x (Or.inr rfl) hk1 hk2 hh]; exact ⟨h, Nat.le_succ _, Nat.le_succ _, Or.inr rfl⟩
  · rw [tdo_wrong t x h6 hb]; exact ⟨h, Nat.le_succ _, Nat.le_succ _, Or.inr rfl⟩

theorem RT.zero : RT Tb.zero where
  keys _ _ := by show (0 : Int) ≤ 0 ∧ (0 : Int) ≤ 1000; omega
  vals _ _ := by show (0 : Int) ≤ 0 ∧ (0 : Int) ≤ 4294967295; omega
  none _ _ _ := rfl
  row _ _ h := absurd rfl h
  room := by decide
end Go.Proofs.YtbmgjpdfmgcigabDoor.Tab
