/- What objects do, as words: facts of no program. -/
import Derived.Test.YtbmgjpdfmgcigabDoorObG
import Derived.Test.YtbmgjpdfmgcigabDoorDq
import Derived.Test.YtbmgjpdfmgcigabDoorHo
import Derived.Test.YtbmgjpdfmgcigabDoorTa
namespace Go.Proofs.YtbmgjpdfmgcigabDoor.Tab
set_option maxRecDepth 20000
open Go.RowKit
set_option linter.unusedVariables false

/-- What every list does: facts of queues, stacks, deques and heaps alike. -/
structure LF (two : Bool) (xs : List Int) (o x : Int) (r : List Int × Int × Int) : Prop where
  len : r.1.length ≤ 6
  val : ∀ z ∈ r.1, 0 ≤ z ∧ z ≤ 4294967295
  code : 1 ≤ r.2.1 ∧ r.2.1 ≤ 5
  told : 0 ≤ r.2.2 ∧ r.2.2 ≤ 4294967295
  zero : r.2.1 ≠ 1 → r.2.2 = 0
  same : (r.2.1 ≠ 1 ∨ o = 5 ∨ o = 6) → r.1 = xs
  less : r.2.1 = 1 → (o = 2 ∨ o = 4) → r.1.length + 1 = xs.length
  more : r.2.1 = 1 → (o = 1 ∨ o = 3) → r.1.length = xs.length + 1
  count : o = 6 → r.2.1 = 1 ∧ r.2.2 = xs.length
  wrong : r.2.1 = 5 ↔ ((o = 3 ∨ o = 4) ∧ two = false)
  take : o = 2 → (r.2.1 = 2 ∧ xs.length = 0) ∨ (r.2.1 = 1 ∧ 0 < xs.length)
  put : o = 1 → (r.2.1 = 3 ∧ xs.length = 6) ∨ (r.2.1 = 1 ∧ xs.length < 6)

theorem qdo_facts {xs : List Int} {o k x : Int} (hl : xs.length ≤ 6) (hv : ∀ z ∈ xs, 0 ≤ z ∧ z ≤ 4294967295) (w1 : 1 ≤ o) (w6 : o ≤ 6) (v0 : 0 ≤ x) (v1 : x ≤ 4294967295) : LF false xs o x (qdo xs o x) := by
  have : o = 1 ∨ o = 2 ∨ o = 3 ∨ o = 4 ∨ o = 5 ∨ o = 6 := by omega
  rcases this with rfl | rfl | rfl | rfl | rfl | rfl
  · by_cases h6 : 6 ≤ xs.length
    · have e : qdo xs 1 x = (xs, 3, 0) := by simp [qdo, h6]
      rw [e]
      constructor <;> first | exact hv | (simp <;> omega)
    · have e : qdo xs 1 x = (xs ++ [x], 1, 0) := by simp [qdo, h6]
      rw [e]
      constructor <;> first | (intro z hz; simp at hz; rcases hz with hz | rfl; exact hv z hz; exact ⟨v0, v1⟩) | (simp <;> omega)
  · cases xs with
    | nil =>
      have e : qdo [] 2 x = ([], 2, 0) := by simp [qdo]
      rw [e]
      constructor <;> simp
    | cons z r =>
      have e : qdo (z :: r) 2 x = (r, 1, z) := by simp [qdo]
      have hz := hv z (by simp)
      simp at hl
      rw [e]
      constructor <;> first | (intro y hy; exact hv y (by simp [hy])) | (simp <;> omega)
  · have e : qdo xs 3 x = (xs, 5, 0) := by simp [qdo]
    rw [e]
    constructor <;> first | exact hv | (simp <;> omega)
  · have e : qdo xs 4 x = (xs, 5, 0) := by simp [qdo]
    rw [e]
    constructor <;> first | exact hv | (simp <;> omega)
  · cases xs with
    | nil =>
      have e : qdo [] 5 x = ([], 2, 0) := by simp [qdo]
      rw [e]
      constructor <;> simp
    | cons z r =>
      have e : qdo (z :: r) 5 x = (z :: r, 1, z) := by simp [qdo]
      have hz := hv z (by simp)
      rw [e]
      constructor <;> first | exact hv | exact hl | (simp <;> omega)
  · have e : qdo xs 6 x = (xs, 1, (xs.length : Int)) := by simp [qdo]
    rw [e]
    constructor <;> first | exact hv | (simp <;> omega)

theorem sdo_facts {xs : List Int} {o k x : Int} (hl : xs.length ≤ 6) (hv : ∀ z ∈ xs, 0 ≤ z ∧ z ≤ 4294967295) (w1 : 1 ≤ o) (w6 : o ≤ 6) (v0 : 0 ≤ x) (v1 : x ≤ 4294967295) : LF false xs o x (sdo xs o x) := by
  rcases List.eq_nil_or_concat xs with rfl | ⟨r, z, rfl⟩
  · rw [sdo_nil]; exact qdo_facts (k := k) hl hv w1 w6 v0 v1
  · rw [List.concat_eq_append] at *
    have hz := hv z (by simp)
    by_cases e2 : o = 2
    · subst e2
      rw [sdo_take]
      simp at hl
      constructor <;> first | (intro y hy; exact hv y (by simp [hy])) | (simp <;> omega)
    by_cases e5 : o = 5
    · subst e5
      rw [sdo_peek]
      constructor <;> first | exact hv | exact hl | (simp <;> omega)
    rw [sdo_other _ _ _ e2 e5]; exact qdo_facts (k := k) hl hv w1 w6 v0 v1

theorem ddo_facts {xs : List Int} {o k x : Int} (hl : xs.length ≤ 6) (hv : ∀ z ∈ xs, 0 ≤ z ∧ z ≤ 4294967295) (w1 : 1 ≤ o) (w6 : o ≤ 6) (v0 : 0 ≤ x) (v1 : x ≤ 4294967295) : LF true xs o x (ddo xs o x) := by
  by_cases e3 : o = 3
  · subst e3
    by_cases h6 : 6 ≤ xs.length
    · have e : ddo xs 3 x = (xs, 3, 0) := by simp [ddo, h6]
      rw [e]
      constructor <;> first | exact hv | (simp <;> omega)
    · have e : ddo xs 3 x = (x :: xs, 1, 0) := by simp [ddo, h6]
      rw [e]
      constructor <;> first | (intro z hz; simp at hz; rcases hz with rfl | hz; exact ⟨v0, v1⟩; exact hv z hz) | (simp <;> omega)
  by_cases e4 : o = 4
  · subst e4
    have e : ddo xs 4 x = sdo xs 2 0 := by simp [ddo]
    rw [e]
    rcases List.eq_nil_or_concat xs with rfl | ⟨r, z, rfl⟩
    · have e : sdo [] 2 0 = ([], 2, 0) := by simp [sdo, qdo]
      rw [e]
      constructor <;> simp
    · rw [List.concat_eq_append] at *
      have hz := hv z (by simp)
      rw [sdo_take]
      simp at hl
      constructor <;> first | (intro y hy; exact hv y (by simp [hy])) | (simp <;> omega)
  have e : ddo xs o x = qdo xs o x := by simp [ddo, e3, e4]
  rw [e]
  have := qdo_facts (k := k) hl hv w1 w6 v0 v1
  exact { this with wrong := by rw [this.wrong]; simp [e3, e4] }

theorem hdo_facts {xs : List Int} {o k x : Int} (hl : xs.length ≤ 6) (hv : ∀ z ∈ xs, 0 ≤ z ∧ z ≤ 4294967295) (hp : Hp xs) (w1 : 1 ≤ o) (w6 : o ≤ 6) (v0 : 0 ≤ x) (v1 : x ≤ 4294967295) : LF false xs o x (hdo xs o x) ∧ Hp (hdo xs o x).1 := by
  by_cases e1 : o = 1
  · subst e1
    by_cases h6 : 6 ≤ xs.length
    · rw [hdo_full x h6]
      refine ⟨?_, hp⟩
      constructor <;> first | exact hv | (simp <;> omega)
    · obtain ⟨ys, e, p, h⟩ := hdo_puts x hp (by omega)
      rw [e]
      refine ⟨?_, h⟩
      have pl := p.length_eq
      simp at pl
      constructor <;> first | (intro z hz; rcases List.mem_append.1 (p.mem_iff.1 hz) with hz | hz; exact hv z hz; (simp at hz; subst hz; exact ⟨v0, v1⟩)) | (simp <;> omega)
  by_cases e2 : o = 2
  · subst e2
    cases xs with
    | nil =>
      rw [hdo_none]
      refine ⟨?_, Hp.nil⟩
      constructor <;> simp
    | cons z r =>
      obtain ⟨ys, e, p, h⟩ := hdo_takes x hp
      rw [e]
      refine ⟨?_, h⟩
      have pl := p.length_eq
      have hz := hv z (by simp)
      simp at hl
      constructor <;> first | (intro y hy; exact hv y (by simp [p.mem_iff.1 hy])) | (simp <;> omega)
  obtain ⟨c, y, e⟩ := hdo_keeps xs o x e1 e2
  refine ⟨?_, by rw [e]; exact hp⟩
  rw [hdo_else _ _ _ e1 e2]; exact qdo_facts (k := k) hl hv w1 w6 v0 v1
/-- What a table does. -/
structure TF (t : Tb) (o k x : Int) (r : Tb × Int × Int) : Prop where
  rt : RT r.1
  code : 1 ≤ r.2.1 ∧ r.2.1 ≤ 5
  told : 0 ≤ r.2.2 ∧ r.2.2 ≤ 4294967295
  zero : r.2.1 ≠ 1 → r.2.2 = 0
  same : (r.2.1 ≠ 1 ∨ o = 5 ∨ o = 6) → r.1 = t
  less : r.2.1 = 1 → (o = 2 ∨ o = 4) → len r.1 + 1 = len t
  more : r.2.1 = 1 → (o = 1 ∨ o = 3) → len r.1 = len t + 1 ∨ len r.1 = len t
  count : o = 6 → r.2.1 = 1 ∧ r.2.2 = len t
  wrong : r.2.1 = 5 ↔ (o ≠ 6 ∧ (o = 3 ∨ o = 4 ∨ k = 0))
theorem tdo_facts {t : Tb} (h : RT t) {o k x : Int} (w1 : 1 ≤ o) (w6 : o ≤ 6) (k0 : 0 ≤ k) (k1 : k ≤ 1000) (v0 : 0 ≤ x) (v1 : x ≤ 4294967295) : TF t o k x (tdo t o k x) := by
  have st := (tdo_stays h (o := o) (k := k) v0 v1).1
  have hr := h.room
  by_cases h6 : o = 6
  · subst h6; rw [tdo_count] at st ⊢
    exact ⟨st, by simp, ⟨by simp, by simp; omega⟩, by simp, by simp, by simp, by simp, by simp, by simp⟩
  by_cases hb : byKey o k
  · obtain ⟨ho, hk1, hk2⟩ := hb
    have hk0 : k ≠ 0 := by omega
    have hp := place_lt t k
    by_cases hh : t.k (place t k) = k
    · have hn : t.k (place t k) ≠ 0 := by rw [hh]; exact hk0
      have hvv := h.vals _ hp
      rcases ho with rfl | rfl | rfl
      · rw [tdo_put x hk1 hk2 (Or.inl hh)] at st ⊢
        have l := len_set t hp k x
        have hi : ind t (place t k) = 1 := by unfold ind; rw [if_neg hn]
        rw [if_neg hk0] at l
        exact ⟨st, by simp, by simp, by simp, by simp, by simp, fun _ _ => Or.inr (by simp only; omega), by simp, by simp [hk0]⟩
      · rw [tdo_take x hk1 hk2 hh] at st ⊢
        obtain ⟨a, -, c⟩ := without_all h hp hn
        exact ⟨st, by simp, hvv, by simp, by simp, fun _ _ => c, by simp, by simp, by simp [hk0]⟩
      · rw [tdo_peek x hk1 hk2, look, if_pos hh]
        exact ⟨h, by simp, hvv, by simp, by simp, by simp, by simp, by simp, by simp [hk0]⟩
    · rcases ho with rfl | rfl | rfl
      · by_cases hl : 6 ≤ len t
        · rw [tdo_full x hk1 hk2 hh hl]
          exact ⟨h, by simp, by simp, by simp, by simp, by simp, by simp, by simp, by simp [hk0]⟩
        · rw [tdo_put x hk1 hk2 (Or.inr (by omega))] at st ⊢
          have l := len_set t hp k x
          have hi := ind_le t (place t k)
          have hf := free_of_place h hh
          have hi : ind t (place t k) = 0 := by unfold ind; rw [if_pos hf]
          rw [if_neg hk0] at l
          exact ⟨st, by simp, by simp, by simp, by simp, by simp, fun _ _ => Or.inl (by simp only; omega), by simp, by simp [hk0]⟩
      · rw [tdo_absent x (Or.inl rfl) hk1 hk2 hh]
        exact ⟨h, by simp, by simp, by simp, by simp, by simp, by simp, by simp, by simp [hk0]⟩
      · rw [tdo_absent x (Or.inr rfl) hk1 hk2 hh]
        exact ⟨h, by simp, by simp, by simp, by simp, by simp, by simp, by simp, by simp [hk0]⟩
  · rw [tdo_wrong t x h6 hb]
    refine ⟨h, by simp, by simp, by simp, by simp, by simp, by simp, fun e => absurd e h6, ?_⟩
    simp only [true_iff]
    refine ⟨h6, ?_⟩
    unfold byKey at hb
    omega
/-- What a tally does. -/
structure AF (n o x : Int) (r : Int × Int × Int) : Prop where
  rt : 0 ≤ r.1 ∧ r.1 ≤ 4294967295
  code : 1 ≤ r.2.1 ∧ r.2.1 ≤ 5
  told : 0 ≤ r.2.2 ∧ r.2.2 ≤ 4294967295
  zero : r.2.1 ≠ 1 → r.2.2 = 0
  same : (r.2.1 ≠ 1 ∨ o = 5 ∨ o = 6) → r.1 = n
  count : o = 6 → r.2.1 = 1 ∧ r.2.2 = n
  wrong : r.2.1 = 5 ↔ (o = 3 ∨ o = 4)
theorem ado_facts {n o x : Int} (n0 : 0 ≤ n) (n1 : n ≤ 4294967295) (w1 : 1 ≤ o) (w6 : o ≤ 6) (v0 : 0 ≤ x) (v1 : x ≤ 4294967295) : AF n o x (ado n o x) := by
  have : o = 1 ∨ o = 2 ∨ o = 3 ∨ o = 4 ∨ o = 5 ∨ o = 6 := by omega
  rcases this with rfl | rfl | rfl | rfl | rfl | rfl
  · by_cases h : 4294967295 < n + x
    · have e : ado n 1 x = (n, 3, 0) := by simp [ado, h]
      rw [e]; constructor <;> (simp <;> omega)
    · have e : ado n 1 x = (n + x, 1, n) := by simp [ado, h]
      rw [e]; constructor <;> (simp <;> omega)
  · by_cases h : n < x
    · have e : ado n 2 x = (n, 2, 0) := by simp [ado, h]
      rw [e]; constructor <;> (simp <;> omega)
    · have e : ado n 2 x = (n - x, 1, n) := by simp [ado, h]
      rw [e]; constructor <;> (simp <;> omega)
  · have e : ado n 3 x = (n, 5, 0) := by simp [ado]
    rw [e]; constructor <;> (simp <;> omega)
  · have e : ado n 4 x = (n, 5, 0) := by simp [ado]
    rw [e]; constructor <;> (simp <;> omega)
  · have e : ado n 5 x = (n, 1, n) := by simp [ado]
    rw [e]; constructor <;> (simp <;> omega)
  · have e : ado n 6 x = (n, 1, n) := by simp [ado]
    rw [e]; constructor <;> (simp <;> omega)

/-- 11.1's Do: what an object is then, as words, and its answer. -/
def ldo (kind : Int) (l : List Int) (o x : Int) : List Int × Int × Int := if kind = 1 then qdo l o x else if kind = 2 then sdo l o x else if kind = 3 then ddo l o x else hdo l o x
def odo (kind : Int) (c : Nat → Nat) (o k x : Int) : (Nat → Nat) × Int × Int :=
  if kind = 5 then (tw (tdo (tbl c) o k x).1, (tdo (tbl c) o k x).2) else if kind = 6 then (tyw (ado (c 0) o x).1, (ado (c 0) o x).2) else (lw (ldo kind (lst c) o x).1, (ldo kind (lst c) o x).2)
/-- How many things there are in an object. -/
def osz (kind : Int) (c : Nat → Nat) : Int := if kind = 5 then (len (tbl c) : Int) else (c 0 : Nat)

theorem WList.congr {c d : Nat → Nat} (h : WList c) (e : ∀ j, j < 17 → d j = c j) : WList d where
  len := by rw [e 0 (by decide)]; exact h.len
  val i h1 h2 := by rw [e 0 (by decide)] at h2; have := h.len; rw [e i (by omega)]; exact h.val i h1 h2
  rest i h1 h2 := by rw [e 0 (by decide)] at h1; rw [e i h2]; exact h.rest i h1 h2
theorem tw_tbl {c : Nat → Nat} (h : upC c 16 1 0 = true) : wl (tw (tbl c)) = wl c := wl_congr fun j hj => by
  unfold tw tbl
  by_cases h16 : j < 16
  · rw [if_pos h16]
    split
    · simp only [Int.toNat_natCast]; congr 1; omega
    · simp only [Int.toNat_natCast]; congr 1; omega
  · rw [if_neg h16]
    have := upC_all h (j := j) (by omega) (by omega)
    omega
theorem tyw_0 {c : Nat → Nat} (h : isTb c = true) : wl (tyw (c 0 : Nat)) = wl c := wl_congr fun j hj => by
  unfold isTb at h
  simp only [Bool.and_eq_true] at h
  unfold tyw
  by_cases e : j = 0
  · subst e; simp
  · rw [if_neg e]
    have := upC_all h.2 (j := j) (by omega) (by omega)
    omega
theorem tbl_tw {t : Tb} (h : RT t) : (tbl (tw t)).k 0 = t.k 0 ∧ ∀ i, i < 8 → (tbl (tw t)).k i = t.k i ∧ (tbl (tw t)).v i = t.v i := by
  have H : ∀ i, i < 8 → (tbl (tw t)).k i = t.k i ∧ (tbl (tw t)).v i = t.v i := fun i hi => by
    have a := h.keys i hi
    have b := h.vals i hi
    have e1 : 2 * i / 2 = i := by omega
    have e2 : (2 * i + 1) / 2 = i := by omega
    have e3 : 2 * i % 2 = 0 := by omega
    have e4 : ¬ (2 * i + 1) % 2 = 0 := by omega
    constructor
    · show ((tw t (2 * i) : Nat) : Int) = t.k i
      unfold tw; rw [if_pos (by omega), if_pos e3, e1]; omega
    · show ((tw t (2 * i + 1) : Nat) : Int) = t.v i
      unfold tw; rw [if_pos (by omega), if_neg e4, e2]; omega
  exact ⟨(H 0 (by decide)).1, H⟩
theorem ind_congr {t u : Tb} {i : Nat} (h : u.k i = t.k i) : ind u i = ind t i := by unfold ind; rw [h]
theorem len_congr {t u : Tb} (h : ∀ i, i < 8 → u.k i = t.k i ∧ u.v i = t.v i) : len u = len t := by
  unfold len
  rw [ind_congr (h 0 (by decide)).1, ind_congr (h 1 (by decide)).1, ind_congr (h 2 (by decide)).1, ind_congr (h 3 (by decide)).1, ind_congr (h 4 (by decide)).1, ind_congr (h 5 (by decide)).1, ind_congr (h 6 (by decide)).1, ind_congr (h 7 (by decide)).1]
theorem RT.congr {t u : Tb} (hr : RT t) (h : ∀ i, i < 8 → u.k i = t.k i ∧ u.v i = t.v i) : RT u where
  keys p hp := by rw [(h p hp).1]; exact hr.keys p hp
  vals p hp := by rw [(h p hp).2]; exact hr.vals p hp
  none p hp := by rw [(h p hp).1, (h p hp).2]; exact hr.none p hp
  row p hp := by
    rw [(h p hp).1]
    intro h0 q hq hd
    have := hr.row p hp h0 q hq hd
    unfold Hit at this ⊢
    rw [(h q hq).1]; exact this
  room := by rw [len_congr h]; exact hr.room
theorem wtab_tw {t : Tb} (h : RT t) : WTab (tw t) := by
  refine ⟨upC_iff.2 fun j hj => ?_, upC_iff.2 fun j hj => ?_, h.congr (tbl_tw h).2⟩
  · have a := h.keys ((0 + j) / 2) (by omega)
    have b := h.vals ((0 + j) / 2) (by omega)
    unfold tw
    rw [if_pos (by omega)]
    split <;> omega
  · unfold tw
    rw [if_neg (by omega)]
    decide
theorem isTb_tyw {n : Int} (h0 : 0 ≤ n) (h1 : n ≤ 4294967295) : isTb (tyw n) = true := by
  unfold isTb
  simp only [Bool.and_eq_true]
  refine ⟨upC_iff.2 fun j hj => ?_, upC_iff.2 fun j hj => ?_⟩
  · obtain rfl : j = 0 := by omega
    unfold tyw; simp; omega
  · unfold tyw; rw [if_neg (by omega)]; decide

/-- What every object does. -/
structure OF (kind : Int) (c : Nat → Nat) (o k x : Int) (r : (Nat → Nat) × Int × Int) : Prop where
  ob : isOb kind r.1
  code : 1 ≤ r.2.1 ∧ r.2.1 ≤ 5
  told : 0 ≤ r.2.2 ∧ r.2.2 ≤ 4294967295
  zero : r.2.1 ≠ 1 → r.2.2 = 0
  same : (r.2.1 ≠ 1 ∨ o = 5 ∨ o = 6) → wl r.1 = wl c
  less : kind ≠ 6 → r.2.1 = 1 → (o = 2 ∨ o = 4) → osz kind r.1 + 1 = osz kind c
  more : kind ≠ 6 → r.2.1 = 1 → (o = 1 ∨ o = 3) → osz kind r.1 = osz kind c + 1 ∨ (kind = 5 ∧ osz kind r.1 = osz kind c)
  count : o = 6 → r.2.1 = 1 ∧ r.2.2 = osz kind c
  wrong : r.2.1 = 5 ↔ (((o = 3 ∨ o = 4) ∧ kind ≠ 3) ∨ (kind = 5 ∧ o ≠ 6 ∧ (o = 3 ∨ o = 4 ∨ k = 0)))
  take : kind ≤ 4 → o = 2 → (r.2.1 = 2 ∧ osz kind c = 0) ∨ (r.2.1 = 1 ∧ 0 < osz kind c)
  put : kind ≤ 4 → o = 1 → (r.2.1 = 3 ∧ osz kind c = 6) ∨ (r.2.1 = 1 ∧ osz kind c < 6)
theorem isOb_kind {kind : Int} {c : Nat → Nat} (h : isOb kind c) : 1 ≤ kind ∧ kind ≤ 6 := by
  rcases h with ⟨h | h | h, _⟩ | ⟨h, _⟩ | ⟨h, _⟩ | ⟨h, _⟩ <;> subst h <;> decide
theorem osz_in {kind : Int} {c : Nat → Nat} (h : isOb kind c) : 0 ≤ osz kind c ∧ (kind ≠ 6 → osz kind c ≤ 6) ∧ osz kind c ≤ 4294967295 := by
  unfold osz
  rcases h with ⟨hk, hl⟩ | ⟨hk, hl, _⟩ | ⟨hk, _, _, hr⟩ | ⟨hk, hl⟩
  · have := (isLb_w hl).len
    rw [if_neg (by omega)]; omega
  · have := (isLb_w hl).len
    rw [if_neg (by omega)]; omega
  · have := hr.room
    rw [if_pos hk]; omega
  · unfold isTb at hl
    simp only [Bool.and_eq_true] at hl
    have := upC_all hl.1 (j := 0) (by omega) (by omega)
    rw [if_neg (by omega)]; omega
theorem ldo_facts {kind : Int} {l : List Int} {o k x : Int} (h1 : 1 ≤ kind) (h4 : kind ≤ 4) (hl : l.length ≤ 6) (hv : ∀ z ∈ l, 0 ≤ z ∧ z ≤ 4294967295) (hp : kind = 4 → Hp l) (w1 : 1 ≤ o) (w6 : o ≤ 6) (v0 : 0 ≤ x) (v1 : x ≤ 4294967295) :
    LF (decide (kind = 3)) l o x (ldo kind l o x) ∧ (kind = 4 → Hp (ldo kind l o x).1) := by
  have : kind = 1 ∨ kind = 2 ∨ kind = 3 ∨ kind = 4 := by omega
  rcases this with rfl | rfl | rfl | rfl
  · exact ⟨qdo_facts (k := k) hl hv w1 w6 v0 v1, by simp⟩
  · exact ⟨sdo_facts (k := k) hl hv w1 w6 v0 v1, by simp⟩
  · exact ⟨ddo_facts (k := k) hl hv w1 w6 v0 v1, by simp⟩
  · have := hdo_facts (k := k) hl hv (hp rfl) w1 w6 v0 v1
    exact ⟨this.1, fun _ => this.2⟩
theorem isOb_list {kind : Int} {c : Nat → Nat} (h4 : kind ≤ 4) (h : isOb kind c) : isLb c = true ∧ (kind = 4 → Hp (lst c)) := by
  rcases h with ⟨hk, hl⟩ | ⟨hk, hl, hp⟩ | ⟨hk, _⟩ | ⟨hk, _⟩
  · exact ⟨hl, by omega⟩
  · exact ⟨hl, fun _ => hp⟩
  · omega
  · omega
theorem isOb_ofList {kind : Int} {l : List Int} (h1 : 1 ≤ kind) (h4 : kind ≤ 4) (hl : l.length ≤ 6) (hv : ∀ z ∈ l, 0 ≤ z ∧ z ≤ 4294967295) (hp : kind = 4 → Hp l) : isOb kind (lw l) := by
  have := isLb_of (lw_in hl hv)
  by_cases e : kind = 4
  · exact Or.inr (Or.inl ⟨e, this, by rw [lst_lw hv]; exact hp e⟩)
  · exact Or.inl ⟨by omega, this⟩
theorem odo_facts {kind : Int} {c : Nat → Nat} {o k x : Int} (h : isOb kind c) (w1 : 1 ≤ o) (w6 : o ≤ 6) (k0 : 0 ≤ k) (k1 : k ≤ 1000) (v0 : 0 ≤ x) (v1 : x ≤ 4294967295) : OF kind c o k x (odo kind c o k x) := by
  obtain ⟨b1, b6⟩ := isOb_kind h
  by_cases e5 : kind = 5
  · subst e5
    obtain ⟨h1, h2, h3⟩ : WTab c := by
      rcases h with ⟨hk, _⟩ | ⟨hk, _⟩ | ⟨_, h⟩ | ⟨hk, _⟩ <;> first | exact h | omega
    have f := tdo_facts h3 w1 w6 k0 k1 v0 v1
    have e : odo 5 c o k x = (tw (tdo (tbl c) o k x).1, (tdo (tbl c) o k x).2) := by rw [odo, if_pos rfl]
    rw [e]
    have hs : ∀ d, osz 5 d = (len (tbl d) : Int) := fun d => by rw [osz, if_pos rfl]
    have hl := len_congr (tbl_tw f.rt).2
    refine ⟨Or.inr (Or.inr (Or.inl ⟨rfl, wtab_tw f.rt⟩)), f.code, f.told, f.zero, fun hh => ?_, fun _ a b => ?_, fun _ a b => ?_, fun a => ?_, ?_, fun a => absurd a (by decide), fun a => absurd a (by decide)⟩
    · show wl (tw (tdo (tbl c) o k x).1) = wl c
      rw [f.same hh]; exact tw_tbl h2
    · rw [hs, hs]; show ((len (tbl (tw (tdo (tbl c) o k x).1)) : Nat) : Int) + 1 = _; rw [hl]; have := f.less a b; omega
    · rw [hs, hs]; show ((len (tbl (tw (tdo (tbl c) o k x).1)) : Nat) : Int) = _ ∨ (_ ∧ ((len (tbl (tw (tdo (tbl c) o k x).1)) : Nat) : Int) = _); rw [hl]; have := f.more a b; omega
    · rw [hs]; exact f.count a
    · have := f.wrong; show (tdo (tbl c) o k x).2.1 = 5 ↔ _; rw [this]; omega
  by_cases e6 : kind = 6
  · subst e6
    have h1 : isTb c = true := by
      rcases h with ⟨hk, _⟩ | ⟨hk, _⟩ | ⟨hk, _⟩ | ⟨_, h⟩ <;> first | exact h | omega
    have hc : 0 ≤ ((c 0 : Nat) : Int) ∧ ((c 0 : Nat) : Int) ≤ 4294967295 := by
      unfold isTb at h1
      simp only [Bool.and_eq_true] at h1
      have := upC_all h1.1 (j := 0) (by omega) (by omega)
      omega
    have f := ado_facts hc.1 hc.2 w1 w6 v0 v1
    have e : odo 6 c o k x = (tyw (ado (c 0) o x).1, (ado (c 0) o x).2) := by rw [odo, if_neg (by decide), if_pos rfl]
    rw [e]
    refine ⟨Or.inr (Or.inr (Or.inr ⟨rfl, isTb_tyw f.rt.1 f.rt.2⟩)), f.code, f.told, f.zero, fun hh => ?_, fun a => absurd rfl a, fun a => absurd rfl a, fun a => ?_, ?_, fun a => absurd a (by decide), fun a => absurd a (by decide)⟩
    · show wl (tyw (ado (c 0) o x).1) = wl c
      rw [f.same hh]; exact tyw_0 h1
    · rw [osz, if_neg (by decide)]; exact f.count a
    · have := f.wrong; show (ado (c 0) o x).2.1 = 5 ↔ _; rw [this]; omega
  have h4 : kind ≤ 4 := by omega
  obtain ⟨hb, hp⟩ := isOb_list h4 h
  have hw := isLb_w hb
  obtain ⟨f, g⟩ := ldo_facts (k := k) b1 h4 (by rw [lst_length]; exact hw.len) (lst_val hw) hp w1 w6 v0 v1
  have e : odo kind c o k x = (lw (ldo kind (lst c) o x).1, (ldo kind (lst c) o x).2) := by rw [odo, if_neg e5, if_neg e6]
  rw [e]
  have hs : osz kind c = (lst c).length := by rw [osz, if_neg e5, lst_length]
  have hs2 : ∀ l : List Int, osz kind (lw l) = l.length := fun l => by rw [osz, if_neg e5]; simp [lw]
  refine ⟨isOb_ofList b1 h4 f.len f.val g, f.code, f.told, f.zero, fun hh => ?_, fun _ a b => ?_, fun _ a b => ?_, fun a => ?_, ?_, fun _ a => ?_, fun _ a => ?_⟩
  · show wl (lw (ldo kind (lst c) o x).1) = wl c
    rw [f.same hh]; exact wl_congr (lw_lst hw)
  · show osz kind (lw (ldo kind (lst c) o x).1) + 1 = _; rw [hs, hs2]; have := f.less a b; omega
  · show osz kind (lw (ldo kind (lst c) o x).1) = _ ∨ _; rw [hs, hs2]; have := f.more a b; omega
  · rw [hs]; exact f.count a
  · show (ldo kind (lst c) o x).2.1 = 5 ↔ _; rw [f.wrong]; simp; omega
  · rw [hs]; have := f.take a; show ((ldo kind (lst c) o x).2.1 = 2 ∧ _) ∨ ((ldo kind (lst c) o x).2.1 = 1 ∧ _); omega
  · rw [hs]; have := f.put a; show ((ldo kind (lst c) o x).2.1 = 3 ∧ _) ∨ ((ldo kind (lst c) o x).2.1 = 1 ∧ _); omega
theorem isOb_zero {kind : Int} (h1 : 1 ≤ kind) (h6 : kind ≤ 6) : isOb kind wz := by
  by_cases h4 : kind ≤ 4
  · have : isLb wz = true := by decide
    by_cases e : kind = 4
    · exact Or.inr (Or.inl ⟨e, this, Hp.nil⟩)
    · exact Or.inl ⟨by omega, this⟩
  by_cases e5 : kind = 5
  · exact Or.inr (Or.inr (Or.inl ⟨e5, by decide, by decide, RT.zero⟩))
  · exact Or.inr (Or.inr (Or.inr ⟨by omega, by decide⟩))
end Go.Proofs.YtbmgjpdfmgcigabDoor.Tab
