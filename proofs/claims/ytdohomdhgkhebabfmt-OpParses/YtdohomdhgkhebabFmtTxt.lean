/- Operations and answers as text: lists of bytes, facts of no program. -/
import Derived.Lib.ItoaNum
import Derived.Lib.Atoi
import Derived.Lib.AtoiAll
import Derived.Lib.AtoiAllCases
import Derived.Lib.AtoiTie
import Derived.Lib.IndexMore
namespace Go.Proofs.YtdohomdhgkhebabFmt

/-- The names of what is done, from 1 on. -/
def nm (w : Int) : List UInt8 :=
  if w = 1 then [112, 117, 116] else if w = 2 then [116, 97, 107, 101] else if w = 3 then [102, 114, 111, 110, 116] else if w = 4 then [98, 97, 99, 107]
  else if w = 5 then [112, 101, 101, 107] else if w = 6 then [99, 111, 117, 110, 116] else []

/-- The names of what comes of it, from 1 on. -/
def cnm (c : Int) : List UInt8 :=
  if c = 1 then [100, 111, 110, 101] else if c = 2 then [101, 109, 112, 116, 121] else if c = 3 then [102, 117, 108, 108] else if c = 4 then [97, 98, 115, 101, 110, 116]
  else if c = 5 then [119, 114, 111, 110, 103] else []

/-- A number behind its mark; a 0 is not told. -/
def prt (m : UInt8) (n : Int) : List UInt8 := if n = 0 then [] else m :: Lib.itoa n

/-- An operation as text. -/
def txt (w k v : Int) : List UInt8 := nm w ++ prt 58 k ++ prt 61 v

/-- An answer as text. -/
def say (c v : Int) : List UInt8 := cnm c ++ prt 32 v

/-- May an operation be one? -/
structure Rt (w k v : Int) : Prop where
  w1 : 1 ≤ w
  w6 : w ≤ 6
  k0 : 0 ≤ k
  k1 : k ≤ 1000
  v0 : 0 ≤ v
  v1 : v ≤ 4294967295

/-- May an answer be one? -/
structure Ft (c v : Int) : Prop where
  c1 : 1 ≤ c
  c5 : c ≤ 5
  v0 : 0 ≤ v
  v1 : v ≤ 4294967295
  z : c = 1 ∨ v = 0

theorem w_cases {w : Int} (h1 : 1 ≤ w) (h6 : w ≤ 6) : w = 1 ∨ w = 2 ∨ w = 3 ∨ w = 4 ∨ w = 5 ∨ w = 6 := by omega
theorem c_cases {w : Int} (h1 : 1 ≤ w) (h5 : w ≤ 5) : w = 1 ∨ w = 2 ∨ w = 3 ∨ w = 4 ∨ w = 5 := by omega

/-! ### Digits -/

theorem dec_ne (u : Nat) : Lib.decDigits u ≠ [] := by
  intro h
  have := Lib.decDigits_length u
  rw [h] at this
  have := Lib.nDigits_pos u
  simp at *; omega

theorem dec_digit (u : Nat) : ∀ b ∈ Lib.decDigits u, 48 ≤ b.toNat ∧ b.toNat ≤ 57 := by
  induction u using Nat.strongRecOn with
  | _ u ih =>
    intro b hb
    rw [Lib.decDigits] at hb
    split at hb
    · next h =>
      have : b = UInt8.ofNat (48 + u) := by simpa using hb
      subst this
      have e : (UInt8.ofNat (48 + u)).toNat = 48 + u := by simp; omega
      omega
    · next h =>
      rw [List.mem_append] at hb
      rcases hb with hb | hb
      · exact ih (u / 10) (by omega) b hb
      · have : b = UInt8.ofNat (48 + u % 10) := by simpa using hb
        subst this
        have e : (UInt8.ofNat (48 + u % 10)).toNat = 48 + u % 10 := by simp; omega
        omega

theorem decFrom_append (a b : List UInt8) : ∀ acc n, Lib.decFrom acc a = some n → Lib.decFrom acc (a ++ b) = Lib.decFrom n b := by
  induction a with
  | nil => intro acc n h; simp [Lib.decFrom] at h; subst h; rfl
  | cons c r ih =>
    intro acc n h
    simp only [List.cons_append, Lib.decFrom] at h ⊢
    cases hc : Lib.digitVal c with
    | none => simp [hc] at h
    | some d => simp only [hc] at h ⊢; exact ih _ _ h

theorem digitVal_of (d : Nat) (h : d < 10) : Lib.digitVal (UInt8.ofNat (48 + d)) = some d := by
  have e : (UInt8.ofNat (48 + d)).toNat = 48 + d := by simp; omega
  unfold Lib.digitVal
  rw [e, if_pos (by omega)]
  congr 1; omega

theorem decFrom_dec (u : Nat) : Lib.decFrom 0 (Lib.decDigits u) = some u := by
  induction u using Nat.strongRecOn with
  | _ u ih =>
    rw [Lib.decDigits]
    split
    · next h => simp only [Lib.decFrom, digitVal_of u h]; congr 1; omega
    · next h =>
      rw [decFrom_append _ _ _ _ (ih (u / 10) (by omega))]
      simp only [Lib.decFrom, digitVal_of (u % 10) (by omega)]
      congr 1; omega

theorem dec_len {u k : Nat} (h : u < 10 ^ k) (hk : 1 ≤ k) : (Lib.decDigits u).length ≤ k := by
  rw [Lib.decDigits_length]
  induction k generalizing u with
  | zero => omega
  | succ k ih =>
    by_cases hu : u < 10
    · rw [Lib.nDigits_small hu]; omega
    · rw [Lib.nDigits_big hu]
      by_cases h1 : 1 ≤ k
      · have := ih (u := u / 10) (by rw [Nat.pow_succ] at h; omega) h1
        omega
      · have : k = 0 := by omega
        subst this; simp at h; omega

theorem itoa_nat (n : Nat) : Lib.itoa (n : Int) = Lib.decDigits n := by
  unfold Lib.itoa
  rw [if_neg (by omega)]; simp

theorem atoiAll_dec (u : Nat) (h : u < 10 ^ 18) : Lib.atoiAll (Lib.decDigits u) = .ok (u : Int) := by
  rw [Lib.atoiAll_short _ (dec_len h (by omega))]
  have hd := dec_digit u
  have hf := decFrom_dec u
  revert hd hf
  have hn := dec_ne u
  generalize Lib.decDigits u = l at hn
  intro hd hf
  cases l with
  | nil => exact absurd rfl hn
  | cons b r =>
    have hb := hd b (by simp)
    have h1 : (b == 45) = false := by
      rw [beq_eq_false_iff_ne]; intro e; subst e; simp at hb
    have h2 : (b == 43) = false := by
      rw [beq_eq_false_iff_ne]; intro e; subst e; simp at hb
    simp [Lib.atoi, h1, h2, Lib.decNat, hf, Lib.NumEnd.ofOption]

/-! ### Where a text is cut -/

theorem index_none (c : UInt8) : ∀ l : List UInt8, c ∉ l → Lib.index l [c] = -1
  | [], _ => by simp [Lib.index]
  | b :: l, h => by
    have h1 : c ≠ b := fun e => h (by simp [e])
    have h2 : c ∉ l := fun e => h (by simp [e])
    simp [Lib.index, List.isPrefixOf, index_none c l h2, h1]

theorem index_at (c : UInt8) : ∀ a b : List UInt8, c ∉ a → Lib.index (a ++ c :: b) [c] = (a.length : Int)
  | [], b, _ => by simp [Lib.index, List.isPrefixOf]
  | x :: a, b, h => by
    have h1 : c ≠ x := fun e => h (by simp [e])
    have h2 : c ∉ a := fun e => h (by simp [e])
    have ih := index_at c a b h2
    have hne : ((a.length : Int) == -1) = false := by rw [beq_eq_false_iff_ne]; omega
    simp only [List.cons_append, Lib.index, ih, List.isPrefixOf, Bool.and_eq_true, beq_iff_eq, h1, false_and, if_false, hne]
    simp

theorem cut_none (c : UInt8) (l : List UInt8) (h : c ∉ l) : Lib.cut l [c] = (l, [], false) := by
  unfold Lib.cut
  rw [index_none c l h, if_neg (by omega)]

theorem cut_at (c : UInt8) (a b : List UInt8) (h : c ∉ a) : Lib.cut (a ++ c :: b) [c] = (a, b, true) := by
  unfold Lib.cut
  rw [index_at c a b h, if_pos (by omega)]
  simp

/-! ### What is read -/

/-- The What of a name; 0: none. -/
def whatOf (l : List UInt8) : Int :=
  if l = [] then 0 else if l = nm 1 then 1 else if l = nm 2 then 2 else if l = nm 3 then 3 else if l = nm 4 then 4 else if l = nm 5 then 5 else if l = nm 6 then 6 else 0

/-- What a text's digits are; 0: no number. -/
def numOf (l : List UInt8) : Int :=
  match Lib.atoiAll l with
  | .ok v => v
  | _ => 0

theorem whatOf_nm (w : Int) (h1 : 1 ≤ w) (h6 : w ≤ 6) : whatOf (nm w) = w := by
  rcases w_cases h1 h6 with rfl | rfl | rfl | rfl | rfl | rfl <;> decide

theorem whatOf_range (l : List UInt8) : 0 ≤ whatOf l ∧ whatOf l ≤ 6 := by
  unfold whatOf
  repeat' split
  all_goals omega

theorem prt_num (m : UInt8) (n : Int) (h0 : 0 ≤ n) (h1 : n ≤ 4294967295) : numOf ((prt m n).drop 1) = n := by
  obtain ⟨k, rfl⟩ := Int.eq_ofNat_of_zero_le h0
  by_cases h : (k : Int) = 0
  · rw [prt, if_pos h, h]; rfl
  · rw [prt, if_neg h, itoa_nat, List.drop_one, List.tail_cons, numOf, atoiAll_dec k (by omega)]

theorem prt_mem (m c : UInt8) (n : Int) (h0 : 0 ≤ n) (hc : c.toNat < 48 ∨ 57 < c.toNat) (hm : c ≠ m) : c ∉ prt m n := by
  obtain ⟨k, rfl⟩ := Int.eq_ofNat_of_zero_le h0
  by_cases h : (k : Int) = 0
  · rw [prt, if_pos h]; simp
  · rw [prt, if_neg h, itoa_nat]
    intro hx
    rcases List.mem_cons.1 hx with hx | hx
    · exact hm hx
    · have := dec_digit k c hx; omega

theorem nm_letters (w : Int) (h1 : 1 ≤ w) (h6 : w ≤ 6) : ∀ c ∈ nm w, 97 ≤ c.toNat := by
  rcases w_cases h1 h6 with rfl | rfl | rfl | rfl | rfl | rfl <;> decide

theorem nm_mem (c : UInt8) (w : Int) (h1 : 1 ≤ w) (h6 : w ≤ 6) (hc : c.toNat < 97) : c ∉ nm w := by
  intro h
  have := nm_letters w h1 h6 c h
  omega

/-- The three parts of a text, as they are cut. -/
def headOf (s : List UInt8) : List UInt8 := (Lib.cut s [61]).1
def valOf (s : List UInt8) : List UInt8 := (Lib.cut s [61]).2.1
def nameOf (s : List UInt8) : List UInt8 := (Lib.cut (headOf s) [58]).1
def keyOf (s : List UInt8) : List UInt8 := (Lib.cut (headOf s) [58]).2.1

theorem prt_split (m : UInt8) (n : Int) : prt m n = [] ∨ prt m n = m :: (prt m n).drop 1 := by
  unfold prt
  split
  · exact Or.inl rfl
  · exact Or.inr rfl

theorem cut_prt (m : UInt8) (a : List UInt8) (n : Int) (h : m ∉ a) : (Lib.cut (a ++ prt m n) [m]).1 = a ∧ (Lib.cut (a ++ prt m n) [m]).2.1 = (prt m n).drop 1 := by
  rcases prt_split m n with e | e
  · rw [e, List.append_nil, cut_none m a h]; exact ⟨rfl, rfl⟩
  · rw [e, cut_at m a _ h]; exact ⟨rfl, rfl⟩

/-- What is printed is read. -/
theorem read_txt {w k v : Int} (h : Rt w k v) : whatOf (nameOf (txt w k v)) = w ∧ numOf (keyOf (txt w k v)) = k ∧ numOf (valOf (txt w k v)) = v := by
  have h61 : (61 : UInt8) ∉ nm w ++ prt 58 k := by
    intro hx
    rcases List.mem_append.1 hx with hx | hx
    · exact nm_mem 61 w h.w1 h.w6 (by decide) hx
    · exact prt_mem 58 61 k h.k0 (by decide) (by decide) hx
  have c1 := cut_prt 61 (nm w ++ prt 58 k) v h61
  have c2 := cut_prt 58 (nm w) k (nm_mem 58 w h.w1 h.w6 (by decide))
  have eh : headOf (txt w k v) = nm w ++ prt 58 k := c1.1
  refine ⟨?_, ?_, ?_⟩
  · rw [nameOf, eh, c2.1, whatOf_nm w h.w1 h.w6]
  · rw [keyOf, eh, c2.2, prt_num 58 k h.k0 (by have := h.k1; omega)]
  · rw [valOf, txt, c1.2, prt_num 61 v h.v0 h.v1]

theorem txt_inj {w k v w' k' v' : Int} (h : Rt w k v) (h' : Rt w' k' v') (e : txt w k v = txt w' k' v') : w = w' ∧ k = k' ∧ v = v' := by
  have a := read_txt h
  have b := read_txt h'
  rw [e] at a
  exact ⟨a.1.symm.trans b.1, a.2.1.symm.trans b.2.1, a.2.2.symm.trans b.2.2⟩

/-! ### Answers -/

theorem cnm_letters (w : Int) (h1 : 1 ≤ w) (h5 : w ≤ 5) : ∀ c ∈ cnm w, 97 ≤ c.toNat := by
  rcases c_cases h1 h5 with rfl | rfl | rfl | rfl | rfl <;> decide

theorem cnm_inj (a b : Int) (a1 : 1 ≤ a) (a5 : a ≤ 5) (b1 : 1 ≤ b) (b5 : b ≤ 5) (e : cnm a = cnm b) : a = b := by
  rcases c_cases a1 a5 with rfl | rfl | rfl | rfl | rfl <;> rcases c_cases b1 b5 with rfl | rfl | rfl | rfl | rfl <;> first | rfl | (exact absurd e (by decide))

theorem say_inj {c v c' v' : Int} (h : Ft c v) (h' : Ft c' v') (e : say c v = say c' v') : c = c' ∧ v = v' := by
  have n1 : (32 : UInt8) ∉ cnm c := fun hx => by have := cnm_letters c h.c1 h.c5 _ hx; revert this; decide
  have n2 : (32 : UInt8) ∉ cnm c' := fun hx => by have := cnm_letters c' h'.c1 h'.c5 _ hx; revert this; decide
  have a := cut_prt 32 (cnm c) v n1
  have b := cut_prt 32 (cnm c') v' n2
  have e' : cnm c ++ prt 32 v = cnm c' ++ prt 32 v' := e
  rw [e'] at a
  refine ⟨cnm_inj _ _ h.c1 h.c5 h'.c1 h'.c5 (a.1.symm.trans b.1), ?_⟩
  have := a.2.symm.trans b.2
  have p1 := prt_num 32 v h.v0 h.v1
  have p2 := prt_num 32 v' h'.v0 h'.v1
  rw [this] at p1
  exact p1.symm.trans p2

/-! ### How long a text is -/

theorem prt_len (m : UInt8) (n : Int) (h0 : 0 ≤ n) (h1 : n ≤ 4294967295) : (prt m n).length ≤ 11 := by
  obtain ⟨k, rfl⟩ := Int.eq_ofNat_of_zero_le h0
  unfold prt
  split
  · simp
  · rw [itoa_nat]
    have := dec_len (u := k) (k := 10) (by omega) (by omega)
    simp; omega

theorem nm_len (w : Int) : (nm w).length ≤ 5 := by
  unfold nm
  repeat' split
  all_goals simp

theorem cnm_len (w : Int) : (cnm w).length ≤ 6 := by
  unfold cnm
  repeat' split
  all_goals simp

theorem txt_len {w k v : Int} (h : Rt w k v) : (txt w k v).length ≤ 27 := by
  have a := nm_len w
  have b := prt_len 58 k h.k0 (by have := h.k1; omega)
  have c := prt_len 61 v h.v0 h.v1
  simp only [txt, List.length_append]; omega

end Go.Proofs.YtdohomdhgkhebabFmt
