/- How the reference reads a text: lists of bytes, facts of no program. -/
import Derived.Test.YtdohomdhgkhebabFmtTxt
namespace Go.Proofs.YtdohomdhgkhebabFmt

def isDig (c : UInt8) : Bool := decide (48 ≤ c.toNat ∧ c.toNat ≤ 57)

/-- How many digits are read: those ahead, twelve at most. -/
def dgLen (l : List UInt8) : Nat := min (l.takeWhile isDig).length 12

/-- The number that the first k bytes are. -/
def dgVal (k : Nat) (l : List UInt8) : Nat := (l.take k).foldl (fun a c => a * 10 + (c.toNat - 48)) 0

/-- The number that digits without a nought ahead are, and what is behind them; -1: none. -/
def dgNum (l : List UInt8) : Int := if dgLen l = 0 ∨ l.head? = some 48 then -1 else (dgVal (dgLen l) l : Nat)
def dgRest (l : List UInt8) : List UInt8 := if dgLen l = 0 ∨ l.head? = some 48 then l else l.drop (dgLen l)

theorem dgLen_le (l : List UInt8) : dgLen l ≤ 12 ∧ dgLen l ≤ l.length := by
  have := (List.takeWhile_prefix isDig (l := l)).length_le
  unfold dgLen; omega

theorem takeWhile_get : ∀ (l : List UInt8) (i : Nat) (_ : i < (l.takeWhile isDig).length) (hl : i < l.length), isDig l[i] = true
  | [], i, h, _ => by simp at h
  | c :: l, i, h, hl => by
    by_cases hc : isDig c = true
    · rw [List.takeWhile_cons_of_pos hc] at h
      cases i with
      | zero => simpa using hc
      | succ i => simpa using takeWhile_get l i (by simpa using h) (by simpa using hl)
    · rw [List.takeWhile_cons_of_neg hc] at h; simp at h

theorem takeWhile_stop : ∀ (l : List UInt8) (hl : (l.takeWhile isDig).length < l.length), isDig l[(l.takeWhile isDig).length] = false
  | [], h => by simp at h
  | c :: l, h => by
    by_cases hc : isDig c = true
    · have e : (List.takeWhile isDig (c :: l)).length = (List.takeWhile isDig l).length + 1 := by rw [List.takeWhile_cons_of_pos hc]; rfl
      have h2 : (List.takeWhile isDig l).length < l.length := by rw [e] at h; simpa using h
      have := takeWhile_stop l h2
      simp only [e, List.getElem_cons_succ]
      exact this
    · have e : (List.takeWhile isDig (c :: l)).length = 0 := by rw [List.takeWhile_cons_of_neg hc]; rfl
      simp only [e, List.getElem_cons_zero]
      simpa using hc

theorem dgLen_get (l : List UInt8) (i : Nat) (h : i < dgLen l) (hl : i < l.length) : isDig l[i] = true :=
  takeWhile_get l i (by unfold dgLen at h; omega) hl

theorem dgLen_stop (l : List UInt8) (h : dgLen l < 12) (hl : dgLen l < l.length) : isDig l[dgLen l] = false := by
  have e : dgLen l = (l.takeWhile isDig).length := by unfold dgLen at *; omega
  have := takeWhile_stop l (by omega)
  simp only [e]; exact this

theorem dgVal_succ (k : Nat) (l : List UInt8) (h : k < l.length) : dgVal (k + 1) l = dgVal k l * 10 + (l[k].toNat - 48) := by
  unfold dgVal
  rw [List.take_succ_eq_append_getElem h, List.foldl_append]; rfl

theorem dgVal_lt (l : List UInt8) : ∀ k, k ≤ dgLen l → dgVal k l < 10 ^ k
  | 0, _ => by simp [dgVal]
  | k + 1, h => by
    have hl : k < l.length := by have := (dgLen_le l).2; omega
    have ih := dgVal_lt l k (by omega)
    have hd := dgLen_get l k (by omega) hl
    simp only [isDig, decide_eq_true_eq] at hd
    rw [dgVal_succ k l hl, Nat.pow_succ]; omega

theorem dgNum_range (l : List UInt8) : -1 ≤ dgNum l ∧ dgNum l < 1000000000000 := by
  unfold dgNum
  split
  · omega
  · have h := dgVal_lt l (dgLen l) (Nat.le_refl _)
    have h2 : 10 ^ dgLen l ≤ 10 ^ 12 := Nat.pow_le_pow_right (by decide) (dgLen_le l).1
    omega

theorem head_app {a b : List UInt8} (h : a ≠ []) : (a ++ b).head? = a.head? := by
  cases a with
  | nil => exact absurd rfl h
  | cons _ _ => rfl

theorem takeWhile_all (a b : List UInt8) (ha : ∀ c ∈ a, isDig c = true) (hb : ∀ c, b.head? = some c → isDig c = false) : (a ++ b).takeWhile isDig = a := by
  induction a with
  | nil =>
    cases b with
    | nil => rfl
    | cons c r => rw [List.nil_append, List.takeWhile_cons_of_neg]; simpa using hb c rfl
  | cons c r ih =>
    rw [List.cons_append, List.takeWhile_cons_of_pos (ha c (by simp)), ih (fun x hx => ha x (by simp [hx]))]

theorem fold_dec (l : List UInt8) : ∀ acc n, Lib.decFrom acc l = some n → l.foldl (fun a c => a * 10 + (c.toNat - 48)) acc = n := by
  induction l with
  | nil => intro acc n h; simpa [Lib.decFrom] using h
  | cons c r ih =>
    intro acc n h
    simp only [Lib.decFrom] at h
    cases hc : Lib.digitVal c with
    | none => simp [hc] at h
    | some d =>
      simp only [hc] at h
      have := (Lib.digitVal_eq hc).2.2
      rw [List.foldl_cons, ← this]
      exact ih _ _ h

theorem dec_head (u : Nat) (h : 0 < u) : (Lib.decDigits u).head? ≠ some 48 := by
  induction u using Nat.strongRecOn with
  | _ u ih =>
    rw [Lib.decDigits]
    split
    · next h1 =>
      intro e
      have e2 : UInt8.ofNat (48 + u) = 48 := by simpa using e
      have e3 : (UInt8.ofNat (48 + u)).toNat = 48 + u := by simp; omega
      rw [e2] at e3
      have : (48 : UInt8).toNat = 48 := rfl
      omega
    · next h1 =>
      rw [head_app (dec_ne _)]
      exact ih (u / 10) (by omega) (by omega)

theorem dg_dec (u : Nat) (h0 : 0 < u) (h1 : u < 10 ^ 12) (b : List UInt8) (hb : ∀ c, b.head? = some c → isDig c = false) :
    dgNum (Lib.decDigits u ++ b) = (u : Int) ∧ dgRest (Lib.decDigits u ++ b) = b := by
  have hd : ∀ c ∈ Lib.decDigits u, isDig c = true := fun c hc => by simpa [isDig] using dec_digit u c hc
  have hl := dec_len h1 (by omega)
  have hn := dec_ne u
  have e : dgLen (Lib.decDigits u ++ b) = (Lib.decDigits u).length := by
    unfold dgLen; rw [takeWhile_all _ _ hd hb]; omega
  have hpos : 0 < (Lib.decDigits u).length := by
    cases hx : Lib.decDigits u with
    | nil => exact absurd hx hn
    | cons _ _ => simp
  have hc : ¬ (dgLen (Lib.decDigits u ++ b) = 0 ∨ (Lib.decDigits u ++ b).head? = some 48) := by
    rw [e, head_app hn]
    rintro (h | h)
    · omega
    · exact dec_head u h0 h
  unfold dgNum dgRest
  rw [if_neg hc, if_neg hc, e, dgVal, List.take_left]
  refine ⟨?_, by simp⟩
  rw [fold_dec _ _ _ (decFrom_dec u)]

/-- What the reference reads behind a name: the key, the value, and what is left. -/
def rKey (r : List UInt8) : Int := if r.head? = some 58 then dgNum (r.drop 1) else 0
def rKeyRest (r : List UInt8) : List UInt8 := if r.head? = some 58 then dgRest (r.drop 1) else r
def rVal (r : List UInt8) : Int := if r.head? = some 61 then dgNum (r.drop 1) else 0
def rValRest (r : List UInt8) : List UInt8 := if r.head? = some 61 then dgRest (r.drop 1) else r

theorem prt_head (m : UInt8) (n : Int) (c : UInt8) (h : (prt m n).head? = some c) : c = m := by
  unfold prt at h
  split at h
  · simp at h
  · simpa using h.symm

theorem rKey_txt (k v : Int) (k0 : 0 ≤ k) (k1 : k ≤ 1000) : rKey (prt 58 k ++ prt 61 v) = k ∧ rKeyRest (prt 58 k ++ prt 61 v) = prt 61 v := by
  obtain ⟨n, rfl⟩ := Int.eq_ofNat_of_zero_le k0
  have hb : ∀ c, (prt 61 v).head? = some c → isDig c = false := fun c hc => by rw [prt_head 61 v c hc]; decide
  unfold rKey rKeyRest
  by_cases h : (n : Int) = 0
  · have e : prt 58 (n : Int) = [] := by rw [prt, if_pos h]
    have hne : ¬ ((prt 61 v).head? = some 58) := fun hx => by have := prt_head 61 v _ hx; revert this; decide
    rw [e, List.nil_append, if_neg hne, if_neg hne]; exact ⟨h.symm, rfl⟩
  · have e : prt 58 (n : Int) = 58 :: Lib.decDigits n := by rw [prt, if_neg h, itoa_nat]
    rw [e, List.cons_append, if_pos (List.head?_cons ..), if_pos (List.head?_cons ..), List.drop_one, List.tail_cons]
    exact dg_dec n (by omega) (by omega) _ hb

theorem rVal_txt (v : Int) (v0 : 0 ≤ v) (v1 : v ≤ 4294967295) : rVal (prt 61 v) = v ∧ rValRest (prt 61 v) = [] := by
  obtain ⟨n, rfl⟩ := Int.eq_ofNat_of_zero_le v0
  unfold rVal rValRest
  by_cases h : (n : Int) = 0
  · have e : prt 61 (n : Int) = [] := by rw [prt, if_pos h]
    rw [e]; exact ⟨h.symm, rfl⟩
  · have e : prt 61 (n : Int) = 61 :: Lib.decDigits n := by rw [prt, if_neg h, itoa_nat]
    rw [e, if_pos (List.head?_cons ..), if_pos (List.head?_cons ..), List.drop_one, List.tail_cons]
    have := dg_dec n (by omega) (by omega) [] (by simp)
    simpa using this

/-- No two names begin alike. -/
theorem nm_only {w w' : Int} {a b : List UInt8} (h1 : 1 ≤ w) (h6 : w ≤ 6) (h1' : 1 ≤ w') (h6' : w' ≤ 6) (e : nm w ++ a = nm w' ++ b) : w = w' := by
  rcases w_cases h1 h6 with rfl | rfl | rfl | rfl | rfl | rfl <;> rcases w_cases h1' h6' with rfl | rfl | rfl | rfl | rfl | rfl <;> first | rfl | (exfalso; simp [nm] at e)

end Go.Proofs.YtdohomdhgkhebabFmt
