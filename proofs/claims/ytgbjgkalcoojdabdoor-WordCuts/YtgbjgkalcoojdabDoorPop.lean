/- How many bits of a number are 1, byte by byte: facts of no program. -/
import Derived.Test.YtgbjgkalcoojdabDoorBase
namespace Go.Proofs.YtgbjgkalcoojdabDoor

/-- How many of the n least bits of x are 1. -/
def pc : Nat → Nat → Nat
  | _, 0 => 0
  | x, n + 1 => x % 2 + pc (x / 2) n

theorem pc_le : ∀ n x, pc x n ≤ n
  | 0, _ => Nat.le_refl _
  | n + 1, x => by
    have := pc_le n (x / 2)
    rw [pc]; omega

theorem pc_add : ∀ m n x, pc x (m + n) = pc x m + pc (x / 2 ^ m) n
  | 0, n, x => by simp [pc]
  | m + 1, n, x => by
    rw [show m + 1 + n = (m + n) + 1 by omega, pc, pc, pc_add m n (x / 2), Nat.div_div_eq_div_mul, Nat.pow_succ, Nat.mul_comm 2 (2 ^ m), Nat.add_assoc]

theorem pc_mod : ∀ n x, pc (x % 2 ^ n) n = pc x n
  | 0, _ => rfl
  | n + 1, x => by
    rw [pc, pc, Nat.pow_succ, Nat.mul_comm, Nat.mod_mul_right_div_self, pc_mod n (x / 2), Nat.mod_mul_right_mod]

def bys : Nat → Nat → List Nat
  | 0, _ => []
  | n + 1, x => x % 256 :: bys n (x / 256)

def ofB : List Nat → Nat
  | [] => 0
  | a :: r => a + 256 * ofB r

def msk (m : Nat) : Nat → Nat
  | 0 => 0
  | n + 1 => m + 256 * msk m n

theorem ofB_bys : ∀ n x, x < 256 ^ n → ofB (bys n x) = x
  | 0, x, h => by simp [bys, ofB] at *; omega
  | n + 1, x, h => by
    have h2 : x / 256 < 256 ^ n := by rw [Nat.pow_succ] at h; exact Nat.div_lt_of_lt_mul (by omega)
    rw [bys, ofB, ofB_bys n (x / 256) h2]; omega

theorem bys_lt : ∀ n x a, a ∈ bys n x → a < 256
  | n + 1, x, a, h => by
    simp [bys] at h
    rcases h with h | h
    · omega
    · exact bys_lt n _ a h
  | 0, x, a, h => by simp [bys] at h

theorem bys_length : ∀ n x, (bys n x).length = n
  | 0, _ => rfl
  | n + 1, x => by simp [bys, bys_length n]

theorem pc_bys : ∀ n x, pc x (8 * n) = ((bys n x).map (pc · 8)).sum
  | 0, x => by simp [pc, bys]
  | n + 1, x => by
    rw [show 8 * (n + 1) = 8 + 8 * n by omega, pc_add, bys, List.map_cons, List.sum_cons, ← pc_bys n (x / 256), ← pc_mod 8 x]

theorem and_byte (a b m M : Nat) (ha : a < 256) (hm : m < 256) : (a + 256 * b) &&& (m + 256 * M) = (a &&& m) + 256 * (b &&& M) := by
  have h1 : ((a + 256 * b) &&& (m + 256 * M)) % 2 ^ 8 = a &&& m := by
    rw [Nat.and_mod_two_pow, show (a + 256 * b) % 2 ^ 8 = a by omega, show (m + 256 * M) % 2 ^ 8 = m by omega]
  have h2 : ((a + 256 * b) &&& (m + 256 * M)) / 2 ^ 8 = b &&& M := by
    rw [Nat.and_div_two_pow, show (a + 256 * b) / 2 ^ 8 = b by omega, show (m + 256 * M) / 2 ^ 8 = M by omega]
  omega

def p1 (a : Nat) : Nat := ((a / 2) &&& 85) + (a &&& 85)
def p2 (a : Nat) : Nat := ((a / 4) &&& 51) + (a &&& 51)
def p3 (a : Nat) : Nat := (a / 16 + a) % 16

theorem p1_lt : ∀ a : Fin 256, p1 a.val < 256 := by decide +kernel
theorem p2_lt : ∀ a : Fin 256, p2 (p1 a.val) < 256 ∧ p2 (p1 a.val) ≤ 68 ∧ p2 (p1 a.val) % 16 ≤ 4 := by decide +kernel
theorem p3_eq : ∀ a : Fin 256, p3 (p2 (p1 a.val)) = pc a.val 8 := by decide +kernel
theorem c1 : ∀ a : Fin 256, ∀ c : Fin 2, (a.val / 2 + 128 * c.val) &&& 85 = (a.val / 2) &&& 85 := by decide +kernel
theorem c2 : ∀ a : Fin 256, ∀ c : Fin 4, (a.val / 4 + 64 * c.val) &&& 51 = (a.val / 4) &&& 51 := by decide +kernel

theorem s1_eq : ∀ l : List Nat, (∀ a, a ∈ l → a < 256) → ((ofB l / 2) &&& msk 85 l.length) + (ofB l &&& msk 85 l.length) = ofB (l.map p1)
  | [], _ => by simp [ofB, msk]
  | a :: l, h => by
    have ha : a < 256 := h a (by simp)
    have ih := s1_eq l (fun x hx => h x (by simp [hx]))
    have e : ofB (a :: l) / 2 = (a / 2 + 128 * (ofB l % 2)) + 256 * (ofB l / 2) := by rw [ofB]; omega
    rw [List.length_cons, msk, e, and_byte _ _ _ _ (by omega) (by omega), ofB, and_byte _ _ _ _ ha (by omega), c1 ⟨a, ha⟩ ⟨ofB l % 2, by omega⟩, List.map_cons, ofB, ← ih, p1]
    show (a / 2 &&& 85) + _ + _ = _
    omega

theorem s2_eq : ∀ l : List Nat, (∀ a, a ∈ l → a < 256) → ((ofB l / 4) &&& msk 51 l.length) + (ofB l &&& msk 51 l.length) = ofB (l.map p2)
  | [], _ => by simp [ofB, msk]
  | a :: l, h => by
    have ha : a < 256 := h a (by simp)
    have ih := s2_eq l (fun x hx => h x (by simp [hx]))
    have e : ofB (a :: l) / 4 = (a / 4 + 64 * (ofB l % 4)) + 256 * (ofB l / 4) := by rw [ofB]; omega
    rw [List.length_cons, msk, e, and_byte _ _ _ _ (by omega) (by omega), ofB, and_byte _ _ _ _ ha (by omega), c2 ⟨a, ha⟩ ⟨ofB l % 4, by omega⟩, List.map_cons, ofB, ← ih, p2]
    show (a / 4 &&& 51) + _ + _ = _
    omega

theorem s3_eq : ∀ l : List Nat, (∀ a, a ∈ l → a ≤ 68 ∧ a % 16 ≤ 4) → (ofB l / 16 + ofB l) &&& msk 15 l.length = ofB (l.map p3)
  | [], _ => by simp [ofB, msk]
  | a :: l, h => by
    have ha := h a (by simp)
    have ih := s3_eq l (fun x hx => h x (by simp [hx]))
    have hb : ofB l % 16 ≤ 4 := by
      cases l with
      | nil => simp [ofB]
      | cons b l => have := h b (by simp); rw [ofB]; omega
    have e : ofB (a :: l) / 16 + ofB (a :: l) = (a / 16 + a + 16 * (ofB l % 16)) + 256 * (ofB l / 16 + ofB l) := by rw [ofB]; omega
    rw [List.length_cons, msk, e, and_byte _ _ _ _ (by omega) (by omega), ih, List.map_cons, ofB, p3, show (15 : Nat) = 2 ^ 4 - 1 from rfl, Nat.and_two_pow_sub_one_eq_mod]
    omega

theorem low_div1 (y a q : Nat) (ha : a < 256) (h : y = a + 256 * q) : y / 256 = q := by omega
theorem low_div2 (t a b m : Nat) (ha : a < 256) (hb : b < 256) (h : t = a + 256 * (b + 256 * m)) : t / 65536 = m := by omega
theorem low_div4 (t a b c d m : Nat) (ha : a < 256) (hb : b < 256) (hc : c < 256) (hd : d < 256) (h : t = a + 256 * (b + 256 * (c + 256 * (d + 256 * m)))) : t / 4294967296 = m := by
  have h1 : t / 65536 = c + 256 * (d + 256 * m) := low_div2 t a b _ ha hb h
  have h2 := low_div2 _ c d m hc hd h1
  rw [Nat.div_div_eq_div_mul] at h2
  exact h2
theorem low_mod (t a q : Nat) (ha : a < 128) (h : t = a + 256 * q) : t % 128 = a := by omega

theorem sum8q (a b c d e f g h y q1 q2 q3 q4 q5 q6 : Nat) (ha : a ≤ 8) (hb : b ≤ 8) (hc : c ≤ 8) (hd : d ≤ 8) (he : e ≤ 8) (hf : f ≤ 8) (hg : g ≤ 8) (hh : h ≤ 8)
    (e0 : y = a + 256 * q1) (e1 : q1 = b + 256 * q2) (e2 : q2 = c + 256 * q3) (e3 : q3 = d + 256 * q4) (e4 : q4 = e + 256 * q5) (e5 : q5 = f + 256 * q6) (e6 : q6 = g + 256 * h) :
    ((y + y / 256 + (y + y / 256) / 65536) + (y + y / 256 + (y + y / 256) / 65536) / 4294967296) % 128 = a + b + c + d + e + f + g + h := by
  rw [low_div1 y a q1 (by omega) e0]
  rw [low_div2 (y + q1) (a + b) (b + c) (q2 + q3) (by omega) (by omega) (by omega)]
  have h4 : y + q1 + (q2 + q3) = (a + b + c + d) + 256 * ((b + c + d + e) + 256 * ((c + d + e + f) + 256 * ((d + e + f + g) + 256 * (q4 + q5 + q6 + h)))) := by omega
  rw [low_div4 _ _ _ _ _ _ (by omega) (by omega) (by omega) (by omega) h4]
  exact low_mod _ _ (q1 + q2 + q3 + q4 + q5 + q6 + h) (by omega) (by omega)

theorem sum8 (a b c d e f g h : Nat) (ha : a ≤ 8) (hb : b ≤ 8) (hc : c ≤ 8) (hd : d ≤ 8) (he : e ≤ 8) (hf : f ≤ 8) (hg : g ≤ 8) (hh : h ≤ 8) (y : Nat)
    (hy : y = ofB [a, b, c, d, e, f, g, h]) :
    y ≤ 578721382704613384 ∧ ((y + y / 256 + (y + y / 256) / 65536) + (y + y / 256 + (y + y / 256) / 65536) / 4294967296) % 128 = a + b + c + d + e + f + g + h := by
  simp only [ofB, Nat.mul_zero, Nat.add_zero] at hy
  refine ⟨by omega, ?_⟩
  exact sum8q a b c d e f g h y _ _ _ _ _ _ ha hb hc hd he hf hg hh hy rfl rfl rfl rfl rfl rfl

theorem ofB_le (m : Nat) : ∀ l : List Nat, (∀ a, a ∈ l → a ≤ m) → ofB l ≤ msk m l.length
  | [], _ => Nat.le_refl _
  | a :: l, h => by
    have h1 := h a (by simp)
    have h2 := ofB_le m l (fun x hx => h x (by simp [hx]))
    rw [List.length_cons, ofB, msk]; omega

theorem m85 : msk 85 8 = 6148914691236517205 := by decide
theorem m51 : msk 51 8 = 3689348814741910323 := by decide
theorem m15 : msk 15 8 = 1085102592571150095 := by decide
theorem m255 : msk 255 8 = 18446744073709551615 := by decide
theorem m68 : msk 68 8 = 4919131752989213764 := by decide

theorem list8 : ∀ l : List Nat, l.length = 8 → ∃ a b c d e f g h, l = [a, b, c, d, e, f, g, h]
  | [a, b, c, d, e, f, g, h], _ => ⟨a, b, c, d, e, f, g, h, rfl⟩

theorem sum_eq8 (a b c d e f g h : Nat) : a + b + c + d + e + f + g + h = [a, b, c, d, e, f, g, h].sum := by
  simp only [List.sum_cons, List.sum_nil]; omega

theorem pop_last (l : List Nat) (hn : l.length = 8) (y : Nat) (hy : y = ofB (l.map (pc · 8))) :
    y ≤ 578721382704613384 ∧ ((y + y / 256 + (y + y / 256) / 65536) + (y + y / 256 + (y + y / 256) / 65536) / 4294967296) % 128 = (l.map (pc · 8)).sum := by
  obtain ⟨a, b, c, d, e, f, g, h, rfl⟩ := list8 l hn
  have hs8 := sum8 (pc a 8) (pc b 8) (pc c 8) (pc d 8) (pc e 8) (pc f 8) (pc g 8) (pc h 8) (pc_le 8 a) (pc_le 8 b) (pc_le 8 c) (pc_le 8 d) (pc_le 8 e) (pc_le 8 f) (pc_le 8 g) (pc_le 8 h) y hy
  rw [sum_eq8] at hs8
  exact hs8

/-- The four steps of a word. -/
theorem pop_steps (x : Nat) (hx : x < 18446744073709551616) :
    ∃ y1 y2 y3 : Nat, y1 < 18446744073709551616 ∧ y2 ≤ 4919131752989213764 ∧
      ((x / 2) &&& 6148914691236517205) + (x &&& 6148914691236517205) = y1 ∧
      ((y1 / 4) &&& 3689348814741910323) + (y1 &&& 3689348814741910323) = y2 ∧
      (y2 / 16 + y2) &&& 1085102592571150095 = y3 ∧ y3 ≤ 578721382704613384 ∧
      ((y3 + y3 / 256 + (y3 + y3 / 256) / 65536) + (y3 + y3 / 256 + (y3 + y3 / 256) / 65536) / 4294967296) % 128 = pc x 64 := by
  have h0 := ofB_bys 8 x hx
  have hl := bys_lt 8 x
  have hn := bys_length 8 x
  have hs : pc x 64 = _ := pc_bys 8 x
  generalize bys 8 x = l at h0 hl hn hs
  have hl1 : ∀ z, z ∈ l.map p1 → z < 256 := by
    intro z hz
    obtain ⟨v, hv, rfl⟩ := List.mem_map.1 hz
    exact p1_lt ⟨v, hl v hv⟩
  have hl2 : ∀ z, z ∈ (l.map p1).map p2 → z ≤ 68 ∧ z % 16 ≤ 4 := by
    intro z hz
    obtain ⟨v, hv, rfl⟩ := List.mem_map.1 hz
    obtain ⟨u, hu, rfl⟩ := List.mem_map.1 hv
    exact (p2_lt ⟨u, hl u hu⟩).2
  have k1 := s1_eq l hl
  have k2 := s2_eq (l.map p1) hl1
  have k3 := s3_eq ((l.map p1).map p2) hl2
  have hy1 := ofB_le 255 (l.map p1) (fun a ha => Nat.le_of_lt_succ (hl1 a ha))
  have hy2 := ofB_le 68 ((l.map p1).map p2) (fun a ha => (hl2 a ha).1)
  have e3 : ((l.map p1).map p2).map p3 = l.map (pc · 8) := by
    rw [List.map_map, List.map_map]
    apply List.map_congr_left
    intro a ha
    exact p3_eq ⟨a, hl a ha⟩
  rw [e3] at k3
  simp only [List.length_map, hn, m85, m51, m15, m255, m68, h0] at k1 k2 k3 hy1 hy2
  have hlast := pop_last l hn _ rfl
  rw [← hs] at hlast
  exact ⟨_, _, _, Nat.lt_succ_of_le hy1, hy2, k1, k2, k3, hlast.1, hlast.2⟩
end Go.Proofs.YtgbjgkalcoojdabDoor
