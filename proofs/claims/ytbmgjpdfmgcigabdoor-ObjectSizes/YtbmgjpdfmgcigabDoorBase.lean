/- Bits of numbers, and worlds that only grow: facts of no program. -/
import Derived.WalkKit
import Derived.Laws.BitsAllLaws
import Derived.Laws.MakeOwn
namespace Go.Proofs.YtbmgjpdfmgcigabDoor
set_option maxRecDepth 20000
open Go.RowKit

/-- w' is w with new blocks, none of them frozen, and draws. -/
structure Gr (w w' : World) : Prop where
  below : Below w.heap.size w w'
  froz : ∀ a, w'.frozen? a = w.frozen? a

theorem Gr.refl (w : World) : Gr w w := ⟨Below.refl _ _, fun _ => rfl⟩
theorem Gr.trans {a b c : World} (h : Gr a b) (k : Gr b c) : Gr a c :=
  ⟨h.below.trans (k.below.mono h.below.size), fun x => (k.froz x).trans (h.froz x)⟩
theorem Gr.alloc {a b : World} (h : Gr a b) (c : Array Value) (t : TypeId) : Gr a (b.alloc (.cells c t)) :=
  ⟨h.below.alloc h.below.size _, fun x => (frozen?_alloc_cells _ _ _ x).trans (h.froz x)⟩
theorem Gr.setCell {a b : World} (h : Gr a b) {p : Addr} (hp : a.heap.size ≤ p.block) (v : Value) : Gr a (b.setCell p v) :=
  ⟨h.below.setCell hp _, fun x => (World.frozen?_setCell _ _ _ _).trans (h.froz x)⟩
theorem Gr.drew {a b : World} (h : Gr a b) : Gr a b.drew := ⟨h.below.drew, h.froz⟩
theorem Gr.grown {a b : World} (h : Gr a b) : Grown a b := ⟨h.below.frame _, h.froz, h.below.size⟩
theorem Gr.cell {a b : World} (h : Gr a b) {n o : Nat} (hb : n < a.heap.size) : b.cell? ⟨n, o, none⟩ = a.cell? ⟨n, o, none⟩ := h.below.cell hb
theorem frozen_past (w : World) {n o : Nat} (h : w.heap.size ≤ n) : w.frozen? ⟨n, o, none⟩ = false := by
  have e : w.heap[n]? = none := by simp [h]
  simp [World.frozen?, e]

/-- Bit i of x. -/
def bt (x i : Nat) : Nat := x / 2 ^ i % 2

theorem bt_lt (x i : Nat) : bt x i < 2 := Nat.mod_lt _ (by decide)

def z64 : Array Value := madeCells #[.int .i64 0] 64

theorem z64_at (i : Nat) (h : i < 64) : z64[i]? = some (.int .i64 0) := by
  have : i % 1 = 0 := by omega
  simp [z64, madeCells, h, this]

/-- The block of 64 digits that is laid behind w's. -/
structure Dg (f : Nat → Nat) (w w' : World) : Prop where
  gr : Gr w w'
  size : w'.heap.size = w.heap.size + 1
  cell : ∀ i, i < 64 → w'.cell? ⟨w.heap.size, i, none⟩ = some (.int .i64 (f i : Nat))

theorem Dg.froz {f : Nat → Nat} {w w' : World} (h : Dg f w w') (i : Nat) : w'.frozen? ⟨w.heap.size, i, none⟩ = false :=
  (h.gr.froz _).trans (frozen_past w (Nat.le_refl _))

theorem Dg.start (w : World) (t : TypeId) : Dg (fun _ => 0) w (w.alloc (.cells z64 t)) where
  gr := (Gr.refl w).alloc _ _
  size := by simp
  cell i h := by rw [World.cell?_alloc_new]; simpa using z64_at i h

theorem Dg.set {f : Nat → Nat} {w w' : World} (h : Dg f w w') (k v : Nat) (hk : k < 64) (g : Nat → Nat) (hg : ∀ i, i < 64 → g i = if i = k then v else f i) :
    Dg g w (w'.setCell ⟨w.heap.size, k, none⟩ (.int .i64 (v : Nat))) where
  gr := h.gr.setCell (Nat.le_refl _) _
  size := by simpa using h.size
  cell i hi := by
    by_cases e : i = k
    · subst e
      rw [World.cell?_setCell_same _ _ _ (h.cell i hi), hg i hi]; simp
    · rw [World.cell?_setCell_other, h.cell i hi, hg i hi]
      · simp [e]
      · intro h; injection h with h1 h2; exact e h2.symm

/-- The number of m digits, from the i-th on, the least one first. -/
def tp (f : Nat → Nat) : Nat → Nat → Nat
  | _, 0 => 0
  | i, m + 1 => f i + 2 * tp f (i + 1) m

theorem tp_lt (f : Nat → Nat) (hf : ∀ i, f i < 2) : ∀ m i, tp f i m < 2 ^ m
  | 0, _ => by simp [tp]
  | m + 1, i => by
    have := tp_lt f hf m (i + 1)
    have := hf i
    rw [tp, Nat.pow_succ]; omega

theorem tp_congr (f g : Nat → Nat) : ∀ m i, (∀ j, i ≤ j → j < i + m → f j = g j) → tp f i m = tp g i m
  | 0, _, _ => rfl
  | m + 1, i, h => by
    rw [tp, tp, h i (Nat.le_refl _) (by omega), tp_congr f g m (i + 1) (fun j h1 h2 => h j (by omega) (by omega))]

theorem tp_bt (x a : Nat) : ∀ m i, tp (fun j => bt x (a + j)) i m = x / 2 ^ (a + i) % 2 ^ m
  | 0, _ => by simp [tp, Nat.mod_one]
  | m + 1, i => by
    rw [tp, tp_bt x a m (i + 1), Nat.pow_succ, Nat.mul_comm (2 ^ m) 2, Nat.mod_mul, bt, ← Nat.add_assoc, Nat.pow_succ, Nat.div_div_eq_div_mul]

theorem tp_all (x : Nat) (hx : x < 18446744073709551616) : tp (bt x) 0 64 = x := by
  have h := tp_bt x 0 64 0
  simp only [Nat.zero_add, Nat.pow_zero, Nat.div_one] at h
  have e : bt x = fun j => bt x j := rfl
  rw [e, h]
  exact Nat.mod_eq_of_lt hx

theorem bt_test (x i : Nat) : bt x i = (x.testBit i).toNat := by
  rw [Nat.testBit_eq_decide_div_mod_eq, bt]
  have : x / 2 ^ i % 2 < 2 := Nat.mod_lt _ (by decide)
  by_cases h : x / 2 ^ i % 2 = 1
  · simp [h]
  · have : x / 2 ^ i % 2 = 0 := by omega
    simp [this]

theorem ret_bool {a b : Bool} (h : a = b) : Ending.returned (.bool a) = .returned (.bool b) := by rw [h]
theorem ret_int {k : IntKind} {a b : Int} (h : a = b) : Ending.returned (.int k a) = .returned (.int k b) := by rw [h]

theorem cast_shr (x k : Nat) : (x : Int) / 2 ^ k = ((x / 2 ^ k : Nat) : Int) := by simp

theorem bit_and (x k : Nat) (hx : x < 18446744073709551616) : bits .and .u64 ((x : Int) / 2 ^ k) 1 = ((x / 2 ^ k % 2 : Nat) : Int) := by
  rw [cast_shr]
  have h1 : x / 2 ^ k < 18446744073709551616 := Nat.lt_of_le_of_lt (Nat.div_le_self _ _) hx
  have h := u64_and_nat (x / 2 ^ k) 1 h1 (by decide)
  rw [nat_mask1] at h
  exact h

theorem bit_test (x k : Nat) (hx : x < 18446744073709551616) : (bits .and .u64 ((x : Int) / 2 ^ k) 1 == 1) = x.testBit k := by
  rw [bit_and x k hx, Nat.testBit_eq_decide_div_mod_eq]
  generalize x / 2 ^ k % 2 = m
  by_cases h : m = 1
  · simp [h]
  · have : ¬ ((m : Int) = 1) := by omega
    simp [h, this]

theorem pow_lt64 (k : Nat) (hk : k < 64) : 2 ^ k < 18446744073709551616 := by
  have : 2 ^ k < 2 ^ 64 := Nat.pow_lt_pow_of_lt (by decide) hk
  simpa using this

theorem wrap_pow (k : Nat) (hk : k < 64) : IntKind.u64.wrap (2 ^ k) = ((2 ^ k : Nat) : Int) := by
  have h := pow_lt64 k hk
  rw [IntKind.wrap_u64, show (2 : Int) ^ k = ((2 ^ k : Nat) : Int) by simp]
  generalize 2 ^ k = m at h
  omega

theorem xor_pow (x k : Nat) (hx : x < 18446744073709551616) (hk : k < 64) : bits .xor .u64 (x : Int) (IntKind.u64.wrap (2 ^ k)) = ((x ^^^ 2 ^ k : Nat) : Int) := by
  rw [wrap_pow k hk]
  exact u64_xor_nat _ _ hx (pow_lt64 k hk)

theorem flip_lt (x k : Nat) (hx : x < 18446744073709551616) (hk : k < 64) : x ^^^ 2 ^ k < 18446744073709551616 :=
  Nat.xor_lt_two_pow (n := 64) hx (pow_lt64 k hk)

theorem bt_flip (x k j : Nat) : bt (x ^^^ 2 ^ k) j = if j = k then 1 - bt x j else bt x j := by
  rw [bt_test, bt_test, Nat.testBit_xor, Nat.testBit_two_pow]
  by_cases h : j = k
  · subst h; cases x.testBit j <;> simp
  · simp [h, Ne.symm h]
end Go.Proofs.YtbmgjpdfmgcigabDoor
