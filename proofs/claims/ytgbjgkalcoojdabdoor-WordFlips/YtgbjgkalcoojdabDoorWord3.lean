/- Package word: Count and First, with the library's functions beneath them, by their contracts. -/
import Derived.Test.YtgbjgkalcoojdabDoorWord2
import Derived.Test.YtgbjgkalcoojdabDoorPop
import Derived.Lib.TrailingZeros
import Derived.Lib.RabinKarpLaws
namespace Go.Proofs.YtgbjgkalcoojdabDoor
open Go.RowKit

theorem and_sum (x m y : Nat) (d : Int) (D : Nat) (hD : d = (D : Int)) (hx : x < 18446744073709551616) (hm : m < 18446744073709551616) (hy : y < 18446744073709551616) (h : ((x / D) &&& m) + (x &&& m) = y) :
    IntKind.u64.wrap (bits .and .u64 ((x : Int) / d) (m : Int) + bits .and .u64 (x : Int) (m : Int)) = (y : Int) := by
  subst hD
  rw [show (x : Int) / (D : Int) = ((x / D : Nat) : Int) by simp, u64_and_nat _ _ (Nat.lt_of_le_of_lt (Nat.div_le_self _ _) hx) hm, u64_and_nat _ _ hx hm, ← h, IntKind.wrap_u64]
  omega

theorem and127 (y t : Nat) (hy : y < 4611686018427387904) (h : y % 128 = t) : bits .and .i64 (y : Int) 127 = (t : Int) := by
  have h1 := bits_mask .i64 63 (by decide) (fun n h0 h1 => by rw [IntKind.wrap_i64]; omega) 7 (by decide) (y : Int) (by omega) (by omega)
  have e : (2 : Int) ^ 7 - 1 = 127 := by decide
  rw [e] at h1
  rw [h1]
  omega

theorem small_sum (y : Nat) (h : y ≤ 578721382704613384) : y + y / 256 + (y + y / 256) / 65536 + (y + y / 256 + (y + y / 256) / 65536) / 4294967296 < 4611686018427387904 := by omega

set_option maxHeartbeats 400000 in
theorem OnesCount64_any (x : Nat) (w : World) (hx : x < 18446744073709551616) :
    Calls Tryd.prog 16 #[.int .u64 x] w fun e w' => e = .returned (.int .i64 (pc x 64 : Nat)) ∧ w' = w := by
  obtain ⟨y1, y2, y3, b1, b2, k1, k2, k3, b3, k4⟩ := pop_steps x hx
  have q1 : IntKind.u64.wrap (bits .and .u64 ((x : Int) / 2) 6148914691236517205 + bits .and .u64 (x : Int) 6148914691236517205) = (y1 : Int) :=
    and_sum x 6148914691236517205 y1 2 2 rfl hx (by decide) b1 k1
  have q2 : IntKind.u64.wrap (bits .and .u64 ((y1 : Int) / 4) 3689348814741910323 + bits .and .u64 (y1 : Int) 3689348814741910323) = (y2 : Int) :=
    and_sum y1 3689348814741910323 y2 4 4 rfl b1 (by decide) (by omega) k2
  have q3 : bits .and .u64 ((y2 : Int) / 16 + (y2 : Int)) 1085102592571150095 = (y3 : Int) := by
    have h := u64_and_nat (y2 / 16 + y2) 1085102592571150095 (by omega) (by decide)
    rw [k3] at h
    exact h
  have K4 : Hid _ := k4
  clear k1 k2 k3 k4
  go_enter Tryd.func16, Tryd.ntmps16
  go_wp2
  go_ret
  exact ⟨ret_int (and127 _ _ (small_sum y3 b3) K4.out), rfl⟩

theorem Count_any (x : Nat) (w : World) (hx : x < 18446744073709551616) :
    Calls Tryd.prog 11 #[.int .u64 x] w fun e w' => e = .returned (.int .i64 (pc x 64 : Nat)) ∧ w' = w := by
  go_enter Tryd.func11, Tryd.ntmps11
  go_wp2_with fail
  refine (OnesCount64_any x _ hx).mono ?_
  rintro e w' ⟨rfl, rfl⟩
  go_wp2
  go_ret
  exact ⟨rfl, rfl⟩

/-- c is the least bit of x that is 1. -/
def IsFirst (x c : Nat) : Prop := c < 64 ∧ bt x c = 1 ∧ ∀ i, i < c → bt x i = 0

theorem isFirst_ctz (x : Nat) (h0 : x ≠ 0) (hx : x < 18446744073709551616) : IsFirst x (Lib.ctz 64 x) := by
  have e : Lib.ctz 64 x = Lib.ctzFrom 64 x := by simp [Lib.ctz, h0]
  rw [e]
  obtain ⟨m, hm, hk⟩ := Lib.ctzFrom_spec 64 x (by omega) hx
  generalize Lib.ctzFrom 64 x = c at hm hk
  subst hm
  refine ⟨hk, ?_, fun i hi => ?_⟩
  · rw [bt, Nat.mul_div_cancel_left _ (Nat.two_pow_pos c)]; omega
  · obtain ⟨d, rfl⟩ : ∃ d, c = i + (d + 1) := ⟨c - i - 1, by omega⟩
    rw [bt, Nat.pow_add, Nat.mul_assoc, Nat.mul_div_cancel_left _ (Nat.two_pow_pos i), Nat.pow_succ, Nat.mul_comm (2 ^ d) 2, Nat.mul_assoc]
    omega

theorem isFirst_one {x a b : Nat} (h : IsFirst x a) (k : IsFirst x b) : a = b := by
  rcases Nat.lt_trichotomy a b with hl | hl | hl
  · have := k.2.2 a hl; have := h.2.1; omega
  · exact hl
  · have := h.2.2 b hl; have := k.2.1; omega

/-- The library's table in its variable. -/
def TabAt (w : World) : Prop := ∀ j, j < 64 → w.cell? ⟨0, j, none⟩ = some (.int .u8 (Lib.deBruijn64tab.getD j 0 : Nat))

theorem size_of_cell {w : World} {b o : Nat} {v : Value} (h : w.cell? ⟨b, o, none⟩ = some v) : b < w.heap.size := by
  by_cases hb : b < w.heap.size
  · exact hb
  · have e : w.heap[b]? = none := by simp; omega
    simp [World.cell?, e] at h

theorem TabAt.later {w w' : World} (h : TabAt w) (g : Gr w w') : TabAt w' := fun j hj => (g.cell (size_of_cell (h j hj))).trans (h j hj)

theorem tz_core (x k idx : Nat) (w : World) (hx0 : ((x : Int) == 0) = false)
    (key : IntKind.u64.wrap (bits BinOp.and IntKind.u64 (x : Int) (IntKind.u64.wrap (-(x : Int))) * 285870213051353865) / 288230376151711744 = (idx : Int))
    (hi : idx < 64) (hk : k < 64) (hcell : w.cell? ⟨0, idx, none⟩ = some (.int .u8 k)) :
    Calls Tryd.prog 18 #[.int .u64 x] w fun e w' => e = .returned (.int .i64 k) ∧ w' = w := by
  go_enter Tryd.func18, Tryd.ntmps18
  go_wp2_with (simp only [key])
  go_ret
  exact ⟨rfl, rfl⟩

theorem tz_key (x a : Nat) (hx : x < 18446744073709551616) (hx0 : x ≠ 0) (hlow : x &&& (18446744073709551616 - x) = a) :
    IntKind.u64.wrap (bits BinOp.and IntKind.u64 (x : Int) (IntKind.u64.wrap (-(x : Int))) * 285870213051353865) / 288230376151711744 = ((a * 285870213051353865 % 18446744073709551616 / 288230376151711744 : Nat) : Int) := by
  have e1 : IntKind.u64.wrap (-(x : Int)) = ((18446744073709551616 - x : Nat) : Int) := by rw [IntKind.wrap_u64]; omega
  rw [e1, u64_and_nat x _ hx (by omega), hlow, IntKind.wrap_u64]
  omega

theorem TrailingZeros64_yes (x : Nat) (w : World) (hx : x < 18446744073709551616) (hx0 : x ≠ 0) (hT : TabAt w) :
    Calls Tryd.prog 18 #[.int .u64 x] w fun e w' => e = .returned (.int .i64 (Lib.ctz 64 x : Nat)) ∧ w' = w := by
  obtain ⟨hlow, hk⟩ := Lib.lowest_bit 64 x hx0 hx
  obtain ⟨hi, htab⟩ := Lib.deBruijn64_at _ hk
  have hc := hT _ hi
  rw [htab] at hc
  have hz : ((x : Int) == 0) = false := beq_eq_false_iff_ne.2 (by omega)
  exact tz_core x _ _ w hz (tz_key x _ hx hx0 hlow) hi hk hc

theorem First_zero (w : World) :
    Calls Tryd.prog 13 #[.int .u64 0] w fun e w' => e = .returned (.int .i64 (-1)) ∧ w' = w := by
  go_enter Tryd.func13, Tryd.ntmps13
  go_wp2
  go_ret
  exact ⟨rfl, rfl⟩

theorem First_yes (x c : Nat) (w : World) (hx : x < 18446744073709551616) (hx0 : x ≠ 0) (hc : IsFirst x c) (hT : TabAt w) :
    Calls Tryd.prog 13 #[.int .u64 x] w fun e w' => e = .returned (.int .i64 (c : Nat)) ∧ w' = w := by
  have hz : ((x : Int) == 0) = false := beq_eq_false_iff_ne.2 (by omega)
  have HC : Hid (Lib.ctz 64 x = c) := isFirst_one (isFirst_ctz x hx0 hx) hc
  clear hc
  go_enter Tryd.func13, Tryd.ntmps13
  go_wp2_with fail
  refine (TrailingZeros64_yes x _ hx hx0 hT).mono ?_
  rintro e w' ⟨rfl, rfl⟩
  go_wp2
  go_ret
  exact ⟨ret_int (by rw [HC.out]), rfl⟩
end Go.Proofs.YtgbjgkalcoojdabDoor
