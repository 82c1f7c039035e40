/- The reference's Count and First, by their contracts. -/
import Derived.Test.YtgbjgkalcoojdaaDoorRef
import Derived.Test.YtgbjgkalcoojdaaDoorWord3
namespace Go.Proofs.YtgbjgkalcoojdaaDoor
open Go.RowKit

/-- How many of the first k bits are 1, counted upwards. -/
theorem pc_snoc (x k : Nat) : pc x (k + 1) = pc x k + bt x k := by
  rw [pc_add, pc, pc, Nat.add_zero, bt]

set_option maxHeartbeats 400000 in
theorem refCount_any (x : Nat) (w : World) (hx : x < 18446744073709551616) :
    Calls Tryd.prog 14 #[.int .u64 x] w fun e w' => e = .returned (.int .i64 (pc x 64 : Nat)) ∧ Gr w w' := by
  go_enter Tryd.func14, Tryd.ntmps14
  go_wp2_with fail
  refine (digits_any x _ hx).mono ?_
  rintro e w1 ⟨rfl, hd⟩
  go_wp2
  go_loop [3, 9] (fun v i => ∃ k y : Nat, k ≤ 64 ∧ y ≤ 64 ∧ Hid (y = pc x k) ∧ v = .int .i64 y ∧ i = .int .i64 k) (fun _ i => 64 - (intOf i).toNat)
  case atStart => exact ⟨0, 0, by omega, by omega, (by simp [Hid, pc]), rfl, rfl⟩
  case round =>
    obtain ⟨k, y, hk, hy, HY, rfl, rfl⟩ := hrel
    by_cases hlt : k < 64
    · have hc := hd.cell k hlt
      have hb := bt_lt x k
      go_wp2
      go_round
      case rel =>
        have h1 := pc_snoc x k
        have h2 := pc_le (k + 1) x
        rw [← HY.out] at h1
        exact ⟨k + 1, y + bt x k, by omega, by omega, h1.symm, by go_num, by go_num⟩
      case measure => simp [intOf]; omega
    · go_wp2
      go_ret
      have : k = 64 := by omega
      subst this
      exact ⟨ret_int (by rw [HY.out]), hd.gr⟩

set_option maxHeartbeats 400000 in
theorem refFirst_yes (x c : Nat) (w : World) (hx : x < 18446744073709551616) (hf : IsFirst x c) :
    Calls Tryd.prog 16 #[.int .u64 x] w fun e w' => e = .returned (.int .i64 (c : Nat)) ∧ Gr w w' := by
  obtain ⟨f1, f2, f3⟩ := hf
  go_enter Tryd.func16, Tryd.ntmps16
  go_wp2_with fail
  refine (digits_any x _ hx).mono ?_
  rintro e w1 ⟨rfl, hd⟩
  go_wp2
  go_loop [8] (fun i => ∃ k : Nat, k ≤ c ∧ i = .int .i64 k) (fun i => 64 - (intOf i).toNat)
  case atStart => exact ⟨0, by omega, rfl⟩
  case round =>
    obtain ⟨k, hk, rfl⟩ := hrel
    have hlt : k < 64 := by omega
    have hc := hd.cell k hlt
    by_cases he : k = c
    · subst he
      rw [f2] at hc
      clear f2 f3
      go_wp2
      go_ret
      exact ⟨rfl, hd.gr⟩
    · have h0 := f3 k (by omega)
      rw [h0] at hc
      clear f2 f3 h0
      go_wp2
      go_round
      case rel => exact ⟨k + 1, by omega, by go_num⟩
      case measure => simp [intOf]; omega

theorem bt_zero (i : Nat) : bt 0 i = 0 := by simp [bt]

set_option maxHeartbeats 400000 in
theorem refFirst_zero (w : World) :
    Calls Tryd.prog 16 #[.int .u64 0] w fun e w' => e = .returned (.int .i64 (-1)) ∧ Gr w w' := by
  go_enter Tryd.func16, Tryd.ntmps16
  go_wp2_with fail
  refine (digits_any 0 _ (by decide)).mono ?_
  rintro e w1 ⟨rfl, hd⟩
  go_wp2
  go_loop [8] (fun i => ∃ k : Nat, k ≤ 64 ∧ i = .int .i64 k) (fun i => 64 - (intOf i).toNat)
  case atStart => exact ⟨0, by omega, rfl⟩
  case round =>
    obtain ⟨k, hk, rfl⟩ := hrel
    by_cases hlt : k < 64
    · have hc := hd.cell k hlt
      rw [bt_zero] at hc
      go_wp2
      go_round
      case rel => exact ⟨k + 1, by omega, by go_num⟩
      case measure => simp [intOf]; omega
    · go_wp2
      go_ret
      exact ⟨rfl, hd.gr⟩
end Go.Proofs.YtgbjgkalcoojdaaDoor
