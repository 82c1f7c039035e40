/- The reference's digits and number, by their contracts. -/
import Derived.Test.YtgbjgkalcoojdaaDoorBase
import Derived.Test.YtgbjgkalcoojdaaDoorRows
import Derived.WalkKit
namespace Go.Proofs.YtgbjgkalcoojdaaDoor
open Go.RowKit

theorem mk64 (w : World) : (Instr.makeSlice 42 (.int .i64 64) (.int .i64 64)).run Tryd.prog w = .ok (.slice (some ⟨w.heap.size, 0, none⟩) 64 64) (w.alloc (.cells z64 3)) :=
  run_make w 42 3 _ (.int .i64 0) Tryd.underlying42 rfl rfl .i64 .i64 64 64 (by decide) (by decide) (by decide) (by decide)

set_option maxHeartbeats 400000 in
theorem digits_any (x : Nat) (w : World) (hx : x < 18446744073709551616) :
    Calls Tryd.prog 21 #[.int .u64 x] w fun e w' => e = .returned (.slice (some ⟨w.heap.size, 0, none⟩) 64 64) ∧ Dg (bt x) w w' := by
  have hmk := mk64
  go_enter Tryd.func21, Tryd.ntmps21
  go_wp2
  clear hmk
  go_loopw [0, 8] (fun v i wr => ∃ k y : Nat, k ≤ 64 ∧ y < 18446744073709551616 ∧ Hid (y = x / 2 ^ k) ∧ v = .int .u64 y ∧ i = .int .i64 k ∧ Dg (fun j => if j < k then bt x j else 0) w wr)
    (fun _ i _ => 64 - (intOf i).toNat)
  case atStart => exact ⟨0, x, by omega, hx, (by simp [Hid]), rfl, rfl, by simpa using Dg.start w _⟩
  case round =>
    obtain ⟨k, y, hk, hy, HY, rfl, rfl, hd⟩ := hrel
    by_cases hlt : k < 64
    · have hc := hd.cell k hlt
      have hfz := hd.froz k
      simp only [Nat.lt_irrefl, if_false] at hc
      go_wp2
      go_roundw
      case rel =>
        have e1 : (y : Int) % 2 = ((bt x k : Nat) : Int) := by simp [bt, HY.out]
        refine ⟨k + 1, y / 2, by omega, by omega, ?_, by go_num, by go_num, ?_⟩
        · show y / 2 = _
          rw [HY.out, Nat.pow_succ, Nat.div_div_eq_div_mul]
        · rw [e1]; exact hd.set k (bt x k) hlt _ (fun i _ => by
            by_cases h1 : i = k
            · subst h1; simp
            · by_cases h2 : i < k
              · simp [h1, h2, Nat.lt_succ_of_lt h2]
              · simp [h1, h2, show ¬ i < k + 1 by omega])
      case measure => simp [intOf]; omega
    · go_wp2
      go_ret
      have : k = 64 := by omega
      subst this
      refine ⟨rfl, hd.gr, hd.size, fun i hi => ?_⟩
      have := hd.cell i hi
      simpa [hi] using this

set_option maxHeartbeats 400000 in
theorem number_any (b off n cap : Nat) (f : Nat → Nat) (w : World) (hn : n ≤ 64) (hf : ∀ i, f i < 2)
    (hc : ∀ i, i < n → w.cell? ⟨b, off + i, none⟩ = some (.int .i64 (f i : Nat))) :
    Calls Tryd.prog 20 #[.slice (some ⟨b, off, none⟩) n cap] w fun e w' => e = .returned (.int .u64 (tp f 0 n : Nat)) ∧ w' = w := by
  go_enter Tryd.func20, Tryd.ntmps20
  go_wp2
  go_loop [3, 4] (fun v i => ∃ (j : Int) (y : Nat), -1 ≤ j ∧ j < n ∧ Hid (y = tp f (j + 1).toNat (n - (j + 1).toNat)) ∧ v = .int .u64 y ∧ i = .int .i64 j)
    (fun _ i => (intOf i + 1).toNat)
  case atStart => exact ⟨(n : Int) - 1, 0, by omega, by omega, (by simp [Hid, tp]), rfl, rfl⟩
  case round =>
    obtain ⟨j, y, h1, h2, HY, rfl, rfl⟩ := hrel
    by_cases h0 : 0 ≤ j
    · obtain ⟨k, rfl⟩ := Int.eq_ofNat_of_zero_le h0
      have hk : k < n := by omega
      have hcell := hc k hk
      have hfk := hf k
      have hy : y < 9223372036854775808 := by
        have := tp_lt f hf (n - ((k : Int) + 1).toNat) ((k : Int) + 1).toNat
        rw [← HY.out] at this
        have : 2 ^ (n - ((k : Int) + 1).toNat) ≤ 2 ^ 63 := Nat.pow_le_pow_right (by decide) (by omega)
        omega
      clear hc
      go_wp2
      go_round
      case rel =>
        refine ⟨(k : Int) - 1, f k + 2 * y, by omega, by omega, ?_, by go_num, by go_num⟩
        show _ = _
        rw [HY.out, show ((k : Int) - 1 + 1).toNat = k by omega, show n - k = (n - ((k : Int) + 1).toNat) + 1 by omega, tp, show ((k : Int) + 1).toNat = k + 1 by omega]
      case measure => simp [intOf]
    · have e : j = -1 := by omega
      subst e
      go_wp2
      go_ret
      refine ⟨?_, rfl⟩
      rw [HY.out]; simp
end Go.Proofs.YtgbjgkalcoojdaaDoor
