/- The reference's Bit and Flip, by their contracts. -/
import Derived.Test.YtgbjgkalcoojdaaRef
import Derived.WalkKit
namespace Go.Proofs.Ytgbjgkalcoojdaa
open Go.RowKit

theorem within_yes (a : Int) (w : World) (h0 : 0 ≤ a) (h1 : a ≤ 63) :
    Calls Try.prog 9 #[.int .i64 a, .int .i64 0, .int .i64 63] w fun e w' => e = .returned (.bool true) ∧ w' = w := by
  go_enter Try.func9, Try.ntmps9
  go_wp2
  go_ret
  exact ⟨rfl, rfl⟩

theorem within_no (a : Int) (w : World) (h : a < 0 ∨ 63 < a) :
    Calls Try.prog 9 #[.int .i64 a, .int .i64 0, .int .i64 63] w fun e w' => e = .returned (.bool false) ∧ w' = w := by
  by_cases h1 : a < 0
  · have : ¬ 0 ≤ a := by omega
    clear h
    go_enter Try.func9, Try.ntmps9
    go_wp2
    go_ret
    exact ⟨rfl, rfl⟩
  · have h2 : 0 ≤ a := by omega
    have : ¬ a ≤ 63 := by omega
    clear h h1
    go_enter Try.func9, Try.ntmps9
    go_wp2
    go_ret
    exact ⟨rfl, rfl⟩

theorem refBit_no (x : Nat) (a : Int) (w : World) (h : a < 0 ∨ 63 < a) :
    Calls Try.prog 5 #[.int .u64 x, .int .i64 a] w fun e w' => e = .returned (.bool false) ∧ Gr w w' := by
  go_enter Try.func5, Try.ntmps5
  go_wp2_with (go_at_call 9; refine (within_no _ _ h).mono ?_; rintro e w' ⟨rfl, rfl⟩)
  go_ret
  exact ⟨rfl, Gr.refl _⟩

theorem refBit_yes (x k : Nat) (w : World) (hx : x < 18446744073709551616) (hk : k < 64) :
    Calls Try.prog 5 #[.int .u64 x, .int .i64 k] w fun e w' => e = .returned (.bool (x.testBit k)) ∧ Gr w w' := by
  go_enter Try.func5, Try.ntmps5
  go_wp2_with fail
  refine (within_yes _ _ (by omega) (by omega)).mono ?_
  rintro e w' ⟨rfl, rfl⟩
  go_wp2_with fail
  refine (digits_any x _ hx).mono ?_
  rintro e w1 ⟨rfl, hd⟩
  have hc := hd.cell k hk
  go_wp2
  go_ret
  refine ⟨ret_bool ?_, hd.gr⟩
  rw [bt_test]
  cases x.testBit k <;> rfl

theorem refFlip_no (x : Nat) (a : Int) (w : World) (hx : x < 18446744073709551616) (h : a < 0 ∨ 63 < a) :
    Calls Try.prog 7 #[.int .u64 x, .int .i64 a] w fun e w' => e = .returned (.int .u64 x) ∧ Gr w w' := by
  go_enter Try.func7, Try.ntmps7
  go_wp2_with fail
  refine (digits_any x _ hx).mono ?_
  rintro e w1 ⟨rfl, hd⟩
  go_wp2_with fail
  refine (within_no _ _ h).mono ?_
  rintro e w' ⟨rfl, rfl⟩
  go_wp2_with fail
  refine (number_any _ 0 64 64 (bt x) _ (Nat.le_refl _) (bt_lt x) (fun i hi => by simpa using hd.cell i hi)).mono ?_
  rintro e w' ⟨rfl, rfl⟩
  go_wp2
  go_ret
  exact ⟨ret_int (by rw [tp_all x hx]), hd.gr⟩

theorem refFlip_yes (x k : Nat) (w : World) (hx : x < 18446744073709551616) (hk : k < 64) :
    Calls Try.prog 7 #[.int .u64 x, .int .i64 k] w fun e w' => e = .returned (.int .u64 (x ^^^ 2 ^ k : Nat)) ∧ Gr w w' := by
  go_enter Try.func7, Try.ntmps7
  go_wp2_with fail
  refine (digits_any x _ hx).mono ?_
  rintro e w1 ⟨rfl, hd⟩
  go_wp2_with fail
  refine (within_yes _ _ (by omega) (by omega)).mono ?_
  rintro e w' ⟨rfl, rfl⟩
  have hc := hd.cell k hk
  have hf := hd.froz k
  have hb := bt_lt x k
  go_wp2_with fail
  have e1 : (1 : Int) - (bt x k : Nat) = ((1 - bt x k : Nat) : Int) := by omega
  rw [e1]
  have hd2 := hd.set k (1 - bt x k) hk (bt (x ^^^ 2 ^ k)) (fun i _ => by rw [bt_flip]; by_cases h : i = k <;> simp [h])
  refine (number_any _ 0 64 64 (bt (x ^^^ 2 ^ k)) _ (Nat.le_refl _) (bt_lt _) (fun i hi => by simpa using hd2.cell i hi)).mono ?_
  rintro e w2 ⟨rfl, rfl⟩
  go_wp2
  go_ret
  exact ⟨ret_int (by rw [tp_all _ (flip_lt x k hx hk)]), hd2.gr⟩
end Go.Proofs.Ytgbjgkalcoojdaa
