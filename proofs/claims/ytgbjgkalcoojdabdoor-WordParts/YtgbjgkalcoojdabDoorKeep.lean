/- The keepers' pick and worded, by their contracts. -/
import Derived.Test.YtgbjgkalcoojdabDoorWord3
namespace Go.Proofs.YtgbjgkalcoojdabDoor
open Go.RowKit

theorem pick_num (a : Int) (n : Nat) (h0 : 0 < n) (h : n < 4611686018427387904) : ∃ r : Nat, r < n ∧ wrap64 ((IntKind.u64.wrap a).tmod (n : Int)) = (r : Int) := by
  have hw : 0 ≤ IntKind.u64.wrap a := wrap_u64_nonneg a
  rw [Int.tmod_eq_emod_of_nonneg hw]
  have h1 : 0 ≤ IntKind.u64.wrap a % (n : Int) := Int.emod_nonneg _ (by omega)
  have h2 : IntKind.u64.wrap a % (n : Int) < n := Int.emod_lt_of_pos _ (by omega)
  refine ⟨(IntKind.u64.wrap a % (n : Int)).toNat, by omega, ?_⟩
  rw [IntWalk.wrap64_in _ (by omega)]
  omega

theorem pick_any (a : Int) (n : Nat) (w : World) (h0 : 0 < n) (h : n < 4611686018427387904) :
    Calls Tryd.prog 8 #[.int .i64 a, .int .i64 n] w fun e w' => (∃ r : Nat, r < n ∧ e = .returned (.int .i64 (r : Nat))) ∧ w' = w := by
  obtain ⟨r, hr, he⟩ := pick_num a n h0 h
  have HE : Hid _ := he
  clear he
  go_enter Tryd.func8, Tryd.ntmps8
  go_wp2
  go_ret
  exact ⟨⟨r, hr, ret_int HE.out⟩, rfl⟩

theorem get_c (w : World) : Calls Tryd.prog 12 #[.int .u64 43981, .int .i64 4, .int .i64 8] w fun e w' => e = .returned (.tuple #[.int .u64 188, .nilIface]) ∧ ∃ q, w' = w.drewN q :=
  Get_yes 43981 4 8 w (by decide) (by decide) (by decide)
theorem set_c (w : World) : Calls Tryd.prog 14 #[.int .u64 61680, .int .i64 4, .int .i64 8, .int .u64 18] w fun e w' => e = .returned (.tuple #[.int .u64 61728, .nilIface]) ∧ ∃ q, w' = w.drewN q := by
  have h := Set_yes 61680 4 8 18 w (by decide) (by decide) (by decide) (by decide)
  rw [show setN 61680 4 8 18 = 61728 by decide] at h
  exact h
theorem bit_c (w : World) : Calls Tryd.prog 10 #[.int .u64 4, .int .i64 2] w fun e w' => e = .returned (.bool true) ∧ w' = w :=
  Bit_yes 4 2 w (by decide) (by decide)
theorem flip_c (w : World) : Calls Tryd.prog 9 #[.int .u64 4, .int .i64 2] w fun e w' => e = .returned (.int .u64 0) ∧ w' = w :=
  Flip_yes 4 2 w (by decide) (by decide)
theorem count_c (w : World) : Calls Tryd.prog 11 #[.int .u64 7] w fun e w' => e = .returned (.int .i64 3) ∧ w' = w := by
  have h := Count_any 7 w (by decide)
  rw [show pc 7 64 = 3 by decide] at h
  exact h
theorem first_c (w : World) (hT : TabAt w) : Calls Tryd.prog 13 #[.int .u64 8] w fun e w' => e = .returned (.int .i64 3) ∧ w' = w :=
  First_yes 8 3 w (by decide) (by decide) ⟨by decide, by decide, by decide⟩ hT

theorem Gr.drewN {a b : World} (h : Gr a b) (q : Nat) : Gr a (b.drewN q) := ⟨⟨h.below.os, h.below.tape, h.below.output, h.below.size, h.below.block⟩, h.froz⟩
theorem TabAt.drewN {w : World} (h : TabAt w) (q : Nat) : TabAt (w.drewN q) := h.later ((Gr.refl w).drewN q)

theorem worded_any (w : World) (hT : TabAt w) :
    Calls Tryd.prog 7 #[] w fun e w' => e = .returned (.bool true) ∧ ∃ q, w' = w.drewN q := by
  go_enter Tryd.func7, Tryd.ntmps7
  go_wp2_with fail
  refine (get_c _).mono ?_
  rintro e w' ⟨rfl, q1, rfl⟩
  go_wp2_with fail
  refine (set_c _).mono ?_
  rintro e w' ⟨rfl, q2, rfl⟩
  go_wp2_with fail
  refine (bit_c _).mono ?_
  rintro e w' ⟨rfl, rfl⟩
  go_wp2_with fail
  refine (flip_c _).mono ?_
  rintro e w' ⟨rfl, rfl⟩
  go_wp2_with fail
  refine (count_c _).mono ?_
  rintro e w' ⟨rfl, rfl⟩
  go_wp2_with fail
  refine (first_c _ (hT.drewN _)).mono ?_
  rintro e w' ⟨rfl, rfl⟩
  go_wp2
  go_ret
  exact ⟨rfl, _, rfl⟩
end Go.Proofs.YtgbjgkalcoojdabDoor
