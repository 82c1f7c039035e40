/- The keepers' fact on a store, kept: it is so. -/
import Derived.Test.YthgkmbimmelglabKp1
namespace Go.Proofs.Ythgkmbimmelglab
open Go.RowKit

/-- Behind two words saved, a line wanted and fenced. -/
def kst : St := (((St.zero.save 8 5).save 16 6).wish 1 1).fence 1
theorem kst_one : same kst.now (1 * 8) kst.good (1 * 8) 8 = true := by decide
theorem kst_two : same kst.now (2 * 8) kst.good (2 * 8) 8 = false := by decide
theorem kst_8 : (kst.crash 0).now 8 = 5 := by decide
theorem kst_16 : (kst.crash 0).now 16 = 0 := by decide

set_option maxHeartbeats 1000000 in
theorem kept_any (w : World) :
    Calls Try.prog 9 #[] w fun e w' => e = .returned (.bool true) ∧ Gr w w' := by
  have K : Hid _ := And.intro kst_one (And.intro kst_two (And.intro kst_8 kst_16))
  go_enter Try.func9, Try.ntmps9
  go_wp2_with fail
  refine (New_any _).mono ?_
  rintro e w1 ⟨rfl, h1, g1⟩
  generalize hb : w.heap.size = b at *
  have HB : Hid _ := hb
  clear hb
  go_wp2_with fail
  refine (Save_yes 8 b 5 _ _ (by decide) h1).mono ?_
  rintro e w2 ⟨rfl, h2, o2⟩
  go_wp2_with fail
  refine (Save_yes 16 b 6 _ _ (by decide) h2).mono ?_
  rintro e w3 ⟨rfl, h3, o3⟩
  go_wp2_with fail
  refine (Flush_yes 1 1 b _ _ (by decide) (by decide) h3).mono ?_
  rintro e w4 ⟨rfl, h4, o4⟩
  go_wp2_with fail
  refine (Fence_yes 1 b _ _ (by decide) h4).mono ?_
  rintro e w5 ⟨rfl, h5, o5⟩
  replace h5 : StAt w5 b kst := h5
  go_wp2_with fail
  refine (Dirty_yes 1 b _ _ (by decide) h5).mono ?_
  rintro e w6 ⟨rfl, q6, hw6⟩
  rw [K.out.1]
  have h6 : StAt w6 b kst := by rw [hw6]; exact h5.drewN q6
  have g6 : Hid (Gr w w6) := by
    have g := ((((g1.only (Nat.le_of_eq HB.out) o2).only (Nat.le_of_eq HB.out) o3).only (Nat.le_of_eq HB.out) o4).only (Nat.le_of_eq HB.out) o5)
    rw [hw6]; exact g.only (Nat.le_of_eq HB.out) ((Only.refl b w5).drewN q6)
  clear hw6
  go_wp2_with fail
  refine (Dirty_yes 2 b _ _ (by decide) h6).mono ?_
  rintro e w7 ⟨rfl, q7, hw7⟩
  rw [K.out.2.1]
  have h7 : StAt w7 b kst := by rw [hw7]; exact h6.drewN q7
  have g7 : Hid (Gr w w7) := by rw [hw7]; exact g6.out.only (Nat.le_of_eq HB.out) ((Only.refl b w6).drewN q7)
  clear hw7
  go_wp2_with fail
  refine (Crash_any 0 b _ _ (by decide) h7).mono ?_
  rintro e w8 ⟨rfl, h8, o8⟩
  go_wp2_with fail
  refine (Load_yes 8 b _ _ (by decide) h8).mono ?_
  rintro e w9 ⟨rfl, hw⟩
  rw [hw, K.out.2.2.1]
  clear hw
  go_wp2_with fail
  refine (Load_yes 16 b _ _ (by decide) h8).mono ?_
  rintro e w9 ⟨rfl, hw⟩
  rw [hw, K.out.2.2.2]
  clear hw
  go_wp2
  go_ret
  exact ⟨rfl, g7.out.only (Nat.le_of_eq HB.out) o8⟩
end Go.Proofs.Ythgkmbimmelglab
