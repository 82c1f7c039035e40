/- Package op's part, by its contract. -/
import Derived.Test.YtdohomdhgkhebabFmtRows
import Derived.Test.YtdohomdhgkhebabFmtEnv
import Derived.Test.YtdohomdhgkhebabFmtShelf
namespace Go.Proofs.YtdohomdhgkhebabFmt
open Go.RowKit

theorem itoa_any (n : Int) (h0 : 0 ≤ n) (h1 : n ≤ 4294967295) (w : World) (hP : Pw w) :
    Calls Tryf.prog 33 #[.int .i64 n] w fun e w' => e = .returned (.string ⟨(Lib.itoa n).toArray⟩) ∧ Below w.heap.size w w' :=
  (sh_strconv_Itoa n (by omega) (by omega) w hP).mono fun _ _ ⟨he, k, os, hw⟩ => ⟨he, hw ▸ below_grow w k os⟩

theorem ret_str {a b : ByteArray} (h : a = b) : Ending.returned (.string a) = .returned (.string b) := by rw [h]

theorem part_any (m : UInt8) (n : Int) (h0 : 0 ≤ n) (h1 : n ≤ 4294967295) (w : World) (hP : Pw w) :
    Calls Tryf.prog 20 #[.string ⟨#[m]⟩, .int .i64 n] w fun e w' => e = .returned (.string ⟨(prt m n).toArray⟩) ∧ Below w.heap.size w w' := by
  by_cases h : n = 0
  · subst h
    go_enter Tryf.func20, Tryf.ntmps20
    go_wp2
    go_ret
    exact ⟨rfl, Below.refl _ _⟩
  · have HP : Hid _ := hP
    clear hP
    have hp : prt m n = m :: Lib.itoa n := by rw [prt, if_neg h]
    have hl : ¬ 9223372036854775807 < 1 + (Lib.itoa n).length := by
      have := prt_len m n h0 h1
      rw [hp] at this
      simp at this; omega
    have HP2 : Hid _ := hp
    clear hp
    go_enter Tryf.func20, Tryf.ntmps20
    go_wp2_with fail
    refine (itoa_any n h0 h1 _ HP.out).mono ?_
    rintro e w1 ⟨rfl, hb⟩
    go_wp2
    go_ret
    exact ⟨ret_str (by rw [HP2.out]; exact str_app [m] _), hb⟩
end Go.Proofs.YtdohomdhgkhebabFmt
