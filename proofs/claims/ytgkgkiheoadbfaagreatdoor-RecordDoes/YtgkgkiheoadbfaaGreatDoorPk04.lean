/- Texts laid together: Package op's Fits, Answer and Told, by their contracts; The reference's Fits, AnswerWord and AnswerOf, by their contracts; The reference's digits and number, by their contracts; The reference's Bit and Flip, by their contracts; The reference's Flip, by their contract; The reference's Thing.Cells, by its contract: a tally; Cells from the first on; words of others; The reference Words, by its contract; What slots take in memory: the text that has it here; The reference's row, within, said, TableLen, by their contracts; Rows of this program's types: the reference's tables; Rows of this program's types; The reference's same, by its contract: seventeen words held against words of a longer row; The reference's Thing.Cells, by its contract: a table; What an answer takes in memory: the text that h. -/
import Derived.Test.YtgkgkiheoadbfaaGreatDoorPk00
import Derived.Test.YtgkgkiheoadbfaaGreatDoorPk03
import Derived.Test.YtgkgkiheoadbfaaGreatDoorRows
import Derived.WalkKit
import Derived.Laws.MakeOwn
import Derived.Deep.LoopGhost
import Derived.BigRegion
import Derived.Deep.DeepCutAuto
import Derived.Deep.RegionHeld3
import Derived.Test.YtgkgkiheoadbfaaGreatDoorPk01
import Derived.Deep.RegionWith
import Derived.Test.YtgkgkiheoadbfaaGreatDoorPk02
import Derived.Deep.RegionHeld
namespace Go.Proofs.YtgkgkiheoadbfaaGreatDoor.Tab
set_option maxRecDepth 20000
open Go.RowKit
set_option linter.unusedVariables false

theorem ret_pair' {k : IntKind} {a b : Int} {v : Value} (h : a = b) : Ending.returned (.tuple #[.int k a, v]) = .returned (.tuple #[.int k b, v]) := by rw [h]
theorem and_mask (y m : Nat) (hy : y < 18446744073709551616) (hm : m ≤ 32) : bits .and .u64 (y : Int) ((2 ^ m - 1 : Nat) : Int) = ((y % 2 ^ m : Nat) : Int) := by
  have : 2 ^ m - 1 < 18446744073709551616 := by
    have : 2 ^ m ≤ 2 ^ 32 := Nat.pow_le_pow_right (by decide) hm
    omega
  rw [u64_and_nat _ _ hy this, Nat.and_two_pow_sub_one_eq_mod]
theorem of_val (x : Nat) (hx : x < 18446744073709551616) : wrap64 (bits .and .u64 (x : Int) 4294967295) = ((x % 4294967296 : Nat) : Int) := by
  have := and_mask x 32 hx (by decide)
  rw [show (4294967295 : Int) = ((2 ^ 32 - 1 : Nat) : Int) from rfl, this, IntWalk.wrap64_in _ (by omega)]
theorem opFits_is {c v : Int} (h : Ft c v) (w : World) :
    Calls Tryz.prog 38 #[.agg #[.int .i64 c, .int .i64 v]] w fun e w' => e = .returned (.bool true) ∧ w' = w.alloc (.cells #[.int .i64 c, .int .i64 v] 35) := by
  obtain ⟨h1, h2, h3, h4, h5⟩ := h
  by_cases hc : c = 1
  · subst hc
    clear h5
    go_enter Tryz.func38, Tryz.ntmps38
    go_wp2_with (go_at_call 56; refine (within_yes _ _ _ _ (by omega) (by omega)).mono ?_; rintro e w' ⟨rfl, rfl⟩)
    go_ret
    exact ⟨rfl, rfl⟩
  · obtain rfl : v = 0 := by omega
    clear h5
    go_enter Tryz.func38, Tryz.ntmps38
    go_wp2_with (go_at_call 56; refine (within_yes _ _ _ _ (by omega) (by omega)).mono ?_; rintro e w' ⟨rfl, rfl⟩)
    go_ret
    exact ⟨rfl, rfl⟩



theorem opFits_isnt {c v : Int} (h : ¬ Ft c v) (w : World) :
    Calls Tryz.prog 38 #[.agg #[.int .i64 c, .int .i64 v]] w fun e w' => e = .returned (.bool false) ∧ w' = w.alloc (.cells #[.int .i64 c, .int .i64 v] 35) := by
  rcases not_ft' h with ⟨rfl, hv⟩ | ⟨hc, h1⟩ | ⟨hc, ⟨h1, h2⟩, hv⟩
  · clear h
    go_enter Tryz.func38, Tryz.ntmps38
    go_wp2_with (go_at_call 56; refine (within_no _ _ _ _ hv).mono ?_; rintro e w' ⟨rfl, rfl⟩)
    go_ret
    exact ⟨rfl, rfl⟩
  · clear h
    go_enter Tryz.func38, Tryz.ntmps38
    go_wp2_with (go_at_call 56; refine (within_no _ _ _ _ h1).mono ?_; rintro e w' ⟨rfl, rfl⟩)
    go_ret
    exact ⟨rfl, rfl⟩
  · clear h
    have hv' : (v == 0) = false := beq_eq_false_iff_ne.2 hv
    go_enter Tryz.func38, Tryz.ntmps38
    go_wp2_with (go_at_call 56; refine (within_yes _ _ _ _ (by omega) (by omega)).mono ?_; rintro e w' ⟨rfl, rfl⟩)
    go_ret
    exact ⟨rfl, rfl⟩

theorem opFits_yes {c v : Int} (h : Ft c v) (w : World) :
    Calls Tryz.prog 38 #[.agg #[.int .i64 c, .int .i64 v]] w fun e w' => e = .returned (.bool true) ∧ Gr w w' :=
  (opFits_is h w).mono fun _ _ ⟨he, hw⟩ => ⟨he, hw ▸ (Gr.refl w).alloc _ _⟩
theorem opFits_no {c v : Int} (h : ¬ Ft c v) (w : World) :
    Calls Tryz.prog 38 #[.agg #[.int .i64 c, .int .i64 v]] w fun e w' => e = .returned (.bool false) ∧ Gr w w' :=
  (opFits_isnt h w).mono fun _ _ ⟨he, hw⟩ => ⟨he, hw ▸ (Gr.refl w).alloc _ _⟩



theorem ans_or (c v : Nat) (h2 : (c : Int) ≤ 5) (h6 : (v : Int) ≤ 4294967295) : bits .or .u64 ((c : Int) * 4294967296) (v : Int) = ((ansN c v : Nat) : Int) := by
  have e1 : (c : Int) * 4294967296 = ((c * 4294967296 : Nat) : Int) := by omega
  have a2 := Nat.two_pow_add_eq_or_of_lt (i := 32) (b := v) (by omega) c
  have b2 : c * 4294967296 ||| v = ansN c v := by
    rw [Nat.mul_comm c 4294967296]
    refine a2.symm.trans ?_
    unfold ansN; omega
  rw [e1, u64_or_nat _ _ (by omega) (by omega), b2]

theorem told_code (x : Nat) (hx : x < 18446744073709551616) : wrap64 ((x : Int) / 4294967296) = ((x / 4294967296 : Nat) : Int) := by
  rw [IntWalk.wrap64_in _ (by omega)]; omega

theorem Answer_no {c v : Int} (h : ¬ Ft c v) (w : World) :
    Calls Tryz.prog 20 #[.agg #[.int .i64 c, .int .i64 v]] w fun e w' => e = .returned (.tuple #[.int .u64 0, .iface 49 (.int .i64 1)]) ∧ Gr w w' := by
  go_enter Tryz.func20, Tryz.ntmps20
  go_wp2_with (go_at_call 38; refine (opFits_isnt h _).mono ?_; rintro e w' ⟨rfl, rfl⟩)
  go_ret2
  exact ⟨rfl, ((Gr.refl w).alloc _ _).alloc _ _⟩

theorem Answer_yes {c v : Nat} (h : Ft c v) (w : World) :
    Calls Tryz.prog 20 #[.agg #[.int .i64 c, .int .i64 v]] w fun e w' => e = .returned (.tuple #[.int .u64 (ansN c v : Nat), .nilIface]) ∧ Gr w w' := by
  obtain ⟨h1, h2, h3, h4, h5⟩ := id h
  clear h5
  go_enter Tryz.func20, Tryz.ntmps20
  go_wp2_with (go_at_call 38; refine (opFits_is h _).mono ?_; rintro e w' ⟨rfl, rfl⟩)
  go_ret2
  exact ⟨ret_pair' (ans_or c v h2 h4), ((Gr.refl w).alloc _ _).alloc _ _⟩

theorem Told_core (x : Nat) (a b : Int) (w : World) (e0 : wrap64 ((x : Int) / 4294967296) = a) (e2 : wrap64 (bits .and .u64 (x : Int) 4294967295) = b) (h : Ft a b) :
    Calls Tryz.prog 55 #[.int .u64 x] w fun e w' => e = .returned (.tuple #[.agg #[.int .i64 a, .int .i64 b], .nilIface]) ∧ Gr w w' := by
  go_enter Tryz.func55, Tryz.ntmps55
  go_wp2_with (go_at_call 38; refine (opFits_is h _).mono ?_; rintro e w' ⟨rfl, rfl⟩)
  exact bodyPost_ret (v := .tuple #[.agg #[.int .i64 a, .int .i64 b], .nilIface]) (by simp [results, Tryz.results55, go_sem]) rfl ⟨rfl, (((Gr.refl w).alloc _ _).alloc _ _).alloc _ _⟩

theorem Told_cono (x : Nat) (a b : Int) (w : World) (e0 : wrap64 ((x : Int) / 4294967296) = a) (e2 : wrap64 (bits .and .u64 (x : Int) 4294967295) = b) (h : ¬ Ft a b) :
    Calls Tryz.prog 55 #[.int .u64 x] w fun e w' => e = .returned (.tuple #[.agg #[.int .i64 0, .int .i64 0], .iface 49 (.int .i64 3)]) ∧ Gr w w' := by
  go_enter Tryz.func55, Tryz.ntmps55
  go_wp2_with (go_at_call 38; refine (opFits_isnt h _).mono ?_; rintro e w' ⟨rfl, rfl⟩)
  exact bodyPost_ret (v := .tuple #[.agg #[.int .i64 0, .int .i64 0], .iface 49 (.int .i64 3)]) (by simp [results, Tryz.results55, go_sem]) rfl ⟨rfl, (((Gr.refl w).alloc _ _).alloc _ _).alloc _ _⟩

theorem Told_yes {c v : Nat} (h : Ft c v) (w : World) :
    Calls Tryz.prog 55 #[.int .u64 (ansN c v : Nat)] w fun e w' => e = .returned (.tuple #[.agg #[.int .i64 c, .int .i64 v], .nilIface]) ∧ Gr w w' := by
  obtain ⟨p1, p2⟩ := ansN_parts h
  have hx := ansN_lt h
  exact Told_core _ _ _ w (by rw [told_code _ hx, p1]) (by rw [of_val _ hx, p2]) h

/-- No answer is this word. -/
def NoAns (x : Nat) : Prop := ¬ Ft ((x / 4294967296 : Nat) : Int) ((x % 4294967296 : Nat) : Int)

theorem Told_no (x : Nat) (hx : x < 18446744073709551616) (h : NoAns x) (w : World) :
    Calls Tryz.prog 55 #[.int .u64 (x : Nat)] w fun e w' => e = .returned (.tuple #[.agg #[.int .i64 0, .int .i64 0], .iface 49 (.int .i64 3)]) ∧ Gr w w' :=
  Told_cono x _ _ w (told_code x hx) (of_val x hx) h

theorem ans_cases (x : Nat) : NoAns x ∨ ∃ c v : Nat, Ft c v ∧ x = ansN c v := by
  by_cases h : Ft ((x / 4294967296 : Nat) : Int) ((x % 4294967296 : Nat) : Int)
  · exact Or.inr ⟨_, _, h, (ansN_of x).symm⟩
  · exact Or.inl h


theorem aw_iff (x : Nat) : Aw x ↔ ¬ NoAns x := by unfold NoAns; exact (Classical.not_not).symm
/-- Told, of any word. -/
theorem told_yes {x : Nat} (hx : x < 18446744073709551616) (h : Aw x) (w : World) :
    Calls Tryz.prog 55 #[.int .u64 (x : Nat)] w fun e w' => e = .returned (.tuple #[.agg #[.int .i64 (x / 4294967296 : Nat), .int .i64 (x % 4294967296 : Nat)], .nilIface]) ∧ Below w.heap.size w w' :=
  (Told_core x _ _ w (told_code x hx) (of_val x hx) h).mono fun _ _ ⟨he, hg⟩ => ⟨he, hg.below⟩
theorem told_no {x : Nat} (hx : x < 18446744073709551616) (h : ¬ Aw x) (w : World) :
    Calls Tryz.prog 55 #[.int .u64 (x : Nat)] w fun e w' => e = .returned (.tuple #[.agg #[.int .i64 0, .int .i64 0], .iface 49 (.int .i64 3)]) ∧ Below w.heap.size w w' :=
  (Told_cono x _ _ w (told_code x hx) (of_val x hx) h).mono fun _ _ ⟨he, hg⟩ => ⟨he, hg.below⟩
theorem answer_yes {c v : Nat} (h : Ft c v) (w : World) :
    Calls Tryz.prog 20 #[.agg #[.int .i64 c, .int .i64 v]] w fun e w' => e = .returned (.tuple #[.int .u64 (ansN c v : Nat), .nilIface]) ∧ Below w.heap.size w w' :=
  (Answer_yes h w).mono fun _ _ ⟨he, hg⟩ => ⟨he, hg.below⟩
end Go.Proofs.YtgkgkiheoadbfaaGreatDoor.Tab
namespace Go.Proofs.YtgkgkiheoadbfaaGreatDoor.Tab
set_option maxRecDepth 20000
open Go.RowKit
set_option linter.unusedVariables false

theorem not_ftr {c v : Int} (h : ¬ Ft c v) : (c < 1 ∨ 5 < c) ∨ (1 ≤ c ∧ c ≤ 5) ∧ ((v < 0 ∨ 4294967295 < v) ∨ (0 ≤ v ∧ v ≤ 4294967295) ∧ c ≠ 1 ∧ v ≠ 0) := by
  have : ¬ (1 ≤ c ∧ c ≤ 5 ∧ 0 ≤ v ∧ v ≤ 4294967295 ∧ (c = 1 ∨ v = 0)) := h
  omega
theorem awithin_yes (n a b : Int) (w : World) (h1 : a ≤ n) (h2 : n ≤ b) :
    Calls Tryz.prog 23 #[.int .i64 n, .int .i64 a, .int .i64 b] w fun e w' => e = .returned (.bool true) ∧ w' = w := by
  go_enter Tryz.func23, Tryz.ntmps23
  go_wp2
  go_ret
  exact ⟨rfl, rfl⟩
theorem awithin_no (n a b : Int) (w : World) (h : n < a ∨ b < n) :
    Calls Tryz.prog 23 #[.int .i64 n, .int .i64 a, .int .i64 b] w fun e w' => e = .returned (.bool false) ∧ w' = w := by
  by_cases h1 : a ≤ n
  · have h2 : ¬ n ≤ b := by omega
    clear h
    go_enter Tryz.func23, Tryz.ntmps23
    go_wp2
    go_ret
    exact ⟨rfl, rfl⟩
  · clear h
    go_enter Tryz.func23, Tryz.ntmps23
    go_wp2
    go_ret
    exact ⟨rfl, rfl⟩
theorem RfFits_is {c v : Int} (h : Ft c v) (w : World) :
    Calls Tryz.prog 30 #[.agg #[.int .i64 c, .int .i64 v]] w fun e w' => e = .returned (.bool true) ∧ w' = w.alloc (.cells #[.int .i64 c, .int .i64 v] 35) := by
  obtain ⟨h1, h2, h3, h4, h5⟩ := h
  by_cases hc : c = 1
  · subst hc
    clear h5
    go_enter Tryz.func30, Tryz.ntmps30
    go_wp2_with (go_at_call 23; refine (awithin_yes _ _ _ _ (by omega) (by omega)).mono ?_; rintro e w' ⟨rfl, rfl⟩)
    go_ret
    exact ⟨rfl, rfl⟩
  · obtain rfl : v = 0 := by omega
    clear h5
    have hc' : (c == 1) = false := beq_eq_false_iff_ne.2 hc
    go_enter Tryz.func30, Tryz.ntmps30
    go_wp2_with (go_at_call 23; refine (awithin_yes _ _ _ _ (by omega) (by omega)).mono ?_; rintro e w' ⟨rfl, rfl⟩)
    go_ret
    exact ⟨rfl, rfl⟩

theorem RfFits_isnt {c v : Int} (h : ¬ Ft c v) (w : World) :
    Calls Tryz.prog 30 #[.agg #[.int .i64 c, .int .i64 v]] w fun e w' => e = .returned (.bool false) ∧ w' = w.alloc (.cells #[.int .i64 c, .int .i64 v] 35) := by
  rcases not_ftr h with h1 | ⟨⟨h1, h2⟩, h3 | ⟨⟨h3, h4⟩, hc, hv⟩⟩
  · clear h
    go_enter Tryz.func30, Tryz.ntmps30
    go_wp2_with (go_at_call 23; refine (awithin_no _ _ _ _ h1).mono ?_; rintro e w' ⟨rfl, rfl⟩)
    go_ret
    exact ⟨rfl, rfl⟩
  · clear h
    go_enter Tryz.func30, Tryz.ntmps30
    go_wp2_with fail
    refine (awithin_yes _ _ _ _ h1 h2).mono ?_
    rintro e w' ⟨rfl, rfl⟩
    go_wp2_with fail
    refine (awithin_no _ _ _ _ h3).mono ?_
    rintro e w' ⟨rfl, rfl⟩
    go_wp2
    go_ret
    exact ⟨rfl, rfl⟩
  · clear h
    have hv' : (v == 0) = false := beq_eq_false_iff_ne.2 hv
    have hc' : (c == 1) = false := beq_eq_false_iff_ne.2 hc
    go_enter Tryz.func30, Tryz.ntmps30
    go_wp2_with fail
    refine (awithin_yes _ _ _ _ h1 h2).mono ?_
    rintro e w' ⟨rfl, rfl⟩
    go_wp2_with fail
    refine (awithin_yes _ _ _ _ h3 h4).mono ?_
    rintro e w' ⟨rfl, rfl⟩
    go_wp2
    go_ret
    exact ⟨rfl, rfl⟩

theorem RfAnswer_no {c v : Int} (h : ¬ Ft c v) (w : World) :
    Calls Tryz.prog 26 #[.agg #[.int .i64 c, .int .i64 v]] w fun e w' => e = .returned (.tuple #[.int .u64 0, .int .i64 1]) ∧ Gr w w' := by
  go_enter Tryz.func26, Tryz.ntmps26
  go_wp2_with (go_at_call 30; refine (RfFits_isnt h _).mono ?_; rintro e w' ⟨rfl, rfl⟩)
  go_ret2
  exact ⟨rfl, ((Gr.refl w).alloc _ _).alloc _ _⟩

theorem RfAnswer_yes {c v : Nat} (h : Ft c v) (w : World) :
    Calls Tryz.prog 26 #[.agg #[.int .i64 c, .int .i64 v]] w fun e w' => e = .returned (.tuple #[.int .u64 (ansN c v : Nat), .int .i64 0]) ∧ Gr w w' := by
  obtain ⟨h1, h2, h3, h4, h5⟩ := id h
  clear h5
  go_enter Tryz.func26, Tryz.ntmps26
  go_wp2_with (go_at_call 30; refine (RfFits_is h _).mono ?_; rintro e w' ⟨rfl, rfl⟩)
  go_ret2
  exact ⟨ret_pair' (by unfold ansN; omega), ((Gr.refl w).alloc _ _).alloc _ _⟩

theorem RfTold_core (x : Nat) (hx : (x : Int) < 18446744073709551616) (a b : Int) (w : World) (e0 : (x : Int) / 4294967296 = a) (e2 : (x : Int) % 4294967296 = b) (h : Ft a b) :
    Calls Tryz.prog 12 #[.int .u64 x] w fun e w' => e = .returned (.tuple #[.agg #[.int .i64 a, .int .i64 b], .int .i64 0]) ∧ Gr w w' := by
  go_enter Tryz.func12, Tryz.ntmps12
  go_wp2_with (go_at_call 30; refine (RfFits_is h _).mono ?_; rintro e w' ⟨rfl, rfl⟩)
  exact bodyPost_ret (v := .tuple #[.agg #[.int .i64 a, .int .i64 b], .int .i64 0]) (by simp [results, Tryz.results12, go_sem]) rfl ⟨rfl, (((Gr.refl w).alloc _ _).alloc _ _).alloc _ _⟩

theorem RfTold_cono (x : Nat) (hx : (x : Int) < 18446744073709551616) (a b : Int) (w : World) (e0 : (x : Int) / 4294967296 = a) (e2 : (x : Int) % 4294967296 = b) (h : ¬ Ft a b) :
    Calls Tryz.prog 12 #[.int .u64 x] w fun e w' => e = .returned (.tuple #[.agg #[.int .i64 0, .int .i64 0], .int .i64 3]) ∧ Gr w w' := by
  go_enter Tryz.func12, Tryz.ntmps12
  go_wp2_with (go_at_call 30; refine (RfFits_isnt h _).mono ?_; rintro e w' ⟨rfl, rfl⟩)
  exact bodyPost_ret (v := .tuple #[.agg #[.int .i64 0, .int .i64 0], .int .i64 3]) (by simp [results, Tryz.results12, go_sem]) rfl ⟨rfl, (((Gr.refl w).alloc _ _).alloc _ _).alloc _ _⟩

theorem RfTold_yes {c v : Nat} (h : Ft c v) (w : World) :
    Calls Tryz.prog 12 #[.int .u64 (ansN c v : Nat)] w fun e w' => e = .returned (.tuple #[.agg #[.int .i64 c, .int .i64 v], .int .i64 0]) ∧ Gr w w' := by
  obtain ⟨p1, p2⟩ := ansN_parts h
  have hx := ansN_lt h
  exact RfTold_core _ (by omega) _ _ w (by omega) (by omega) h

theorem RfTold_no (x : Nat) (hx : x < 18446744073709551616) (h : NoAns x) (w : World) :
    Calls Tryz.prog 12 #[.int .u64 (x : Nat)] w fun e w' => e = .returned (.tuple #[.agg #[.int .i64 0, .int .i64 0], .int .i64 3]) ∧ Gr w w' :=
  RfTold_cono x (by omega) _ _ w (by omega) (by omega) h


theorem rtold_yes {x : Nat} (hx : x < 18446744073709551616) (h : Aw x) (w : World) :
    Calls Tryz.prog 12 #[.int .u64 (x : Nat)] w fun e w' => e = .returned (.tuple #[.agg #[.int .i64 (x / 4294967296 : Nat), .int .i64 (x % 4294967296 : Nat)], .int .i64 0]) ∧ Below w.heap.size w w' :=
  (RfTold_core x (by omega) _ _ w (by omega) (by omega) h).mono fun _ _ ⟨he, hg⟩ => ⟨he, hg.below⟩
theorem rtold_no {x : Nat} (hx : x < 18446744073709551616) (h : ¬ Aw x) (w : World) :
    Calls Tryz.prog 12 #[.int .u64 (x : Nat)] w fun e w' => e = .returned (.tuple #[.agg #[.int .i64 0, .int .i64 0], .int .i64 3]) ∧ Below w.heap.size w w' :=
  (RfTold_cono x (by omega) _ _ w (by omega) (by omega) h).mono fun _ _ ⟨he, hg⟩ => ⟨he, hg.below⟩
/-- AnswerWord, of what a word is told as. -/
theorem rword_yes {x : Nat} (h : Aw x) (w : World) :
    Calls Tryz.prog 26 #[.agg #[.int .i64 (x / 4294967296 : Nat), .int .i64 (x % 4294967296 : Nat)]] w fun e w' => e = .returned (.tuple #[.int .u64 (x : Nat), .int .i64 0]) ∧ Below w.heap.size w w' :=
  (RfAnswer_yes h w).mono fun _ _ ⟨he, hg⟩ => ⟨by rw [ansN_of] at he; exact he, hg.below⟩
theorem rword_no {c v : Int} (h : ¬ Ft c v) (w : World) :
    Calls Tryz.prog 26 #[.agg #[.int .i64 c, .int .i64 v]] w fun e w' => e = .returned (.tuple #[.int .u64 0, .int .i64 1]) ∧ Below w.heap.size w w' :=
  (RfAnswer_no h w).mono fun _ _ ⟨he, hg⟩ => ⟨he, hg.below⟩
end Go.Proofs.YtgkgkiheoadbfaaGreatDoor.Tab
namespace Go.Proofs.YtgkgkiheoadbfaaGreatDoor
set_option maxRecDepth 20000
open Go.RowKit

theorem mk64 (w : World) : (Instr.makeSlice 27 (.int .i64 64) (.int .i64 64)).run Tryz.prog w = .ok (.slice (some ⟨w.heap.size, 0, none⟩) 64 64) (w.alloc (.cells z64 3)) :=
  run_make w 27 3 _ (.int .i64 0) Tryz.underlying27 rfl rfl .i64 .i64 64 64 (by decide) (by decide) (by decide) (by decide)

set_option maxHeartbeats 400000 in
theorem digits_any (x : Nat) (w : World) (hx : x < 18446744073709551616) :
    Calls Tryz.prog 31 #[.int .u64 x] w fun e w' => e = .returned (.slice (some ⟨w.heap.size, 0, none⟩) 64 64) ∧ Dg (bt x) w w' := by
  have hmk := mk64
  go_enter Tryz.func31, Tryz.ntmps31
  go_wp2
  clear hmk
  go_loopw [0, 8] (fun v i wr => ∃ k y : Nat, k ≤ 64 ∧ y < 18446744073709551616 ∧ Hid (y = x / 2 ^ k) ∧ v = .int .u64 y ∧ i = .int .i64 k ∧ Dg (fun j => if j < k then bt x j else 0) w wr)
    (fun _ i _ => 64 - (intOf i).toNat)
  case atStart => exact ⟨0, x, by omega, hx, (by simp [Hid]), rfl, rfl, by simpa using Dg.start w _⟩
  case round =>
    obtain ⟨k, y, hk, hy, HY, rfl, rfl, hd⟩ := hrel
    by_cases hlt : k < 64
    · have hc := hd.cell k hlt
      have hfz := hd.froz k
      simp only [Nat.lt_irrefl, if_false] at hc
      go_wp2
      go_roundw
      case rel =>
        have e1 : (y : Int) % 2 = ((bt x k : Nat) : Int) := by simp [bt, HY.out]
        refine ⟨k + 1, y / 2, by omega, by omega, ?_, by go_num, by go_num, ?_⟩
        · show y / 2 = _
          rw [HY.out, Nat.pow_succ, Nat.div_div_eq_div_mul]
        · rw [e1]; exact hd.set k (bt x k) hlt _ (fun i _ => by
            by_cases h1 : i = k
            · subst h1; simp
            · by_cases h2 : i < k
              · simp [h1, h2, Nat.lt_succ_of_lt h2]
              · simp [h1, h2, show ¬ i < k + 1 by omega])
      case measure => simp [intOf]; omega
    · go_wp2
      go_ret
      have : k = 64 := by omega
      subst this
      refine ⟨rfl, hd.gr, hd.size, fun i hi => ?_⟩
      have := hd.cell i hi
      simpa [hi] using this

set_option maxHeartbeats 400000 in
theorem number_any (b off n cap : Nat) (f : Nat → Nat) (w : World) (hn : n ≤ 64) (hf : ∀ i, f i < 2)
    (hc : ∀ i, i < n → w.cell? ⟨b, off + i, none⟩ = some (.int .i64 (f i : Nat))) :
    Calls Tryz.prog 47 #[.slice (some ⟨b, off, none⟩) n cap] w fun e w' => e = .returned (.int .u64 (tp f 0 n : Nat)) ∧ w' = w := by
  go_enter Tryz.func47, Tryz.ntmps47
  go_wp2
  go_loop [3, 4] (fun v i => ∃ (j : Int) (y : Nat), -1 ≤ j ∧ j < n ∧ Hid (y = tp f (j + 1).toNat (n - (j + 1).toNat)) ∧ v = .int .u64 y ∧ i = .int .i64 j)
    (fun _ i => (intOf i + 1).toNat)
  case atStart => exact ⟨(n : Int) - 1, 0, by omega, by omega, (by simp [Hid, tp]), rfl, rfl⟩
  case round =>
    obtain ⟨j, y, h1, h2, HY, rfl, rfl⟩ := hrel
    by_cases h0 : 0 ≤ j
    · obtain ⟨k, rfl⟩ := Int.eq_ofNat_of_zero_le h0
      have hk : k < n := by omega
      have hcell := hc k hk
      have hfk := hf k
      have hy : y < 9223372036854775808 := by
        have := tp_lt f hf (n - ((k : Int) + 1).toNat) ((k : Int) + 1).toNat
        rw [← HY.out] at this
        have : 2 ^ (n - ((k : Int) + 1).toNat) ≤ 2 ^ 63 := Nat.pow_le_pow_right (by decide) (by omega)
        omega
      clear hc
      go_wp2
      go_round
      case rel =>
        refine ⟨(k : Int) - 1, f k + 2 * y, by omega, by omega, ?_, by go_num, by go_num⟩
        show _ = _
        rw [HY.out, show ((k : Int) - 1 + 1).toNat = k by omega, show n - k = (n - ((k : Int) + 1).toNat) + 1 by omega, tp, show ((k : Int) + 1).toNat = k + 1 by omega]
      case measure => simp [intOf]
    · have e : j = -1 := by omega
      subst e
      go_wp2
      go_ret
      refine ⟨?_, rfl⟩
      rw [HY.out]; simp
end Go.Proofs.YtgkgkiheoadbfaaGreatDoor
namespace Go.Proofs.YtgkgkiheoadbfaaGreatDoor
set_option maxRecDepth 20000
open Go.RowKit

theorem bwithin_yes (a : Int) (w : World) (h0 : 0 ≤ a) (h1 : a ≤ 63) :
    Calls Tryz.prog 23 #[.int .i64 a, .int .i64 0, .int .i64 63] w fun e w' => e = .returned (.bool true) ∧ w' = w := by
  go_enter Tryz.func23, Tryz.ntmps23
  go_wp2
  go_ret
  exact ⟨rfl, rfl⟩

theorem bwithin_no (a : Int) (w : World) (h : a < 0 ∨ 63 < a) :
    Calls Tryz.prog 23 #[.int .i64 a, .int .i64 0, .int .i64 63] w fun e w' => e = .returned (.bool false) ∧ w' = w := by
  by_cases h1 : a < 0
  · have : ¬ 0 ≤ a := by omega
    clear h
    go_enter Tryz.func23, Tryz.ntmps23
    go_wp2
    go_ret
    exact ⟨rfl, rfl⟩
  · have h2 : 0 ≤ a := by omega
    have : ¬ a ≤ 63 := by omega
    clear h h1
    go_enter Tryz.func23, Tryz.ntmps23
    go_wp2
    go_ret
    exact ⟨rfl, rfl⟩

theorem refBit_no (x : Nat) (a : Int) (w : World) (h : a < 0 ∨ 63 < a) :
    Calls Tryz.prog 13 #[.int .u64 x, .int .i64 a] w fun e w' => e = .returned (.bool false) ∧ Gr w w' := by
  go_enter Tryz.func13, Tryz.ntmps13
  go_wp2_with (go_at_call 23; refine (bwithin_no _ _ h).mono ?_; rintro e w' ⟨rfl, rfl⟩)
  go_ret
  exact ⟨rfl, Gr.refl _⟩

theorem refBit_yes (x k : Nat) (w : World) (hx : x < 18446744073709551616) (hk : k < 64) :
    Calls Tryz.prog 13 #[.int .u64 x, .int .i64 k] w fun e w' => e = .returned (.bool (x.testBit k)) ∧ Gr w w' := by
  go_enter Tryz.func13, Tryz.ntmps13
  go_wp2_with fail
  refine (bwithin_yes _ _ (by omega) (by omega)).mono ?_
  rintro e w' ⟨rfl, rfl⟩
  go_wp2_with fail
  refine (digits_any x _ hx).mono ?_
  rintro e w1 ⟨rfl, hd⟩
  have hc := hd.cell k hk
  go_wp2
  go_ret
  refine ⟨ret_bool ?_, hd.gr⟩
  rw [bt_test]
  cases x.testBit k <;> rfl

end Go.Proofs.YtgkgkiheoadbfaaGreatDoor
namespace Go.Proofs.YtgkgkiheoadbfaaGreatDoor
set_option maxRecDepth 20000
open Go.RowKit

theorem refFlip_no (x : Nat) (a : Int) (w : World) (hx : x < 18446744073709551616) (h : a < 0 ∨ 63 < a) :
    Calls Tryz.prog 27 #[.int .u64 x, .int .i64 a] w fun e w' => e = .returned (.int .u64 x) ∧ Gr w w' := by
  go_enter Tryz.func27, Tryz.ntmps27
  go_wp2_with fail
  refine (digits_any x _ hx).mono ?_
  rintro e w1 ⟨rfl, hd⟩
  go_wp2_with fail
  refine (bwithin_no _ _ h).mono ?_
  rintro e w' ⟨rfl, rfl⟩
  go_wp2_with fail
  refine (number_any _ 0 64 64 (bt x) _ (Nat.le_refl _) (bt_lt x) (fun i hi => by simpa using hd.cell i hi)).mono ?_
  rintro e w' ⟨rfl, rfl⟩
  go_wp2
  go_ret
  exact ⟨ret_int (by rw [tp_all x hx]), hd.gr⟩

theorem refFlip_yes (x k : Nat) (w : World) (hx : x < 18446744073709551616) (hk : k < 64) :
    Calls Tryz.prog 27 #[.int .u64 x, .int .i64 k] w fun e w' => e = .returned (.int .u64 (x ^^^ 2 ^ k : Nat)) ∧ Gr w w' := by
  go_enter Tryz.func27, Tryz.ntmps27
  go_wp2_with fail
  refine (digits_any x _ hx).mono ?_
  rintro e w1 ⟨rfl, hd⟩
  go_wp2_with fail
  refine (bwithin_yes _ _ (by omega) (by omega)).mono ?_
  rintro e w' ⟨rfl, rfl⟩
  have hc := hd.cell k hk
  have hf := hd.froz k
  have hb := bt_lt x k
  go_wp2_with fail
  have e1 : (1 : Int) - (bt x k : Nat) = ((1 - bt x k : Nat) : Int) := by omega
  rw [e1]
  have hd2 := hd.set k (1 - bt x k) hk (bt (x ^^^ 2 ^ k)) (fun i _ => by rw [bt_flip]; by_cases h : i = k <;> simp [h])
  refine (number_any _ 0 64 64 (bt (x ^^^ 2 ^ k)) _ (Nat.le_refl _) (bt_lt _) (fun i hi => by simpa using hd2.cell i hi)).mono ?_
  rintro e w2 ⟨rfl, rfl⟩
  go_wp2
  go_ret
  exact ⟨ret_int (by rw [tp_all _ (flip_lt x k hx hk)]), hd2.gr⟩
end Go.Proofs.YtgkgkiheoadbfaaGreatDoor
namespace Go.Proofs.YtgkgkiheoadbfaaGreatDoor.Tab
set_option maxRecDepth 20000
open Go.RowKit
set_option linter.unusedVariables false

theorem info_u64 : (Tryz.prog.info? 22).map (fun i => (i.zero, i.size, i.bytes)) = some (some (.int .u64 0), 1, 8) := by kernel_rfl
theorem made17 : madeCells (Value.int .u64 0).cells 17 = (wl wz).toArray := by kernel_rfl
theorem mk17 (w : World) : (Instr.makeSlice 43 (.int .i64 17) (.int .i64 17)).run Tryz.prog w = .ok (.slice (some ⟨w.heap.size, 0, none⟩) 17 17) (w.alloc (.cells (wl wz).toArray 22)) := by
  obtain ⟨i, hi, hz, h1, h2⟩ := info_parts info_u64
  have := run_make (P := Tryz.prog) w 43 22 i _ Tryz.underlying43 hi hz .i64 .i64 17 17 (by decide) (by decide) (by rw [h2]; decide) (by decide)
  rw [h1] at this
  rw [← made17]
  exact this
theorem mk17b (w : World) (o : Obj) : (Instr.makeSlice 43 (.int .i64 17) (.int .i64 17)).run Tryz.prog (w.alloc o) = .ok (.slice (some ⟨w.heap.size + 1, 0, none⟩) 17 17) ((w.alloc o).alloc (.cells (wl wz).toArray 22)) := by
  have := mk17 (w.alloc o)
  simpa using this

theorem new_below2 (w : World) (o p : Obj) : Below w.heap.size w ((w.alloc o).alloc p) := ((Gd.refl w).new o |>.new p).2
/-- Seventeen words, in a block of the call's own. -/
def Wd (n : Nat) (e : Ending) (w' : World) (d : Nat → Nat) : Prop := ∃ b, e = .returned (.slice (some ⟨b, 0, none⟩) 17 17) ∧ n ≤ b ∧ Bo w' b (wl d)

set_option maxHeartbeats 1000000 in
theorem Cells_6 (v : Value) (t : Tb) (x : Nat) (hx : x ≤ 4294967295) (w : World) :
    Calls Tryz.prog 25 #[.agg (tg 6 v t x).toArray] w fun e w' => Wd w.heap.size e w' (tyw x) ∧ Below w.heap.size w w' := by
  have mk := mk17b w (.cells (tg 6 v t x).toArray 33)
  have S0 : Hid (Bo ((w.alloc (.cells (tg 6 v t x).toArray 33)).alloc (.cells (wl wz).toArray 22)) w.heap.size (tg 6 v t x)) := (Bo.born w (tg 6 v t x) _ rfl).new _
  have T0 : Hid (Bo ((w.alloc (.cells (tg 6 v t x).toArray 33)).alloc (.cells (wl wz).toArray 22)) (w.heap.size + 1) (wl wz)) := Bo.born _ (wl wz) _ (by simp)
  have G0 : Hid (Gd w.heap.size w ((w.alloc (.cells (tg 6 v t x).toArray 33)).alloc (.cells (wl wz).toArray 22))) := ((Gd.refl w).new _).new _
  have c0 := S0.out.tcell.1
  have c1 := S0.out.tcell.2.2
  have d0 := T0.out.word (show 0 < 17 by decide)
  have d1 := T0.out.froz 0
  go_enter Tryz.func25, Tryz.ntmps25
  go_wp2_with fail
  go_ret
  have e : wl (tyw x) = (wl wz).set 0 (.int .u64 (x : Nat)) := by
    rw [wl_set wz x (by decide)]
    exact wl_congr fun j _ => by unfold tyw upw wz; by_cases e0 : j = 0 <;> simp [e0]
  refine ⟨⟨_, rfl, by omega, ?_⟩, new_below2 _ _ _⟩
  rw [e]
  exact Bo.born _ _ _ (by simp)
end Go.Proofs.YtgkgkiheoadbfaaGreatDoor.Tab
namespace Go.Proofs.YtgkgkiheoadbfaaGreatDoor.Tab
set_option maxRecDepth 20000
open Go.RowKit
set_option linter.unusedVariables false

theorem Bo.cellsZ {w : World} {b : Nat} {cs : List Value} (h : Bo w b cs) : ∀ j v, cs[j]? = some v → w.cell? ⟨b, 0 + j, none⟩ = some v := fun j v hv => by rw [Nat.zero_add]; exact h.cell j v hv
theorem upw_neq {f : Nat → Nat} {j k x : Nat} (h : k ≠ j) : upw f j x k = f k := by unfold upw; rw [if_neg h]
end Go.Proofs.YtgkgkiheoadbfaaGreatDoor.Tab
namespace Go.Proofs.YtgkgkiheoadbfaaGreatDoor.Tab
set_option maxRecDepth 20000
open Go.RowKit
set_option linter.unusedVariables false

theorem ixw {e : Int} (h0 : 0 ≤ e) (h1 : e < 1000) : IntKind.i64.wrap e = e ∧ wrap64 e = e := ⟨by rw [IntKind.wrap_i64]; omega, by unfold wrap64; omega⟩
theorem ixn {e : Int} {n : Nat} (h : e = (n : Int)) : e.toNat = n := by omega
theorem made32 : madeCells (Value.int .u64 0).cells 32 = (rl wz).toArray := by kernel_rfl
theorem mk32 (w : World) : (Instr.makeSlice 43 (.int .i64 32) (.int .i64 32)).run Tryz.prog w = .ok (.slice (some ⟨w.heap.size, 0, none⟩) 32 32) (w.alloc (.cells (rl wz).toArray 22)) := by
  obtain ⟨i, hi, hz, h1, h2⟩ := info_parts info_u64
  have := run_make (P := Tryz.prog) w 43 22 i _ Tryz.underlying43 hi hz .i64 .i64 32 32 (by decide) (by decide) (by rw [h2]; decide) (by decide)
  rw [h1] at this
  rw [← made32]
  exact this
theorem mk32b (w : World) (o : Obj) : (Instr.makeSlice 43 (.int .i64 32) (.int .i64 32)).run Tryz.prog (w.alloc o) = .ok (.slice (some ⟨w.heap.size + 1, 0, none⟩) 32 32) ((w.alloc o).alloc (.cells (rl wz).toArray 22)) := by
  have := mk32 (w.alloc o)
  simpa using this
theorem upw_self {f : Nat → Nat} {j x : Nat} (h : f j = x) : upw f j x = f := by
  funext k; unfold upw; by_cases e : k = j
  · rw [if_pos e, e, h]
  · rw [if_neg e]
set_option maxHeartbeats 8000000 in
theorem Words_is {ρ c : Nat → Nat} {th : List Value} (hl : th.length = 19) (ho : ∀ v ∈ th, v.oneCell' = true) (hrow : Rw Tryz.prog 33 th) (h0 : th.getD 0 undef = .int .i64 ((ρ 0 : Nat) : Int)) (h6 : ρ 0 ≤ 6) (hc : ∀ j, j < 17 → c j = ob ρ j) (U : ∀ j, j < 32 → ρ j < 18446744073709551616) (hA : ∀ t, t < 4 → ρ (18 + t) = 0 ∨ Aw (ρ (18 + t))) (w : World) (CE : ∀ W, Below w.heap.size w W → Calls Tryz.prog 25 #[.agg th.toArray] W fun e w' => Wd W.heap.size e w' c ∧ Below W.heap.size W w') :
    Calls Tryz.prog 10 #[.agg (rv (rf th ρ 4)).toArray] w (fun e w' => (∃ b, e = .returned (.slice (some ⟨b, 0, none⟩) 32 32) ∧ w.heap.size ≤ b ∧ Bo w' b (rl (nw ρ))) ∧ Below w.heap.size w w') := by
  have AWI : Hid (∀ t, t < 4 → ∃ ae : Value, ∀ w, Calls Tryz.prog 26 #[.agg #[.int .i64 (ρ (18 + t) / 4294967296 : Nat), .int .i64 (ρ (18 + t) % 4294967296 : Nat)]] w fun e w' => e = .returned (.tuple #[.int .u64 (ρ (18 + t) : Nat), ae]) ∧ Below w.heap.size w w') := fun t ht => by
    rcases hA t ht with h | h
    · rw [h]; exact ⟨_, fun w => rword_no (c := 0) (v := 0) (by decide) w⟩
    · exact ⟨_, fun w => rword_yes h w⟩
  have CEH : Hid _ := CE
  have HL : Hid _ := hl
  have H0 : Hid _ := h0
  have HRW : Hid _ := hrow
  have U64 : Hid _ := U
  have e0 : IntKind.u64.wrap ((ρ 0 : Nat) : Int) = (ρ 0 : Nat) := by rw [IntKind.wrap_u64]; omega
  have W0 : Hid (rl (wo (upw wz 0 (ρ 0)) c) = rl (wq ρ 0)) := wq_zero ρ c hc
  have F1 : Hid (∀ j, j < 37 → (rf th ρ 4 j).oneCell' = true) := rf_one ho hl
  have mk := mk32b w (.cells (rv (rf th ρ 4)).toArray 40)
  clear hA CE hl h0 hrow h6 hc U ho
  have hM : Hid _ := (((Ms.nil w).born (rv (rf th ρ 4)) 40 (b := w.heap.size) rfl).born (rl wz) 22 (b := w.heap.size + 1) (by simp))
  have x1 := (hM.out.at 1 rfl).rcell (j := 0) (by decide) ((rf_th (by decide)).trans H0.out)
  go_enter Tryz.func10, Tryz.ntmps10
  go_wp2_with (first
    | (refine s1 rfl (hM.out.at 0 rfl) 0 rfl (.int .u64 (ρ 0 : Nat)) rfl sz_u ?_ (by rw [rl_length]; decide)
       replace hM := hid (hM.out.put1 0 0 rfl (.int .u64 (ρ 0 : Nat)) (rl (upw wz 0 (ρ 0))) (by rw [rl_length]; decide) (rl_set _ _ (by decide)))
       generalize World.setCell _ _ _ = W at hM ⊢
       clear x1
       clear mk))
  generalize hsz : w.heap.size = n at hM CEH ⊢
  clear hsz
  replace hM := hid (hM.out.drew)
  refine wp_region_held_drew (S := fun w' => Bo w' n (rv (rf th ρ 4)) ∧ Bo w' n th) (by kernel_rfl) ⟨hM.out.at 1 rfl, Bo.thing (hM.out.at 1 rfl) HL.out (fun j hj => rf_th hj)⟩ (fun hH => ?_)
  generalize World.drew _ = W at hM hH  ⊢
  refine tk 0 rfl hH ?_
  simp only [Act.put, p1, p2, p3]
  refine tk 1 rfl hH ?_
  simp only [Act.put, p1, p2, p3]
  refine tk 2 rfl hH ?_
  simp only [Act.put, p1, p2, p3]
  refine tkR 3 rfl hH (fun _ h => h.2) HRW.out ?_
  simp only [Act.put, p1, p2, p3]
  refine rd1 4 rfl (fun K hK => ?_)
  go_simp
  refine (CEH.out _ hM.out.low).mono ?_
  rintro e W ⟨⟨bq, rfl, hq, hWq⟩, hb⟩
  replace hM := hid (hM.out.laterB hb hq hWq)
  clear hb
  go_wp2_with fail
  refine hK.out _ _ ⟨hM.out.at 2 rfl, Bo.thing (hM.out.at 2 rfl) HL.out (fun j hj => rf_th hj)⟩ (fun hH => ?_)
  clear hK K
  try simp only [Act.put, p1, p2, p3]
  refine rd1 5 rfl (fun K hK => ?_)
  refine cpR rfl Tryz.underlying43 sz_u (vs := wl c) (off := 1) (dLen := 31) (sLen := 17) (by rw [wl_length]; rfl) ((hM.out.at 0 rfl).cellsZ) ((hM.out.at 1 rfl).thereAt (o := 1) (n := (wl c).length) (by rw [wl_length, rl_length]; decide)) (wl_one _) ?_
  replace hM := hid (hM.out.putAt 1 1 rfl (wl c) (rl (wo (upw wz 0 (ρ 0)) c)) ((hM.out.at 1 rfl).setOb c))
  rw [W0.out] at hM
  refine hK.out _ _ ⟨hM.out.at 2 rfl, Bo.thing (hM.out.at 2 rfl) HL.out (fun j hj => rf_th hj)⟩ (fun hH => ?_)
  clear hK K
  generalize World.setCells _ _ _ _ = W at hM hH ⊢
  try simp only [Act.put, p1, p2, p3]
  refine wpAnyH_done (by kernel_rfl) ?_ _
  go_wp2_with fail
  go_loopg [18] 4 (fun gg s18 wt => ∃ i : Nat, i ≤ 4 ∧ 4 - i ≤ gg ∧ s18 = .int .i64 i ∧ Hid (Ms n w wt [((n + 1), rl (wq ρ i)), (n, rv (rf th ρ 4))] []))
  case atStart => exact ⟨0, by omega, by omega, rfl, hM.out.pick [1, 2]⟩
  case round =>
    clear hM
    obtain ⟨i, hi, hgg, rfl, hM⟩ := hrel
    obtain ⟨W, rfl⟩ : ∃ q, q = wr := ⟨_, rfl⟩
    by_cases hlt : i < 4
    · have hi1 : (i : Int) < 4 := by omega
      have hi0 : (0 : Int) ≤ (i : Int) := by omega
      have fa0 : (0 : Int) ≤ 18 + (i : Int) := by omega
      have fa1 : 18 + (i : Int) < 32 := by omega
      have fan : Hid (18 + (i : Int) = ((18 + i : Nat) : Int)) := (by omega : 18 + (i : Int) = ((18 + i : Nat) : Int))
      have fax : 18 + i < 32 := by omega
      have fb0 : (0 : Int) ≤ 22 + (i : Int) := by omega
      have fb1 : 22 + (i : Int) < 32 := by omega
      have fbn : Hid (22 + (i : Int) = ((22 + i : Nat) : Int)) := (by omega : 22 + (i : Int) = ((22 + i : Nat) : Int))
      have fbx : 22 + i < 32 := by omega
      have fc0 : (0 : Int) ≤ 19 + (i : Int) * 2 := by omega
      have fc1 : 19 + (i : Int) * 2 < 37 := by omega
      have fcn : Hid (19 + (i : Int) * 2 = ((19 + i * 2 : Nat) : Int)) := (by omega : 19 + (i : Int) * 2 = ((19 + i * 2 : Nat) : Int))
      have fcx : 19 + i * 2 < 37 := by omega
      have fd0 : (0 : Int) ≤ 27 + (i : Int) := by omega
      have fd1 : 27 + (i : Int) < 37 := by omega
      have fdn : Hid (27 + (i : Int) = ((27 + i : Nat) : Int)) := (by omega : 27 + (i : Int) = ((27 + i : Nat) : Int))
      have fdx : 27 + i < 37 := by omega
      have fe0 : (0 : Int) ≤ 31 + (i : Int) := by omega
      have fe1 : 31 + (i : Int) < 37 := by omega
      have fen : Hid (31 + (i : Int) = ((31 + i : Nat) : Int)) := (by omega : 31 + (i : Int) = ((31 + i : Nat) : Int))
      have fex : 31 + i < 37 := by omega
      obtain ⟨ae, aw⟩ := AWI.out i hlt
      obtain ⟨x, hx⟩ : ∃ x, ρ (18 + i) = x := ⟨_, rfl⟩
      obtain ⟨y, hy⟩ : ∃ y, ρ (22 + i) = y := ⟨_, rfl⟩
      have RA : Hid (∀ W, Bo W n (rv (rf th ρ 4)) → W.rangeAt n (19 + i * 2) [.int .i64 (x / 4294967296 : Nat), .int .i64 (x % 4294967296 : Nat)]) := fun W h => h.two (by omega) ((rf_code hlt hlt).trans (by rw [hx])) ((rf_val hlt hlt).trans (by rw [hx]))
      have RY : Hid (∀ W, Bo W n (rv (rf th ρ 4)) → W.cell? ⟨n, 27 + i, none⟩ = some (.int .u64 (y : Nat))) := fun W h => h.rcell (by omega) ((rf_when hlt hlt).trans (by rw [hy]))
      have WN : Hid _ := wq_next ρ hlt
      have fl := refFlip_yes (ρ 26 % 2 ^ i) i
      rw [hx, hy] at WN
      rw [hx] at aw
      have AW2 : Hid _ := aw
      have hg26 : ρ 26 % 2 ^ i < 18446744073709551616 := Nat.lt_of_le_of_lt (Nat.mod_le _ _) (U64.out 26 (by decide))
      have FL : Hid (∀ w, _) := fun w => fl w hg26 (by omega)
      have M1 : ρ 26 % 2 ^ (i + 1) = ρ 26 % 2 ^ i + 2 ^ i * ((ρ 26).testBit i).toNat := by rw [Nat.pow_succ, Nat.mod_mul, ← bt_test]; rfl
      rw [mod_xor] at FL
      have ew : upw (upw (wq ρ i) (18 + i) x) (22 + i) y 26 = ρ 26 % 2 ^ i := by rw [upw_neq (by omega), upw_neq (by omega)]; unfold wq; rw [if_neg (by omega), if_neg (by omega), if_neg (by omega), if_pos rfl]
      obtain ⟨g, hg⟩ : ∃ g, ρ 26 % 2 ^ i = g := ⟨_, rfl⟩
      obtain ⟨b, hb⟩ : ∃ b, (ρ 26).testBit i = b := ⟨_, rfl⟩
      have RT : Hid (∀ W, Bo W n (rv (rf th ρ 4)) → W.cell? ⟨n, 31 + i, none⟩ = some (.int .i64 (b.toNat : Nat))) := fun W h => h.rcell (by omega) ((rf_tog hlt hlt).trans (by rw [hb]))
      have HG : Hid (upw (upw (wq ρ i) (18 + i) x) (22 + i) y 26 = g) := ew.trans hg
      rw [hg, hb] at M1
      rw [hg] at FL
      clear aw hx hy fl ew hg26 hg hb
      have fa2 : IntKind.i64.wrap (18 + (i : Int)) = 18 + (i : Int) := (ixw fa0 (Int.lt_of_lt_of_le fa1 (by decide))).1
      have fb2 : IntKind.i64.wrap (22 + (i : Int)) = 22 + (i : Int) := (ixw fb0 (Int.lt_of_lt_of_le fb1 (by decide))).1
      have fc2 : IntKind.i64.wrap (19 + (i : Int) * 2) = 19 + (i : Int) * 2 := (ixw fc0 (Int.lt_of_lt_of_le fc1 (by decide))).1
      have fd2 : IntKind.i64.wrap (27 + (i : Int)) = 27 + (i : Int) := (ixw fd0 (Int.lt_of_lt_of_le fd1 (by decide))).1
      have fe2 : IntKind.i64.wrap (31 + (i : Int)) = 31 + (i : Int) := (ixw fe0 (Int.lt_of_lt_of_le fe1 (by decide))).1
      rcases b with _ | _
      · have WN2 : Hid (rl (upw (upw (wq ρ i) (18 + i) x) (22 + i) y) = rl (wq ρ (i + 1))) := by
          have h := WN.out
          rw [M1, show 2 ^ i * (false).toNat = 0 from Nat.mul_zero _, Nat.add_zero, upw_self HG.out] at h
          exact h
        clear M1 WN FL
        have bt : (((false).toNat : Nat) : Int) = 0 := rfl
        rw [bt] at RT
        clear bt
        go_wp2_with (first
          | (refine lO rfl (RA.out _ (hM.out.at 1 rfl)) rfl (rwA _ _) ?_))
        refine (AW2.out _).mono ?_
        rintro e W ⟨rfl, hb⟩
        replace hM := hid (hM.out.later hb)
        clear hb
        go_wp2_with (first
          | (refine s1 rfl (hM.out.at 0 rfl) (18 + i) rfl (.int .u64 (x : Nat)) rfl sz_u ?_ (by rw [rl_length]; exact fax)
             replace hM := hid (hM.out.put1 0 (18 + i) rfl (.int .u64 (x : Nat)) (rl (upw (wq ρ i) (18 + i) x)) (by rw [rl_length]; exact fax) (rl_set _ _ (by exact fax)))
             generalize World.setCell _ _ _ = W at hM ⊢
             have x2 := RY.out _ (hM.out.at 1 rfl))
          | (refine s1 rfl (hM.out.at 0 rfl) (22 + i) rfl (.int .u64 (y : Nat)) rfl sz_u ?_ (by rw [rl_length]; exact fbx)
             replace hM := hid (hM.out.put1 0 (22 + i) rfl (.int .u64 (y : Nat)) (rl (upw (upw (wq ρ i) (18 + i) x) (22 + i) y)) (by rw [rl_length]; exact fbx) (rl_set _ _ (by exact fbx)))
             generalize World.setCell _ _ _ = W at hM ⊢
             clear x2
             clear fa2 fb2 fc2 fd2 fa0 fa1 fb0 fb1 fc0 fc1 fd0 fd1 fax fbx fcx fdx
             have x3 := RT.out _ (hM.out.at 1 rfl)
             have x4 := (hM.out.at 0 rfl).rwordx (show 26 < 32 by decide) HG.out))
        rw [WN2.out] at hM
        clear fe2
        go_roundg (4 - (i + 1))
        case measure => omega
        case rel => exact ⟨i + 1, by omega, by omega, by go_num, hM⟩
      · have WN2 : Hid (rl (upw (upw (upw (wq ρ i) (18 + i) x) (22 + i) y) 26 (g + 2 ^ i)) = rl (wq ρ (i + 1))) := by
          have h := WN.out
          rw [M1, show 2 ^ i * (true).toNat = 2 ^ i from Nat.mul_one _] at h
          exact h
        obtain ⟨g2, hg2⟩ : ∃ g2, g + 2 ^ i = g2 := ⟨_, rfl⟩
        rw [hg2] at WN2 FL
        clear hg2 M1 WN
        have bt : (((true).toNat : Nat) : Int) = 1 := rfl
        rw [bt] at RT
        clear bt
        go_wp2_with (first
          | (refine lO rfl (RA.out _ (hM.out.at 1 rfl)) rfl (rwA _ _) ?_))
        refine (AW2.out _).mono ?_
        rintro e W ⟨rfl, hb⟩
        replace hM := hid (hM.out.later hb)
        clear hb
        go_wp2_with (first
          | (refine s1 rfl (hM.out.at 0 rfl) (18 + i) rfl (.int .u64 (x : Nat)) rfl sz_u ?_ (by rw [rl_length]; exact fax)
             replace hM := hid (hM.out.put1 0 (18 + i) rfl (.int .u64 (x : Nat)) (rl (upw (wq ρ i) (18 + i) x)) (by rw [rl_length]; exact fax) (rl_set _ _ (by exact fax)))
             generalize World.setCell _ _ _ = W at hM ⊢
             have x2 := RY.out _ (hM.out.at 1 rfl))
          | (refine s1 rfl (hM.out.at 0 rfl) (22 + i) rfl (.int .u64 (y : Nat)) rfl sz_u ?_ (by rw [rl_length]; exact fbx)
             replace hM := hid (hM.out.put1 0 (22 + i) rfl (.int .u64 (y : Nat)) (rl (upw (upw (wq ρ i) (18 + i) x) (22 + i) y)) (by rw [rl_length]; exact fbx) (rl_set _ _ (by exact fbx)))
             generalize World.setCell _ _ _ = W at hM ⊢
             clear x2
             clear fa2 fb2 fc2 fd2 fa0 fa1 fb0 fb1 fc0 fc1 fd0 fd1 fax fbx fcx fdx
             have x3 := RT.out _ (hM.out.at 1 rfl)
             have x4 := (hM.out.at 0 rfl).rwordx (show 26 < 32 by decide) HG.out))
        refine (FL.out _).mono ?_
        rintro e W ⟨rfl, hg⟩
        have hb := hg.below
        clear hg
        replace hM := hid (hM.out.later hb)
        clear hb
        clear x3 x4
        go_wp2_with (first
          | (refine s1 rfl (hM.out.at 0 rfl) 26 rfl (.int .u64 (g2 : Nat)) rfl sz_u ?_ (by rw [rl_length]; decide)
             replace hM := hid (hM.out.put1 0 26 rfl (.int .u64 (g2 : Nat)) (rl (upw (upw (upw (wq ρ i) (18 + i) x) (22 + i) y) 26 g2)) (by rw [rl_length]; decide) (rl_set _ _ (by decide)))
             generalize World.setCell _ _ _ = W at hM ⊢))
        rw [WN2.out] at hM
        clear fe2
        go_roundg (4 - (i + 1))
        case measure => omega
        case rel => exact ⟨i + 1, by omega, by omega, by go_num, hM⟩
    · obtain rfl : i = 4 := by omega
      go_wp2_with fail
      replace hM := hid (hM.out.drew)
      refine wp_region_held_drew (S := fun w' => Bo w' n (rv (rf th ρ 4))) (by kernel_rfl) (hM.out.at 1 rfl) (fun hH => ?_)
      generalize World.drew _ = W at hM hH  ⊢
      refine tk 0 rfl hH ?_
      simp only [Act.put, p1, p2, p3]
      refine tk 1 rfl hH ?_
      simp only [Act.put, p1, p2, p3]
      refine tk 2 rfl hH ?_
      simp only [Act.put, p1, p2, p3]
      refine tk 3 rfl hH ?_ (by intro w h; have c0 := h.rcell (j := 35) (by decide) rf_ver; clear h; go_simp; try with_reducible rfl)
      simp only [Act.put, p1, p2, p3]
      refine tk 4 rfl hH ?_
      simp only [Act.put, p1, p2, p3]
      refine tk 5 rfl hH ?_ (by intro w h; have c0 := h.rcell (j := 36) (by decide) rf_cnt; clear h; go_simp; try with_reducible rfl)
      simp only [Act.put, p1, p2, p3]
      refine tk 6 rfl hH ?_
      simp only [Act.put, p1, p2, p3]
      refine rd1 7 rfl (fun K hK => ?_)
      refine st1o rfl (hM.out.at 0 rfl) 27 (.int .u64 (ρ 27 : Nat)) rfl sz_u (by rw [rl_length]; decide) ?_
      replace hM := hid (hM.out.put1 0 27 rfl (.int .u64 (ρ 27 : Nat)) (rl (upw (wq ρ 4) 27 (ρ 27))) (by rw [rl_length]; decide) (rl_set _ _ (by decide)))
      refine hK.out _ _ (hM.out.at 1 rfl) (fun hH => ?_)
      clear hK K
      generalize World.setCell _ _ _ = W at hM hH ⊢
      try simp only [Act.put]
      refine tk 8 rfl hH ?_
      simp only [Act.put, p1, p2, p3]
      refine rd1 9 rfl (fun K hK => ?_)
      refine st1o rfl (hM.out.at 0 rfl) 28 (.int .u64 (ρ 28 : Nat)) rfl sz_u (by rw [rl_length]; decide) ?_
      replace hM := hid (hM.out.put1 0 28 rfl (.int .u64 (ρ 28 : Nat)) (rl (upw (upw (wq ρ 4) 27 (ρ 27)) 28 (ρ 28))) (by rw [rl_length]; decide) (rl_set _ _ (by decide)))
      refine hK.out _ _ (hM.out.at 1 rfl) (fun hH => ?_)
      clear hK K
      generalize World.setCell _ _ _ = W at hM hH ⊢
      try simp only [Act.put]
      refine wpAnyH_done (by kernel_rfl) ?_ _
      rw [wq_all] at hM
      go_wp2
      go_ret
      exact ⟨⟨_, rfl, by rw [hM.out.size]; exact hM.out.key 0 rfl, hM.out.at 0 rfl⟩, hM.out.below⟩
end Go.Proofs.YtgkgkiheoadbfaaGreatDoor.Tab
namespace Go.Proofs.YtgkgkiheoadbfaaGreatDoor.Tab
set_option maxRecDepth 20000
open Go.RowKit

theorem own_new {B : Nat} {w : World} {v : Value} {xs : List Int} (h : Own B w v xs) (o : Obj) : Own B (w.alloc o) v xs := World.ownsRow.alloc h o
theorem rwithin_yes (n a b : Int) (w : World) (h1 : a ≤ n) (h2 : n ≤ b) :
    Calls Tryz.prog 23 #[.int .i64 n, .int .i64 a, .int .i64 b] w fun e w' => e = .returned (.bool true) ∧ w' = w := by
  go_enter Tryz.func23, Tryz.ntmps23
  go_wp2
  go_ret
  exact ⟨rfl, rfl⟩
theorem rwithin_no (n a b : Int) (w : World) (h : n < a ∨ b < n) :
    Calls Tryz.prog 23 #[.int .i64 n, .int .i64 a, .int .i64 b] w fun e w' => e = .returned (.bool false) ∧ w' = w := by
  by_cases h1 : a ≤ n
  · have h2 : ¬ n ≤ b := by omega
    clear h
    go_enter Tryz.func23, Tryz.ntmps23
    go_wp2
    go_ret
    exact ⟨rfl, rfl⟩
  · clear h
    go_enter Tryz.func23, Tryz.ntmps23
    go_wp2
    go_ret
    exact ⟨rfl, rfl⟩
theorem said_is (c y : Int) (w : World) :
    Calls Tryz.prog 65 #[.int .i64 c, .int .i64 y] w fun e w' => e = .returned (.agg #[.int .i64 c, .int .i64 y]) ∧ Below w.heap.size w w' := by
  go_enter Tryz.func65, Tryz.ntmps65
  go_wp2
  exact bodyPost_ret (v := .agg #[.int .i64 c, .int .i64 y]) (by simp [results, Tryz.results65, go_sem]) rfl ⟨rfl, new_below _ _⟩

/-- The first i slots of a key's row. -/
def rowL (k : Int) (i : Nat) : List Int := (List.range i).map fun j => (rowAt k j : Int)
theorem rowL_len (k : Int) (i : Nat) : (rowL k i).length = i := by simp [rowL]
theorem rowL_succ (k : Int) (i : Nat) : rowL k (i + 1) = rowL k i ++ [(rowAt k i : Int)] := by simp [rowL, List.range_succ]
theorem rowL_at (k : Int) {i n : Nat} (h : i < n) : (rowL k n).getD i 0 = (rowAt k i : Int) := by simp [rowL, List.getD, h]

set_option maxHeartbeats 1000000 in
theorem row_is (k : Int) (h0 : 0 ≤ k) (h1 : k ≤ 1000) (w : World) :
    Calls Tryz.prog 48 #[.int .i64 k] w fun e w' => ∃ v, e = .returned v ∧ IsL w.heap.size w' v (rowL k 8) ∧ Below w.heap.size w w' := by
  have N0 : Hid (Own w.heap.size w (.slice none 0 0) []) := World.ownsRow_nil w _ _ 1
  go_enter Tryz.func48, Tryz.ntmps48
  go_wp2_with fail
  go_loopg [3, 5] 8 (fun gg s3 s5 wt => ∃ i : Nat, i ≤ 8 ∧ 8 - i ≤ gg ∧ s5 = .int .i64 i ∧ Hid (Own w.heap.size wt s3 (rowL k i)) ∧ Hid (Below w.heap.size w wt))
  case atStart => exact ⟨0, by omega, by omega, rfl, N0, Below.refl _ _⟩
  case round =>
    obtain ⟨i, hi, hgg, rfl, O, B⟩ := hrel
    clear N0
    by_cases hlt : i < 8
    · have RS : Hid (rowL k (i + 1) = rowL k i ++ [(rowAt k i : Int)]) := rowL_succ k i
      have ep : (k * 5 % 8 + (i : Int)) % 8 = (rowAt k i : Nat) := by unfold rowAt home; omega
      have hl : Hid ((rowL k i).length + 1 ≤ 1000000) := by have := rowL_len k i; show (rowL k i).length + 1 ≤ 1000000; omega
      generalize rowAt k i = p at *
      have L : Hid (IsL 0 (wr.alloc (.cells #[.int .i64 (p : Int)] 3)) (.slice (some ⟨wr.heap.size, 0, none⟩) 1 1) [(p : Int)]) := IsL.lit wr [(p : Int)] Nat.zero_lt_one
      have O' : Hid (Own w.heap.size (wr.alloc (.cells #[.int .i64 (p : Int)] 3)) u3 (rowL k i)) := own_new O.out _
      have B' : Hid (Below w.heap.size w (wr.alloc (.cells #[.int .i64 (p : Int)] 3))) := B.out.alloc B.out.size _
      clear O B
      go_wp2_with (at_builtin; refine wpList_onto rfl rfl (.tmp 8) (.tmp 15) rfl rfl rfl B'.out.size O'.out L.out hl.out ?_; intro v3 w3 hO3 hb3; have Q3 : Hid (Own w.heap.size w3 v3 (rowL k i ++ [(p : Int)]) ∧ Below w.heap.size w w3) := ⟨hO3, B'.out.trans hb3⟩; clear hO3 hb3)
      go_roundg (8 - (i + 1))
      case measure => omega
      case rel => exact ⟨i + 1, by omega, by omega, by go_num, RS.out ▸ Q3.out.1, Q3.out.2⟩
    · obtain rfl : i = 8 := by omega
      go_wp2
      go_ret
      exact ⟨_, rfl, O.out.isL, B.out⟩
theorem rslot_at0 (t : Tb) (w : World) : (Instr.index 31 (.agg t.all.toArray) (.int .i64 0)).run Tryz.prog w = .ok (.agg #[.int .i64 (t.k 0), .int .i64 (t.v 0)]) w := by kernel_rfl
theorem rslot_at1 (t : Tb) (w : World) : (Instr.index 31 (.agg t.all.toArray) (.int .i64 1)).run Tryz.prog w = .ok (.agg #[.int .i64 (t.k 1), .int .i64 (t.v 1)]) w := by kernel_rfl
theorem rslot_at2 (t : Tb) (w : World) : (Instr.index 31 (.agg t.all.toArray) (.int .i64 2)).run Tryz.prog w = .ok (.agg #[.int .i64 (t.k 2), .int .i64 (t.v 2)]) w := by kernel_rfl
theorem rslot_at3 (t : Tb) (w : World) : (Instr.index 31 (.agg t.all.toArray) (.int .i64 3)).run Tryz.prog w = .ok (.agg #[.int .i64 (t.k 3), .int .i64 (t.v 3)]) w := by kernel_rfl
theorem rslot_at4 (t : Tb) (w : World) : (Instr.index 31 (.agg t.all.toArray) (.int .i64 4)).run Tryz.prog w = .ok (.agg #[.int .i64 (t.k 4), .int .i64 (t.v 4)]) w := by kernel_rfl
theorem rslot_at5 (t : Tb) (w : World) : (Instr.index 31 (.agg t.all.toArray) (.int .i64 5)).run Tryz.prog w = .ok (.agg #[.int .i64 (t.k 5), .int .i64 (t.v 5)]) w := by kernel_rfl
theorem rslot_at6 (t : Tb) (w : World) : (Instr.index 31 (.agg t.all.toArray) (.int .i64 6)).run Tryz.prog w = .ok (.agg #[.int .i64 (t.k 6), .int .i64 (t.v 6)]) w := by kernel_rfl
theorem rslot_at7 (t : Tb) (w : World) : (Instr.index 31 (.agg t.all.toArray) (.int .i64 7)).run Tryz.prog w = .ok (.agg #[.int .i64 (t.k 7), .int .i64 (t.v 7)]) w := by kernel_rfl
theorem rslot_at (t : Tb) (i : Nat) (hi : i < 8) (w : World) :
    (Instr.index 31 (.agg t.all.toArray) (.int .i64 (i : Nat))).run Tryz.prog w = .ok (.agg #[.int .i64 (t.k i), .int .i64 (t.v i)]) w := by
  have : i = 0 ∨ i = 1 ∨ i = 2 ∨ i = 3 ∨ i = 4 ∨ i = 5 ∨ i = 6 ∨ i = 7 := by omega
  rcases this with rfl | rfl | rfl | rfl | rfl | rfl | rfl | rfl
  · exact rslot_at0 t w
  · exact rslot_at1 t w
  · exact rslot_at2 t w
  · exact rslot_at3 t w
  · exact rslot_at4 t w
  · exact rslot_at5 t w
  · exact rslot_at6 t w
  · exact rslot_at7 t w
theorem rslots_array : ∃ n e, Tryz.prog.underlying 31 = some (.array n e) := ⟨_, _, Tryz.underlying31⟩
theorem rslots_size (t : Tb) : (Tryz.prog.info? 31).map (·.size) = some t.all.length := by rw [t.all_length]; kernel_rfl
theorem rslots_size2 (t : Tb) : (Tryz.prog.info? 31).map (·.size) = some t.all.toArray.size := by rw [List.size_toArray]; exact rslots_size t
theorem rslot_size : (Tryz.prog.info? 29).map (·.size) = some 2 := by kernel_rfl

set_option maxHeartbeats 1000000 in
theorem RLen_is (t : Tb) (w : World) : Calls Tryz.prog 49 #[.agg t.all.toArray] w fun e w' => e = .returned (.int .i64 (len t : Nat)) ∧ Below w.heap.size w w' := by
  have T0 : Hid (TAt (w.alloc (.cells t.all.toArray 31)) w.heap.size t) := TAt.born w t _
  have B0 : Hid (Below w.heap.size w (w.alloc (.cells t.all.toArray 31))) := new_below w _
  have HL : Hid (cnt t 8 = len t) := cnt_len t
  go_enter Tryz.func49, Tryz.ntmps49
  go_wp2_with fail
  generalize w.alloc (.cells t.all.toArray 31) = W at T0 B0 ⊢
  generalize hn : w.heap.size = n at T0 ⊢
  have HN : Hid (w.heap.size = n) := hn
  clear hn
  go_loopg [3, 5] 8 (fun gg s3 s5 wt => W = wt ∧ ∃ i : Nat, i ≤ 8 ∧ 8 - i ≤ gg ∧ s5 = .int .i64 i ∧ ∃ c : Nat, c ≤ i ∧ s3 = .int .i64 c ∧ Hid (cnt t i = c))
  case atStart => exact ⟨rfl, 0, by omega, by omega, rfl, 0, by omega, rfl, rfl⟩
  case round =>
    obtain ⟨rfl, i, hi, hgg, rfl, c, hc, rfl, C⟩ := hrel
    by_cases hlt : i < 8
    · have hi1 : (i : Int) < 8 := by omega
      have hi0 : (0 : Int) ≤ (i : Int) := by omega
      have c0 := T0.out.key hlt
      by_cases h0 : t.k i = 0
      · have C' : Hid (cnt t (i + 1) = c) := by show cnt t i + ind t i = c; rw [C.out]; unfold ind; rw [if_pos h0]; rfl
        rw [h0] at c0
        clear h0
        go_wp2
        go_roundg (8 - (i + 1))
        case measure => omega
        case rel => exact ⟨rfl, i + 1, by omega, by omega, by go_num, c, by omega, rfl, C'⟩
      · have C' : Hid (cnt t (i + 1) = c + 1) := by show cnt t i + ind t i = c + 1; rw [C.out]; unfold ind; rw [if_neg h0]
        have m0 : (t.k i == 0) = false := by simp [h0]
        have m1 : (t.k i != 0) = true := by simp [h0]
        clear h0
        go_wp2
        go_roundg (8 - (i + 1))
        case measure => omega
        case rel => exact ⟨rfl, i + 1, by omega, by omega, by go_num, c + 1, by omega, by go_num, C'⟩
    · obtain rfl : i = 8 := by omega
      go_wp2
      go_ret
      refine ⟨by rw [← HL.out, C.out]; rfl, ?_⟩
      first | exact B0.out | exact HN.out ▸ B0.out
end Go.Proofs.YtgkgkiheoadbfaaGreatDoor.Tab
namespace Go.Proofs.YtgkgkiheoadbfaaGreatDoor.Tab
set_option maxRecDepth 20000
open Go.RowKit
theorem rwRS (t : Tb) : Rw Tryz.prog 31 t.all := ⟨let ⟨_, _, h⟩ := rslots_array; ⟨_, h, rfl⟩, rslots_size t, t.all_one⟩
theorem rwRl (x y : Int) : Rw Tryz.prog 29 [.int .i64 x, .int .i64 y] := two_row x y ⟨_, Tryz.underlying29, rfl⟩ rslot_size
end Go.Proofs.YtgkgkiheoadbfaaGreatDoor.Tab
namespace Go.Proofs.YtgkgkiheoadbfaaGreatDoor.Tab
set_option maxRecDepth 20000
open Go.RowKit
theorem rwTh (k : Int) {v : Value} (hv : v.oneCell' = true) (t : Tb) (n : Int) : Rw Tryz.prog 33 (tg k v t n) := ⟨let ⟨_, h⟩ := thing_struct; ⟨_, h, rfl⟩, thing_size k v t n, tg_one k hv t n⟩
theorem rwN : Rw Tryz.prog 33 (tg 0 (.slice none 0 0) Tb.zero 0) := rwTh 0 rfl _ _
theorem rwC (c : Nat → Nat) : Rw Tryz.prog 65 (wl c) := ⟨let ⟨_, _, h⟩ := cells_array; ⟨_, h, rfl⟩, cells_size c, wl_one c⟩
theorem sz_sl : (Tryz.prog.info? 27).map (·.size) = some 1 := by kernel_rfl
theorem sz_i : (Tryz.prog.info? 3).map (·.size) = some 1 := by kernel_rfl
end Go.Proofs.YtgkgkiheoadbfaaGreatDoor.Tab
namespace Go.Proofs.YtgkgkiheoadbfaaGreatDoor.Tab
set_option maxRecDepth 20000
open Go.RowKit
set_option linter.unusedVariables false

set_option maxHeartbeats 2000000 in
theorem same_wf {w : World} {ba bc oc ka kc : Nat} {d c : Nat → Nat} (ha : Bo w ba (wl d)) (hc : Wf w bc oc c) (v : Bool) (hv : v = true ↔ ∀ j, j < 17 → d j = c j) :
    Calls Tryz.prog 14 #[.slice (some ⟨ba, 0, none⟩) 17 ka, .slice (some ⟨bc, oc, none⟩) 17 kc] w fun e w' => e = .returned (.bool v) ∧ Below w.heap.size w w' := by
  have HA : Hid _ := ha
  have HC : Hid _ := hc
  have HV : Hid _ := hv
  clear ha hc hv
  go_enter Tryz.func14, Tryz.ntmps14
  go_wp2_with fail
  go_loopg [8] 17 (fun gg s8 wt => ∃ i q : Nat, i ≤ 17 ∧ 17 - i ≤ gg ∧ s8 = .int .i64 i ∧ wt = w.drewN q ∧ Hid (∀ j, j < i → d j = c j))
  case atStart => exact ⟨0, 0, by omega, by omega, rfl, rfl, fun j hj => absurd hj (by omega)⟩
  case round =>
    obtain ⟨i, q, hi, hgg, rfl, rfl, E⟩ := hrel
    by_cases hlt : i < 17
    · have g1 : w.cell? ⟨ba, i, none⟩ = some (.int .u64 (d i : Nat)) := HA.out.word hlt
      have g2 : w.cell? ⟨bc, oc + i, none⟩ = some (.int .u64 (c i : Nat)) := HC.out.cell i hlt
      have hi1 : (i : Int) < 17 := by omega
      have hi0 : (0 : Int) ≤ (i : Int) := by omega
      have hd : decide ((17 : Int) ≤ (i : Int)) = false := by simp; omega
      by_cases he : d i = c i
      · have E' : Hid (∀ j, j < i + 1 → d j = c j) := fun j hj => by
          by_cases e : j = i
          · subst e; exact he
          · exact E.out j (by omega)
        rw [he] at g1
        clear E he
        generalize c i = x at g1 g2
        go_wp2_with fail
        go_region
        all_goals go_wp2
        go_roundg (17 - (i + 1))
        case measure => omega
        case rel => exact ⟨i + 1, q + 1, by omega, by omega, by go_num, rfl, E'⟩
      · have e : v = false := by
          cases v
          · rfl
          · exact absurd (HV.out.1 rfl i hlt) he
        subst e
        clear HV E
        have hne : (((d i : Nat) : Int) == ((c i : Nat) : Int)) = false := by simp; omega
        clear he
        generalize d i = x at g1 hne
        generalize c i = y at g2 hne
        go_wp2_with fail
        go_region
        all_goals go_wp2
        go_ret
        exact ⟨rfl, below_drewN _ _⟩
    · obtain rfl : i = 17 := by omega
      have e : v = true := HV.out.2 E.out
      subst e
      go_wp2
      go_ret
      exact ⟨rfl, below_drewN _ _⟩
end Go.Proofs.YtgkgkiheoadbfaaGreatDoor.Tab
namespace Go.Proofs.YtgkgkiheoadbfaaGreatDoor.Tab
set_option maxRecDepth 20000
open Go.RowKit
set_option linter.unusedVariables false

def twq (t : Tb) (i : Nat) : Nat → Nat := fun j => if j < 2 * i then tw t j else 0
theorem twq_zero (t : Tb) : wl (twq t 0) = wl wz := wl_congr fun j _ => by simp [twq, wz]
theorem twq_next (t : Tb) {i : Nat} (hi : i < 8) : wl (upw (upw (twq t i) (2 * i) (t.k i).toNat) (2 * i + 1) (t.v i).toNat) = wl (twq t (i + 1)) := by
  refine wl_congr fun j _ => ?_
  unfold upw twq tw
  by_cases e1 : j = 2 * i + 1
  · subst e1
    rw [if_pos rfl, if_pos (by omega), if_pos (by omega), if_neg (by omega), show (2 * i + 1) / 2 = i by omega]
  · rw [if_neg e1]
    by_cases e0 : j = 2 * i
    · subst e0
      rw [if_pos rfl, if_pos (by omega), if_pos (by omega), if_pos (by omega), show (2 * i) / 2 = i by omega]
    · rw [if_neg e0]
      by_cases h : j < 2 * i
      · have h2 : j < 2 * (i + 1) := by omega
        simp only [h, h2, if_true]
      · have h2 : ¬ j < 2 * (i + 1) := by omega
        simp only [h, h2, if_false]
theorem twq_all (t : Tb) : wl (twq t 8) = wl (tw t) := wl_congr fun j hj => by
  unfold twq
  by_cases h : j < 16
  · rw [if_pos (by omega)]
  · rw [if_neg (by omega)]; unfold tw; rw [if_neg h]

set_option maxHeartbeats 4000000 in
theorem Cells_5 (v : Value) (t : Tb) (x : Int) (hk : ∀ i, i < 8 → 0 ≤ t.k i ∧ t.k i ≤ 4294967295) (hv : ∀ i, i < 8 → 0 ≤ t.v i ∧ t.v i ≤ 4294967295) (w : World) :
    Calls Tryz.prog 25 #[.agg (tg 5 v t x).toArray] w fun e w' => Wd w.heap.size e w' (tw t) ∧ Below w.heap.size w w' := by
  obtain ⟨na, ea, hd⟩ := rslots_array
  have HD : Hid _ := hd
  clear hd
  have HS : Hid (∀ t : Tb, (Tryz.prog.info? 31).map (·.size) = some t.all.length) := rslots_size
  have HX : Hid (∀ i : Nat, i < 8 → ∀ w, (Instr.index 31 (.agg t.all.toArray) (.int .i64 (i : Nat))).run Tryz.prog w = .ok (.agg #[.int .i64 (t.k i), .int .i64 (t.v i)]) w) := rslot_at t
  have HK : Hid _ := hk
  have HV : Hid _ := hv
  clear hk hv
  have mk := mk17b w (.cells (tg 5 v t x).toArray 33)
  have S : Hid (Bo ((w.alloc (.cells (tg 5 v t x).toArray 33)).alloc (.cells (wl wz).toArray 22)) w.heap.size (tg 5 v t x)) := (Bo.born w (tg 5 v t x) _ rfl).new _
  have L : Hid (Bo ((w.alloc (.cells (tg 5 v t x).toArray 33)).alloc (.cells (wl wz).toArray 22)) (w.heap.size + 1) (wl (twq t 0))) := by rw [twq_zero]; exact Bo.born _ (wl wz) _ (by simp)
  have G : Hid (Gd w.heap.size w ((w.alloc (.cells (tg 5 v t x).toArray 33)).alloc (.cells (wl wz).toArray 22))) := ((Gd.refl w).new _).new _
  have c0 := S.out.tcell.1
  have NX : Hid _ := @twq_next t
  have AL : Hid _ := twq_all t
  have RG : Hid _ := S.out.slots
  generalize tg 5 v t x = th at mk L G c0 RG ⊢
  clear S
  obtain ⟨cs, hcs⟩ : ∃ cs, cs = t.all := ⟨_, rfl⟩
  rw [← hcs] at RG HX
  have HS1 : Hid ((Tryz.prog.info? 31).map (·.size) = some cs.length) := by rw [hcs]; exact HS.out t
  clear hcs HS
  go_enter Tryz.func25, Tryz.ntmps25
  go_wp2_with (refine wpList_load_mid rfl 31 _ rfl w.heap.size _ rfl cs _ RG.out HD.out rfl HS1.out ?_)
  clear mk c0
  generalize (w.alloc (.cells th.toArray 33)).alloc (.cells (wl wz).toArray 22) = W at G L RG ⊢
  generalize hsz : w.heap.size = n at G L RG ⊢
  have HSZ : Hid (w.heap.size = n) := hsz
  clear hsz RG
  go_loopg [36] 8 (fun gg s36 wt => ∃ i : Nat, i ≤ 8 ∧ 8 - i ≤ gg ∧ s36 = .int .i64 i ∧ Hid (Bo wt (n + 1) (wl (twq t i))) ∧ Hid (Gd n w wt))
  case atStart => exact ⟨0, by omega, by omega, rfl, L, G⟩
  case round =>
    clear L G
    obtain ⟨i, hi, hgg, rfl, L, G⟩ := hrel
    by_cases hlt : i < 8
    · have hx := HX.out i hlt
      have k0 := HK.out i hlt
      have v0 := HV.out i hlt
      have nx := NX.out hlt
      generalize t.k i = x at hx k0 nx
      generalize t.v i = y at hx v0 nx
      obtain ⟨a, rfl⟩ : ∃ a : Nat, (a : Int) = x := ⟨x.toNat, by omega⟩
      obtain ⟨b, rfl⟩ : ∃ b : Nat, (b : Int) = y := ⟨y.toNat, by omega⟩
      rw [Int.toNat_natCast, Int.toNat_natCast] at nx
      have NX1 : Hid _ := nx
      clear nx
      have ex1 : IntKind.u64.wrap (a : Int) = a := by rw [IntKind.wrap_u64]; omega
      have ey1 : IntKind.u64.wrap (b : Int) = b := by rw [IntKind.wrap_u64]; omega
      have i1 : (i : Int) < 8 := by omega
      have i0 : (0 : Int) ≤ (i : Int) := by omega
      have i2 : 2 * (i : Int) < 17 := by omega
      have i3 : 2 * (i : Int) + 1 < 17 := by omega
      have i4 : (0 : Int) ≤ 2 * (i : Int) := by omega
      have i5 : (0 : Int) ≤ 2 * (i : Int) + 1 := by omega
      have ls : n + 1 < wr.heap.size := L.out.lt
      have L1 : Hid (Bo (wr.alloc (.cells #[.int .i64 a, .int .i64 b] 29)) (n + 1) (wl (twq t i))) := L.out.new _
      have G1 : Hid (Gd n w (wr.alloc (.cells #[.int .i64 a, .int .i64 b] 29))) := G.out.new _
      have S1 : Hid (Bo (wr.alloc (.cells #[.int .i64 a, .int .i64 b] 29)) wr.heap.size [.int .i64 a, .int .i64 b]) := Bo.born wr [.int .i64 a, .int .i64 b] _ rfl
      clear L G k0 v0
      go_wp2_with fail
      generalize wr.alloc (.cells #[.int .i64 a, .int .i64 b] 29) = V at L1 G1 S1 ⊢
      have c0 := L1.out.word (show 2 * i < 17 by omega)
      have c1 := L1.out.word (show 2 * i + 1 < 17 by omega)
      have f0 := L1.out.froz (2 * i)
      have f1 := L1.out.froz (2 * i + 1)
      have s0 := S1.out.at 0 rfl
      have s1 := S1.out.at 1 rfl
      have ne : wr.heap.size ≠ n + 1 := by omega
      generalize wr.heap.size = q at S1 s0 s1 ne ⊢
      go_region
      all_goals go_wp2
      all_goals go_roundg (8 - (i + 1))
      case measure => omega
      case rel => exact ⟨i + 1, by omega, by omega, by go_num, by rw [← NX1.out]; exact (L1.out.drew.setw a (by omega)).setw b (by omega), (G1.out.drew.aside (show n ≤ n + 1 by omega) _).aside (show n ≤ n + 1 by omega) _⟩
    · have ei : i = 8 := by omega
      subst ei
      rw [AL.out] at L
      clear hlt
      go_wp2
      go_ret
      exact ⟨⟨n + 1, rfl, by have := HSZ.out; omega, L.out⟩, G.out.2⟩
end Go.Proofs.YtgkgkiheoadbfaaGreatDoor.Tab
namespace Go.Proofs.YtgkgkiheoadbfaaGreatDoor.Tab
set_option maxRecDepth 20000
open Go.RowKit
theorem rowL_isL {B : Nat} {w : World} {v : Value} {k : Int} (h : IsL B w v (rowL k 8)) : ∃ b off c, v = .slice (some ⟨b, off, none⟩) 8 c ∧ ∀ i, i < 8 → w.cell? ⟨b, off + i, none⟩ = some (.int .i64 (rowAt k i : Nat)) := by
  rcases h with ⟨h, _⟩ | ⟨b, off, c, hv, _, _, _, hcell, _⟩
  · have := rowL_len k 8; rw [h] at this; simp at this
  · rw [rowL_len] at hv hcell
    exact ⟨b, off, c, hv, fun i hi => by rw [hcell i hi, rowL_at k hi]⟩
end Go.Proofs.YtgkgkiheoadbfaaGreatDoor.Tab
namespace Go.Proofs.YtgkgkiheoadbfaaGreatDoor.Tab
set_option maxRecDepth 20000
open Go.RowKit

theorem Gd.drewN {n : Nat} {w a : World} (h : Gd n w a) (q : Nat) : Gd n w (a.drewN q) := ⟨h.1, ⟨h.2.os, h.2.tape, h.2.output, h.2.size, h.2.block⟩⟩
theorem Bo.drewN_ {w : World} {b : Nat} {cs : List Value} (h : Bo w b cs) (q : Nat) : Bo (w.drewN q) b cs := ⟨h.cell, h.froz, h.lt⟩

/-- A slot as the document has it. -/
structure Ok (t : Tb) (i : Nat) : Prop where
  key : 0 ≤ t.k i ∧ t.k i ≤ 1000
  val : 0 ≤ t.v i ∧ t.v i ≤ 4294967295
  none : t.k i = 0 → t.v i = 0
  row : t.k i ≠ 0 → ∀ j, j < ds (home (t.k i)) i → ¬ Hit t (t.k i) (rowAt (t.k i) j)
theorem RT.ok {t : Tb} (h : RT t) {i : Nat} (hi : i < 8) : Ok t i where
  key := h.keys i hi
  val := h.vals i hi
  none := h.none i hi
  row hk j hj := h.row i hi hk _ (rowAt_lt _ _) (by rw [ds_row _ _ (by have := ds_lt (home (t.k i)) i; omega)]; exact hj)
theorem RT.of_ok {t : Tb} (hl : len t ≤ 6) (h : ∀ i, i < 8 → Ok t i) : RT t where
  keys p hp := (h p hp).key
  vals p hp := (h p hp).val
  none p hp := (h p hp).none
  row p hp hk q hq hd := by
    have := (h p hp).row hk (ds (home (t.k p)) q) hd
    rwa [row_ds _ _ hq] at this
  room := hl

set_option maxHeartbeats 4000000 in
set_option maxRecDepth 20000 in
theorem RTRight_is (t : Tb) (b : Bool) (hb : b = true ↔ RT t) (w : World) :
    Calls Tryz.prog 28 #[.agg t.all.toArray] w fun e w' => e = .returned (.bool b) ∧ Below w.heap.size w w' := by
  obtain ⟨na, ea, hd⟩ := rslots_array
  have HD : Hid _ := hd
  clear hd
  have HS : Hid (∀ t : Tb, (Tryz.prog.info? 31).map (·.size) = some t.all.length) := rslots_size
  have HZ : Hid (∀ t : Tb, (Tryz.prog.info? 31).map (·.size) = some t.all.toArray.size) := rslots_size2
  have HT : Hid ((Tryz.prog.info? 29).map (·.size) = some 2) := rslot_size
  have HA : Hid ((Tryz.prog.info? 35).map (·.size) = some 2) := answer_size
  obtain ⟨fs, ha⟩ := answer_struct
  have HDA : Hid _ := ha
  clear ha
  have HB : Hid (b = true ↔ RT t) := hb
  have HX : Hid _ := rslot_at t
  clear hb
  have G0 : Hid (Gd w.heap.size w (w.alloc (.cells t.all.toArray 31))) := (Gd.refl w).new _
  have T0 : Hid (TAt (w.alloc (.cells t.all.toArray 31)) w.heap.size t) := TAt.born w t _
  go_enter Tryz.func28, Tryz.ntmps28
  go_wp2_with (refine wpList_load_mid rfl 31 _ rfl _ _ rfl t.all _ T0.out.range HD.out rfl (HS.out t) ?_)
  generalize w.alloc (.cells t.all.toArray 31) = W at G0 T0 ⊢
  generalize w.heap.size = n at G0 T0 ⊢
  go_loopg [8] 8 (fun gg s8 wt => ∃ i : Nat, i ≤ 8 ∧ 8 - i ≤ gg ∧ s8 = .int .i64 i ∧ Hid (TAt wt n t) ∧ Hid (Gd n w wt) ∧ Hid (∀ j, j < i → Ok t j))
  case atStart => exact ⟨0, by omega, by omega, rfl, T0, G0, fun j hj => absurd hj (Nat.not_lt_zero _)⟩
  case round =>
    obtain ⟨i, hi, hgg, rfl, T, G, D⟩ := hrel
    obtain ⟨wq, rfl⟩ : ∃ wq, wq = wr := ⟨_, rfl⟩
    obtain ⟨gk0, rfl⟩ : ∃ gk0, gk0 = gk := ⟨_, rfl⟩
    clear T0 G0
    by_cases hlt : i < 8
    · have hx := HX.out i hlt
      obtain ⟨x, ex⟩ : ∃ x, t.k i = x := ⟨_, rfl⟩
      obtain ⟨y, ey⟩ : ∃ y, t.v i = y := ⟨_, rfl⟩
      have X : Hid (t.k i = x) := ex
      have Y : Hid (t.v i = y) := ey
      rw [ex, ey] at hx
      clear ex ey
      have G2 : Hid (Gd n w (wq.alloc (.cells #[.int .i64 x, .int .i64 y] 29))) := G.out.new _
      have T2 : Hid (TAt (wq.alloc (.cells #[.int .i64 x, .int .i64 y] 29)) n t) := T.out.new _
      have S2 : Hid (Bo (wq.alloc (.cells #[.int .i64 x, .int .i64 y] 29)) wq.heap.size [.int .i64 x, .int .i64 y]) := Bo.born wq [.int .i64 x, .int .i64 y] _ rfl
      have hmn : n < wq.heap.size := T.out.lt
      have c0 := S2.out.at 0 rfl
      have c1 := S2.out.at 1 rfl
      have D' : Hid (Ok t i → ∀ j, j < i + 1 → Ok t j) := fun ho j hj => by
        by_cases e : j = i
        · subst e; exact ho
        · exact D.out j (by omega)
      clear D T G
      by_cases hk : 0 ≤ x ∧ x ≤ 1000
      · have WY := rwithin_yes x 0 1000
        by_cases hv : 0 ≤ y ∧ y ≤ 4294967295
        · have WV := rwithin_yes y 0 4294967295
          by_cases h0 : x = 0
          · by_cases hy0 : y = 0
            · have OK : Hid (Ok t i) := ⟨by rw [X.out]; exact hk, by rw [Y.out]; exact hv, fun _ => by rw [Y.out, hy0], fun hn => absurd (X.out.trans h0) hn⟩
              subst h0 hy0
              go_wp2_with fail
              refine (WY _ hk.1 hk.2).mono ?_
              rintro e ux ⟨rfl, hw⟩
              rw [hw]; clear hw ux
              go_wp2_with fail
              refine (WV _ hv.1 hv.2).mono ?_
              rintro e ux ⟨rfl, hw⟩
              rw [hw]; clear hw ux
              go_wp2
              go_roundg (8 - (i + 1))
              case measure => omega
              case rel => exact ⟨i + 1, by omega, by omega, by go_num, T2, G2, D'.out OK.out⟩
            · have m0 : (x == 0) = true := by simp [h0]
              have e : b = false := by
                cases b with
                | false => rfl
                | true => exact absurd (HB.out.1 rfl) (fun hr => hy0 (by have := (hr.ok hlt).none; rw [X.out, Y.out] at this; exact this h0))
              subst e
              have my : (y == 0) = false := by simp [hy0]
              have my2 : (y != 0) = true := by simp [hy0]
              clear h0 hy0
              go_wp2_with fail
              refine (WY _ hk.1 hk.2).mono ?_
              rintro e ux ⟨rfl, hw⟩
              rw [hw]; clear hw ux
              go_wp2_with fail
              refine (WV _ hv.1 hv.2).mono ?_
              rintro e ux ⟨rfl, hw⟩
              rw [hw]; clear hw ux
              go_wp2
              go_ret
              exact ⟨rfl, G2.out.2⟩
          · have m0 : (x == 0) = false := by simp [h0]
            have H0 : Hid (x ≠ 0) := h0
            have RW := row_is x hk.1 hk.2
            have KV : Hid ((0 ≤ x ∧ x ≤ 1000) ∧ 0 ≤ y ∧ y ≤ 4294967295) := ⟨hk, hv⟩
            clear h0
            go_wp2_with fail
            refine (WY _ hk.1 hk.2).mono ?_
            rintro e ux ⟨rfl, hw⟩
            rw [hw]; clear hw ux
            go_wp2_with fail
            refine (WV _ hv.1 hv.2).mono ?_
            rintro e ux ⟨rfl, hw⟩
            rw [hw]; clear hw ux
            go_wp2_with fail
            refine (RW _).mono ?_
            rintro e W3 ⟨v, rfl, hi3, hb3⟩
            obtain ⟨bb, off, c, rfl, hcell⟩ := rowL_isL hi3
            have T3 : Hid (TAt W3 n t) := T2.out.later hb3
            have G3 : Hid (Gd n w W3) := G2.out.later hb3
            have S3 : Hid (Bo W3 wq.heap.size [.int .i64 x, .int .i64 y]) := S2.out.later hb3
            have C3 : Hid (∀ j, j < 8 → W3.cell? ⟨bb, off + j, none⟩ = some (.int .i64 (rowAt x j : Nat))) := hcell
            clear hi3 hb3 hcell RW WY WV T2 G2 S2 c0 c1 hk hv
            generalize wq.heap.size = m at S3 hmn ⊢
            obtain ⟨d, hd⟩ : ∃ d, ds (home x) i = d := ⟨_, rfl⟩
            have HDS : Hid (ds (home x) i = d) := hd
            have hd8 : d < 8 := hd ▸ ds_lt _ _
            clear hd
            go_wp2_with fail
            go_loopg [39] 8 (fun gg s39 wt => ∃ j : Nat, j ≤ d ∧ 8 - j ≤ gg ∧ s39 = .int .i64 j ∧ Hid (TAt wt n t) ∧ Hid (Bo wt m [.int .i64 x, .int .i64 y]) ∧ Hid (Gd n w wt) ∧ Hid (∀ j, j < 8 → wt.cell? ⟨bb, off + j, none⟩ = some (.int .i64 (rowAt x j : Nat))) ∧ Hid (∀ l, l < j → ¬ Hit t x (rowAt x l)))
            case atStart => exact ⟨0, by omega, by omega, rfl, T3, S3, G3, C3, fun l hl => absurd hl (Nat.not_lt_zero _)⟩
            case round =>
              obtain ⟨j, hj, hgj, rfl, T, S, G, C, E⟩ := hrel
              clear T3 G3 S3 C3
              have hj1 : (j : Int) < 8 := by omega
              have hj0 : (0 : Int) ≤ (j : Int) := by omega
              have cj := C.out j (by omega)
              have hp := rowAt_lt x j
              obtain ⟨p, hpe⟩ : ∃ p, rowAt x j = p := ⟨_, rfl⟩
              have EP : Hid (rowAt x j = p) := hpe
              rw [hpe] at cj hp
              clear hpe
              have hp1 : (p : Int) < 8 := by omega
              have hp0 : (0 : Int) ≤ (p : Int) := by omega
              by_cases hjd : j = d
              · have epi : p = i := by rw [← EP.out, hjd, ← HDS.out]; exact row_ds x i hlt
                have mp : ((p : Int) == (i : Int)) = true := by simp [epi]
                have OK : Hid (Ok t i) := ⟨by rw [X.out]; exact KV.out.1, by rw [Y.out]; exact KV.out.2, fun h => absurd (X.out.symm.trans h) H0.out, fun _ l hl => by rw [X.out] at hl ⊢; exact E.out l (by rw [HDS.out] at hl; omega)⟩
                clear epi hjd
                go_wp2
                go_roundg (8 - (i + 1))
                case measure => omega
                case rel => exact ⟨i + 1, by omega, by omega, by go_num, T, G, D'.out OK.out⟩
              · have epi : p ≠ i := by
                  intro e
                  have h1 := ds_row x j (by omega)
                  rw [EP.out, e, HDS.out] at h1
                  omega
                have mp : ((p : Int) == (i : Int)) = false := by
                  have : ¬ ((p : Int) = (i : Int)) := by omega
                  simp [this]
                have cz := T.out.key hp
                obtain ⟨z, hz⟩ : ∃ z, t.k p = z := ⟨_, rfl⟩
                have Zf : Hid (t.k p = z) := hz
                rw [hz] at cz
                have cs := S.out.at 0 rfl
                clear hz epi
                by_cases hh : z = x ∨ z = 0
                · have e : b = false := by
                    cases b with
                    | false => rfl
                    | true =>
                      have := ((HB.out.1 rfl).ok hlt).row (by rw [X.out]; exact H0.out) j (by rw [X.out, HDS.out]; omega)
                      rw [X.out, EP.out] at this
                      exact absurd (show Hit t x p by unfold Hit; rw [Zf.out]; exact hh) this
                  subst e
                  by_cases hz0 : z = 0
                  · have m1 : (z == 0) = true := by simp [hz0]
                    clear hh hz0
                    go_wp2_with fail
                    go_quiet (fail)
                    go_wp2
                    go_ret
                    exact ⟨rfl, (G.out.drewN _).2⟩
                  · have m1 : (z == 0) = false := by simp [hz0]
                    have m2 : (z == x) = true := by simp [hh.resolve_right hz0]
                    clear hh hz0
                    go_wp2_with fail
                    go_quiet (fail)
                    go_wp2
                    go_ret
                    exact ⟨rfl, (G.out.drewN _).2⟩
                · have m1 : (z == 0) = false := by simp; exact fun e => hh (Or.inr e)
                  have m2 : (z == x) = false := by simp; exact fun e => hh (Or.inl e)
                  have NH : Hid (¬ Hit t x (rowAt x j)) := by show ¬ Hit t x (rowAt x j); rw [EP.out]; unfold Hit; rw [Zf.out]; exact hh
                  clear hh
                  go_wp2_with fail
                  go_quiet (fail)
                  go_wp2
                  go_roundg (8 - (j + 1))
                  case measure => omega
                  case rel =>
                    refine ⟨j + 1, by omega, by omega, by go_num, T.out.drewN _, S.out.drewN _, G.out.drewN _, fun l hl => C.out l hl, fun l hl => ?_⟩
                    by_cases e : l = j
                    · subst e; exact NH.out
                    · exact E.out l (by omega)
        · have e : b = false := by
            cases b with
            | false => rfl
            | true => exact absurd (HB.out.1 rfl) (fun hr => hv (by have := (hr.ok hlt).val; rw [Y.out] at this; exact this))
          subst e
          have hv2 : y < 0 ∨ 4294967295 < y := by omega
          have WN := rwithin_no y 0 4294967295
          clear hv
          go_wp2_with fail
          refine (WY _ hk.1 hk.2).mono ?_
          rintro e ux ⟨rfl, hw⟩
          rw [hw]; clear hw ux
          go_wp2_with fail
          refine (WN _ hv2).mono ?_
          rintro e ux ⟨rfl, hw⟩
          rw [hw]; clear hw ux
          go_wp2
          go_ret
          exact ⟨rfl, G2.out.2⟩
      · have e : b = false := by
          cases b with
          | false => rfl
          | true => exact absurd (HB.out.1 rfl) (fun hr => hk (by have := (hr.ok hlt).key; rw [X.out] at this; exact this))
        subst e
        have hk2 : x < 0 ∨ 1000 < x := by omega
        have WN := rwithin_no x 0 1000
        clear hk
        go_wp2_with fail
        refine (WN _ hk2).mono ?_
        rintro e ux ⟨rfl, hw⟩
        rw [hw]; clear hw ux
        go_wp2
        go_ret
        exact ⟨rfl, G2.out.2⟩
    · obtain rfl : i = 8 := by omega
      have RL := RLen_is t
      obtain ⟨l, hl⟩ : ∃ l, len t = l := ⟨_, rfl⟩
      have hl8 : l ≤ 8 := hl ▸ len_le t
      have HL : Hid (len t = l) := hl
      rw [hl] at RL
      clear hl
      go_wp2_with (refine wpList_load_mid rfl 31 _ rfl _ _ rfl t.all _ T.out.range HD.out rfl (HS.out t) ?_)
      refine (RL _).mono ?_
      rintro e w3 ⟨rfl, hb3⟩
      have G3 : Hid (Gd n w w3) := G.out.later hb3
      clear hb3
      by_cases h6 : l ≤ 6
      · have e : b = true := HB.out.2 (RT.of_ok (by rw [HL.out]; exact h6) D.out)
        subst e
        have h61 : (l : Int) ≤ 6 := by omega
        go_wp2
        go_ret
        exact ⟨by first | rfl | exact congrArg (fun b => Ending.returned (.bool b)) (decide_eq_true h61), G3.out.2⟩
      · have e : b = false := by
          cases b with
          | false => rfl
          | true => have := (HB.out.1 rfl).room; rw [HL.out] at this; omega
        subst e
        have h61 : ¬ (l : Int) ≤ 6 := by omega
        go_wp2
        go_ret
        exact ⟨by first | rfl | exact congrArg (fun b => Ending.returned (.bool b)) (decide_eq_false (by omega)), G3.out.2⟩
end Go.Proofs.YtgkgkiheoadbfaaGreatDoor.Tab
namespace Go.Proofs.YtgkgkiheoadbfaaGreatDoor.Tab
set_option maxRecDepth 20000
open Go.RowKit
set_option linter.unusedVariables false

theorem rwK (kind : Int) : Rw Tryz.prog 33 [.int .i64 kind, .slice none 0 0, .int .i64 0, .int .i64 0, .int .i64 0, .int .i64 0, .int .i64 0, .int .i64 0, .int .i64 0, .int .i64 0, .int .i64 0, .int .i64 0, .int .i64 0, .int .i64 0, .int .i64 0, .int .i64 0, .int .i64 0, .int .i64 0, .int .i64 0] := by rw [← tg_nil]; exact rwTh kind rfl _ _
theorem lst_le {c : Nat → Nat} (hm : ∀ j, j < 17 → c j ≤ 4294967295) (h6 : c 0 ≤ 6) : ∀ x ∈ lst c, 0 ≤ x ∧ x ≤ 4294967295 := fun x hx => by
  simp only [lst, List.mem_map, List.mem_range] at hx
  obtain ⟨i, hi, rfl⟩ := hx
  have := hm (i + 1) (by omega)
  omega
theorem lsq_take (c : Nat → Nat) {i : Nat} (h : i < c 0) : (lst c).take i ++ [((c (i + 1) : Nat) : Int)] = (lst c).take (i + 1) := by
  have := take_more (lst c) i (by rw [lst_length]; exact h)
  rw [lst_at c h] at this
  exact this
def tbq (c : Nat → Nat) (i : Nat) : Tb := ⟨fun p => if p < i then (c (2 * p) : Nat) else 0, fun p => if p < i then (c (2 * p + 1) : Nat) else 0⟩
theorem tbq_zero (c : Nat → Nat) : tbq c 0 = Tb.zero := by
  unfold tbq Tb.zero; congr 1 <;> (funext p; simp)
theorem tbq_next (c : Nat → Nat) (i : Nat) : (tbq c i).set i (c (2 * i) : Nat) (c (2 * i + 1) : Nat) = tbq c (i + 1) := by
  unfold tbq Tb.set; congr 1 <;>
  · funext p
    by_cases e : p = i
    · subst e; simp
    · by_cases h : p < i
      · simp [e, h, show p < i + 1 by omega]
      · simp [e, h, show ¬ p < i + 1 by omega]
theorem tbq_all (c : Nat → Nat) : (tbq c 8).all = (tbl c).all := by
  unfold Tb.all
  refine List.map_congr_left fun j hj => ?_
  have : j / 2 < 8 := by have : j < 16 := by simpa using hj
                         omega
  simp [Tb.at, tbq, tbl, this]
theorem tbq_tg (c : Nat → Nat) (k : Int) (v : Value) (x : Int) : tg k v (tbq c 8) x = tg k v (tbl c) x := by unfold tg; rw [tbq_all]
theorem tg_off (k : Int) (v : Value) (t : Tb) (x : Int) {j : Nat} (hj : j < 16) : (tg k v t x)[j + 2]? = some (t.at j) := by rw [Nat.add_comm]; exact tg_at k v t x hj
theorem tg_slot (k : Int) (v : Value) (t : Tb) (x : Int) {i : Nat} (hi : i < 8) (a b : Int) : ((tg k v t x).set (2 + i * 2) (.int .i64 a)).set (2 + i * 2 + 1) (.int .i64 b) = tg k v (t.set i a b) x := by
  apply List.ext_getElem?
  intro j
  rcases j with _ | _ | j
  · simp [tg]
  · simp [tg, show ¬ 2 + i * 2 = 1 by omega]
  · by_cases hj : j < 16
    · rw [tg_off _ _ _ _ hj, List.getElem?_set, List.getElem?_set, List.length_set, tg_length, tg_off _ _ _ _ hj]
      unfold Tb.at Tb.set
      by_cases e1 : 2 + i * 2 + 1 = j + 2
      · have : j / 2 = i := by omega
        have h2 : ¬ j % 2 = 0 := by omega
        simp [e1, this, h2, show j + 2 < 19 by omega]
      · by_cases e0 : 2 + i * 2 = j + 2
        · have : j / 2 = i := by omega
          have h2 : j % 2 = 0 := by omega
          simp [e0, this, h2, show j + 2 < 19 by omega]
        · have : j / 2 ≠ i := by omega
          have e2 : ¬ 2 + i * 2 = j + 1 := by omega
          simp [e2, e0, this]
    · rw [List.getElem?_set, List.getElem?_set, List.length_set, tg_length]
      rw [if_neg (by omega), if_neg (by omega)]
      by_cases e : j = 16
      · subst e; simp [tg, Tb.all_length]
      · rw [List.getElem?_eq_none (by rw [tg_length]; omega), List.getElem?_eq_none (by rw [tg_length]; omega)]
theorem Bo.tslot {w : World} {b : Nat} {k : Int} {v : Value} {t : Tb} {x : Int} (h : Bo w b (tg k v t x)) {i : Nat} (hi : i < 8) (a c : Int) : Bo ((w.setCell ⟨b, 2 + i * 2, none⟩ (.int .i64 a)).setCell ⟨b, 2 + i * 2 + 1, none⟩ (.int .i64 c)) b (tg k v (t.set i a c) x) := by
  rw [← tg_slot k v t x hi a c]
  have h1 := h.set1 (x := .int .i64 a) (j := 2 + i * 2) (by rw [tg_length]; omega) rfl
  exact h1.set1 (x := .int .i64 c) (j := 2 + i * 2 + 1) (by rw [List.length_set, tg_length]; omega) rfl
set_option maxHeartbeats 4000000 in
theorem ThingOf_bad {kind : Int} (h : kind < 1 ∨ 6 < kind) {bc oc kc : Nat} (w : World) :
    Calls Tryz.prog 11 #[.int .i64 kind, .slice (some ⟨bc, oc, none⟩) 17 kc] w fun e w' => ∃ v t x, v.oneCell' = true ∧ e = .returned (.tuple #[.agg (tg kind v t x).toArray, .bool false]) ∧ Below w.heap.size w w' := by
  have hM : Hid _ := (((Ms.nil w).bornR (tg_zero 0).symm 33 (b := w.heap.size) rfl).bornR (tg_zero 0).symm 33 (b := w.heap.size + 1) (by simp))
  go_enter Tryz.func11, Tryz.ntmps11
  go_wp2_with (first
    | (refine sR rfl (hM.out.at 0 rfl) rfl (rwN.len (rwK kind)) (rwK kind) ?_
       replace hM := hid (hM.out.put 0 rfl _ (rwN.len (rwK kind)))
       generalize World.setCells _ _ _ _ = W at hM ⊢
       rw [← tg_nil] at hM))
  generalize hsz : w.heap.size = n at hM ⊢
  clear hsz
  refine (rwithin_no kind 1 6 _ h).mono ?_
  rintro e ux ⟨rfl, hw⟩
  rw [hw]; clear hw ux
  go_wp2_with (first
    | (refine lR rfl (hM.out.at 0 rfl) rfl (rwTh kind rfl _ _) ?_)
    | (refine sR rfl (hM.out.at 1 rfl) rfl (rwN.len (rwTh kind rfl _ _)) (rwTh kind rfl _ _) ?_
       replace hM := hid (hM.out.put 1 rfl (tg kind (.slice none 0 0) Tb.zero 0) (rwN.len (rwTh kind rfl _ _)))
       generalize World.setCells _ _ _ _ = W at hM ⊢))
  exact bodyPost_ret (res1s Tryz.results11 (hM.out.at 1 rfl) (rwTh kind rfl _ _) (.bool false)) rfl ⟨(.slice none 0 0), Tb.zero, 0, rfl, rfl, hM.out.below⟩
set_option maxHeartbeats 4000000 in
theorem ThingOf_big {kind : Int} (hk : 1 ≤ kind ∧ kind ≤ 6) {bc oc kc : Nat} {c : Nat → Nat} {w : World} (hc : Wf w bc oc c) (hj : ∃ j, j < 17 ∧ 4294967295 < c j) :
    Calls Tryz.prog 11 #[.int .i64 kind, .slice (some ⟨bc, oc, none⟩) 17 kc] w fun e w' => ∃ v t x, v.oneCell' = true ∧ e = .returned (.tuple #[.agg (tg kind v t x).toArray, .bool false]) ∧ Below w.heap.size w w' := by
  have HJ : Hid _ := hj
  have hC : Hid _ := hc
  clear hj hc
  have hM : Hid _ := (((Ms.nil w).bornR (tg_zero 0).symm 33 (b := w.heap.size) rfl).bornR (tg_zero 0).symm 33 (b := w.heap.size + 1) (by simp))
  go_enter Tryz.func11, Tryz.ntmps11
  go_wp2_with (first
    | (refine sR rfl (hM.out.at 0 rfl) rfl (rwN.len (rwK kind)) (rwK kind) ?_
       replace hM := hid (hM.out.put 0 rfl _ (rwN.len (rwK kind)))
       generalize World.setCells _ _ _ _ = W at hM ⊢
       rw [← tg_nil] at hM))
  generalize hsz : w.heap.size = n at hM ⊢
  clear hsz
  refine (rwithin_yes kind 1 6 _ hk.1 hk.2).mono ?_
  rintro e ux ⟨rfl, hw⟩
  rw [hw]; clear hw ux
  go_wp2_with fail
  go_loopg [19] 17 (fun gg s19 wt => wt = W ∧ ∃ i : Nat, i ≤ 17 ∧ 17 - i ≤ gg ∧ s19 = .int .i64 i ∧ Hid (∀ j, j < i → c j ≤ 4294967295))
  case atStart => exact ⟨rfl, 0, by omega, by omega, rfl, fun j hj => absurd hj (by omega)⟩
  case round =>
    obtain ⟨rfl, i, hi, hgg, rfl, U⟩ := hrel
    by_cases hlt : i < 17
    · have g0 := (hC.out.later hM.out.below).cell i hlt
      have hi1 : (i : Int) < 17 := by omega
      have hi0 : (0 : Int) ≤ (i : Int) := by omega
      by_cases hle : c i ≤ 4294967295
      · have U' : Hid (∀ j, j < i + 1 → c j ≤ 4294967295) := fun j hj => by
          by_cases e : j = i
          · subst e; exact hle
          · exact U.out j (by omega)
        have hd : ¬ 4294967295 < ((c i : Nat) : Int) := by omega
        clear U
        generalize c i = x at g0 hd hle
        clear hle
        go_wp2
        go_roundg (17 - (i + 1))
        case measure => omega
        case rel => exact ⟨rfl, i + 1, by omega, by omega, by go_num, U'⟩
      · have hd : 4294967295 < ((c i : Nat) : Int) := by omega
        generalize c i = x at g0 hd hle
        clear hle U
        go_wp2_with (first
          | (refine lR rfl (hM.out.at 0 rfl) rfl (rwTh kind rfl _ _) ?_)
          | (refine sR rfl (hM.out.at 1 rfl) rfl (rwN.len (rwTh kind rfl _ _)) (rwTh kind rfl _ _) ?_
             replace hM := hid (hM.out.put 1 rfl (tg kind (.slice none 0 0) Tb.zero 0) (rwN.len (rwTh kind rfl _ _)))
             generalize World.setCells _ _ _ _ = W at hM ⊢))
        exact bodyPost_ret (res1s Tryz.results11 (hM.out.at 1 rfl) (rwTh kind rfl _ _) (.bool false)) rfl ⟨(.slice none 0 0), Tb.zero, 0, rfl, rfl, hM.out.below⟩
    · obtain rfl : i = 17 := by omega
      obtain ⟨j, h1, h2⟩ := HJ.out
      exact absurd (U.out j h1) (by omega)
set_option maxHeartbeats 4000000 in
theorem ThingOf_6 {bc oc kc : Nat} {c : Nat → Nat} {w : World} {b : Bool} (hc : Wf w bc oc c) (hm : ∀ j, j < 17 → c j ≤ 4294967295) (hv : b = true ↔ ∀ j, j < 17 → tyw (c 0 : Nat) j = c j) {kind : Int} (h6 : kind = 6) :
    Calls Tryz.prog 11 #[.int .i64 kind, .slice (some ⟨bc, oc, none⟩) 17 kc] w fun e w' => e = .returned (.tuple #[.agg (tg 6 (.slice none 0 0) Tb.zero (c 0 : Nat)).toArray, .bool b]) ∧ Below w.heap.size w w' := by
  have hk : 1 ≤ kind ∧ kind ≤ 6 := by omega
  have H6 : Hid _ := h6
  have HV : Hid _ := hv
  have HM : Hid _ := hm
  have hC : Hid _ := hc
  have CC : Hid (∀ (v : Value) (t : Tb) w, _) := fun v t w => Cells_6 v t (c 0) (hm 0 (by decide)) w
  clear h6 hv hm hc
  have hM : Hid _ := (((Ms.nil w).bornR (tg_zero 0).symm 33 (b := w.heap.size) rfl).bornR (tg_zero 0).symm 33 (b := w.heap.size + 1) (by simp))
  go_enter Tryz.func11, Tryz.ntmps11
  go_wp2_with (first
    | (refine sR rfl (hM.out.at 0 rfl) rfl (rwN.len (rwK kind)) (rwK kind) ?_
       replace hM := hid (hM.out.put 0 rfl _ (rwN.len (rwK kind)))
       generalize World.setCells _ _ _ _ = W at hM ⊢
       rw [← tg_nil] at hM))
  generalize hsz : w.heap.size = n at hM ⊢
  clear hsz
  refine (rwithin_yes kind 1 6 _ hk.1 hk.2).mono ?_
  rintro e ux ⟨rfl, hw⟩
  rw [hw]; clear hw ux
  go_wp2_with fail
  go_loopg [19] 17 (fun gg s19 wt => wt = W ∧ ∃ i : Nat, i ≤ 17 ∧ 17 - i ≤ gg ∧ s19 = .int .i64 i ∧ Hid (∀ j, j < i → c j ≤ 4294967295))
  case atStart => exact ⟨rfl, 0, by omega, by omega, rfl, fun j hj => absurd hj (by omega)⟩
  case round =>
    obtain ⟨rfl, i, hi, hgg, rfl, U⟩ := hrel
    by_cases hlt : i < 17
    · have g0 := (hC.out.later hM.out.below).cell i hlt
      have hi1 : (i : Int) < 17 := by omega
      have hi0 : (0 : Int) ≤ (i : Int) := by omega
      by_cases hle : c i ≤ 4294967295
      · have U' : Hid (∀ j, j < i + 1 → c j ≤ 4294967295) := fun j hj => by
          by_cases e : j = i
          · subst e; exact hle
          · exact U.out j (by omega)
        have hd : ¬ 4294967295 < ((c i : Nat) : Int) := by omega
        clear U
        generalize c i = x at g0 hd hle
        clear hle
        go_wp2
        go_roundg (17 - (i + 1))
        case measure => omega
        case rel => exact ⟨rfl, i + 1, by omega, by omega, by go_num, U'⟩
      · exact absurd (HM.out i hlt) hle
    · obtain rfl : i = 17 := by omega
      clear U hlt
      have h6 := H6.out
      clear H6
      subst h6
      have g0 : wr.cell? ⟨bc, oc, none⟩ = _ := (hC.out.later hM.out.below).cell 0 (by decide)
      have x0 := HM.out 0 (by decide)
      have ey1 : IntKind.i64.wrap ((c 0 : Nat) : Int) = (c 0 : Nat) := by rw [IntKind.wrap_i64]; omega
      have ey2 : wrap64 ((c 0 : Nat) : Int) = (c 0 : Nat) := by unfold wrap64; omega
      go_wp2_with (first
        | (refine s1 rfl (hM.out.at 0 rfl) 18 rfl (.int .i64 (c 0 : Nat)) rfl sz_i ?_ (by rw [tg_length]; decide)
           replace hM := hid (hM.out.put1 0 18 rfl (.int .i64 (c 0 : Nat)) (tg 6 (.slice none 0 0) Tb.zero (c 0 : Nat)) (by rw [tg_length]; decide) (tg_num _ _ _ _ _))
           generalize World.setCell _ _ _ = W at hM ⊢
           clear g0))
      replace hM := hid (hM.out.drew)
      refine wp_region_held_drew (S := fun w' => Bo w' (n + 1) (tg 6 (.slice none 0 0) Tb.zero (c 0 : Nat))) (by kernel_rfl) (hM.out.at 0 rfl) (fun hH => ?_)
      generalize World.drew _ = W at hM hH  ⊢
      refine tkR 0 rfl hH (fun _ h => h) (rwTh 6 rfl _ _) ?_
      simp only [Act.put, p1, p2, p3]
      refine tkR 1 rfl hH (fun _ h => h) (rwTh 6 rfl _ _) ?_
      simp only [Act.put, p1, p2, p3]
      refine tk 3 rfl hH ?_
      simp only [Act.put, p1, p2, p3]
      refine rd1 2 rfl (fun K hK => ?_)
      go_simp
      refine (CC.out _ _ _).mono ?_
      rintro e W ⟨⟨bq, rfl, hq, hW⟩, hb⟩
      replace hM := hid (hM.out.laterB hb hq hW)
      clear hb
      go_wp2_with fail
      refine hK.out _ _ (hM.out.at 1 rfl) (fun hH => ?_)
      clear hK K
      try simp only [Act.put, p1, p2, p3]
      refine rd1 4 rfl (fun K hK => ?_)
      go_simp
      refine (same_wf (hM.out.at 0 rfl) (hC.out.later hM.out.below) _ HV.out).mono ?_
      rintro e W ⟨rfl, hb⟩
      replace hM := hid (hM.out.later hb)
      clear hb
      go_wp2_with fail
      refine hK.out _ _ (hM.out.at 1 rfl) (fun hH => ?_)
      clear hK K
      try simp only [Act.put, p1, p2, p3]
      refine rd1 5 rfl (fun K hK => ?_)
      refine stR rfl (hM.out.at 2 rfl) (rwN.len (rwTh 6 rfl _ _)) (rwTh 6 rfl _ _) ?_
      simp only [Act.put]
      replace hM := hid (hM.out.put 2 rfl (tg 6 (.slice none 0 0) Tb.zero (c 0 : Nat)) (rwN.len (rwTh 6 rfl _ _)))
      refine hK.out _ _ (hM.out.at 1 rfl) (fun hH => ?_)
      clear hK K
      generalize World.setCells _ _ _ _ = W at hM hH ⊢
      try simp only [Act.put, p1, p2, p3]
      refine tk 6 rfl hH ?_
      simp only [Act.put, p1, p2, p3]
      refine wpAnyH_done (by kernel_rfl) ?_ _
      go_wp2
      exact bodyPost_ret (res1s Tryz.results11 (hM.out.at 2 rfl) (rwTh 6 rfl _ _) (.bool _)) rfl ⟨rfl, hM.out.below⟩
set_option maxHeartbeats 8000000 in
theorem ThingOf_5n {bc oc kc : Nat} {c : Nat → Nat} {w : World} {b : Bool} (hc : Wf w bc oc c) (hm : ∀ j, j < 17 → c j ≤ 4294967295) (hr : ¬ RT (tbl c)) {kind : Int} (h5 : kind = 5) :
    Calls Tryz.prog 11 #[.int .i64 kind, .slice (some ⟨bc, oc, none⟩) 17 kc] w fun e w' => e = .returned (.tuple #[.agg (tg 5 (.slice none 0 0) (tbl c) 0).toArray, .bool false]) ∧ Below w.heap.size w w' := by
  have hk : 1 ≤ kind ∧ kind ≤ 6 := by omega
  have H5 : Hid _ := h5
  have HM : Hid _ := hm
  have hC : Hid _ := hc
  have HRT : Hid (∀ w, _) := RTRight_is (tbl c) false ⟨fun h => (by cases h), fun h => absurd h hr⟩
  have NX : Hid (∀ i, _) := fun i => tbq_next c i
  have NZ : Hid _ := tbq_zero c
  have NT : Hid (∀ k v x, _) := fun k v x => tbq_tg c k v x
  clear hm hr h5 hc
  have hM : Hid _ := (((Ms.nil w).bornR (tg_zero 0).symm 33 (b := w.heap.size) rfl).bornR (tg_zero 0).symm 33 (b := w.heap.size + 1) (by simp))
  go_enter Tryz.func11, Tryz.ntmps11
  go_wp2_with (first
    | (refine sR rfl (hM.out.at 0 rfl) rfl (rwN.len (rwK kind)) (rwK kind) ?_
       replace hM := hid (hM.out.put 0 rfl _ (rwN.len (rwK kind)))
       generalize World.setCells _ _ _ _ = W at hM ⊢
       rw [← tg_nil] at hM))
  generalize hsz : w.heap.size = n at hM ⊢
  clear hsz
  refine (rwithin_yes kind 1 6 _ hk.1 hk.2).mono ?_
  rintro e ux ⟨rfl, hw⟩
  rw [hw]; clear hw ux
  go_wp2_with fail
  go_loopg [19] 17 (fun gg s19 wt => wt = W ∧ ∃ i : Nat, i ≤ 17 ∧ 17 - i ≤ gg ∧ s19 = .int .i64 i ∧ Hid (∀ j, j < i → c j ≤ 4294967295))
  case atStart => exact ⟨rfl, 0, by omega, by omega, rfl, fun j hj => absurd hj (by omega)⟩
  case round =>
    obtain ⟨rfl, i, hi, hgg, rfl, U⟩ := hrel
    by_cases hlt : i < 17
    · have g0 := (hC.out.later hM.out.below).cell i hlt
      have hi1 : (i : Int) < 17 := by omega
      have hi0 : (0 : Int) ≤ (i : Int) := by omega
      by_cases hle : c i ≤ 4294967295
      · have U' : Hid (∀ j, j < i + 1 → c j ≤ 4294967295) := fun j hj => by
          by_cases e : j = i
          · subst e; exact hle
          · exact U.out j (by omega)
        have hd : ¬ 4294967295 < ((c i : Nat) : Int) := by omega
        clear U
        generalize c i = x at g0 hd hle
        clear hle
        go_wp2
        go_roundg (17 - (i + 1))
        case measure => omega
        case rel => exact ⟨rfl, i + 1, by omega, by omega, by go_num, U'⟩
      · exact absurd (HM.out i hlt) hle
    · obtain rfl : i = 17 := by omega
      clear U hlt
      have h5 := H5.out
      clear H5
      subst h5
      rw [← NZ.out] at hM
      go_wp2_with fail
      generalize wr = W1 at hM ⊢
      go_loopg [63] 8 (fun gg s63 wt => ∃ i : Nat, i ≤ 8 ∧ 8 - i ≤ gg ∧ s63 = .int .i64 i ∧ Hid (Ms n w wt [(n + 1, tg 5 (.slice none 0 0) (tbq c i) 0), (n, tg 0 (.slice none 0 0) Tb.zero 0)] []))
      case atStart => exact ⟨0, by omega, by omega, rfl, by rw [NZ.out] at hM ⊢; exact hM⟩
      case round =>
        clear hM
        obtain ⟨i, hi, hgg, rfl, hM⟩ := hrel
        by_cases hlt : i < 8
        · have g0 := (hC.out.later hM.out.below).cell (2 * i) (by omega)
          have g1 := (hC.out.later hM.out.below).cell (2 * i + 1) (by omega)
          have x1 := HM.out (2 * i) (by omega)
          have y1 := HM.out (2 * i + 1) (by omega)
          have l0 : wr.cell? ⟨n + 1, 2 + i * 2, none⟩ = some ((tbq c i).at (i * 2)) := hM.out.cell 0 (2 + i * 2) rfl (tg_at _ _ _ _ (show i * 2 < 16 by omega))
          have l1 : wr.cell? ⟨n + 1, 2 + i * 2 + 1, none⟩ = some ((tbq c i).at (i * 2 + 1)) := hM.out.cell 0 (2 + (i * 2 + 1)) rfl (tg_at _ _ _ _ (show i * 2 + 1 < 16 by omega))
          have f0 := hM.out.froz 0 (2 + i * 2) rfl
          have f1 := hM.out.froz 0 (2 + i * 2 + 1) rfl
          have N1 : Hid _ := NX.out i
          replace hM := hid (hM.out.drew)
          generalize c (2 * i) = x at g0 x1 N1
          generalize c (2 * i + 1) = y at g1 y1 N1
          generalize (tbq c i).at (i * 2) = z0 at l0
          generalize (tbq c i).at (i * 2 + 1) = z1 at l1
          have ex1 : IntKind.i64.wrap (x : Int) = x := by rw [IntKind.wrap_i64]; omega
          have ex2 : wrap64 (x : Int) = x := by unfold wrap64; omega
          have ey1 : IntKind.i64.wrap (y : Int) = y := by rw [IntKind.wrap_i64]; omega
          have ey2 : wrap64 (y : Int) = y := by unfold wrap64; omega
          have i1 : (i : Int) < 8 := by omega
          have i0 : (0 : Int) ≤ (i : Int) := by omega
          have i2 : 2 * (i : Int) < 17 := by omega
          have i3 : 2 * (i : Int) + 1 < 17 := by omega
          have i4 : (0 : Int) ≤ 2 * (i : Int) := by omega
          have i5 : (0 : Int) ≤ 2 * (i : Int) + 1 := by omega
          clear x1 y1
          go_wp2_with fail
          go_region
          all_goals go_wp2
          all_goals go_roundg (8 - (i + 1))
          case measure => omega
          case rel => exact ⟨i + 1, by omega, by omega, by go_num, by rw [← N1.out]; exact hM.out.putAt 0 (2 + i * 2) rfl [.int .i64 x, .int .i64 y] _ ((hM.out.at 0 rfl).tslot hlt x y)⟩
        · have ei : i = 8 := by omega
          subst ei
          clear hlt
          rw [NT.out] at hM
          go_wp2_with (first
            | (refine lO rfl (hM.out.at 0 rfl).slots rfl (rwRS (tbl c)) ?_))
          refine (HRT.out _).mono ?_
          rintro e W ⟨rfl, hb⟩
          replace hM := hid (hM.out.later hb)
          clear hb
          go_wp2_with (first
            | (refine lR rfl (hM.out.at 0 rfl) rfl (rwTh 5 rfl _ _) ?_)
            | (refine sR rfl (hM.out.at 1 rfl) rfl (rwN.len (rwTh 5 rfl _ _)) (rwTh 5 rfl _ _) ?_
               replace hM := hid (hM.out.put 1 rfl (tg 5 (.slice none 0 0) (tbl c) 0) (rwN.len (rwTh 5 rfl _ _)))
               generalize World.setCells _ _ _ _ = W at hM ⊢))
          exact bodyPost_ret (res1s Tryz.results11 (hM.out.at 1 rfl) (rwTh 5 rfl _ _) (.bool false)) rfl ⟨rfl, hM.out.below⟩
set_option maxHeartbeats 8000000 in
theorem ThingOf_5 {bc oc kc : Nat} {c : Nat → Nat} {w : World} {b : Bool} (hc : Wf w bc oc c) (hm : ∀ j, j < 17 → c j ≤ 4294967295) (hr : RT (tbl c)) (hv : b = true ↔ ∀ j, j < 17 → tw (tbl c) j = c j) {kind : Int} (h5 : kind = 5) :
    Calls Tryz.prog 11 #[.int .i64 kind, .slice (some ⟨bc, oc, none⟩) 17 kc] w fun e w' => e = .returned (.tuple #[.agg (tg 5 (.slice none 0 0) (tbl c) 0).toArray, .bool b]) ∧ Below w.heap.size w w' := by
  have hk : 1 ≤ kind ∧ kind ≤ 6 := by omega
  have H5 : Hid _ := h5
  have HV : Hid _ := hv
  clear hv
  have HM : Hid _ := hm
  have hC : Hid _ := hc
  have HRT : Hid (∀ w, _) := RTRight_is (tbl c) true ⟨fun _ => hr, fun _ => rfl⟩
  have CC : Hid (∀ (v : Value) (x : Int) w, _) := fun v x w => Cells_5 v (tbl c) x (fun i hi => by have := hm (2 * i) (by omega); simp only [tbl]; omega) (fun i hi => by have := hm (2 * i + 1) (by omega); simp only [tbl]; omega) w
  have NX : Hid (∀ i, _) := fun i => tbq_next c i
  have NZ : Hid _ := tbq_zero c
  have NT : Hid (∀ k v x, _) := fun k v x => tbq_tg c k v x
  clear hm hr h5 hc
  have hM : Hid _ := (((Ms.nil w).bornR (tg_zero 0).symm 33 (b := w.heap.size) rfl).bornR (tg_zero 0).symm 33 (b := w.heap.size + 1) (by simp))
  go_enter Tryz.func11, Tryz.ntmps11
  go_wp2_with (first
    | (refine sR rfl (hM.out.at 0 rfl) rfl (rwN.len (rwK kind)) (rwK kind) ?_
       replace hM := hid (hM.out.put 0 rfl _ (rwN.len (rwK kind)))
       generalize World.setCells _ _ _ _ = W at hM ⊢
       rw [← tg_nil] at hM))
  generalize hsz : w.heap.size = n at hM ⊢
  clear hsz
  refine (rwithin_yes kind 1 6 _ hk.1 hk.2).mono ?_
  rintro e ux ⟨rfl, hw⟩
  rw [hw]; clear hw ux
  go_wp2_with fail
  go_loopg [19] 17 (fun gg s19 wt => wt = W ∧ ∃ i : Nat, i ≤ 17 ∧ 17 - i ≤ gg ∧ s19 = .int .i64 i ∧ Hid (∀ j, j < i → c j ≤ 4294967295))
  case atStart => exact ⟨rfl, 0, by omega, by omega, rfl, fun j hj => absurd hj (by omega)⟩
  case round =>
    obtain ⟨rfl, i, hi, hgg, rfl, U⟩ := hrel
    by_cases hlt : i < 17
    · have g0 := (hC.out.later hM.out.below).cell i hlt
      have hi1 : (i : Int) < 17 := by omega
      have hi0 : (0 : Int) ≤ (i : Int) := by omega
      by_cases hle : c i ≤ 4294967295
      · have U' : Hid (∀ j, j < i + 1 → c j ≤ 4294967295) := fun j hj => by
          by_cases e : j = i
          · subst e; exact hle
          · exact U.out j (by omega)
        have hd : ¬ 4294967295 < ((c i : Nat) : Int) := by omega
        clear U
        generalize c i = x at g0 hd hle
        clear hle
        go_wp2
        go_roundg (17 - (i + 1))
        case measure => omega
        case rel => exact ⟨rfl, i + 1, by omega, by omega, by go_num, U'⟩
      · exact absurd (HM.out i hlt) hle
    · obtain rfl : i = 17 := by omega
      clear U hlt
      have h5 := H5.out
      clear H5
      subst h5
      rw [← NZ.out] at hM
      go_wp2_with fail
      generalize wr = W1 at hM ⊢
      go_loopg [63] 8 (fun gg s63 wt => ∃ i : Nat, i ≤ 8 ∧ 8 - i ≤ gg ∧ s63 = .int .i64 i ∧ Hid (Ms n w wt [(n + 1, tg 5 (.slice none 0 0) (tbq c i) 0), (n, tg 0 (.slice none 0 0) Tb.zero 0)] []))
      case atStart => exact ⟨0, by omega, by omega, rfl, by rw [NZ.out] at hM ⊢; exact hM⟩
      case round =>
        clear hM
        obtain ⟨i, hi, hgg, rfl, hM⟩ := hrel
        by_cases hlt : i < 8
        · have g0 := (hC.out.later hM.out.below).cell (2 * i) (by omega)
          have g1 := (hC.out.later hM.out.below).cell (2 * i + 1) (by omega)
          have x1 := HM.out (2 * i) (by omega)
          have y1 := HM.out (2 * i + 1) (by omega)
          have l0 : wr.cell? ⟨n + 1, 2 + i * 2, none⟩ = some ((tbq c i).at (i * 2)) := hM.out.cell 0 (2 + i * 2) rfl (tg_at _ _ _ _ (show i * 2 < 16 by omega))
          have l1 : wr.cell? ⟨n + 1, 2 + i * 2 + 1, none⟩ = some ((tbq c i).at (i * 2 + 1)) := hM.out.cell 0 (2 + (i * 2 + 1)) rfl (tg_at _ _ _ _ (show i * 2 + 1 < 16 by omega))
          have f0 := hM.out.froz 0 (2 + i * 2) rfl
          have f1 := hM.out.froz 0 (2 + i * 2 + 1) rfl
          have N1 : Hid _ := NX.out i
          replace hM := hid (hM.out.drew)
          generalize c (2 * i) = x at g0 x1 N1
          generalize c (2 * i + 1) = y at g1 y1 N1
          generalize (tbq c i).at (i * 2) = z0 at l0
          generalize (tbq c i).at (i * 2 + 1) = z1 at l1
          have ex1 : IntKind.i64.wrap (x : Int) = x := by rw [IntKind.wrap_i64]; omega
          have ex2 : wrap64 (x : Int) = x := by unfold wrap64; omega
          have ey1 : IntKind.i64.wrap (y : Int) = y := by rw [IntKind.wrap_i64]; omega
          have ey2 : wrap64 (y : Int) = y := by unfold wrap64; omega
          have i1 : (i : Int) < 8 := by omega
          have i0 : (0 : Int) ≤ (i : Int) := by omega
          have i2 : 2 * (i : Int) < 17 := by omega
          have i3 : 2 * (i : Int) + 1 < 17 := by omega
          have i4 : (0 : Int) ≤ 2 * (i : Int) := by omega
          have i5 : (0 : Int) ≤ 2 * (i : Int) + 1 := by omega
          clear x1 y1
          go_wp2_with fail
          go_region
          all_goals go_wp2
          all_goals go_roundg (8 - (i + 1))
          case measure => omega
          case rel => exact ⟨i + 1, by omega, by omega, by go_num, by rw [← N1.out]; exact hM.out.putAt 0 (2 + i * 2) rfl [.int .i64 x, .int .i64 y] _ ((hM.out.at 0 rfl).tslot hlt x y)⟩
        · have ei : i = 8 := by omega
          subst ei
          clear hlt
          rw [NT.out] at hM
          go_wp2_with (first
            | (refine lO rfl (hM.out.at 0 rfl).slots rfl (rwRS (tbl c)) ?_))
          refine (HRT.out _).mono ?_
          rintro e W ⟨rfl, hb⟩
          replace hM := hid (hM.out.later hb)
          clear hb
          go_wp2_with fail
          replace hM := hid (hM.out.drew)
          refine wp_region_held_drew (S := fun w' => Bo w' (n + 1) (tg 5 (.slice none 0 0) (tbl c) 0)) (by kernel_rfl) (hM.out.at 0 rfl) (fun hH => ?_)
          generalize World.drew _ = W at hM hH  ⊢
          refine tkR 0 rfl hH (fun _ h => h) (rwTh 5 rfl _ _) ?_
          simp only [Act.put, p1, p2, p3]
          refine tkR 1 rfl hH (fun _ h => h) (rwTh 5 rfl _ _) ?_
          simp only [Act.put, p1, p2, p3]
          refine tk 3 rfl hH ?_
          simp only [Act.put, p1, p2, p3]
          refine rd1 2 rfl (fun K hK => ?_)
          go_simp
          refine (CC.out _ _ _).mono ?_
          rintro e W ⟨⟨bq, rfl, hq, hW⟩, hb⟩
          replace hM := hid (hM.out.laterB hb hq hW)
          clear hb
          go_wp2_with fail
          refine hK.out _ _ (hM.out.at 1 rfl) (fun hH => ?_)
          clear hK K
          try simp only [Act.put, p1, p2, p3]
          refine rd1 4 rfl (fun K hK => ?_)
          go_simp
          refine (same_wf (hM.out.at 0 rfl) (hC.out.later hM.out.below) _ HV.out).mono ?_
          rintro e W ⟨rfl, hb⟩
          replace hM := hid (hM.out.later hb)
          clear hb
          go_wp2_with fail
          refine hK.out _ _ (hM.out.at 1 rfl) (fun hH => ?_)
          clear hK K
          try simp only [Act.put, p1, p2, p3]
          refine rd1 5 rfl (fun K hK => ?_)
          refine stR rfl (hM.out.at 2 rfl) (rwN.len (rwTh 5 rfl _ _)) (rwTh 5 rfl _ _) ?_
          simp only [Act.put]
          replace hM := hid (hM.out.put 2 rfl (tg 5 (.slice none 0 0) (tbl c) 0) (rwN.len (rwTh 5 rfl _ _)))
          refine hK.out _ _ (hM.out.at 1 rfl) (fun hH => ?_)
          clear hK K
          generalize World.setCells _ _ _ _ = W at hM hH ⊢
          try simp only [Act.put, p1, p2, p3]
          refine tk 6 rfl hH ?_
          simp only [Act.put, p1, p2, p3]
          refine wpAnyH_done (by kernel_rfl) ?_ _
          go_wp2
          exact bodyPost_ret (res1s Tryz.results11 (hM.out.at 2 rfl) (rwTh 5 rfl _ _) (.bool _)) rfl ⟨rfl, hM.out.below⟩
end Go.Proofs.YtgkgkiheoadbfaaGreatDoor.Tab
namespace Go.Proofs.YtgkgkiheoadbfaaGreatDoor
set_option maxRecDepth 20000
open Go.RowKit

theorem step_onto {ops : Array Oper} {o : Oper} {a : Act} {w : World} {K : Act → World → Prop} {Q : Exit → Act → World → Prop} {E : Prop}
    (hg : o.guard = none) (s x : Operand) (hop : o.op = Op.call { callee := Callee.builtin Builtin.append, args := #[s, x], argTypes := #[27, 27] })
    {B C : Nat} {v u : Value} {xs ys : List Int} (hs : a.eval s = v) (hx : a.eval x = u) (hB : B ≤ w.heap.size) (h : Own B w v xs) (k : IsL C w u ys) (hn : xs.length + ys.length ≤ 1000000)
    (hK : ∀ v' w', Own B w' v' (xs ++ ys) → Below B w w' → K (a.put o.dst v') w') :
    if Region.wanted o (yielded ops a.tmps) = true then Oper.wp Tryz.prog o a w K Q else E := by
  have hw : Region.wanted o (yielded ops a.tmps) = true := by simp [Region.wanted, hg]
  rw [if_pos hw]
  obtain ⟨v', w', hr, h1, h2⟩ := run_onto o.type hB h k hn
  unfold Oper.wp
  simp [execOp, hop, resolve, invoke, builtin, hs, hx, hr, Result.andThen]
  exact hK v' w' h1 h2
theorem apO {o : Oper} {a : Act} {w : World} {K : Act → World → Prop} {Q : Exit → Act → World → Prop} (s x : Operand) (hop : o.op = Op.call { callee := Callee.builtin Builtin.append, args := #[s, x], argTypes := #[27, 27] })
    {B C : Nat} {v u : Value} {xs ys : List Int} (hB : B ≤ w.heap.size) (h : Own B w v xs) (k : IsL C w u ys) (hs : a.eval s = v) (hx : a.eval x = u) (hn : xs.length + ys.length ≤ 1000000)
    (hK : ∀ v' w', Own B w' v' (xs ++ ys) → Below B w w' → K (a.put o.dst v') w') : o.wp Tryz.prog a w K Q := by
  obtain ⟨v', w', hr, h1, h2⟩ := run_onto o.type hB h k hn
  unfold Oper.wp
  simp [execOp, hop, resolve, invoke, builtin, hs, hx, hr, Result.andThen]
  exact hK v' w' h1 h2
end Go.Proofs.YtgkgkiheoadbfaaGreatDoor
namespace Go.Proofs.YtgkgkiheoadbfaaGreatDoor
set_option maxRecDepth 20000
open Go.RowKit

/-- b says whether xs is a heap. -/
structure Says (b : Bool) (xs : List Int) : Prop where
  iff : b = true ↔ xs.length ≤ 6 ∧ Hp xs
theorem Says.yes {xs : List Int} (h : xs.length ≤ 6) (hp : Hp xs) : Says true xs := ⟨fun _ => ⟨h, hp⟩, fun _ => rfl⟩
theorem Says.no {xs : List Int} (h : ¬ (xs.length ≤ 6 ∧ Hp xs)) : Says false xs := ⟨fun h => (by cases h), fun hh => absurd hh h⟩

theorem lit_two (w : World) (x y : Int) (t : TypeId) : (w.alloc (.cells #[.int .i64 x, .int .i64 y] t)).cell? ⟨w.heap.size, 0, none⟩ = some (.int .i64 x) ∧ (w.alloc (.cells #[.int .i64 x, .int .i64 y] t)).cell? ⟨w.heap.size, 1, none⟩ = some (.int .i64 y) := by simp

set_option maxHeartbeats 4000000 in
theorem RRight_is {B : Nat} {w : World} {v : Value} {xs : List Int} (h : IsL B w v xs) (hl : xs.length ≤ 60) :
    Calls Tryz.prog 29 #[v] w fun e w' => ∃ b : Bool, e = .returned (.bool b) ∧ Says b xs ∧ Below w.heap.size w w' := by
  rcases gt_isL h with ⟨rfl, a, c, rfl⟩ | ⟨b, off, c, rfl, h0, hc⟩
  · clear h
    go_enter Tryz.func29, Tryz.ntmps29
    go_wp2_with fail
    go_loopg [8] 0 (fun _ s8 wt => s8 = .int .i64 0 ∧ wt = w)
    case atStart => exact ⟨rfl, rfl⟩
    case round =>
      obtain ⟨rfl, rfl⟩ := hrel
      go_wp2
      go_ret
      exact ⟨true, rfl, Says.yes (by simp) (fun i _ hi => absurd hi (by simp)), Below.refl _ _⟩
  · have C : Hid (∀ j, j < xs.length → w.cell? ⟨b, off + j, none⟩ = some (.int .i64 (gt xs j))) := hc
    clear h hc
    obtain ⟨n, hn⟩ : ∃ n, n = xs.length := ⟨_, rfl⟩
    have N : Hid (n = xs.length) := hn
    rw [← hn] at C h0 hl ⊢
    clear hn
    go_enter Tryz.func29, Tryz.ntmps29
    go_wp2_with fail
    go_loopg [8] n (fun gg s8 wt => ∃ i : Nat, i ≤ n ∧ n - i ≤ gg ∧ s8 = .int .i64 i ∧ Hid (Below w.heap.size w wt) ∧ Hid (∀ k, 0 < k → k < n → (k - 1) / 2 < i → gt xs ((k - 1) / 2) ≤ gt xs k))
    case atStart => exact ⟨0, Nat.zero_le _, by omega, rfl, Below.refl _ _, fun k _ _ hk => absurd hk (by omega)⟩
    case round =>
      obtain ⟨i, hi, hgg, rfl, Q, T⟩ := hrel
      obtain ⟨w1, rfl⟩ : ∃ w1, w1 = wr := ⟨_, rfl⟩
      by_cases hlt : i < n
      · have hi1 : (i : Int) < (n : Int) := by omega
        have hi2 : (0 : Int) ≤ (i : Int) := by omega
        have LB : Hid (Below w1.heap.size w1 (w1.alloc (.cells #[.int .i64 (2 * (i : Int) + 1), .int .i64 (2 * (i : Int) + 2)] 3))) := (Below.refl _ _).alloc (Nat.le_refl _) _
        have LC : Hid ((w1.alloc (.cells #[.int .i64 (2 * (i : Int) + 1), .int .i64 (2 * (i : Int) + 2)] 3)).cell? ⟨w1.heap.size, 0, none⟩ = some (.int .i64 (2 * (i : Int) + 1)) ∧ (w1.alloc (.cells #[.int .i64 (2 * (i : Int) + 1), .int .i64 (2 * (i : Int) + 2)] 3)).cell? ⟨w1.heap.size, 1, none⟩ = some (.int .i64 (2 * (i : Int) + 2))) := lit_two _ _ _ _
        go_wp2_with fail
        generalize w1.alloc (.cells #[.int .i64 (2 * (i : Int) + 1), .int .i64 (2 * (i : Int) + 2)] 3) = W at LB LC ⊢
        obtain ⟨gk0, hgk0⟩ : ∃ gk0, gk0 = gk := ⟨_, rfl⟩
        have GK : Hid (gk = gk0) := hgk0.symm
        go_loopg [19] 2 (fun gg s19 wt => ∃ j : Nat, j ≤ 2 ∧ 2 - j ≤ gg ∧ s19 = .int .i64 j ∧ Hid (Below W.heap.size W wt) ∧ Hid (∀ k, 0 < k → k < n → (k - 1) / 2 < i ∨ k < 2 * i + 1 + j → gt xs ((k - 1) / 2) ≤ gt xs k))
        case atStart => exact ⟨0, Nat.zero_le _, by omega, rfl, Below.refl _ _, fun k k0 k1 hk => T.out k k0 k1 (by omega)⟩
        case round =>
          obtain ⟨j, hj, hgj, rfl, Q2, T2⟩ := hrel
          have Q3 : Hid (Below w.heap.size w wr) := Q.out.trans ((LB.out.trans (Q2.out.mono LB.out.size)).mono Q.out.size)
          by_cases hj2 : j < 2
          · obtain ⟨kk, hkk⟩ : ∃ kk, kk = 2 * i + 1 + j := ⟨_, rfl⟩
            have cj : wr.cell? ⟨w1.heap.size, j, none⟩ = some (.int .i64 (kk : Nat)) := by
              have hblt : w1.heap.size < W.heap.size := World.block_lt_of_cell? _ _ LC.out.1
              rw [Q2.out.cell (p := ⟨w1.heap.size, j, none⟩) hblt]
              have : j = 0 ∨ j = 1 := by omega
              rcases this with rfl | rfl
              · rw [LC.out.1]; congr 2; omega
              · rw [LC.out.2]; congr 2; omega
            have hj0 : (0 : Int) ≤ (j : Int) := by omega
            have hj1 : (j : Int) < 2 := by omega
            have hk0 : (0 : Int) ≤ (kk : Int) := by omega
            have KK : Hid (kk = 2 * i + 1 + j) := hkk
            clear hkk
            by_cases hkn : kk < n
            · have hk1 : (kk : Int) < (n : Int) := by omega
              obtain ⟨x, hx⟩ : ∃ x, gt xs kk = x := ⟨_, rfl⟩
              obtain ⟨y, hy⟩ : ∃ y, gt xs i = y := ⟨_, rfl⟩
              have g1 : wr.cell? ⟨b, off + kk, none⟩ = some (.int .i64 x) := by
                rw [Q3.out.cell (p := ⟨b, off + kk, none⟩) (World.block_lt_of_cell? _ _ (C.out kk hkn)), C.out kk hkn, hx]
              have g2 : wr.cell? ⟨b, off + i, none⟩ = some (.int .i64 y) := by
                rw [Q3.out.cell (p := ⟨b, off + i, none⟩) (World.block_lt_of_cell? _ _ (C.out i hlt)), C.out i hlt, hy]
              have X : Hid (gt xs kk = x ∧ gt xs i = y) := ⟨hx, hy⟩
              clear hx hy
              by_cases hxy : x < y
              · go_wp2_with fail
                go_quiet (fail)
                go_wp2
                go_ret
                refine ⟨false, rfl, Says.no fun ⟨_, hp⟩ => ?_, Q3.out.trans ((below_drewN _ _).mono Q3.out.size)⟩
                have ek := KK.out
                have := hp kk (by omega) (by rw [← N.out]; exact hkn)
                rw [show (kk - 1) / 2 = i by omega, X.out.1, X.out.2] at this
                omega
              · have hd2 : decide (x < y) = false := by simpa using hxy
                go_wp2_with fail
                go_quiet (fail)
                go_wp2
                go_roundg (2 - (j + 1))
                case measure => omega
                case rel =>
                  refine ⟨j + 1, by omega, by omega, by go_num, Q2.out.trans ((below_drewN _ _).mono Q2.out.size), fun k k0 k1 hk => ?_⟩
                  have ek := KK.out
                  by_cases e : k = kk
                  · subst e; rw [show (k - 1) / 2 = i by omega, X.out.1, X.out.2]; omega
                  · exact T2.out k k0 k1 (by omega)
            · have hd2 : decide ((kk : Int) < (n : Int)) = false := by simp; omega
              go_wp2_with fail
              go_quiet (fail)
              go_wp2
              go_roundg (2 - (j + 1))
              case measure => omega
              case rel =>
                refine ⟨j + 1, by omega, by omega, by go_num, Q2.out.trans ((below_drewN _ _).mono Q2.out.size), fun k k0 k1 hk => ?_⟩
                have ek := KK.out
                exact T2.out k k0 k1 (by omega)
          · obtain rfl : j = 2 := by omega
            go_wp2
            go_roundg (n - (i + 1))
            case measure => omega
            case rel => exact ⟨i + 1, by omega, by omega, by go_num, Q3, fun k k0 k1 hk => T2.out k k0 k1 (by omega)⟩
      · obtain rfl : i = n := by omega
        have hp : Hid (Hp xs) := fun k k0 k1 => T.out k k0 (by rw [N.out]; exact k1) (by rw [N.out]; omega)
        by_cases h6 : i ≤ 6
        · have h6i : (i : Int) ≤ 6 := by omega
          go_wp2
          go_ret
          exact ⟨true, rfl, Says.yes (by rw [← N.out]; exact h6) hp.out, Q.out⟩
        · have h6i : ¬ (i : Int) ≤ 6 := by omega
          have h6d : decide ((i : Int) ≤ 6) = false := by simpa using h6i
          go_wp2
          go_ret
          exact Or.inl ⟨rfl, Says.no (fun h => h6 (by rw [N.out]; exact h.1)), Q.out⟩
theorem RRight_yes {B : Nat} {w : World} {v : Value} {xs : List Int} (h : IsL B w v xs) (hl : xs.length ≤ 6) (hp : Hp xs) :
    Calls Tryz.prog 29 #[v] w fun e w' => e = .returned (.bool true) ∧ Below w.heap.size w w' :=
  (RRight_is h (by omega)).mono fun _ _ ⟨b, he, hs, hb⟩ => ⟨by rw [he, hs.iff.2 ⟨hl, hp⟩], hb⟩
theorem RRight_isnt {B : Nat} {w : World} {v : Value} {xs : List Int} (h : IsL B w v xs) (hl : xs.length ≤ 60) (hr : ¬ (xs.length ≤ 6 ∧ Hp xs)) :
    Calls Tryz.prog 29 #[v] w fun e w' => e = .returned (.bool false) ∧ Below w.heap.size w w' :=
  (RRight_is h hl).mono fun _ _ ⟨b, he, hs, hb⟩ => ⟨by
    cases b with
    | false => exact he
    | true => exact absurd (hs.iff.1 rfl) hr, hb⟩
end Go.Proofs.YtgkgkiheoadbfaaGreatDoor
