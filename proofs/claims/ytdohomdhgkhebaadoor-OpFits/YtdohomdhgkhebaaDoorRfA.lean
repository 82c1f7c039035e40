/- The reference's Fits, AnswerWord and AnswerOf, by their contracts. -/
import Derived.Test.YtdohomdhgkhebaaDoorOpA
import Derived.Test.YtdohomdhgkhebaaDoorRfR
namespace Go.Proofs.YtdohomdhgkhebaaDoor
open Go.RowKit

theorem RfFits_is {c v : Int} (h : Ft c v) (w : World) :
    Calls Tryd.prog 15 #[.agg #[.int .i64 c, .int .i64 v]] w fun e w' => e = .returned (.bool true) ∧ w' = w.alloc (.cells #[.int .i64 c, .int .i64 v] 40) := by
  obtain ⟨h1, h2, h3, h4, h5⟩ := h
  by_cases hc : c = 1
  · subst hc
    clear h5
    go_enter Tryd.func15, Tryd.ntmps15
    go_wp2_with (go_at_call 22; refine (rwithin_yes _ _ _ _ (by omega) (by omega)).mono ?_; rintro e w' ⟨rfl, rfl⟩)
    go_ret
    exact ⟨rfl, rfl⟩
  · obtain rfl : v = 0 := by omega
    clear h5
    have hc' : (c == 1) = false := beq_eq_false_iff_ne.2 hc
    go_enter Tryd.func15, Tryd.ntmps15
    go_wp2_with (go_at_call 22; refine (rwithin_yes _ _ _ _ (by omega) (by omega)).mono ?_; rintro e w' ⟨rfl, rfl⟩)
    go_ret
    exact ⟨rfl, rfl⟩

theorem RfFits_isnt {c v : Int} (h : ¬ Ft c v) (w : World) :
    Calls Tryd.prog 15 #[.agg #[.int .i64 c, .int .i64 v]] w fun e w' => e = .returned (.bool false) ∧ w' = w.alloc (.cells #[.int .i64 c, .int .i64 v] 40) := by
  rcases not_ft h with h1 | ⟨⟨h1, h2⟩, h3 | ⟨⟨h3, h4⟩, hc, hv⟩⟩
  · clear h
    go_enter Tryd.func15, Tryd.ntmps15
    go_wp2_with (go_at_call 22; refine (rwithin_no _ _ _ _ h1).mono ?_; rintro e w' ⟨rfl, rfl⟩)
    go_ret
    exact ⟨rfl, rfl⟩
  · clear h
    go_enter Tryd.func15, Tryd.ntmps15
    go_wp2_with fail
    refine (rwithin_yes _ _ _ _ h1 h2).mono ?_
    rintro e w' ⟨rfl, rfl⟩
    go_wp2_with fail
    refine (rwithin_no _ _ _ _ h3).mono ?_
    rintro e w' ⟨rfl, rfl⟩
    go_wp2
    go_ret
    exact ⟨rfl, rfl⟩
  · clear h
    have hv' : (v == 0) = false := beq_eq_false_iff_ne.2 hv
    have hc' : (c == 1) = false := beq_eq_false_iff_ne.2 hc
    go_enter Tryd.func15, Tryd.ntmps15
    go_wp2_with fail
    refine (rwithin_yes _ _ _ _ h1 h2).mono ?_
    rintro e w' ⟨rfl, rfl⟩
    go_wp2_with fail
    refine (rwithin_yes _ _ _ _ h3 h4).mono ?_
    rintro e w' ⟨rfl, rfl⟩
    go_wp2
    go_ret
    exact ⟨rfl, rfl⟩

theorem RfAnswer_no {c v : Int} (h : ¬ Ft c v) (w : World) :
    Calls Tryd.prog 12 #[.agg #[.int .i64 c, .int .i64 v]] w fun e w' => e = .returned (.tuple #[.int .u64 0, .int .i64 1]) ∧ Gr w w' := by
  go_enter Tryd.func12, Tryd.ntmps12
  go_wp2_with (go_at_call 15; refine (RfFits_isnt h _).mono ?_; rintro e w' ⟨rfl, rfl⟩)
  go_ret2
  exact ⟨rfl, ((Gr.refl w).alloc _ _).alloc _ _⟩

theorem RfAnswer_yes {c v : Nat} (h : Ft c v) (w : World) :
    Calls Tryd.prog 12 #[.agg #[.int .i64 c, .int .i64 v]] w fun e w' => e = .returned (.tuple #[.int .u64 (ansN c v : Nat), .int .i64 0]) ∧ Gr w w' := by
  obtain ⟨h1, h2, h3, h4, h5⟩ := id h
  clear h5
  go_enter Tryd.func12, Tryd.ntmps12
  go_wp2_with (go_at_call 15; refine (RfFits_is h _).mono ?_; rintro e w' ⟨rfl, rfl⟩)
  go_ret2
  exact ⟨ret_pair' (by unfold ansN; omega), ((Gr.refl w).alloc _ _).alloc _ _⟩

theorem RfTold_core (x : Nat) (hx : (x : Int) < 18446744073709551616) (a b : Int) (w : World) (e0 : (x : Int) / 4294967296 = a) (e2 : (x : Int) % 4294967296 = b) (h : Ft a b) :
    Calls Tryd.prog 16 #[.int .u64 x] w fun e w' => e = .returned (.tuple #[.agg #[.int .i64 a, .int .i64 b], .int .i64 0]) ∧ Gr w w' := by
  go_enter Tryd.func16, Tryd.ntmps16
  go_wp2_with (go_at_call 15; refine (RfFits_is h _).mono ?_; rintro e w' ⟨rfl, rfl⟩)
  exact bodyPost_ret (v := .tuple #[.agg #[.int .i64 a, .int .i64 b], .int .i64 0]) (by simp [results, Tryd.results16, go_sem]) rfl ⟨rfl, (((Gr.refl w).alloc _ _).alloc _ _).alloc _ _⟩

theorem RfTold_cono (x : Nat) (hx : (x : Int) < 18446744073709551616) (a b : Int) (w : World) (e0 : (x : Int) / 4294967296 = a) (e2 : (x : Int) % 4294967296 = b) (h : ¬ Ft a b) :
    Calls Tryd.prog 16 #[.int .u64 x] w fun e w' => e = .returned (.tuple #[.agg #[.int .i64 0, .int .i64 0], .int .i64 3]) ∧ Gr w w' := by
  go_enter Tryd.func16, Tryd.ntmps16
  go_wp2_with (go_at_call 15; refine (RfFits_isnt h _).mono ?_; rintro e w' ⟨rfl, rfl⟩)
  exact bodyPost_ret (v := .tuple #[.agg #[.int .i64 0, .int .i64 0], .int .i64 3]) (by simp [results, Tryd.results16, go_sem]) rfl ⟨rfl, (((Gr.refl w).alloc _ _).alloc _ _).alloc _ _⟩

theorem RfTold_yes {c v : Nat} (h : Ft c v) (w : World) :
    Calls Tryd.prog 16 #[.int .u64 (ansN c v : Nat)] w fun e w' => e = .returned (.tuple #[.agg #[.int .i64 c, .int .i64 v], .int .i64 0]) ∧ Gr w w' := by
  obtain ⟨p1, p2⟩ := ansN_parts h
  have hx := ansN_lt h
  exact RfTold_core _ (by omega) _ _ w (by omega) (by omega) h

theorem RfTold_no (x : Nat) (hx : x < 18446744073709551616) (h : NoAns x) (w : World) :
    Calls Tryd.prog 16 #[.int .u64 (x : Nat)] w fun e w' => e = .returned (.tuple #[.agg #[.int .i64 0, .int .i64 0], .int .i64 3]) ∧ Gr w w' :=
  RfTold_cono x (by omega) _ _ w (by omega) (by omega) h
end Go.Proofs.YtdohomdhgkhebaaDoor
