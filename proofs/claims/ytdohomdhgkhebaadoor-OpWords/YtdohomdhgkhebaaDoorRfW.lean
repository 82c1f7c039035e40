/- The reference's OpWord and OpOf, by their contracts. -/
import Derived.Test.YtdohomdhgkhebaaDoorOpW
import Derived.Test.YtdohomdhgkhebaaDoorRfR
namespace Go.Proofs.YtdohomdhgkhebaaDoor
open Go.RowKit

theorem RfWord_no {o k v : Int} (h : ¬ Rt o k v) (w : World) :
    Calls Tryd.prog 7 #[.agg #[.int .i64 o, .int .i64 k, .int .i64 v]] w fun e w' => e = .returned (.tuple #[.int .u64 0, .int .i64 1]) ∧ Gr w w' := by
  go_enter Tryd.func7, Tryd.ntmps7
  go_wp2_with (go_at_call 18; refine (RfRight_isnt h _).mono ?_; rintro e w' ⟨rfl, rfl⟩)
  go_ret2
  exact ⟨rfl, ((Gr.refl w).alloc _ _).alloc _ _⟩

theorem RfWord_yes {o k v : Nat} (h : Rt o k v) (w : World) :
    Calls Tryd.prog 7 #[.agg #[.int .i64 o, .int .i64 k, .int .i64 v]] w fun e w' => e = .returned (.tuple #[.int .u64 (wordN o k v : Nat), .int .i64 0]) ∧ Gr w w' := by
  obtain ⟨h1, h2, h3, h4, h5, h6⟩ := id h
  go_enter Tryd.func7, Tryd.ntmps7
  go_wp2_with (go_at_call 18; refine (RfRight_is h _).mono ?_; rintro e w' ⟨rfl, rfl⟩)
  go_ret2
  exact ⟨ret_pair' (by unfold wordN; omega), ((Gr.refl w).alloc _ _).alloc _ _⟩

theorem RfOf_core (x : Nat) (hx : (x : Int) < 18446744073709551616) (a b c : Int) (w : World) (e0 : (x : Int) / 65536 / 4294967296 = a) (e1 : (x : Int) / 4294967296 % 65536 = b) (e2 : (x : Int) % 4294967296 = c) (h : Rt a b c) :
    Calls Tryd.prog 10 #[.int .u64 x] w fun e w' => e = .returned (.tuple #[.agg #[.int .i64 a, .int .i64 b, .int .i64 c], .int .i64 0]) ∧ Gr w w' := by
  go_enter Tryd.func10, Tryd.ntmps10
  go_wp2_with (go_at_call 18; refine (RfRight_is h _).mono ?_; rintro e w' ⟨rfl, rfl⟩)
  exact bodyPost_ret (v := .tuple #[.agg #[.int .i64 a, .int .i64 b, .int .i64 c], .int .i64 0]) (by simp [results, Tryd.results10, go_sem]) rfl ⟨rfl, (((Gr.refl w).alloc _ _).alloc _ _).alloc _ _⟩

theorem RfOf_cono (x : Nat) (hx : (x : Int) < 18446744073709551616) (a b c : Int) (w : World) (e0 : (x : Int) / 65536 / 4294967296 = a) (e1 : (x : Int) / 4294967296 % 65536 = b) (e2 : (x : Int) % 4294967296 = c) (h : ¬ Rt a b c) :
    Calls Tryd.prog 10 #[.int .u64 x] w fun e w' => e = .returned (.tuple #[.agg #[.int .i64 0, .int .i64 0, .int .i64 0], .int .i64 3]) ∧ Gr w w' := by
  go_enter Tryd.func10, Tryd.ntmps10
  go_wp2_with (go_at_call 18; refine (RfRight_isnt h _).mono ?_; rintro e w' ⟨rfl, rfl⟩)
  exact bodyPost_ret (v := .tuple #[.agg #[.int .i64 0, .int .i64 0, .int .i64 0], .int .i64 3]) (by simp [results, Tryd.results10, go_sem]) rfl ⟨rfl, (((Gr.refl w).alloc _ _).alloc _ _).alloc _ _⟩

theorem RfOf_yes {o k v : Nat} (h : Rt o k v) (w : World) :
    Calls Tryd.prog 10 #[.int .u64 (wordN o k v : Nat)] w fun e w' => e = .returned (.tuple #[.agg #[.int .i64 o, .int .i64 k, .int .i64 v], .int .i64 0]) ∧ Gr w w' := by
  obtain ⟨p1, p2, p3⟩ := wordN_parts h
  have hx := wordN_lt h
  exact RfOf_core _ (by omega) _ _ _ w (by omega) (by omega) (by omega) h

theorem RfOf_no (x : Nat) (hx : x < 18446744073709551616) (h : NoWord x) (w : World) :
    Calls Tryd.prog 10 #[.int .u64 (x : Nat)] w fun e w' => e = .returned (.tuple #[.agg #[.int .i64 0, .int .i64 0, .int .i64 0], .int .i64 3]) ∧ Gr w w' :=
  RfOf_cono x (by omega) _ _ _ w (by omega) (by omega) (by omega) h
end Go.Proofs.YtdohomdhgkhebaaDoor
