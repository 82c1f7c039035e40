/- Package op's Word and Of, by their contracts. -/
import Derived.Test.YtdohomdhgkhebabDoorOpR
namespace Go.Proofs.YtdohomdhgkhebabDoor
open Go.RowKit

/-- An operation as a word. -/
def wordN (o k v : Nat) : Nat := (o * 65536 + k) * 4294967296 + v

theorem wordN_lt {o k v : Nat} (h : Rt o k v) : wordN o k v < 18446744073709551616 := by
  obtain ⟨h1, h2, h3, h4, h5, h6⟩ := h
  unfold wordN; omega

theorem wordN_parts {o k v : Nat} (h : Rt o k v) : wordN o k v / 281474976710656 = o ∧ wordN o k v / 4294967296 % 65536 = k ∧ wordN o k v % 4294967296 = v := by
  obtain ⟨h1, h2, h3, h4, h5, h6⟩ := h
  unfold wordN; omega

theorem wordN_of (x : Nat) : wordN (x / 281474976710656) (x / 4294967296 % 65536) (x % 4294967296) = x := by
  unfold wordN; omega

theorem ret_pair' {k : IntKind} {a b : Int} {v : Value} (h : a = b) : Ending.returned (.tuple #[.int k a, v]) = .returned (.tuple #[.int k b, v]) := by rw [h]

theorem word_or (o k v : Nat) (h2 : (o : Int) ≤ 6) (h4 : (k : Int) ≤ 1000) (h6 : (v : Int) ≤ 4294967295) :
    bits .or .u64 (bits .or .u64 ((o : Int) * 281474976710656) ((k : Int) * 4294967296)) (v : Int) = ((wordN o k v : Nat) : Int) := by
  have e1 : (o : Int) * 281474976710656 = ((o * 281474976710656 : Nat) : Int) := by omega
  have e2 : (k : Int) * 4294967296 = ((k * 4294967296 : Nat) : Int) := by omega
  have a1 := Nat.two_pow_add_eq_or_of_lt (i := 48) (b := k * 4294967296) (by omega) o
  have a2 := Nat.two_pow_add_eq_or_of_lt (i := 32) (b := v) (by omega) (o * 65536 + k)
  have b1 : o * 281474976710656 ||| k * 4294967296 = (o * 65536 + k) * 4294967296 := by
    rw [Nat.mul_comm o 281474976710656]
    refine a1.symm.trans ?_
    omega
  have b2 : (o * 65536 + k) * 4294967296 ||| v = wordN o k v := by
    rw [Nat.mul_comm (o * 65536 + k) 4294967296]
    refine a2.symm.trans ?_
    unfold wordN; omega
  rw [e1, e2, u64_or_nat _ _ (by omega) (by omega), b1, u64_or_nat _ _ (by omega) (by omega), b2]

theorem and_mask (y m : Nat) (hy : y < 18446744073709551616) (hm : m ≤ 32) : bits .and .u64 (y : Int) ((2 ^ m - 1 : Nat) : Int) = ((y % 2 ^ m : Nat) : Int) := by
  have : 2 ^ m - 1 < 18446744073709551616 := by
    have : 2 ^ m ≤ 2 ^ 32 := Nat.pow_le_pow_right (by decide) hm
    omega
  rw [u64_and_nat _ _ hy this, Nat.and_two_pow_sub_one_eq_mod]

theorem of_what (x : Nat) (hx : x < 18446744073709551616) : wrap64 ((x : Int) / 281474976710656) = ((x / 281474976710656 : Nat) : Int) := by
  rw [IntWalk.wrap64_in _ (by omega)]; omega
theorem of_key (x : Nat) (hx : x < 18446744073709551616) : wrap64 (bits .and .u64 ((x : Int) / 4294967296) 65535) = ((x / 4294967296 % 65536 : Nat) : Int) := by
  have e : (x : Int) / 4294967296 = ((x / 4294967296 : Nat) : Int) := by omega
  have := and_mask (x / 4294967296) 16 (by omega) (by decide)
  rw [e, show (65535 : Int) = ((2 ^ 16 - 1 : Nat) : Int) from rfl, this, IntWalk.wrap64_in _ (by omega)]
theorem of_val (x : Nat) (hx : x < 18446744073709551616) : wrap64 (bits .and .u64 (x : Int) 4294967295) = ((x % 4294967296 : Nat) : Int) := by
  have := and_mask x 32 hx (by decide)
  rw [show (4294967295 : Int) = ((2 ^ 32 - 1 : Nat) : Int) from rfl, this, IntWalk.wrap64_in _ (by omega)]

theorem Word_no {o k v : Int} (h : ¬ Rt o k v) (w : World) :
    Calls Tryd.prog 8 #[.agg #[.int .i64 o, .int .i64 k, .int .i64 v]] w fun e w' => e = .returned (.tuple #[.int .u64 0, .iface 46 (.int .i64 1)]) ∧ Gr w w' := by
  go_enter Tryd.func8, Tryd.ntmps8
  go_wp2_with (go_at_call 10; refine (Right_isnt h _).mono ?_; rintro e w' ⟨rfl, rfl⟩)
  go_ret2
  exact ⟨rfl, ((Gr.refl w).alloc _ _).alloc _ _⟩

theorem Word_yes {o k v : Nat} (h : Rt o k v) (w : World) :
    Calls Tryd.prog 8 #[.agg #[.int .i64 o, .int .i64 k, .int .i64 v]] w fun e w' => e = .returned (.tuple #[.int .u64 (wordN o k v : Nat), .nilIface]) ∧ Gr w w' := by
  obtain ⟨h1, h2, h3, h4, h5, h6⟩ := id h
  go_enter Tryd.func8, Tryd.ntmps8
  go_wp2_with (go_at_call 10; refine (Right_is h _).mono ?_; rintro e w' ⟨rfl, rfl⟩)
  go_ret2
  exact ⟨ret_pair' (word_or o k v h2 h4 h6), ((Gr.refl w).alloc _ _).alloc _ _⟩

theorem Of_core (x : Nat) (a b c : Int) (w : World) (e0 : wrap64 ((x : Int) / 281474976710656) = a) (e1 : wrap64 (bits .and .u64 ((x : Int) / 4294967296) 65535) = b) (e2 : wrap64 (bits .and .u64 (x : Int) 4294967295) = c) (h : Rt a b c) :
    Calls Tryd.prog 11 #[.int .u64 x] w fun e w' => e = .returned (.tuple #[.agg #[.int .i64 a, .int .i64 b, .int .i64 c], .nilIface]) ∧ Gr w w' := by
  go_enter Tryd.func11, Tryd.ntmps11
  go_wp2_with (go_at_call 10; refine (Right_is h _).mono ?_; rintro e w' ⟨rfl, rfl⟩)
  exact bodyPost_ret (v := .tuple #[.agg #[.int .i64 a, .int .i64 b, .int .i64 c], .nilIface]) (by simp [results, Tryd.results11, go_sem]) rfl ⟨rfl, (((Gr.refl w).alloc _ _).alloc _ _).alloc _ _⟩

theorem Of_cono (x : Nat) (a b c : Int) (w : World) (e0 : wrap64 ((x : Int) / 281474976710656) = a) (e1 : wrap64 (bits .and .u64 ((x : Int) / 4294967296) 65535) = b) (e2 : wrap64 (bits .and .u64 (x : Int) 4294967295) = c) (h : ¬ Rt a b c) :
    Calls Tryd.prog 11 #[.int .u64 x] w fun e w' => e = .returned (.tuple #[.agg #[.int .i64 0, .int .i64 0, .int .i64 0], .iface 46 (.int .i64 3)]) ∧ Gr w w' := by
  go_enter Tryd.func11, Tryd.ntmps11
  go_wp2_with (go_at_call 10; refine (Right_isnt h _).mono ?_; rintro e w' ⟨rfl, rfl⟩)
  exact bodyPost_ret (v := .tuple #[.agg #[.int .i64 0, .int .i64 0, .int .i64 0], .iface 46 (.int .i64 3)]) (by simp [results, Tryd.results11, go_sem]) rfl ⟨rfl, (((Gr.refl w).alloc _ _).alloc _ _).alloc _ _⟩

theorem Of_yes {o k v : Nat} (h : Rt o k v) (w : World) :
    Calls Tryd.prog 11 #[.int .u64 (wordN o k v : Nat)] w fun e w' => e = .returned (.tuple #[.agg #[.int .i64 o, .int .i64 k, .int .i64 v], .nilIface]) ∧ Gr w w' := by
  obtain ⟨p1, p2, p3⟩ := wordN_parts h
  have hx := wordN_lt h
  exact Of_core _ _ _ _ w (by rw [of_what _ hx, p1]) (by rw [of_key _ hx, p2]) (by rw [of_val _ hx, p3]) h

/-- No operation is this word. -/
def NoWord (x : Nat) : Prop := ¬ Rt ((x / 281474976710656 : Nat) : Int) ((x / 4294967296 % 65536 : Nat) : Int) ((x % 4294967296 : Nat) : Int)

theorem Of_no (x : Nat) (hx : x < 18446744073709551616) (h : NoWord x) (w : World) :
    Calls Tryd.prog 11 #[.int .u64 (x : Nat)] w fun e w' => e = .returned (.tuple #[.agg #[.int .i64 0, .int .i64 0, .int .i64 0], .iface 46 (.int .i64 3)]) ∧ Gr w w' :=
  Of_cono x _ _ _ w (of_what x hx) (of_key x hx) (of_val x hx) h

theorem word_cases (x : Nat) : NoWord x ∨ ∃ o k v : Nat, Rt o k v ∧ x = wordN o k v := by
  by_cases h : Rt ((x / 281474976710656 : Nat) : Int) ((x / 4294967296 % 65536 : Nat) : Int) ((x % 4294967296 : Nat) : Int)
  · exact Or.inr ⟨_, _, _, h, (wordN_of x).symm⟩
  · exact Or.inl h
end Go.Proofs.YtdohomdhgkhebabDoor
