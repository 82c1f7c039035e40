/- Package ram, by its contracts. -/
import Derived.Test.YtfmgdjnmaphhjaaDoorMem
import Derived.Test.YtfmgdjnmaphhjaaDoorProg
import Derived.Lib.SliceRun
import Derived.BigFrame
namespace Go.Proofs.YtfmgdjnmaphhjaaDoor
open Go.RowKit

theorem has_yes (a : Int) (p : Value) (w : World) (h0 : 0 ≤ a) (h1 : a < 16) :
    Calls Tryd.prog 10 #[p, .int .i64 a] w fun e w' => e = .returned (.bool true) ∧ w' = w := by
  go_enter Tryd.func10, Tryd.ntmps10
  go_wp2
  go_ret
  exact ⟨rfl, rfl⟩

theorem has_no (a : Int) (p : Value) (w : World) (h : a < 0 ∨ 16 ≤ a) :
    Calls Tryd.prog 10 #[p, .int .i64 a] w fun e w' => e = .returned (.bool false) ∧ w' = w := by
  by_cases h2 : a < 0
  · have : ¬ 0 ≤ a := by omega
    clear h
    go_enter Tryd.func10, Tryd.ntmps10
    go_wp2
    go_ret
    exact ⟨rfl, rfl⟩
  · have h3 : 0 ≤ a := by omega
    have h4 : ¬ a < 16 := by omega
    clear h
    go_enter Tryd.func10, Tryd.ntmps10
    go_wp2
    go_ret
    exact ⟨rfl, rfl⟩

def rangeErr : Value := .iface 30 (.int .i64 2)

theorem Load_yes (a b : Nat) (f : Nat → Int) (w : World) (ha : a < 16) (hs : RowAt w b 16 f) :
    Calls Tryd.prog 8 #[.pointer (some ⟨b, 0, none⟩), .int .i64 a] w fun e w' => e = .returned (.tuple #[.int .u64 (f a), .nilIface]) ∧ w' = w := by
  have hc := hs.cell a ha
  go_enter Tryd.func8, Tryd.ntmps8
  go_wp2_with (go_at_call 10; refine (has_yes _ _ _ (by omega) (by omega)).mono ?_; rintro e w' ⟨rfl, rfl⟩)
  go_ret2
  exact ⟨rfl, rfl⟩

theorem Load_no (a : Int) (p : Value) (w : World) (h : a < 0 ∨ 16 ≤ a) :
    Calls Tryd.prog 8 #[p, .int .i64 a] w fun e w' => e = .returned (.tuple #[.int .u64 0, rangeErr]) ∧ w' = w := by
  go_enter Tryd.func8, Tryd.ntmps8
  go_wp2_with (go_at_call 10; refine (has_no _ _ _ (by omega)).mono ?_; rintro e w' ⟨rfl, rfl⟩)
  go_ret2
  exact ⟨rfl, rfl⟩

theorem Save_yes (a b : Nat) (x : Int) (f : Nat → Int) (w : World) (ha : a < 16) (hs : RowAt w b 16 f) :
    Calls Tryd.prog 5 #[.pointer (some ⟨b, 0, none⟩), .int .i64 a, .int .u64 x] w fun e w' => e = .returned .nilIface ∧ RowAt w' b 16 (upd f a x) ∧ Only b w w' := by
  have hc := hs.cell a ha
  have hf := hs.froz a
  go_enter Tryd.func5, Tryd.ntmps5
  go_wp2_with (go_at_call 10; refine (has_yes _ _ _ (by omega) (by omega)).mono ?_; rintro e w' ⟨rfl, rfl⟩)
  go_ret
  exact ⟨rfl, hs.set a x, (Only.refl _ _).setCell _ _⟩

theorem Save_no (a : Int) (p v : Value) (w : World) (h : a < 0 ∨ 16 ≤ a) :
    Calls Tryd.prog 5 #[p, .int .i64 a, v] w fun e w' => e = .returned rangeErr ∧ w' = w := by
  go_enter Tryd.func5, Tryd.ntmps5
  go_wp2_with (go_at_call 10; refine (has_no _ _ _ (by omega)).mono ?_; rintro e w' ⟨rfl, rfl⟩)
  go_ret
  exact ⟨rfl, rfl⟩

theorem Swap_yes (a b : Nat) (x : Int) (f : Nat → Int) (w : World) (ha : a < 16) (hs : RowAt w b 16 f) :
    Calls Tryd.prog 6 #[.pointer (some ⟨b, 0, none⟩), .int .i64 a, .int .u64 (f a), .int .u64 x] w fun e w' => e = .returned (.tuple #[.bool true, .nilIface]) ∧ RowAt w' b 16 (upd f a x) ∧ Only b w w' := by
  have hc := hs.cell a ha
  have hf := hs.froz a
  go_enter Tryd.func6, Tryd.ntmps6
  go_wp2_with (go_at_call 10; refine (has_yes _ _ _ (by omega) (by omega)).mono ?_; rintro e w' ⟨rfl, rfl⟩)
  go_ret2
  exact ⟨rfl, hs.set a x, (Only.refl _ _).setCell _ _⟩

theorem Swap_is (a b : Nat) (o x : Int) (f : Nat → Int) (w : World) (ha : a < 16) (ho : f a = o) (hs : RowAt w b 16 f) :
    Calls Tryd.prog 6 #[.pointer (some ⟨b, 0, none⟩), .int .i64 a, .int .u64 o, .int .u64 x] w fun e w' => e = .returned (.tuple #[.bool true, .nilIface]) ∧ RowAt w' b 16 (upd f a x) ∧ Only b w w' := by
  subst ho; exact Swap_yes a b x f w ha hs

theorem Swap_not (a b : Nat) (o x : Int) (f : Nat → Int) (w : World) (ha : a < 16) (ho : f a ≠ o) (hs : RowAt w b 16 f) :
    Calls Tryd.prog 6 #[.pointer (some ⟨b, 0, none⟩), .int .i64 a, .int .u64 o, .int .u64 x] w fun e w' => e = .returned (.tuple #[.bool false, .nilIface]) ∧ w' = w := by
  have hc := hs.cell a ha
  have ho' : (f a == o) = false := by simpa using ho
  go_enter Tryd.func6, Tryd.ntmps6
  go_wp2_with (go_at_call 10; refine (has_yes _ _ _ (by omega) (by omega)).mono ?_; rintro e w' ⟨rfl, rfl⟩)
  go_ret2
  exact ⟨rfl, rfl⟩

theorem Swap_no (a : Int) (p v u : Value) (w : World) (h : a < 0 ∨ 16 ≤ a) :
    Calls Tryd.prog 6 #[p, .int .i64 a, v, u] w fun e w' => e = .returned (.tuple #[.bool false, rangeErr]) ∧ w' = w := by
  go_enter Tryd.func6, Tryd.ntmps6
  go_wp2_with (go_at_call 10; refine (has_no _ _ _ (by omega)).mono ?_; rintro e w' ⟨rfl, rfl⟩)
  go_ret2
  exact ⟨rfl, rfl⟩

theorem zero_u64 (w : World) : (zeroValue 24).run Tryd.prog w = .ok (.int .u64 0) w := by kernel_rfl
theorem Clear_any (b : Nat) (f : Nat → Int) (w : World) (hs : RowAt w b 16 f) :
    Calls Tryd.prog 7 #[.pointer (some ⟨b, 0, none⟩)] w fun e w' => e = .returned (.tuple #[]) ∧ RowAt w' b 16 (fun _ => 0) ∧ Only b w w' := by
  have hcl : ∀ ty c, (Builtin.clear_ #[43] ty #[.slice (some ⟨b, 0, none⟩) 16 c]).run Tryd.prog w = .ok (.tuple #[]) (w.setCells b 0 (List.replicate 16 (.int .u64 0))) :=
    fun ty c => Lib.run_clear_slice w 43 24 ty (.int .u64 0) Tryd.underlying43 zero_u64 rfl rfl b 0 16 c (by decide) (fun j hj => (hs.there j hj).1) (fun j hj => (hs.there j hj).2)
  have H : RowAt (w.setCells b 0 (List.replicate 16 (.int .u64 0))) b 16 (fun _ => 0) := hs.all _ _ (by simp) (fun j hj => by rw [List.getElem?_replicate, if_pos hj])
  have O : Only b w (w.setCells b 0 (List.replicate 16 (.int .u64 0))) := (Only.refl _ _).setCells _ _
  generalize (w.setCells b 0 (List.replicate 16 (.int .u64 0))) = W at *
  have HH : Hid _ := H
  have OO : Hid _ := O
  clear H O
  go_enter Tryd.func7, Tryd.ntmps7
  go_wp2_with (simp only [hcl])
  go_end0
  exact ⟨rfl, HH.out, OO.out⟩
end Go.Proofs.YtfmgdjnmaphhjaaDoor
