/- Package object's Is and Name, and the reference's KindName, by their contracts. -/
import Derived.Test.YtbmgjpdfmgcigaaDoorEn
import Derived.Test.YtbmgjpdfmgcigaaDoorShelf
namespace Go.Proofs.YtbmgjpdfmgcigaaDoor
open Go.RowKit
set_option linter.unusedVariables false

theorem Is_yes {a : Int} (h1 : 1 ≤ a) (h6 : a ≤ 6) (w : World) : Calls Tryd.prog 6 #[.int .i64 a] w fun e w' => e = .returned (.bool true) ∧ w' = w := by
  go_enter Tryd.func6, Tryd.ntmps6
  go_wp2
  go_ret
  exact ⟨rfl, rfl⟩
theorem Is_no {a : Int} (h : a < 1 ∨ 6 < a) (w : World) : Calls Tryd.prog 6 #[.int .i64 a] w fun e w' => e = .returned (.bool false) ∧ w' = w := by
  by_cases h1 : 1 ≤ a
  · have h2 : ¬ a ≤ 6 := by omega
    clear h
    go_enter Tryd.func6, Tryd.ntmps6
    go_wp2
    go_ret
    exact ⟨rfl, rfl⟩
  · clear h
    go_enter Tryd.func6, Tryd.ntmps6
    go_wp2
    go_ret
    exact ⟨rfl, rfl⟩
theorem rwithin_yes (n a b : Int) (w : World) (h1 : a ≤ n) (h2 : n ≤ b) :
    Calls Tryd.prog 7 #[.int .i64 n, .int .i64 a, .int .i64 b] w fun e w' => e = .returned (.bool true) ∧ w' = w := by
  go_enter Tryd.func7, Tryd.ntmps7
  go_wp2
  go_ret
  exact ⟨rfl, rfl⟩
theorem rwithin_no (n a b : Int) (w : World) (h : n < a ∨ b < n) :
    Calls Tryd.prog 7 #[.int .i64 n, .int .i64 a, .int .i64 b] w fun e w' => e = .returned (.bool false) ∧ w' = w := by
  by_cases h1 : a ≤ n
  · have h2 : ¬ n ≤ b := by omega
    clear h
    go_enter Tryd.func7, Tryd.ntmps7
    go_wp2
    go_ret
    exact ⟨rfl, rfl⟩
  · clear h
    go_enter Tryd.func7, Tryd.ntmps7
    go_wp2
    go_ret
    exact ⟨rfl, rfl⟩
theorem Name_no {a : Int} (h : a < 1 ∨ 6 < a) (w : World) : Calls Tryd.prog 4 #[.int .i64 a] w fun e w' => e = .returned (.string ⟨#[63]⟩) ∧ w' = w := by
  have I : Hid _ := Is_no h
  clear h
  go_enter Tryd.func4, Tryd.ntmps4
  go_wp2_with fail
  refine (I.out _).mono ?_
  rintro e w1 ⟨rfl, rfl⟩
  go_wp2
  go_ret
  exact ⟨rfl, rfl⟩
theorem Name_yes {a : Nat} (h1 : 1 ≤ a) (h6 : a ≤ 6) (w : World) (hn : Kn w) : Calls Tryd.prog 4 #[.int .i64 (a : Nat)] w fun e w' => e = .returned (.string ⟨(knm a).toArray⟩) ∧ w' = w := by
  have I : Hid _ := Is_yes (a := (a : Nat)) (by omega) (by omega)
  have hc := hn a h6
  have a0 : (0 : Int) ≤ (a : Nat) := by omega
  have a7 : ((a : Nat) : Int) < 7 := by omega
  clear h1 h6 hn
  go_enter Tryd.func4, Tryd.ntmps4
  go_wp2_with fail
  refine (I.out _).mono ?_
  rintro e w1 ⟨rfl, rfl⟩
  go_wp2
  go_ret
  exact ⟨rfl, rfl⟩
theorem KName_no {a : Int} (h : a < 1 ∨ 6 < a) (w : World) : Calls Tryd.prog 5 #[.int .i64 a] w fun e w' => e = .returned (.string ⟨#[63]⟩) ∧ w' = w := by
  have I : Hid _ := fun w => rwithin_no a 1 6 w h
  clear h
  go_enter Tryd.func5, Tryd.ntmps5
  go_wp2_with fail
  refine (I.out _).mono ?_
  rintro e w1 ⟨rfl, rfl⟩
  go_wp2
  go_ret
  exact ⟨rfl, rfl⟩

def six : List UInt8 := [113, 117, 101, 117, 101, 32, 115, 116, 97, 99, 107, 32, 100, 101, 113, 117, 101, 32, 104, 101, 97, 112, 32, 116, 97, 98, 108, 101, 32, 116, 97, 108, 108, 121]
theorem six_fields : Lib.fields six = [knm 1, knm 2, knm 3, knm 4, knm 5, knm 6] := by decide +kernel
theorem six_ascii : ∀ b ∈ six, b.toNat < 128 := by decide +kernel
theorem fields_any (w : World) (hA : As w) :
    Calls Tryd.prog 8 #[.string ⟨#[113, 117, 101, 117, 101, 32, 115, 116, 97, 99, 107, 32, 100, 101, 113, 117, 101, 32, 104, 101, 97, 112, 32, 116, 97, 98, 108, 101, 32, 116, 97, 108, 108, 121]⟩] w fun e w' => e = .returned (.slice (some ⟨w.heap.size, 0, none⟩) 6 6) ∧ Below w.heap.size w w' ∧ ∀ j : Nat, j ≤ 5 → w'.cell? ⟨w.heap.size, j, none⟩ = some (.string ⟨(knm (j + 1)).toArray⟩) := by
  refine (sh_strings_Fields_laid ⟨six.toArray⟩ w (by decide) (fun j b h => six_ascii b (List.mem_of_getElem? h)) hA).mono ?_
  rintro e w' ⟨he, hw⟩
  have e6 : Lib.fields (⟨six.toArray⟩ : ByteArray).data.toList = [knm 1, knm 2, knm 3, knm 4, knm 5, knm 6] := six_fields
  rw [e6] at he hw
  subst hw
  refine ⟨he, (Below.refl _ _).alloc (Nat.le_refl _) _, fun j hj => ?_⟩
  rw [World.cell?_alloc_new]
  obtain rfl | rfl | rfl | rfl | rfl | rfl : j = 0 ∨ j = 1 ∨ j = 2 ∨ j = 3 ∨ j = 4 ∨ j = 5 := by omega
  all_goals rfl
theorem KName_yes {j : Nat} (h : j ≤ 5) (w : World) (hA : As w) : Calls Tryd.prog 5 #[.int .i64 ((j : Int) + 1)] w fun e w' => e = .returned (.string ⟨(knm (j + 1)).toArray⟩) ∧ Below w.heap.size w w' := by
  have I : Hid _ := fun w => rwithin_yes ((j : Int) + 1) 1 6 w (by omega) (by omega)
  have A0 : Hid _ := hA
  have hj0 : (0 : Int) ≤ (j : Int) := by omega
  have hj1 : (j : Int) < 6 := by omega
  have hwr : IntKind.i64.wrap (j : Int) = (j : Int) := IntWalk.i64_in _ (by omega)
  have hwr2 : IntKind.i64.wrap ((j : Int) + 1 - 1) = (j : Int) := by rw [show (j : Int) + 1 - 1 = j by omega]; exact hwr
  have HJ : Hid (j ≤ 5) := h
  clear hA h
  go_enter Tryd.func5, Tryd.ntmps5
  go_wp2_with fail
  refine (I.out _).mono ?_
  rintro e w1 ⟨rfl, rfl⟩
  go_wp2_with fail
  refine (fields_any _ A0.out).mono ?_
  rintro e w2 ⟨rfl, hb, hc⟩
  have hcj := hc j HJ.out
  have B : Hid _ := hb
  clear hc hb
  go_wp2
  go_ret
  exact ⟨rfl, B.out⟩
end Go.Proofs.YtbmgjpdfmgcigaaDoor
