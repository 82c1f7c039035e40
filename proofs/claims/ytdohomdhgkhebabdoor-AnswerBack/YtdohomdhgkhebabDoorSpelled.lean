/- The keepers' fact of an operation, by its contract. -/
import Derived.Test.YtdohomdhgkhebabDoorParse
import Derived.Test.YtdohomdhgkhebabDoorSay
import Derived.Test.YtdohomdhgkhebabDoorOpW
namespace Go.Proofs.YtdohomdhgkhebabDoor
open Go.RowKit

/-- What the variables hold, the names of answers too. -/
structure Ec (w : World) : Prop where
  en : En w
  cd : Cd w
theorem Ec.later {w w' : World} (h : Ec w) (hb : Below w.heap.size w w') : Ec w' := ⟨h.en.later hb, h.cd.later hb⟩

theorem dec_1 (n : Nat) (h : n < 10) : Lib.itoa (n : Int) = [UInt8.ofNat (48 + n)] := by rw [itoa_nat, Lib.decDigits_one h]

theorem txt_137 : txt ((1 : Nat) : Int) ((3 : Nat) : Int) ((7 : Nat) : Int) = [112, 117, 116, 58, 51, 61, 55] := by
  unfold txt prt
  rw [if_neg (by decide), if_neg (by decide), dec_1 3 (by decide), dec_1 7 (by decide)]
  decide
theorem txt_250 : txt ((2 : Nat) : Int) ((5 : Nat) : Int) ((0 : Nat) : Int) = [116, 97, 107, 101, 58, 53] := by
  unfold txt prt
  rw [if_neg (by decide), if_pos (by decide), dec_1 5 (by decide)]
  decide
theorem say_14 : say ((1 : Nat) : Int) ((4 : Nat) : Int) = [100, 111, 110, 101, 32, 52] := by
  unfold say prt
  rw [if_neg (by decide), dec_1 4 (by decide)]
  decide

theorem Print_137 (w : World) (hE : En w) :
    Calls Tryd.prog 9 #[.agg #[.int .i64 1, .int .i64 3, .int .i64 7]] w fun e w' => e = .returned (.tuple #[.string ⟨#[112, 117, 116, 58, 51, 61, 55]⟩, .nilIface]) ∧ Below w.heap.size w w' := by
  have h := Print_yes (o := 1) (k := 3) (v := 7) ⟨by decide, by decide, by decide, by decide, by decide, by decide⟩ w hE.pw hE.wh
  rw [txt_137] at h
  exact h
theorem Parse_250 (w : World) (hE : En w) :
    Calls Tryd.prog 12 #[.string ⟨#[116, 97, 107, 101, 58, 53]⟩] w fun e w' => e = .returned (.tuple #[.agg #[.int .i64 2, .int .i64 5, .int .i64 0], .nilIface]) ∧ Below w.heap.size w w' := by
  have h := Parse_txt (o := 2) (k := 5) (v := 0) ⟨by decide, by decide, by decide, by decide, by decide, by decide⟩ w hE
  rw [txt_250] at h
  exact h
theorem Word_137 (w : World) :
    Calls Tryd.prog 8 #[.agg #[.int .i64 1, .int .i64 3, .int .i64 7]] w fun e w' => e = .returned (.tuple #[.int .u64 281487861612551, .nilIface]) ∧ Below w.heap.size w w' :=
  (Word_yes (o := 1) (k := 3) (v := 7) ⟨by decide, by decide, by decide, by decide, by decide, by decide⟩ w).mono fun _ _ ⟨he, hg⟩ => ⟨he, hg.below⟩
theorem Say_14 (w : World) (hE : En w) (hC : Cd w) :
    Calls Tryd.prog 16 #[.agg #[.int .i64 1, .int .i64 4]] w fun e w' => e = .returned (.string ⟨#[100, 111, 110, 101, 32, 52]⟩) ∧ Below w.heap.size w w' := by
  have h := Say_yes (c := 1) (v := 4) ⟨by decide, by decide, by decide, by decide, Or.inl rfl⟩ w hE.pw hC
  rw [say_14] at h
  exact h

set_option maxHeartbeats 2000000 in
theorem spelled_any (w : World) (hE : Ec w) : Calls Tryd.prog 7 #[] w fun e w' => e = .returned (.bool true) ∧ Below w.heap.size w w' := by
  have b0 : Hid _ := (Below.refl w.heap.size w).alloc (Nat.le_refl _) (.cells #[.int .i64 1, .int .i64 3, .int .i64 7] 23)
  have E0 : Hid _ := hE.later b0.out
  clear hE
  go_enter Tryd.func7, Tryd.ntmps7
  go_wp2_with fail
  refine (Print_137 _ E0.out.en).mono ?_
  rintro e w1 ⟨rfl, hb1⟩
  have B1 : Hid _ := hb1
  have E1 : Hid _ := E0.out.later hb1
  clear hb1 E0
  go_wp2_with fail
  refine (Parse_250 _ E1.out.en).mono ?_
  rintro e w2 ⟨rfl, hb2⟩
  have B2 : Hid _ := (B1.out.trans (hb2.mono B1.out.size)).alloc (Nat.le_trans B1.out.size hb2.size) (.cells #[.int .i64 2, .int .i64 5, .int .i64 0] 23)
  have bn : Hid _ := (Below.refl w2.heap.size w2).alloc (Nat.le_refl _) (.cells #[.int .i64 2, .int .i64 5, .int .i64 0] 23)
  have E2 : Hid _ := (E1.out.later hb2).later bn.out
  have x0 := Below.bx B2.out 0 rfl
  have x1 := Below.bx B2.out 1 rfl
  have x2 := Below.bx B2.out 2 rfl
  clear hb2 E1 B1
  go_wp2_with fail
  refine (Word_137 _).mono ?_
  rintro e w3 ⟨rfl, hb3⟩
  have y0 := Below.bx hb3 0 rfl
  have y1 := Below.bx hb3 1 rfl
  have y2 := Below.bx hb3 2 rfl
  have B3 : Hid _ := B2.out.trans (hb3.mono B2.out.size)
  have E3 : Hid _ := E2.out.later hb3
  clear hb3 E2 B2 x0 x1 x2
  go_wp2_with fail
  refine (Say_14 _ E3.out.en E3.out.cd).mono ?_
  rintro e w4 ⟨rfl, hb4⟩
  go_wp2
  go_ret
  exact ⟨rfl, b0.out.trans ((B3.out.trans (hb4.mono B3.out.size)).mono b0.out.size)⟩
end Go.Proofs.YtdohomdhgkhebabDoor
