/- The reference's digitsOf, by its contract. -/
import Derived.Test.YtdohomdhgkhebabFmtTxtRef
import Derived.Test.YtdohomdhgkhebabFmtRfR
import Derived.Lib.Strings
import Derived.Lib.CutLaws
import Derived.RegionTactic
import Derived.ChangeAlike
namespace Go.Proofs.YtdohomdhgkhebabFmt
open Go.RowKit

theorem drop_ba (s : ByteArray) (k : Nat) : s.extract k s.size = ⟨(s.data.toList.drop k).toArray⟩ := by
  have ht : List.take (s.size - k) (List.drop k s.data.toList) = List.drop k s.data.toList :=
    List.take_of_length_le (by rw [List.length_drop, ← Lib.size_eq]; exact Nat.le_refl _)
  rw [Lib.extract_eq, ht]

theorem ret_dig {a b : Int} {s t : ByteArray} (h : a = b) (g : s = t) : Ending.returned (.tuple #[.int .i64 a, .string s]) = .returned (.tuple #[.int .i64 b, .string t]) := by rw [h, g]

theorem head_at (s : ByteArray) (h : 0 < s.size) : s.data.toList.head? = some s[0] := by
  have hl : 0 < s.data.toList.length := by rw [← Lib.size_eq]; exact h
  rw [List.head?_eq_getElem?, List.getElem?_eq_getElem hl]
  rfl

/-- How the loop ends: the text is at its end, or a byte is no digit, or twelve are read. -/
theorem dig_ends (s : ByteArray) (k : Nat) (hk : dgLen s.data.toList = k) : k = s.size ∨ (∃ h : k < s.size, s[k].toNat < 48 ∨ 57 < s[k].toNat) ∨ (∃ h : k < s.size, 48 ≤ s[k].toNat ∧ s[k].toNat ≤ 57 ∧ k = 12) := by
  subst hk
  have hle := dgLen_le s.data.toList
  have hz : s.size = s.data.toList.length := Lib.size_eq s
  by_cases h1 : dgLen s.data.toList = s.size
  · exact Or.inl h1
  · have h2 : dgLen s.data.toList < s.size := by omega
    have hl : dgLen s.data.toList < s.data.toList.length := by omega
    by_cases h3 : dgLen s.data.toList = 12
    · by_cases h4 : 48 ≤ s[dgLen s.data.toList].toNat ∧ s[dgLen s.data.toList].toNat ≤ 57
      · exact Or.inr (Or.inr ⟨h2, h4.1, h4.2, h3⟩)
      · exact Or.inr (Or.inl ⟨h2, by omega⟩)
    · have := dgLen_stop s.data.toList (by omega) hl
      have hg : s.data.toList[dgLen s.data.toList] = s[dgLen s.data.toList] := rfl
      rw [hg] at this
      simp only [isDig, decide_eq_false_iff_not] at this
      exact Or.inr (Or.inl ⟨h2, by omega⟩)

/-- What is read then. -/
theorem dig_none (s : ByteArray) (k : Nat) (hk : dgLen s.data.toList = k) (h : k = 0 ∨ s.data.toList.head? = some 48) : dgNum s.data.toList = -1 ∧ (⟨(dgRest s.data.toList).toArray⟩ : ByteArray) = s := by
  unfold dgNum dgRest
  rw [hk, if_pos h, if_pos h]
  exact ⟨rfl, rfl⟩
theorem dig_some (s : ByteArray) (k : Nat) (hk : dgLen s.data.toList = k) (h : ¬ (k = 0 ∨ s.data.toList.head? = some 48)) : dgNum s.data.toList = ((dgVal k s.data.toList : Nat) : Int) ∧ (⟨(dgRest s.data.toList).toArray⟩ : ByteArray) = s.extract k s.size := by
  unfold dgNum dgRest
  rw [hk, if_neg h, if_neg h, drop_ba]
  exact ⟨rfl, rfl⟩

set_option maxHeartbeats 4000000 in
theorem digits_any (s : ByteArray) (hs : s.size ≤ 1000) (w : World) :
    Calls Tryf.prog 12 #[.string s] w fun e w' => e = .returned (.tuple #[.int .i64 (dgNum s.data.toList), .string ⟨(dgRest s.data.toList).toArray⟩]) ∧ Below w.heap.size w w' := by
  have hz : Hid (s.size = s.data.toList.length) := Lib.size_eq s
  have hle : Hid _ := dgLen_le s.data.toList
  have hs' : (s.size : Int) ≤ 1000 := by omega
  go_enter Tryf.func12, Tryf.ntmps12
  go_wp2
  go_loop [4, 5] (fun n i => ∃ k : Nat, k ≤ dgLen s.data.toList ∧ i = .int .i64 k ∧ n = .int .i64 (dgVal k s.data.toList : Nat)) (fun _ i => 12 - (intOf i).toNat)
  case atStart => exact ⟨0, Nat.zero_le _, rfl, rfl⟩
  case round =>
    obtain ⟨k, hk, rfl, rfl⟩ := hrel
    have hvl : ((dgVal k s.data.toList : Nat) : Int) < 1000000000000 := by
      have h := dgVal_lt s.data.toList k hk
      have h2 : 10 ^ k ≤ 10 ^ 12 := Nat.pow_le_pow_right (by decide) (by have := hle.out.1; omega)
      omega
    by_cases hlt : k < dgLen s.data.toList
    · have hkl : k < s.data.toList.length := by have := hle.out.2; omega
      have hks : k < s.size := by rw [hz.out]; exact hkl
      have hd := dgLen_get s.data.toList k hlt hkl
      have hg : s.data.toList[k] = s[k] := rfl
      have HS : Hid (dgVal (k + 1) s.data.toList = dgVal k s.data.toList * 10 + (s[k].toNat - 48)) := dgVal_succ k s.data.toList hkl
      rw [hg] at hd
      simp only [isDig, decide_eq_true_eq] at hd
      have hd1 : 48 ≤ (s[k].toNat : Int) := by omega
      have hd2 : (s[k].toNat : Int) ≤ 57 := by omega
      have h12 : (k : Int) < 12 := by have := hle.out.1; omega
      have hks' : (k : Int) < (s.size : Int) := by omega
      have HL : Hid _ := hlt
      clear hg hd hkl hlt hk
      go_wp2_with (go_at_call 26; refine (rwithin_yes _ _ _ _ (by omega) (by omega)).mono ?_; rintro e w' ⟨rfl, rfl⟩)
      go_round
      case rel => exact ⟨k + 1, HL.out, by go_num, by rw [HS.out]; go_num⟩
      case measure => simp [intOf]; omega
    · have hK : dgLen s.data.toList = k := by omega
      have hends := dig_ends s k hK
      have HVL : Hid _ := hvl
      clear hlt hk
      by_cases h0 : k = 0
      · have HR : Hid _ := dig_none s k hK (Or.inl h0)
        subst h0
        clear hK hle hz
        rcases hends with he | ⟨he, hd⟩ | ⟨he, hd, _, h12⟩
        · have e1 : (s.size : Int) = 0 := by omega
          clear he
          go_wp2
          go_ret2
          exact ⟨ret_dig HR.out.1.symm HR.out.2.symm, Below.refl _ _⟩
        · have e1 : (0 : Int) < (s.size : Int) := by omega
          have hd' : (s[0].toNat : Int) < 48 ∨ 57 < (s[0].toNat : Int) := by omega
          have HD : Hid _ := hd'
          have hu : (s[0].toNat : Int) ≤ 255 := by have := s[0].toNat_lt; omega
          clear hd hd'
          go_wp2_with (go_at_call 26; refine (rwithin_no _ _ _ _ (by have := HD.out; omega)).mono ?_; rintro e w' ⟨rfl, rfl⟩)
          go_ret2
          exact ⟨ret_dig HR.out.1.symm HR.out.2.symm, Below.refl _ _⟩
        · omega
      · have h0' : ((k : Int) == 0) = false := beq_eq_false_iff_ne.2 (by omega)
        have h0i : (0 : Int) < (k : Int) := by omega
        have hsz : 0 < s.size := by have := hle.out.2; have := hz.out; omega
        have hsz' : (0 : Int) < (s.size : Int) := by omega
        have hks : (k : Int) ≤ (s.size : Int) := by have := hle.out.2; have := hz.out; omega
        have hhd := head_at s hsz
        by_cases h48 : s[0] = 48
        · have HR : Hid _ := dig_none s k hK (Or.inr (hhd.trans (by rw [h48])))
          have q48 : ((s[0].toNat : Int) == 48) = true := by rw [h48]; rfl
          clear hK hle hz hhd h48
          rcases hends with he | ⟨he, hd⟩ | ⟨he, hd, hd2, h12⟩
          · have e1 : ¬ (k : Int) < (s.size : Int) := by omega
            clear he
            go_wp2
            go_ret2
            exact ⟨ret_dig HR.out.1.symm HR.out.2.symm, Below.refl _ _⟩
          · have e1 : (k : Int) < (s.size : Int) := by omega
            have hd' : (s[k].toNat : Int) < 48 ∨ 57 < (s[k].toNat : Int) := by omega
            have HD : Hid _ := hd'
            have hu : (s[k].toNat : Int) ≤ 255 := by have := s[k].toNat_lt; omega
            clear hd hd'
            go_wp2_with (go_at_call 26; refine (rwithin_no _ _ _ _ (by have := HD.out; omega)).mono ?_; rintro e w' ⟨rfl, rfl⟩)
            go_ret2
            exact ⟨ret_dig HR.out.1.symm HR.out.2.symm, Below.refl _ _⟩
          · have e1 : (k : Int) < (s.size : Int) := by omega
            have hd1 : 48 ≤ (s[k].toNat : Int) := by omega
            have hd3 : (s[k].toNat : Int) ≤ 57 := by omega
            have e2 : decide ((k : Int) < 12) = false := decide_eq_false (by omega)
            clear h12 hd hd2
            go_wp2_with (go_at_call 26; refine (rwithin_yes _ _ _ _ (by omega) (by omega)).mono ?_; rintro e w' ⟨rfl, rfl⟩)
            go_ret2
            exact ⟨ret_dig HR.out.1.symm HR.out.2.symm, Below.refl _ _⟩
        · have HR : Hid _ := dig_some s k hK (by rw [hhd]; simp [h0, h48])
          have q48 : ((s[0].toNat : Int) == 48) = false := by
            refine beq_eq_false_iff_ne.2 fun e => h48 ?_
            have : s[0].toNat = 48 := by omega
            exact UInt8.toNat_inj.1 this
          clear hK hle hz hhd h48
          rcases hends with he | ⟨he, hd⟩ | ⟨he, hd, hd2, h12⟩
          · have e1 : ¬ (k : Int) < (s.size : Int) := by omega
            clear he
            go_wp2
            go_region
            go_wp2
            go_ret2
            exact ⟨ret_dig HR.out.1.symm HR.out.2.symm, (Below.refl _ _).drew⟩
          · have e1 : (k : Int) < (s.size : Int) := by omega
            have hd' : (s[k].toNat : Int) < 48 ∨ 57 < (s[k].toNat : Int) := by omega
            have HD : Hid _ := hd'
            have hu : (s[k].toNat : Int) ≤ 255 := by have := s[k].toNat_lt; omega
            clear hd hd'
            go_wp2_with (go_at_call 26; refine (rwithin_no _ _ _ _ (by have := HD.out; omega)).mono ?_; rintro e w' ⟨rfl, rfl⟩)
            go_region
            go_wp2
            go_ret2
            exact ⟨ret_dig HR.out.1.symm HR.out.2.symm, (Below.refl _ _).drew⟩
          · have e1 : (k : Int) < (s.size : Int) := by omega
            have hd1 : 48 ≤ (s[k].toNat : Int) := by omega
            have hd3 : (s[k].toNat : Int) ≤ 57 := by omega
            have e2 : decide ((k : Int) < 12) = false := decide_eq_false (by omega)
            clear h12 hd hd2
            go_wp2_with (go_at_call 26; refine (rwithin_yes _ _ _ _ (by omega) (by omega)).mono ?_; rintro e w' ⟨rfl, rfl⟩)
            go_region
            go_wp2
            go_ret2
            exact ⟨ret_dig HR.out.1.symm HR.out.2.symm, (Below.refl _ _).drew⟩
end Go.Proofs.YtdohomdhgkhebabFmt
