/- Package op's number and what, strings.Cut at one byte, by their contracts. -/
import Derived.Test.YtdohomdhgkhebabFmtRows
import Derived.Test.YtdohomdhgkhebabFmtEnvN
import Derived.Test.YtdohomdhgkhebabFmtEnvW
import Derived.Test.YtdohomdhgkhebabFmtShelf
import Derived.Lib.CutLaws
import Derived.Lib.IndexBytes
import Derived.RegionTactic
import Derived.Deep.QuietTactic
import Derived.BigQuiet
namespace Go.Proofs.YtdohomdhgkhebabFmt
open Go.RowKit

theorem number_any (s : ByteArray) (hs : s.size ≤ 1000) (w : World) (hS : Sy w) (hR : Rg w) :
    Calls Tryf.prog 16 #[.string s] w fun e w' => e = .returned (.int .i64 (numOf s.data.toList)) ∧ Below w.heap.size w w' := by
  unfold numOf
  cases h : Lib.atoiAll s.data.toList with
  | ok v =>
    have H : Hid _ := h
    clear h
    go_enter Tryf.func16, Tryf.ntmps16
    go_wp2_with fail
    refine (sh_strconv_Atoi_ok s (by omega) v H.out _).mono ?_
    rintro e w1 ⟨rfl, hw⟩
    have hb : Below w.heap.size w w1 := by
      rcases hw with rfl | ⟨t, rfl⟩
      · exact Below.refl _ _
      · exact Lib.bytesWorld_below _ _ _
    clear hw
    go_wp2
    go_ret
    exact ⟨rfl, hb⟩
  | «syntax» =>
    have H : Hid _ := h
    clear h
    obtain ⟨tp, p, hv⟩ := hS
    have HV : Hid _ := hv
    clear hv
    go_enter Tryf.func16, Tryf.ntmps16
    go_wp2_with fail
    refine (sh_strconv_Atoi_syntax_var s (by omega) H.out tp p _ HV.out).mono ?_
    rintro e w1 ⟨N, rfl, _, _, hb⟩
    go_wp2
    go_ret
    exact ⟨rfl, hb⟩
  | range =>
    have H : Hid _ := h
    clear h
    obtain ⟨tp, p, hv⟩ := hR
    have HV : Hid _ := hv
    clear hv
    go_enter Tryf.func16, Tryf.ntmps16
    go_wp2_with fail
    refine (sh_strconv_Atoi_range_var s (by omega) H.out tp p _ HV.out).mono ?_
    rintro e w1 ⟨N, rfl, _, _, hb⟩
    go_wp2
    go_ret
    exact ⟨rfl, hb⟩

theorem cut_in (s : ByteArray) (c : UInt8) (w : World) (hs : s.size ≤ 1000) :
    Calls Tryf.prog 28 #[.string s, .string ⟨#[c]⟩] w fun e w' => e = .returned (.tuple #[.string ⟨(Lib.cut s.data.toList [c]).1.toArray⟩, .string ⟨(Lib.cut s.data.toList [c]).2.1.toArray⟩, .bool (Lib.cut s.data.toList [c]).2.2]) ∧ ∃ n, w' = w.drewN n := by
  have hone := Lib.index_one s.data.toList c
  rcases Lib.indexB_cases s ⟨#[c]⟩ with hix | ⟨i, hix, hroom⟩
  · obtain ⟨e1, e2, e3⟩ := Lib.cutB_miss s ⟨#[c]⟩ hix
    have e1' : (⟨(Lib.cut s.data.toList [c]).1.toArray⟩ : ByteArray) = s := e1
    have e2' : (⟨(Lib.cut s.data.toList [c]).2.1.toArray⟩ : ByteArray) = ByteArray.empty := e2
    have e3' : (Lib.cut s.data.toList [c]).2.2 = false := e3
    rw [e1', e2', e3']
    have hx : Hid (Lib.indexByte s.data.toList c = -1) := hone.symm.trans hix
    clear hone hix e1 e2 e3 e1' e2' e3'
    go_enter Tryf.func28, Tryf.ntmps28
    go_wp2_with fail
    refine (sh_stringslite_Index_one s c _).mono ?_
    rintro e w1 ⟨rfl, rfl⟩
    rw [hx.out]
    go_wp2
    go_ret3
    exact ⟨rfl, 0, rfl⟩
  · obtain ⟨e1, e2, e3⟩ := Lib.cutB_hit s ⟨#[c]⟩ i hix
    have e1' : (⟨(Lib.cut s.data.toList [c]).1.toArray⟩ : ByteArray) = s.extract 0 i := e1
    have e2' : (⟨(Lib.cut s.data.toList [c]).2.1.toArray⟩ : ByteArray) = s.extract (i + 1) s.size := e2
    have e3' : (Lib.cut s.data.toList [c]).2.2 = true := e3
    rw [e1', e2', e3']
    have hx : Hid (Lib.indexByte s.data.toList c = i) := hone.symm.trans hix
    have hr : i + 1 ≤ s.size := hroom
    clear hone hix e1 e2 e3 e1' e2' e3' hroom
    have c0 : (↑i : Int) ≤ 1000 := by omega
    have c1 : (0 : Int) ≤ ↑i := by omega
    have c2 : (↑i : Int) ≤ ↑s.size := by omega
    have c3 : (0 : Int) ≤ ↑i + 1 := by omega
    have c4 : (↑i + 1 : Int) ≤ ↑s.size := by omega
    go_enter Tryf.func28, Tryf.ntmps28
    go_wp2_with fail
    refine (sh_stringslite_Index_one s c _).mono ?_
    rintro e w1 ⟨rfl, rfl⟩
    rw [hx.out]
    go_wp2
    go_region
    go_wp2
    go_ret3
    exact ⟨rfl, 1, rfl⟩

theorem cut_one (s : ByteArray) (c : UInt8) (w : World) (hs : s.size ≤ 1000) :
    Calls Tryf.prog 14 #[.string s, .string ⟨#[c]⟩] w fun e w' => e = .returned (.tuple #[.string ⟨(Lib.cut s.data.toList [c]).1.toArray⟩, .string ⟨(Lib.cut s.data.toList [c]).2.1.toArray⟩, .bool (Lib.cut s.data.toList [c]).2.2]) ∧ ∃ n, w' = w.drewN n := by
  generalize hA : (⟨(Lib.cut s.data.toList [c]).1.toArray⟩ : ByteArray) = A
  generalize hB : (⟨(Lib.cut s.data.toList [c]).2.1.toArray⟩ : ByteArray) = B
  generalize hC : (Lib.cut s.data.toList [c]).2.2 = C
  have H := cut_in s c w hs
  rw [hA, hB, hC] at H
  have H' : Hid _ := H
  clear H hA hB hC
  go_enter Tryf.func14, Tryf.ntmps14
  go_wp2_with fail
  refine Calls.mono H'.out ?_
  rintro e w1 ⟨rfl, n, rfl⟩
  go_wp2
  go_ret3
  exact ⟨rfl, n, rfl⟩
end Go.Proofs.YtdohomdhgkhebabFmt
