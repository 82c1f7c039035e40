/- Package op's Parse, by its contract: at what is printed, and at what is not. -/
import Derived.Test.YtdohomdhgkhebabFmtParseK
namespace Go.Proofs.YtdohomdhgkhebabFmt
open Go.RowKit

theorem cut_len (l sep : List UInt8) : (Lib.cut l sep).1.length ≤ l.length ∧ (Lib.cut l sep).2.1.length ≤ l.length := by
  unfold Lib.cut
  split
  · simp only [List.length_take, List.length_drop]; omega
  · exact ⟨Nat.le_refl _, Nat.zero_le _⟩

theorem ba_size (l : List UInt8) : (⟨l.toArray⟩ : ByteArray).size = l.length := rfl
theorem ba_list (l : List UInt8) : (⟨l.toArray⟩ : ByteArray).data.toList = l := rfl
theorem size_len (s : ByteArray) : s.size = s.data.toList.length := Lib.size_eq s

theorem ks_of (s t : ByteArray) (er : Value) (hs : s.size ≤ 1000)
    (k6 : ∀ W : World, En W → Calls Tryf.prog 17 #[.agg #[.int .i64 (whatOf (nameOf s.data.toList)), .int .i64 (numOf (keyOf s.data.toList)), .int .i64 (numOf (valOf s.data.toList))]] W fun e w' => e = .returned (.tuple #[.string t, er]) ∧ Below W.heap.size W w') :
    Ks s ⟨(headOf s.data.toList).toArray⟩ ⟨(valOf s.data.toList).toArray⟩ ⟨(nameOf s.data.toList).toArray⟩ ⟨(keyOf s.data.toList).toArray⟩ t (Lib.cut s.data.toList [61]).2.2 (Lib.cut (headOf s.data.toList) [58]).2.2
      (whatOf (nameOf s.data.toList)) (numOf (keyOf s.data.toList)) (numOf (valOf s.data.toList)) er := by
  have hl : s.data.toList.length ≤ 1000 := by rw [← size_len]; exact hs
  have l1 := cut_len s.data.toList [61]
  have l2 := cut_len (headOf s.data.toList) [58]
  have hA : (headOf s.data.toList).length ≤ 1000 := Nat.le_trans l1.1 hl
  have hB : (valOf s.data.toList).length ≤ 1000 := Nat.le_trans l1.2 hl
  have hD : (keyOf s.data.toList).length ≤ 1000 := Nat.le_trans l2.2 hA
  exact {
    k1 := fun W => (cut_one s 61 W hs).mono fun _ _ ⟨he, n, hw⟩ => ⟨he, hw ▸ below_drewN W n⟩
    k2 := fun W => (cut_one ⟨(headOf s.data.toList).toArray⟩ 58 W hA).mono fun _ _ ⟨he, n, hw⟩ => ⟨he, hw ▸ below_drewN W n⟩
    k3 := fun W hE => what_any ⟨(nameOf s.data.toList).toArray⟩ W hE.wh
    k4 := fun W hE => number_any ⟨(keyOf s.data.toList).toArray⟩ hD W hE.sy hE.rg
    k5 := fun W hE => number_any ⟨(valOf s.data.toList).toArray⟩ hB W hE.sy hE.rg
    k6 := k6 }

theorem Parse_txt {o k v : Nat} (h : Rt o k v) (w : World) (hE : En w) :
    Calls Tryf.prog 6 #[.string ⟨(txt o k v).toArray⟩] w fun e w' => e = .returned (.tuple #[.agg #[.int .i64 o, .int .i64 k, .int .i64 v], .nilIface]) ∧ Below w.heap.size w w' := by
  obtain ⟨r1, r2, r3⟩ := read_txt h
  have hlen := txt_len h
  have K := ks_of ⟨(txt o k v).toArray⟩ ⟨(txt o k v).toArray⟩ .nilIface (by rw [ba_size]; omega) (fun W hE => by
    rw [ba_list, r1, r2, r3]; exact Print_yes h W hE.pw hE.wh)
  simp only [r1, r2, r3] at K
  exact parse_yes K w hE

/-- No operation is printed so. -/
def NoText (l : List UInt8) : Prop := ∀ o k v : Nat, Rt o k v → txt o k v ≠ l

theorem text_cases (l : List UInt8) : NoText l ∨ ∃ o k v : Nat, Rt o k v ∧ l = txt o k v := by
  by_cases h : ∃ o k v : Nat, Rt o k v ∧ l = txt o k v
  · exact Or.inr h
  · exact Or.inl fun o k v hr e => h ⟨o, k, v, hr, e.symm⟩

theorem rt_nat {o k v : Int} (h : Rt o k v) : ∃ o' k' v' : Nat, o = (o' : Int) ∧ k = (k' : Int) ∧ v = (v' : Int) := by
  obtain ⟨a, ha⟩ := Int.eq_ofNat_of_zero_le (show 0 ≤ o by have := h.w1; omega)
  obtain ⟨b, hb⟩ := Int.eq_ofNat_of_zero_le h.k0
  obtain ⟨c, hc⟩ := Int.eq_ofNat_of_zero_le h.v0
  exact ⟨a, b, c, ha, hb, hc⟩

theorem Parse_none (s : ByteArray) (hs : s.size ≤ 1000) (hn : NoText s.data.toList) (w : World) (hE : En w) :
    Calls Tryf.prog 6 #[.string s] w fun e w' => e = .returned (.tuple #[.agg #[.int .i64 0, .int .i64 0, .int .i64 0], .iface 24 (.int .i64 3)]) ∧ Below w.heap.size w w' := by
  by_cases h : Rt (whatOf (nameOf s.data.toList)) (numOf (keyOf s.data.toList)) (numOf (valOf s.data.toList))
  · obtain ⟨o, k, v, e1, e2, e3⟩ := rt_nat h
    have h' := h
    rw [e1, e2, e3] at h'
    have K := ks_of s ⟨(txt o k v).toArray⟩ .nilIface hs (fun W hE => by
      rw [e1, e2, e3]; exact Print_yes h' W hE.pw hE.wh)
    exact parse_no1 (hn o k v h') K w hE
  · have K := ks_of s ⟨#[]⟩ (.iface 24 (.int .i64 1)) hs (fun W _ => Print_no h W)
    exact parse_no2 K w hE
end Go.Proofs.YtdohomdhgkhebabFmt
