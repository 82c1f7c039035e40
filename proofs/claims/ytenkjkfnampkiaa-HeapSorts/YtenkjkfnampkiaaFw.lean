/- The keepers' pick, few and put, by their contracts. -/
import Derived.Test.YtenkjkfnampkiaaQd
namespace Go.Proofs.Ytenkjkfnampkiaa
open Go.RowKit

/-- What pick makes of a number that is to be a value. -/
def pk (x : Int) : Int := wrap64 ((IntKind.u64.wrap x).tmod 4294967296)
/-- What few makes of a list. -/
def fw (xs : List Int) : List Int := (xs.take 6).map pk
theorem fw_le (xs : List Int) : (fw xs).length ≤ 6 := by simp [fw]; omega

theorem pick_is (x : Int) (w : World) :
    Calls Try.prog 34 #[.int .i64 x, .int .i64 4294967296] w fun e w' => e = .returned (.int .i64 (pk x)) ∧ w' = w := by
  go_enter Try.func34, Try.ntmps34
  go_wp2
  go_ret
  exact ⟨rfl, rfl⟩

theorem put_is (x : Int) (w : World) :
    Calls Try.prog 23 #[.int .i64 x] w fun e w' => e = .returned (.agg #[.int .i64 1, .int .i64 0, .int .i64 x]) ∧ Below w.heap.size w w' := by
  go_enter Try.func23, Try.ntmps23
  go_wp2
  exact bodyPost_ret (v := .agg #[.int .i64 1, .int .i64 0, .int .i64 x]) (by simp [results, Try.results23, go_sem]) rfl ⟨rfl, (Below.refl _ w).alloc (Nat.le_refl _) _⟩

/-- A list whose first i things are picked. -/
def upd (l : List Int) (i : Nat) : List Int := (l.take i).map pk ++ l.drop i
theorem upd_zero (l : List Int) : upd l 0 = l := by simp [upd]
theorem upd_all (l : List Int) : upd l l.length = l.map pk := by simp [upd]
theorem upd_len (l : List Int) (i : Nat) : (upd l i).length = l.length := by simp [upd]; omega
theorem upd_at (l : List Int) (i : Nat) (h : i < l.length) : (upd l i)[i]? = some (l.getD i 0) := by
  have e : ((l.take i).map pk).length = i := by simp; omega
  rw [upd, List.getElem?_append_right (by omega), e, Nat.sub_self, List.getElem?_drop]
  simp [List.getD, h]
theorem upd_set (l : List Int) (i : Nat) (h : i < l.length) : (upd l i).set i (pk (l.getD i 0)) = upd l (i + 1) := by
  have e : ((l.take i).map pk).length = i := by simp; omega
  rw [upd, List.set_append_right _ _ (by omega), e, Nat.sub_self, upd, List.drop_eq_getElem_cons h, List.set_cons_zero, List.take_add_one]
  have e2 : l[i]? = some (l.getD i 0) := by simp [List.getD, h]
  rw [e2]
  simp only [Option.toList, List.map_append, List.map_cons, List.map_nil, List.append_assoc, List.cons_append, List.nil_append]

theorem Own.formp {B : Nat} {w : World} {v : Value} {xs : List Int} (h : Own B w v xs) (h0 : 0 < xs.length) : ∃ g c, v = .slice (some ⟨g, 0, none⟩) xs.length c ∧ B ≤ g := by
  rcases h.2 with ⟨_, h1⟩ | ⟨g, cap, cur, rfl, hb, _⟩
  · omega
  · exact ⟨g, cap, rfl, hb⟩

theorem Own.stored {B : Nat} {w : World} {g c : Nat} {xs ys : List Int} (j : Nat) (x : Int) (h : Own B w (.slice (some ⟨g, 0, none⟩) xs.length c) xs) (hy : xs.set j x = ys) : Own B (w.setCell ⟨g, j, none⟩ (.int .i64 x)) (.slice (some ⟨g, 0, none⟩) xs.length c) ys := by
  have := (World.ownsRow.stored h j (.int .i64 x)).1
  subst hy
  unfold Own
  rw [List.map_set, List.length_set]
  exact this

set_option maxHeartbeats 1000000 in
theorem few_none {w : World} (a : Option Addr) (c : Nat) :
    Calls Try.prog 22 #[.slice a 0 c] w fun e w' => ∃ v', e = .returned v' ∧ IsL w.heap.size w' v' [] ∧ Below w.heap.size w w' := by
  have hmin : min ((0 : Nat) : Int) 6 = 0 := by decide
  go_enter Try.func22, Try.ntmps22
  go_wp2_with (go_at_call 16; refine (Clone_is (B := 0) (xs := []) (IsL.nil _ _ _ _) (by simp)).mono ?_; rintro e w1 ⟨v1, rfl, hown, hb⟩; obtain ⟨a1, c1, rfl⟩ := hown.form; have O1 : Hid _ := hown; have G1 : Hid _ := hb; clear hown hb)
  go_loopg [12] 0 (fun _ s12 wr => s12 = .int .i64 0 ∧ wr = w1)
  case atStart => exact ⟨rfl, rfl⟩
  case round =>
    obtain ⟨rfl, rfl⟩ := hrel
    go_wp2
    go_ret
    exact ⟨_, rfl, IsL.nil _ _ _ _, G1.out⟩

set_option maxHeartbeats 1000000 in
theorem few_some {w : World} {b off c : Nat} {xs : List Int} (h0 : 0 < xs.length) (hc : xs.length ≤ c) (hx : xs.length ≤ 9223372036854775807) (hcell : ∀ j, j < xs.length → w.cell? ⟨b, off + j, none⟩ = some (.int .i64 (xs.getD j 0))) :
    Calls Try.prog 22 #[.slice (some ⟨b, off, none⟩) xs.length c] w fun e w' => ∃ v', e = .returned v' ∧ IsL w.heap.size w' v' (fw xs) ∧ Below w.heap.size w w' := by
  obtain ⟨l, hl⟩ : ∃ l, l = xs.take 6 := ⟨_, rfl⟩
  obtain ⟨n, hn⟩ : ∃ n, n = xs.length := ⟨_, rfl⟩
  have Z : Hid (xs.take 6 = l) := hl.symm
  have hll : l.length = min 6 xs.length := by rw [hl]; simp
  have X : Hid (IsL 0 w (.slice (some ⟨b, off, none⟩) l.length c) l) := by
    refine Or.inr ⟨b, off, c, rfl, Nat.zero_le _, by omega, by omega, fun j hj => ?_, fun h0 => absurd h0 (by decide)⟩
    rw [hcell j (by omega), hl]
    simp [List.getD, show j < 6 by omega]
  have hle : l.length ≤ c := by omega
  have h6 : l.length ≤ 6 := by omega
  have hpos : 0 < l.length := by omega
  have hmin : min (n : Int) 6 = (l.length : Int) := by omega
  rw [← hn]
  have hn' : Hid (n = xs.length) := hn
  clear hcell hl hll hn hc hx h0
  have hlc : (l.length : Int) ≤ (c : Int) := by omega
  go_enter Try.func22, Try.ntmps22
  go_wp2_with fail
  refine (Clone_is X.out (by omega)).mono ?_
  rintro e w1 ⟨v1, rfl, hown, hb⟩
  obtain ⟨g, c1, rfl, hg⟩ := hown.formp hpos
  have O1 : Hid (Own w.heap.size w1 (.slice (some ⟨g, 0, none⟩) l.length c1) l) := hown
  have G1 : Hid (Below w.heap.size w w1) := hb
  clear hown hb
  go_wp2_with fail
  go_loopg [12] l.length (fun gg s12 wr => ∃ i : Nat, i ≤ l.length ∧ l.length - i ≤ gg ∧ s12 = .int .i64 i ∧ Hid (Own w.heap.size wr (.slice (some ⟨g, 0, none⟩) l.length c1) (upd l i)) ∧ Hid (Below w.heap.size w wr))
  case atStart => exact ⟨0, Nat.zero_le _, by omega, rfl, by rw [upd_zero]; exact O1, G1⟩
  case round =>
    obtain ⟨i, hi, hgg, rfl, O, G⟩ := hrel
    by_cases hlt : i < l.length
    · have O' : Hid (Own w.heap.size wr (.slice (some ⟨g, 0, none⟩) (upd l i).length c1) (upd l i)) := by rw [upd_len]; exact O
      have hcl : wr.cell? ⟨g, i, none⟩ = some (.int .i64 (l.getD i 0)) := by
        have := World.ownsRow.cellAt O'.out i (by rw [upd_len]; omega)
        rw [this, List.getElem?_map, upd_at l i hlt]; rfl
      have hfr : wr.frozen? ⟨g, i, none⟩ = false := World.ownsRow.frozenAt O'.out i
      have hi1 : (i : Int) < (l.length : Int) := by omega
      generalize hxi : l.getD i 0 = x at hcl
      have HX : Hid (l.getD i 0 = x) := hxi
      clear hxi
      go_wp2_with (go_at_call 34; refine (pick_is _ _).mono ?_; rintro e w3 ⟨rfl, hw⟩; rw [hw]; clear hw)
      go_roundg (l.length - (i + 1))
      case measure => omega
      case rel =>
        refine ⟨i + 1, by omega, by omega, by go_num, ?_, G.out.setCell (by simpa using hg) _⟩
        have := O'.out.stored (ys := upd l (i + 1)) i (pk x) (by rw [← HX.out]; exact upd_set l i hlt)
        rw [upd_len] at this
        exact this
    · obtain rfl : i = l.length := by omega
      go_wp2
      go_ret
      refine ⟨_, rfl, ?_, G.out⟩
      have e : upd l l.length = fw xs := by rw [upd_all, fw, Z.out]
      have h1 := O.out
      rw [e] at h1
      have e2 : (fw xs).length = l.length := by rw [← e, upd_len]
      rw [← e2]
      rw [← e2] at h1
      exact h1.isL

theorem few_is {B : Nat} {v : Value} {xs : List Int} {w : World} (h : IsL B w v xs) (hx : xs.length ≤ 9223372036854775807) :
    Calls Try.prog 22 #[v] w fun e w' => ∃ v', e = .returned v' ∧ IsL w.heap.size w' v' (fw xs) ∧ Below w.heap.size w w' := by
  rcases h with ⟨rfl, a, c, rfl⟩ | ⟨b, off, c, rfl, _, h0, hc, hcell, _⟩
  · exact few_none a c
  · exact few_some h0 hc hx hcell
end Go.Proofs.Ytenkjkfnampkiaa
