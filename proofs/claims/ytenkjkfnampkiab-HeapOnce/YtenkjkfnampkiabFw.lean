/- The keepers' put, by its contract. -/
import Derived.Test.YtenkjkfnampkiabQd
namespace Go.Proofs.Ytenkjkfnampkiab
open Go.RowKit

theorem put_is (x : Int) (w : World) :
    Calls Try.prog 9 #[.int .i64 x] w fun e w' => e = .returned (.agg #[.int .i64 1, .int .i64 0, .int .i64 x]) ∧ Below w.heap.size w w' := by
  go_enter Try.func9, Try.ntmps9
  go_wp2
  exact bodyPost_ret (v := .agg #[.int .i64 1, .int .i64 0, .int .i64 x]) (by simp [results, Try.results9, go_sem]) rfl ⟨rfl, (Below.refl _ w).alloc (Nat.le_refl _) _⟩

theorem Own.formp {B : Nat} {w : World} {v : Value} {xs : List Int} (h : Own B w v xs) (h0 : 0 < xs.length) : ∃ g c, v = .slice (some ⟨g, 0, none⟩) xs.length c ∧ B ≤ g := by
  rcases h.2 with ⟨_, h1⟩ | ⟨g, cap, cur, rfl, hb, _⟩
  · omega
  · exact ⟨g, cap, rfl, hb⟩

theorem Own.stored {B : Nat} {w : World} {g c : Nat} {xs ys : List Int} (j : Nat) (x : Int) (h : Own B w (.slice (some ⟨g, 0, none⟩) xs.length c) xs) (hy : xs.set j x = ys) : Own B (w.setCell ⟨g, j, none⟩ (.int .i64 x)) (.slice (some ⟨g, 0, none⟩) xs.length c) ys := by
  have := (World.ownsRow.stored h j (.int .i64 x)).1
  subst hy
  unfold Own
  rw [List.map_set, List.length_set]
  exact this

end Go.Proofs.Ytenkjkfnampkiab
