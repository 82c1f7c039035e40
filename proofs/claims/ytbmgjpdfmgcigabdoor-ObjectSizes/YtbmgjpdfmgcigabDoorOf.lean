/- What a row of one's own looks like. -/
import Derived.Test.YtbmgjpdfmgcigabDoorKf
namespace Go.Proofs.YtbmgjpdfmgcigabDoor
set_option maxRecDepth 20000
open Go.RowKit

theorem Own.formp {B : Nat} {w : World} {v : Value} {xs : List Int} (h : Own B w v xs) (h0 : 0 < xs.length) : ∃ g c, v = .slice (some ⟨g, 0, none⟩) xs.length c ∧ B ≤ g := by
  rcases h.2 with ⟨_, h1⟩ | ⟨g, cap, cur, rfl, hb, _⟩
  · omega
  · exact ⟨g, cap, rfl, hb⟩

theorem Own.stored {B : Nat} {w : World} {g c : Nat} {xs ys : List Int} (j : Nat) (x : Int) (h : Own B w (.slice (some ⟨g, 0, none⟩) xs.length c) xs) (hy : xs.set j x = ys) : Own B (w.setCell ⟨g, j, none⟩ (.int .i64 x)) (.slice (some ⟨g, 0, none⟩) xs.length c) ys := by
  have := (World.ownsRow.stored h j (.int .i64 x)).1
  subst hy
  unfold Own
  rw [List.map_set, List.length_set]
  exact this

end Go.Proofs.YtbmgjpdfmgcigabDoor
