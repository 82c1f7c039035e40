/- What words are an object, said in two ways. -/
import Derived.Test.YtbmgjpdfmgcigabDoorObG
import Derived.Test.YtbmgjpdfmgcigabDoorTt
namespace Go.Proofs.YtbmgjpdfmgcigabDoor.Tab
set_option maxRecDepth 20000
open Go.RowKit
theorem isLb_iff {c : Nat → Nat} : isLb c = true ↔ WList c := ⟨isLb_w, isLb_of⟩
theorem WTab_iff {c : Nat → Nat} : WTab c ↔ WT c := by
  unfold WTab WT
  constructor
  · intro ⟨h1, h2, h3⟩
    exact ⟨fun j hj => by have := upC_all h1 (j := j) (by omega) (by omega); omega, by have := upC_all h2 (j := 16) (by omega) (by omega); omega, h3⟩
  · intro ⟨h1, h2, h3⟩
    exact ⟨upC_iff.2 fun j hj => by have := h1 (0 + j) (by omega); omega, upC_iff.2 fun j hj => by rw [show 16 + j = 16 by omega, h2]; decide, h3⟩
theorem isTb_iff {c : Nat → Nat} : isTb c = true ↔ WN c := by
  unfold isTb WN
  rw [Bool.and_eq_true]
  constructor
  · intro ⟨h1, h2⟩
    exact ⟨by have := upC_all h1 (j := 0) (by omega) (by omega); omega, fun j h3 h4 => by have := upC_all h2 (j := j) (by omega) (by omega); omega⟩
  · intro ⟨h1, h2⟩
    exact ⟨upC_iff.2 fun j hj => by rw [show 0 + j = 0 by omega]; omega, upC_iff.2 fun j hj => by rw [h2 (1 + j) (by omega) (by omega)]; decide⟩
theorem isTh_ob {k : Int} {c : Nat → Nat} : isTh k c ↔ isOb k c := by
  unfold isTh isOb
  rw [isLb_iff, WTab_iff, isTb_iff]
end Go.Proofs.YtbmgjpdfmgcigabDoor.Tab
