/- What a deque does, by its plain function. -/
import Derived.Test.YtbmgjpdfmgcigabDoorDq
import Derived.Test.YtbmgjpdfmgcigabDoorSd
namespace Go.Proofs.YtbmgjpdfmgcigabDoor
set_option maxRecDepth 20000

theorem ddo_else (xs : List Int) (o x : Int) (h3 : o ≠ 3) (h4 : o ≠ 4) : ddo xs o x = qdo xs o x := by simp [ddo, h3, h4]
theorem ddo_back (xs : List Int) (x : Int) : ddo xs 4 x = sdo xs 2 0 := by simp [ddo]
theorem ddo_full {ys : List Int} (x : Int) (h : 6 ≤ ys.length) : ddo ys 1 x = (ys, 3, 0) := by simp [ddo, qdo, h]
theorem ddo_put {ys : List Int} (x : Int) (h : ys.length < 6) : ddo ys 1 x = (ys ++ [x], 1, 0) := by simp [ddo, qdo, show ¬ 6 ≤ ys.length by omega]
theorem ddo_ffull {ys : List Int} (x : Int) (h : 6 ≤ ys.length) : ddo ys 3 x = (ys, 3, 0) := by simp [ddo, h]
theorem ddo_front {ys : List Int} (x : Int) (h : ys.length < 6) : ddo ys 3 x = (x :: ys, 1, 0) := by simp [ddo, show ¬ 6 ≤ ys.length by omega]
end Go.Proofs.YtbmgjpdfmgcigabDoor
