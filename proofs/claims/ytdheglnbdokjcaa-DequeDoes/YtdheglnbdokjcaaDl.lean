/- What a deque does, by its plain function. -/
import Derived.Test.YtdheglnbdokjcaaKd
import Derived.Test.YtdheglnbdokjcaaBo
namespace Go.Proofs.Ytdheglnbdokjcaa

theorem ddo_else (xs : List Int) (o x : Int) (h3 : o ≠ 3) (h4 : o ≠ 4) : ddo xs o x = qdo xs o x := by simp [ddo, h3, h4]
theorem ddo_back (xs : List Int) (x : Int) : ddo xs 4 x = sdo xs 2 0 := by simp [ddo]
theorem ddo_full {ys : List Int} (x : Int) (h : 6 ≤ ys.length) : ddo ys 1 x = (ys, 3, 0) := by simp [ddo, qdo, h]
theorem ddo_put {ys : List Int} (x : Int) (h : ys.length < 6) : ddo ys 1 x = (ys ++ [x], 1, 0) := by simp [ddo, qdo, show ¬ 6 ≤ ys.length by omega]
theorem ddo_ffull {ys : List Int} (x : Int) (h : 6 ≤ ys.length) : ddo ys 3 x = (ys, 3, 0) := by simp [ddo, h]
theorem ddo_front {ys : List Int} (x : Int) (h : ys.length < 6) : ddo ys 3 x = (x :: ys, 1, 0) := by simp [ddo, show ¬ 6 ≤ ys.length by omega]
theorem ddo_take (r : List Int) (z x : Int) : ddo (z :: r) 2 x = (r, 1, z) := by simp [ddo, qdo]
theorem ddo_last (r : List Int) (z x : Int) : ddo (r ++ [z]) 4 x = (r, 1, z) := by rw [ddo_back, sdo_take]
theorem qdo_len {xs ys : List Int} {o x c y : Int} (h : qdo xs o x = (ys, c, y)) : ys.length ≤ xs.length + 1 := by
  unfold qdo at h
  split at h
  · split at h <;> (injection h with h _; subst h; simp)
  split at h
  · split at h <;> (injection h with h _; subst h; simp; try omega)
  split at h
  · split at h <;> (injection h with h _; subst h; simp)
  split at h <;> (injection h with h _; subst h; simp)
theorem sdo_len {xs ys : List Int} {o x c y : Int} (h : sdo xs o x = (ys, c, y)) : ys.length ≤ xs.length + 1 := by
  unfold sdo at h
  split at h
  · injection h with h _; subst h; simp; omega
  split at h
  · injection h with h _; subst h; simp
  exact qdo_len h
theorem ddo_len {xs ys : List Int} {o x c y : Int} (h : ddo xs o x = (ys, c, y)) : ys.length ≤ xs.length + 1 := by
  unfold ddo at h
  split at h
  · split at h <;> (injection h with h _; subst h; simp)
  split at h
  · exact sdo_len h
  exact qdo_len h
end Go.Proofs.Ytdheglnbdokjcaa
