/- What is done with a tally: facts of no program. -/
import Derived.Test.YtbmgjpdfmgcigaaTa
namespace Go.Proofs.Ytbmgjpdfmgcigaa.Tab
open Go.RowKit

theorem ado_in {n o x m c y : Int} (n0 : 0 ≤ n) (n1 : n ≤ 4294967295) (x0 : 0 ≤ x) (x1 : x ≤ 4294967295) (h : ado n o x = (m, c, y)) : 0 ≤ m ∧ m ≤ 4294967295 := by
  unfold ado at h
  split at h
  · split at h <;> simp only [Prod.mk.injEq] at h <;> omega
  · split at h
    · split at h <;> simp only [Prod.mk.injEq] at h <;> omega
    · split at h <;> simp only [Prod.mk.injEq] at h <;> omega
theorem ado_put {n x m c y : Int} (h : ado n 1 x = (m, c, y)) (hc : c = 1) : m = n + x := by
  unfold ado at h
  simp only [if_true] at h
  split at h <;> simp only [Prod.mk.injEq] at h <;> omega
theorem ado_take {n x m c y : Int} (h : ado n 2 x = (m, c, y)) (hc : c = 1) : m = n - x := by
  unfold ado at h
  rw [if_neg (by decide), if_pos rfl] at h
  split at h <;> simp only [Prod.mk.injEq] at h <;> omega
theorem ado_either {p q r m1 m2 m3 m4 c1 c2 c3 c4 y1 y2 y3 y4 : Int} (u1 : ado p 1 q = (m1, c1, y1)) (u2 : ado m1 2 r = (m2, c2, y2)) (u3 : ado p 2 r = (m3, c3, y3)) (u4 : ado m3 1 q = (m4, c4, y4)) :
    c1 = 1 → c2 = 1 → c3 = 1 → c4 = 1 → m2 = m4 := by
  intro h1 h2 h3 h4
  have := ado_put u1 h1
  have := ado_take u2 h2
  have := ado_take u3 h3
  have := ado_put u4 h4
  omega
/-- Numbers below a thousand, at most sixty of them, come to their sum. -/
theorem ado_few {n x : Int} (n1 : n + x ≤ 4294967295) : ado n 1 x = (n + x, 1, n) := by
  unfold ado
  rw [if_pos rfl, if_neg (by omega)]
def sumN (f : Nat → Nat) : Nat → Nat
  | 0 => 0
  | i + 1 => sumN f i + f i
theorem sumN_le (f : Nat → Nat) (m : Nat) (h : ∀ i, f i ≤ m) : ∀ k, sumN f k ≤ k * m
  | 0 => by simp [sumN]
  | k + 1 => by have := sumN_le f m h k; have := h k; rw [sumN, Nat.succ_mul]; omega
theorem sumN_front (f : Nat → Nat) : ∀ k, sumN f (k + 1) = f 0 + sumN (fun i => f (i + 1)) k
  | 0 => by simp [sumN]
  | k + 1 => by rw [sumN, sumN_front f k, sumN]; omega
theorem sumN_congr (f g : Nat → Nat) : ∀ k, (∀ i, i < k → f i = g i) → sumN f k = sumN g k
  | 0, _ => rfl
  | k + 1, h => by rw [sumN, sumN, sumN_congr f g k (fun i hi => h i (by omega)), h k (by omega)]
theorem sumN_rev (f : Nat → Nat) : ∀ k, sumN (fun i => f (k - 1 - i)) k = sumN f k
  | 0 => rfl
  | k + 1 => by
    rw [sumN_front]
    have e := sumN_rev f k
    have e2 : sumN (fun i => f (k + 1 - 1 - (i + 1))) k = sumN (fun i => f (k - 1 - i)) k := sumN_congr _ _ k (fun i hi => by congr 1; omega)
    rw [e2, e, sumN]
    have : k + 1 - 1 - 0 = k := by omega
    rw [this]; omega
end Go.Proofs.Ytbmgjpdfmgcigaa.Tab
