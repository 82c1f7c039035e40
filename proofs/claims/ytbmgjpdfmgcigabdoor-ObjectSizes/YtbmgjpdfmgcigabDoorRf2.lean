/- The reference's place, by its contract. -/
import Derived.Test.YtbmgjpdfmgcigabDoorX2
import Derived.Test.YtbmgjpdfmgcigabDoorX3
import Derived.Test.YtbmgjpdfmgcigabDoorTp5
namespace Go.Proofs.YtbmgjpdfmgcigabDoor.Tab
set_option maxRecDepth 20000
open Go.RowKit

set_option maxHeartbeats 1000000 in
theorem RPlace_is (t : Tb) (k : Int) (h0 : 0 ≤ k) (h1 : k ≤ 1000) (hf : ∃ p, p < 8 ∧ t.k p = 0) (w : World) :
    Calls Tryd.prog 45 #[.agg t.all.toArray, .int .i64 k] w fun e w' => e = .returned (.int .i64 (place t k : Nat)) ∧ Below w.heap.size w w' := by
  have T0 : Hid (TAt (w.alloc (.cells t.all.toArray 31)) w.heap.size t) := TAt.born w t _
  have B0 : Hid (Gd w.heap.size w (w.alloc (.cells t.all.toArray 31))) := (Gd.refl w).new _
  have HH : Hid (Hit t k (place t k)) := by
    obtain ⟨p, hp, e⟩ := hf
    exact place_hit t k hp (Or.inr e)
  have P : Hid (plF t k 7 0 = place t k) := rfl
  clear hf
  have RW := row_is k h0 h1
  go_enter Tryd.func45, Tryd.ntmps45
  go_wp2_with fail
  refine (RW _).mono ?_
  rintro e W ⟨v, rfl, hi, hb⟩
  obtain ⟨b, off, c, rfl, hcell⟩ := rowL_isL hi
  have T1 : Hid (TAt W w.heap.size t) := T0.out.later hb
  have G1 : Hid (Gd w.heap.size w W) := B0.out.later hb
  have C : Hid (∀ i, i < 8 → W.cell? ⟨b, off + i, none⟩ = some (.int .i64 (rowAt k i : Nat))) := hcell
  clear hi hb hcell T0 B0 RW
  generalize w.heap.size = n at T1 G1 ⊢
  go_wp2_with fail
  go_loopg [10] 8 (fun gg s10 wt => W = wt ∧ ∃ i : Nat, i < 8 ∧ 8 - i ≤ gg ∧ s10 = .int .i64 i ∧ Hid (plF t k (7 - i) i = place t k))
  case atStart => exact ⟨rfl, 0, by omega, by omega, rfl, P⟩
  case round =>
    obtain ⟨rfl, i, hlt, hgg, rfl, D⟩ := hrel
    have c0 := C.out i hlt
    have hp := rowAt_lt k i
    obtain ⟨p, hpe⟩ : ∃ p, rowAt k i = p := ⟨_, rfl⟩
    have EP : Hid (rowAt k i = p) := hpe
    rw [hpe] at c0 hp
    clear hpe
    have hi1 : (i : Int) < 8 := by omega
    have hi0 : (0 : Int) ≤ (i : Int) := by omega
    have hp1 : (p : Int) < 8 := by omega
    have hp0 : (0 : Int) ≤ (p : Int) := by omega
    have c1 := T1.out.key hp
    obtain ⟨x, hx⟩ : ∃ x, t.k p = x := ⟨_, rfl⟩
    have X : Hid (t.k p = x) := hx
    rw [hx] at c1
    clear hx
    by_cases hh : x = k ∨ x = 0
    · have PL : Hid (place t k = p) := by
        show place t k = p
        rw [← D.out, ← EP.out]
        cases hn : 7 - i with
        | zero => rfl
        | succ m => rw [plF, if_pos (show Hit t k (rowAt k i) by unfold Hit; rw [EP.out, X.out]; exact hh)]
      by_cases hk : x = k
      · have m1 : (x == k) = true := by simp [hk]
        clear hh hk
        go_wp2
        go_ret
        exact ⟨by rw [PL.out]; rfl, G1.out.2⟩
      · have h0' : x = 0 := hh.resolve_left hk
        have m1 : (x == k) = false := by simp [hk]
        have m0 : (x == 0) = true := by simp [h0']
        clear hh hk h0'
        go_wp2
        go_ret
        exact ⟨by rw [PL.out]; rfl, G1.out.2⟩
    · have NH : ¬ Hit t k (rowAt k i) := by unfold Hit; rw [EP.out, X.out]; exact hh
      have m1 : (x == k) = false := by simp; exact fun e => hh (Or.inl e)
      have m0 : (x == 0) = false := by simp; exact fun e => hh (Or.inr e)
      have h7 : i ≠ 7 := by
        intro e
        subst e
        have : place t k = rowAt k 7 := D.out.symm
        have := HH.out
        rw [‹place t k = rowAt k 7›] at this
        exact NH this
      have D' : Hid (plF t k (7 - (i + 1)) (i + 1) = place t k) := by
        have := D.out
        rw [show 7 - i = (7 - (i + 1)) + 1 by omega, plF, if_neg NH] at this
        exact this
      clear hh NH
      go_wp2
      go_roundg (8 - (i + 1))
      case measure => omega
      case rel => exact ⟨rfl, i + 1, by omega, by omega, by go_num, D'⟩
end Go.Proofs.YtbmgjpdfmgcigabDoor.Tab
