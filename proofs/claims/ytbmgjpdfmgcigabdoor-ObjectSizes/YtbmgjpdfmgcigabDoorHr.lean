/- Package heap's Right, by its contracts. -/
import Derived.Test.YtbmgjpdfmgcigabDoorRows
import Derived.Test.YtbmgjpdfmgcigabDoorLs
import Derived.Test.YtbmgjpdfmgcigabDoorHp
import Derived.Deep.LoopGhost
import Derived.BigQuiet
import Derived.Deep.QuietTactic
import Derived.Deep.RegionWith
namespace Go.Proofs.YtbmgjpdfmgcigabDoor
set_option maxRecDepth 20000
open Go.RowKit

/-- The list l lies in block b, from place off on, and may be written there. -/
structure Row (b off : Nat) (l : List Int) (w : World) : Prop where
  cell : ∀ j, j < l.length → w.cell? ⟨b, off + j, none⟩ = some (.int .i64 (gt l j))
  froz : ∀ j, j < l.length → w.frozen? ⟨b, off + j, none⟩ = false

theorem above_is (i : Nat) (h : 0 < i) (hi : i ≤ 1000000) (w : World) :
    Calls Tryd.prog 47 #[.int .i64 i] w fun e w' => e = .returned (.int .i64 (((i - 1) / 2 : Nat) : Int)) ∧ w' = w := by
  go_enter Tryd.func47, Tryd.ntmps47
  go_wp2
  go_ret
  have e : ((i : Int) - 1) / 2 = (((i - 1) / 2 : Nat) : Int) := by omega
  exact ⟨by show Ending.returned (.int .i64 (((i : Int) - 1) / 2)) = _; rw [e], rfl⟩

theorem gt_isL {B : Nat} {w : World} {v : Value} {xs : List Int} (h : IsL B w v xs) : (xs = [] ∧ ∃ a c, v = .slice a 0 c) ∨ ∃ b off c, v = .slice (some ⟨b, off, none⟩) xs.length c ∧ 0 < xs.length ∧ ∀ j, j < xs.length → w.cell? ⟨b, off + j, none⟩ = some (.int .i64 (gt xs j)) := by
  rcases h with h | ⟨b, off, c, h1, hB, h2, h3, h4, h5⟩
  · exact Or.inl h
  · exact Or.inr ⟨b, off, c, h1, h2, h4⟩

theorem hRight_long {B : Nat} {w : World} {v : Value} {xs : List Int} (h : IsL B w v xs) (hl : 6 < xs.length) :
    Calls Tryd.prog 31 #[v] w fun e w' => e = .returned (.bool false) ∧ Below w.heap.size w w' := by
  obtain ⟨a, c, rfl⟩ := h.form
  clear h
  have hl' : (6 : Int) < (xs.length : Int) := by omega
  go_enter Tryd.func31, Tryd.ntmps31
  go_wp2
  go_ret
  exact ⟨rfl, Below.refl _ _⟩

set_option maxHeartbeats 2000000 in
theorem hRight_yes {B : Nat} {w : World} {v : Value} {xs : List Int} (h : IsL B w v xs) (hl : xs.length ≤ 6) (hp : Hp xs) :
    Calls Tryd.prog 31 #[v] w fun e w' => e = .returned (.bool true) ∧ Below w.heap.size w w' := by
  rcases gt_isL h with ⟨rfl, a, c, rfl⟩ | ⟨b, off, c, rfl, h0, hc⟩
  · clear h hp
    go_enter Tryd.func31, Tryd.ntmps31
    go_wp2_with fail
    go_loopg [3] 0 (fun _ s3 wt => s3 = .int .i64 1 ∧ wt = w)
    case atStart => exact ⟨rfl, rfl⟩
    case round =>
      obtain ⟨rfl, rfl⟩ := hrel
      go_wp2
      go_ret
      exact ⟨rfl, Below.refl _ _⟩
  · have C : Hid (∀ j, j < xs.length → w.cell? ⟨b, off + j, none⟩ = some (.int .i64 (gt xs j))) := hc
    have P : Hid (Hp xs) := hp
    clear h hc hp
    have hli : (xs.length : Int) ≤ 6 := by omega
    go_enter Tryd.func31, Tryd.ntmps31
    go_wp2_with fail
    go_loopg [3] xs.length (fun gg s3 wt => ∃ i : Nat, 0 < i ∧ i ≤ xs.length ∧ xs.length - i ≤ gg ∧ s3 = .int .i64 i ∧ Hid (Below w.heap.size w wt))
    case atStart => exact ⟨1, by omega, by omega, by omega, rfl, Below.refl _ _⟩
    case round =>
      obtain ⟨i, hi0, hi, hgg, rfl, Q⟩ := hrel
      have C' : Hid (∀ j, j < xs.length → wr.cell? ⟨b, off + j, none⟩ = some (.int .i64 (gt xs j))) := fun j hj => by rw [Q.out.cell (p := ⟨b, off + j, none⟩) (World.block_lt_of_cell? _ _ (C.out j hj))]; exact C.out j hj
      by_cases hlt : i < xs.length
      · have g1 : wr.cell? ⟨b, off + i, none⟩ = some (.int .i64 (gt xs i)) := C'.out i hlt
        have g2 : wr.cell? ⟨b, off + (i - 1) / 2, none⟩ = some (.int .i64 (gt xs ((i - 1) / 2))) := C'.out _ (by omega)
        have hle := P.out i hi0 hlt
        generalize gt xs i = x at g1 hle
        generalize gt xs ((i - 1) / 2) = y at g2 hle
        have hi1 : (i : Int) < (xs.length : Int) := by omega
        have hi2 : (0 : Int) ≤ (i : Int) := by omega
        obtain ⟨p, hpp⟩ : ∃ p, p = (i - 1) / 2 := ⟨_, rfl⟩
        have hp1 : (p : Int) < (xs.length : Int) := by omega
        have hp2 : (0 : Int) ≤ (p : Int) := by omega
        have A : Hid (∀ W, Calls Tryd.prog 47 #[.int .i64 i] W fun e w' => e = .returned (.int .i64 (p : Int)) ∧ w' = W) := by rw [hpp]; exact above_is i hi0 (by omega)
        rw [← hpp] at g2
        clear hpp
        go_wp2_with fail
        go_quiet ((go_at_call 47; exact Calls.quiet_of_same (A.out _)))
        go_wp2
        go_roundg (xs.length - (i + 1))
        case measure => omega
        case rel => exact ⟨i + 1, by omega, by omega, by omega, by go_num, Q.out.trans ((below_drewN _ _).mono Q.out.size)⟩
      · obtain rfl : i = xs.length := by omega
        go_wp2
        go_ret
        exact ⟨rfl, Q.out⟩
set_option maxHeartbeats 2000000 in
theorem hRight_no {B : Nat} {w : World} {v : Value} {xs : List Int} (h : IsL B w v xs) (hl : xs.length ≤ 6) (hp : ¬ Hp xs) :
    Calls Tryd.prog 31 #[v] w fun e w' => e = .returned (.bool false) ∧ Below w.heap.size w w' := by
  rcases gt_isL h with ⟨rfl, a, c, rfl⟩ | ⟨b, off, c, rfl, h0, hc⟩
  · exact absurd (fun i _ hi => absurd hi (by simp)) hp
  · have C : Hid (∀ j, j < xs.length → w.cell? ⟨b, off + j, none⟩ = some (.int .i64 (gt xs j))) := hc
    have P : Hid (¬ Hp xs) := hp
    clear h hc hp
    have hli : (xs.length : Int) ≤ 6 := by omega
    go_enter Tryd.func31, Tryd.ntmps31
    go_wp2_with fail
    go_loopg [3] xs.length (fun gg s3 wt => ∃ i : Nat, 0 < i ∧ i ≤ xs.length ∧ xs.length - i ≤ gg ∧ s3 = .int .i64 i ∧ Hid (Below w.heap.size w wt) ∧ Hid (∀ k, 0 < k → k < i → gt xs ((k - 1) / 2) ≤ gt xs k))
    case atStart => exact ⟨1, by omega, by omega, by omega, rfl, Below.refl _ _, fun k h1 h2 => by omega⟩
    case round =>
      obtain ⟨i, hi0, hi, hgg, rfl, Q, T⟩ := hrel
      have C' : Hid (∀ j, j < xs.length → wr.cell? ⟨b, off + j, none⟩ = some (.int .i64 (gt xs j))) := fun j hj => by rw [Q.out.cell (p := ⟨b, off + j, none⟩) (World.block_lt_of_cell? _ _ (C.out j hj))]; exact C.out j hj
      by_cases hlt : i < xs.length
      · have g1 : wr.cell? ⟨b, off + i, none⟩ = some (.int .i64 (gt xs i)) := C'.out i hlt
        have g2 : wr.cell? ⟨b, off + (i - 1) / 2, none⟩ = some (.int .i64 (gt xs ((i - 1) / 2))) := C'.out _ (by omega)
        obtain ⟨x, hx⟩ : ∃ x, gt xs i = x := ⟨_, rfl⟩
        obtain ⟨y, hy⟩ : ∃ y, gt xs ((i - 1) / 2) = y := ⟨_, rfl⟩
        have X : Hid (gt xs i = x ∧ gt xs ((i - 1) / 2) = y) := ⟨hx, hy⟩
        rw [hx] at g1
        rw [hy] at g2
        clear hx hy
        have hi1 : (i : Int) < (xs.length : Int) := by omega
        have hi2 : (0 : Int) ≤ (i : Int) := by omega
        obtain ⟨p, hpp⟩ : ∃ p, p = (i - 1) / 2 := ⟨_, rfl⟩
        have hp1 : (p : Int) < (xs.length : Int) := by omega
        have hp2 : (0 : Int) ≤ (p : Int) := by omega
        have A : Hid (∀ W, Calls Tryd.prog 47 #[.int .i64 i] W fun e w' => e = .returned (.int .i64 (p : Int)) ∧ w' = W) := by rw [hpp]; exact above_is i hi0 (by omega)
        rw [← hpp] at g2
        clear hpp
        go_wp2_with fail
        by_cases hxy : x < y
        · go_quiet ((go_at_call 47; exact Calls.quiet_of_same (A.out _)))
          go_wp2
          go_ret
          exact ⟨rfl, Q.out.trans ((below_drewN _ _).mono Q.out.size)⟩
        · go_quiet ((go_at_call 47; exact Calls.quiet_of_same (A.out _)))
          go_wp2
          go_roundg (xs.length - (i + 1))
          case measure => omega
          case rel =>
            refine ⟨i + 1, by omega, by omega, by omega, by go_num, Q.out.trans ((below_drewN _ _).mono Q.out.size), fun k k0 k1 => ?_⟩
            by_cases e : k = i
            · subst e; rw [X.out.1, X.out.2]; omega
            · exact T.out k k0 (by omega)
      · exact absurd (fun k k0 k1 => T.out k k0 (by omega)) P.out

theorem hRight_isnt {B : Nat} {w : World} {v : Value} {xs : List Int} (h : IsL B w v xs) (hr : ¬ (xs.length ≤ 6 ∧ Hp xs)) :
    Calls Tryd.prog 31 #[v] w fun e w' => e = .returned (.bool false) ∧ Below w.heap.size w w' := by
  by_cases hl : xs.length ≤ 6
  · exact hRight_no h hl fun hp => hr ⟨hl, hp⟩
  · exact hRight_long h (by omega)
end Go.Proofs.YtbmgjpdfmgcigabDoor
