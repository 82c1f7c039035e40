/- The reference's HeapRight, by its contracts. -/
import Derived.Test.YtbmgjpdfmgcigabDoorHr
import Derived.Test.YtbmgjpdfmgcigabDoorTb
namespace Go.Proofs.YtbmgjpdfmgcigabDoor
set_option maxRecDepth 20000
open Go.RowKit

/-- b says whether xs is a heap. -/
structure Says (b : Bool) (xs : List Int) : Prop where
  iff : b = true ↔ xs.length ≤ 6 ∧ Hp xs
theorem Says.yes {xs : List Int} (h : xs.length ≤ 6) (hp : Hp xs) : Says true xs := ⟨fun _ => ⟨h, hp⟩, fun _ => rfl⟩
theorem Says.no {xs : List Int} (h : ¬ (xs.length ≤ 6 ∧ Hp xs)) : Says false xs := ⟨fun h => (by cases h), fun hh => absurd hh h⟩

theorem lit_two (w : World) (x y : Int) (t : TypeId) : (w.alloc (.cells #[.int .i64 x, .int .i64 y] t)).cell? ⟨w.heap.size, 0, none⟩ = some (.int .i64 x) ∧ (w.alloc (.cells #[.int .i64 x, .int .i64 y] t)).cell? ⟨w.heap.size, 1, none⟩ = some (.int .i64 y) := by simp

set_option maxHeartbeats 4000000 in
theorem RRight_is {B : Nat} {w : World} {v : Value} {xs : List Int} (h : IsL B w v xs) (hl : xs.length ≤ 60) :
    Calls Tryd.prog 15 #[v] w fun e w' => ∃ b : Bool, e = .returned (.bool b) ∧ Says b xs ∧ Below w.heap.size w w' := by
  rcases gt_isL h with ⟨rfl, a, c, rfl⟩ | ⟨b, off, c, rfl, h0, hc⟩
  · clear h
    go_enter Tryd.func15, Tryd.ntmps15
    go_wp2_with fail
    go_loopg [8] 0 (fun _ s8 wt => s8 = .int .i64 0 ∧ wt = w)
    case atStart => exact ⟨rfl, rfl⟩
    case round =>
      obtain ⟨rfl, rfl⟩ := hrel
      go_wp2
      go_ret
      exact ⟨true, rfl, Says.yes (by simp) (fun i _ hi => absurd hi (by simp)), Below.refl _ _⟩
  · have C : Hid (∀ j, j < xs.length → w.cell? ⟨b, off + j, none⟩ = some (.int .i64 (gt xs j))) := hc
    clear h hc
    obtain ⟨n, hn⟩ : ∃ n, n = xs.length := ⟨_, rfl⟩
    have N : Hid (n = xs.length) := hn
    rw [← hn] at C h0 hl ⊢
    clear hn
    go_enter Tryd.func15, Tryd.ntmps15
    go_wp2_with fail
    go_loopg [8] n (fun gg s8 wt => ∃ i : Nat, i ≤ n ∧ n - i ≤ gg ∧ s8 = .int .i64 i ∧ Hid (Below w.heap.size w wt) ∧ Hid (∀ k, 0 < k → k < n → (k - 1) / 2 < i → gt xs ((k - 1) / 2) ≤ gt xs k))
    case atStart => exact ⟨0, Nat.zero_le _, by omega, rfl, Below.refl _ _, fun k _ _ hk => absurd hk (by omega)⟩
    case round =>
      obtain ⟨i, hi, hgg, rfl, Q, T⟩ := hrel
      obtain ⟨w1, rfl⟩ : ∃ w1, w1 = wr := ⟨_, rfl⟩
      by_cases hlt : i < n
      · have hi1 : (i : Int) < (n : Int) := by omega
        have hi2 : (0 : Int) ≤ (i : Int) := by omega
        have LB : Hid (Below w1.heap.size w1 (w1.alloc (.cells #[.int .i64 (2 * (i : Int) + 1), .int .i64 (2 * (i : Int) + 2)] 3))) := (Below.refl _ _).alloc (Nat.le_refl _) _
        have LC : Hid ((w1.alloc (.cells #[.int .i64 (2 * (i : Int) + 1), .int .i64 (2 * (i : Int) + 2)] 3)).cell? ⟨w1.heap.size, 0, none⟩ = some (.int .i64 (2 * (i : Int) + 1)) ∧ (w1.alloc (.cells #[.int .i64 (2 * (i : Int) + 1), .int .i64 (2 * (i : Int) + 2)] 3)).cell? ⟨w1.heap.size, 1, none⟩ = some (.int .i64 (2 * (i : Int) + 2))) := lit_two _ _ _ _
        go_wp2_with fail
        generalize w1.alloc (.cells #[.int .i64 (2 * (i : Int) + 1), .int .i64 (2 * (i : Int) + 2)] 3) = W at LB LC ⊢
        obtain ⟨gk0, hgk0⟩ : ∃ gk0, gk0 = gk := ⟨_, rfl⟩
        have GK : Hid (gk = gk0) := hgk0.symm
        go_loopg [19] 2 (fun gg s19 wt => ∃ j : Nat, j ≤ 2 ∧ 2 - j ≤ gg ∧ s19 = .int .i64 j ∧ Hid (Below W.heap.size W wt) ∧ Hid (∀ k, 0 < k → k < n → (k - 1) / 2 < i ∨ k < 2 * i + 1 + j → gt xs ((k - 1) / 2) ≤ gt xs k))
        case atStart => exact ⟨0, Nat.zero_le _, by omega, rfl, Below.refl _ _, fun k k0 k1 hk => T.out k k0 k1 (by omega)⟩
        case round =>
          obtain ⟨j, hj, hgj, rfl, Q2, T2⟩ := hrel
          have Q3 : Hid (Below w.heap.size w wr) := Q.out.trans ((LB.out.trans (Q2.out.mono LB.out.size)).mono Q.out.size)
          by_cases hj2 : j < 2
          · obtain ⟨kk, hkk⟩ : ∃ kk, kk = 2 * i + 1 + j := ⟨_, rfl⟩
            have cj : wr.cell? ⟨w1.heap.size, j, none⟩ = some (.int .i64 (kk : Nat)) := by
              have hblt : w1.heap.size < W.heap.size := World.block_lt_of_cell? _ _ LC.out.1
              rw [Q2.out.cell (p := ⟨w1.heap.size, j, none⟩) hblt]
              have : j = 0 ∨ j = 1 := by omega
              rcases this with rfl | rfl
              · rw [LC.out.1]; congr 2; omega
              · rw [LC.out.2]; congr 2; omega
            have hj0 : (0 : Int) ≤ (j : Int) := by omega
            have hj1 : (j : Int) < 2 := by omega
            have hk0 : (0 : Int) ≤ (kk : Int) := by omega
            have KK : Hid (kk = 2 * i + 1 + j) := hkk
            clear hkk
            by_cases hkn : kk < n
            · have hk1 : (kk : Int) < (n : Int) := by omega
              obtain ⟨x, hx⟩ : ∃ x, gt xs kk = x := ⟨_, rfl⟩
              obtain ⟨y, hy⟩ : ∃ y, gt xs i = y := ⟨_, rfl⟩
              have g1 : wr.cell? ⟨b, off + kk, none⟩ = some (.int .i64 x) := by
                rw [Q3.out.cell (p := ⟨b, off + kk, none⟩) (World.block_lt_of_cell? _ _ (C.out kk hkn)), C.out kk hkn, hx]
              have g2 : wr.cell? ⟨b, off + i, none⟩ = some (.int .i64 y) := by
                rw [Q3.out.cell (p := ⟨b, off + i, none⟩) (World.block_lt_of_cell? _ _ (C.out i hlt)), C.out i hlt, hy]
              have X : Hid (gt xs kk = x ∧ gt xs i = y) := ⟨hx, hy⟩
              clear hx hy
              by_cases hxy : x < y
              · go_wp2_with fail
                go_quiet (fail)
                go_wp2
                go_ret
                refine ⟨false, rfl, Says.no fun ⟨_, hp⟩ => ?_, Q3.out.trans ((below_drewN _ _).mono Q3.out.size)⟩
                have ek := KK.out
                have := hp kk (by omega) (by rw [← N.out]; exact hkn)
                rw [show (kk - 1) / 2 = i by omega, X.out.1, X.out.2] at this
                omega
              · have hd2 : decide (x < y) = false := by simpa using hxy
                go_wp2_with fail
                go_quiet (fail)
                go_wp2
                go_roundg (2 - (j + 1))
                case measure => omega
                case rel =>
                  refine ⟨j + 1, by omega, by omega, by go_num, Q2.out.trans ((below_drewN _ _).mono Q2.out.size), fun k k0 k1 hk => ?_⟩
                  have ek := KK.out
                  by_cases e : k = kk
                  · subst e; rw [show (k - 1) / 2 = i by omega, X.out.1, X.out.2]; omega
                  · exact T2.out k k0 k1 (by omega)
            · have hd2 : decide ((kk : Int) < (n : Int)) = false := by simp; omega
              go_wp2_with fail
              go_quiet (fail)
              go_wp2
              go_roundg (2 - (j + 1))
              case measure => omega
              case rel =>
                refine ⟨j + 1, by omega, by omega, by go_num, Q2.out.trans ((below_drewN _ _).mono Q2.out.size), fun k k0 k1 hk => ?_⟩
                have ek := KK.out
                exact T2.out k k0 k1 (by omega)
          · obtain rfl : j = 2 := by omega
            go_wp2
            go_roundg (n - (i + 1))
            case measure => omega
            case rel => exact ⟨i + 1, by omega, by omega, by go_num, Q3, fun k k0 k1 hk => T2.out k k0 k1 (by omega)⟩
      · obtain rfl : i = n := by omega
        have hp : Hid (Hp xs) := fun k k0 k1 => T.out k k0 (by rw [N.out]; exact k1) (by rw [N.out]; omega)
        by_cases h6 : i ≤ 6
        · have h6i : (i : Int) ≤ 6 := by omega
          go_wp2
          go_ret
          exact ⟨true, rfl, Says.yes (by rw [← N.out]; exact h6) hp.out, Q.out⟩
        · have h6i : ¬ (i : Int) ≤ 6 := by omega
          have h6d : decide ((i : Int) ≤ 6) = false := by simpa using h6i
          go_wp2
          go_ret
          exact Or.inl ⟨rfl, Says.no (fun h => h6 (by rw [N.out]; exact h.1)), Q.out⟩
theorem RRight_yes {B : Nat} {w : World} {v : Value} {xs : List Int} (h : IsL B w v xs) (hl : xs.length ≤ 6) (hp : Hp xs) :
    Calls Tryd.prog 15 #[v] w fun e w' => e = .returned (.bool true) ∧ Below w.heap.size w w' :=
  (RRight_is h (by omega)).mono fun _ _ ⟨b, he, hs, hb⟩ => ⟨by rw [he, hs.iff.2 ⟨hl, hp⟩], hb⟩
theorem RRight_isnt {B : Nat} {w : World} {v : Value} {xs : List Int} (h : IsL B w v xs) (hl : xs.length ≤ 60) (hr : ¬ (xs.length ≤ 6 ∧ Hp xs)) :
    Calls Tryd.prog 15 #[v] w fun e w' => e = .returned (.bool false) ∧ Below w.heap.size w w' :=
  (RRight_is h hl).mono fun _ _ ⟨b, he, hs, hb⟩ => ⟨by
    cases b with
    | false => exact he
    | true => exact absurd (hs.iff.1 rfl) hr, hb⟩
end Go.Proofs.YtbmgjpdfmgcigabDoor
