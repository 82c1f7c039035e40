/- The reference's same, by its contract: seventeen words held against words of a longer row. -/
import Derived.Test.YtbmgjpdfmgcigabDoorTt
import Derived.Deep.LoopGhost
import Derived.Deep.RegionWith
import Derived.BigRegion
namespace Go.Proofs.YtbmgjpdfmgcigabDoor.Tab
set_option maxRecDepth 20000
open Go.RowKit
set_option linter.unusedVariables false

set_option maxHeartbeats 2000000 in
theorem same_wf {w : World} {ba bc oc ka kc : Nat} {d c : Nat → Nat} (ha : Bo w ba (wl d)) (hc : Wf w bc oc c) (v : Bool) (hv : v = true ↔ ∀ j, j < 17 → d j = c j) :
    Calls Tryd.prog 16 #[.slice (some ⟨ba, 0, none⟩) 17 ka, .slice (some ⟨bc, oc, none⟩) 17 kc] w fun e w' => e = .returned (.bool v) ∧ Below w.heap.size w w' := by
  have HA : Hid _ := ha
  have HC : Hid _ := hc
  have HV : Hid _ := hv
  clear ha hc hv
  go_enter Tryd.func16, Tryd.ntmps16
  go_wp2_with fail
  go_loopg [8] 17 (fun gg s8 wt => ∃ i q : Nat, i ≤ 17 ∧ 17 - i ≤ gg ∧ s8 = .int .i64 i ∧ wt = w.drewN q ∧ Hid (∀ j, j < i → d j = c j))
  case atStart => exact ⟨0, 0, by omega, by omega, rfl, rfl, fun j hj => absurd hj (by omega)⟩
  case round =>
    obtain ⟨i, q, hi, hgg, rfl, rfl, E⟩ := hrel
    by_cases hlt : i < 17
    · have g1 : w.cell? ⟨ba, i, none⟩ = some (.int .u64 (d i : Nat)) := HA.out.word hlt
      have g2 : w.cell? ⟨bc, oc + i, none⟩ = some (.int .u64 (c i : Nat)) := HC.out.cell i hlt
      have hi1 : (i : Int) < 17 := by omega
      have hi0 : (0 : Int) ≤ (i : Int) := by omega
      have hd : decide ((17 : Int) ≤ (i : Int)) = false := by simp; omega
      by_cases he : d i = c i
      · have E' : Hid (∀ j, j < i + 1 → d j = c j) := fun j hj => by
          by_cases e : j = i
          · subst e; exact he
          · exact E.out j (by omega)
        rw [he] at g1
        clear E he
        generalize c i = x at g1 g2
        go_wp2_with fail
        go_region
        all_goals go_wp2
        go_roundg (17 - (i + 1))
        case measure => omega
        case rel => exact ⟨i + 1, q + 1, by omega, by omega, by go_num, rfl, E'⟩
      · have e : v = false := by
          cases v
          · rfl
          · exact absurd (HV.out.1 rfl i hlt) he
        subst e
        clear HV E
        have hne : (((d i : Nat) : Int) == ((c i : Nat) : Int)) = false := by simp; omega
        clear he
        generalize d i = x at g1 hne
        generalize c i = y at g2 hne
        go_wp2_with fail
        go_region
        all_goals go_wp2
        go_ret
        exact ⟨rfl, below_drewN _ _⟩
    · obtain rfl : i = 17 := by omega
      have e : v = true := HV.out.2 E.out
      subst e
      go_wp2
      go_ret
      exact ⟨rfl, below_drewN _ _⟩
end Go.Proofs.YtbmgjpdfmgcigabDoor.Tab
