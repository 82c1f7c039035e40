/- Package object: words up to a bound; tallies and lists as words. -/
import Derived.Test.YtbmgjpdfmgcigabDoorOw
import Derived.Test.YtbmgjpdfmgcigabDoorTp5
namespace Go.Proofs.YtbmgjpdfmgcigabDoor.Tab
set_option maxRecDepth 20000
open Go.RowKit

theorem cells_array : ∃ n e, Tryd.prog.underlying 24 = some (.array n e) := ⟨_, _, Tryd.underlying24⟩
theorem cells_size (c : Nat → Nat) : (Tryd.prog.info? 24).map (·.size) = some (wl c).length := by rw [wl_length]; kernel_rfl
theorem cells_size2 (c : Nat → Nat) : (Tryd.prog.info? 24).map (·.size) = some (wl c).toArray.size := by rw [List.size_toArray, wl_length]; kernel_rfl

/-- No word from off on, n of them, is above m. -/
def upC (c : Nat → Nat) (off n : Nat) (m : Int) : Bool := (List.range n).all fun j => decide (((c (off + j) : Nat) : Int) ≤ m)
theorem upC_iff {c : Nat → Nat} {off n : Nat} {m : Int} : upC c off n m = true ↔ ∀ j, j < n → ((c (off + j) : Nat) : Int) ≤ m := by simp [upC]
theorem upC_yes {c : Nat → Nat} {off n : Nat} {m : Int} {v : Bool} (hv : upC c off n m = v) (h : ∀ j, j < n → ((c (off + j) : Nat) : Int) ≤ m) : true = v := by rw [← hv]; exact (upC_iff.2 h).symm
theorem upC_no {c : Nat → Nat} {off n : Nat} {m : Int} {v : Bool} (hv : upC c off n m = v) {i : Nat} (hi : i < n) (h : ¬ ((c (off + i) : Nat) : Int) ≤ m) : false = v := by
  cases v
  · rfl
  · exact absurd (upC_iff.1 hv i hi) h

set_option maxHeartbeats 1000000 in
theorem upTo_is {w : World} {b off n k : Nat} {m : Int} {c : Nat → Nat} {v : Bool} (h : Bo w b (wl c)) (hn : off + n ≤ 17) (hv : upC c off n m = v) :
    Calls Tryd.prog 46 #[.slice (some ⟨b, off, none⟩) n k, .int .u64 m] w fun e w' => e = .returned (.bool v) ∧ w' = w := by
  have H : Hid (Bo w b (wl c)) := h
  have HV : Hid _ := hv
  clear h hv
  go_enter Tryd.func46, Tryd.ntmps46
  go_wp2_with fail
  go_loopg [9] n (fun gg s9 wt => wt = w ∧ ∃ i : Nat, i ≤ n ∧ n - i ≤ gg ∧ s9 = .int .i64 i ∧ Hid (∀ j, j < i → ((c (off + j) : Nat) : Int) ≤ m))
  case atStart => exact ⟨rfl, 0, by omega, by omega, rfl, fun j hj => absurd hj (by omega)⟩
  case round =>
    obtain ⟨rfl, i, hi, hgg, rfl, U⟩ := hrel
    by_cases hlt : i < n
    · have g0 := H.out.word (show off + i < 17 by omega)
      have hi1 : (i : Int) < (n : Int) := by omega
      have hi0 : (0 : Int) ≤ (i : Int) := by omega
      by_cases hle : ((c (off + i) : Nat) : Int) ≤ m
      · have U' : Hid (∀ j, j < i + 1 → ((c (off + j) : Nat) : Int) ≤ m) := fun j hj => by
          by_cases e : j = i
          · subst e; exact hle
          · exact U.out j (by omega)
        have hd : ¬ m < ((c (off + i) : Nat) : Int) := by omega
        generalize c (off + i) = x at g0 hd hle
        clear hle
        go_wp2
        go_roundg (n - (i + 1))
        case measure => omega
        case rel => exact ⟨rfl, i + 1, by omega, by omega, by go_num, U'⟩
      · have E : Hid (false = v) := upC_no HV.out hlt hle
        have hd : m < ((c (off + i) : Nat) : Int) := by omega
        generalize c (off + i) = x at g0 hd hle
        clear hle
        go_wp2
        go_ret
        exact ⟨by rw [← E.out]; rfl, rfl⟩
    · have ei : i = n := by omega
      subst ei
      have E : Hid (true = v) := upC_yes HV.out U.out
      go_wp2
      go_ret
      exact ⟨by rw [← E.out]; rfl, rfl⟩

set_option maxHeartbeats 1000000 in
theorem isTally_is (c : Nat → Nat) (w : World) : Calls Tryd.prog 34 #[.agg (wl c).toArray] w fun e w' => e = .returned (.bool (upC c 0 1 4294967295 && upC c 1 16 0)) ∧ Below w.heap.size w w' := by
  have G : Hid (Below w.heap.size w (w.alloc (.cells (wl c).toArray 24))) := new_below w _
  have T : Hid (Bo (w.alloc (.cells (wl c).toArray 24)) w.heap.size (wl c)) := Bo.born w (wl c) _ rfl
  rcases h1 : upC c 0 1 4294967295 with _ | _
  · go_enter Tryd.func34, Tryd.ntmps34
    go_wp2_with fail
    refine (upTo_is T.out (by decide) h1).mono ?_
    rintro e w1 ⟨rfl, rfl⟩
    go_wp2
    go_ret
    exact ⟨rfl, G.out⟩
  · rcases h2 : upC c 1 16 0 with _ | _
    all_goals
      go_enter Tryd.func34, Tryd.ntmps34
      go_wp2_with fail
      refine (upTo_is T.out (by decide) h1).mono ?_
      rintro e w1 ⟨rfl, rfl⟩
      go_wp2_with fail
      refine (upTo_is T.out (by decide) h2).mono ?_
      rintro e w1 ⟨rfl, rfl⟩
      go_wp2
      go_ret
      exact ⟨rfl, G.out⟩

/-- Lists as words. -/
def isLb (c : Nat → Nat) : Bool := decide (c 0 ≤ 6) && (upC c 1 (c 0) 4294967295 && upC c (1 + c 0) (16 - c 0) 0)
set_option maxHeartbeats 1000000 in
theorem isList_no (c : Nat → Nat) (h : ¬ c 0 ≤ 6) (w : World) : Calls Tryd.prog 30 #[.agg (wl c).toArray] w fun e w' => e = .returned (.bool false) ∧ Below w.heap.size w w' := by
  have G : Hid (Below w.heap.size w (w.alloc (.cells (wl c).toArray 24))) := new_below w _
  have T : Hid (Bo (w.alloc (.cells (wl c).toArray 24)) w.heap.size (wl c)) := Bo.born w (wl c) _ rfl
  have g0 := T.out.word (show 0 < 17 by decide)
  have hd : decide (((c 0 : Nat) : Int) ≤ 6) = false := by simp; omega
  go_enter Tryd.func30, Tryd.ntmps30
  go_wp2_with fail
  generalize w.alloc (.cells (wl c).toArray 24) = W at T G g0 ⊢
  generalize c 0 = k at g0 hd ⊢
  go_region
  all_goals go_wp2
  all_goals go_ret
  all_goals exact ⟨rfl, Below.drew G.out⟩
set_option maxHeartbeats 2000000 in
theorem isList_0 (c : Nat → Nat) (h : c 0 = 0) {v1 v2 : Bool} (h1 : upC c 1 0 4294967295 = v1) (h2 : upC c 1 16 0 = v2) (w : World) : Calls Tryd.prog 30 #[.agg (wl c).toArray] w fun e w' => e = .returned (.bool (v1 && v2)) ∧ Below w.heap.size w w' := by
  have G : Hid (Below w.heap.size w (w.alloc (.cells (wl c).toArray 24))) := new_below w _
  have T : Hid (Bo (w.alloc (.cells (wl c).toArray 24)) w.heap.size (wl c)) := Bo.born w (wl c) _ rfl
  have g0 : (w.alloc (.cells (wl c).toArray 24)).cell? ⟨w.heap.size, 0, none⟩ = some (.int .u64 0) := by have := T.out.word (show 0 < 17 by decide); rw [h] at this; exact this
  have H1 : Hid _ := h1
  have H2 : Hid _ := h2
  clear h h1 h2
  go_enter Tryd.func30, Tryd.ntmps30
  go_wp2_with fail
  generalize w.alloc (.cells (wl c).toArray 24) = W at T G g0 ⊢
  have T1 : Hid (Bo W.drew w.heap.size (wl c)) := T.out.drew
  have G1 : Hid (Below w.heap.size w W.drew) := Below.drew G.out
  go_region
  all_goals go_wp2_with fail
  all_goals
    refine (upTo_is T1.out (by decide) H1.out).mono ?_
    rintro e w1 ⟨rfl, rfl⟩
  all_goals cases v1
  all_goals go_wp2_with fail
  all_goals first
    | (refine (upTo_is T1.out (by decide) H2.out).mono ?_
       rintro e w1 ⟨rfl, rfl⟩
       go_wp2)
    | skip
  all_goals go_ret
  all_goals exact ⟨rfl, G1.out⟩
set_option maxHeartbeats 2000000 in
theorem isList_1 (c : Nat → Nat) (h : c 0 = 1) {v1 v2 : Bool} (h1 : upC c 1 1 4294967295 = v1) (h2 : upC c 2 15 0 = v2) (w : World) : Calls Tryd.prog 30 #[.agg (wl c).toArray] w fun e w' => e = .returned (.bool (v1 && v2)) ∧ Below w.heap.size w w' := by
  have G : Hid (Below w.heap.size w (w.alloc (.cells (wl c).toArray 24))) := new_below w _
  have T : Hid (Bo (w.alloc (.cells (wl c).toArray 24)) w.heap.size (wl c)) := Bo.born w (wl c) _ rfl
  have g0 : (w.alloc (.cells (wl c).toArray 24)).cell? ⟨w.heap.size, 0, none⟩ = some (.int .u64 1) := by have := T.out.word (show 0 < 17 by decide); rw [h] at this; exact this
  have H1 : Hid _ := h1
  have H2 : Hid _ := h2
  clear h h1 h2
  go_enter Tryd.func30, Tryd.ntmps30
  go_wp2_with fail
  generalize w.alloc (.cells (wl c).toArray 24) = W at T G g0 ⊢
  have T1 : Hid (Bo W.drew w.heap.size (wl c)) := T.out.drew
  have G1 : Hid (Below w.heap.size w W.drew) := Below.drew G.out
  go_region
  all_goals go_wp2_with fail
  all_goals
    refine (upTo_is T1.out (by decide) H1.out).mono ?_
    rintro e w1 ⟨rfl, rfl⟩
  all_goals cases v1
  all_goals go_wp2_with fail
  all_goals first
    | (refine (upTo_is T1.out (by decide) H2.out).mono ?_
       rintro e w1 ⟨rfl, rfl⟩
       go_wp2)
    | skip
  all_goals go_ret
  all_goals exact ⟨rfl, G1.out⟩
set_option maxHeartbeats 2000000 in
theorem isList_2 (c : Nat → Nat) (h : c 0 = 2) {v1 v2 : Bool} (h1 : upC c 1 2 4294967295 = v1) (h2 : upC c 3 14 0 = v2) (w : World) : Calls Tryd.prog 30 #[.agg (wl c).toArray] w fun e w' => e = .returned (.bool (v1 && v2)) ∧ Below w.heap.size w w' := by
  have G : Hid (Below w.heap.size w (w.alloc (.cells (wl c).toArray 24))) := new_below w _
  have T : Hid (Bo (w.alloc (.cells (wl c).toArray 24)) w.heap.size (wl c)) := Bo.born w (wl c) _ rfl
  have g0 : (w.alloc (.cells (wl c).toArray 24)).cell? ⟨w.heap.size, 0, none⟩ = some (.int .u64 2) := by have := T.out.word (show 0 < 17 by decide); rw [h] at this; exact this
  have H1 : Hid _ := h1
  have H2 : Hid _ := h2
  clear h h1 h2
  go_enter Tryd.func30, Tryd.ntmps30
  go_wp2_with fail
  generalize w.alloc (.cells (wl c).toArray 24) = W at T G g0 ⊢
  have T1 : Hid (Bo W.drew w.heap.size (wl c)) := T.out.drew
  have G1 : Hid (Below w.heap.size w W.drew) := Below.drew G.out
  go_region
  all_goals go_wp2_with fail
  all_goals
    refine (upTo_is T1.out (by decide) H1.out).mono ?_
    rintro e w1 ⟨rfl, rfl⟩
  all_goals cases v1
  all_goals go_wp2_with fail
  all_goals first
    | (refine (upTo_is T1.out (by decide) H2.out).mono ?_
       rintro e w1 ⟨rfl, rfl⟩
       go_wp2)
    | skip
  all_goals go_ret
  all_goals exact ⟨rfl, G1.out⟩
set_option maxHeartbeats 2000000 in
theorem isList_3 (c : Nat → Nat) (h : c 0 = 3) {v1 v2 : Bool} (h1 : upC c 1 3 4294967295 = v1) (h2 : upC c 4 13 0 = v2) (w : World) : Calls Tryd.prog 30 #[.agg (wl c).toArray] w fun e w' => e = .returned (.bool (v1 && v2)) ∧ Below w.heap.size w w' := by
  have G : Hid (Below w.heap.size w (w.alloc (.cells (wl c).toArray 24))) := new_below w _
  have T : Hid (Bo (w.alloc (.cells (wl c).toArray 24)) w.heap.size (wl c)) := Bo.born w (wl c) _ rfl
  have g0 : (w.alloc (.cells (wl c).toArray 24)).cell? ⟨w.heap.size, 0, none⟩ = some (.int .u64 3) := by have := T.out.word (show 0 < 17 by decide); rw [h] at this; exact this
  have H1 : Hid _ := h1
  have H2 : Hid _ := h2
  clear h h1 h2
  go_enter Tryd.func30, Tryd.ntmps30
  go_wp2_with fail
  generalize w.alloc (.cells (wl c).toArray 24) = W at T G g0 ⊢
  have T1 : Hid (Bo W.drew w.heap.size (wl c)) := T.out.drew
  have G1 : Hid (Below w.heap.size w W.drew) := Below.drew G.out
  go_region
  all_goals go_wp2_with fail
  all_goals
    refine (upTo_is T1.out (by decide) H1.out).mono ?_
    rintro e w1 ⟨rfl, rfl⟩
  all_goals cases v1
  all_goals go_wp2_with fail
  all_goals first
    | (refine (upTo_is T1.out (by decide) H2.out).mono ?_
       rintro e w1 ⟨rfl, rfl⟩
       go_wp2)
    | skip
  all_goals go_ret
  all_goals exact ⟨rfl, G1.out⟩
set_option maxHeartbeats 2000000 in
theorem isList_4 (c : Nat → Nat) (h : c 0 = 4) {v1 v2 : Bool} (h1 : upC c 1 4 4294967295 = v1) (h2 : upC c 5 12 0 = v2) (w : World) : Calls Tryd.prog 30 #[.agg (wl c).toArray] w fun e w' => e = .returned (.bool (v1 && v2)) ∧ Below w.heap.size w w' := by
  have G : Hid (Below w.heap.size w (w.alloc (.cells (wl c).toArray 24))) := new_below w _
  have T : Hid (Bo (w.alloc (.cells (wl c).toArray 24)) w.heap.size (wl c)) := Bo.born w (wl c) _ rfl
  have g0 : (w.alloc (.cells (wl c).toArray 24)).cell? ⟨w.heap.size, 0, none⟩ = some (.int .u64 4) := by have := T.out.word (show 0 < 17 by decide); rw [h] at this; exact this
  have H1 : Hid _ := h1
  have H2 : Hid _ := h2
  clear h h1 h2
  go_enter Tryd.func30, Tryd.ntmps30
  go_wp2_with fail
  generalize w.alloc (.cells (wl c).toArray 24) = W at T G g0 ⊢
  have T1 : Hid (Bo W.drew w.heap.size (wl c)) := T.out.drew
  have G1 : Hid (Below w.heap.size w W.drew) := Below.drew G.out
  go_region
  all_goals go_wp2_with fail
  all_goals
    refine (upTo_is T1.out (by decide) H1.out).mono ?_
    rintro e w1 ⟨rfl, rfl⟩
  all_goals cases v1
  all_goals go_wp2_with fail
  all_goals first
    | (refine (upTo_is T1.out (by decide) H2.out).mono ?_
       rintro e w1 ⟨rfl, rfl⟩
       go_wp2)
    | skip
  all_goals go_ret
  all_goals exact ⟨rfl, G1.out⟩
set_option maxHeartbeats 2000000 in
theorem isList_5 (c : Nat → Nat) (h : c 0 = 5) {v1 v2 : Bool} (h1 : upC c 1 5 4294967295 = v1) (h2 : upC c 6 11 0 = v2) (w : World) : Calls Tryd.prog 30 #[.agg (wl c).toArray] w fun e w' => e = .returned (.bool (v1 && v2)) ∧ Below w.heap.size w w' := by
  have G : Hid (Below w.heap.size w (w.alloc (.cells (wl c).toArray 24))) := new_below w _
  have T : Hid (Bo (w.alloc (.cells (wl c).toArray 24)) w.heap.size (wl c)) := Bo.born w (wl c) _ rfl
  have g0 : (w.alloc (.cells (wl c).toArray 24)).cell? ⟨w.heap.size, 0, none⟩ = some (.int .u64 5) := by have := T.out.word (show 0 < 17 by decide); rw [h] at this; exact this
  have H1 : Hid _ := h1
  have H2 : Hid _ := h2
  clear h h1 h2
  go_enter Tryd.func30, Tryd.ntmps30
  go_wp2_with fail
  generalize w.alloc (.cells (wl c).toArray 24) = W at T G g0 ⊢
  have T1 : Hid (Bo W.drew w.heap.size (wl c)) := T.out.drew
  have G1 : Hid (Below w.heap.size w W.drew) := Below.drew G.out
  go_region
  all_goals go_wp2_with fail
  all_goals
    refine (upTo_is T1.out (by decide) H1.out).mono ?_
    rintro e w1 ⟨rfl, rfl⟩
  all_goals cases v1
  all_goals go_wp2_with fail
  all_goals first
    | (refine (upTo_is T1.out (by decide) H2.out).mono ?_
       rintro e w1 ⟨rfl, rfl⟩
       go_wp2)
    | skip
  all_goals go_ret
  all_goals exact ⟨rfl, G1.out⟩
set_option maxHeartbeats 2000000 in
theorem isList_6 (c : Nat → Nat) (h : c 0 = 6) {v1 v2 : Bool} (h1 : upC c 1 6 4294967295 = v1) (h2 : upC c 7 10 0 = v2) (w : World) : Calls Tryd.prog 30 #[.agg (wl c).toArray] w fun e w' => e = .returned (.bool (v1 && v2)) ∧ Below w.heap.size w w' := by
  have G : Hid (Below w.heap.size w (w.alloc (.cells (wl c).toArray 24))) := new_below w _
  have T : Hid (Bo (w.alloc (.cells (wl c).toArray 24)) w.heap.size (wl c)) := Bo.born w (wl c) _ rfl
  have g0 : (w.alloc (.cells (wl c).toArray 24)).cell? ⟨w.heap.size, 0, none⟩ = some (.int .u64 6) := by have := T.out.word (show 0 < 17 by decide); rw [h] at this; exact this
  have H1 : Hid _ := h1
  have H2 : Hid _ := h2
  clear h h1 h2
  go_enter Tryd.func30, Tryd.ntmps30
  go_wp2_with fail
  generalize w.alloc (.cells (wl c).toArray 24) = W at T G g0 ⊢
  have T1 : Hid (Bo W.drew w.heap.size (wl c)) := T.out.drew
  have G1 : Hid (Below w.heap.size w W.drew) := Below.drew G.out
  go_region
  all_goals go_wp2_with fail
  all_goals
    refine (upTo_is T1.out (by decide) H1.out).mono ?_
    rintro e w1 ⟨rfl, rfl⟩
  all_goals cases v1
  all_goals go_wp2_with fail
  all_goals first
    | (refine (upTo_is T1.out (by decide) H2.out).mono ?_
       rintro e w1 ⟨rfl, rfl⟩
       go_wp2)
    | skip
  all_goals go_ret
  all_goals exact ⟨rfl, G1.out⟩
theorem isList_is (c : Nat → Nat) (w : World) : Calls Tryd.prog 30 #[.agg (wl c).toArray] w fun e w' => e = .returned (.bool (isLb c)) ∧ Below w.heap.size w w' := by
  by_cases h : c 0 ≤ 6
  · have hd : decide (c 0 ≤ 6) = true := by simp [h]
    have hh : c 0 = 0 ∨ c 0 = 1 ∨ c 0 = 2 ∨ c 0 = 3 ∨ c 0 = 4 ∨ c 0 = 5 ∨ c 0 = 6 := by omega
    unfold isLb
    rw [hd, Bool.true_and]
    rcases hh with e | e | e | e | e | e | e <;> rw [e]
    · exact isList_0 c e rfl rfl w
    · exact isList_1 c e rfl rfl w
    · exact isList_2 c e rfl rfl w
    · exact isList_3 c e rfl rfl w
    · exact isList_4 c e rfl rfl w
    · exact isList_5 c e rfl rfl w
    · exact isList_6 c e rfl rfl w
  · have hd : decide (c 0 ≤ 6) = false := by simp; omega
    unfold isLb
    rw [hd, Bool.false_and]
    exact isList_no c h w
end Go.Proofs.YtbmgjpdfmgcigabDoor.Tab
