/- Texts laid together: Package object: words up to a bound; tallies and lists as words; Rows of this program's types; The reference's same, by its contract: seventeen words held against words of a longer row; The reference's Thing.Cells, by its contract: a table; What an answer takes in memory: the text that has it here; A key's row, as it lies; The reference's TableRight, by its contract; What a number takes in memory: the texts that have it here; The reference's ThingOf: what is no kind, a word that is too great, a tally, a table; The builtin append onto a row of the call's own, in a region that draws its order; Package heap's Right, by its contracts; The reference's HeapRight, by its contracts; The reference's Thing.Cells, by its contract: a list. -/
import Derived.Test.YtgkgkiheoadbfaaPk00
import Derived.Test.YtgkgkiheoadbfaaPk02
import Derived.Test.YtgkgkiheoadbfaaPk01
import Derived.Deep.LoopGhost
import Derived.Deep.RegionWith
import Derived.BigRegion
import Derived.Deep.RegionHeld
import Derived.Test.YtgkgkiheoadbfaaRows
import Derived.BigQuiet
import Derived.Deep.QuietTactic
namespace Go.Proofs.Ytgkgkiheoadbfaa.Tab
set_option maxRecDepth 20000
open Go.RowKit

theorem cells_array : ∃ n e, Try.prog.underlying 28 = some (.array n e) := ⟨_, _, Try.underlying28⟩
theorem cells_size (c : Nat → Nat) : (Try.prog.info? 28).map (·.size) = some (wl c).length := by rw [wl_length]; kernel_rfl
theorem cells_size2 (c : Nat → Nat) : (Try.prog.info? 28).map (·.size) = some (wl c).toArray.size := by rw [List.size_toArray, wl_length]; kernel_rfl

/-- No word from off on, n of them, is above m. -/
def upC (c : Nat → Nat) (off n : Nat) (m : Int) : Bool := (List.range n).all fun j => decide (((c (off + j) : Nat) : Int) ≤ m)
theorem upC_iff {c : Nat → Nat} {off n : Nat} {m : Int} : upC c off n m = true ↔ ∀ j, j < n → ((c (off + j) : Nat) : Int) ≤ m := by simp [upC]
theorem upC_yes {c : Nat → Nat} {off n : Nat} {m : Int} {v : Bool} (hv : upC c off n m = v) (h : ∀ j, j < n → ((c (off + j) : Nat) : Int) ≤ m) : true = v := by rw [← hv]; exact (upC_iff.2 h).symm
theorem upC_no {c : Nat → Nat} {off n : Nat} {m : Int} {v : Bool} (hv : upC c off n m = v) {i : Nat} (hi : i < n) (h : ¬ ((c (off + i) : Nat) : Int) ≤ m) : false = v := by
  cases v
  · rfl
  · exact absurd (upC_iff.1 hv i hi) h

set_option maxHeartbeats 1000000 in
theorem upTo_is {w : World} {b off n k : Nat} {m : Int} {c : Nat → Nat} {v : Bool} (h : Bo w b (wl c)) (hn : off + n ≤ 17) (hv : upC c off n m = v) :
    Calls Try.prog 57 #[.slice (some ⟨b, off, none⟩) n k, .int .u64 m] w fun e w' => e = .returned (.bool v) ∧ w' = w := by
  have H : Hid (Bo w b (wl c)) := h
  have HV : Hid _ := hv
  clear h hv
  go_enter Try.func57, Try.ntmps57
  go_wp2_with fail
  go_loopg [9] n (fun gg s9 wt => wt = w ∧ ∃ i : Nat, i ≤ n ∧ n - i ≤ gg ∧ s9 = .int .i64 i ∧ Hid (∀ j, j < i → ((c (off + j) : Nat) : Int) ≤ m))
  case atStart => exact ⟨rfl, 0, by omega, by omega, rfl, fun j hj => absurd hj (by omega)⟩
  case round =>
    obtain ⟨rfl, i, hi, hgg, rfl, U⟩ := hrel
    by_cases hlt : i < n
    · have g0 := H.out.word (show off + i < 17 by omega)
      have hi1 : (i : Int) < (n : Int) := by omega
      have hi0 : (0 : Int) ≤ (i : Int) := by omega
      by_cases hle : ((c (off + i) : Nat) : Int) ≤ m
      · have U' : Hid (∀ j, j < i + 1 → ((c (off + j) : Nat) : Int) ≤ m) := fun j hj => by
          by_cases e : j = i
          · subst e; exact hle
          · exact U.out j (by omega)
        have hd : ¬ m < ((c (off + i) : Nat) : Int) := by omega
        generalize c (off + i) = x at g0 hd hle
        clear hle
        go_wp2
        go_roundg (n - (i + 1))
        case measure => omega
        case rel => exact ⟨rfl, i + 1, by omega, by omega, by go_num, U'⟩
      · have E : Hid (false = v) := upC_no HV.out hlt hle
        have hd : m < ((c (off + i) : Nat) : Int) := by omega
        generalize c (off + i) = x at g0 hd hle
        clear hle
        go_wp2
        go_ret
        exact ⟨by rw [← E.out]; rfl, rfl⟩
    · have ei : i = n := by omega
      subst ei
      have E : Hid (true = v) := upC_yes HV.out U.out
      go_wp2
      go_ret
      exact ⟨by rw [← E.out]; rfl, rfl⟩

set_option maxHeartbeats 1000000 in
theorem isTally_is (c : Nat → Nat) (w : World) : Calls Try.prog 49 #[.agg (wl c).toArray] w fun e w' => e = .returned (.bool (upC c 0 1 4294967295 && upC c 1 16 0)) ∧ Below w.heap.size w w' := by
  have G : Hid (Below w.heap.size w (w.alloc (.cells (wl c).toArray 28))) := new_below w _
  have T : Hid (Bo (w.alloc (.cells (wl c).toArray 28)) w.heap.size (wl c)) := Bo.born w (wl c) _ rfl
  rcases h1 : upC c 0 1 4294967295 with _ | _
  · go_enter Try.func49, Try.ntmps49
    go_wp2_with fail
    refine (upTo_is T.out (by decide) h1).mono ?_
    rintro e w1 ⟨rfl, rfl⟩
    go_wp2
    go_ret
    exact ⟨rfl, G.out⟩
  · rcases h2 : upC c 1 16 0 with _ | _
    all_goals
      go_enter Try.func49, Try.ntmps49
      go_wp2_with fail
      refine (upTo_is T.out (by decide) h1).mono ?_
      rintro e w1 ⟨rfl, rfl⟩
      go_wp2_with fail
      refine (upTo_is T.out (by decide) h2).mono ?_
      rintro e w1 ⟨rfl, rfl⟩
      go_wp2
      go_ret
      exact ⟨rfl, G.out⟩

/-- Lists as words. -/
def isLb (c : Nat → Nat) : Bool := decide (c 0 ≤ 6) && (upC c 1 (c 0) 4294967295 && upC c (1 + c 0) (16 - c 0) 0)
set_option maxHeartbeats 1000000 in
theorem isList_no (c : Nat → Nat) (h : ¬ c 0 ≤ 6) (w : World) : Calls Try.prog 45 #[.agg (wl c).toArray] w fun e w' => e = .returned (.bool false) ∧ Below w.heap.size w w' := by
  have G : Hid (Below w.heap.size w (w.alloc (.cells (wl c).toArray 28))) := new_below w _
  have T : Hid (Bo (w.alloc (.cells (wl c).toArray 28)) w.heap.size (wl c)) := Bo.born w (wl c) _ rfl
  have g0 := T.out.word (show 0 < 17 by decide)
  have hd : decide (((c 0 : Nat) : Int) ≤ 6) = false := by simp; omega
  go_enter Try.func45, Try.ntmps45
  go_wp2_with fail
  generalize w.alloc (.cells (wl c).toArray 28) = W at T G g0 ⊢
  generalize c 0 = k at g0 hd ⊢
  go_region
  all_goals go_wp2
  all_goals go_ret
  all_goals exact ⟨rfl, Below.drew G.out⟩
set_option maxHeartbeats 2000000 in
theorem isList_0 (c : Nat → Nat) (h : c 0 = 0) {v1 v2 : Bool} (h1 : upC c 1 0 4294967295 = v1) (h2 : upC c 1 16 0 = v2) (w : World) : Calls Try.prog 45 #[.agg (wl c).toArray] w fun e w' => e = .returned (.bool (v1 && v2)) ∧ Below w.heap.size w w' := by
  have G : Hid (Below w.heap.size w (w.alloc (.cells (wl c).toArray 28))) := new_below w _
  have T : Hid (Bo (w.alloc (.cells (wl c).toArray 28)) w.heap.size (wl c)) := Bo.born w (wl c) _ rfl
  have g0 : (w.alloc (.cells (wl c).toArray 28)).cell? ⟨w.heap.size, 0, none⟩ = some (.int .u64 0) := by have := T.out.word (show 0 < 17 by decide); rw [h] at this; exact this
  have H1 : Hid _ := h1
  have H2 : Hid _ := h2
  clear h h1 h2
  go_enter Try.func45, Try.ntmps45
  go_wp2_with fail
  generalize w.alloc (.cells (wl c).toArray 28) = W at T G g0 ⊢
  have T1 : Hid (Bo W.drew w.heap.size (wl c)) := T.out.drew
  have G1 : Hid (Below w.heap.size w W.drew) := Below.drew G.out
  go_region
  all_goals go_wp2_with fail
  all_goals
    refine (upTo_is T1.out (by decide) H1.out).mono ?_
    rintro e w1 ⟨rfl, rfl⟩
  all_goals cases v1
  all_goals go_wp2_with fail
  all_goals first
    | (refine (upTo_is T1.out (by decide) H2.out).mono ?_
       rintro e w1 ⟨rfl, rfl⟩
       go_wp2)
    | skip
  all_goals go_ret
  all_goals exact ⟨rfl, G1.out⟩
set_option maxHeartbeats 2000000 in
theorem isList_1 (c : Nat → Nat) (h : c 0 = 1) {v1 v2 : Bool} (h1 : upC c 1 1 4294967295 = v1) (h2 : upC c 2 15 0 = v2) (w : World) : Calls Try.prog 45 #[.agg (wl c).toArray] w fun e w' => e = .returned (.bool (v1 && v2)) ∧ Below w.heap.size w w' := by
  have G : Hid (Below w.heap.size w (w.alloc (.cells (wl c).toArray 28))) := new_below w _
  have T : Hid (Bo (w.alloc (.cells (wl c).toArray 28)) w.heap.size (wl c)) := Bo.born w (wl c) _ rfl
  have g0 : (w.alloc (.cells (wl c).toArray 28)).cell? ⟨w.heap.size, 0, none⟩ = some (.int .u64 1) := by have := T.out.word (show 0 < 17 by decide); rw [h] at this; exact this
  have H1 : Hid _ := h1
  have H2 : Hid _ := h2
  clear h h1 h2
  go_enter Try.func45, Try.ntmps45
  go_wp2_with fail
  generalize w.alloc (.cells (wl c).toArray 28) = W at T G g0 ⊢
  have T1 : Hid (Bo W.drew w.heap.size (wl c)) := T.out.drew
  have G1 : Hid (Below w.heap.size w W.drew) := Below.drew G.out
  go_region
  all_goals go_wp2_with fail
  all_goals
    refine (upTo_is T1.out (by decide) H1.out).mono ?_
    rintro e w1 ⟨rfl, rfl⟩
  all_goals cases v1
  all_goals go_wp2_with fail
  all_goals first
    | (refine (upTo_is T1.out (by decide) H2.out).mono ?_
       rintro e w1 ⟨rfl, rfl⟩
       go_wp2)
    | skip
  all_goals go_ret
  all_goals exact ⟨rfl, G1.out⟩
set_option maxHeartbeats 2000000 in
theorem isList_2 (c : Nat → Nat) (h : c 0 = 2) {v1 v2 : Bool} (h1 : upC c 1 2 4294967295 = v1) (h2 : upC c 3 14 0 = v2) (w : World) : Calls Try.prog 45 #[.agg (wl c).toArray] w fun e w' => e = .returned (.bool (v1 && v2)) ∧ Below w.heap.size w w' := by
  have G : Hid (Below w.heap.size w (w.alloc (.cells (wl c).toArray 28))) := new_below w _
  have T : Hid (Bo (w.alloc (.cells (wl c).toArray 28)) w.heap.size (wl c)) := Bo.born w (wl c) _ rfl
  have g0 : (w.alloc (.cells (wl c).toArray 28)).cell? ⟨w.heap.size, 0, none⟩ = some (.int .u64 2) := by have := T.out.word (show 0 < 17 by decide); rw [h] at this; exact this
  have H1 : Hid _ := h1
  have H2 : Hid _ := h2
  clear h h1 h2
  go_enter Try.func45, Try.ntmps45
  go_wp2_with fail
  generalize w.alloc (.cells (wl c).toArray 28) = W at T G g0 ⊢
  have T1 : Hid (Bo W.drew w.heap.size (wl c)) := T.out.drew
  have G1 : Hid (Below w.heap.size w W.drew) := Below.drew G.out
  go_region
  all_goals go_wp2_with fail
  all_goals
    refine (upTo_is T1.out (by decide) H1.out).mono ?_
    rintro e w1 ⟨rfl, rfl⟩
  all_goals cases v1
  all_goals go_wp2_with fail
  all_goals first
    | (refine (upTo_is T1.out (by decide) H2.out).mono ?_
       rintro e w1 ⟨rfl, rfl⟩
       go_wp2)
    | skip
  all_goals go_ret
  all_goals exact ⟨rfl, G1.out⟩
set_option maxHeartbeats 2000000 in
theorem isList_3 (c : Nat → Nat) (h : c 0 = 3) {v1 v2 : Bool} (h1 : upC c 1 3 4294967295 = v1) (h2 : upC c 4 13 0 = v2) (w : World) : Calls Try.prog 45 #[.agg (wl c).toArray] w fun e w' => e = .returned (.bool (v1 && v2)) ∧ Below w.heap.size w w' := by
  have G : Hid (Below w.heap.size w (w.alloc (.cells (wl c).toArray 28))) := new_below w _
  have T : Hid (Bo (w.alloc (.cells (wl c).toArray 28)) w.heap.size (wl c)) := Bo.born w (wl c) _ rfl
  have g0 : (w.alloc (.cells (wl c).toArray 28)).cell? ⟨w.heap.size, 0, none⟩ = some (.int .u64 3) := by have := T.out.word (show 0 < 17 by decide); rw [h] at this; exact this
  have H1 : Hid _ := h1
  have H2 : Hid _ := h2
  clear h h1 h2
  go_enter Try.func45, Try.ntmps45
  go_wp2_with fail
  generalize w.alloc (.cells (wl c).toArray 28) = W at T G g0 ⊢
  have T1 : Hid (Bo W.drew w.heap.size (wl c)) := T.out.drew
  have G1 : Hid (Below w.heap.size w W.drew) := Below.drew G.out
  go_region
  all_goals go_wp2_with fail
  all_goals
    refine (upTo_is T1.out (by decide) H1.out).mono ?_
    rintro e w1 ⟨rfl, rfl⟩
  all_goals cases v1
  all_goals go_wp2_with fail
  all_goals first
    | (refine (upTo_is T1.out (by decide) H2.out).mono ?_
       rintro e w1 ⟨rfl, rfl⟩
       go_wp2)
    | skip
  all_goals go_ret
  all_goals exact ⟨rfl, G1.out⟩
set_option maxHeartbeats 2000000 in
theorem isList_4 (c : Nat → Nat) (h : c 0 = 4) {v1 v2 : Bool} (h1 : upC c 1 4 4294967295 = v1) (h2 : upC c 5 12 0 = v2) (w : World) : Calls Try.prog 45 #[.agg (wl c).toArray] w fun e w' => e = .returned (.bool (v1 && v2)) ∧ Below w.heap.size w w' := by
  have G : Hid (Below w.heap.size w (w.alloc (.cells (wl c).toArray 28))) := new_below w _
  have T : Hid (Bo (w.alloc (.cells (wl c).toArray 28)) w.heap.size (wl c)) := Bo.born w (wl c) _ rfl
  have g0 : (w.alloc (.cells (wl c).toArray 28)).cell? ⟨w.heap.size, 0, none⟩ = some (.int .u64 4) := by have := T.out.word (show 0 < 17 by decide); rw [h] at this; exact this
  have H1 : Hid _ := h1
  have H2 : Hid _ := h2
  clear h h1 h2
  go_enter Try.func45, Try.ntmps45
  go_wp2_with fail
  generalize w.alloc (.cells (wl c).toArray 28) = W at T G g0 ⊢
  have T1 : Hid (Bo W.drew w.heap.size (wl c)) := T.out.drew
  have G1 : Hid (Below w.heap.size w W.drew) := Below.drew G.out
  go_region
  all_goals go_wp2_with fail
  all_goals
    refine (upTo_is T1.out (by decide) H1.out).mono ?_
    rintro e w1 ⟨rfl, rfl⟩
  all_goals cases v1
  all_goals go_wp2_with fail
  all_goals first
    | (refine (upTo_is T1.out (by decide) H2.out).mono ?_
       rintro e w1 ⟨rfl, rfl⟩
       go_wp2)
    | skip
  all_goals go_ret
  all_goals exact ⟨rfl, G1.out⟩
set_option maxHeartbeats 2000000 in
theorem isList_5 (c : Nat → Nat) (h : c 0 = 5) {v1 v2 : Bool} (h1 : upC c 1 5 4294967295 = v1) (h2 : upC c 6 11 0 = v2) (w : World) : Calls Try.prog 45 #[.agg (wl c).toArray] w fun e w' => e = .returned (.bool (v1 && v2)) ∧ Below w.heap.size w w' := by
  have G : Hid (Below w.heap.size w (w.alloc (.cells (wl c).toArray 28))) := new_below w _
  have T : Hid (Bo (w.alloc (.cells (wl c).toArray 28)) w.heap.size (wl c)) := Bo.born w (wl c) _ rfl
  have g0 : (w.alloc (.cells (wl c).toArray 28)).cell? ⟨w.heap.size, 0, none⟩ = some (.int .u64 5) := by have := T.out.word (show 0 < 17 by decide); rw [h] at this; exact this
  have H1 : Hid _ := h1
  have H2 : Hid _ := h2
  clear h h1 h2
  go_enter Try.func45, Try.ntmps45
  go_wp2_with fail
  generalize w.alloc (.cells (wl c).toArray 28) = W at T G g0 ⊢
  have T1 : Hid (Bo W.drew w.heap.size (wl c)) := T.out.drew
  have G1 : Hid (Below w.heap.size w W.drew) := Below.drew G.out
  go_region
  all_goals go_wp2_with fail
  all_goals
    refine (upTo_is T1.out (by decide) H1.out).mono ?_
    rintro e w1 ⟨rfl, rfl⟩
  all_goals cases v1
  all_goals go_wp2_with fail
  all_goals first
    | (refine (upTo_is T1.out (by decide) H2.out).mono ?_
       rintro e w1 ⟨rfl, rfl⟩
       go_wp2)
    | skip
  all_goals go_ret
  all_goals exact ⟨rfl, G1.out⟩
set_option maxHeartbeats 2000000 in
theorem isList_6 (c : Nat → Nat) (h : c 0 = 6) {v1 v2 : Bool} (h1 : upC c 1 6 4294967295 = v1) (h2 : upC c 7 10 0 = v2) (w : World) : Calls Try.prog 45 #[.agg (wl c).toArray] w fun e w' => e = .returned (.bool (v1 && v2)) ∧ Below w.heap.size w w' := by
  have G : Hid (Below w.heap.size w (w.alloc (.cells (wl c).toArray 28))) := new_below w _
  have T : Hid (Bo (w.alloc (.cells (wl c).toArray 28)) w.heap.size (wl c)) := Bo.born w (wl c) _ rfl
  have g0 : (w.alloc (.cells (wl c).toArray 28)).cell? ⟨w.heap.size, 0, none⟩ = some (.int .u64 6) := by have := T.out.word (show 0 < 17 by decide); rw [h] at this; exact this
  have H1 : Hid _ := h1
  have H2 : Hid _ := h2
  clear h h1 h2
  go_enter Try.func45, Try.ntmps45
  go_wp2_with fail
  generalize w.alloc (.cells (wl c).toArray 28) = W at T G g0 ⊢
  have T1 : Hid (Bo W.drew w.heap.size (wl c)) := T.out.drew
  have G1 : Hid (Below w.heap.size w W.drew) := Below.drew G.out
  go_region
  all_goals go_wp2_with fail
  all_goals
    refine (upTo_is T1.out (by decide) H1.out).mono ?_
    rintro e w1 ⟨rfl, rfl⟩
  all_goals cases v1
  all_goals go_wp2_with fail
  all_goals first
    | (refine (upTo_is T1.out (by decide) H2.out).mono ?_
       rintro e w1 ⟨rfl, rfl⟩
       go_wp2)
    | skip
  all_goals go_ret
  all_goals exact ⟨rfl, G1.out⟩
theorem isList_is (c : Nat → Nat) (w : World) : Calls Try.prog 45 #[.agg (wl c).toArray] w fun e w' => e = .returned (.bool (isLb c)) ∧ Below w.heap.size w w' := by
  by_cases h : c 0 ≤ 6
  · have hd : decide (c 0 ≤ 6) = true := by simp [h]
    have hh : c 0 = 0 ∨ c 0 = 1 ∨ c 0 = 2 ∨ c 0 = 3 ∨ c 0 = 4 ∨ c 0 = 5 ∨ c 0 = 6 := by omega
    unfold isLb
    rw [hd, Bool.true_and]
    rcases hh with e | e | e | e | e | e | e <;> rw [e]
    · exact isList_0 c e rfl rfl w
    · exact isList_1 c e rfl rfl w
    · exact isList_2 c e rfl rfl w
    · exact isList_3 c e rfl rfl w
    · exact isList_4 c e rfl rfl w
    · exact isList_5 c e rfl rfl w
    · exact isList_6 c e rfl rfl w
  · have hd : decide (c 0 ≤ 6) = false := by simp; omega
    unfold isLb
    rw [hd, Bool.false_and]
    exact isList_no c h w
end Go.Proofs.Ytgkgkiheoadbfaa.Tab
namespace Go.Proofs.Ytgkgkiheoadbfaa.Tab
set_option maxRecDepth 20000
open Go.RowKit
theorem rwTh (k : Int) {v : Value} (hv : v.oneCell' = true) (t : Tb) (n : Int) : Rw Try.prog 40 (tg k v t n) := ⟨let ⟨_, h⟩ := thing_struct; ⟨_, h, rfl⟩, thing_size k v t n, tg_one k hv t n⟩
theorem rwN : Rw Try.prog 40 (tg 0 (.slice none 0 0) Tb.zero 0) := rwTh 0 rfl _ _
theorem rwC (c : Nat → Nat) : Rw Try.prog 28 (wl c) := ⟨let ⟨_, _, h⟩ := cells_array; ⟨_, h, rfl⟩, cells_size c, wl_one c⟩
theorem sz_sl : (Try.prog.info? 34).map (·.size) = some 1 := by kernel_rfl
theorem sz_i : (Try.prog.info? 3).map (·.size) = some 1 := by kernel_rfl
end Go.Proofs.Ytgkgkiheoadbfaa.Tab
namespace Go.Proofs.Ytgkgkiheoadbfaa.Tab
set_option maxRecDepth 20000
open Go.RowKit
set_option linter.unusedVariables false

set_option maxHeartbeats 2000000 in
theorem same_wf {w : World} {ba bc oc ka kc : Nat} {d c : Nat → Nat} (ha : Bo w ba (wl d)) (hc : Wf w bc oc c) (v : Bool) (hv : v = true ↔ ∀ j, j < 17 → d j = c j) :
    Calls Try.prog 25 #[.slice (some ⟨ba, 0, none⟩) 17 ka, .slice (some ⟨bc, oc, none⟩) 17 kc] w fun e w' => e = .returned (.bool v) ∧ Below w.heap.size w w' := by
  have HA : Hid _ := ha
  have HC : Hid _ := hc
  have HV : Hid _ := hv
  clear ha hc hv
  go_enter Try.func25, Try.ntmps25
  go_wp2_with fail
  go_loopg [8] 17 (fun gg s8 wt => ∃ i q : Nat, i ≤ 17 ∧ 17 - i ≤ gg ∧ s8 = .int .i64 i ∧ wt = w.drewN q ∧ Hid (∀ j, j < i → d j = c j))
  case atStart => exact ⟨0, 0, by omega, by omega, rfl, rfl, fun j hj => absurd hj (by omega)⟩
  case round =>
    obtain ⟨i, q, hi, hgg, rfl, rfl, E⟩ := hrel
    by_cases hlt : i < 17
    · have g1 : w.cell? ⟨ba, i, none⟩ = some (.int .u64 (d i : Nat)) := HA.out.word hlt
      have g2 : w.cell? ⟨bc, oc + i, none⟩ = some (.int .u64 (c i : Nat)) := HC.out.cell i hlt
      have hi1 : (i : Int) < 17 := by omega
      have hi0 : (0 : Int) ≤ (i : Int) := by omega
      have hd : decide ((17 : Int) ≤ (i : Int)) = false := by simp; omega
      by_cases he : d i = c i
      · have E' : Hid (∀ j, j < i + 1 → d j = c j) := fun j hj => by
          by_cases e : j = i
          · subst e; exact he
          · exact E.out j (by omega)
        rw [he] at g1
        clear E he
        generalize c i = x at g1 g2
        go_wp2_with fail
        go_region
        all_goals go_wp2
        go_roundg (17 - (i + 1))
        case measure => omega
        case rel => exact ⟨i + 1, q + 1, by omega, by omega, by go_num, rfl, E'⟩
      · have e : v = false := by
          cases v
          · rfl
          · exact absurd (HV.out.1 rfl i hlt) he
        subst e
        clear HV E
        have hne : (((d i : Nat) : Int) == ((c i : Nat) : Int)) = false := by simp; omega
        clear he
        generalize d i = x at g1 hne
        generalize c i = y at g2 hne
        go_wp2_with fail
        go_region
        all_goals go_wp2
        go_ret
        exact ⟨rfl, below_drewN _ _⟩
    · obtain rfl : i = 17 := by omega
      have e : v = true := HV.out.2 E.out
      subst e
      go_wp2
      go_ret
      exact ⟨rfl, below_drewN _ _⟩
end Go.Proofs.Ytgkgkiheoadbfaa.Tab
namespace Go.Proofs.Ytgkgkiheoadbfaa.Tab
set_option maxRecDepth 20000
open Go.RowKit
set_option linter.unusedVariables false

def twq (t : Tb) (i : Nat) : Nat → Nat := fun j => if j < 2 * i then tw t j else 0
theorem twq_zero (t : Tb) : wl (twq t 0) = wl wz := wl_congr fun j _ => by simp [twq, wz]
theorem twq_next (t : Tb) {i : Nat} (hi : i < 8) : wl (upw (upw (twq t i) (2 * i) (t.k i).toNat) (2 * i + 1) (t.v i).toNat) = wl (twq t (i + 1)) := by
  refine wl_congr fun j _ => ?_
  unfold upw twq tw
  by_cases e1 : j = 2 * i + 1
  · subst e1
    rw [if_pos rfl, if_pos (by omega), if_pos (by omega), if_neg (by omega), show (2 * i + 1) / 2 = i by omega]
  · rw [if_neg e1]
    by_cases e0 : j = 2 * i
    · subst e0
      rw [if_pos rfl, if_pos (by omega), if_pos (by omega), if_pos (by omega), show (2 * i) / 2 = i by omega]
    · rw [if_neg e0]
      by_cases h : j < 2 * i
      · have h2 : j < 2 * (i + 1) := by omega
        simp only [h, h2, if_true]
      · have h2 : ¬ j < 2 * (i + 1) := by omega
        simp only [h, h2, if_false]
theorem twq_all (t : Tb) : wl (twq t 8) = wl (tw t) := wl_congr fun j hj => by
  unfold twq
  by_cases h : j < 16
  · rw [if_pos (by omega)]
  · rw [if_neg (by omega)]; unfold tw; rw [if_neg h]

set_option maxHeartbeats 4000000 in
theorem Cells_5 (v : Value) (t : Tb) (x : Int) (hk : ∀ i, i < 8 → 0 ≤ t.k i ∧ t.k i ≤ 4294967295) (hv : ∀ i, i < 8 → 0 ≤ t.v i ∧ t.v i ≤ 4294967295) (w : World) :
    Calls Try.prog 41 #[.agg (tg 5 v t x).toArray] w fun e w' => Wd w.heap.size e w' (tw t) ∧ Below w.heap.size w w' := by
  obtain ⟨na, ea, hd⟩ := rslots_array
  have HD : Hid _ := hd
  clear hd
  have HS : Hid (∀ t : Tb, (Try.prog.info? 38).map (·.size) = some t.all.length) := rslots_size
  have HX : Hid (∀ i : Nat, i < 8 → ∀ w, (Instr.index 38 (.agg t.all.toArray) (.int .i64 (i : Nat))).run Try.prog w = .ok (.agg #[.int .i64 (t.k i), .int .i64 (t.v i)]) w) := rslot_at t
  have HK : Hid _ := hk
  have HV : Hid _ := hv
  clear hk hv
  have mk := mk17b w (.cells (tg 5 v t x).toArray 40)
  have S : Hid (Bo ((w.alloc (.cells (tg 5 v t x).toArray 40)).alloc (.cells (wl wz).toArray 22)) w.heap.size (tg 5 v t x)) := (Bo.born w (tg 5 v t x) _ rfl).new _
  have L : Hid (Bo ((w.alloc (.cells (tg 5 v t x).toArray 40)).alloc (.cells (wl wz).toArray 22)) (w.heap.size + 1) (wl (twq t 0))) := by rw [twq_zero]; exact Bo.born _ (wl wz) _ (by simp)
  have G : Hid (Gd w.heap.size w ((w.alloc (.cells (tg 5 v t x).toArray 40)).alloc (.cells (wl wz).toArray 22))) := ((Gd.refl w).new _).new _
  have c0 := S.out.tcell.1
  have NX : Hid _ := @twq_next t
  have AL : Hid _ := twq_all t
  have RG : Hid _ := S.out.slots
  generalize tg 5 v t x = th at mk L G c0 RG ⊢
  clear S
  obtain ⟨cs, hcs⟩ : ∃ cs, cs = t.all := ⟨_, rfl⟩
  rw [← hcs] at RG HX
  have HS1 : Hid ((Try.prog.info? 38).map (·.size) = some cs.length) := by rw [hcs]; exact HS.out t
  clear hcs HS
  go_enter Try.func41, Try.ntmps41
  go_wp2_with (refine wpList_load_mid rfl 38 _ rfl w.heap.size _ rfl cs _ RG.out HD.out rfl HS1.out ?_)
  clear mk c0
  generalize (w.alloc (.cells th.toArray 40)).alloc (.cells (wl wz).toArray 22) = W at G L RG ⊢
  generalize hsz : w.heap.size = n at G L RG ⊢
  have HSZ : Hid (w.heap.size = n) := hsz
  clear hsz RG
  go_loopg [36] 8 (fun gg s36 wt => ∃ i : Nat, i ≤ 8 ∧ 8 - i ≤ gg ∧ s36 = .int .i64 i ∧ Hid (Bo wt (n + 1) (wl (twq t i))) ∧ Hid (Gd n w wt))
  case atStart => exact ⟨0, by omega, by omega, rfl, L, G⟩
  case round =>
    clear L G
    obtain ⟨i, hi, hgg, rfl, L, G⟩ := hrel
    by_cases hlt : i < 8
    · have hx := HX.out i hlt
      have k0 := HK.out i hlt
      have v0 := HV.out i hlt
      have nx := NX.out hlt
      generalize t.k i = x at hx k0 nx
      generalize t.v i = y at hx v0 nx
      obtain ⟨a, rfl⟩ : ∃ a : Nat, (a : Int) = x := ⟨x.toNat, by omega⟩
      obtain ⟨b, rfl⟩ : ∃ b : Nat, (b : Int) = y := ⟨y.toNat, by omega⟩
      rw [Int.toNat_natCast, Int.toNat_natCast] at nx
      have NX1 : Hid _ := nx
      clear nx
      have ex1 : IntKind.u64.wrap (a : Int) = a := by rw [IntKind.wrap_u64]; omega
      have ey1 : IntKind.u64.wrap (b : Int) = b := by rw [IntKind.wrap_u64]; omega
      have i1 : (i : Int) < 8 := by omega
      have i0 : (0 : Int) ≤ (i : Int) := by omega
      have i2 : 2 * (i : Int) < 17 := by omega
      have i3 : 2 * (i : Int) + 1 < 17 := by omega
      have i4 : (0 : Int) ≤ 2 * (i : Int) := by omega
      have i5 : (0 : Int) ≤ 2 * (i : Int) + 1 := by omega
      have ls : n + 1 < wr.heap.size := L.out.lt
      have L1 : Hid (Bo (wr.alloc (.cells #[.int .i64 a, .int .i64 b] 36)) (n + 1) (wl (twq t i))) := L.out.new _
      have G1 : Hid (Gd n w (wr.alloc (.cells #[.int .i64 a, .int .i64 b] 36))) := G.out.new _
      have S1 : Hid (Bo (wr.alloc (.cells #[.int .i64 a, .int .i64 b] 36)) wr.heap.size [.int .i64 a, .int .i64 b]) := Bo.born wr [.int .i64 a, .int .i64 b] _ rfl
      clear L G k0 v0
      go_wp2_with fail
      generalize wr.alloc (.cells #[.int .i64 a, .int .i64 b] 36) = V at L1 G1 S1 ⊢
      have c0 := L1.out.word (show 2 * i < 17 by omega)
      have c1 := L1.out.word (show 2 * i + 1 < 17 by omega)
      have f0 := L1.out.froz (2 * i)
      have f1 := L1.out.froz (2 * i + 1)
      have s0 := S1.out.at 0 rfl
      have s1 := S1.out.at 1 rfl
      have ne : wr.heap.size ≠ n + 1 := by omega
      generalize wr.heap.size = q at S1 s0 s1 ne ⊢
      go_region
      all_goals go_wp2
      all_goals go_roundg (8 - (i + 1))
      case measure => omega
      case rel => exact ⟨i + 1, by omega, by omega, by go_num, by rw [← NX1.out]; exact (L1.out.drew.setw a (by omega)).setw b (by omega), (G1.out.drew.aside (show n ≤ n + 1 by omega) _).aside (show n ≤ n + 1 by omega) _⟩
    · have ei : i = 8 := by omega
      subst ei
      rw [AL.out] at L
      clear hlt
      go_wp2
      go_ret
      exact ⟨⟨n + 1, rfl, by have := HSZ.out; omega, L.out⟩, G.out.2⟩
end Go.Proofs.Ytgkgkiheoadbfaa.Tab
namespace Go.Proofs.Ytgkgkiheoadbfaa.Tab
set_option maxRecDepth 20000
open Go.RowKit
theorem rowL_isL {B : Nat} {w : World} {v : Value} {k : Int} (h : IsL B w v (rowL k 8)) : ∃ b off c, v = .slice (some ⟨b, off, none⟩) 8 c ∧ ∀ i, i < 8 → w.cell? ⟨b, off + i, none⟩ = some (.int .i64 (rowAt k i : Nat)) := by
  rcases h with ⟨h, _⟩ | ⟨b, off, c, hv, _, _, _, hcell, _⟩
  · have := rowL_len k 8; rw [h] at this; simp at this
  · rw [rowL_len] at hv hcell
    exact ⟨b, off, c, hv, fun i hi => by rw [hcell i hi, rowL_at k hi]⟩
end Go.Proofs.Ytgkgkiheoadbfaa.Tab
namespace Go.Proofs.Ytgkgkiheoadbfaa.Tab
set_option maxRecDepth 20000
open Go.RowKit

theorem Gd.drewN {n : Nat} {w a : World} (h : Gd n w a) (q : Nat) : Gd n w (a.drewN q) := ⟨h.1, ⟨h.2.os, h.2.tape, h.2.output, h.2.size, h.2.block⟩⟩
theorem Bo.drewN_ {w : World} {b : Nat} {cs : List Value} (h : Bo w b cs) (q : Nat) : Bo (w.drewN q) b cs := ⟨h.cell, h.froz, h.lt⟩

/-- A slot as the document has it. -/
structure Ok (t : Tb) (i : Nat) : Prop where
  key : 0 ≤ t.k i ∧ t.k i ≤ 1000
  val : 0 ≤ t.v i ∧ t.v i ≤ 4294967295
  none : t.k i = 0 → t.v i = 0
  row : t.k i ≠ 0 → ∀ j, j < ds (home (t.k i)) i → ¬ Hit t (t.k i) (rowAt (t.k i) j)
theorem RT.ok {t : Tb} (h : RT t) {i : Nat} (hi : i < 8) : Ok t i where
  key := h.keys i hi
  val := h.vals i hi
  none := h.none i hi
  row hk j hj := h.row i hi hk _ (rowAt_lt _ _) (by rw [ds_row _ _ (by have := ds_lt (home (t.k i)) i; omega)]; exact hj)
theorem RT.of_ok {t : Tb} (hl : len t ≤ 6) (h : ∀ i, i < 8 → Ok t i) : RT t where
  keys p hp := (h p hp).key
  vals p hp := (h p hp).val
  none p hp := (h p hp).none
  row p hp hk q hq hd := by
    have := (h p hp).row hk (ds (home (t.k p)) q) hd
    rwa [row_ds _ _ hq] at this
  room := hl

set_option maxHeartbeats 4000000 in
set_option maxRecDepth 20000 in
theorem RTRight_is (t : Tb) (b : Bool) (hb : b = true ↔ RT t) (w : World) :
    Calls Try.prog 39 #[.agg t.all.toArray] w fun e w' => e = .returned (.bool b) ∧ Below w.heap.size w w' := by
  obtain ⟨na, ea, hd⟩ := rslots_array
  have HD : Hid _ := hd
  clear hd
  have HS : Hid (∀ t : Tb, (Try.prog.info? 38).map (·.size) = some t.all.length) := rslots_size
  have HZ : Hid (∀ t : Tb, (Try.prog.info? 38).map (·.size) = some t.all.toArray.size) := rslots_size2
  have HT : Hid ((Try.prog.info? 36).map (·.size) = some 2) := rslot_size
  have HA : Hid ((Try.prog.info? 42).map (·.size) = some 2) := answer_size
  obtain ⟨fs, ha⟩ := answer_struct
  have HDA : Hid _ := ha
  clear ha
  have HB : Hid (b = true ↔ RT t) := hb
  have HX : Hid _ := rslot_at t
  clear hb
  have G0 : Hid (Gd w.heap.size w (w.alloc (.cells t.all.toArray 38))) := (Gd.refl w).new _
  have T0 : Hid (TAt (w.alloc (.cells t.all.toArray 38)) w.heap.size t) := TAt.born w t _
  go_enter Try.func39, Try.ntmps39
  go_wp2_with (refine wpList_load_mid rfl 38 _ rfl _ _ rfl t.all _ T0.out.range HD.out rfl (HS.out t) ?_)
  generalize w.alloc (.cells t.all.toArray 38) = W at G0 T0 ⊢
  generalize w.heap.size = n at G0 T0 ⊢
  go_loopg [8] 8 (fun gg s8 wt => ∃ i : Nat, i ≤ 8 ∧ 8 - i ≤ gg ∧ s8 = .int .i64 i ∧ Hid (TAt wt n t) ∧ Hid (Gd n w wt) ∧ Hid (∀ j, j < i → Ok t j))
  case atStart => exact ⟨0, by omega, by omega, rfl, T0, G0, fun j hj => absurd hj (Nat.not_lt_zero _)⟩
  case round =>
    obtain ⟨i, hi, hgg, rfl, T, G, D⟩ := hrel
    obtain ⟨wq, rfl⟩ : ∃ wq, wq = wr := ⟨_, rfl⟩
    obtain ⟨gk0, rfl⟩ : ∃ gk0, gk0 = gk := ⟨_, rfl⟩
    clear T0 G0
    by_cases hlt : i < 8
    · have hx := HX.out i hlt
      obtain ⟨x, ex⟩ : ∃ x, t.k i = x := ⟨_, rfl⟩
      obtain ⟨y, ey⟩ : ∃ y, t.v i = y := ⟨_, rfl⟩
      have X : Hid (t.k i = x) := ex
      have Y : Hid (t.v i = y) := ey
      rw [ex, ey] at hx
      clear ex ey
      have G2 : Hid (Gd n w (wq.alloc (.cells #[.int .i64 x, .int .i64 y] 36))) := G.out.new _
      have T2 : Hid (TAt (wq.alloc (.cells #[.int .i64 x, .int .i64 y] 36)) n t) := T.out.new _
      have S2 : Hid (Bo (wq.alloc (.cells #[.int .i64 x, .int .i64 y] 36)) wq.heap.size [.int .i64 x, .int .i64 y]) := Bo.born wq [.int .i64 x, .int .i64 y] _ rfl
      have hmn : n < wq.heap.size := T.out.lt
      have c0 := S2.out.at 0 rfl
      have c1 := S2.out.at 1 rfl
      have D' : Hid (Ok t i → ∀ j, j < i + 1 → Ok t j) := fun ho j hj => by
        by_cases e : j = i
        · subst e; exact ho
        · exact D.out j (by omega)
      clear D T G
      by_cases hk : 0 ≤ x ∧ x ≤ 1000
      · have WY := rwithin_yes x 0 1000
        by_cases hv : 0 ≤ y ∧ y ≤ 4294967295
        · have WV := rwithin_yes y 0 4294967295
          by_cases h0 : x = 0
          · by_cases hy0 : y = 0
            · have OK : Hid (Ok t i) := ⟨by rw [X.out]; exact hk, by rw [Y.out]; exact hv, fun _ => by rw [Y.out, hy0], fun hn => absurd (X.out.trans h0) hn⟩
              subst h0 hy0
              go_wp2_with fail
              refine (WY _ hk.1 hk.2).mono ?_
              rintro e ux ⟨rfl, hw⟩
              rw [hw]; clear hw ux
              go_wp2_with fail
              refine (WV _ hv.1 hv.2).mono ?_
              rintro e ux ⟨rfl, hw⟩
              rw [hw]; clear hw ux
              go_wp2
              go_roundg (8 - (i + 1))
              case measure => omega
              case rel => exact ⟨i + 1, by omega, by omega, by go_num, T2, G2, D'.out OK.out⟩
            · have m0 : (x == 0) = true := by simp [h0]
              have e : b = false := by
                cases b with
                | false => rfl
                | true => exact absurd (HB.out.1 rfl) (fun hr => hy0 (by have := (hr.ok hlt).none; rw [X.out, Y.out] at this; exact this h0))
              subst e
              have my : (y == 0) = false := by simp [hy0]
              have my2 : (y != 0) = true := by simp [hy0]
              clear h0 hy0
              go_wp2_with fail
              refine (WY _ hk.1 hk.2).mono ?_
              rintro e ux ⟨rfl, hw⟩
              rw [hw]; clear hw ux
              go_wp2_with fail
              refine (WV _ hv.1 hv.2).mono ?_
              rintro e ux ⟨rfl, hw⟩
              rw [hw]; clear hw ux
              go_wp2
              go_ret
              exact ⟨rfl, G2.out.2⟩
          · have m0 : (x == 0) = false := by simp [h0]
            have H0 : Hid (x ≠ 0) := h0
            have RW := row_is x hk.1 hk.2
            have KV : Hid ((0 ≤ x ∧ x ≤ 1000) ∧ 0 ≤ y ∧ y ≤ 4294967295) := ⟨hk, hv⟩
            clear h0
            go_wp2_with fail
            refine (WY _ hk.1 hk.2).mono ?_
            rintro e ux ⟨rfl, hw⟩
            rw [hw]; clear hw ux
            go_wp2_with fail
            refine (WV _ hv.1 hv.2).mono ?_
            rintro e ux ⟨rfl, hw⟩
            rw [hw]; clear hw ux
            go_wp2_with fail
            refine (RW _).mono ?_
            rintro e W3 ⟨v, rfl, hi3, hb3⟩
            obtain ⟨bb, off, c, rfl, hcell⟩ := rowL_isL hi3
            have T3 : Hid (TAt W3 n t) := T2.out.later hb3
            have G3 : Hid (Gd n w W3) := G2.out.later hb3
            have S3 : Hid (Bo W3 wq.heap.size [.int .i64 x, .int .i64 y]) := S2.out.later hb3
            have C3 : Hid (∀ j, j < 8 → W3.cell? ⟨bb, off + j, none⟩ = some (.int .i64 (rowAt x j : Nat))) := hcell
            clear hi3 hb3 hcell RW WY WV T2 G2 S2 c0 c1 hk hv
            generalize wq.heap.size = m at S3 hmn ⊢
            obtain ⟨d, hd⟩ : ∃ d, ds (home x) i = d := ⟨_, rfl⟩
            have HDS : Hid (ds (home x) i = d) := hd
            have hd8 : d < 8 := hd ▸ ds_lt _ _
            clear hd
            go_wp2_with fail
            go_loopg [39] 8 (fun gg s39 wt => ∃ j : Nat, j ≤ d ∧ 8 - j ≤ gg ∧ s39 = .int .i64 j ∧ Hid (TAt wt n t) ∧ Hid (Bo wt m [.int .i64 x, .int .i64 y]) ∧ Hid (Gd n w wt) ∧ Hid (∀ j, j < 8 → wt.cell? ⟨bb, off + j, none⟩ = some (.int .i64 (rowAt x j : Nat))) ∧ Hid (∀ l, l < j → ¬ Hit t x (rowAt x l)))
            case atStart => exact ⟨0, by omega, by omega, rfl, T3, S3, G3, C3, fun l hl => absurd hl (Nat.not_lt_zero _)⟩
            case round =>
              obtain ⟨j, hj, hgj, rfl, T, S, G, C, E⟩ := hrel
              clear T3 G3 S3 C3
              have hj1 : (j : Int) < 8 := by omega
              have hj0 : (0 : Int) ≤ (j : Int) := by omega
              have cj := C.out j (by omega)
              have hp := rowAt_lt x j
              obtain ⟨p, hpe⟩ : ∃ p, rowAt x j = p := ⟨_, rfl⟩
              have EP : Hid (rowAt x j = p) := hpe
              rw [hpe] at cj hp
              clear hpe
              have hp1 : (p : Int) < 8 := by omega
              have hp0 : (0 : Int) ≤ (p : Int) := by omega
              by_cases hjd : j = d
              · have epi : p = i := by rw [← EP.out, hjd, ← HDS.out]; exact row_ds x i hlt
                have mp : ((p : Int) == (i : Int)) = true := by simp [epi]
                have OK : Hid (Ok t i) := ⟨by rw [X.out]; exact KV.out.1, by rw [Y.out]; exact KV.out.2, fun h => absurd (X.out.symm.trans h) H0.out, fun _ l hl => by rw [X.out] at hl ⊢; exact E.out l (by rw [HDS.out] at hl; omega)⟩
                clear epi hjd
                go_wp2
                go_roundg (8 - (i + 1))
                case measure => omega
                case rel => exact ⟨i + 1, by omega, by omega, by go_num, T, G, D'.out OK.out⟩
              · have epi : p ≠ i := by
                  intro e
                  have h1 := ds_row x j (by omega)
                  rw [EP.out, e, HDS.out] at h1
                  omega
                have mp : ((p : Int) == (i : Int)) = false := by
                  have : ¬ ((p : Int) = (i : Int)) := by omega
                  simp [this]
                have cz := T.out.key hp
                obtain ⟨z, hz⟩ : ∃ z, t.k p = z := ⟨_, rfl⟩
                have Zf : Hid (t.k p = z) := hz
                rw [hz] at cz
                have cs := S.out.at 0 rfl
                clear hz epi
                by_cases hh : z = x ∨ z = 0
                · have e : b = false := by
                    cases b with
                    | false => rfl
                    | true =>
                      have := ((HB.out.1 rfl).ok hlt).row (by rw [X.out]; exact H0.out) j (by rw [X.out, HDS.out]; omega)
                      rw [X.out, EP.out] at this
                      exact absurd (show Hit t x p by unfold Hit; rw [Zf.out]; exact hh) this
                  subst e
                  by_cases hz0 : z = 0
                  · have m1 : (z == 0) = true := by simp [hz0]
                    clear hh hz0
                    go_wp2_with fail
                    go_quiet (fail)
                    go_wp2
                    go_ret
                    exact ⟨rfl, (G.out.drewN _).2⟩
                  · have m1 : (z == 0) = false := by simp [hz0]
                    have m2 : (z == x) = true := by simp [hh.resolve_right hz0]
                    clear hh hz0
                    go_wp2_with fail
                    go_quiet (fail)
                    go_wp2
                    go_ret
                    exact ⟨rfl, (G.out.drewN _).2⟩
                · have m1 : (z == 0) = false := by simp; exact fun e => hh (Or.inr e)
                  have m2 : (z == x) = false := by simp; exact fun e => hh (Or.inl e)
                  have NH : Hid (¬ Hit t x (rowAt x j)) := by show ¬ Hit t x (rowAt x j); rw [EP.out]; unfold Hit; rw [Zf.out]; exact hh
                  clear hh
                  go_wp2_with fail
                  go_quiet (fail)
                  go_wp2
                  go_roundg (8 - (j + 1))
                  case measure => omega
                  case rel =>
                    refine ⟨j + 1, by omega, by omega, by go_num, T.out.drewN _, S.out.drewN _, G.out.drewN _, fun l hl => C.out l hl, fun l hl => ?_⟩
                    by_cases e : l = j
                    · subst e; exact NH.out
                    · exact E.out l (by omega)
        · have e : b = false := by
            cases b with
            | false => rfl
            | true => exact absurd (HB.out.1 rfl) (fun hr => hv (by have := (hr.ok hlt).val; rw [Y.out] at this; exact this))
          subst e
          have hv2 : y < 0 ∨ 4294967295 < y := by omega
          have WN := rwithin_no y 0 4294967295
          clear hv
          go_wp2_with fail
          refine (WY _ hk.1 hk.2).mono ?_
          rintro e ux ⟨rfl, hw⟩
          rw [hw]; clear hw ux
          go_wp2_with fail
          refine (WN _ hv2).mono ?_
          rintro e ux ⟨rfl, hw⟩
          rw [hw]; clear hw ux
          go_wp2
          go_ret
          exact ⟨rfl, G2.out.2⟩
      · have e : b = false := by
          cases b with
          | false => rfl
          | true => exact absurd (HB.out.1 rfl) (fun hr => hk (by have := (hr.ok hlt).key; rw [X.out] at this; exact this))
        subst e
        have hk2 : x < 0 ∨ 1000 < x := by omega
        have WN := rwithin_no x 0 1000
        clear hk
        go_wp2_with fail
        refine (WN _ hk2).mono ?_
        rintro e ux ⟨rfl, hw⟩
        rw [hw]; clear hw ux
        go_wp2
        go_ret
        exact ⟨rfl, G2.out.2⟩
    · obtain rfl : i = 8 := by omega
      have RL := RLen_is t
      obtain ⟨l, hl⟩ : ∃ l, len t = l := ⟨_, rfl⟩
      have hl8 : l ≤ 8 := hl ▸ len_le t
      have HL : Hid (len t = l) := hl
      rw [hl] at RL
      clear hl
      go_wp2_with (refine wpList_load_mid rfl 38 _ rfl _ _ rfl t.all _ T.out.range HD.out rfl (HS.out t) ?_)
      refine (RL _).mono ?_
      rintro e w3 ⟨rfl, hb3⟩
      have G3 : Hid (Gd n w w3) := G.out.later hb3
      clear hb3
      by_cases h6 : l ≤ 6
      · have e : b = true := HB.out.2 (RT.of_ok (by rw [HL.out]; exact h6) D.out)
        subst e
        have h61 : (l : Int) ≤ 6 := by omega
        go_wp2
        go_ret
        exact ⟨by first | rfl | exact congrArg (fun b => Ending.returned (.bool b)) (decide_eq_true h61), G3.out.2⟩
      · have e : b = false := by
          cases b with
          | false => rfl
          | true => have := (HB.out.1 rfl).room; rw [HL.out] at this; omega
        subst e
        have h61 : ¬ (l : Int) ≤ 6 := by omega
        go_wp2
        go_ret
        exact ⟨by first | rfl | exact congrArg (fun b => Ending.returned (.bool b)) (decide_eq_false (by omega)), G3.out.2⟩
end Go.Proofs.Ytgkgkiheoadbfaa.Tab
namespace Go.Proofs.Ytgkgkiheoadbfaa.Tab
set_option maxRecDepth 20000
open Go.RowKit
set_option linter.unusedVariables false

theorem rwK (kind : Int) : Rw Try.prog 40 [.int .i64 kind, .slice none 0 0, .int .i64 0, .int .i64 0, .int .i64 0, .int .i64 0, .int .i64 0, .int .i64 0, .int .i64 0, .int .i64 0, .int .i64 0, .int .i64 0, .int .i64 0, .int .i64 0, .int .i64 0, .int .i64 0, .int .i64 0, .int .i64 0, .int .i64 0] := by rw [← tg_nil]; exact rwTh kind rfl _ _
theorem lst_le {c : Nat → Nat} (hm : ∀ j, j < 17 → c j ≤ 4294967295) (h6 : c 0 ≤ 6) : ∀ x ∈ lst c, 0 ≤ x ∧ x ≤ 4294967295 := fun x hx => by
  simp only [lst, List.mem_map, List.mem_range] at hx
  obtain ⟨i, hi, rfl⟩ := hx
  have := hm (i + 1) (by omega)
  omega
theorem lsq_take (c : Nat → Nat) {i : Nat} (h : i < c 0) : (lst c).take i ++ [((c (i + 1) : Nat) : Int)] = (lst c).take (i + 1) := by
  have := take_more (lst c) i (by rw [lst_length]; exact h)
  rw [lst_at c h] at this
  exact this
def tbq (c : Nat → Nat) (i : Nat) : Tb := ⟨fun p => if p < i then (c (2 * p) : Nat) else 0, fun p => if p < i then (c (2 * p + 1) : Nat) else 0⟩
theorem tbq_zero (c : Nat → Nat) : tbq c 0 = Tb.zero := by
  unfold tbq Tb.zero; congr 1 <;> (funext p; simp)
theorem tbq_next (c : Nat → Nat) (i : Nat) : (tbq c i).set i (c (2 * i) : Nat) (c (2 * i + 1) : Nat) = tbq c (i + 1) := by
  unfold tbq Tb.set; congr 1 <;>
  · funext p
    by_cases e : p = i
    · subst e; simp
    · by_cases h : p < i
      · simp [e, h, show p < i + 1 by omega]
      · simp [e, h, show ¬ p < i + 1 by omega]
theorem tbq_all (c : Nat → Nat) : (tbq c 8).all = (tbl c).all := by
  unfold Tb.all
  refine List.map_congr_left fun j hj => ?_
  have : j / 2 < 8 := by have : j < 16 := by simpa using hj
                         omega
  simp [Tb.at, tbq, tbl, this]
theorem tbq_tg (c : Nat → Nat) (k : Int) (v : Value) (x : Int) : tg k v (tbq c 8) x = tg k v (tbl c) x := by unfold tg; rw [tbq_all]
theorem tg_off (k : Int) (v : Value) (t : Tb) (x : Int) {j : Nat} (hj : j < 16) : (tg k v t x)[j + 2]? = some (t.at j) := by rw [Nat.add_comm]; exact tg_at k v t x hj
theorem tg_slot (k : Int) (v : Value) (t : Tb) (x : Int) {i : Nat} (hi : i < 8) (a b : Int) : ((tg k v t x).set (2 + i * 2) (.int .i64 a)).set (2 + i * 2 + 1) (.int .i64 b) = tg k v (t.set i a b) x := by
  apply List.ext_getElem?
  intro j
  rcases j with _ | _ | j
  · simp [tg]
  · simp [tg, show ¬ 2 + i * 2 = 1 by omega]
  · by_cases hj : j < 16
    · rw [tg_off _ _ _ _ hj, List.getElem?_set, List.getElem?_set, List.length_set, tg_length, tg_off _ _ _ _ hj]
      unfold Tb.at Tb.set
      by_cases e1 : 2 + i * 2 + 1 = j + 2
      · have : j / 2 = i := by omega
        have h2 : ¬ j % 2 = 0 := by omega
        simp [e1, this, h2, show j + 2 < 19 by omega]
      · by_cases e0 : 2 + i * 2 = j + 2
        · have : j / 2 = i := by omega
          have h2 : j % 2 = 0 := by omega
          simp [e0, this, h2, show j + 2 < 19 by omega]
        · have : j / 2 ≠ i := by omega
          have e2 : ¬ 2 + i * 2 = j + 1 := by omega
          simp [e2, e0, this]
    · rw [List.getElem?_set, List.getElem?_set, List.length_set, tg_length]
      rw [if_neg (by omega), if_neg (by omega)]
      by_cases e : j = 16
      · subst e; simp [tg, Tb.all_length]
      · rw [List.getElem?_eq_none (by rw [tg_length]; omega), List.getElem?_eq_none (by rw [tg_length]; omega)]
theorem Bo.tslot {w : World} {b : Nat} {k : Int} {v : Value} {t : Tb} {x : Int} (h : Bo w b (tg k v t x)) {i : Nat} (hi : i < 8) (a c : Int) : Bo ((w.setCell ⟨b, 2 + i * 2, none⟩ (.int .i64 a)).setCell ⟨b, 2 + i * 2 + 1, none⟩ (.int .i64 c)) b (tg k v (t.set i a c) x) := by
  rw [← tg_slot k v t x hi a c]
  have h1 := h.set1 (x := .int .i64 a) (j := 2 + i * 2) (by rw [tg_length]; omega) rfl
  exact h1.set1 (x := .int .i64 c) (j := 2 + i * 2 + 1) (by rw [List.length_set, tg_length]; omega) rfl
set_option maxHeartbeats 4000000 in
theorem ThingOf_bad {kind : Int} (h : kind < 1 ∨ 6 < kind) {bc oc kc : Nat} (w : World) :
    Calls Try.prog 23 #[.int .i64 kind, .slice (some ⟨bc, oc, none⟩) 17 kc] w fun e w' => ∃ v t x, v.oneCell' = true ∧ e = .returned (.tuple #[.agg (tg kind v t x).toArray, .bool false]) ∧ Below w.heap.size w w' := by
  have hM : Hid _ := (((Ms.nil w).bornR (tg_zero 0).symm 40 (b := w.heap.size) rfl).bornR (tg_zero 0).symm 40 (b := w.heap.size + 1) (by simp))
  go_enter Try.func23, Try.ntmps23
  go_wp2_with (first
    | (refine sR rfl (hM.out.at 0 rfl) rfl (rwN.len (rwK kind)) (rwK kind) ?_
       replace hM := hid (hM.out.put 0 rfl _ (rwN.len (rwK kind)))
       generalize World.setCells _ _ _ _ = W at hM ⊢
       rw [← tg_nil] at hM))
  generalize hsz : w.heap.size = n at hM ⊢
  clear hsz
  refine (rwithin_no kind 1 6 _ h).mono ?_
  rintro e ux ⟨rfl, hw⟩
  rw [hw]; clear hw ux
  go_wp2_with (first
    | (refine lR rfl (hM.out.at 0 rfl) rfl (rwTh kind rfl _ _) ?_)
    | (refine sR rfl (hM.out.at 1 rfl) rfl (rwN.len (rwTh kind rfl _ _)) (rwTh kind rfl _ _) ?_
       replace hM := hid (hM.out.put 1 rfl (tg kind (.slice none 0 0) Tb.zero 0) (rwN.len (rwTh kind rfl _ _)))
       generalize World.setCells _ _ _ _ = W at hM ⊢))
  exact bodyPost_ret (res1s Try.results23 (hM.out.at 1 rfl) (rwTh kind rfl _ _) (.bool false)) rfl ⟨(.slice none 0 0), Tb.zero, 0, rfl, rfl, hM.out.below⟩
set_option maxHeartbeats 4000000 in
theorem ThingOf_big {kind : Int} (hk : 1 ≤ kind ∧ kind ≤ 6) {bc oc kc : Nat} {c : Nat → Nat} {w : World} (hc : Wf w bc oc c) (hj : ∃ j, j < 17 ∧ 4294967295 < c j) :
    Calls Try.prog 23 #[.int .i64 kind, .slice (some ⟨bc, oc, none⟩) 17 kc] w fun e w' => ∃ v t x, v.oneCell' = true ∧ e = .returned (.tuple #[.agg (tg kind v t x).toArray, .bool false]) ∧ Below w.heap.size w w' := by
  have HJ : Hid _ := hj
  have hC : Hid _ := hc
  clear hj hc
  have hM : Hid _ := (((Ms.nil w).bornR (tg_zero 0).symm 40 (b := w.heap.size) rfl).bornR (tg_zero 0).symm 40 (b := w.heap.size + 1) (by simp))
  go_enter Try.func23, Try.ntmps23
  go_wp2_with (first
    | (refine sR rfl (hM.out.at 0 rfl) rfl (rwN.len (rwK kind)) (rwK kind) ?_
       replace hM := hid (hM.out.put 0 rfl _ (rwN.len (rwK kind)))
       generalize World.setCells _ _ _ _ = W at hM ⊢
       rw [← tg_nil] at hM))
  generalize hsz : w.heap.size = n at hM ⊢
  clear hsz
  refine (rwithin_yes kind 1 6 _ hk.1 hk.2).mono ?_
  rintro e ux ⟨rfl, hw⟩
  rw [hw]; clear hw ux
  go_wp2_with fail
  go_loopg [19] 17 (fun gg s19 wt => wt = W ∧ ∃ i : Nat, i ≤ 17 ∧ 17 - i ≤ gg ∧ s19 = .int .i64 i ∧ Hid (∀ j, j < i → c j ≤ 4294967295))
  case atStart => exact ⟨rfl, 0, by omega, by omega, rfl, fun j hj => absurd hj (by omega)⟩
  case round =>
    obtain ⟨rfl, i, hi, hgg, rfl, U⟩ := hrel
    by_cases hlt : i < 17
    · have g0 := (hC.out.later hM.out.below).cell i hlt
      have hi1 : (i : Int) < 17 := by omega
      have hi0 : (0 : Int) ≤ (i : Int) := by omega
      by_cases hle : c i ≤ 4294967295
      · have U' : Hid (∀ j, j < i + 1 → c j ≤ 4294967295) := fun j hj => by
          by_cases e : j = i
          · subst e; exact hle
          · exact U.out j (by omega)
        have hd : ¬ 4294967295 < ((c i : Nat) : Int) := by omega
        clear U
        generalize c i = x at g0 hd hle
        clear hle
        go_wp2
        go_roundg (17 - (i + 1))
        case measure => omega
        case rel => exact ⟨rfl, i + 1, by omega, by omega, by go_num, U'⟩
      · have hd : 4294967295 < ((c i : Nat) : Int) := by omega
        generalize c i = x at g0 hd hle
        clear hle U
        go_wp2_with (first
          | (refine lR rfl (hM.out.at 0 rfl) rfl (rwTh kind rfl _ _) ?_)
          | (refine sR rfl (hM.out.at 1 rfl) rfl (rwN.len (rwTh kind rfl _ _)) (rwTh kind rfl _ _) ?_
             replace hM := hid (hM.out.put 1 rfl (tg kind (.slice none 0 0) Tb.zero 0) (rwN.len (rwTh kind rfl _ _)))
             generalize World.setCells _ _ _ _ = W at hM ⊢))
        exact bodyPost_ret (res1s Try.results23 (hM.out.at 1 rfl) (rwTh kind rfl _ _) (.bool false)) rfl ⟨(.slice none 0 0), Tb.zero, 0, rfl, rfl, hM.out.below⟩
    · obtain rfl : i = 17 := by omega
      obtain ⟨j, h1, h2⟩ := HJ.out
      exact absurd (U.out j h1) (by omega)
set_option maxHeartbeats 4000000 in
theorem ThingOf_6 {bc oc kc : Nat} {c : Nat → Nat} {w : World} {b : Bool} (hc : Wf w bc oc c) (hm : ∀ j, j < 17 → c j ≤ 4294967295) (hv : b = true ↔ ∀ j, j < 17 → tyw (c 0 : Nat) j = c j) {kind : Int} (h6 : kind = 6) :
    Calls Try.prog 23 #[.int .i64 kind, .slice (some ⟨bc, oc, none⟩) 17 kc] w fun e w' => e = .returned (.tuple #[.agg (tg 6 (.slice none 0 0) Tb.zero (c 0 : Nat)).toArray, .bool b]) ∧ Below w.heap.size w w' := by
  have hk : 1 ≤ kind ∧ kind ≤ 6 := by omega
  have H6 : Hid _ := h6
  have HV : Hid _ := hv
  have HM : Hid _ := hm
  have hC : Hid _ := hc
  have CC : Hid (∀ (v : Value) (t : Tb) w, _) := fun v t w => Cells_6 v t (c 0) (hm 0 (by decide)) w
  clear h6 hv hm hc
  have hM : Hid _ := (((Ms.nil w).bornR (tg_zero 0).symm 40 (b := w.heap.size) rfl).bornR (tg_zero 0).symm 40 (b := w.heap.size + 1) (by simp))
  go_enter Try.func23, Try.ntmps23
  go_wp2_with (first
    | (refine sR rfl (hM.out.at 0 rfl) rfl (rwN.len (rwK kind)) (rwK kind) ?_
       replace hM := hid (hM.out.put 0 rfl _ (rwN.len (rwK kind)))
       generalize World.setCells _ _ _ _ = W at hM ⊢
       rw [← tg_nil] at hM))
  generalize hsz : w.heap.size = n at hM ⊢
  clear hsz
  refine (rwithin_yes kind 1 6 _ hk.1 hk.2).mono ?_
  rintro e ux ⟨rfl, hw⟩
  rw [hw]; clear hw ux
  go_wp2_with fail
  go_loopg [19] 17 (fun gg s19 wt => wt = W ∧ ∃ i : Nat, i ≤ 17 ∧ 17 - i ≤ gg ∧ s19 = .int .i64 i ∧ Hid (∀ j, j < i → c j ≤ 4294967295))
  case atStart => exact ⟨rfl, 0, by omega, by omega, rfl, fun j hj => absurd hj (by omega)⟩
  case round =>
    obtain ⟨rfl, i, hi, hgg, rfl, U⟩ := hrel
    by_cases hlt : i < 17
    · have g0 := (hC.out.later hM.out.below).cell i hlt
      have hi1 : (i : Int) < 17 := by omega
      have hi0 : (0 : Int) ≤ (i : Int) := by omega
      by_cases hle : c i ≤ 4294967295
      · have U' : Hid (∀ j, j < i + 1 → c j ≤ 4294967295) := fun j hj => by
          by_cases e : j = i
          · subst e; exact hle
          · exact U.out j (by omega)
        have hd : ¬ 4294967295 < ((c i : Nat) : Int) := by omega
        clear U
        generalize c i = x at g0 hd hle
        clear hle
        go_wp2
        go_roundg (17 - (i + 1))
        case measure => omega
        case rel => exact ⟨rfl, i + 1, by omega, by omega, by go_num, U'⟩
      · exact absurd (HM.out i hlt) hle
    · obtain rfl : i = 17 := by omega
      clear U hlt
      have h6 := H6.out
      clear H6
      subst h6
      have g0 : wr.cell? ⟨bc, oc, none⟩ = _ := (hC.out.later hM.out.below).cell 0 (by decide)
      have x0 := HM.out 0 (by decide)
      have ey1 : IntKind.i64.wrap ((c 0 : Nat) : Int) = (c 0 : Nat) := by rw [IntKind.wrap_i64]; omega
      have ey2 : wrap64 ((c 0 : Nat) : Int) = (c 0 : Nat) := by unfold wrap64; omega
      go_wp2_with (first
        | (refine s1 rfl (hM.out.at 0 rfl) 18 rfl (.int .i64 (c 0 : Nat)) rfl sz_i ?_ (by rw [tg_length]; decide)
           replace hM := hid (hM.out.put1 0 18 rfl (.int .i64 (c 0 : Nat)) (tg 6 (.slice none 0 0) Tb.zero (c 0 : Nat)) (by rw [tg_length]; decide) (tg_num _ _ _ _ _))
           generalize World.setCell _ _ _ = W at hM ⊢
           clear g0))
      replace hM := hid (hM.out.drew)
      refine wp_region_held_drew (S := fun w' => Bo w' (n + 1) (tg 6 (.slice none 0 0) Tb.zero (c 0 : Nat))) (by kernel_rfl) (hM.out.at 0 rfl) (fun hH => ?_)
      generalize World.drew _ = W at hM hH  ⊢
      refine tkR 0 rfl hH (fun _ h => h) (rwTh 6 rfl _ _) ?_
      simp only [Act.put, p1, p2, p3]
      refine tkR 1 rfl hH (fun _ h => h) (rwTh 6 rfl _ _) ?_
      simp only [Act.put, p1, p2, p3]
      refine tk 3 rfl hH ?_
      simp only [Act.put, p1, p2, p3]
      refine rd1 2 rfl (fun K hK => ?_)
      go_simp
      refine (CC.out _ _ _).mono ?_
      rintro e W ⟨⟨bq, rfl, hq, hW⟩, hb⟩
      replace hM := hid (hM.out.laterB hb hq hW)
      clear hb
      go_wp2_with fail
      refine hK.out _ _ (hM.out.at 1 rfl) (fun hH => ?_)
      clear hK K
      try simp only [Act.put, p1, p2, p3]
      refine rd1 4 rfl (fun K hK => ?_)
      go_simp
      refine (same_wf (hM.out.at 0 rfl) (hC.out.later hM.out.below) _ HV.out).mono ?_
      rintro e W ⟨rfl, hb⟩
      replace hM := hid (hM.out.later hb)
      clear hb
      go_wp2_with fail
      refine hK.out _ _ (hM.out.at 1 rfl) (fun hH => ?_)
      clear hK K
      try simp only [Act.put, p1, p2, p3]
      refine rd1 5 rfl (fun K hK => ?_)
      refine stR rfl (hM.out.at 2 rfl) (rwN.len (rwTh 6 rfl _ _)) (rwTh 6 rfl _ _) ?_
      simp only [Act.put]
      replace hM := hid (hM.out.put 2 rfl (tg 6 (.slice none 0 0) Tb.zero (c 0 : Nat)) (rwN.len (rwTh 6 rfl _ _)))
      refine hK.out _ _ (hM.out.at 1 rfl) (fun hH => ?_)
      clear hK K
      generalize World.setCells _ _ _ _ = W at hM hH ⊢
      try simp only [Act.put, p1, p2, p3]
      refine tk 6 rfl hH ?_
      simp only [Act.put, p1, p2, p3]
      refine wpAnyH_done (by kernel_rfl) ?_ _
      go_wp2
      exact bodyPost_ret (res1s Try.results23 (hM.out.at 2 rfl) (rwTh 6 rfl _ _) (.bool _)) rfl ⟨rfl, hM.out.below⟩
set_option maxHeartbeats 8000000 in
theorem ThingOf_5n {bc oc kc : Nat} {c : Nat → Nat} {w : World} {b : Bool} (hc : Wf w bc oc c) (hm : ∀ j, j < 17 → c j ≤ 4294967295) (hr : ¬ RT (tbl c)) {kind : Int} (h5 : kind = 5) :
    Calls Try.prog 23 #[.int .i64 kind, .slice (some ⟨bc, oc, none⟩) 17 kc] w fun e w' => e = .returned (.tuple #[.agg (tg 5 (.slice none 0 0) (tbl c) 0).toArray, .bool false]) ∧ Below w.heap.size w w' := by
  have hk : 1 ≤ kind ∧ kind ≤ 6 := by omega
  have H5 : Hid _ := h5
  have HM : Hid _ := hm
  have hC : Hid _ := hc
  have HRT : Hid (∀ w, _) := RTRight_is (tbl c) false ⟨fun h => (by cases h), fun h => absurd h hr⟩
  have NX : Hid (∀ i, _) := fun i => tbq_next c i
  have NZ : Hid _ := tbq_zero c
  have NT : Hid (∀ k v x, _) := fun k v x => tbq_tg c k v x
  clear hm hr h5 hc
  have hM : Hid _ := (((Ms.nil w).bornR (tg_zero 0).symm 40 (b := w.heap.size) rfl).bornR (tg_zero 0).symm 40 (b := w.heap.size + 1) (by simp))
  go_enter Try.func23, Try.ntmps23
  go_wp2_with (first
    | (refine sR rfl (hM.out.at 0 rfl) rfl (rwN.len (rwK kind)) (rwK kind) ?_
       replace hM := hid (hM.out.put 0 rfl _ (rwN.len (rwK kind)))
       generalize World.setCells _ _ _ _ = W at hM ⊢
       rw [← tg_nil] at hM))
  generalize hsz : w.heap.size = n at hM ⊢
  clear hsz
  refine (rwithin_yes kind 1 6 _ hk.1 hk.2).mono ?_
  rintro e ux ⟨rfl, hw⟩
  rw [hw]; clear hw ux
  go_wp2_with fail
  go_loopg [19] 17 (fun gg s19 wt => wt = W ∧ ∃ i : Nat, i ≤ 17 ∧ 17 - i ≤ gg ∧ s19 = .int .i64 i ∧ Hid (∀ j, j < i → c j ≤ 4294967295))
  case atStart => exact ⟨rfl, 0, by omega, by omega, rfl, fun j hj => absurd hj (by omega)⟩
  case round =>
    obtain ⟨rfl, i, hi, hgg, rfl, U⟩ := hrel
    by_cases hlt : i < 17
    · have g0 := (hC.out.later hM.out.below).cell i hlt
      have hi1 : (i : Int) < 17 := by omega
      have hi0 : (0 : Int) ≤ (i : Int) := by omega
      by_cases hle : c i ≤ 4294967295
      · have U' : Hid (∀ j, j < i + 1 → c j ≤ 4294967295) := fun j hj => by
          by_cases e : j = i
          · subst e; exact hle
          · exact U.out j (by omega)
        have hd : ¬ 4294967295 < ((c i : Nat) : Int) := by omega
        clear U
        generalize c i = x at g0 hd hle
        clear hle
        go_wp2
        go_roundg (17 - (i + 1))
        case measure => omega
        case rel => exact ⟨rfl, i + 1, by omega, by omega, by go_num, U'⟩
      · exact absurd (HM.out i hlt) hle
    · obtain rfl : i = 17 := by omega
      clear U hlt
      have h5 := H5.out
      clear H5
      subst h5
      rw [← NZ.out] at hM
      go_wp2_with fail
      generalize wr = W1 at hM ⊢
      go_loopg [63] 8 (fun gg s63 wt => ∃ i : Nat, i ≤ 8 ∧ 8 - i ≤ gg ∧ s63 = .int .i64 i ∧ Hid (Ms n w wt [(n + 1, tg 5 (.slice none 0 0) (tbq c i) 0), (n, tg 0 (.slice none 0 0) Tb.zero 0)] []))
      case atStart => exact ⟨0, by omega, by omega, rfl, by rw [NZ.out] at hM ⊢; exact hM⟩
      case round =>
        clear hM
        obtain ⟨i, hi, hgg, rfl, hM⟩ := hrel
        by_cases hlt : i < 8
        · have g0 := (hC.out.later hM.out.below).cell (2 * i) (by omega)
          have g1 := (hC.out.later hM.out.below).cell (2 * i + 1) (by omega)
          have x1 := HM.out (2 * i) (by omega)
          have y1 := HM.out (2 * i + 1) (by omega)
          have l0 : wr.cell? ⟨n + 1, 2 + i * 2, none⟩ = some ((tbq c i).at (i * 2)) := hM.out.cell 0 (2 + i * 2) rfl (tg_at _ _ _ _ (show i * 2 < 16 by omega))
          have l1 : wr.cell? ⟨n + 1, 2 + i * 2 + 1, none⟩ = some ((tbq c i).at (i * 2 + 1)) := hM.out.cell 0 (2 + (i * 2 + 1)) rfl (tg_at _ _ _ _ (show i * 2 + 1 < 16 by omega))
          have f0 := hM.out.froz 0 (2 + i * 2) rfl
          have f1 := hM.out.froz 0 (2 + i * 2 + 1) rfl
          have N1 : Hid _ := NX.out i
          replace hM := hid (hM.out.drew)
          generalize c (2 * i) = x at g0 x1 N1
          generalize c (2 * i + 1) = y at g1 y1 N1
          generalize (tbq c i).at (i * 2) = z0 at l0
          generalize (tbq c i).at (i * 2 + 1) = z1 at l1
          have ex1 : IntKind.i64.wrap (x : Int) = x := by rw [IntKind.wrap_i64]; omega
          have ex2 : wrap64 (x : Int) = x := by unfold wrap64; omega
          have ey1 : IntKind.i64.wrap (y : Int) = y := by rw [IntKind.wrap_i64]; omega
          have ey2 : wrap64 (y : Int) = y := by unfold wrap64; omega
          have i1 : (i : Int) < 8 := by omega
          have i0 : (0 : Int) ≤ (i : Int) := by omega
          have i2 : 2 * (i : Int) < 17 := by omega
          have i3 : 2 * (i : Int) + 1 < 17 := by omega
          have i4 : (0 : Int) ≤ 2 * (i : Int) := by omega
          have i5 : (0 : Int) ≤ 2 * (i : Int) + 1 := by omega
          clear x1 y1
          go_wp2_with fail
          go_region
          all_goals go_wp2
          all_goals go_roundg (8 - (i + 1))
          case measure => omega
          case rel => exact ⟨i + 1, by omega, by omega, by go_num, by rw [← N1.out]; exact hM.out.putAt 0 (2 + i * 2) rfl [.int .i64 x, .int .i64 y] _ ((hM.out.at 0 rfl).tslot hlt x y)⟩
        · have ei : i = 8 := by omega
          subst ei
          clear hlt
          rw [NT.out] at hM
          go_wp2_with (first
            | (refine lO rfl (hM.out.at 0 rfl).slots rfl (rwRS (tbl c)) ?_))
          refine (HRT.out _).mono ?_
          rintro e W ⟨rfl, hb⟩
          replace hM := hid (hM.out.later hb)
          clear hb
          go_wp2_with (first
            | (refine lR rfl (hM.out.at 0 rfl) rfl (rwTh 5 rfl _ _) ?_)
            | (refine sR rfl (hM.out.at 1 rfl) rfl (rwN.len (rwTh 5 rfl _ _)) (rwTh 5 rfl _ _) ?_
               replace hM := hid (hM.out.put 1 rfl (tg 5 (.slice none 0 0) (tbl c) 0) (rwN.len (rwTh 5 rfl _ _)))
               generalize World.setCells _ _ _ _ = W at hM ⊢))
          exact bodyPost_ret (res1s Try.results23 (hM.out.at 1 rfl) (rwTh 5 rfl _ _) (.bool false)) rfl ⟨rfl, hM.out.below⟩
set_option maxHeartbeats 8000000 in
theorem ThingOf_5 {bc oc kc : Nat} {c : Nat → Nat} {w : World} {b : Bool} (hc : Wf w bc oc c) (hm : ∀ j, j < 17 → c j ≤ 4294967295) (hr : RT (tbl c)) (hv : b = true ↔ ∀ j, j < 17 → tw (tbl c) j = c j) {kind : Int} (h5 : kind = 5) :
    Calls Try.prog 23 #[.int .i64 kind, .slice (some ⟨bc, oc, none⟩) 17 kc] w fun e w' => e = .returned (.tuple #[.agg (tg 5 (.slice none 0 0) (tbl c) 0).toArray, .bool b]) ∧ Below w.heap.size w w' := by
  have hk : 1 ≤ kind ∧ kind ≤ 6 := by omega
  have H5 : Hid _ := h5
  have HV : Hid _ := hv
  clear hv
  have HM : Hid _ := hm
  have hC : Hid _ := hc
  have HRT : Hid (∀ w, _) := RTRight_is (tbl c) true ⟨fun _ => hr, fun _ => rfl⟩
  have CC : Hid (∀ (v : Value) (x : Int) w, _) := fun v x w => Cells_5 v (tbl c) x (fun i hi => by have := hm (2 * i) (by omega); simp only [tbl]; omega) (fun i hi => by have := hm (2 * i + 1) (by omega); simp only [tbl]; omega) w
  have NX : Hid (∀ i, _) := fun i => tbq_next c i
  have NZ : Hid _ := tbq_zero c
  have NT : Hid (∀ k v x, _) := fun k v x => tbq_tg c k v x
  clear hm hr h5 hc
  have hM : Hid _ := (((Ms.nil w).bornR (tg_zero 0).symm 40 (b := w.heap.size) rfl).bornR (tg_zero 0).symm 40 (b := w.heap.size + 1) (by simp))
  go_enter Try.func23, Try.ntmps23
  go_wp2_with (first
    | (refine sR rfl (hM.out.at 0 rfl) rfl (rwN.len (rwK kind)) (rwK kind) ?_
       replace hM := hid (hM.out.put 0 rfl _ (rwN.len (rwK kind)))
       generalize World.setCells _ _ _ _ = W at hM ⊢
       rw [← tg_nil] at hM))
  generalize hsz : w.heap.size = n at hM ⊢
  clear hsz
  refine (rwithin_yes kind 1 6 _ hk.1 hk.2).mono ?_
  rintro e ux ⟨rfl, hw⟩
  rw [hw]; clear hw ux
  go_wp2_with fail
  go_loopg [19] 17 (fun gg s19 wt => wt = W ∧ ∃ i : Nat, i ≤ 17 ∧ 17 - i ≤ gg ∧ s19 = .int .i64 i ∧ Hid (∀ j, j < i → c j ≤ 4294967295))
  case atStart => exact ⟨rfl, 0, by omega, by omega, rfl, fun j hj => absurd hj (by omega)⟩
  case round =>
    obtain ⟨rfl, i, hi, hgg, rfl, U⟩ := hrel
    by_cases hlt : i < 17
    · have g0 := (hC.out.later hM.out.below).cell i hlt
      have hi1 : (i : Int) < 17 := by omega
      have hi0 : (0 : Int) ≤ (i : Int) := by omega
      by_cases hle : c i ≤ 4294967295
      · have U' : Hid (∀ j, j < i + 1 → c j ≤ 4294967295) := fun j hj => by
          by_cases e : j = i
          · subst e; exact hle
          · exact U.out j (by omega)
        have hd : ¬ 4294967295 < ((c i : Nat) : Int) := by omega
        clear U
        generalize c i = x at g0 hd hle
        clear hle
        go_wp2
        go_roundg (17 - (i + 1))
        case measure => omega
        case rel => exact ⟨rfl, i + 1, by omega, by omega, by go_num, U'⟩
      · exact absurd (HM.out i hlt) hle
    · obtain rfl : i = 17 := by omega
      clear U hlt
      have h5 := H5.out
      clear H5
      subst h5
      rw [← NZ.out] at hM
      go_wp2_with fail
      generalize wr = W1 at hM ⊢
      go_loopg [63] 8 (fun gg s63 wt => ∃ i : Nat, i ≤ 8 ∧ 8 - i ≤ gg ∧ s63 = .int .i64 i ∧ Hid (Ms n w wt [(n + 1, tg 5 (.slice none 0 0) (tbq c i) 0), (n, tg 0 (.slice none 0 0) Tb.zero 0)] []))
      case atStart => exact ⟨0, by omega, by omega, rfl, by rw [NZ.out] at hM ⊢; exact hM⟩
      case round =>
        clear hM
        obtain ⟨i, hi, hgg, rfl, hM⟩ := hrel
        by_cases hlt : i < 8
        · have g0 := (hC.out.later hM.out.below).cell (2 * i) (by omega)
          have g1 := (hC.out.later hM.out.below).cell (2 * i + 1) (by omega)
          have x1 := HM.out (2 * i) (by omega)
          have y1 := HM.out (2 * i + 1) (by omega)
          have l0 : wr.cell? ⟨n + 1, 2 + i * 2, none⟩ = some ((tbq c i).at (i * 2)) := hM.out.cell 0 (2 + i * 2) rfl (tg_at _ _ _ _ (show i * 2 < 16 by omega))
          have l1 : wr.cell? ⟨n + 1, 2 + i * 2 + 1, none⟩ = some ((tbq c i).at (i * 2 + 1)) := hM.out.cell 0 (2 + (i * 2 + 1)) rfl (tg_at _ _ _ _ (show i * 2 + 1 < 16 by omega))
          have f0 := hM.out.froz 0 (2 + i * 2) rfl
          have f1 := hM.out.froz 0 (2 + i * 2 + 1) rfl
          have N1 : Hid _ := NX.out i
          replace hM := hid (hM.out.drew)
          generalize c (2 * i) = x at g0 x1 N1
          generalize c (2 * i + 1) = y at g1 y1 N1
          generalize (tbq c i).at (i * 2) = z0 at l0
          generalize (tbq c i).at (i * 2 + 1) = z1 at l1
          have ex1 : IntKind.i64.wrap (x : Int) = x := by rw [IntKind.wrap_i64]; omega
          have ex2 : wrap64 (x : Int) = x := by unfold wrap64; omega
          have ey1 : IntKind.i64.wrap (y : Int) = y := by rw [IntKind.wrap_i64]; omega
          have ey2 : wrap64 (y : Int) = y := by unfold wrap64; omega
          have i1 : (i : Int) < 8 := by omega
          have i0 : (0 : Int) ≤ (i : Int) := by omega
          have i2 : 2 * (i : Int) < 17 := by omega
          have i3 : 2 * (i : Int) + 1 < 17 := by omega
          have i4 : (0 : Int) ≤ 2 * (i : Int) := by omega
          have i5 : (0 : Int) ≤ 2 * (i : Int) + 1 := by omega
          clear x1 y1
          go_wp2_with fail
          go_region
          all_goals go_wp2
          all_goals go_roundg (8 - (i + 1))
          case measure => omega
          case rel => exact ⟨i + 1, by omega, by omega, by go_num, by rw [← N1.out]; exact hM.out.putAt 0 (2 + i * 2) rfl [.int .i64 x, .int .i64 y] _ ((hM.out.at 0 rfl).tslot hlt x y)⟩
        · have ei : i = 8 := by omega
          subst ei
          clear hlt
          rw [NT.out] at hM
          go_wp2_with (first
            | (refine lO rfl (hM.out.at 0 rfl).slots rfl (rwRS (tbl c)) ?_))
          refine (HRT.out _).mono ?_
          rintro e W ⟨rfl, hb⟩
          replace hM := hid (hM.out.later hb)
          clear hb
          go_wp2_with fail
          replace hM := hid (hM.out.drew)
          refine wp_region_held_drew (S := fun w' => Bo w' (n + 1) (tg 5 (.slice none 0 0) (tbl c) 0)) (by kernel_rfl) (hM.out.at 0 rfl) (fun hH => ?_)
          generalize World.drew _ = W at hM hH  ⊢
          refine tkR 0 rfl hH (fun _ h => h) (rwTh 5 rfl _ _) ?_
          simp only [Act.put, p1, p2, p3]
          refine tkR 1 rfl hH (fun _ h => h) (rwTh 5 rfl _ _) ?_
          simp only [Act.put, p1, p2, p3]
          refine tk 3 rfl hH ?_
          simp only [Act.put, p1, p2, p3]
          refine rd1 2 rfl (fun K hK => ?_)
          go_simp
          refine (CC.out _ _ _).mono ?_
          rintro e W ⟨⟨bq, rfl, hq, hW⟩, hb⟩
          replace hM := hid (hM.out.laterB hb hq hW)
          clear hb
          go_wp2_with fail
          refine hK.out _ _ (hM.out.at 1 rfl) (fun hH => ?_)
          clear hK K
          try simp only [Act.put, p1, p2, p3]
          refine rd1 4 rfl (fun K hK => ?_)
          go_simp
          refine (same_wf (hM.out.at 0 rfl) (hC.out.later hM.out.below) _ HV.out).mono ?_
          rintro e W ⟨rfl, hb⟩
          replace hM := hid (hM.out.later hb)
          clear hb
          go_wp2_with fail
          refine hK.out _ _ (hM.out.at 1 rfl) (fun hH => ?_)
          clear hK K
          try simp only [Act.put, p1, p2, p3]
          refine rd1 5 rfl (fun K hK => ?_)
          refine stR rfl (hM.out.at 2 rfl) (rwN.len (rwTh 5 rfl _ _)) (rwTh 5 rfl _ _) ?_
          simp only [Act.put]
          replace hM := hid (hM.out.put 2 rfl (tg 5 (.slice none 0 0) (tbl c) 0) (rwN.len (rwTh 5 rfl _ _)))
          refine hK.out _ _ (hM.out.at 1 rfl) (fun hH => ?_)
          clear hK K
          generalize World.setCells _ _ _ _ = W at hM hH ⊢
          try simp only [Act.put, p1, p2, p3]
          refine tk 6 rfl hH ?_
          simp only [Act.put, p1, p2, p3]
          refine wpAnyH_done (by kernel_rfl) ?_ _
          go_wp2
          exact bodyPost_ret (res1s Try.results23 (hM.out.at 2 rfl) (rwTh 5 rfl _ _) (.bool _)) rfl ⟨rfl, hM.out.below⟩
end Go.Proofs.Ytgkgkiheoadbfaa.Tab
namespace Go.Proofs.Ytgkgkiheoadbfaa
set_option maxRecDepth 20000
open Go.RowKit

theorem step_onto {ops : Array Oper} {o : Oper} {a : Act} {w : World} {K : Act → World → Prop} {Q : Exit → Act → World → Prop} {E : Prop}
    (hg : o.guard = none) (s x : Operand) (hop : o.op = Op.call { callee := Callee.builtin Builtin.append, args := #[s, x], argTypes := #[34, 34] })
    {B C : Nat} {v u : Value} {xs ys : List Int} (hs : a.eval s = v) (hx : a.eval x = u) (hB : B ≤ w.heap.size) (h : Own B w v xs) (k : IsL C w u ys) (hn : xs.length + ys.length ≤ 1000000)
    (hK : ∀ v' w', Own B w' v' (xs ++ ys) → Below B w w' → K (a.put o.dst v') w') :
    if Region.wanted o (yielded ops a.tmps) = true then Oper.wp Try.prog o a w K Q else E := by
  have hw : Region.wanted o (yielded ops a.tmps) = true := by simp [Region.wanted, hg]
  rw [if_pos hw]
  obtain ⟨v', w', hr, h1, h2⟩ := run_onto o.type hB h k hn
  unfold Oper.wp
  simp [execOp, hop, resolve, invoke, builtin, hs, hx, hr, Result.andThen]
  exact hK v' w' h1 h2
theorem apO {o : Oper} {a : Act} {w : World} {K : Act → World → Prop} {Q : Exit → Act → World → Prop} (s x : Operand) (hop : o.op = Op.call { callee := Callee.builtin Builtin.append, args := #[s, x], argTypes := #[34, 34] })
    {B C : Nat} {v u : Value} {xs ys : List Int} (hB : B ≤ w.heap.size) (h : Own B w v xs) (k : IsL C w u ys) (hs : a.eval s = v) (hx : a.eval x = u) (hn : xs.length + ys.length ≤ 1000000)
    (hK : ∀ v' w', Own B w' v' (xs ++ ys) → Below B w w' → K (a.put o.dst v') w') : o.wp Try.prog a w K Q := by
  obtain ⟨v', w', hr, h1, h2⟩ := run_onto o.type hB h k hn
  unfold Oper.wp
  simp [execOp, hop, resolve, invoke, builtin, hs, hx, hr, Result.andThen]
  exact hK v' w' h1 h2
end Go.Proofs.Ytgkgkiheoadbfaa
namespace Go.Proofs.Ytgkgkiheoadbfaa
set_option maxRecDepth 20000
open Go.RowKit

/-- The list l lies in block b, from place off on, and may be written there. -/
structure Row (b off : Nat) (l : List Int) (w : World) : Prop where
  cell : ∀ j, j < l.length → w.cell? ⟨b, off + j, none⟩ = some (.int .i64 (gt l j))
  froz : ∀ j, j < l.length → w.frozen? ⟨b, off + j, none⟩ = false

theorem above_is (i : Nat) (h : 0 < i) (hi : i ≤ 1000000) (w : World) :
    Calls Try.prog 58 #[.int .i64 i] w fun e w' => e = .returned (.int .i64 (((i - 1) / 2 : Nat) : Int)) ∧ w' = w := by
  go_enter Try.func58, Try.ntmps58
  go_wp2
  go_ret
  have e : ((i : Int) - 1) / 2 = (((i - 1) / 2 : Nat) : Int) := by omega
  exact ⟨by show Ending.returned (.int .i64 (((i : Int) - 1) / 2)) = _; rw [e], rfl⟩

theorem gt_isL {B : Nat} {w : World} {v : Value} {xs : List Int} (h : IsL B w v xs) : (xs = [] ∧ ∃ a c, v = .slice a 0 c) ∨ ∃ b off c, v = .slice (some ⟨b, off, none⟩) xs.length c ∧ 0 < xs.length ∧ ∀ j, j < xs.length → w.cell? ⟨b, off + j, none⟩ = some (.int .i64 (gt xs j)) := by
  rcases h with h | ⟨b, off, c, h1, hB, h2, h3, h4, h5⟩
  · exact Or.inl h
  · exact Or.inr ⟨b, off, c, h1, h2, h4⟩

theorem hRight_long {B : Nat} {w : World} {v : Value} {xs : List Int} (h : IsL B w v xs) (hl : 6 < xs.length) :
    Calls Try.prog 46 #[v] w fun e w' => e = .returned (.bool false) ∧ Below w.heap.size w w' := by
  obtain ⟨a, c, rfl⟩ := h.form
  clear h
  have hl' : (6 : Int) < (xs.length : Int) := by omega
  go_enter Try.func46, Try.ntmps46
  go_wp2
  go_ret
  exact ⟨rfl, Below.refl _ _⟩

set_option maxHeartbeats 2000000 in
theorem hRight_yes {B : Nat} {w : World} {v : Value} {xs : List Int} (h : IsL B w v xs) (hl : xs.length ≤ 6) (hp : Hp xs) :
    Calls Try.prog 46 #[v] w fun e w' => e = .returned (.bool true) ∧ Below w.heap.size w w' := by
  rcases gt_isL h with ⟨rfl, a, c, rfl⟩ | ⟨b, off, c, rfl, h0, hc⟩
  · clear h hp
    go_enter Try.func46, Try.ntmps46
    go_wp2_with fail
    go_loopg [3] 0 (fun _ s3 wt => s3 = .int .i64 1 ∧ wt = w)
    case atStart => exact ⟨rfl, rfl⟩
    case round =>
      obtain ⟨rfl, rfl⟩ := hrel
      go_wp2
      go_ret
      exact ⟨rfl, Below.refl _ _⟩
  · have C : Hid (∀ j, j < xs.length → w.cell? ⟨b, off + j, none⟩ = some (.int .i64 (gt xs j))) := hc
    have P : Hid (Hp xs) := hp
    clear h hc hp
    have hli : (xs.length : Int) ≤ 6 := by omega
    go_enter Try.func46, Try.ntmps46
    go_wp2_with fail
    go_loopg [3] xs.length (fun gg s3 wt => ∃ i : Nat, 0 < i ∧ i ≤ xs.length ∧ xs.length - i ≤ gg ∧ s3 = .int .i64 i ∧ Hid (Below w.heap.size w wt))
    case atStart => exact ⟨1, by omega, by omega, by omega, rfl, Below.refl _ _⟩
    case round =>
      obtain ⟨i, hi0, hi, hgg, rfl, Q⟩ := hrel
      have C' : Hid (∀ j, j < xs.length → wr.cell? ⟨b, off + j, none⟩ = some (.int .i64 (gt xs j))) := fun j hj => by rw [Q.out.cell (p := ⟨b, off + j, none⟩) (World.block_lt_of_cell? _ _ (C.out j hj))]; exact C.out j hj
      by_cases hlt : i < xs.length
      · have g1 : wr.cell? ⟨b, off + i, none⟩ = some (.int .i64 (gt xs i)) := C'.out i hlt
        have g2 : wr.cell? ⟨b, off + (i - 1) / 2, none⟩ = some (.int .i64 (gt xs ((i - 1) / 2))) := C'.out _ (by omega)
        have hle := P.out i hi0 hlt
        generalize gt xs i = x at g1 hle
        generalize gt xs ((i - 1) / 2) = y at g2 hle
        have hi1 : (i : Int) < (xs.length : Int) := by omega
        have hi2 : (0 : Int) ≤ (i : Int) := by omega
        obtain ⟨p, hpp⟩ : ∃ p, p = (i - 1) / 2 := ⟨_, rfl⟩
        have hp1 : (p : Int) < (xs.length : Int) := by omega
        have hp2 : (0 : Int) ≤ (p : Int) := by omega
        have A : Hid (∀ W, Calls Try.prog 58 #[.int .i64 i] W fun e w' => e = .returned (.int .i64 (p : Int)) ∧ w' = W) := by rw [hpp]; exact above_is i hi0 (by omega)
        rw [← hpp] at g2
        clear hpp
        go_wp2_with fail
        go_quiet ((go_at_call 58; exact Calls.quiet_of_same (A.out _)))
        go_wp2
        go_roundg (xs.length - (i + 1))
        case measure => omega
        case rel => exact ⟨i + 1, by omega, by omega, by omega, by go_num, Q.out.trans ((below_drewN _ _).mono Q.out.size)⟩
      · obtain rfl : i = xs.length := by omega
        go_wp2
        go_ret
        exact ⟨rfl, Q.out⟩
set_option maxHeartbeats 2000000 in
theorem hRight_no {B : Nat} {w : World} {v : Value} {xs : List Int} (h : IsL B w v xs) (hl : xs.length ≤ 6) (hp : ¬ Hp xs) :
    Calls Try.prog 46 #[v] w fun e w' => e = .returned (.bool false) ∧ Below w.heap.size w w' := by
  rcases gt_isL h with ⟨rfl, a, c, rfl⟩ | ⟨b, off, c, rfl, h0, hc⟩
  · exact absurd (fun i _ hi => absurd hi (by simp)) hp
  · have C : Hid (∀ j, j < xs.length → w.cell? ⟨b, off + j, none⟩ = some (.int .i64 (gt xs j))) := hc
    have P : Hid (¬ Hp xs) := hp
    clear h hc hp
    have hli : (xs.length : Int) ≤ 6 := by omega
    go_enter Try.func46, Try.ntmps46
    go_wp2_with fail
    go_loopg [3] xs.length (fun gg s3 wt => ∃ i : Nat, 0 < i ∧ i ≤ xs.length ∧ xs.length - i ≤ gg ∧ s3 = .int .i64 i ∧ Hid (Below w.heap.size w wt) ∧ Hid (∀ k, 0 < k → k < i → gt xs ((k - 1) / 2) ≤ gt xs k))
    case atStart => exact ⟨1, by omega, by omega, by omega, rfl, Below.refl _ _, fun k h1 h2 => by omega⟩
    case round =>
      obtain ⟨i, hi0, hi, hgg, rfl, Q, T⟩ := hrel
      have C' : Hid (∀ j, j < xs.length → wr.cell? ⟨b, off + j, none⟩ = some (.int .i64 (gt xs j))) := fun j hj => by rw [Q.out.cell (p := ⟨b, off + j, none⟩) (World.block_lt_of_cell? _ _ (C.out j hj))]; exact C.out j hj
      by_cases hlt : i < xs.length
      · have g1 : wr.cell? ⟨b, off + i, none⟩ = some (.int .i64 (gt xs i)) := C'.out i hlt
        have g2 : wr.cell? ⟨b, off + (i - 1) / 2, none⟩ = some (.int .i64 (gt xs ((i - 1) / 2))) := C'.out _ (by omega)
        obtain ⟨x, hx⟩ : ∃ x, gt xs i = x := ⟨_, rfl⟩
        obtain ⟨y, hy⟩ : ∃ y, gt xs ((i - 1) / 2) = y := ⟨_, rfl⟩
        have X : Hid (gt xs i = x ∧ gt xs ((i - 1) / 2) = y) := ⟨hx, hy⟩
        rw [hx] at g1
        rw [hy] at g2
        clear hx hy
        have hi1 : (i : Int) < (xs.length : Int) := by omega
        have hi2 : (0 : Int) ≤ (i : Int) := by omega
        obtain ⟨p, hpp⟩ : ∃ p, p = (i - 1) / 2 := ⟨_, rfl⟩
        have hp1 : (p : Int) < (xs.length : Int) := by omega
        have hp2 : (0 : Int) ≤ (p : Int) := by omega
        have A : Hid (∀ W, Calls Try.prog 58 #[.int .i64 i] W fun e w' => e = .returned (.int .i64 (p : Int)) ∧ w' = W) := by rw [hpp]; exact above_is i hi0 (by omega)
        rw [← hpp] at g2
        clear hpp
        go_wp2_with fail
        by_cases hxy : x < y
        · go_quiet ((go_at_call 58; exact Calls.quiet_of_same (A.out _)))
          go_wp2
          go_ret
          exact ⟨rfl, Q.out.trans ((below_drewN _ _).mono Q.out.size)⟩
        · go_quiet ((go_at_call 58; exact Calls.quiet_of_same (A.out _)))
          go_wp2
          go_roundg (xs.length - (i + 1))
          case measure => omega
          case rel =>
            refine ⟨i + 1, by omega, by omega, by omega, by go_num, Q.out.trans ((below_drewN _ _).mono Q.out.size), fun k k0 k1 => ?_⟩
            by_cases e : k = i
            · subst e; rw [X.out.1, X.out.2]; omega
            · exact T.out k k0 (by omega)
      · exact absurd (fun k k0 k1 => T.out k k0 (by omega)) P.out

theorem hRight_isnt {B : Nat} {w : World} {v : Value} {xs : List Int} (h : IsL B w v xs) (hr : ¬ (xs.length ≤ 6 ∧ Hp xs)) :
    Calls Try.prog 46 #[v] w fun e w' => e = .returned (.bool false) ∧ Below w.heap.size w w' := by
  by_cases hl : xs.length ≤ 6
  · exact hRight_no h hl fun hp => hr ⟨hl, hp⟩
  · exact hRight_long h (by omega)
end Go.Proofs.Ytgkgkiheoadbfaa
namespace Go.Proofs.Ytgkgkiheoadbfaa
set_option maxRecDepth 20000
open Go.RowKit

/-- b says whether xs is a heap. -/
structure Says (b : Bool) (xs : List Int) : Prop where
  iff : b = true ↔ xs.length ≤ 6 ∧ Hp xs
theorem Says.yes {xs : List Int} (h : xs.length ≤ 6) (hp : Hp xs) : Says true xs := ⟨fun _ => ⟨h, hp⟩, fun _ => rfl⟩
theorem Says.no {xs : List Int} (h : ¬ (xs.length ≤ 6 ∧ Hp xs)) : Says false xs := ⟨fun h => (by cases h), fun hh => absurd hh h⟩

theorem lit_two (w : World) (x y : Int) (t : TypeId) : (w.alloc (.cells #[.int .i64 x, .int .i64 y] t)).cell? ⟨w.heap.size, 0, none⟩ = some (.int .i64 x) ∧ (w.alloc (.cells #[.int .i64 x, .int .i64 y] t)).cell? ⟨w.heap.size, 1, none⟩ = some (.int .i64 y) := by simp

set_option maxHeartbeats 4000000 in
theorem RRight_is {B : Nat} {w : World} {v : Value} {xs : List Int} (h : IsL B w v xs) (hl : xs.length ≤ 60) :
    Calls Try.prog 40 #[v] w fun e w' => ∃ b : Bool, e = .returned (.bool b) ∧ Says b xs ∧ Below w.heap.size w w' := by
  rcases gt_isL h with ⟨rfl, a, c, rfl⟩ | ⟨b, off, c, rfl, h0, hc⟩
  · clear h
    go_enter Try.func40, Try.ntmps40
    go_wp2_with fail
    go_loopg [8] 0 (fun _ s8 wt => s8 = .int .i64 0 ∧ wt = w)
    case atStart => exact ⟨rfl, rfl⟩
    case round =>
      obtain ⟨rfl, rfl⟩ := hrel
      go_wp2
      go_ret
      exact ⟨true, rfl, Says.yes (by simp) (fun i _ hi => absurd hi (by simp)), Below.refl _ _⟩
  · have C : Hid (∀ j, j < xs.length → w.cell? ⟨b, off + j, none⟩ = some (.int .i64 (gt xs j))) := hc
    clear h hc
    obtain ⟨n, hn⟩ : ∃ n, n = xs.length := ⟨_, rfl⟩
    have N : Hid (n = xs.length) := hn
    rw [← hn] at C h0 hl ⊢
    clear hn
    go_enter Try.func40, Try.ntmps40
    go_wp2_with fail
    go_loopg [8] n (fun gg s8 wt => ∃ i : Nat, i ≤ n ∧ n - i ≤ gg ∧ s8 = .int .i64 i ∧ Hid (Below w.heap.size w wt) ∧ Hid (∀ k, 0 < k → k < n → (k - 1) / 2 < i → gt xs ((k - 1) / 2) ≤ gt xs k))
    case atStart => exact ⟨0, Nat.zero_le _, by omega, rfl, Below.refl _ _, fun k _ _ hk => absurd hk (by omega)⟩
    case round =>
      obtain ⟨i, hi, hgg, rfl, Q, T⟩ := hrel
      obtain ⟨w1, rfl⟩ : ∃ w1, w1 = wr := ⟨_, rfl⟩
      by_cases hlt : i < n
      · have hi1 : (i : Int) < (n : Int) := by omega
        have hi2 : (0 : Int) ≤ (i : Int) := by omega
        have LB : Hid (Below w1.heap.size w1 (w1.alloc (.cells #[.int .i64 (2 * (i : Int) + 1), .int .i64 (2 * (i : Int) + 2)] 3))) := (Below.refl _ _).alloc (Nat.le_refl _) _
        have LC : Hid ((w1.alloc (.cells #[.int .i64 (2 * (i : Int) + 1), .int .i64 (2 * (i : Int) + 2)] 3)).cell? ⟨w1.heap.size, 0, none⟩ = some (.int .i64 (2 * (i : Int) + 1)) ∧ (w1.alloc (.cells #[.int .i64 (2 * (i : Int) + 1), .int .i64 (2 * (i : Int) + 2)] 3)).cell? ⟨w1.heap.size, 1, none⟩ = some (.int .i64 (2 * (i : Int) + 2))) := lit_two _ _ _ _
        go_wp2_with fail
        generalize w1.alloc (.cells #[.int .i64 (2 * (i : Int) + 1), .int .i64 (2 * (i : Int) + 2)] 3) = W at LB LC ⊢
        obtain ⟨gk0, hgk0⟩ : ∃ gk0, gk0 = gk := ⟨_, rfl⟩
        have GK : Hid (gk = gk0) := hgk0.symm
        go_loopg [19] 2 (fun gg s19 wt => ∃ j : Nat, j ≤ 2 ∧ 2 - j ≤ gg ∧ s19 = .int .i64 j ∧ Hid (Below W.heap.size W wt) ∧ Hid (∀ k, 0 < k → k < n → (k - 1) / 2 < i ∨ k < 2 * i + 1 + j → gt xs ((k - 1) / 2) ≤ gt xs k))
        case atStart => exact ⟨0, Nat.zero_le _, by omega, rfl, Below.refl _ _, fun k k0 k1 hk => T.out k k0 k1 (by omega)⟩
        case round =>
          obtain ⟨j, hj, hgj, rfl, Q2, T2⟩ := hrel
          have Q3 : Hid (Below w.heap.size w wr) := Q.out.trans ((LB.out.trans (Q2.out.mono LB.out.size)).mono Q.out.size)
          by_cases hj2 : j < 2
          · obtain ⟨kk, hkk⟩ : ∃ kk, kk = 2 * i + 1 + j := ⟨_, rfl⟩
            have cj : wr.cell? ⟨w1.heap.size, j, none⟩ = some (.int .i64 (kk : Nat)) := by
              have hblt : w1.heap.size < W.heap.size := World.block_lt_of_cell? _ _ LC.out.1
              rw [Q2.out.cell (p := ⟨w1.heap.size, j, none⟩) hblt]
              have : j = 0 ∨ j = 1 := by omega
              rcases this with rfl | rfl
              · rw [LC.out.1]; congr 2; omega
              · rw [LC.out.2]; congr 2; omega
            have hj0 : (0 : Int) ≤ (j : Int) := by omega
            have hj1 : (j : Int) < 2 := by omega
            have hk0 : (0 : Int) ≤ (kk : Int) := by omega
            have KK : Hid (kk = 2 * i + 1 + j) := hkk
            clear hkk
            by_cases hkn : kk < n
            · have hk1 : (kk : Int) < (n : Int) := by omega
              obtain ⟨x, hx⟩ : ∃ x, gt xs kk = x := ⟨_, rfl⟩
              obtain ⟨y, hy⟩ : ∃ y, gt xs i = y := ⟨_, rfl⟩
              have g1 : wr.cell? ⟨b, off + kk, none⟩ = some (.int .i64 x) := by
                rw [Q3.out.cell (p := ⟨b, off + kk, none⟩) (World.block_lt_of_cell? _ _ (C.out kk hkn)), C.out kk hkn, hx]
              have g2 : wr.cell? ⟨b, off + i, none⟩ = some (.int .i64 y) := by
                rw [Q3.out.cell (p := ⟨b, off + i, none⟩) (World.block_lt_of_cell? _ _ (C.out i hlt)), C.out i hlt, hy]
              have X : Hid (gt xs kk = x ∧ gt xs i = y) := ⟨hx, hy⟩
              clear hx hy
              by_cases hxy : x < y
              · go_wp2_with fail
                go_quiet (fail)
                go_wp2
                go_ret
                refine ⟨false, rfl, Says.no fun ⟨_, hp⟩ => ?_, Q3.out.trans ((below_drewN _ _).mono Q3.out.size)⟩
                have ek := KK.out
                have := hp kk (by omega) (by rw [← N.out]; exact hkn)
                rw [show (kk - 1) / 2 = i by omega, X.out.1, X.out.2] at this
                omega
              · have hd2 : decide (x < y) = false := by simpa using hxy
                go_wp2_with fail
                go_quiet (fail)
                go_wp2
                go_roundg (2 - (j + 1))
                case measure => omega
                case rel =>
                  refine ⟨j + 1, by omega, by omega, by go_num, Q2.out.trans ((below_drewN _ _).mono Q2.out.size), fun k k0 k1 hk => ?_⟩
                  have ek := KK.out
                  by_cases e : k = kk
                  · subst e; rw [show (k - 1) / 2 = i by omega, X.out.1, X.out.2]; omega
                  · exact T2.out k k0 k1 (by omega)
            · have hd2 : decide ((kk : Int) < (n : Int)) = false := by simp; omega
              go_wp2_with fail
              go_quiet (fail)
              go_wp2
              go_roundg (2 - (j + 1))
              case measure => omega
              case rel =>
                refine ⟨j + 1, by omega, by omega, by go_num, Q2.out.trans ((below_drewN _ _).mono Q2.out.size), fun k k0 k1 hk => ?_⟩
                have ek := KK.out
                exact T2.out k k0 k1 (by omega)
          · obtain rfl : j = 2 := by omega
            go_wp2
            go_roundg (n - (i + 1))
            case measure => omega
            case rel => exact ⟨i + 1, by omega, by omega, by go_num, Q3, fun k k0 k1 hk => T2.out k k0 k1 (by omega)⟩
      · obtain rfl : i = n := by omega
        have hp : Hid (Hp xs) := fun k k0 k1 => T.out k k0 (by rw [N.out]; exact k1) (by rw [N.out]; omega)
        by_cases h6 : i ≤ 6
        · have h6i : (i : Int) ≤ 6 := by omega
          go_wp2
          go_ret
          exact ⟨true, rfl, Says.yes (by rw [← N.out]; exact h6) hp.out, Q.out⟩
        · have h6i : ¬ (i : Int) ≤ 6 := by omega
          have h6d : decide ((i : Int) ≤ 6) = false := by simpa using h6i
          go_wp2
          go_ret
          exact Or.inl ⟨rfl, Says.no (fun h => h6 (by rw [N.out]; exact h.1)), Q.out⟩
theorem RRight_yes {B : Nat} {w : World} {v : Value} {xs : List Int} (h : IsL B w v xs) (hl : xs.length ≤ 6) (hp : Hp xs) :
    Calls Try.prog 40 #[v] w fun e w' => e = .returned (.bool true) ∧ Below w.heap.size w w' :=
  (RRight_is h (by omega)).mono fun _ _ ⟨b, he, hs, hb⟩ => ⟨by rw [he, hs.iff.2 ⟨hl, hp⟩], hb⟩
theorem RRight_isnt {B : Nat} {w : World} {v : Value} {xs : List Int} (h : IsL B w v xs) (hl : xs.length ≤ 60) (hr : ¬ (xs.length ≤ 6 ∧ Hp xs)) :
    Calls Try.prog 40 #[v] w fun e w' => e = .returned (.bool false) ∧ Below w.heap.size w w' :=
  (RRight_is h hl).mono fun _ _ ⟨b, he, hs, hb⟩ => ⟨by
    cases b with
    | false => exact he
    | true => exact absurd (hs.iff.1 rfl) hr, hb⟩
end Go.Proofs.Ytgkgkiheoadbfaa
namespace Go.Proofs.Ytgkgkiheoadbfaa.Tab
set_option maxRecDepth 20000
open Go.RowKit
set_option linter.unusedVariables false

def lwq (l : List Int) (i : Nat) : Nat → Nat := fun j => if j = 0 then l.length else if j ≤ i then (l.getD (j - 1) 0).toNat else 0
theorem lwq_next (l : List Int) (i : Nat) : wl (upw (lwq l i) (1 + i) (l.getD i 0).toNat) = wl (lwq l (i + 1)) := by
  refine wl_congr fun j _ => ?_
  unfold upw lwq
  by_cases e : j = 1 + i
  · subst e
    rw [if_pos rfl, if_neg (by omega), if_pos (by omega), show 1 + i - 1 = i by omega]
  · rw [if_neg e]
    by_cases e0 : j = 0
    · rw [if_pos e0, if_pos e0]
    · rw [if_neg e0, if_neg e0]
      by_cases e1 : j ≤ i
      · rw [if_pos e1, if_pos (by omega)]
      · rw [if_neg e1, if_neg (by omega)]
theorem lwq_all (l : List Int) : wl (lwq l l.length) = wl (lw l) := by
  refine wl_congr fun j _ => ?_
  unfold lwq lw
  by_cases e0 : j = 0
  · rw [if_pos e0, if_pos e0]
  · rw [if_neg e0, if_neg e0]
    by_cases e1 : j ≤ l.length
    · rw [if_pos e1]
    · rw [if_neg e1, List.getD_eq_getElem?_getD, List.getElem?_eq_none (by omega)]; rfl
theorem lwq_zero (l : List Int) : wl (lwq l 0) = (wl wz).set 0 (.int .u64 (l.length : Nat)) := by
  rw [wl_set wz l.length (by decide)]
  refine wl_congr fun j _ => ?_
  unfold lwq upw wz
  by_cases e0 : j = 0
  · rw [if_pos e0, if_pos e0]
  · rw [if_neg e0, if_neg e0, if_neg (by omega)]

set_option maxHeartbeats 2000000 in
theorem Cells_list {B : Nat} {k : Int} (k5 : k ≠ 5) (k6 : k ≠ 6) {v : Value} {l : List Int} (t : Tb) (x : Int) {w : World} (h : IsL B w v l) (h6 : l.length ≤ 6) (hv : ∀ x ∈ l, 0 ≤ x ∧ x ≤ 4294967295) :
    Calls Try.prog 41 #[.agg (tg k v t x).toArray] w fun e w' => Wd w.heap.size e w' (lw l) ∧ Below w.heap.size w w' := by
  obtain ⟨a, c, rfl⟩ := h.form
  have HL : Hid (∀ i, i < l.length → ∃ b off, a = some ⟨b, off, none⟩ ∧ (∀ W, Below w.heap.size w W → W.cell? ⟨b, off + i, none⟩ = some (.int .i64 ((l.getD i 0).toNat : Nat)))) := fun i hi => by
    rcases h with ⟨rfl, _⟩ | ⟨b, off, c, h1, hB, h0, hc, hcell, _⟩
    · simp at hi
    · injection h1 with h1 _ _
      refine ⟨b, off, h1, fun W hW => ?_⟩
      have hx := hv (l.getD i 0) (by rw [List.getD_eq_getElem?_getD, List.getElem?_eq_getElem hi]; exact List.getElem_mem hi)
      rw [hW.cell (p := ⟨b, off + i, none⟩) (World.block_lt_of_cell? _ _ (hcell i hi)), hcell i hi]
      congr 2; omega
  have HX : Hid (∀ i, i < l.length → (l.getD i 0).toNat ≤ 4294967295) := fun i hi => by
    have hx := hv (l.getD i 0) (by rw [List.getD_eq_getElem?_getD, List.getElem?_eq_getElem hi]; exact List.getElem_mem hi)
    omega
  clear hv h
  have LZ : Hid _ := lwq_zero l
  obtain ⟨N, hN⟩ : ∃ N, l.length = N := ⟨_, rfl⟩
  have HN : Hid (l.length = N) := hN
  have m5 : (k == 5) = false := by simp [k5]
  have m6 : (k == 6) = false := by simp [k6]
  rw [hN] at HL HX LZ h6 ⊢
  clear k5 k6 hN
  have mk := mk17b w (.cells (tg k (.slice a N c) t x).toArray 40)
  have S0 : Hid (Bo ((w.alloc (.cells (tg k (.slice a N c) t x).toArray 40)).alloc (.cells (wl wz).toArray 22)) w.heap.size (tg k (.slice a N c) t x)) := (Bo.born w (tg k (.slice a N c) t x) _ rfl).new _
  have T0 : Hid (Bo ((w.alloc (.cells (tg k (.slice a N c) t x).toArray 40)).alloc (.cells (wl wz).toArray 22)) (w.heap.size + 1) (wl wz)) := Bo.born _ (wl wz) _ (by simp)
  have S1 : Hid (Bo ((w.alloc (.cells (tg k (.slice a N c) t x).toArray 40)).alloc (.cells ((wl wz).set 0 (.int .u64 N)).toArray 22)) w.heap.size (tg k (.slice a N c) t x)) := (Bo.born w (tg k (.slice a N c) t x) _ rfl).new _
  have T1 : Hid (Bo ((w.alloc (.cells (tg k (.slice a N c) t x).toArray 40)).alloc (.cells ((wl wz).set 0 (.int .u64 N)).toArray 22)) (w.heap.size + 1) (wl (lwq l 0))) := by
    rw [LZ.out]; exact Bo.born _ _ _ (by simp)
  have G1 : Hid (Gd w.heap.size w ((w.alloc (.cells (tg k (.slice a N c) t x).toArray 40)).alloc (.cells ((wl wz).set 0 (.int .u64 N)).toArray 22))) := ((Gd.refl w).new _).new _
  have c0 := S0.out.tcell.1
  have c1 := S0.out.tcell.2.1
  have c2 := S1.out.tcell.2.1
  have d0 := T0.out.word (show 0 < 17 by decide)
  have d1 := T0.out.froz 0
  have ew : IntKind.u64.wrap (N : Int) = N := by rw [IntKind.wrap_u64]; omega
  go_enter Try.func41, Try.ntmps41
  go_wp2_with fail
  clear c0 c1 c2 d0 d1 S0 T0 mk
  generalize (w.alloc (.cells (tg k (.slice a N c) t x).toArray 40)).alloc (.cells ((wl wz).set 0 (.int .u64 N)).toArray 22) = W at S1 T1 G1 ⊢
  generalize hsz : w.heap.size = n at S1 T1 G1 ⊢
  have HSZ : Hid (w.heap.size = n) := hsz
  clear hsz
  go_loopg [20] N (fun gg s20 wt => ∃ i : Nat, i ≤ N ∧ N - i ≤ gg ∧ s20 = .int .i64 i ∧ Hid (Bo wt (n + 1) (wl (lwq l i))) ∧ Hid (Bo wt n (tg k (.slice a N c) t x)) ∧ Hid (Gd n w wt))
  case atStart => exact ⟨0, by omega, by omega, rfl, T1, S1, G1⟩
  case round =>
    clear T1 S1 G1
    obtain ⟨i, hi, hgg, rfl, T, S, G⟩ := hrel
    by_cases hlt : i < N
    · obtain ⟨b, off, rfl, hc⟩ := HL.out i hlt
      have c0 := hc wr G.out.2
      have NX : Hid _ := lwq_next l i
      have e1 := T.out.word (show 1 + i < 17 by omega)
      have f1 := T.out.froz (1 + i)
      have j1 : (i : Int) + 1 < 17 := by omega
      have j0 : (0 : Int) ≤ (i : Int) + 1 := by omega
      have i1 : (i : Int) < (N : Int) := by omega
      have i0 : (0 : Int) ≤ (i : Int) := by omega
      have T1 : Hid (Bo (wr.setCell ⟨n + 1, 1 + i, none⟩ (.int .u64 ((l.getD i 0).toNat : Nat))) (n + 1) (wl (lwq l (i + 1)))) := by
        rw [← NX.out]; exact T.out.setw _ (by omega)
      have S1 : Hid (Bo (wr.setCell ⟨n + 1, 1 + i, none⟩ (.int .u64 ((l.getD i 0).toNat : Nat))) n (tg k (.slice (some ⟨b, off, none⟩) N c) t x)) := S.out.aside (by simp) _
      have G1 : Hid (Gd n w (wr.setCell ⟨n + 1, 1 + i, none⟩ (.int .u64 ((l.getD i 0).toNat : Nat)))) := G.out.aside (by simp) _
      have hx : (l.getD i 0).toNat ≤ 4294967295 := HX.out i hlt
      rw [Nat.add_comm 1 i] at e1 f1 T1 S1 G1
      clear hc NX T S G
      generalize lwq l i (i + 1) = z at e1
      generalize (l.getD i 0).toNat = y at c0 T1 S1 G1 hx
      have ew2 : IntKind.u64.wrap (y : Int) = y := by rw [IntKind.wrap_u64]; omega
      go_wp2
      go_roundg (N - (i + 1))
      case measure => omega
      case rel => exact ⟨i + 1, by omega, by omega, by go_num, T1, S1, G1⟩
    · have ei : i = N := by omega
      have LA := lwq_all l
      rw [HN.out, ← ei] at LA
      rw [LA] at T
      clear LA
      go_wp2
      go_ret
      exact ⟨⟨n + 1, rfl, by have := HSZ.out; omega, T.out⟩, G.out.2⟩
end Go.Proofs.Ytgkgkiheoadbfaa.Tab
