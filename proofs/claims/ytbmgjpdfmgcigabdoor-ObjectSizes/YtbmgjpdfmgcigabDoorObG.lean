/- Package object: Right, by its contract. -/
import Derived.Test.YtbmgjpdfmgcigabDoorObB
import Derived.Test.YtbmgjpdfmgcigabDoorObD
import Derived.Test.YtbmgjpdfmgcigabDoorHr
namespace Go.Proofs.YtbmgjpdfmgcigabDoor.Tab
set_option maxRecDepth 20000
open Go.RowKit

theorem upC_all {c : Nat → Nat} {off n : Nat} {m : Int} (h : upC c off n m = true) {j : Nat} (h1 : off ≤ j) (h2 : j < off + n) : ((c j : Nat) : Int) ≤ m := by
  have := upC_iff.1 h (j - off) (by omega)
  rwa [show off + (j - off) = j by omega] at this
theorem isLb_w {c : Nat → Nat} (h : isLb c = true) : WList c := by
  unfold isLb at h
  simp only [Bool.and_eq_true, decide_eq_true_eq] at h
  refine ⟨h.1, fun i h1 h2 => ?_, fun i h1 h2 => ?_⟩
  · have := upC_all h.2.1 (j := i) (by omega) (by omega); omega
  · have := upC_all h.2.2 (j := i) (by omega) (by omega); omega
theorem isLb_of {c : Nat → Nat} (h : WList c) : isLb c = true := by
  unfold isLb
  simp only [Bool.and_eq_true, decide_eq_true_eq]
  refine ⟨h.len, upC_iff.2 fun j hj => ?_, upC_iff.2 fun j hj => ?_⟩
  · have := h.val (1 + j) (by omega) (by omega); omega
  · have := h.rest (1 + c 0 + j) (by omega) (by have := h.len; omega); omega
def WTab (c : Nat → Nat) : Prop := upC c 0 16 4294967295 = true ∧ upC c 16 1 0 = true ∧ RT (tbl c)
def isTb (c : Nat → Nat) : Bool := upC c 0 1 4294967295 && upC c 1 16 0
/-- What an object of a kind is, as words: 11.1. -/
def isOb (kind : Int) (c : Nat → Nat) : Prop :=
  ((kind = 1 ∨ kind = 2 ∨ kind = 3) ∧ isLb c = true) ∨ (kind = 4 ∧ isLb c = true ∧ Hp (lst c)) ∨ (kind = 5 ∧ WTab c) ∨ (kind = 6 ∧ isTb c = true)

set_option maxHeartbeats 1000000 in
theorem isTable_is (c : Nat → Nat) (v : Bool) (hv : v = true ↔ WTab c) (w : World) : Calls Tryd.prog 33 #[.agg (wl c).toArray] w fun e w' => e = .returned (.bool v) ∧ Below w.heap.size w w' := by
  obtain ⟨nb, eb, hd⟩ := cells_array
  have HC : Hid _ := hd
  clear hd
  have HCS : Hid _ := cells_size
  have G : Hid (Gd w.heap.size w (w.alloc (.cells (wl c).toArray 24))) := (Gd.refl w).new _
  have T : Hid (Bo (w.alloc (.cells (wl c).toArray 24)) w.heap.size (wl c)) := Bo.born w (wl c) _ rfl
  rcases h1 : upC c 0 16 4294967295 with _ | _
  · have e : v = false := by
      cases v
      · rfl
      · have := (hv.1 rfl).1; rw [h1] at this; exact absurd this (by decide)
    subst e
    clear hv
    go_enter Tryd.func33, Tryd.ntmps33
    go_wp2_with fail
    refine (upTo_is T.out (by decide) h1).mono ?_
    rintro e w1 ⟨rfl, rfl⟩
    go_wp2
    go_ret
    exact ⟨rfl, G.out.2⟩
  · rcases h2 : upC c 16 1 0 with _ | _
    · have e : v = false := by
        cases v
        · rfl
        · have := (hv.1 rfl).2.1; rw [h2] at this; exact absurd this (by decide)
      subst e
      clear hv
      go_enter Tryd.func33, Tryd.ntmps33
      go_wp2_with fail
      refine (upTo_is T.out (by decide) h1).mono ?_
      rintro e w1 ⟨rfl, rfl⟩
      go_wp2_with fail
      refine (upTo_is T.out (by decide) h2).mono ?_
      rintro e w1 ⟨rfl, rfl⟩
      go_wp2
      go_ret
      exact ⟨rfl, G.out.2⟩
    · have hb : Hid (v = true ↔ RT (tbl c)) := ⟨fun h => (hv.1 h).2.2, fun h => hv.2 ⟨h1, h2, h⟩⟩
      have hs : Hid (∀ j, j < 16 → c j ≤ 4294967295) := fun j hj => by have := upC_all h1 (j := j) (by omega) (by omega); omega
      have H1 : Hid _ := h1
      have H2 : Hid _ := h2
      clear hv h1 h2
      go_enter Tryd.func33, Tryd.ntmps33
      go_wp2_with fail
      refine (upTo_is T.out (by decide) H1.out).mono ?_
      rintro e w1 ⟨rfl, rfl⟩
      go_wp2_with fail
      refine (upTo_is T.out (by decide) H2.out).mono ?_
      rintro e w1 ⟨rfl, rfl⟩
      go_wp2_with (first | (refine wpList_load_wanted (by rfl) 24 _ rfl w.heap.size _ rfl (wl c) _ T.out.range HC.out rfl (HCS.out c) ?_))
      refine (slots_is c hs.out _).mono ?_
      rintro e w1 ⟨rfl, hc⟩
      have G1 : Hid (Gd w.heap.size w w1) := G.out.later hc
      clear hc G T
      go_wp2_with fail
      refine (Right_is (tbl c) v hb.out _).mono ?_
      rintro e w2 ⟨rfl, hc⟩
      have G2 : Hid (Gd w.heap.size w w2) := G1.out.later hc
      clear hc G1
      go_wp2
      go_ret
      exact ⟨rfl, G2.out.2⟩

set_option maxHeartbeats 1000000 in
theorem obRight_1 (c : Nat → Nat) (w : World) : Calls Tryd.prog 18 #[.int .i64 1, .agg (wl c).toArray] w fun e w' => e = .returned (.bool (isLb c)) ∧ Below w.heap.size w w' := by
  obtain ⟨nb, eb, hd⟩ := cells_array
  have HC : Hid _ := hd
  clear hd
  have HCS : Hid _ := cells_size
  have G : Hid (Gd w.heap.size w (w.alloc (.cells (wl c).toArray 24))) := (Gd.refl w).new _
  have T : Hid (Bo (w.alloc (.cells (wl c).toArray 24)) w.heap.size (wl c)) := Bo.born w (wl c) _ rfl
  go_enter Tryd.func18, Tryd.ntmps18
  go_wp2_with (first | (refine wpList_load_mid rfl 24 _ rfl w.heap.size _ rfl (wl c) _ T.out.range HC.out rfl (HCS.out c) ?_))
  refine (isList_is c _).mono ?_
  rintro e w1 ⟨rfl, hb⟩
  have G1 : Hid (Gd w.heap.size w w1) := G.out.later hb
  clear hb G T
  go_wp2
  go_ret
  exact ⟨rfl, G1.out.2⟩
set_option maxHeartbeats 1000000 in
theorem obRight_2 (c : Nat → Nat) (w : World) : Calls Tryd.prog 18 #[.int .i64 2, .agg (wl c).toArray] w fun e w' => e = .returned (.bool (isLb c)) ∧ Below w.heap.size w w' := by
  obtain ⟨nb, eb, hd⟩ := cells_array
  have HC : Hid _ := hd
  clear hd
  have HCS : Hid _ := cells_size
  have G : Hid (Gd w.heap.size w (w.alloc (.cells (wl c).toArray 24))) := (Gd.refl w).new _
  have T : Hid (Bo (w.alloc (.cells (wl c).toArray 24)) w.heap.size (wl c)) := Bo.born w (wl c) _ rfl
  go_enter Tryd.func18, Tryd.ntmps18
  go_wp2_with (first | (refine wpList_load_mid rfl 24 _ rfl w.heap.size _ rfl (wl c) _ T.out.range HC.out rfl (HCS.out c) ?_))
  refine (isList_is c _).mono ?_
  rintro e w1 ⟨rfl, hb⟩
  have G1 : Hid (Gd w.heap.size w w1) := G.out.later hb
  clear hb G T
  go_wp2
  go_ret
  exact ⟨rfl, G1.out.2⟩
set_option maxHeartbeats 1000000 in
theorem obRight_3 (c : Nat → Nat) (w : World) : Calls Tryd.prog 18 #[.int .i64 3, .agg (wl c).toArray] w fun e w' => e = .returned (.bool (isLb c)) ∧ Below w.heap.size w w' := by
  obtain ⟨nb, eb, hd⟩ := cells_array
  have HC : Hid _ := hd
  clear hd
  have HCS : Hid _ := cells_size
  have G : Hid (Gd w.heap.size w (w.alloc (.cells (wl c).toArray 24))) := (Gd.refl w).new _
  have T : Hid (Bo (w.alloc (.cells (wl c).toArray 24)) w.heap.size (wl c)) := Bo.born w (wl c) _ rfl
  go_enter Tryd.func18, Tryd.ntmps18
  go_wp2_with (first | (refine wpList_load_mid rfl 24 _ rfl w.heap.size _ rfl (wl c) _ T.out.range HC.out rfl (HCS.out c) ?_))
  refine (isList_is c _).mono ?_
  rintro e w1 ⟨rfl, hb⟩
  have G1 : Hid (Gd w.heap.size w w1) := G.out.later hb
  clear hb G T
  go_wp2
  go_ret
  exact ⟨rfl, G1.out.2⟩
set_option maxHeartbeats 1000000 in
theorem obRight_4 (c : Nat → Nat) (v : Bool) (hv : v = true ↔ isLb c = true ∧ Hp (lst c)) (w : World) : Calls Tryd.prog 18 #[.int .i64 4, .agg (wl c).toArray] w fun e w' => e = .returned (.bool v) ∧ Below w.heap.size w w' := by
  obtain ⟨nb, eb, hd⟩ := cells_array
  have HC : Hid _ := hd
  clear hd
  have HCS : Hid _ := cells_size
  have G : Hid (Gd w.heap.size w (w.alloc (.cells (wl c).toArray 24))) := (Gd.refl w).new _
  have T : Hid (Bo (w.alloc (.cells (wl c).toArray 24)) w.heap.size (wl c)) := Bo.born w (wl c) _ rfl
  have IL : Hid _ := isList_is c
  rcases hl : isLb c with _ | _
  · have e : v = false := by
      cases v
      · rfl
      · have := (hv.1 rfl).1; rw [hl] at this; exact absurd this (by decide)
    subst e
    rw [hl] at IL
    clear hv hl
    go_enter Tryd.func18, Tryd.ntmps18
    go_wp2_with (first | (refine wpList_load_mid rfl 24 _ rfl w.heap.size _ rfl (wl c) _ T.out.range HC.out rfl (HCS.out c) ?_))
    refine (IL.out _).mono ?_
    rintro e w1 ⟨rfl, hb⟩
    have G1 : Hid (Gd w.heap.size w w1) := G.out.later hb
    clear hb G T
    go_wp2
    go_ret
    exact ⟨rfl, G1.out.2⟩
  · have HW : Hid (WList c) := isLb_w hl
    have hr : Hid (∀ B W u, IsL B W u (lst c) → Calls Tryd.prog 31 #[u] W fun e w' => e = .returned (.bool v) ∧ Below W.heap.size W w') := fun B W u hi => by
      have h6 : (lst c).length ≤ 6 := by rw [lst_length]; exact HW.out.len
      cases v
      · exact hRight_isnt hi (fun h => by have := hv.2 ⟨hl, h.2⟩; exact absurd this (by decide))
      · exact hRight_yes hi h6 (hv.1 rfl).2
    rw [hl] at IL
    clear hv hl
    go_enter Tryd.func18, Tryd.ntmps18
    go_wp2_with (first | (refine wpList_load_mid rfl 24 _ rfl w.heap.size _ rfl (wl c) _ T.out.range HC.out rfl (HCS.out c) ?_))
    refine (IL.out _).mono ?_
    rintro e w1 ⟨rfl, hb⟩
    have G1 : Hid (Gd w.heap.size w w1) := G.out.later hb
    have T1 : Hid (Bo w1 w.heap.size (wl c)) := T.out.later hb
    clear hb G T
    go_wp2_with (first | (refine wpList_load_wanted (by rfl) 24 _ rfl w.heap.size _ rfl (wl c) _ T1.out.range HC.out rfl (HCS.out c) ?_))
    refine (list_is HW.out _).mono ?_
    rintro e w2 ⟨u, rfl, hi, hb⟩
    have G2 : Hid (Gd w.heap.size w w2) := G1.out.later hb
    have I : Hid _ := hi
    clear hb hi G1 T1
    go_wp2_with fail
    refine (hr.out _ _ _ I.out).mono ?_
    rintro e w3 ⟨rfl, hb⟩
    have G3 : Hid (Gd w.heap.size w w3) := G2.out.later hb
    clear hb
    go_wp2
    go_ret
    exact ⟨rfl, G3.out.2⟩
set_option maxHeartbeats 1000000 in
theorem obRight_5 (c : Nat → Nat) (v : Bool) (hv : v = true ↔ WTab c) (w : World) : Calls Tryd.prog 18 #[.int .i64 5, .agg (wl c).toArray] w fun e w' => e = .returned (.bool v) ∧ Below w.heap.size w w' := by
  obtain ⟨nb, eb, hd⟩ := cells_array
  have HC : Hid _ := hd
  clear hd
  have HCS : Hid _ := cells_size
  have G : Hid (Gd w.heap.size w (w.alloc (.cells (wl c).toArray 24))) := (Gd.refl w).new _
  have T : Hid (Bo (w.alloc (.cells (wl c).toArray 24)) w.heap.size (wl c)) := Bo.born w (wl c) _ rfl
  have HV : Hid _ := hv
  clear hv
  go_enter Tryd.func18, Tryd.ntmps18
  go_wp2_with (first | (refine wpList_load_mid rfl 24 _ rfl w.heap.size _ rfl (wl c) _ T.out.range HC.out rfl (HCS.out c) ?_))
  refine (isTable_is c v HV.out _).mono ?_
  rintro e w1 ⟨rfl, hb⟩
  have G1 : Hid (Gd w.heap.size w w1) := G.out.later hb
  clear hb G T
  go_wp2
  go_ret
  exact ⟨rfl, G1.out.2⟩
set_option maxHeartbeats 1000000 in
theorem obRight_6 (c : Nat → Nat) (w : World) : Calls Tryd.prog 18 #[.int .i64 6, .agg (wl c).toArray] w fun e w' => e = .returned (.bool (isTb c)) ∧ Below w.heap.size w w' := by
  obtain ⟨nb, eb, hd⟩ := cells_array
  have HC : Hid _ := hd
  clear hd
  have HCS : Hid _ := cells_size
  have G : Hid (Gd w.heap.size w (w.alloc (.cells (wl c).toArray 24))) := (Gd.refl w).new _
  have T : Hid (Bo (w.alloc (.cells (wl c).toArray 24)) w.heap.size (wl c)) := Bo.born w (wl c) _ rfl
  have IT : Hid (∀ w, Calls Tryd.prog 34 #[.agg (wl c).toArray] w fun e w' => e = .returned (.bool (isTb c)) ∧ Below w.heap.size w w') := isTally_is c
  go_enter Tryd.func18, Tryd.ntmps18
  go_wp2_with (first | (refine wpList_load_mid rfl 24 _ rfl w.heap.size _ rfl (wl c) _ T.out.range HC.out rfl (HCS.out c) ?_))
  refine (IT.out _).mono ?_
  rintro e w1 ⟨rfl, hb⟩
  have G1 : Hid (Gd w.heap.size w w1) := G.out.later hb
  clear hb G T
  go_wp2
  go_ret
  exact ⟨rfl, G1.out.2⟩
set_option maxHeartbeats 1000000 in
theorem obRight_none (c : Nat → Nat) {kind : Int} (h : ¬ (1 ≤ kind ∧ kind ≤ 6)) (w : World) : Calls Tryd.prog 18 #[.int .i64 kind, .agg (wl c).toArray] w fun e w' => e = .returned (.bool false) ∧ Below w.heap.size w w' := by
  have G : Hid (Gd w.heap.size w (w.alloc (.cells (wl c).toArray 24))) := (Gd.refl w).new _
  have m1 : (kind == 1) = false := by simp; omega
  have m2 : (kind == 2) = false := by simp; omega
  have m3 : (kind == 3) = false := by simp; omega
  have m4 : (kind == 4) = false := by simp; omega
  have m5 : (kind == 5) = false := by simp; omega
  have m6 : (kind == 6) = false := by simp; omega
  clear h
  go_enter Tryd.func18, Tryd.ntmps18
  go_wp2
  go_ret
  exact ⟨rfl, G.out.2⟩
theorem obRight_is {kind : Int} {c : Nat → Nat} {v : Bool} (hv : v = true ↔ isOb kind c) (w : World) : Calls Tryd.prog 18 #[.int .i64 kind, .agg (wl c).toArray] w fun e w' => e = .returned (.bool v) ∧ Below w.heap.size w w' := by
  unfold isOb at hv
  by_cases hk : 1 ≤ kind ∧ kind ≤ 6
  · have : kind = 1 ∨ kind = 2 ∨ kind = 3 ∨ kind = 4 ∨ kind = 5 ∨ kind = 6 := by omega
    rcases this with rfl | rfl | rfl | rfl | rfl | rfl
    · have e : isLb c = v := by cases v <;> cases h : isLb c <;> simp [h] at hv ⊢
      rw [← e]; exact obRight_1 c w
    · have e : isLb c = v := by cases v <;> cases h : isLb c <;> simp [h] at hv ⊢
      rw [← e]; exact obRight_2 c w
    · have e : isLb c = v := by cases v <;> cases h : isLb c <;> simp [h] at hv ⊢
      rw [← e]; exact obRight_3 c w
    · exact obRight_4 c v (by simpa using hv) w
    · exact obRight_5 c v (by simpa using hv) w
    · have e : isTb c = v := by cases v <;> cases h : isTb c <;> simp [h] at hv ⊢
      rw [← e]; exact obRight_6 c w
  · have e : v = false := by
      cases v
      · rfl
      · rcases hv.1 rfl with ⟨h | h | h, _⟩ | ⟨h, _⟩ | ⟨h, _⟩ | ⟨h, _⟩ <;> exact absurd ⟨by omega, by omega⟩ hk
    rw [e]; exact obRight_none c hk w
end Go.Proofs.YtbmgjpdfmgcigabDoor.Tab
