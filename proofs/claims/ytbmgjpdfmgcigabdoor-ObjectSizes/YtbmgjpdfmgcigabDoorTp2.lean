/- Package table: Len, fits, found, Right, by their contracts. -/
import Derived.Test.YtbmgjpdfmgcigabDoorTp1
namespace Go.Proofs.YtbmgjpdfmgcigabDoor.Tab
set_option maxRecDepth 20000
open Go.RowKit

theorem slot_at0 (t : Tb) (w : World) : (Instr.index 92 (.agg t.all.toArray) (.int .i64 0)).run Tryd.prog w = .ok (.agg #[.int .i64 (t.k 0), .int .i64 (t.v 0)]) w := by kernel_rfl
theorem slot_at1 (t : Tb) (w : World) : (Instr.index 92 (.agg t.all.toArray) (.int .i64 1)).run Tryd.prog w = .ok (.agg #[.int .i64 (t.k 1), .int .i64 (t.v 1)]) w := by kernel_rfl
theorem slot_at2 (t : Tb) (w : World) : (Instr.index 92 (.agg t.all.toArray) (.int .i64 2)).run Tryd.prog w = .ok (.agg #[.int .i64 (t.k 2), .int .i64 (t.v 2)]) w := by kernel_rfl
theorem slot_at3 (t : Tb) (w : World) : (Instr.index 92 (.agg t.all.toArray) (.int .i64 3)).run Tryd.prog w = .ok (.agg #[.int .i64 (t.k 3), .int .i64 (t.v 3)]) w := by kernel_rfl
theorem slot_at4 (t : Tb) (w : World) : (Instr.index 92 (.agg t.all.toArray) (.int .i64 4)).run Tryd.prog w = .ok (.agg #[.int .i64 (t.k 4), .int .i64 (t.v 4)]) w := by kernel_rfl
theorem slot_at5 (t : Tb) (w : World) : (Instr.index 92 (.agg t.all.toArray) (.int .i64 5)).run Tryd.prog w = .ok (.agg #[.int .i64 (t.k 5), .int .i64 (t.v 5)]) w := by kernel_rfl
theorem slot_at6 (t : Tb) (w : World) : (Instr.index 92 (.agg t.all.toArray) (.int .i64 6)).run Tryd.prog w = .ok (.agg #[.int .i64 (t.k 6), .int .i64 (t.v 6)]) w := by kernel_rfl
theorem slot_at7 (t : Tb) (w : World) : (Instr.index 92 (.agg t.all.toArray) (.int .i64 7)).run Tryd.prog w = .ok (.agg #[.int .i64 (t.k 7), .int .i64 (t.v 7)]) w := by kernel_rfl
theorem slot_at (t : Tb) (i : Nat) (hi : i < 8) (w : World) :
    (Instr.index 92 (.agg t.all.toArray) (.int .i64 (i : Nat))).run Tryd.prog w = .ok (.agg #[.int .i64 (t.k i), .int .i64 (t.v i)]) w := by
  have : i = 0 ∨ i = 1 ∨ i = 2 ∨ i = 3 ∨ i = 4 ∨ i = 5 ∨ i = 6 ∨ i = 7 := by omega
  rcases this with rfl | rfl | rfl | rfl | rfl | rfl | rfl | rfl
  · exact slot_at0 t w
  · exact slot_at1 t w
  · exact slot_at2 t w
  · exact slot_at3 t w
  · exact slot_at4 t w
  · exact slot_at5 t w
  · exact slot_at6 t w
  · exact slot_at7 t w

theorem slots_array : ∃ n e, Tryd.prog.underlying 92 = some (.array n e) := ⟨_, _, Tryd.underlying92⟩
theorem slots_size (t : Tb) : (Tryd.prog.info? 92).map (·.size) = some t.all.length := by rw [t.all_length]; kernel_rfl

/-- How many of the first n slots aren't free. -/
def cnt (t : Tb) : Nat → Nat
  | 0 => 0
  | n + 1 => cnt t n + ind t n
theorem cnt_len (t : Tb) : cnt t 8 = len t := by simp [cnt, len]
theorem cnt_le (t : Tb) : ∀ n, cnt t n ≤ n
  | 0 => Nat.le_refl _
  | n + 1 => by have := cnt_le t n; have := ind_le t n; rw [cnt]; omega

set_option maxHeartbeats 1000000 in
theorem Len_is (t : Tb) (w : World) : Calls Tryd.prog 62 #[.agg t.all.toArray] w fun e w' => e = .returned (.int .i64 (len t : Nat)) ∧ Below w.heap.size w w' := by
  have T0 : Hid (TAt (w.alloc (.cells t.all.toArray 92)) w.heap.size t) := TAt.born w t _
  have B0 : Hid (Below w.heap.size w (w.alloc (.cells t.all.toArray 92))) := new_below w _
  obtain ⟨na, ea, hd⟩ := slots_array
  have HD : Hid _ := hd
  have HS : Hid _ := slots_size t
  have HX : Hid (∀ i : Nat, i < 8 → ∀ w, (Instr.index 92 (.agg t.all.toArray) (.int .i64 (i : Nat))).run Tryd.prog w = .ok (.agg #[.int .i64 (t.k i), .int .i64 (t.v i)]) w) := slot_at t
  have HL : Hid (cnt t 8 = len t) := cnt_len t
  have R : (w.alloc (.cells t.all.toArray 92)).rangeAt w.heap.size 0 t.all := T0.out.range
  clear hd
  generalize t.all = cs at *
  go_enter Tryd.func62, Tryd.ntmps62
  go_wp2_with (refine wpList_load_mid rfl 92 _ rfl _ _ rfl cs _ R HD.out rfl HS.out ?_)
  generalize w.alloc (.cells cs.toArray 92) = W at *
  clear R
  go_loopg [3, 7] 8 (fun gg s3 s7 wt => Hid (Below w.heap.size w wt) ∧ ∃ i : Nat, i ≤ 8 ∧ 8 - i ≤ gg ∧ s7 = .int .i64 i ∧ ∃ c : Nat, c ≤ i ∧ s3 = .int .i64 c ∧ Hid (cnt t i = c))
  case atStart => exact ⟨B0, 0, by omega, by omega, rfl, 0, by omega, rfl, rfl⟩
  case round =>
    obtain ⟨B, i, hi, hgg, rfl, c, hc, rfl, C⟩ := hrel
    clear T0 B0
    by_cases hlt : i < 8
    · have hx := HX.out i hlt
      by_cases h0 : t.k i = 0
      · have C' : Hid (cnt t (i + 1) = c) := by show cnt t i + ind t i = c; rw [C.out]; unfold ind; rw [if_pos h0]; rfl
        rw [h0] at hx
        generalize t.v i = y at hx
        clear h0
        go_wp2_with fail
        refine (free_is 0 y _).mono ?_
        rintro e w2 ⟨rfl, hb2⟩
        have B2 : Hid (Below w.heap.size w w2) := (B.out.alloc B.out.size _).trans (hb2.mono (by have := B.out.size; simp; omega))
        clear hb2 B
        go_wp2
        go_roundg (8 - (i + 1))
        case measure => omega
        case rel => exact ⟨B2, i + 1, by omega, by omega, by go_num, c, by omega, rfl, C'⟩
      · have C' : Hid (cnt t (i + 1) = c + 1) := by show cnt t i + ind t i = c + 1; rw [C.out]; unfold ind; rw [if_neg h0]
        generalize t.k i = x at hx h0
        generalize t.v i = y at hx
        have m0 : (x == 0) = false := by simp [h0]
        clear h0
        go_wp2_with fail
        refine (free_is x y _).mono ?_
        rintro e w2 ⟨rfl, hb2⟩
        have B2 : Hid (Below w.heap.size w w2) := (B.out.alloc B.out.size _).trans (hb2.mono (by have := B.out.size; simp; omega))
        clear hb2 B
        go_wp2
        go_roundg (8 - (i + 1))
        case measure => omega
        case rel => exact ⟨B2, i + 1, by omega, by omega, by go_num, c + 1, by omega, by go_num, C'⟩
    · obtain rfl : i = 8 := by omega
      go_wp2
      go_ret
      exact ⟨by rw [← HL.out, C.out]; rfl, B.out⟩

theorem fits_free (y : Int) (w : World) :
    Calls Tryd.prog 63 #[.agg #[.int .i64 0, .int .i64 y]] w fun e w' => e = .returned (.bool (y == 0)) ∧ Below w.heap.size w w' := by
  go_enter Tryd.func63, Tryd.ntmps63
  go_wp2_with fail
  refine (free_is 0 y _).mono ?_
  rintro e w2 ⟨rfl, hb⟩
  have g1 : w2.cell? ⟨w.heap.size, 1, none⟩ = some (.int .i64 y) := Below.box hb 1 rfl
  have B2 : Hid (Below w.heap.size w w2) := (new_below w _).trans (hb.mono (by simp))
  clear hb
  go_wp2
  go_ret
  exact ⟨rfl, B2.out⟩

set_option maxHeartbeats 1000000 in
theorem fits_key (x y : Int) (hx : x ≠ 0) (w : World) :
    Calls Tryd.prog 63 #[.agg #[.int .i64 x, .int .i64 y]] w fun e w' => e = .returned (.bool (decide (1 ≤ x ∧ x ≤ 1000 ∧ 0 ≤ y ∧ y ≤ 4294967295))) ∧ Below w.heap.size w w' := by
  have m0 : (x == 0) = false := by simp [hx]
  clear hx
  by_cases h0 : 1 ≤ x
  · by_cases h1 : x ≤ 1000
    · by_cases h2 : 0 ≤ y
      · by_cases h3 : y ≤ 4294967295
        · rw [show decide (1 ≤ x ∧ x ≤ 1000 ∧ 0 ≤ y ∧ y ≤ 4294967295) = true by simp [h0, h1, h2, h3]]
          go_enter Tryd.func63, Tryd.ntmps63
          go_wp2_with fail
          refine (free_is x y _).mono ?_
          rintro e w2 ⟨rfl, hb⟩
          have g0 : w2.cell? ⟨w.heap.size, 0, none⟩ = some (.int .i64 x) := Below.box hb 0 rfl
          have g1 : w2.cell? ⟨w.heap.size, 1, none⟩ = some (.int .i64 y) := Below.box hb 1 rfl
          have B2 : Hid (Below w.heap.size w w2) := (new_below w _).trans (hb.mono (by simp))
          clear hb
          go_wp2
          go_ret
          first | exact ⟨rfl, B2.out⟩ | exact ⟨congrArg (fun b => Ending.returned (.bool b)) (decide_eq_false (by omega)), B2.out⟩
        · rw [show decide (1 ≤ x ∧ x ≤ 1000 ∧ 0 ≤ y ∧ y ≤ 4294967295) = false by simp [h3]]
          go_enter Tryd.func63, Tryd.ntmps63
          go_wp2_with fail
          refine (free_is x y _).mono ?_
          rintro e w2 ⟨rfl, hb⟩
          have g0 : w2.cell? ⟨w.heap.size, 0, none⟩ = some (.int .i64 x) := Below.box hb 0 rfl
          have g1 : w2.cell? ⟨w.heap.size, 1, none⟩ = some (.int .i64 y) := Below.box hb 1 rfl
          have B2 : Hid (Below w.heap.size w w2) := (new_below w _).trans (hb.mono (by simp))
          clear hb
          go_wp2
          go_ret
          first | exact ⟨rfl, B2.out⟩ | exact ⟨congrArg (fun b => Ending.returned (.bool b)) (decide_eq_false (by omega)), B2.out⟩
      · rw [show decide (1 ≤ x ∧ x ≤ 1000 ∧ 0 ≤ y ∧ y ≤ 4294967295) = false by simp [h2]]
        go_enter Tryd.func63, Tryd.ntmps63
        go_wp2_with fail
        refine (free_is x y _).mono ?_
        rintro e w2 ⟨rfl, hb⟩
        have g0 : w2.cell? ⟨w.heap.size, 0, none⟩ = some (.int .i64 x) := Below.box hb 0 rfl
        have g1 : w2.cell? ⟨w.heap.size, 1, none⟩ = some (.int .i64 y) := Below.box hb 1 rfl
        have B2 : Hid (Below w.heap.size w w2) := (new_below w _).trans (hb.mono (by simp))
        clear hb
        go_wp2
        go_ret
        first | exact ⟨rfl, B2.out⟩ | exact ⟨congrArg (fun b => Ending.returned (.bool b)) (decide_eq_false (by omega)), B2.out⟩
    · rw [show decide (1 ≤ x ∧ x ≤ 1000 ∧ 0 ≤ y ∧ y ≤ 4294967295) = false by simp [h1]]
      go_enter Tryd.func63, Tryd.ntmps63
      go_wp2_with fail
      refine (free_is x y _).mono ?_
      rintro e w2 ⟨rfl, hb⟩
      have g0 : w2.cell? ⟨w.heap.size, 0, none⟩ = some (.int .i64 x) := Below.box hb 0 rfl
      have g1 : w2.cell? ⟨w.heap.size, 1, none⟩ = some (.int .i64 y) := Below.box hb 1 rfl
      have B2 : Hid (Below w.heap.size w w2) := (new_below w _).trans (hb.mono (by simp))
      clear hb
      go_wp2
      go_ret
      first | exact ⟨rfl, B2.out⟩ | exact ⟨congrArg (fun b => Ending.returned (.bool b)) (decide_eq_false (by omega)), B2.out⟩
  · rw [show decide (1 ≤ x ∧ x ≤ 1000 ∧ 0 ≤ y ∧ y ≤ 4294967295) = false by simp [h0]]
    go_enter Tryd.func63, Tryd.ntmps63
    go_wp2_with fail
    refine (free_is x y _).mono ?_
    rintro e w2 ⟨rfl, hb⟩
    have g0 : w2.cell? ⟨w.heap.size, 0, none⟩ = some (.int .i64 x) := Below.box hb 0 rfl
    have g1 : w2.cell? ⟨w.heap.size, 1, none⟩ = some (.int .i64 y) := Below.box hb 1 rfl
    have B2 : Hid (Below w.heap.size w w2) := (new_below w _).trans (hb.mono (by simp))
    clear hb
    go_wp2
    go_ret
    first | exact ⟨rfl, B2.out⟩ | exact ⟨congrArg (fun b => Ending.returned (.bool b)) (decide_eq_false (by omega)), B2.out⟩

/-- What comes of a slot's test. -/
def fitsF (x y : Int) : Bool := if x = 0 then y == 0 else decide (1 ≤ x ∧ x ≤ 1000 ∧ 0 ≤ y ∧ y ≤ 4294967295)
theorem fits_is (x y : Int) (w : World) :
    Calls Tryd.prog 63 #[.agg #[.int .i64 x, .int .i64 y]] w fun e w' => e = .returned (.bool (fitsF x y)) ∧ Below w.heap.size w w' := by
  unfold fitsF
  by_cases h : x = 0
  · subst h
    exact fits_free y w
  · rw [if_neg h]
    exact fits_key x y h w

theorem range_later {w w' : World} {n o : Nat} {cs : List Value} (h : w.rangeAt n o cs) (hb : Below w.heap.size w w') : w'.rangeAt n o cs := fun j v hv => by
  have c := h j v hv
  rw [hb.cell (World.block_lt_of_cell? w _ c)]; exact c
theorem cell_later {w w' : World} {n o : Nat} {v : Value} (h : w.cell? ⟨n, o, none⟩ = some v) (hb : Below w.heap.size w w') : w'.cell? ⟨n, o, none⟩ = some v := by
  rw [hb.cell (World.block_lt_of_cell? w _ h)]; exact h
theorem below_later {B : Nat} {W w w' : World} (h : Below B W w) (hB : B ≤ W.heap.size) (hb : Below w.heap.size w w') : Below B W w' := h.trans (hb.mono (Nat.le_trans hB h.size))

theorem found_keep {W w w' : World} {b o : Nat} {cs : List Value} {v : Value} (h : w.rangeAt b 0 cs ∧ w.cell? ⟨b, o, none⟩ = some v ∧ Below W.heap.size W w) (hb : Below w.heap.size w w') :
    w'.rangeAt b 0 cs ∧ w'.cell? ⟨b, o, none⟩ = some v ∧ Below W.heap.size W w' := ⟨range_later h.1 hb, cell_later h.2.1 hb, below_later h.2.2 (Nat.le_refl _) hb⟩

end Go.Proofs.YtbmgjpdfmgcigabDoor.Tab
