/- Texts laid together: Package table: Len, fits, found, Right, by their contracts; Package table: found, Right, by their contracts; Package table: byKey, without, by their contracts; Rows of this program's types: package table; Package table: Do, by its contract; Package object: words up to a bound; tallies and lists as words; The library functions that are called, by their contracts off the shelf: laid at this program; The library's Clone at lists of numbers; Package queue, by its contracts; Package queue's Do, by its contract. -/
import Derived.Test.YteogbpaaacmllaaGreatDoorPk00
import Derived.Ground.Names2Prog
import Derived.Shelf.Slices.Clone
import Derived.Test.YteogbpaaacmllaaGreatDoorProg
import Derived.Maps.AppendAt
namespace Go.Proofs.YteogbpaaacmllaaGreatDoor.Tab
set_option maxRecDepth 20000
open Go.RowKit

theorem slot_at0 (t : Tb) (w : World) : (Instr.index 174 (.agg t.all.toArray) (.int .i64 0)).run Tryz.prog w = .ok (.agg #[.int .i64 (t.k 0), .int .i64 (t.v 0)]) w := by kernel_rfl
theorem slot_at1 (t : Tb) (w : World) : (Instr.index 174 (.agg t.all.toArray) (.int .i64 1)).run Tryz.prog w = .ok (.agg #[.int .i64 (t.k 1), .int .i64 (t.v 1)]) w := by kernel_rfl
theorem slot_at2 (t : Tb) (w : World) : (Instr.index 174 (.agg t.all.toArray) (.int .i64 2)).run Tryz.prog w = .ok (.agg #[.int .i64 (t.k 2), .int .i64 (t.v 2)]) w := by kernel_rfl
theorem slot_at3 (t : Tb) (w : World) : (Instr.index 174 (.agg t.all.toArray) (.int .i64 3)).run Tryz.prog w = .ok (.agg #[.int .i64 (t.k 3), .int .i64 (t.v 3)]) w := by kernel_rfl
theorem slot_at4 (t : Tb) (w : World) : (Instr.index 174 (.agg t.all.toArray) (.int .i64 4)).run Tryz.prog w = .ok (.agg #[.int .i64 (t.k 4), .int .i64 (t.v 4)]) w := by kernel_rfl
theorem slot_at5 (t : Tb) (w : World) : (Instr.index 174 (.agg t.all.toArray) (.int .i64 5)).run Tryz.prog w = .ok (.agg #[.int .i64 (t.k 5), .int .i64 (t.v 5)]) w := by kernel_rfl
theorem slot_at6 (t : Tb) (w : World) : (Instr.index 174 (.agg t.all.toArray) (.int .i64 6)).run Tryz.prog w = .ok (.agg #[.int .i64 (t.k 6), .int .i64 (t.v 6)]) w := by kernel_rfl
theorem slot_at7 (t : Tb) (w : World) : (Instr.index 174 (.agg t.all.toArray) (.int .i64 7)).run Tryz.prog w = .ok (.agg #[.int .i64 (t.k 7), .int .i64 (t.v 7)]) w := by kernel_rfl
theorem slot_at (t : Tb) (i : Nat) (hi : i < 8) (w : World) :
    (Instr.index 174 (.agg t.all.toArray) (.int .i64 (i : Nat))).run Tryz.prog w = .ok (.agg #[.int .i64 (t.k i), .int .i64 (t.v i)]) w := by
  have : i = 0 ∨ i = 1 ∨ i = 2 ∨ i = 3 ∨ i = 4 ∨ i = 5 ∨ i = 6 ∨ i = 7 := by omega
  rcases this with rfl | rfl | rfl | rfl | rfl | rfl | rfl | rfl
  · exact slot_at0 t w
  · exact slot_at1 t w
  · exact slot_at2 t w
  · exact slot_at3 t w
  · exact slot_at4 t w
  · exact slot_at5 t w
  · exact slot_at6 t w
  · exact slot_at7 t w

theorem slots_array : ∃ n e, Tryz.prog.underlying 174 = some (.array n e) := ⟨_, _, Tryz.underlying174⟩
theorem slots_size (t : Tb) : (Tryz.prog.info? 174).map (·.size) = some t.all.length := by rw [t.all_length]; kernel_rfl

/-- How many of the first n slots aren't free. -/
def cnt (t : Tb) : Nat → Nat
  | 0 => 0
  | n + 1 => cnt t n + ind t n
theorem cnt_len (t : Tb) : cnt t 8 = len t := by simp [cnt, len]
theorem cnt_le (t : Tb) : ∀ n, cnt t n ≤ n
  | 0 => Nat.le_refl _
  | n + 1 => by have := cnt_le t n; have := ind_le t n; rw [cnt]; omega

set_option maxHeartbeats 1000000 in
theorem Len_is (t : Tb) (w : World) : Calls Tryz.prog 114 #[.agg t.all.toArray] w fun e w' => e = .returned (.int .i64 (len t : Nat)) ∧ Below w.heap.size w w' := by
  have T0 : Hid (TAt (w.alloc (.cells t.all.toArray 174)) w.heap.size t) := TAt.born w t _
  have B0 : Hid (Below w.heap.size w (w.alloc (.cells t.all.toArray 174))) := new_below w _
  obtain ⟨na, ea, hd⟩ := slots_array
  have HD : Hid _ := hd
  have HS : Hid _ := slots_size t
  have HX : Hid (∀ i : Nat, i < 8 → ∀ w, (Instr.index 174 (.agg t.all.toArray) (.int .i64 (i : Nat))).run Tryz.prog w = .ok (.agg #[.int .i64 (t.k i), .int .i64 (t.v i)]) w) := slot_at t
  have HL : Hid (cnt t 8 = len t) := cnt_len t
  have R : (w.alloc (.cells t.all.toArray 174)).rangeAt w.heap.size 0 t.all := T0.out.range
  clear hd
  generalize t.all = cs at *
  go_enter Tryz.func114, Tryz.ntmps114
  go_wp2_with (refine wpList_load_mid rfl 174 _ rfl _ _ rfl cs _ R HD.out rfl HS.out ?_)
  generalize w.alloc (.cells cs.toArray 174) = W at *
  clear R
  go_loopg [3, 7] 8 (fun gg s3 s7 wt => Hid (Below w.heap.size w wt) ∧ ∃ i : Nat, i ≤ 8 ∧ 8 - i ≤ gg ∧ s7 = .int .i64 i ∧ ∃ c : Nat, c ≤ i ∧ s3 = .int .i64 c ∧ Hid (cnt t i = c))
  case atStart => exact ⟨B0, 0, by omega, by omega, rfl, 0, by omega, rfl, rfl⟩
  case round =>
    obtain ⟨B, i, hi, hgg, rfl, c, hc, rfl, C⟩ := hrel
    clear T0 B0
    by_cases hlt : i < 8
    · have hx := HX.out i hlt
      by_cases h0 : t.k i = 0
      · have C' : Hid (cnt t (i + 1) = c) := by show cnt t i + ind t i = c; rw [C.out]; unfold ind; rw [if_pos h0]; rfl
        rw [h0] at hx
        generalize t.v i = y at hx
        clear h0
        go_wp2_with fail
        refine (free_is 0 y _).mono ?_
        rintro e w2 ⟨rfl, hb2⟩
        have B2 : Hid (Below w.heap.size w w2) := (B.out.alloc B.out.size _).trans (hb2.mono (by have := B.out.size; simp; omega))
        clear hb2 B
        go_wp2
        go_roundg (8 - (i + 1))
        case measure => omega
        case rel => exact ⟨B2, i + 1, by omega, by omega, by go_num, c, by omega, rfl, C'⟩
      · have C' : Hid (cnt t (i + 1) = c + 1) := by show cnt t i + ind t i = c + 1; rw [C.out]; unfold ind; rw [if_neg h0]
        generalize t.k i = x at hx h0
        generalize t.v i = y at hx
        have m0 : (x == 0) = false := by simp [h0]
        clear h0
        go_wp2_with fail
        refine (free_is x y _).mono ?_
        rintro e w2 ⟨rfl, hb2⟩
        have B2 : Hid (Below w.heap.size w w2) := (B.out.alloc B.out.size _).trans (hb2.mono (by have := B.out.size; simp; omega))
        clear hb2 B
        go_wp2
        go_roundg (8 - (i + 1))
        case measure => omega
        case rel => exact ⟨B2, i + 1, by omega, by omega, by go_num, c + 1, by omega, by go_num, C'⟩
    · obtain rfl : i = 8 := by omega
      go_wp2
      go_ret
      exact ⟨by rw [← HL.out, C.out]; rfl, B.out⟩

theorem fits_free (y : Int) (w : World) :
    Calls Tryz.prog 115 #[.agg #[.int .i64 0, .int .i64 y]] w fun e w' => e = .returned (.bool (y == 0)) ∧ Below w.heap.size w w' := by
  go_enter Tryz.func115, Tryz.ntmps115
  go_wp2_with fail
  refine (free_is 0 y _).mono ?_
  rintro e w2 ⟨rfl, hb⟩
  have g1 : w2.cell? ⟨w.heap.size, 1, none⟩ = some (.int .i64 y) := Below.box hb 1 rfl
  have B2 : Hid (Below w.heap.size w w2) := (new_below w _).trans (hb.mono (by simp))
  clear hb
  go_wp2
  go_ret
  exact ⟨rfl, B2.out⟩

set_option maxHeartbeats 1000000 in
theorem fits_key (x y : Int) (hx : x ≠ 0) (w : World) :
    Calls Tryz.prog 115 #[.agg #[.int .i64 x, .int .i64 y]] w fun e w' => e = .returned (.bool (decide (1 ≤ x ∧ x ≤ 1000 ∧ 0 ≤ y ∧ y ≤ 4294967295))) ∧ Below w.heap.size w w' := by
  have m0 : (x == 0) = false := by simp [hx]
  clear hx
  by_cases h0 : 1 ≤ x
  · by_cases h1 : x ≤ 1000
    · by_cases h2 : 0 ≤ y
      · by_cases h3 : y ≤ 4294967295
        · rw [show decide (1 ≤ x ∧ x ≤ 1000 ∧ 0 ≤ y ∧ y ≤ 4294967295) = true by simp [h0, h1, h2, h3]]
          go_enter Tryz.func115, Tryz.ntmps115
          go_wp2_with fail
          refine (free_is x y _).mono ?_
          rintro e w2 ⟨rfl, hb⟩
          have g0 : w2.cell? ⟨w.heap.size, 0, none⟩ = some (.int .i64 x) := Below.box hb 0 rfl
          have g1 : w2.cell? ⟨w.heap.size, 1, none⟩ = some (.int .i64 y) := Below.box hb 1 rfl
          have B2 : Hid (Below w.heap.size w w2) := (new_below w _).trans (hb.mono (by simp))
          clear hb
          go_wp2
          go_ret
          first | exact ⟨rfl, B2.out⟩ | exact ⟨congrArg (fun b => Ending.returned (.bool b)) (decide_eq_false (by omega)), B2.out⟩
        · rw [show decide (1 ≤ x ∧ x ≤ 1000 ∧ 0 ≤ y ∧ y ≤ 4294967295) = false by simp [h3]]
          go_enter Tryz.func115, Tryz.ntmps115
          go_wp2_with fail
          refine (free_is x y _).mono ?_
          rintro e w2 ⟨rfl, hb⟩
          have g0 : w2.cell? ⟨w.heap.size, 0, none⟩ = some (.int .i64 x) := Below.box hb 0 rfl
          have g1 : w2.cell? ⟨w.heap.size, 1, none⟩ = some (.int .i64 y) := Below.box hb 1 rfl
          have B2 : Hid (Below w.heap.size w w2) := (new_below w _).trans (hb.mono (by simp))
          clear hb
          go_wp2
          go_ret
          first | exact ⟨rfl, B2.out⟩ | exact ⟨congrArg (fun b => Ending.returned (.bool b)) (decide_eq_false (by omega)), B2.out⟩
      · rw [show decide (1 ≤ x ∧ x ≤ 1000 ∧ 0 ≤ y ∧ y ≤ 4294967295) = false by simp [h2]]
        go_enter Tryz.func115, Tryz.ntmps115
        go_wp2_with fail
        refine (free_is x y _).mono ?_
        rintro e w2 ⟨rfl, hb⟩
        have g0 : w2.cell? ⟨w.heap.size, 0, none⟩ = some (.int .i64 x) := Below.box hb 0 rfl
        have g1 : w2.cell? ⟨w.heap.size, 1, none⟩ = some (.int .i64 y) := Below.box hb 1 rfl
        have B2 : Hid (Below w.heap.size w w2) := (new_below w _).trans (hb.mono (by simp))
        clear hb
        go_wp2
        go_ret
        first | exact ⟨rfl, B2.out⟩ | exact ⟨congrArg (fun b => Ending.returned (.bool b)) (decide_eq_false (by omega)), B2.out⟩
    · rw [show decide (1 ≤ x ∧ x ≤ 1000 ∧ 0 ≤ y ∧ y ≤ 4294967295) = false by simp [h1]]
      go_enter Tryz.func115, Tryz.ntmps115
      go_wp2_with fail
      refine (free_is x y _).mono ?_
      rintro e w2 ⟨rfl, hb⟩
      have g0 : w2.cell? ⟨w.heap.size, 0, none⟩ = some (.int .i64 x) := Below.box hb 0 rfl
      have g1 : w2.cell? ⟨w.heap.size, 1, none⟩ = some (.int .i64 y) := Below.box hb 1 rfl
      have B2 : Hid (Below w.heap.size w w2) := (new_below w _).trans (hb.mono (by simp))
      clear hb
      go_wp2
      go_ret
      first | exact ⟨rfl, B2.out⟩ | exact ⟨congrArg (fun b => Ending.returned (.bool b)) (decide_eq_false (by omega)), B2.out⟩
  · rw [show decide (1 ≤ x ∧ x ≤ 1000 ∧ 0 ≤ y ∧ y ≤ 4294967295) = false by simp [h0]]
    go_enter Tryz.func115, Tryz.ntmps115
    go_wp2_with fail
    refine (free_is x y _).mono ?_
    rintro e w2 ⟨rfl, hb⟩
    have g0 : w2.cell? ⟨w.heap.size, 0, none⟩ = some (.int .i64 x) := Below.box hb 0 rfl
    have g1 : w2.cell? ⟨w.heap.size, 1, none⟩ = some (.int .i64 y) := Below.box hb 1 rfl
    have B2 : Hid (Below w.heap.size w w2) := (new_below w _).trans (hb.mono (by simp))
    clear hb
    go_wp2
    go_ret
    first | exact ⟨rfl, B2.out⟩ | exact ⟨congrArg (fun b => Ending.returned (.bool b)) (decide_eq_false (by omega)), B2.out⟩

/-- What comes of a slot's test. -/
def fitsF (x y : Int) : Bool := if x = 0 then y == 0 else decide (1 ≤ x ∧ x ≤ 1000 ∧ 0 ≤ y ∧ y ≤ 4294967295)
theorem fits_is (x y : Int) (w : World) :
    Calls Tryz.prog 115 #[.agg #[.int .i64 x, .int .i64 y]] w fun e w' => e = .returned (.bool (fitsF x y)) ∧ Below w.heap.size w w' := by
  unfold fitsF
  by_cases h : x = 0
  · subst h
    exact fits_free y w
  · rw [if_neg h]
    exact fits_key x y h w

theorem range_later {w w' : World} {n o : Nat} {cs : List Value} (h : w.rangeAt n o cs) (hb : Below w.heap.size w w') : w'.rangeAt n o cs := fun j v hv => by
  have c := h j v hv
  rw [hb.cell (World.block_lt_of_cell? w _ c)]; exact c
theorem cell_later {w w' : World} {n o : Nat} {v : Value} (h : w.cell? ⟨n, o, none⟩ = some v) (hb : Below w.heap.size w w') : w'.cell? ⟨n, o, none⟩ = some v := by
  rw [hb.cell (World.block_lt_of_cell? w _ h)]; exact h
theorem below_later {B : Nat} {W w w' : World} (h : Below B W w) (hB : B ≤ W.heap.size) (hb : Below w.heap.size w w') : Below B W w' := h.trans (hb.mono (Nat.le_trans hB h.size))

theorem found_keep {W w w' : World} {b o : Nat} {cs : List Value} {v : Value} (h : w.rangeAt b 0 cs ∧ w.cell? ⟨b, o, none⟩ = some v ∧ Below W.heap.size W w) (hb : Below w.heap.size w w') :
    w'.rangeAt b 0 cs ∧ w'.cell? ⟨b, o, none⟩ = some v ∧ Below W.heap.size W w' := ⟨range_later h.1 hb, cell_later h.2.1 hb, below_later h.2.2 (Nat.le_refl _) hb⟩

end Go.Proofs.YteogbpaaacmllaaGreatDoor.Tab
namespace Go.Proofs.YteogbpaaacmllaaGreatDoor.Tab
set_option maxRecDepth 20000
open Go.RowKit

theorem nat_beq (p i : Nat) : ((p : Int) == (i : Int)) = decide (p = i) := by
  by_cases h : p = i
  · simp [h]
  · have : ¬ ((p : Int) = (i : Int)) := by omega
    simp [h, this]

set_option maxHeartbeats 1000000 in
theorem found_is (t : Tb) (i : Nat) (hi : i < 8) (w : World) :
    Calls Tryz.prog 117 #[.agg t.all.toArray, .int .i64 (i : Nat)] w fun e w' => e = .returned (.bool (t.k (place t (t.k i)) == t.k i && decide (place t (t.k i) = i))) ∧ Below w.heap.size w w' := by
  obtain ⟨na, ea, hd⟩ := slots_array
  have HD : Hid _ := hd
  clear hd
  have HS : Hid (∀ t : Tb, (Tryz.prog.info? 174).map (·.size) = some t.all.length) := slots_size
  have hi1 : (i : Int) < 8 := by omega
  have hi0 : (0 : Int) ≤ (i : Int) := by omega
  have HP := place_eq t (t.k i)
  unfold Placed at HP
  generalize (t.k (place t (t.k i)) == t.k i) = has at HP ⊢
  generalize place t (t.k i) = p at HP ⊢
  have g0 : Hid (Gd w.heap.size w (w.alloc (.cells t.all.toArray 174))) := (Gd.refl w).new _
  have t0 : Hid (TAt (w.alloc (.cells t.all.toArray 174)) w.heap.size t) := TAt.born w t _
  go_enter Tryz.func117, Tryz.ntmps117
  go_wp2_with fail
  generalize (w.alloc (.cells t.all.toArray 174)) = W at g0 t0 ⊢
  generalize w.heap.size = n at g0 t0 ⊢
  have h1q : Hid (Gd n w W.drew) := g0.out.drew
  have h2q : Hid (TAt W.drew n t) := t0.out.drew
  clear g0 t0
  refine wp_region_held_drew (S := fun w' => TAt w' n t) (by kernel_rfl) h2q.out (fun hH => ?_)
  generalize W.drew = u3q at h1q h2q hH ⊢
  refine wpAnyH_take (i := 0) (oi := { dst := some 8, op := .load _ (.tmp 2), type := _, pos := _, after := _, guard := _ }) (v := _) rfl (by kernel_rfl) (by kernel_rfl) (by kernel_rfl) (fun _ _ _ h => h) (yieldsIf_load_mid (by rfl) _ _ rfl n _ rfl t.all _ (fun _ h => (h).range) HD.out rfl (HS.out t)) hH ?_
  simp only [Act.put, List.setIfInBounds_toArray, List.set_cons_zero, List.set_cons_succ]
  refine wpAnyH_take (i := 1) (oi := { dst := some 9, op := .move (.tmp 1), type := _, pos := _, after := _, guard := _ }) (v := ?_) rfl (by kernel_rfl) (by kernel_rfl) (by kernel_rfl) (fun _ _ _ h => h) (Or.inl ⟨by rfl, ?_⟩) hH ?_
  rotate_left
  · intro w hSw
    clear hSw
    go_simp
    try with_reducible rfl
  simp only [Act.put, List.setIfInBounds_toArray, List.set_cons_zero, List.set_cons_succ]
  refine wpAnyH_take (i := 2) (oi := { dst := some 10, op := .indexAddr _ (.tmp 2) (.tmp 9), type := _, pos := _, after := _, guard := _ }) (v := ?_) rfl (by kernel_rfl) (by kernel_rfl) (by kernel_rfl) (fun _ _ _ h => h) (Or.inl ⟨by rfl, ?_⟩) hH ?_
  rotate_left
  · intro w hSw
    clear hSw
    go_simp
    try with_reducible rfl
  simp only [Act.put, List.setIfInBounds_toArray, List.set_cons_zero, List.set_cons_succ]
  refine wpAnyH_take (i := 3) (oi := { dst := some 11, op := .fieldAddr _ (.tmp 10) 0, type := _, pos := _, after := _, guard := _ }) (v := ?_) rfl (by kernel_rfl) (by kernel_rfl) (by kernel_rfl) (fun _ _ _ h => h) (Or.inl ⟨by rfl, ?_⟩) hH ?_
  rotate_left
  · intro w hSw
    clear hSw
    go_simp
    try with_reducible rfl
  simp only [Act.put, List.setIfInBounds_toArray, List.set_cons_zero, List.set_cons_succ]
  refine wpAnyH_take (i := 4) (oi := { dst := some 12, op := .load _ (.tmp 11), type := _, pos := _, after := _, guard := _ }) (v := ?_) rfl (by kernel_rfl) (by kernel_rfl) (by kernel_rfl) (fun _ _ _ h => h) (Or.inl ⟨by rfl, ?_⟩) hH ?_
  rotate_left
  · intro w hSw
    have c4q := (hSw).key hi
    clear hSw
    go_simp
    try with_reducible rfl
  simp only [Act.put, List.setIfInBounds_toArray, List.set_cons_zero, List.set_cons_succ]
  refine wpAnyH_ready (rs := [5]) (by kernel_rfl) (by simp) ?_
  refine AllReadyH.cons (o := { dst := some 13, op := _, type := _, pos := _, after := _, guard := _ }) rfl (fun K hK => ?_) AllReadyH.nil
  go_simp
  refine (HP _).mono ?_
  rintro e u5q ⟨rfl, hb⟩
  have h6q : Hid (Gd n w u5q) := h1q.out.later hb
  have h7q : Hid (TAt u5q n t) := h2q.out.later hb
  clear h1q h2q
  clear hb
  go_wp2_with fail
  refine hK.out _ _ h7q.out (fun hH => ?_)
  clear hK K
  try simp only [Act.put, List.setIfInBounds_toArray, List.set_cons_zero, List.set_cons_succ]
  refine wpAnyH_take (i := 6) (oi := { dst := some 7, op := .move (.tmp 13), type := _, pos := _, after := _, guard := _ }) (v := ?_) rfl (by kernel_rfl) (by kernel_rfl) (by kernel_rfl) (fun _ _ _ h => h) (Or.inl ⟨by rfl, ?_⟩) hH ?_
  rotate_left
  · intro w hSw
    clear hSw
    go_simp
    try with_reducible rfl
  simp only [Act.put, List.setIfInBounds_toArray, List.set_cons_zero, List.set_cons_succ]
  refine wpAnyH_take (i := 7) (oi := { dst := some 14, op := .extract (.tmp 7) 0, type := _, pos := _, after := _, guard := _ }) (v := ?_) rfl (by kernel_rfl) (by kernel_rfl) (by kernel_rfl) (fun _ _ _ h => h) (Or.inl ⟨by rfl, ?_⟩) hH ?_
  rotate_left
  · intro w hSw
    clear hSw
    go_simp
    try with_reducible rfl
  simp only [Act.put, List.setIfInBounds_toArray, List.set_cons_zero, List.set_cons_succ]
  refine wpAnyH_take (i := 8) (oi := { dst := some 15, op := .extract (.tmp 7) 1, type := _, pos := _, after := _, guard := _ }) (v := ?_) rfl (by kernel_rfl) (by kernel_rfl) (by kernel_rfl) (fun _ _ _ h => h) (Or.inl ⟨by rfl, ?_⟩) hH ?_
  rotate_left
  · intro w hSw
    clear hSw
    go_simp
    try with_reducible rfl
  simp only [Act.put, List.setIfInBounds_toArray, List.set_cons_zero, List.set_cons_succ]
  refine wpAnyH_take (i := 9) (oi := { dst := some 5, op := .assign (.tmp 14), type := _, pos := _, after := _, guard := _ }) (v := ?_) rfl (by kernel_rfl) (by kernel_rfl) (by kernel_rfl) (fun _ _ _ h => h) (Or.inl ⟨by rfl, ?_⟩) hH ?_
  rotate_left
  · intro w hSw
    clear hSw
    go_simp
    try with_reducible rfl
  simp only [Act.put, List.setIfInBounds_toArray, List.set_cons_zero, List.set_cons_succ]
  refine wpAnyH_take (i := 10) (oi := { dst := some 6, op := .assign (.tmp 15), type := _, pos := _, after := _, guard := _ }) (v := ?_) rfl (by kernel_rfl) (by kernel_rfl) (by kernel_rfl) (fun _ _ _ h => h) (Or.inl ⟨by rfl, ?_⟩) hH ?_
  rotate_left
  · intro w hSw
    clear hSw
    go_simp
    try with_reducible rfl
  simp only [Act.put, List.setIfInBounds_toArray, List.set_cons_zero, List.set_cons_succ]
  refine wpAnyH_done (by kernel_rfl) ?_ _
  go_wp2
  all_goals go_ret
  all_goals refine ⟨?_, h6q.out.2⟩
  · have e : has = true := by cases has <;> simp_all
    subst e
    exact congrArg (fun b => Ending.returned (.bool b)) (by rw [Bool.true_and]; exact nat_beq p i)
  · have e : has = false := by cases has <;> simp_all
    subst e; rfl

/-- A slot as it may be. -/
def good (t : Tb) (i : Nat) : Prop := fitsF (t.k i) (t.v i) = true ∧ (t.k i ≠ 0 → place t (t.k i) = i)
theorem RT.goodAt {t : Tb} (h : RT t) {i : Nat} (hi : i < 8) : good t i := by
  refine ⟨?_, fun hk => h.found hi hk⟩
  unfold fitsF
  by_cases hk : t.k i = 0
  · rw [if_pos hk, h.none i hi hk]; rfl
  · have h1 := h.keys i hi
    have h2 := h.vals i hi
    rw [if_neg hk]
    simp only [decide_eq_true_eq]
    omega
theorem RT.of_good {t : Tb} (hl : len t ≤ 6) (h : ∀ i, i < 8 → good t i) : RT t := by
  have hf : ∀ i, i < 8 → (0 ≤ t.k i ∧ t.k i ≤ 1000) ∧ (0 ≤ t.v i ∧ t.v i ≤ 4294967295) ∧ (t.k i = 0 → t.v i = 0) := fun i hi => by
    have := (h i hi).1
    unfold fitsF at this
    by_cases hk : t.k i = 0
    · rw [if_pos hk] at this
      have e : t.v i = 0 := by simpa using this
      rw [hk, e]
      exact ⟨by omega, by omega, fun _ => rfl⟩
    · rw [if_neg hk] at this
      simp only [decide_eq_true_eq] at this
      exact ⟨by omega, by omega, fun e => absurd e hk⟩
  exact RT.of_found (fun i hi => (hf i hi).1) (fun i hi => (hf i hi).2.1) (fun i hi => (hf i hi).2.2) (fun i hi => (h i hi).2) hl

/-- A load under a guard that is met. -/
theorem wpList_load_wanted {P : Program} {ops : Array Oper} {rest : List Oper} {op : Oper} {a : Act} {w : World} {Q : Exit → Act → World → Prop} (hw : Region.wanted op (yielded ops a.tmps) = true) (ty : TypeId) (x : Operand) (ho : op.op = .load ty x)
    (b o : Nat) (hx : a.eval x = .pointer (some ⟨b, o, none⟩)) (cs : List Value) (d : TypeDesc) (hc : w.rangeAt b o cs)
    (hu : P.underlying ty = some d) (hd : d.isRow = true) (hi : (P.info? ty).map (·.size) = some cs.length)
    (h : wpList P ops Q rest (a.put op.dst (.agg cs.toArray)) w) : wpList P ops Q (op :: rest) a w := by
  simp only [wpList, hw, if_true]
  exact .inl (wp_load_mid ty x ho b o hx cs d hc hu hd hi h)

set_option maxHeartbeats 2000000 in
theorem Right_is (t : Tb) (b : Bool) (hb : b = true ↔ RT t) (w : World) :
    Calls Tryz.prog 102 #[.agg t.all.toArray] w fun e w' => e = .returned (.bool b) ∧ Below w.heap.size w w' := by
  obtain ⟨na, ea, hd⟩ := slots_array
  have HD : Hid _ := hd
  clear hd
  have HS : Hid (∀ t : Tb, (Tryz.prog.info? 174).map (·.size) = some t.all.length) := slots_size
  have HB : Hid (b = true ↔ RT t) := hb
  have HL := Len_is t
  have HX : Hid _ := slot_at t
  have HLL : Hid (len t ≤ 8) := len_le t
  have LE : Hid (∃ l, len t = l) := ⟨_, rfl⟩
  clear hb
  have g0 : Hid (Gd w.heap.size w (w.alloc (.cells t.all.toArray 174))) := (Gd.refl w).new _
  have t0 : Hid (TAt (w.alloc (.cells t.all.toArray 174)) w.heap.size t) := TAt.born w t _
  go_enter Tryz.func102, Tryz.ntmps102
  go_wp2_with (refine wpList_load_mid rfl 174 _ rfl _ _ rfl t.all _ t0.out.range HD.out rfl (HS.out t) ?_)
  refine (HL _).mono ?_
  rintro e w1 ⟨rfl, hb1⟩
  have g1 := g0.out.later hb1
  have t1 : Hid (TAt w1 w.heap.size t) := t0.out.later hb1
  have G1 : Hid (Gd w.heap.size w w1) := g1
  clear hb1 g0 t0 g1
  obtain ⟨l, hl⟩ := LE.out
  have HL2 : Hid (len t = l) := hl
  have hl8 : l ≤ 8 := hl ▸ HLL.out
  rw [hl]
  clear hl HL
  by_cases h6 : 6 < l
  · have h6' : (6 : Int) < (l : Int) := by omega
    have e : b = false := by
      cases b with
      | false => rfl
      | true => have := (HB.out.1 rfl).room; have := HL2.out; omega
    subst e
    go_wp2
    go_ret
    exact ⟨rfl, G1.out.2⟩
  have h6' : ¬ (6 : Int) < (l : Int) := by omega
  have L6 : Hid (len t ≤ 6) := by have := HL2.out; show len t ≤ 6; omega
  go_wp2_with (refine wpList_load_mid rfl 174 _ rfl _ _ rfl t.all _ t1.out.range HD.out rfl (HS.out t) ?_)
  generalize w.heap.size = n at t1 G1 ⊢
  have HNN : Hid (n = w.heap.size) := G1.out.1.symm
  go_loopg [9] 8 (fun gg s9 wt => Hid (TAt wt n t) ∧ Hid (Gd n w wt) ∧ ∃ i : Nat, i ≤ 8 ∧ 8 - i ≤ gg ∧ s9 = .int .i64 i ∧ Hid (∀ j, j < i → good t j))
  case atStart => exact ⟨t1, G1, 0, by omega, by omega, rfl, fun j hj => absurd hj (Nat.not_lt_zero _)⟩
  case round =>
    obtain ⟨T, G, i, hi, hgg, rfl, D⟩ := hrel
    clear t1 G1
    by_cases hlt : i < 8
    · have hx := HX.out i hlt
      by_cases hgd : good t i
      · have GD : Hid (good t i) := hgd
        have D' : Hid (∀ j, j < i + 1 → good t j) := fun j hj => by
          by_cases e : j = i
          · subst e; exact hgd
          · exact D.out j (by omega)
        have F := fits_is (t.k i) (t.v i)
        rw [hgd.1] at F
        by_cases hk : t.k i = 0
        · have m0 : (t.k i == 0) = true := by simp [hk]
          have R := free_is (t.k i) (t.v i)
          rw [m0] at R
          generalize t.k i = x at *
          generalize t.v i = y at *
          clear hk hgd m0
          go_wp2_with fail
          refine (F _).mono ?_
          rintro e w2 ⟨rfl, hb2⟩
          have T3 : Hid (TAt w2 n t) := (T.out.new (.cells #[.int .i64 x, .int .i64 y] 172)).later hb2
          have G3 : Hid (Gd n w w2) := (G.out.new (.cells #[.int .i64 x, .int .i64 y] 172)).later hb2
          have c0 : w2.cell? ⟨wr.heap.size, 0, none⟩ = some (.int .i64 x) := Below.box hb2 0 rfl
          have c1 : w2.cell? ⟨wr.heap.size, 1, none⟩ = some (.int .i64 y) := Below.box hb2 1 rfl
          clear hb2
          go_wp2_with fail
          refine (R _).mono ?_
          rintro e w3 ⟨rfl, hb3⟩
          have T4 : Hid (TAt w3 n t) := T3.out.later hb3
          have G4 : Hid (Gd n w w3) := G3.out.later hb3
          clear hb3 c0 c1
          go_wp2
          go_roundg (8 - (i + 1))
          case measure => omega
          case rel => exact ⟨T4, G4, i + 1, by omega, by omega, by go_num, D'⟩
        · have m0 : (t.k i == 0) = false := by simp [hk]
          have R := free_is (t.k i) (t.v i)
          rw [m0] at R
          have U := found_is t i hlt
          rw [show (t.k (place t (t.k i)) == t.k i && decide (place t (t.k i) = i)) = true by rw [hgd.2 hk]; simp] at U
          generalize t.k i = x at *
          generalize t.v i = y at *
          clear hk hgd m0
          go_wp2_with fail
          refine (F _).mono ?_
          rintro e w2 ⟨rfl, hb2⟩
          have T3 : Hid (TAt w2 n t) := (T.out.new (.cells #[.int .i64 x, .int .i64 y] 172)).later hb2
          have G3 : Hid (Gd n w w2) := (G.out.new (.cells #[.int .i64 x, .int .i64 y] 172)).later hb2
          have c0 : w2.cell? ⟨wr.heap.size, 0, none⟩ = some (.int .i64 x) := Below.box hb2 0 rfl
          have c1 : w2.cell? ⟨wr.heap.size, 1, none⟩ = some (.int .i64 y) := Below.box hb2 1 rfl
          clear hb2
          go_wp2_with fail
          refine (R _).mono ?_
          rintro e w3 ⟨rfl, hb3⟩
          have T4 : Hid (TAt w3 n t) := T3.out.later hb3
          have G4 : Hid (Gd n w w3) := G3.out.later hb3
          clear hb3 c0 c1
          go_wp2_with (refine wpList_load_wanted (by rfl) 174 _ rfl n _ rfl t.all _ T4.out.range HD.out rfl (HS.out t) ?_)
          refine (U _).mono ?_
          rintro e w4 ⟨rfl, hb4⟩
          have T5 : Hid (TAt w4 n t) := T4.out.later hb4
          have G5 : Hid (Gd n w w4) := G4.out.later hb4
          clear hb4
          go_wp2
          go_roundg (8 - (i + 1))
          case measure => omega
          case rel => exact ⟨T5, G5, i + 1, by omega, by omega, by go_num, D'⟩
      · have e : b = false := by
          cases b with
          | false => rfl
          | true => exact absurd ((HB.out.1 rfl).goodAt hlt) hgd
        subst e
        have F := fits_is (t.k i) (t.v i)
        by_cases hf : fitsF (t.k i) (t.v i) = true
        · rw [hf] at F
          have hk : t.k i ≠ 0 := fun hk => hgd ⟨hf, fun h => absurd hk h⟩
          have hp : place t (t.k i) ≠ i := fun hp => hgd ⟨hf, fun _ => hp⟩
          have m0 : (t.k i == 0) = false := by simp [hk]
          have R := free_is (t.k i) (t.v i)
          rw [m0] at R
          have U := found_is t i hlt
          rw [show (t.k (place t (t.k i)) == t.k i && decide (place t (t.k i) = i)) = false by simp [hp]] at U
          generalize t.k i = x at *
          generalize t.v i = y at *
          clear hk hgd m0 hp hf
          go_wp2_with fail
          refine (F _).mono ?_
          rintro e w2 ⟨rfl, hb2⟩
          have T3 : Hid (TAt w2 n t) := (T.out.new (.cells #[.int .i64 x, .int .i64 y] 172)).later hb2
          have G3 : Hid (Gd n w w2) := (G.out.new (.cells #[.int .i64 x, .int .i64 y] 172)).later hb2
          have c0 : w2.cell? ⟨wr.heap.size, 0, none⟩ = some (.int .i64 x) := Below.box hb2 0 rfl
          have c1 : w2.cell? ⟨wr.heap.size, 1, none⟩ = some (.int .i64 y) := Below.box hb2 1 rfl
          clear hb2
          go_wp2_with fail
          refine (R _).mono ?_
          rintro e w3 ⟨rfl, hb3⟩
          have T4 : Hid (TAt w3 n t) := T3.out.later hb3
          have G4 : Hid (Gd n w w3) := G3.out.later hb3
          clear hb3 c0 c1
          go_wp2_with (refine wpList_load_wanted (by rfl) 174 _ rfl n _ rfl t.all _ T4.out.range HD.out rfl (HS.out t) ?_)
          refine (U _).mono ?_
          rintro e w4 ⟨rfl, hb4⟩
          have T5 : Hid (TAt w4 n t) := T4.out.later hb4
          have G5 : Hid (Gd n w w4) := G4.out.later hb4
          clear hb4
          go_wp2
          go_ret
          exact ⟨rfl, G5.out.2⟩
        · rw [show fitsF (t.k i) (t.v i) = false by simpa using hf] at F
          generalize t.k i = x at *
          generalize t.v i = y at *
          clear hgd hf
          go_wp2_with fail
          refine (F _).mono ?_
          rintro e w2 ⟨rfl, hb2⟩
          have T3 : Hid (TAt w2 n t) := (T.out.new (.cells #[.int .i64 x, .int .i64 y] 172)).later hb2
          have G3 : Hid (Gd n w w2) := (G.out.new (.cells #[.int .i64 x, .int .i64 y] 172)).later hb2
          clear hb2
          go_wp2
          go_ret
          exact ⟨rfl, G3.out.2⟩
    · obtain rfl : i = 8 := by omega
      have e : b = true := HB.out.2 (RT.of_good L6.out D.out)
      subst e
      go_wp2
      go_ret
      exact ⟨rfl, G.out.2⟩
end Go.Proofs.YteogbpaaacmllaaGreatDoor.Tab
namespace Go.Proofs.YteogbpaaacmllaaGreatDoor.Tab
set_option maxRecDepth 20000
open Go.RowKit

theorem slots_size2 (t : Tb) : (Tryz.prog.info? 174).map (·.size) = some t.all.toArray.size := by rw [List.size_toArray]; exact slots_size t
theorem slot_size : (Tryz.prog.info? 172).map (·.size) = some 2 := by kernel_rfl
set_option maxHeartbeats 1000000 in
theorem byKey_is (o k x : Int) (w : World) :
    Calls Tryz.prog 133 #[.agg #[.int .i64 o, .int .i64 k, .int .i64 x]] w fun e w' => e = .returned (.bool (decide (byKey o k))) ∧ Below w.heap.size w w' := by
  have fin : ∀ q, o = q → (q = 1 ∨ q = 2 ∨ q = 5) → Calls Tryz.prog 133 #[.agg #[.int .i64 o, .int .i64 k, .int .i64 x]] w fun e w' => e = .returned (.bool (decide (byKey o k))) ∧ Below w.heap.size w w' := by
    intro q e hq
    subst e
    have B : Hid (byKey o k ↔ 1 ≤ k ∧ k ≤ 1000) := ⟨fun h => h.2, fun h => ⟨hq, h⟩⟩
    by_cases h1 : 1 ≤ k
    · by_cases h2 : k ≤ 1000
      · rw [show decide (byKey o k) = true by first | exact decide_eq_true (B.out.2 ⟨h1, h2⟩) | exact decide_eq_false (fun h => by have := B.out.1 h; omega)]
        clear B
        rcases hq with rfl | rfl | rfl
        all_goals (
          go_enter Tryz.func133, Tryz.ntmps133
          go_wp2
          go_ret
          first | exact ⟨rfl, new_below _ _⟩ | exact ⟨congrArg (fun b => Ending.returned (.bool b)) (decide_eq_false (by omega)), new_below _ _⟩)
      · rw [show decide (byKey o k) = false by first | exact decide_eq_true (B.out.2 ⟨h1, h2⟩) | exact decide_eq_false (fun h => by have := B.out.1 h; omega)]
        clear B
        rcases hq with rfl | rfl | rfl
        all_goals (
          go_enter Tryz.func133, Tryz.ntmps133
          go_wp2
          go_ret
          first | exact ⟨rfl, new_below _ _⟩ | exact ⟨congrArg (fun b => Ending.returned (.bool b)) (decide_eq_false (by omega)), new_below _ _⟩)
    · rw [show decide (byKey o k) = false by first | exact decide_eq_true (B.out.2 ⟨h1, h2⟩) | exact decide_eq_false (fun h => by have := B.out.1 h; omega)]
      clear B
      rcases hq with rfl | rfl | rfl
      all_goals (
        go_enter Tryz.func133, Tryz.ntmps133
        go_wp2
        go_ret
        first | exact ⟨rfl, new_below _ _⟩ | exact ⟨congrArg (fun b => Ending.returned (.bool b)) (decide_eq_false (by omega)), new_below _ _⟩)
  by_cases o1 : o = 1
  · exact fin 1 o1 (Or.inl rfl)
  by_cases o2 : o = 2
  · exact fin 2 o2 (Or.inr (Or.inl rfl))
  by_cases o5 : o = 5
  · exact fin 5 o5 (Or.inr (Or.inr rfl))
  clear fin
  rw [show decide (byKey o k) = false by exact decide_eq_false (fun h => by rcases h.1 with e | e | e <;> contradiction)]
  have m1 : (o == 1) = false := by simp [o1]
  have m2 : (o == 2) = false := by simp [o2]
  have m5 : (o == 5) = false := by simp [o5]
  clear o1 o2 o5
  go_enter Tryz.func133, Tryz.ntmps133
  go_wp2
  go_ret
  exact ⟨rfl, new_below _ _⟩

set_option maxHeartbeats 2000000 in
theorem without_is (t : Tb) (p : Nat) (hp : p < 8) (w : World) :
    Calls Tryz.prog 134 #[.agg t.all.toArray, .int .i64 (p : Nat)] w fun e w' => e = .returned (.agg (without t p).all.toArray) ∧ Below w.heap.size w w' := by
  obtain ⟨na, ea, hd⟩ := slots_array
  have HD : Hid _ := hd
  clear hd
  have HS : Hid (∀ t : Tb, (Tryz.prog.info? 174).map (·.size) = some t.all.length) := slots_size
  have HZ : Hid (∀ t : Tb, (Tryz.prog.info? 174).map (·.size) = some t.all.toArray.size) := slots_size2
  have HT : Hid ((Tryz.prog.info? 172).map (·.size) = some 2) := slot_size
  have hp1 : (p : Int) < 8 := by omega
  have hp0 : (0 : Int) ≤ (p : Int) := by omega
  have g0 : Hid (Gd w.heap.size w ((w.alloc (.cells t.all.toArray 174)).alloc (.cells #[.int .i64 0, .int .i64 0, .int .i64 0, .int .i64 0, .int .i64 0, .int .i64 0, .int .i64 0, .int .i64 0, .int .i64 0, .int .i64 0, .int .i64 0, .int .i64 0, .int .i64 0, .int .i64 0, .int .i64 0, .int .i64 0] 174))) := ((Gd.refl w).new _).new _
  have t0 : Hid (TAt ((w.alloc (.cells t.all.toArray 174)).alloc (.cells #[.int .i64 0, .int .i64 0, .int .i64 0, .int .i64 0, .int .i64 0, .int .i64 0, .int .i64 0, .int .i64 0, .int .i64 0, .int .i64 0, .int .i64 0, .int .i64 0, .int .i64 0, .int .i64 0, .int .i64 0, .int .i64 0] 174)) w.heap.size t) := (TAt.born w t _).new _
  have z0 : Hid (TAt ((w.alloc (.cells t.all.toArray 174)).alloc (.cells #[.int .i64 0, .int .i64 0, .int .i64 0, .int .i64 0, .int .i64 0, .int .i64 0, .int .i64 0, .int .i64 0, .int .i64 0, .int .i64 0, .int .i64 0, .int .i64 0, .int .i64 0, .int .i64 0, .int .i64 0, .int .i64 0] 174)) (w.heap.size + 1) Tb.zero) := TAt.bornZero _ _ (by simp)
  generalize hn : w.heap.size = n at g0 t0 z0
  go_enter Tryz.func134, Tryz.ntmps134
  skip
  go_wp2_with (first
    | (refine wpList_store_mid rfl 172 _ _ rfl n _ #[.int .i64 (0), .int .i64 (0)] rfl rfl (t0.out.thereS hp) HT.out (two_one _ _) ?_
       have h1q : Hid (Gd n w (((w.alloc (.cells t.all.toArray 174)).alloc (.cells #[.int .i64 0, .int .i64 0, .int .i64 0, .int .i64 0, .int .i64 0, .int .i64 0, .int .i64 0, .int .i64 0, .int .i64 0, .int .i64 0, .int .i64 0, .int .i64 0, .int .i64 0, .int .i64 0, .int .i64 0, .int .i64 0] 174)).setCells n (p * 2) [.int .i64 (0), .int .i64 (0)])) := g0.out.asideL (by omega) (p * 2) [.int .i64 (0), .int .i64 (0)]
       have h2q : Hid (TAt (((w.alloc (.cells t.all.toArray 174)).alloc (.cells #[.int .i64 0, .int .i64 0, .int .i64 0, .int .i64 0, .int .i64 0, .int .i64 0, .int .i64 0, .int .i64 0, .int .i64 0, .int .i64 0, .int .i64 0, .int .i64 0, .int .i64 0, .int .i64 0, .int .i64 0, .int .i64 0] 174)).setCells n (p * 2) [.int .i64 (0), .int .i64 (0)]) n (t.set p 0 0)) := t0.out.slot hp (0) (0)
       have h3q : Hid (TAt (((w.alloc (.cells t.all.toArray 174)).alloc (.cells #[.int .i64 0, .int .i64 0, .int .i64 0, .int .i64 0, .int .i64 0, .int .i64 0, .int .i64 0, .int .i64 0, .int .i64 0, .int .i64 0, .int .i64 0, .int .i64 0, .int .i64 0, .int .i64 0, .int .i64 0, .int .i64 0] 174)).setCells n (p * 2) [.int .i64 (0), .int .i64 (0)]) (n + 1) Tb.zero) := z0.out.asideL (by omega) (p * 2) [.int .i64 (0), .int .i64 (0)]
       clear g0 t0 z0
       generalize (((w.alloc (.cells t.all.toArray 174)).alloc (.cells #[.int .i64 0, .int .i64 0, .int .i64 0, .int .i64 0, .int .i64 0, .int .i64 0, .int .i64 0, .int .i64 0, .int .i64 0, .int .i64 0, .int .i64 0, .int .i64 0, .int .i64 0, .int .i64 0, .int .i64 0, .int .i64 0] 174)).setCells n (p * 2) [.int .i64 (0), .int .i64 (0)]) = u4q at h1q h2q h3q  ⊢))
  have HN : Hid (w.heap.size = n) := hn
  clear hn
  go_loopg [1, 11] 7 (fun gg s1 s11 wt => ∃ i : Nat, i ≤ 7 ∧ 7 - i ≤ gg ∧ s11 = .int .i64 i ∧ ∃ q : Nat, q < 8 ∧ s1 = .int .i64 q ∧ ∃ u : Tb, Hid (TAt wt n u) ∧ Hid (TAt wt (n + 1) Tb.zero) ∧ Hid (Gd n w wt) ∧ Hid (woF (7 - i) u q = without t p))
  case atStart => exact ⟨0, by omega, by omega, rfl, p, hp, rfl, t.set p 0 0, h2q, h3q, h1q, rfl⟩
  case round =>
    obtain ⟨i, hi, hgg, rfl, q, hq, rfl, u, T, Z, G, D⟩ := hrel
    clear h2q h3q h1q
    by_cases hlt : i < 7
    · obtain ⟨r, hre⟩ : ∃ r, r = (q + 1) % 8 := ⟨_, rfl⟩
      have er : ((q : Int) + 1) % 8 = (r : Int) := by omega
      have hr : r < 8 := by omega
      have hr1 : (r : Int) < 8 := by omega
      have hr0 : (0 : Int) ≤ (r : Int) := by omega
      have ER : Hid (r = (q + 1) % 8) := hre
      have hi7 : (i : Int) < 7 := by omega
      clear hre
      have c0 := T.out.key hr
      have c1 := T.out.val hr
      have D1 : Hid ((if u.k r = 0 then u else woF (7 - (i + 1)) (anew u r) r) = without t p) := by
        have := D.out
        rw [show 7 - i = (7 - (i + 1)) + 1 by omega, woF, ← ER.out] at this
        exact this
      clear D
      obtain ⟨x, hx⟩ : ∃ x, u.k r = x := ⟨_, rfl⟩
      obtain ⟨y, hy⟩ : ∃ y, u.v r = y := ⟨_, rfl⟩
      have X : Hid (u.k r = x) := hx
      have Y : Hid (u.v r = y) := hy
      rw [hx] at c0
      rw [hy] at c1
      clear hx hy
      by_cases h0 : x = 0
      · have E : Hid (without t p = u) := by
          have := D1.out
          rw [X.out, if_pos h0] at this
          exact this.symm
        have m0 : (x == 0) = true := by simp [h0]
        clear h0
        go_wp2_with fail
        refine (free_is x y _).mono ?_
        rintro e u5q ⟨rfl, hb⟩
        have h6q : Hid (Gd n w u5q) := G.out.later hb
        have h7q : Hid (TAt u5q n u) := T.out.later hb
        have h8q : Hid (TAt u5q (n + 1) Tb.zero) := Z.out.later hb
        clear G T Z
        clear hb
        clear c0 c1
        go_wp2_with (first
          | (refine wpList_load_mid rfl 174 _ rfl n _ rfl u.all _ h7q.out.range HD.out rfl (HS.out u) ?_)
          | (refine wpList_store_mid rfl 174 _ _ rfl (n + 1) _ u.all.toArray rfl rfl (h8q.out.thereOf u) (HZ.out u) (u.all_all) ?_
             have h9q : Hid (Gd n w (u5q.setCells (n + 1) 0 u.all)) := h6q.out.asideAll (by omega) u
             have h10q : Hid (TAt (u5q.setCells (n + 1) 0 u.all) n u) := h7q.out.asideAll (by omega) u
             have h11q : Hid (TAt (u5q.setCells (n + 1) 0 u.all) (n + 1) u) := h8q.out.setAll u
             clear h6q h7q h8q
             generalize (u5q.setCells (n + 1) 0 u.all) = u12q at h9q h10q h11q  ⊢))
        refine bodyPost_ret (results_row Tryz.results134 _ _ (n + 1) u.all _ rfl h11q.out.range HD.out rfl (HS.out u)) rfl ⟨?_, h9q.out.low⟩
        rw [E.out]
      · have E : Hid (woF (7 - (i + 1)) (anew u r) r = without t p) := by
          have := D1.out
          rw [X.out, if_neg h0] at this
          exact this
        have m0 : (x == 0) = false := by simp [h0]
        clear h0
        go_wp2_with fail
        refine (free_is x y _).mono ?_
        rintro e u13q ⟨rfl, hb⟩
        have h14q : Hid (Gd n w u13q) := G.out.later hb
        have h15q : Hid (TAt u13q n u) := T.out.later hb
        have h16q : Hid (TAt u13q (n + 1) Tb.zero) := Z.out.later hb
        clear G T Z
        clear hb
        clear c0 c1
        have c2 := h15q.out.key hr
        have c3 := h15q.out.val hr
        rw [X.out] at c2
        rw [Y.out] at c3
        have hle : n + 2 ≤ u13q.heap.size := by have := h16q.out.lt; omega
        have h17q : Hid (Gd n w (u13q.alloc (.cells #[.int .i64 x, .int .i64 y] 172))) := h14q.out.new (.cells #[.int .i64 x, .int .i64 y] 172)
        have h18q : Hid (TAt (u13q.alloc (.cells #[.int .i64 x, .int .i64 y] 172)) n u) := h15q.out.new (.cells #[.int .i64 x, .int .i64 y] 172)
        have h19q : Hid (TAt (u13q.alloc (.cells #[.int .i64 x, .int .i64 y] 172)) (n + 1) Tb.zero) := h16q.out.new (.cells #[.int .i64 x, .int .i64 y] 172)
        clear h14q h15q h16q
        have h20q : Hid (Bo (u13q.alloc (.cells #[.int .i64 x, .int .i64 y] 172)) u13q.heap.size [.int .i64 x, .int .i64 y]) := Bo.born u13q [.int .i64 x, .int .i64 y] _ rfl
        go_wp2_with (first
          | (refine wpList_store_mid rfl 172 _ _ rfl n _ #[.int .i64 (0), .int .i64 (0)] rfl rfl (h18q.out.thereS hr) HT.out (two_one _ _) ?_
             have h21q : Hid (Gd n w ((u13q.alloc (.cells #[.int .i64 x, .int .i64 y] 172)).setCells n (r * 2) [.int .i64 (0), .int .i64 (0)])) := h17q.out.asideL (by omega) (r * 2) [.int .i64 (0), .int .i64 (0)]
             have h22q : Hid (TAt ((u13q.alloc (.cells #[.int .i64 x, .int .i64 y] 172)).setCells n (r * 2) [.int .i64 (0), .int .i64 (0)]) n (u.set r 0 0)) := h18q.out.slot hr (0) (0)
             have h23q : Hid (TAt ((u13q.alloc (.cells #[.int .i64 x, .int .i64 y] 172)).setCells n (r * 2) [.int .i64 (0), .int .i64 (0)]) (n + 1) Tb.zero) := h19q.out.asideL (by omega) (r * 2) [.int .i64 (0), .int .i64 (0)]
             have h24q : Hid (Bo ((u13q.alloc (.cells #[.int .i64 x, .int .i64 y] 172)).setCells n (r * 2) [.int .i64 (0), .int .i64 (0)]) u13q.heap.size [.int .i64 x, .int .i64 y]) := h20q.out.asideL (by omega) (r * 2) [.int .i64 (0), .int .i64 (0)]
             clear h17q h18q h19q h20q
             generalize ((u13q.alloc (.cells #[.int .i64 x, .int .i64 y] 172)).setCells n (r * 2) [.int .i64 (0), .int .i64 (0)]) = u25q at h21q h22q h23q h24q  ⊢
             have c4 := h24q.out.at 0 rfl)
          | (refine wpList_load_mid rfl 174 _ rfl n _ rfl (u.set r 0 0).all _ h22q.out.range HD.out rfl (HS.out (u.set r 0 0)) ?_))
        obtain ⟨a, ha⟩ : ∃ a, place (u.set r 0 0) x = a := ⟨_, rfl⟩
        have PL := place_eq (u.set r 0 0) x
        unfold Placed at PL
        have ha8 : a < 8 := ha ▸ place_lt _ _
        have A : Hid (place (u.set r 0 0) x = a) := ha
        rw [ha] at PL
        clear ha
        generalize ((u.set r 0 0).k a == x) = has at PL
        have ha1 : (a : Int) < 8 := by omega
        have ha0 : (0 : Int) ≤ (a : Int) := by omega
        refine (PL _).mono ?_
        rintro e u26q ⟨rfl, hb⟩
        have h27q : Hid (Gd n w u26q) := h21q.out.later hb
        have h28q : Hid (TAt u26q n (u.set r 0 0)) := h22q.out.later hb
        have h29q : Hid (TAt u26q (n + 1) Tb.zero) := h23q.out.later hb
        have h30q : Hid (Bo u26q u13q.heap.size [.int .i64 x, .int .i64 y]) := h24q.out.later hb
        clear h21q h22q h23q h24q
        clear hb
        clear c4 PL
        have c5 := h30q.out.at 0 rfl
        have c6 := h30q.out.at 1 rfl
        go_wp2_with (first
          | (refine wpList_store_mid rfl 172 _ _ rfl n _ #[.int .i64 (x), .int .i64 (y)] rfl rfl (h28q.out.thereS ha8) HT.out (two_one _ _) ?_
             have h31q : Hid (Gd n w (u26q.setCells n (a * 2) [.int .i64 (x), .int .i64 (y)])) := h27q.out.asideL (by omega) (a * 2) [.int .i64 (x), .int .i64 (y)]
             have h32q : Hid (TAt (u26q.setCells n (a * 2) [.int .i64 (x), .int .i64 (y)]) n ((u.set r 0 0).set a x y)) := h28q.out.slot ha8 (x) (y)
             have h33q : Hid (TAt (u26q.setCells n (a * 2) [.int .i64 (x), .int .i64 (y)]) (n + 1) Tb.zero) := h29q.out.asideL (by omega) (a * 2) [.int .i64 (x), .int .i64 (y)]
             have h34q : Hid (Bo (u26q.setCells n (a * 2) [.int .i64 (x), .int .i64 (y)]) u13q.heap.size [.int .i64 x, .int .i64 y]) := h30q.out.asideL (by omega) (a * 2) [.int .i64 (x), .int .i64 (y)]
             clear h27q h28q h29q h30q
             generalize (u26q.setCells n (a * 2) [.int .i64 (x), .int .i64 (y)]) = u35q at h31q h32q h33q h34q  ⊢))
        go_roundg (7 - (i + 1))
        case measure => omega
        case rel =>
          refine ⟨i + 1, by omega, by omega, by go_num, r, hr, rfl, (u.set r 0 0).set a x y, h32q, h33q, h31q, ?_⟩
          have := E.out
          rw [anew, X.out, Y.out, A.out] at this
          exact this
    · obtain rfl : i = 7 := by omega
      have E : Hid (without t p = u) := D.out.symm
      clear D
      go_wp2_with (first
        | (refine wpList_load_mid rfl 174 _ rfl n _ rfl u.all _ T.out.range HD.out rfl (HS.out u) ?_)
        | (refine wpList_store_mid rfl 174 _ _ rfl (n + 1) _ u.all.toArray rfl rfl (Z.out.thereOf u) (HZ.out u) (u.all_all) ?_
           have h36q : Hid (Gd n w (wr.setCells (n + 1) 0 u.all)) := G.out.asideAll (by omega) u
           have h37q : Hid (TAt (wr.setCells (n + 1) 0 u.all) n u) := T.out.asideAll (by omega) u
           have h38q : Hid (TAt (wr.setCells (n + 1) 0 u.all) (n + 1) u) := Z.out.setAll u
           clear G T Z
           generalize (wr.setCells (n + 1) 0 u.all) = u39q at h36q h37q h38q  ⊢))
      refine bodyPost_ret (results_row Tryz.results134 _ _ (n + 1) u.all _ rfl h38q.out.range HD.out rfl (HS.out u)) rfl ⟨?_, h36q.out.low⟩
      rw [E.out]
end Go.Proofs.YteogbpaaacmllaaGreatDoor.Tab
namespace Go.Proofs.YteogbpaaacmllaaGreatDoor.Tab
set_option maxRecDepth 20000
open Go.RowKit
theorem two_row {P : Program} {T : TypeId} (x y : Int) (hl : ∃ d, P.underlying T = some d ∧ d.isRow = true) (hs : (P.info? T).map (·.size) = some 2) : Rw P T [.int .i64 x, .int .i64 y] :=
  ⟨hl, hs, by intro v hv; simp at hv; rcases hv with rfl | rfl <;> rfl⟩
theorem answer_size : (Tryz.prog.info? 58).map (·.size) = some 2 := by kernel_rfl
theorem answer_struct : ∃ fs, Tryz.prog.underlying 58 = some (.struct fs) := ⟨_, Tryz.underlying58⟩
theorem rwA (x y : Int) : Rw Tryz.prog 58 [.int .i64 x, .int .i64 y] := two_row x y ⟨_, Tryz.underlying58, rfl⟩ answer_size
theorem rwS (t : Tb) : Rw Tryz.prog 174 t.all := ⟨let ⟨_, _, h⟩ := slots_array; ⟨_, h, rfl⟩, slots_size t, t.all_one⟩
theorem rwSl (x y : Int) : Rw Tryz.prog 172 [.int .i64 x, .int .i64 y] := two_row x y ⟨_, Tryz.underlying172, rfl⟩ (by kernel_rfl)
end Go.Proofs.YteogbpaaacmllaaGreatDoor.Tab
namespace Go.Proofs.YteogbpaaacmllaaGreatDoor.Tab
set_option maxRecDepth 20000
open Go.RowKit

/-- What Do hands back. -/
def Told (w : World) (r : Tb × Int × Int) (e : Ending) (w' : World) : Prop := e = .returned (.tuple #[.agg r.1.all.toArray, .agg #[.int .i64 r.2.1, .int .i64 r.2.2]]) ∧ Below w.heap.size w w'

set_option maxHeartbeats 2000000 in
theorem tDo_count (t : Tb) (k x : Int) (w : World) :
    Calls Tryz.prog 126 #[.agg t.all.toArray, .agg #[.int .i64 6, .int .i64 k, .int .i64 x]] w (Told w (t, 1, (len t : Int))) := by
  have L := Len_is t
  have hM : Hid _ := (((((Ms.nil w).born t.all 174 (b := w.heap.size) rfl).born [.int .i64 6, .int .i64 k, .int .i64 x] 44 (b := w.heap.size + 1) (by simp)).bornR Tb.zero_all.symm 174 (b := w.heap.size + 2) (by simp)).born [.int .i64 0, .int .i64 0] 58 (b := w.heap.size + 3) (by simp))
  have c1 := hM.out.cell 2 0 rfl rfl
  have c2 := hM.out.cell 2 1 rfl rfl
  have c3 := hM.out.cell 2 2 rfl rfl
  go_enter Tryz.func126, Tryz.ntmps126
  go_wp2_with fail
  clear c1 c2 c3
  generalize World.alloc _ _ = W at hM ⊢
  generalize hsz : w.heap.size = n at hM ⊢
  clear hsz
  replace hM := hid (hM.out.drew)
  refine wp_region_held_drew (S := fun w' => Bo w' n t.all) (by kernel_rfl) (hM.out.at 3 rfl) (fun hH => ?_)
  generalize World.drew _ = W at hM hH  ⊢
  refine tkR 0 rfl hH (fun _ h => h) (rwS t) ?_
  simp only [Act.put, p1, p2, p3]
  refine tkR 1 rfl hH (fun _ h => h) (rwS t) ?_
  simp only [Act.put, p1, p2, p3]
  refine rd1 2 rfl (fun K hK => ?_)
  go_simp
  refine (L _).mono ?_
  rintro e W ⟨rfl, hb⟩
  replace hM := hid (hM.out.later hb)
  clear hb
  go_wp2_with fail
  refine hK.out _ _ (hM.out.at 3 rfl) (fun hH => ?_)
  clear hK K
  try simp only [Act.put, p1, p2, p3]
  refine tk 3 rfl hH ?_
  simp only [Act.put, p1, p2, p3]
  refine rd1 4 rfl (fun K hK => ?_)
  refine stR rfl (hM.out.at 1 rfl) ((rwS Tb.zero).len (rwS t)) (rwS t) ?_
  simp only [Act.put]
  replace hM := hid (hM.out.put 1 rfl t.all ((rwS Tb.zero).len (rwS t)))
  refine hK.out _ _ (hM.out.at 3 rfl) (fun hH => ?_)
  clear hK K
  generalize World.setCells _ _ _ _ = W at hM hH ⊢
  try simp only [Act.put, p1, p2, p3]
  refine rd1 5 rfl (fun K hK => ?_)
  refine stR rfl (hM.out.at 0 rfl) ((rwA 0 0).len (rwA _ _)) (rwA _ _) ?_
  simp only [Act.put]
  replace hM := hid (hM.out.put 0 rfl [.int .i64 1, .int .i64 (len t : Nat)] ((rwA 0 0).len (rwA _ _)))
  refine hK.out _ _ (hM.out.at 3 rfl) (fun hH => ?_)
  clear hK K
  generalize World.setCells _ _ _ _ = W at hM hH ⊢
  try simp only [Act.put, p1, p2, p3]
  refine wpAnyH_done (by kernel_rfl) ?_ _
  go_wp2
  exact bodyPost_ret (res2 Tryz.results126 (hM.out.at 1 rfl) (rwS t) (hM.out.at 0 rfl) (rwA _ _)) rfl ⟨rfl, hM.out.below⟩

set_option maxHeartbeats 2000000 in
theorem tDo_wrong (t : Tb) (o k x : Int) (h6 : o ≠ 6) (hb : ¬ byKey o k) (w : World) :
    Calls Tryz.prog 126 #[.agg t.all.toArray, .agg #[.int .i64 o, .int .i64 k, .int .i64 x]] w (Told w (t, 5, 0)) := by
  have m6 : (o == 6) = false := by simp [h6]
  have L := byKey_is o k x
  rw [decide_eq_false hb] at L
  clear h6 hb
  have hM : Hid _ := (((((Ms.nil w).born t.all 174 (b := w.heap.size) rfl).born [.int .i64 o, .int .i64 k, .int .i64 x] 44 (b := w.heap.size + 1) (by simp)).bornR Tb.zero_all.symm 174 (b := w.heap.size + 2) (by simp)).born [.int .i64 0, .int .i64 0] 58 (b := w.heap.size + 3) (by simp))
  have c1 := hM.out.cell 2 0 rfl rfl
  have c2 := hM.out.cell 2 1 rfl rfl
  have c3 := hM.out.cell 2 2 rfl rfl
  go_enter Tryz.func126, Tryz.ntmps126
  go_wp2_with fail
  clear c1 c2 c3
  generalize World.alloc _ _ = W at hM ⊢
  generalize hsz : w.heap.size = n at hM ⊢
  clear hsz
  refine (L _).mono ?_
  rintro e W ⟨rfl, hb⟩
  replace hM := hid (hM.out.later hb)
  clear hb
  go_wp2_with (first
    | (refine lR rfl (hM.out.at 3 rfl) rfl (rwS t) ?_)
    | (refine sR rfl (hM.out.at 1 rfl) rfl ((rwS Tb.zero).len (rwS t)) (rwS t) ?_
       replace hM := hid (hM.out.put 1 rfl t.all ((rwS Tb.zero).len (rwS t)))
       generalize World.setCells _ _ _ _ = W at hM ⊢)
    | (refine sR rfl (hM.out.at 0 rfl) rfl ((rwA 0 0).len (rwA _ _)) (rwA _ _) ?_
       replace hM := hid (hM.out.put 0 rfl [.int .i64 5, .int .i64 0] ((rwA 0 0).len (rwA _ _)))
       generalize World.setCells _ _ _ _ = W at hM ⊢))
  exact bodyPost_ret (res2 Tryz.results126 (hM.out.at 1 rfl) (rwS t) (hM.out.at 0 rfl) (rwA _ _)) rfl ⟨rfl, hM.out.below⟩

set_option maxHeartbeats 2000000 in
theorem tDo_full (t : Tb) (k x : Int) (hn : t.k (place t k) ≠ k) (hl : 6 ≤ len t) (hk1 : 1 ≤ k) (hk2 : k ≤ 1000) (w : World) :
    Calls Tryz.prog 126 #[.agg t.all.toArray, .agg #[.int .i64 1, .int .i64 k, .int .i64 x]] w (Told w (t, 3, 0)) := by
  have L := byKey_is 1 k x
  rw [decide_eq_true (show byKey 1 k from ⟨by omega, hk1, hk2⟩)] at L
  have PL := place_eq t k
  unfold Placed at PL
  have hp := place_lt t k
  have LL := Len_is t
  rw [show (t.k (place t k) == k) = false by simp [hn]] at PL
  generalize len t = l at *
  have hl1 : (6 : Int) ≤ (l : Int) := by omega
  clear hn hl
  generalize place t k = p at *
  have hp1 : (p : Int) < 8 := by omega
  have hp0 : (0 : Int) ≤ (p : Int) := by omega
  clear hk1 hk2
  have hM : Hid _ := (((((Ms.nil w).born t.all 174 (b := w.heap.size) rfl).born [.int .i64 1, .int .i64 k, .int .i64 x] 44 (b := w.heap.size + 1) (by simp)).bornR Tb.zero_all.symm 174 (b := w.heap.size + 2) (by simp)).born [.int .i64 0, .int .i64 0] 58 (b := w.heap.size + 3) (by simp))
  have c1 := hM.out.cell 2 0 rfl rfl
  have c2 := hM.out.cell 2 1 rfl rfl
  have c3 := hM.out.cell 2 2 rfl rfl
  go_enter Tryz.func126, Tryz.ntmps126
  go_wp2_with fail
  clear c1 c2 c3
  generalize World.alloc _ _ = W at hM ⊢
  generalize hsz : w.heap.size = n at hM ⊢
  clear hsz
  refine (L _).mono ?_
  rintro e W ⟨rfl, hb⟩
  replace hM := hid (hM.out.later hb)
  clear hb
  have c4 := hM.out.cell 2 1 rfl rfl
  go_wp2_with (first
    | (refine lR rfl (hM.out.at 3 rfl) rfl (rwS t) ?_))
  refine (PL _).mono ?_
  rintro e W ⟨rfl, hb⟩
  replace hM := hid (hM.out.later hb)
  clear hb
  clear c4
  clear PL L
  have c5 := hM.out.cell 2 0 rfl rfl
  go_wp2_with (first
    | (refine lW rfl (hM.out.at 3 rfl) rfl (rwS t) ?_))
  refine (LL _).mono ?_
  rintro e W ⟨rfl, hb⟩
  replace hM := hid (hM.out.later hb)
  clear hb
  clear c5
  clear LL
  go_wp2_with (first
    | (refine lR rfl (hM.out.at 3 rfl) rfl (rwS t) ?_)
    | (refine sR rfl (hM.out.at 1 rfl) rfl ((rwS Tb.zero).len (rwS t)) (rwS t) ?_
       replace hM := hid (hM.out.put 1 rfl t.all ((rwS Tb.zero).len (rwS t)))
       generalize World.setCells _ _ _ _ = W at hM ⊢)
    | (refine sR rfl (hM.out.at 0 rfl) rfl ((rwA 0 0).len (rwA _ _)) (rwA _ _) ?_
       replace hM := hid (hM.out.put 0 rfl [.int .i64 3, .int .i64 0] ((rwA 0 0).len (rwA _ _)))
       generalize World.setCells _ _ _ _ = W at hM ⊢))
  exact bodyPost_ret (res2 Tryz.results126 (hM.out.at 1 rfl) (rwS t) (hM.out.at 0 rfl) (rwA _ _)) rfl ⟨rfl, hM.out.below⟩

set_option maxHeartbeats 2000000 in
theorem tDo_put_has (t : Tb) (k x : Int) (hn : t.k (place t k) = k) (hk1 : 1 ≤ k) (hk2 : k ≤ 1000) (w : World) :
    Calls Tryz.prog 126 #[.agg t.all.toArray, .agg #[.int .i64 1, .int .i64 k, .int .i64 x]] w (Told w (t.set (place t k) k x, 1, 0)) := by
  have L := byKey_is 1 k x
  rw [decide_eq_true (show byKey 1 k from ⟨by omega, hk1, hk2⟩)] at L
  have PL := place_eq t k
  unfold Placed at PL
  have hp := place_lt t k
  rw [show (t.k (place t k) == k) = true by simp [hn]] at PL
  clear hn
  generalize place t k = p at *
  have hp1 : (p : Int) < 8 := by omega
  have hp0 : (0 : Int) ≤ (p : Int) := by omega
  clear hk1 hk2
  have hM : Hid _ := (((((Ms.nil w).born t.all 174 (b := w.heap.size) rfl).born [.int .i64 1, .int .i64 k, .int .i64 x] 44 (b := w.heap.size + 1) (by simp)).bornR Tb.zero_all.symm 174 (b := w.heap.size + 2) (by simp)).born [.int .i64 0, .int .i64 0] 58 (b := w.heap.size + 3) (by simp))
  have c1 := hM.out.cell 2 0 rfl rfl
  have c2 := hM.out.cell 2 1 rfl rfl
  have c3 := hM.out.cell 2 2 rfl rfl
  go_enter Tryz.func126, Tryz.ntmps126
  go_wp2_with fail
  clear c1 c2 c3
  generalize World.alloc _ _ = W at hM ⊢
  generalize hsz : w.heap.size = n at hM ⊢
  clear hsz
  refine (L _).mono ?_
  rintro e W ⟨rfl, hb⟩
  replace hM := hid (hM.out.later hb)
  clear hb
  have c4 := hM.out.cell 2 1 rfl rfl
  go_wp2_with (first
    | (refine lR rfl (hM.out.at 3 rfl) rfl (rwS t) ?_))
  refine (PL _).mono ?_
  rintro e W ⟨rfl, hb⟩
  replace hM := hid (hM.out.later hb)
  clear hb
  clear c4
  clear PL L
  have c5 := hM.out.cell 2 0 rfl rfl
  have c6 := hM.out.cell 2 1 rfl rfl
  have c7 := hM.out.cell 2 2 rfl rfl
  go_wp2_with (first
    | (refine sO rfl ((hM.out.at 3 rfl).tthere hp) rfl (rwSl k x) ?_
       replace hM := hid (hM.out.putAt 3 (p * 2) rfl [.int .i64 k, .int .i64 x] (t.set p k x).all ((hM.out.at 3 rfl).tset hp k x))
       generalize World.setCells _ _ _ _ = W at hM ⊢)
    | (refine lR rfl (hM.out.at 3 rfl) rfl (rwS (t.set p k x)) ?_)
    | (refine sR rfl (hM.out.at 1 rfl) rfl ((rwS Tb.zero).len (rwS (t.set p k x))) (rwS (t.set p k x)) ?_
       replace hM := hid (hM.out.put 1 rfl (t.set p k x).all ((rwS Tb.zero).len (rwS (t.set p k x))))
       generalize World.setCells _ _ _ _ = W at hM ⊢)
    | (refine sR rfl (hM.out.at 0 rfl) rfl ((rwA 0 0).len (rwA _ _)) (rwA _ _) ?_
       replace hM := hid (hM.out.put 0 rfl [.int .i64 1, .int .i64 0] ((rwA 0 0).len (rwA _ _)))
       generalize World.setCells _ _ _ _ = W at hM ⊢))
  exact bodyPost_ret (res2 Tryz.results126 (hM.out.at 1 rfl) (rwS (t.set p k x)) (hM.out.at 0 rfl) (rwA _ _)) rfl ⟨rfl, hM.out.below⟩

set_option maxHeartbeats 2000000 in
theorem tDo_put_new (t : Tb) (k x : Int) (hn : t.k (place t k) ≠ k) (hl : len t < 6) (hk1 : 1 ≤ k) (hk2 : k ≤ 1000) (w : World) :
    Calls Tryz.prog 126 #[.agg t.all.toArray, .agg #[.int .i64 1, .int .i64 k, .int .i64 x]] w (Told w (t.set (place t k) k x, 1, 0)) := by
  have L := byKey_is 1 k x
  rw [decide_eq_true (show byKey 1 k from ⟨by omega, hk1, hk2⟩)] at L
  have PL := place_eq t k
  unfold Placed at PL
  have hp := place_lt t k
  have LL := Len_is t
  rw [show (t.k (place t k) == k) = false by simp [hn]] at PL
  generalize len t = l at *
  have hl1 : ¬ (6 : Int) ≤ (l : Int) := by omega
  clear hn hl
  generalize place t k = p at *
  have hp1 : (p : Int) < 8 := by omega
  have hp0 : (0 : Int) ≤ (p : Int) := by omega
  clear hk1 hk2
  have hM : Hid _ := (((((Ms.nil w).born t.all 174 (b := w.heap.size) rfl).born [.int .i64 1, .int .i64 k, .int .i64 x] 44 (b := w.heap.size + 1) (by simp)).bornR Tb.zero_all.symm 174 (b := w.heap.size + 2) (by simp)).born [.int .i64 0, .int .i64 0] 58 (b := w.heap.size + 3) (by simp))
  have c1 := hM.out.cell 2 0 rfl rfl
  have c2 := hM.out.cell 2 1 rfl rfl
  have c3 := hM.out.cell 2 2 rfl rfl
  go_enter Tryz.func126, Tryz.ntmps126
  go_wp2_with fail
  clear c1 c2 c3
  generalize World.alloc _ _ = W at hM ⊢
  generalize hsz : w.heap.size = n at hM ⊢
  clear hsz
  refine (L _).mono ?_
  rintro e W ⟨rfl, hb⟩
  replace hM := hid (hM.out.later hb)
  clear hb
  have c4 := hM.out.cell 2 1 rfl rfl
  go_wp2_with (first
    | (refine lR rfl (hM.out.at 3 rfl) rfl (rwS t) ?_))
  refine (PL _).mono ?_
  rintro e W ⟨rfl, hb⟩
  replace hM := hid (hM.out.later hb)
  clear hb
  clear c4
  clear PL L
  have c5 := hM.out.cell 2 0 rfl rfl
  go_wp2_with (first
    | (refine lW rfl (hM.out.at 3 rfl) rfl (rwS t) ?_))
  refine (LL _).mono ?_
  rintro e W ⟨rfl, hb⟩
  replace hM := hid (hM.out.later hb)
  clear hb
  clear c5
  clear LL
  have c6 := hM.out.cell 2 0 rfl rfl
  have c7 := hM.out.cell 2 1 rfl rfl
  have c8 := hM.out.cell 2 2 rfl rfl
  go_wp2_with (first
    | (refine sO rfl ((hM.out.at 3 rfl).tthere hp) rfl (rwSl k x) ?_
       replace hM := hid (hM.out.putAt 3 (p * 2) rfl [.int .i64 k, .int .i64 x] (t.set p k x).all ((hM.out.at 3 rfl).tset hp k x))
       generalize World.setCells _ _ _ _ = W at hM ⊢)
    | (refine lR rfl (hM.out.at 3 rfl) rfl (rwS (t.set p k x)) ?_)
    | (refine sR rfl (hM.out.at 1 rfl) rfl ((rwS Tb.zero).len (rwS (t.set p k x))) (rwS (t.set p k x)) ?_
       replace hM := hid (hM.out.put 1 rfl (t.set p k x).all ((rwS Tb.zero).len (rwS (t.set p k x))))
       generalize World.setCells _ _ _ _ = W at hM ⊢)
    | (refine sR rfl (hM.out.at 0 rfl) rfl ((rwA 0 0).len (rwA _ _)) (rwA _ _) ?_
       replace hM := hid (hM.out.put 0 rfl [.int .i64 1, .int .i64 0] ((rwA 0 0).len (rwA _ _)))
       generalize World.setCells _ _ _ _ = W at hM ⊢))
  exact bodyPost_ret (res2 Tryz.results126 (hM.out.at 1 rfl) (rwS (t.set p k x)) (hM.out.at 0 rfl) (rwA _ _)) rfl ⟨rfl, hM.out.below⟩

set_option maxHeartbeats 2000000 in
theorem tDo_absent (t : Tb) (o k x : Int) (ho : o = 2 ∨ o = 5) (hn : t.k (place t k) ≠ k) (hk1 : 1 ≤ k) (hk2 : k ≤ 1000) (w : World) :
    Calls Tryz.prog 126 #[.agg t.all.toArray, .agg #[.int .i64 o, .int .i64 k, .int .i64 x]] w (Told w (t, 4, 0)) := by
  have L := byKey_is o k x
  rw [decide_eq_true (show byKey o k from ⟨by omega, hk1, hk2⟩)] at L
  have PL := place_eq t k
  unfold Placed at PL
  have hp := place_lt t k
  rw [show (t.k (place t k) == k) = false by simp [hn]] at PL
  have m1 : (o == 1) = false := by rcases ho with rfl | rfl <;> rfl
  have m6 : (o == 6) = false := by rcases ho with rfl | rfl <;> rfl
  clear hn ho
  generalize place t k = p at *
  have hp1 : (p : Int) < 8 := by omega
  have hp0 : (0 : Int) ≤ (p : Int) := by omega
  clear hk1 hk2
  have hM : Hid _ := (((((Ms.nil w).born t.all 174 (b := w.heap.size) rfl).born [.int .i64 o, .int .i64 k, .int .i64 x] 44 (b := w.heap.size + 1) (by simp)).bornR Tb.zero_all.symm 174 (b := w.heap.size + 2) (by simp)).born [.int .i64 0, .int .i64 0] 58 (b := w.heap.size + 3) (by simp))
  have c1 := hM.out.cell 2 0 rfl rfl
  have c2 := hM.out.cell 2 1 rfl rfl
  have c3 := hM.out.cell 2 2 rfl rfl
  go_enter Tryz.func126, Tryz.ntmps126
  go_wp2_with fail
  clear c1 c2 c3
  generalize World.alloc _ _ = W at hM ⊢
  generalize hsz : w.heap.size = n at hM ⊢
  clear hsz
  refine (L _).mono ?_
  rintro e W ⟨rfl, hb⟩
  replace hM := hid (hM.out.later hb)
  clear hb
  have c4 := hM.out.cell 2 1 rfl rfl
  go_wp2_with (first
    | (refine lR rfl (hM.out.at 3 rfl) rfl (rwS t) ?_))
  refine (PL _).mono ?_
  rintro e W ⟨rfl, hb⟩
  replace hM := hid (hM.out.later hb)
  clear hb
  clear c4
  clear PL L
  have c5 := hM.out.cell 2 0 rfl rfl
  go_wp2_with (first
    | (refine lR rfl (hM.out.at 3 rfl) rfl (rwS t) ?_)
    | (refine sR rfl (hM.out.at 1 rfl) rfl ((rwS Tb.zero).len (rwS t)) (rwS t) ?_
       replace hM := hid (hM.out.put 1 rfl t.all ((rwS Tb.zero).len (rwS t)))
       generalize World.setCells _ _ _ _ = W at hM ⊢)
    | (refine sR rfl (hM.out.at 0 rfl) rfl ((rwA 0 0).len (rwA _ _)) (rwA _ _) ?_
       replace hM := hid (hM.out.put 0 rfl [.int .i64 4, .int .i64 0] ((rwA 0 0).len (rwA _ _)))
       generalize World.setCells _ _ _ _ = W at hM ⊢))
  exact bodyPost_ret (res2 Tryz.results126 (hM.out.at 1 rfl) (rwS t) (hM.out.at 0 rfl) (rwA _ _)) rfl ⟨rfl, hM.out.below⟩

set_option maxHeartbeats 2000000 in
theorem tDo_peek (t : Tb) (k x : Int) (hn : t.k (place t k) = k) (hk1 : 1 ≤ k) (hk2 : k ≤ 1000) (w : World) :
    Calls Tryz.prog 126 #[.agg t.all.toArray, .agg #[.int .i64 5, .int .i64 k, .int .i64 x]] w (Told w (t, 1, t.v (place t k))) := by
  have L := byKey_is 5 k x
  rw [decide_eq_true (show byKey 5 k from ⟨by omega, hk1, hk2⟩)] at L
  have PL := place_eq t k
  unfold Placed at PL
  have hp := place_lt t k
  rw [show (t.k (place t k) == k) = true by simp [hn]] at PL
  clear hn
  generalize place t k = p at *
  have hp1 : (p : Int) < 8 := by omega
  have hp0 : (0 : Int) ≤ (p : Int) := by omega
  clear hk1 hk2
  have hM : Hid _ := (((((Ms.nil w).born t.all 174 (b := w.heap.size) rfl).born [.int .i64 5, .int .i64 k, .int .i64 x] 44 (b := w.heap.size + 1) (by simp)).bornR Tb.zero_all.symm 174 (b := w.heap.size + 2) (by simp)).born [.int .i64 0, .int .i64 0] 58 (b := w.heap.size + 3) (by simp))
  have c1 := hM.out.cell 2 0 rfl rfl
  have c2 := hM.out.cell 2 1 rfl rfl
  have c3 := hM.out.cell 2 2 rfl rfl
  go_enter Tryz.func126, Tryz.ntmps126
  go_wp2_with fail
  clear c1 c2 c3
  generalize World.alloc _ _ = W at hM ⊢
  generalize hsz : w.heap.size = n at hM ⊢
  clear hsz
  refine (L _).mono ?_
  rintro e W ⟨rfl, hb⟩
  replace hM := hid (hM.out.later hb)
  clear hb
  have c4 := hM.out.cell 2 1 rfl rfl
  go_wp2_with (first
    | (refine lR rfl (hM.out.at 3 rfl) rfl (rwS t) ?_))
  refine (PL _).mono ?_
  rintro e W ⟨rfl, hb⟩
  replace hM := hid (hM.out.later hb)
  clear hb
  clear c4
  clear PL L
  have c5 := hM.out.cell 2 0 rfl rfl
  have x6 := (hM.out.at 3 rfl).tval hp
  replace hM := hid (hM.out.born [.int .i64 1, .int .i64 (t.v p)] 58 rfl)
  have c7 := hM.out.cell 3 0 rfl rfl
  go_wp2_with fail
  clear c5 x6 c7
  generalize W.heap.size = ba at hM ⊢
  generalize World.alloc _ _ = W at hM ⊢
  replace hM := hid (hM.out.drew)
  refine wp_region_held_drew (S := fun w' => Bo w' n t.all ∧ Bo w' ba [.int .i64 1, .int .i64 (t.v p)]) (by kernel_rfl) ⟨hM.out.at 4 rfl, hM.out.at 0 rfl⟩ (fun hH => ?_)
  generalize World.drew _ = W at hM hH  ⊢
  refine tkR 0 rfl hH (fun _ h => h.1) (rwS t) ?_
  simp only [Act.put, p1, p2, p3]
  refine tk 1 rfl hH ?_ (by intro w h; have c0 := h.2.at 0 rfl; have c1 := h.2.at 1 rfl; clear h; go_simp; try with_reducible rfl)
  simp only [Act.put, p1, p2, p3]
  refine rd1 2 rfl (fun K hK => ?_)
  refine stR rfl (hM.out.at 2 rfl) ((rwS Tb.zero).len (rwS t)) (rwS t) ?_
  simp only [Act.put]
  replace hM := hid (hM.out.put 2 rfl t.all ((rwS Tb.zero).len (rwS t)))
  refine hK.out _ _ ⟨hM.out.at 4 rfl, hM.out.at 0 rfl⟩ (fun hH => ?_)
  clear hK K
  generalize World.setCells _ _ _ _ = W at hM hH ⊢
  try simp only [Act.put, p1, p2, p3]
  refine rd1 3 rfl (fun K hK => ?_)
  refine stR rfl (hM.out.at 1 rfl) ((rwA 0 0).len (rwA _ _)) (rwA _ _) ?_
  simp only [Act.put]
  replace hM := hid (hM.out.put 1 rfl [.int .i64 1, .int .i64 (t.v p)] ((rwA 0 0).len (rwA _ _)))
  refine hK.out _ _ ⟨hM.out.at 4 rfl, hM.out.at 0 rfl⟩ (fun hH => ?_)
  clear hK K
  generalize World.setCells _ _ _ _ = W at hM hH ⊢
  try simp only [Act.put, p1, p2, p3]
  refine wpAnyH_done (by kernel_rfl) ?_ _
  go_wp2
  exact bodyPost_ret (res2 Tryz.results126 (hM.out.at 2 rfl) (rwS t) (hM.out.at 1 rfl) (rwA _ _)) rfl ⟨rfl, hM.out.below⟩

set_option maxHeartbeats 2000000 in
theorem tDo_take (t : Tb) (k x : Int) (hn : t.k (place t k) = k) (hk1 : 1 ≤ k) (hk2 : k ≤ 1000) (w : World) :
    Calls Tryz.prog 126 #[.agg t.all.toArray, .agg #[.int .i64 2, .int .i64 k, .int .i64 x]] w (Told w (without t (place t k), 1, t.v (place t k))) := by
  have L := byKey_is 2 k x
  rw [decide_eq_true (show byKey 2 k from ⟨by omega, hk1, hk2⟩)] at L
  have PL := place_eq t k
  unfold Placed at PL
  have hp := place_lt t k
  rw [show (t.k (place t k) == k) = true by simp [hn]] at PL
  clear hn
  generalize place t k = p at *
  have hp1 : (p : Int) < 8 := by omega
  have hp0 : (0 : Int) ≤ (p : Int) := by omega
  clear hk1 hk2
  have hM : Hid _ := (((((Ms.nil w).born t.all 174 (b := w.heap.size) rfl).born [.int .i64 2, .int .i64 k, .int .i64 x] 44 (b := w.heap.size + 1) (by simp)).bornR Tb.zero_all.symm 174 (b := w.heap.size + 2) (by simp)).born [.int .i64 0, .int .i64 0] 58 (b := w.heap.size + 3) (by simp))
  have c1 := hM.out.cell 2 0 rfl rfl
  have c2 := hM.out.cell 2 1 rfl rfl
  have c3 := hM.out.cell 2 2 rfl rfl
  go_enter Tryz.func126, Tryz.ntmps126
  go_wp2_with fail
  clear c1 c2 c3
  generalize World.alloc _ _ = W at hM ⊢
  generalize hsz : w.heap.size = n at hM ⊢
  clear hsz
  refine (L _).mono ?_
  rintro e W ⟨rfl, hb⟩
  replace hM := hid (hM.out.later hb)
  clear hb
  have c4 := hM.out.cell 2 1 rfl rfl
  go_wp2_with (first
    | (refine lR rfl (hM.out.at 3 rfl) rfl (rwS t) ?_))
  refine (PL _).mono ?_
  rintro e W ⟨rfl, hb⟩
  replace hM := hid (hM.out.later hb)
  clear hb
  clear c4
  clear PL L
  have c5 := hM.out.cell 2 0 rfl rfl
  have x6 := (hM.out.at 3 rfl).tval hp
  have hWB : ∃ q, q = W.heap.size := ⟨_, rfl⟩
  obtain ⟨ba, hba⟩ := hWB
  replace hM := hid (hM.out.born [.int .i64 1, .int .i64 (t.v p)] 58 hba)
  have HBA : Hid _ := hba
  clear hba
  have c7 := hM.out.cell 3 0 rfl rfl
  have WO := without_is t p hp
  go_wp2_with (first
    | (rw [← HBA.out]; refine lR rfl (hM.out.at 4 rfl) rfl (rwS t) ?_))
  refine (WO _).mono ?_
  rintro e W ⟨rfl, hb⟩
  replace hM := hid (hM.out.later hb)
  clear hb
  clear c5 x6 c7
  clear WO HBA
  go_wp2_with (first
    | (refine sR rfl (hM.out.at 4 rfl) rfl ((rwS t).len (rwS (without t p))) (rwS (without t p)) ?_
       replace hM := hid (hM.out.put 4 rfl (without t p).all ((rwS t).len (rwS (without t p))))
       generalize World.setCells _ _ _ _ = W at hM ⊢))
  replace hM := hid (hM.out.drew)
  refine wp_region_held_drew (S := fun w' => Bo w' n (without t p).all ∧ Bo w' ba [.int .i64 1, .int .i64 (t.v p)]) (by kernel_rfl) ⟨hM.out.at 4 rfl, hM.out.at 0 rfl⟩ (fun hH => ?_)
  generalize World.drew _ = W at hM hH  ⊢
  refine tkR 0 rfl hH (fun _ h => h.1) (rwS (without t p)) ?_
  simp only [Act.put, p1, p2, p3]
  refine tk 1 rfl hH ?_ (by intro w h; have c0 := h.2.at 0 rfl; have c1 := h.2.at 1 rfl; clear h; go_simp; try with_reducible rfl)
  simp only [Act.put, p1, p2, p3]
  refine rd1 2 rfl (fun K hK => ?_)
  refine stR rfl (hM.out.at 2 rfl) ((rwS Tb.zero).len (rwS (without t p))) (rwS (without t p)) ?_
  simp only [Act.put]
  replace hM := hid (hM.out.put 2 rfl (without t p).all ((rwS Tb.zero).len (rwS (without t p))))
  refine hK.out _ _ ⟨hM.out.at 4 rfl, hM.out.at 0 rfl⟩ (fun hH => ?_)
  clear hK K
  generalize World.setCells _ _ _ _ = W at hM hH ⊢
  try simp only [Act.put, p1, p2, p3]
  refine rd1 3 rfl (fun K hK => ?_)
  refine stR rfl (hM.out.at 1 rfl) ((rwA 0 0).len (rwA _ _)) (rwA _ _) ?_
  simp only [Act.put]
  replace hM := hid (hM.out.put 1 rfl [.int .i64 1, .int .i64 (t.v p)] ((rwA 0 0).len (rwA _ _)))
  refine hK.out _ _ ⟨hM.out.at 4 rfl, hM.out.at 0 rfl⟩ (fun hH => ?_)
  clear hK K
  generalize World.setCells _ _ _ _ = W at hM hH ⊢
  try simp only [Act.put, p1, p2, p3]
  refine wpAnyH_done (by kernel_rfl) ?_ _
  go_wp2
  exact bodyPost_ret (res2 Tryz.results126 (hM.out.at 2 rfl) (rwS (without t p)) (hM.out.at 1 rfl) (rwA _ _)) rfl ⟨rfl, hM.out.below⟩

theorem tDo_eq (t : Tb) (o k x : Int) (w : World) : Calls Tryz.prog 126 #[.agg t.all.toArray, .agg #[.int .i64 o, .int .i64 k, .int .i64 x]] w (Told w (tdo t o k x)) := by
  by_cases h6 : o = 6
  · subst h6
    exact tDo_count t k x w
  by_cases hb : byKey o k
  · obtain ⟨ho, h1, h2⟩ := hb
    by_cases hh : t.k (place t k) = k
    · rcases ho with rfl | rfl | rfl
      · rw [tdo_put x h1 h2 (Or.inl hh)]; exact tDo_put_has t k x hh h1 h2 w
      · rw [tdo_take x h1 h2 hh]; exact tDo_take t k x hh h1 h2 w
      · rw [tdo_peek x h1 h2, look, if_pos hh]; exact tDo_peek t k x hh h1 h2 w
    · rcases ho with rfl | ho
      · by_cases hl : 6 ≤ len t
        · rw [tdo_full x h1 h2 hh hl]; exact tDo_full t k x hh hl h1 h2 w
        · rw [tdo_put x h1 h2 (Or.inr (by omega))]; exact tDo_put_new t k x hh (by omega) h1 h2 w
      · rw [tdo_absent x ho h1 h2 hh]; exact tDo_absent t o k x ho hh h1 h2 w
  · rw [tdo_wrong t x h6 hb]; exact tDo_wrong t o k x h6 hb w
end Go.Proofs.YteogbpaaacmllaaGreatDoor.Tab
namespace Go.Proofs.YteogbpaaacmllaaGreatDoor.Tab
set_option maxRecDepth 20000
open Go.RowKit

theorem cells_array : ∃ n e, Tryz.prog.underlying 119 = some (.array n e) := ⟨_, _, Tryz.underlying119⟩
theorem cells_size (c : Nat → Nat) : (Tryz.prog.info? 119).map (·.size) = some (wl c).length := by rw [wl_length]; kernel_rfl
theorem cells_size2 (c : Nat → Nat) : (Tryz.prog.info? 119).map (·.size) = some (wl c).toArray.size := by rw [List.size_toArray, wl_length]; kernel_rfl

/-- No word from off on, n of them, is above m. -/
def upC (c : Nat → Nat) (off n : Nat) (m : Int) : Bool := (List.range n).all fun j => decide (((c (off + j) : Nat) : Int) ≤ m)
theorem upC_iff {c : Nat → Nat} {off n : Nat} {m : Int} : upC c off n m = true ↔ ∀ j, j < n → ((c (off + j) : Nat) : Int) ≤ m := by simp [upC]
theorem upC_yes {c : Nat → Nat} {off n : Nat} {m : Int} {v : Bool} (hv : upC c off n m = v) (h : ∀ j, j < n → ((c (off + j) : Nat) : Int) ≤ m) : true = v := by rw [← hv]; exact (upC_iff.2 h).symm
theorem upC_no {c : Nat → Nat} {off n : Nat} {m : Int} {v : Bool} (hv : upC c off n m = v) {i : Nat} (hi : i < n) (h : ¬ ((c (off + i) : Nat) : Int) ≤ m) : false = v := by
  cases v
  · rfl
  · exact absurd (upC_iff.1 hv i hi) h

set_option maxHeartbeats 1000000 in
theorem upTo_is {w : World} {b off n k : Nat} {m : Int} {c : Nat → Nat} {v : Bool} (h : Bo w b (wl c)) (hn : off + n ≤ 17) (hv : upC c off n m = v) :
    Calls Tryz.prog 100 #[.slice (some ⟨b, off, none⟩) n k, .int .u64 m] w fun e w' => e = .returned (.bool v) ∧ w' = w := by
  have H : Hid (Bo w b (wl c)) := h
  have HV : Hid _ := hv
  clear h hv
  go_enter Tryz.func100, Tryz.ntmps100
  go_wp2_with fail
  go_loopg [9] n (fun gg s9 wt => wt = w ∧ ∃ i : Nat, i ≤ n ∧ n - i ≤ gg ∧ s9 = .int .i64 i ∧ Hid (∀ j, j < i → ((c (off + j) : Nat) : Int) ≤ m))
  case atStart => exact ⟨rfl, 0, by omega, by omega, rfl, fun j hj => absurd hj (by omega)⟩
  case round =>
    obtain ⟨rfl, i, hi, hgg, rfl, U⟩ := hrel
    by_cases hlt : i < n
    · have g0 := H.out.word (show off + i < 17 by omega)
      have hi1 : (i : Int) < (n : Int) := by omega
      have hi0 : (0 : Int) ≤ (i : Int) := by omega
      by_cases hle : ((c (off + i) : Nat) : Int) ≤ m
      · have U' : Hid (∀ j, j < i + 1 → ((c (off + j) : Nat) : Int) ≤ m) := fun j hj => by
          by_cases e : j = i
          · subst e; exact hle
          · exact U.out j (by omega)
        have hd : ¬ m < ((c (off + i) : Nat) : Int) := by omega
        generalize c (off + i) = x at g0 hd hle
        clear hle
        go_wp2
        go_roundg (n - (i + 1))
        case measure => omega
        case rel => exact ⟨rfl, i + 1, by omega, by omega, by go_num, U'⟩
      · have E : Hid (false = v) := upC_no HV.out hlt hle
        have hd : m < ((c (off + i) : Nat) : Int) := by omega
        generalize c (off + i) = x at g0 hd hle
        clear hle
        go_wp2
        go_ret
        exact ⟨by rw [← E.out]; rfl, rfl⟩
    · have ei : i = n := by omega
      subst ei
      have E : Hid (true = v) := upC_yes HV.out U.out
      go_wp2
      go_ret
      exact ⟨by rw [← E.out]; rfl, rfl⟩

set_option maxHeartbeats 1000000 in
theorem isTally_is (c : Nat → Nat) (w : World) : Calls Tryz.prog 87 #[.agg (wl c).toArray] w fun e w' => e = .returned (.bool (upC c 0 1 4294967295 && upC c 1 16 0)) ∧ Below w.heap.size w w' := by
  have G : Hid (Below w.heap.size w (w.alloc (.cells (wl c).toArray 119))) := new_below w _
  have T : Hid (Bo (w.alloc (.cells (wl c).toArray 119)) w.heap.size (wl c)) := Bo.born w (wl c) _ rfl
  rcases h1 : upC c 0 1 4294967295 with _ | _
  · go_enter Tryz.func87, Tryz.ntmps87
    go_wp2_with fail
    refine (upTo_is T.out (by decide) h1).mono ?_
    rintro e w1 ⟨rfl, rfl⟩
    go_wp2
    go_ret
    exact ⟨rfl, G.out⟩
  · rcases h2 : upC c 1 16 0 with _ | _
    all_goals
      go_enter Tryz.func87, Tryz.ntmps87
      go_wp2_with fail
      refine (upTo_is T.out (by decide) h1).mono ?_
      rintro e w1 ⟨rfl, rfl⟩
      go_wp2_with fail
      refine (upTo_is T.out (by decide) h2).mono ?_
      rintro e w1 ⟨rfl, rfl⟩
      go_wp2
      go_ret
      exact ⟨rfl, G.out⟩

/-- Lists as words. -/
def isLb (c : Nat → Nat) : Bool := decide (c 0 ≤ 6) && (upC c 1 (c 0) 4294967295 && upC c (1 + c 0) (16 - c 0) 0)
set_option maxHeartbeats 1000000 in
theorem isList_no (c : Nat → Nat) (h : ¬ c 0 ≤ 6) (w : World) : Calls Tryz.prog 83 #[.agg (wl c).toArray] w fun e w' => e = .returned (.bool false) ∧ Below w.heap.size w w' := by
  have G : Hid (Below w.heap.size w (w.alloc (.cells (wl c).toArray 119))) := new_below w _
  have T : Hid (Bo (w.alloc (.cells (wl c).toArray 119)) w.heap.size (wl c)) := Bo.born w (wl c) _ rfl
  have g0 := T.out.word (show 0 < 17 by decide)
  have hd : decide (((c 0 : Nat) : Int) ≤ 6) = false := by simp; omega
  go_enter Tryz.func83, Tryz.ntmps83
  go_wp2_with fail
  generalize w.alloc (.cells (wl c).toArray 119) = W at T G g0 ⊢
  generalize c 0 = k at g0 hd ⊢
  go_region
  all_goals go_wp2
  all_goals go_ret
  all_goals exact ⟨rfl, Below.drew G.out⟩
set_option maxHeartbeats 2000000 in
theorem isList_0 (c : Nat → Nat) (h : c 0 = 0) {v1 v2 : Bool} (h1 : upC c 1 0 4294967295 = v1) (h2 : upC c 1 16 0 = v2) (w : World) : Calls Tryz.prog 83 #[.agg (wl c).toArray] w fun e w' => e = .returned (.bool (v1 && v2)) ∧ Below w.heap.size w w' := by
  have G : Hid (Below w.heap.size w (w.alloc (.cells (wl c).toArray 119))) := new_below w _
  have T : Hid (Bo (w.alloc (.cells (wl c).toArray 119)) w.heap.size (wl c)) := Bo.born w (wl c) _ rfl
  have g0 : (w.alloc (.cells (wl c).toArray 119)).cell? ⟨w.heap.size, 0, none⟩ = some (.int .u64 0) := by have := T.out.word (show 0 < 17 by decide); rw [h] at this; exact this
  have H1 : Hid _ := h1
  have H2 : Hid _ := h2
  clear h h1 h2
  go_enter Tryz.func83, Tryz.ntmps83
  go_wp2_with fail
  generalize w.alloc (.cells (wl c).toArray 119) = W at T G g0 ⊢
  have T1 : Hid (Bo W.drew w.heap.size (wl c)) := T.out.drew
  have G1 : Hid (Below w.heap.size w W.drew) := Below.drew G.out
  go_region
  all_goals go_wp2_with fail
  all_goals
    refine (upTo_is T1.out (by decide) H1.out).mono ?_
    rintro e w1 ⟨rfl, rfl⟩
  all_goals cases v1
  all_goals go_wp2_with fail
  all_goals first
    | (refine (upTo_is T1.out (by decide) H2.out).mono ?_
       rintro e w1 ⟨rfl, rfl⟩
       go_wp2)
    | skip
  all_goals go_ret
  all_goals exact ⟨rfl, G1.out⟩
set_option maxHeartbeats 2000000 in
theorem isList_1 (c : Nat → Nat) (h : c 0 = 1) {v1 v2 : Bool} (h1 : upC c 1 1 4294967295 = v1) (h2 : upC c 2 15 0 = v2) (w : World) : Calls Tryz.prog 83 #[.agg (wl c).toArray] w fun e w' => e = .returned (.bool (v1 && v2)) ∧ Below w.heap.size w w' := by
  have G : Hid (Below w.heap.size w (w.alloc (.cells (wl c).toArray 119))) := new_below w _
  have T : Hid (Bo (w.alloc (.cells (wl c).toArray 119)) w.heap.size (wl c)) := Bo.born w (wl c) _ rfl
  have g0 : (w.alloc (.cells (wl c).toArray 119)).cell? ⟨w.heap.size, 0, none⟩ = some (.int .u64 1) := by have := T.out.word (show 0 < 17 by decide); rw [h] at this; exact this
  have H1 : Hid _ := h1
  have H2 : Hid _ := h2
  clear h h1 h2
  go_enter Tryz.func83, Tryz.ntmps83
  go_wp2_with fail
  generalize w.alloc (.cells (wl c).toArray 119) = W at T G g0 ⊢
  have T1 : Hid (Bo W.drew w.heap.size (wl c)) := T.out.drew
  have G1 : Hid (Below w.heap.size w W.drew) := Below.drew G.out
  go_region
  all_goals go_wp2_with fail
  all_goals
    refine (upTo_is T1.out (by decide) H1.out).mono ?_
    rintro e w1 ⟨rfl, rfl⟩
  all_goals cases v1
  all_goals go_wp2_with fail
  all_goals first
    | (refine (upTo_is T1.out (by decide) H2.out).mono ?_
       rintro e w1 ⟨rfl, rfl⟩
       go_wp2)
    | skip
  all_goals go_ret
  all_goals exact ⟨rfl, G1.out⟩
set_option maxHeartbeats 2000000 in
theorem isList_2 (c : Nat → Nat) (h : c 0 = 2) {v1 v2 : Bool} (h1 : upC c 1 2 4294967295 = v1) (h2 : upC c 3 14 0 = v2) (w : World) : Calls Tryz.prog 83 #[.agg (wl c).toArray] w fun e w' => e = .returned (.bool (v1 && v2)) ∧ Below w.heap.size w w' := by
  have G : Hid (Below w.heap.size w (w.alloc (.cells (wl c).toArray 119))) := new_below w _
  have T : Hid (Bo (w.alloc (.cells (wl c).toArray 119)) w.heap.size (wl c)) := Bo.born w (wl c) _ rfl
  have g0 : (w.alloc (.cells (wl c).toArray 119)).cell? ⟨w.heap.size, 0, none⟩ = some (.int .u64 2) := by have := T.out.word (show 0 < 17 by decide); rw [h] at this; exact this
  have H1 : Hid _ := h1
  have H2 : Hid _ := h2
  clear h h1 h2
  go_enter Tryz.func83, Tryz.ntmps83
  go_wp2_with fail
  generalize w.alloc (.cells (wl c).toArray 119) = W at T G g0 ⊢
  have T1 : Hid (Bo W.drew w.heap.size (wl c)) := T.out.drew
  have G1 : Hid (Below w.heap.size w W.drew) := Below.drew G.out
  go_region
  all_goals go_wp2_with fail
  all_goals
    refine (upTo_is T1.out (by decide) H1.out).mono ?_
    rintro e w1 ⟨rfl, rfl⟩
  all_goals cases v1
  all_goals go_wp2_with fail
  all_goals first
    | (refine (upTo_is T1.out (by decide) H2.out).mono ?_
       rintro e w1 ⟨rfl, rfl⟩
       go_wp2)
    | skip
  all_goals go_ret
  all_goals exact ⟨rfl, G1.out⟩
set_option maxHeartbeats 2000000 in
theorem isList_3 (c : Nat → Nat) (h : c 0 = 3) {v1 v2 : Bool} (h1 : upC c 1 3 4294967295 = v1) (h2 : upC c 4 13 0 = v2) (w : World) : Calls Tryz.prog 83 #[.agg (wl c).toArray] w fun e w' => e = .returned (.bool (v1 && v2)) ∧ Below w.heap.size w w' := by
  have G : Hid (Below w.heap.size w (w.alloc (.cells (wl c).toArray 119))) := new_below w _
  have T : Hid (Bo (w.alloc (.cells (wl c).toArray 119)) w.heap.size (wl c)) := Bo.born w (wl c) _ rfl
  have g0 : (w.alloc (.cells (wl c).toArray 119)).cell? ⟨w.heap.size, 0, none⟩ = some (.int .u64 3) := by have := T.out.word (show 0 < 17 by decide); rw [h] at this; exact this
  have H1 : Hid _ := h1
  have H2 : Hid _ := h2
  clear h h1 h2
  go_enter Tryz.func83, Tryz.ntmps83
  go_wp2_with fail
  generalize w.alloc (.cells (wl c).toArray 119) = W at T G g0 ⊢
  have T1 : Hid (Bo W.drew w.heap.size (wl c)) := T.out.drew
  have G1 : Hid (Below w.heap.size w W.drew) := Below.drew G.out
  go_region
  all_goals go_wp2_with fail
  all_goals
    refine (upTo_is T1.out (by decide) H1.out).mono ?_
    rintro e w1 ⟨rfl, rfl⟩
  all_goals cases v1
  all_goals go_wp2_with fail
  all_goals first
    | (refine (upTo_is T1.out (by decide) H2.out).mono ?_
       rintro e w1 ⟨rfl, rfl⟩
       go_wp2)
    | skip
  all_goals go_ret
  all_goals exact ⟨rfl, G1.out⟩
set_option maxHeartbeats 2000000 in
theorem isList_4 (c : Nat → Nat) (h : c 0 = 4) {v1 v2 : Bool} (h1 : upC c 1 4 4294967295 = v1) (h2 : upC c 5 12 0 = v2) (w : World) : Calls Tryz.prog 83 #[.agg (wl c).toArray] w fun e w' => e = .returned (.bool (v1 && v2)) ∧ Below w.heap.size w w' := by
  have G : Hid (Below w.heap.size w (w.alloc (.cells (wl c).toArray 119))) := new_below w _
  have T : Hid (Bo (w.alloc (.cells (wl c).toArray 119)) w.heap.size (wl c)) := Bo.born w (wl c) _ rfl
  have g0 : (w.alloc (.cells (wl c).toArray 119)).cell? ⟨w.heap.size, 0, none⟩ = some (.int .u64 4) := by have := T.out.word (show 0 < 17 by decide); rw [h] at this; exact this
  have H1 : Hid _ := h1
  have H2 : Hid _ := h2
  clear h h1 h2
  go_enter Tryz.func83, Tryz.ntmps83
  go_wp2_with fail
  generalize w.alloc (.cells (wl c).toArray 119) = W at T G g0 ⊢
  have T1 : Hid (Bo W.drew w.heap.size (wl c)) := T.out.drew
  have G1 : Hid (Below w.heap.size w W.drew) := Below.drew G.out
  go_region
  all_goals go_wp2_with fail
  all_goals
    refine (upTo_is T1.out (by decide) H1.out).mono ?_
    rintro e w1 ⟨rfl, rfl⟩
  all_goals cases v1
  all_goals go_wp2_with fail
  all_goals first
    | (refine (upTo_is T1.out (by decide) H2.out).mono ?_
       rintro e w1 ⟨rfl, rfl⟩
       go_wp2)
    | skip
  all_goals go_ret
  all_goals exact ⟨rfl, G1.out⟩
set_option maxHeartbeats 2000000 in
theorem isList_5 (c : Nat → Nat) (h : c 0 = 5) {v1 v2 : Bool} (h1 : upC c 1 5 4294967295 = v1) (h2 : upC c 6 11 0 = v2) (w : World) : Calls Tryz.prog 83 #[.agg (wl c).toArray] w fun e w' => e = .returned (.bool (v1 && v2)) ∧ Below w.heap.size w w' := by
  have G : Hid (Below w.heap.size w (w.alloc (.cells (wl c).toArray 119))) := new_below w _
  have T : Hid (Bo (w.alloc (.cells (wl c).toArray 119)) w.heap.size (wl c)) := Bo.born w (wl c) _ rfl
  have g0 : (w.alloc (.cells (wl c).toArray 119)).cell? ⟨w.heap.size, 0, none⟩ = some (.int .u64 5) := by have := T.out.word (show 0 < 17 by decide); rw [h] at this; exact this
  have H1 : Hid _ := h1
  have H2 : Hid _ := h2
  clear h h1 h2
  go_enter Tryz.func83, Tryz.ntmps83
  go_wp2_with fail
  generalize w.alloc (.cells (wl c).toArray 119) = W at T G g0 ⊢
  have T1 : Hid (Bo W.drew w.heap.size (wl c)) := T.out.drew
  have G1 : Hid (Below w.heap.size w W.drew) := Below.drew G.out
  go_region
  all_goals go_wp2_with fail
  all_goals
    refine (upTo_is T1.out (by decide) H1.out).mono ?_
    rintro e w1 ⟨rfl, rfl⟩
  all_goals cases v1
  all_goals go_wp2_with fail
  all_goals first
    | (refine (upTo_is T1.out (by decide) H2.out).mono ?_
       rintro e w1 ⟨rfl, rfl⟩
       go_wp2)
    | skip
  all_goals go_ret
  all_goals exact ⟨rfl, G1.out⟩
set_option maxHeartbeats 2000000 in
theorem isList_6 (c : Nat → Nat) (h : c 0 = 6) {v1 v2 : Bool} (h1 : upC c 1 6 4294967295 = v1) (h2 : upC c 7 10 0 = v2) (w : World) : Calls Tryz.prog 83 #[.agg (wl c).toArray] w fun e w' => e = .returned (.bool (v1 && v2)) ∧ Below w.heap.size w w' := by
  have G : Hid (Below w.heap.size w (w.alloc (.cells (wl c).toArray 119))) := new_below w _
  have T : Hid (Bo (w.alloc (.cells (wl c).toArray 119)) w.heap.size (wl c)) := Bo.born w (wl c) _ rfl
  have g0 : (w.alloc (.cells (wl c).toArray 119)).cell? ⟨w.heap.size, 0, none⟩ = some (.int .u64 6) := by have := T.out.word (show 0 < 17 by decide); rw [h] at this; exact this
  have H1 : Hid _ := h1
  have H2 : Hid _ := h2
  clear h h1 h2
  go_enter Tryz.func83, Tryz.ntmps83
  go_wp2_with fail
  generalize w.alloc (.cells (wl c).toArray 119) = W at T G g0 ⊢
  have T1 : Hid (Bo W.drew w.heap.size (wl c)) := T.out.drew
  have G1 : Hid (Below w.heap.size w W.drew) := Below.drew G.out
  go_region
  all_goals go_wp2_with fail
  all_goals
    refine (upTo_is T1.out (by decide) H1.out).mono ?_
    rintro e w1 ⟨rfl, rfl⟩
  all_goals cases v1
  all_goals go_wp2_with fail
  all_goals first
    | (refine (upTo_is T1.out (by decide) H2.out).mono ?_
       rintro e w1 ⟨rfl, rfl⟩
       go_wp2)
    | skip
  all_goals go_ret
  all_goals exact ⟨rfl, G1.out⟩
theorem isList_is (c : Nat → Nat) (w : World) : Calls Tryz.prog 83 #[.agg (wl c).toArray] w fun e w' => e = .returned (.bool (isLb c)) ∧ Below w.heap.size w w' := by
  by_cases h : c 0 ≤ 6
  · have hd : decide (c 0 ≤ 6) = true := by simp [h]
    have hh : c 0 = 0 ∨ c 0 = 1 ∨ c 0 = 2 ∨ c 0 = 3 ∨ c 0 = 4 ∨ c 0 = 5 ∨ c 0 = 6 := by omega
    unfold isLb
    rw [hd, Bool.true_and]
    rcases hh with e | e | e | e | e | e | e <;> rw [e]
    · exact isList_0 c e rfl rfl w
    · exact isList_1 c e rfl rfl w
    · exact isList_2 c e rfl rfl w
    · exact isList_3 c e rfl rfl w
    · exact isList_4 c e rfl rfl w
    · exact isList_5 c e rfl rfl w
    · exact isList_6 c e rfl rfl w
  · have hd : decide (c 0 ≤ 6) = false := by simp; omega
    unfold isLb
    rw [hd, Bool.false_and]
    exact isList_no c h w
end Go.Proofs.YteogbpaaacmllaaGreatDoor.Tab
namespace Go.Proofs.YteogbpaaacmllaaGreatDoor
open Go.Shelf
def sh_laysNm215_ren : Go.Shelf.Ren := ⟨fun | 15 => 120 | n => n, fun | 22 => 66 | 3 => 3 | 4 => 4 | n => n, fun | n => n⟩
theorem sh_laysNm215 : Go.Proofs.Lays2.n15 Tryz.prog sh_laysNm215_ren := {
  mixed := by kernel_rfl
  f15 := Tryz.func120.trans (congrArg some (by kernel_rfl))
  t3 := Tryz.underlying3
  a3 := Tryz.isAgg3
  z3 := Tryz.sizeOf3
  v3 := Tryz.zeroValue3
  t4 := Tryz.underlying4
  a4 := Tryz.isAgg4
  z4 := Tryz.sizeOf4
  v4 := Tryz.zeroValue4
  t22 := Tryz.underlying66
  a22 := Tryz.isAgg66
  z22 := Tryz.sizeOf66
  v22 := Tryz.zeroValue66
  i3 := by kernel_rfl }
open Go.RowKit Go.Lib in
theorem sh_slices_Clone_int (b off n c : Nat) (zs : List Int) (w : World) (hz : n ≤ zs.length) (hbig : n * 8 ≤ 140737488355328) (hc : ∀ j, j < zs.length → w.cell? ⟨b, off + j, none⟩ = some (.int .i64 (zs.getD j 0))) :
    Calls Tryz.prog 120 #[.slice (some ⟨b, off, none⟩) n c] w fun e w' => ∃ v', e = .returned v' ∧ w'.ownsRow w.heap.size 3 1 v' n ((zs.take n).map (Value.int .i64)) ∧ v' ≠ .slice none 0 0 ∧ Below w.heap.size w w' := Any.slices_Clone_int sh_laysNm215 b off n c zs w hz hbig hc
open Go.RowKit Go.Lib in
theorem sh_slices_Clone_int_nil (n c : Nat) (w : World) :
    Calls Tryz.prog 120 #[.slice none n c] w fun e w' => e = .returned (.slice none 0 0) ∧ w' = w := Any.slices_Clone_int_nil sh_laysNm215 n c w
open Go.RowKit Go.Lib in
theorem sh_slices_Clone_int_zero (a : Addr) (c : Nat) (w : World) :
    Calls Tryz.prog 120 #[.slice (some a) 0 c] w fun e w' => ∃ v', e = .returned v' ∧ w'.ownsRow w.heap.size 3 1 v' 0 [] ∧ v' ≠ .slice none 0 0 ∧ Below w.heap.size w w' := Any.slices_Clone_int_zero sh_laysNm215 a c w
end Go.Proofs.YteogbpaaacmllaaGreatDoor
namespace Go.Proofs.YteogbpaaacmllaaGreatDoor
set_option maxRecDepth 20000
open Go.RowKit

theorem Clone_is {B : Nat} {v : Value} {xs : List Int} {w : World} (h : IsL B w v xs) (hx : xs.length ≤ 1000000) :
    Calls Tryz.prog 120 #[v] w fun e w' => ∃ v', e = .returned v' ∧ Own w.heap.size w' v' xs ∧ Below w.heap.size w w' := by
  rcases h with ⟨rfl, a, c, rfl⟩ | ⟨b, off, c, rfl, _, h0, hc, hcell, _⟩
  · cases a with
    | none => exact (sh_slices_Clone_int_nil 0 c w).mono fun e w' ⟨he, hw⟩ => ⟨_, he, World.ownsRow_nil _ _ _ _, hw ▸ Below.refl _ _⟩
    | some a => exact (sh_slices_Clone_int_zero a c w).mono fun e w' ⟨v', he, ho, _, hb⟩ => ⟨v', he, ho, hb⟩
  · refine (sh_slices_Clone_int b off xs.length c xs w (Nat.le_refl _) (by omega) hcell).mono fun e w' ⟨v', he, ho, _, hb⟩ => ⟨v', he, ?_, hb⟩
    rw [List.take_length] at ho
    exact ho

end Go.Proofs.YteogbpaaacmllaaGreatDoor
namespace Go.Proofs.YteogbpaaacmllaaGreatDoor
set_option maxRecDepth 20000
open Go.RowKit

theorem info_int : (Tryz.prog.info? 3).map (fun i => (i.zero, i.size, i.bytes)) = some (some (.int .i64 0), 1, 8) := by kernel_rfl

theorem qput_full {B : Nat} {v : Value} {xs : List Int} {w : World} (x : Int) (h : IsL B w v xs) (h6 : 6 ≤ xs.length) :
    Calls Tryz.prog 121 #[v, .int .i64 x] w fun e w' => e = .returned (.tuple #[v, .agg #[.int .i64 3, .int .i64 0]]) ∧ Below w.heap.size w w' := by
  rcases h with ⟨rfl, a, c, rfl⟩ | ⟨b, off, c, rfl, hB, h0, hc, hcell, hfz⟩
  · simp at h6
  · clear hcell hfz
    generalize xs.length = n at *
    have h6' : (6 : Int) ≤ (n : Int) := by omega
    go_enter Tryz.func121, Tryz.ntmps121
    go_wp2
    exact bodyPost_ret (v := .tuple #[.slice (some ⟨b, off, none⟩) n c, .agg #[.int .i64 3, .int .i64 0]]) (by simp [results, Tryz.results121, go_sem]) rfl ⟨rfl, (Below.refl _ w).alloc (Nat.le_refl _) _⟩

theorem qput_room {B : Nat} {v : Value} {xs : List Int} {w : World} (x : Int) (h : Own B w v xs) (hB : B ≤ w.heap.size) (h6 : xs.length < 6) :
    Calls Tryz.prog 121 #[v, .int .i64 x] w fun e w' => ∃ v', e = .returned (.tuple #[v', .agg #[.int .i64 1, .int .i64 0]]) ∧ Own B w' v' (xs ++ [x]) ∧ Below B w w' := by
  obtain ⟨i0, hi, hz0, hz1, hz2⟩ := info_parts info_int
  obtain ⟨a, c, rfl⟩ := h.form
  have X : Hid (Own B w (.slice a xs.length c) xs) := h
  have hlt : Hid (∀ k, (Value.slice a xs.length c).ownBlock = some k → B ≤ k ∧ k < w.heap.size) := h.lt
  clear h
  have h6' : (xs.length : Int) < 6 := by omega
  go_enter Tryz.func121, Tryz.ntmps121
  go_wp2_with (at_builtin; refine wpList_append_own_at _ rfl _ _ 66 rfl B 3 i0 (.int .i64 0) 1 8 Tryz.underlying66 hi hz0 hz1 hz2 rfl (by decide) _ _ _ rfl ((X.out.alloc _).alloc _) ⟨w.heap.size + 1, 0, none⟩ 1 1 [.int .i64 x] rfl rfl ?c1 ?c2 ?c3 ?c4 ?c5 ?_)
  case c1 => intro j u hj; simpa using cell_one_new (w.alloc (.cells #[.int .i64 0, .int .i64 0] 58)) (.int .i64 x) 3 j u hj
  case c2 => intro u hu; simp at hu; subst hu; rfl
  case c3 => unfold maxLen; omega
  case c4 => omega
  case c5 => simp; omega
  intro v' w1 hown hgrow _ hat
  have hne : some w.heap.size ≠ (Value.slice a xs.length c).ownBlock := fun e => by have := hlt.out _ e.symm; omega
  have hblk := hgrow.block w.heap.size (by simp; omega) hne
  have hne' : v'.ownBlock ≠ some w.heap.size := by
    rcases hat with h | h
    · rw [h]; exact hne.symm
    · rw [h]; simp; omega
  have c0 : w1.cell? ⟨w.heap.size, 0, none⟩ = some (.int .i64 0) := by rw [World.cell?_of_block hblk]; simp
  have c1 : w1.cell? ⟨w.heap.size, 1, none⟩ = some (.int .i64 0) := by rw [World.cell?_of_block hblk]; simp
  have f0 : w1.frozen? ⟨w.heap.size, 0, none⟩ = false := by rw [World.frozen?_of_block hblk]; simp
  have f1 : w1.frozen? ⟨w.heap.size, 1, none⟩ = false := by rw [World.frozen?_of_block hblk]; simp
  have O : Hid (Own B w1 v' (xs ++ [x])) := by
    show w1.ownsRow B _ 1 v' _ _
    simpa using hown
  have G : Hid (Below B w w1) := (((Below.refl B w).alloc hB _).alloc (by simp; omega) _).grown hgrow (by simp; omega) (fun k hk => (hlt.out k hk).1)
  clear hown hgrow hat hblk hne
  go_wp2
  refine bodyPost_ret (v := .tuple #[v', .agg #[.int .i64 1, .int .i64 0]]) ?_ rfl ⟨v', rfl, ?_, ?_⟩
  · have d0 := World.cell?_setCell_same w1 ⟨w.heap.size, 0, none⟩ (.int .i64 1) c0
    have d1 : (w1.setCell ⟨w.heap.size, 0, none⟩ (.int .i64 1)).cell? ⟨w.heap.size, 1, none⟩ = some (.int .i64 0) := by rw [World.cell?_setCell_other]; exact c1; simp
    simp [results, Tryz.results121, go_sem, d0, d1]
  · exact ownsRow_setCell_other (ownsRow_setCell_other O.out hne' _) hne' _
  · exact (G.out.setCell hB _).setCell hB _

theorem qtake_none (a : Option Addr) (c : Nat) (w : World) :
    Calls Tryz.prog 122 #[.slice a 0 c] w fun e w' => e = .returned (.tuple #[.slice a 0 c, .agg #[.int .i64 2, .int .i64 0]]) ∧ Below w.heap.size w w' := by
  go_enter Tryz.func122, Tryz.ntmps122
  go_wp2
  exact bodyPost_ret (v := .tuple #[.slice a 0 c, .agg #[.int .i64 2, .int .i64 0]]) (by simp [results, Tryz.results122, go_sem]) rfl ⟨rfl, (Below.refl _ w).alloc (Nat.le_refl _) _⟩

theorem tail_is {B : Nat} {w : World} {b off n c : Nat} {r : List Int} (hB : B ≤ b) (N : n = r.length + 1) (hc : n ≤ c) (T : ∀ j, j < r.length → w.cell? ⟨b, off + (j + 1), none⟩ = some (.int .i64 (r.getD j 0)))
    (Z : 0 < B → ∀ j, j < r.length → w.frozen? ⟨b, off + (j + 1), none⟩ = false) : IsL B w (.slice (some ⟨b, off + 1, none⟩) (n - 1) (c - 1)) r := by
  subst N
  by_cases h : r.length = 0
  · have : r = [] := List.eq_nil_of_length_eq_zero h
    subst this
    exact IsL.nil _ _ _ _
  · refine Or.inr ⟨b, off + 1, c - 1, rfl, hB, by omega, by omega, fun j hj => ?_, fun h0 j hj => ?_⟩
    rotate_left
    · have := Z h0 j hj
      rwa [show off + (j + 1) = off + 1 + j by omega] at this
    have := T j hj
    rwa [show off + (j + 1) = off + 1 + j by omega] at this

theorem qtake_one {B : Nat} {v : Value} {x : Int} {r : List Int} {w : World} (h : IsL B w v (x :: r)) :
    Calls Tryz.prog 122 #[v] w fun e w' => ∃ v', e = .returned (.tuple #[v', .agg #[.int .i64 1, .int .i64 x]]) ∧ IsL B w' v' r ∧ Below w.heap.size w w' := by
  rcases h with ⟨h, _⟩ | ⟨b, off, c, rfl, hB, h0, hc, hcell, hfz⟩
  · cases h
  have hx : w.cell? ⟨b, off, none⟩ = some (.int .i64 x) := hcell 0 (Nat.succ_pos _)
  have T : Hid (∀ j, j < r.length → w.cell? ⟨b, off + (j + 1), none⟩ = some (.int .i64 (r.getD j 0))) := fun j hj => by simpa using hcell (j + 1) (by simpa using hj)
  have Z : Hid (0 < B → ∀ j, j < r.length → w.frozen? ⟨b, off + (j + 1), none⟩ = false) := fun h0 j hj => hfz h0 (j + 1) (by simpa using hj)
  clear hcell hfz
  have hbl : b < w.heap.size := World.block_lt_of_cell? _ _ hx
  obtain ⟨n, hn⟩ : ∃ n, n = (x :: r).length := ⟨_, rfl⟩
  have N : Hid (n = r.length + 1) := show n = r.length + 1 by simpa using hn
  rw [← hn] at h0 hc ⊢
  clear hn
  have h1 : (1 : Int) ≤ (n : Int) := by omega
  have h2 : (n : Int) ≤ (c : Int) := by omega
  have h3 : (0 : Int) < (n : Int) := by omega
  have h4 : ((n : Int) == 0) = false := by simp; omega
  go_enter Tryz.func122, Tryz.ntmps122
  go_wp2_with fail
  go_region
  all_goals go_wp2
  · have hr : r = [] := List.eq_nil_of_length_eq_zero (by have := N.out; omega)
    subst hr
    have hn1 : n = 1 := N.out
    subst hn1
    exact bodyPost_ret (v := .tuple #[.slice (some ⟨b, off, none⟩) 0 0, .agg #[.int .i64 1, .int .i64 x]]) (by simp [results, Tryz.results122, go_sem]) rfl ⟨_, rfl, IsL.nil _ _ _ _, ((Below.refl _ w).alloc (Nat.le_refl _) _).drew⟩
  · have hg : Below w.heap.size w (w.alloc (.cells #[.int .i64 1, .int .i64 x] 58)).drew := ((Below.refl _ w).alloc (Nat.le_refl _) _).drew
    exact bodyPost_ret (v := .tuple #[.slice (some ⟨b, off + 1, none⟩) (n - 1) (c - 1), .agg #[.int .i64 1, .int .i64 x]]) (by simp [results, Tryz.results122, go_sem]) rfl ⟨_, rfl, (tail_is hB N.out hc T.out Z.out).later hg, hg⟩
end Go.Proofs.YteogbpaaacmllaaGreatDoor
namespace Go.Proofs.YteogbpaaacmllaaGreatDoor
set_option maxRecDepth 20000
open Go.RowKit

/-- What an operation makes of a queue, and its answer: 5.1. -/
def qdo (xs : List Int) (what value : Int) : List Int × Int × Int :=
  if what = 1 then (if 6 ≤ xs.length then (xs, 3, 0) else (xs ++ [value], 1, 0))
  else if what = 2 then (match xs with | [] => ([], 2, 0) | x :: r => (r, 1, x))
  else if what = 5 then (match xs with | [] => ([], 2, 0) | x :: r => (x :: r, 1, x))
  else if what = 6 then (xs, 1, xs.length) else (xs, 5, 0)

/-- An operation and an answer to be, in the two blocks behind w's. -/
structure Fr (w w' : World) (o k x : Int) : Prop where
  o0 : w'.cell? ⟨w.heap.size, 0, none⟩ = some (.int .i64 o)
  o1 : w'.cell? ⟨w.heap.size, 1, none⟩ = some (.int .i64 k)
  o2 : w'.cell? ⟨w.heap.size, 2, none⟩ = some (.int .i64 x)
  r0 : w'.cell? ⟨w.heap.size + 1, 0, none⟩ = some (.int .i64 0)
  r1 : w'.cell? ⟨w.heap.size + 1, 1, none⟩ = some (.int .i64 0)
  f0 : w'.frozen? ⟨w.heap.size + 1, 0, none⟩ = false
  f1 : w'.frozen? ⟨w.heap.size + 1, 1, none⟩ = false
  gr : Below w.heap.size w w'
  sz : w.heap.size + 2 ≤ w'.heap.size

def two (w : World) (o k x : Int) : World := (w.alloc (.cells #[.int .i64 o, .int .i64 k, .int .i64 x] 44)).alloc (.cells #[.int .i64 0, .int .i64 0] 58)
theorem Fr.start (w : World) (o k x : Int) : Fr w (two w o k x) o k x where
  o0 := by simp [two]
  o1 := by simp [two]
  o2 := by simp [two]
  r0 := by simp [two]
  r1 := by simp [two]
  f0 := by simp [two]
  f1 := by simp [two]
  gr := ((Below.refl _ w).alloc (Nat.le_refl _) _).alloc (by simp) _
  sz := by simp [two]

theorem Fr.later {w w1 w2 : World} {o k x : Int} (h : Fr w w1 o k x) (hb : Below (w.heap.size + 2) w1 w2) : Fr w w2 o k x where
  o0 := by rw [hb.cell (p := ⟨w.heap.size, 0, none⟩) (by simp)]; exact h.o0
  o1 := by rw [hb.cell (p := ⟨w.heap.size, 1, none⟩) (by simp)]; exact h.o1
  o2 := by rw [hb.cell (p := ⟨w.heap.size, 2, none⟩) (by simp)]; exact h.o2
  r0 := by rw [hb.cell (p := ⟨w.heap.size + 1, 0, none⟩) (by simp)]; exact h.r0
  r1 := by rw [hb.cell (p := ⟨w.heap.size + 1, 1, none⟩) (by simp)]; exact h.r1
  f0 := by rw [World.frozen?_of_block (hb.block (w.heap.size + 1) (by omega))]; exact h.f0
  f1 := by rw [World.frozen?_of_block (hb.block (w.heap.size + 1) (by omega))]; exact h.f1
  gr := h.gr.trans (hb.mono (by omega))
  sz := Nat.le_trans h.sz hb.size
theorem two_size (w : World) (o k x : Int) : (two w o k x).heap.size = w.heap.size + 2 := by simp [two]

/-- The world behind an answer that is written. -/
def wr (w W : World) (c y : Int) : World := (W.setCell ⟨w.heap.size + 1, 0, none⟩ (.int .i64 c)).setCell ⟨w.heap.size + 1, 1, none⟩ (.int .i64 y)
theorem Fr.ends {w W : World} {o k x : Int} (h : Fr w W o k x) (c y : Int) : (wr w W c y).cell? ⟨w.heap.size + 1, 0, none⟩ = some (.int .i64 c) ∧ (wr w W c y).cell? ⟨w.heap.size + 1, 1, none⟩ = some (.int .i64 y) ∧ Below w.heap.size w (wr w W c y) := by
  have d0 := World.cell?_setCell_same W ⟨w.heap.size + 1, 0, none⟩ (.int .i64 c) h.r0
  have d1 : (W.setCell ⟨w.heap.size + 1, 0, none⟩ (.int .i64 c)).cell? ⟨w.heap.size + 1, 1, none⟩ = some (.int .i64 0) := by rw [World.cell?_setCell_other]; exact h.r1; simp
  refine ⟨?_, World.cell?_setCell_same _ _ _ d1, (h.gr.setCell (by simp) _).setCell (by simp) _⟩
  rw [wr, World.cell?_setCell_other]
  · exact d0
  · simp
theorem IsL.wr {w W : World} {v : Value} {xs : List Int} (h : IsL (w.heap.size + 2) W v xs) (c y : Int) : IsL w.heap.size (wr w W c y) v xs :=
  ((h.setCell (by simp) _).setCell (by simp) _).mono (by omega)

/-- What Do has made: the slice and the answer. -/
def Made (w : World) (ys : List Int) (c y : Int) (e : Ending) (w' : World) : Prop :=
  ∃ v', e = .returned (.tuple #[v', .agg #[.int .i64 c, .int .i64 y]]) ∧ IsL w.heap.size w' v' ys ∧ Below w.heap.size w w'

theorem Fr.made {w W : World} {o k x : Int} {v : Value} {ys : List Int} (h : Fr w W o k x) (c y : Int) (I : IsL (w.heap.size + 2) W v ys) : Made w ys c y (.returned (.tuple #[v, .agg #[.int .i64 c, .int .i64 y]])) (wr w W c y) :=
  ⟨v, rfl, I.wr c y, (h.ends c y).2.2⟩
theorem Fr.ends2 {w W : World} {o k x : Int} (h : Fr w W o k x) (c y : Int) (O : Obj) : ((wr w W c y).alloc O).cell? ⟨w.heap.size + 1, 0, none⟩ = some (.int .i64 c) ∧ ((wr w W c y).alloc O).cell? ⟨w.heap.size + 1, 1, none⟩ = some (.int .i64 y) ∧ Below w.heap.size w ((wr w W c y).alloc O).drew := by
  obtain ⟨e0, e1, e2⟩ := h.ends c y
  have hb : Below (wr w W c y).heap.size (wr w W c y) ((wr w W c y).alloc O) := (Below.refl _ _).alloc (Nat.le_refl _) _
  refine ⟨?_, ?_, (e2.alloc e2.size _).drew⟩
  · rw [hb.cell (p := ⟨w.heap.size + 1, 0, none⟩) (World.block_lt_of_cell? _ _ e0)]; exact e0
  · rw [hb.cell (p := ⟨w.heap.size + 1, 1, none⟩) (World.block_lt_of_cell? _ _ e1)]; exact e1
theorem Fr.made2 {w W : World} {o k x : Int} {v : Value} {ys : List Int} (h : Fr w W o k x) (c y : Int) (O : Obj) (I : IsL (w.heap.size + 2) W v ys) : Made w ys c y (.returned (.tuple #[v, .agg #[.int .i64 c, .int .i64 y]])) ((wr w W c y).alloc O).drew :=
  ⟨v, rfl, (I.wr c y).later ((Below.refl _ _).alloc (Nat.le_refl _) _).drew, (h.ends2 c y O).2.2⟩

set_option maxHeartbeats 1000000 in
theorem qDo_wrong {B : Nat} {v : Value} {xs : List Int} {w : World} (o k x : Int) (h : IsL B w v xs) (hx : xs.length ≤ 1000000) (n1 : o ≠ 1) (n2 : o ≠ 2) (n5 : o ≠ 5) (n6 : o ≠ 6) :
    Calls Tryz.prog 108 #[v, .agg #[.int .i64 o, .int .i64 k, .int .i64 x]] w (Made w xs 5 0) := by
  have F0 : Hid (Fr w (two w o k x) o k x) := Fr.start w o k x
  have X : Hid (IsL B (two w o k x) v xs) := h.later F0.out.gr
  clear h
  go_enter Tryz.func108, Tryz.ntmps108
  go_wp2_with fail
  refine (Clone_is (w := two w o k x) X.out hx).mono ?_
  rintro e w1 ⟨v1, rfl, hown, hb⟩
  rw [two_size] at hown hb
  have F1 : Hid (Fr w w1 o k x) := F0.out.later hb
  have O1 : Hid (Own (w.heap.size + 2) w1 v1 xs) := hown
  clear hown hb F0 X
  have o0 := F1.out.o0
  have o2 := F1.out.o2
  have r0 := F1.out.r0
  have r1 := F1.out.r1
  have f0 := F1.out.f0
  have f1 := F1.out.f1
  have sz := F1.out.sz
  obtain ⟨a, c, rfl⟩ := O1.out.form
  go_wp2
  refine bodyPost_ret (v := .tuple #[.slice a xs.length c, .agg #[.int .i64 5, .int .i64 0]]) ?_ rfl (F1.out.made 5 0 O1.out.isL)
  have E := F1.out.ends 5 0
  unfold wr at E
  simp [results, Tryz.results108, go_sem, E.1, E.2.1]

set_option maxHeartbeats 1000000 in
theorem qDo_count {B : Nat} {v : Value} {xs : List Int} {w : World} (k x : Int) (h : IsL B w v xs) (hx : xs.length ≤ 1000000)  :
    Calls Tryz.prog 108 #[v, .agg #[.int .i64 6, .int .i64 k, .int .i64 x]] w (Made w xs 1 xs.length) := by
  have F0 : Hid (Fr w (two w 6 k x) 6 k x) := Fr.start w 6 k x
  have X : Hid (IsL B (two w 6 k x) v xs) := h.later F0.out.gr
  clear h
  go_enter Tryz.func108, Tryz.ntmps108
  go_wp2_with fail
  refine (Clone_is (w := two w 6 k x) X.out hx).mono ?_
  rintro e w1 ⟨v1, rfl, hown, hb⟩
  rw [two_size] at hown hb
  have F1 : Hid (Fr w w1 6 k x) := F0.out.later hb
  have O1 : Hid (Own (w.heap.size + 2) w1 v1 xs) := hown
  clear hown hb F0 X
  have o0 := F1.out.o0
  have o2 := F1.out.o2
  have r0 := F1.out.r0
  have r1 := F1.out.r1
  have f0 := F1.out.f0
  have f1 := F1.out.f1
  have sz := F1.out.sz
  obtain ⟨a, c, rfl⟩ := O1.out.form
  go_wp2
  refine bodyPost_ret (v := .tuple #[.slice a xs.length c, .agg #[.int .i64 1, .int .i64 xs.length]]) ?_ rfl (F1.out.made 1 xs.length O1.out.isL)
  have E := F1.out.ends 1 xs.length
  unfold wr at E
  simp [results, Tryz.results108, go_sem, E.1, E.2.1]

set_option maxHeartbeats 1000000 in
theorem qDo_full {B : Nat} {v : Value} {xs : List Int} {w : World} (k x : Int) (h : IsL B w v xs) (hx : xs.length ≤ 1000000) (h6 : 6 ≤ xs.length) :
    Calls Tryz.prog 108 #[v, .agg #[.int .i64 1, .int .i64 k, .int .i64 x]] w (Made w xs 3 0) := by
  have F0 : Hid (Fr w (two w 1 k x) 1 k x) := Fr.start w 1 k x
  have X : Hid (IsL B (two w 1 k x) v xs) := h.later F0.out.gr
  clear h
  go_enter Tryz.func108, Tryz.ntmps108
  go_wp2_with fail
  refine (Clone_is (w := two w 1 k x) X.out hx).mono ?_
  rintro e w1 ⟨v1, rfl, hown, hb⟩
  rw [two_size] at hown hb
  have F1 : Hid (Fr w w1 1 k x) := F0.out.later hb
  have O1 : Hid (Own (w.heap.size + 2) w1 v1 xs) := hown
  clear hown hb F0 X
  have o0 := F1.out.o0
  have o2 := F1.out.o2
  have r0 := F1.out.r0
  have r1 := F1.out.r1
  have f0 := F1.out.f0
  have f1 := F1.out.f1
  have sz := F1.out.sz
  go_wp2_with fail
  refine (qput_full x O1.out.isL h6).mono ?_
  rintro e w2 ⟨rfl, hb⟩
  have F2 : Hid (Fr w w2 1 k x) := F1.out.later (hb.mono F1.out.sz)
  have I2 : Hid (IsL (w.heap.size + 2) w2 v1 xs) := O1.out.isL.later hb
  clear hb o0 o2 r0 r1 f0 f1 sz F1 O1
  have o0 := F2.out.o0
  have o2 := F2.out.o2
  have r0 := F2.out.r0
  have r1 := F2.out.r1
  have f0 := F2.out.f0
  have f1 := F2.out.f1
  have sz := F2.out.sz
  go_wp2
  refine bodyPost_ret (v := .tuple #[v1, .agg #[.int .i64 3, .int .i64 0]]) ?_ rfl (F2.out.made 3 0 I2.out)
  have E := F2.out.ends 3 0
  unfold wr at E
  simp [results, Tryz.results108, go_sem, E.1, E.2.1]

set_option maxHeartbeats 1000000 in
theorem qDo_put {B : Nat} {v : Value} {xs : List Int} {w : World} (k x : Int) (h : IsL B w v xs) (hx : xs.length ≤ 1000000) (h6 : xs.length < 6) :
    Calls Tryz.prog 108 #[v, .agg #[.int .i64 1, .int .i64 k, .int .i64 x]] w (Made w (xs ++ [x]) 1 0) := by
  have F0 : Hid (Fr w (two w 1 k x) 1 k x) := Fr.start w 1 k x
  have X : Hid (IsL B (two w 1 k x) v xs) := h.later F0.out.gr
  clear h
  go_enter Tryz.func108, Tryz.ntmps108
  go_wp2_with fail
  refine (Clone_is (w := two w 1 k x) X.out hx).mono ?_
  rintro e w1 ⟨v1, rfl, hown, hb⟩
  rw [two_size] at hown hb
  have F1 : Hid (Fr w w1 1 k x) := F0.out.later hb
  have O1 : Hid (Own (w.heap.size + 2) w1 v1 xs) := hown
  clear hown hb F0 X
  have o0 := F1.out.o0
  have o2 := F1.out.o2
  have r0 := F1.out.r0
  have r1 := F1.out.r1
  have f0 := F1.out.f0
  have f1 := F1.out.f1
  have sz := F1.out.sz
  go_wp2_with fail
  refine (qput_room x O1.out F1.out.sz h6).mono ?_
  rintro e w2 ⟨v2, rfl, hown, hb⟩
  have F2 : Hid (Fr w w2 1 k x) := F1.out.later hb
  have I2 : Hid (IsL (w.heap.size + 2) w2 v2 (xs ++ [x])) := hown.isL
  clear hb hown o0 o2 r0 r1 f0 f1 sz F1 O1
  have o0 := F2.out.o0
  have o2 := F2.out.o2
  have r0 := F2.out.r0
  have r1 := F2.out.r1
  have f0 := F2.out.f0
  have f1 := F2.out.f1
  have sz := F2.out.sz
  go_wp2
  refine bodyPost_ret (v := .tuple #[v2, .agg #[.int .i64 1, .int .i64 0]]) ?_ rfl (F2.out.made 1 0 I2.out)
  have E := F2.out.ends 1 0
  unfold wr at E
  simp [results, Tryz.results108, go_sem, E.1, E.2.1]

set_option maxHeartbeats 1000000 in
theorem qDo_empty {B : Nat} {v : Value}  {w : World} (k x : Int) (h : IsL B w v ([] : List Int)) (hx : ([] : List Int).length ≤ 1000000)  :
    Calls Tryz.prog 108 #[v, .agg #[.int .i64 2, .int .i64 k, .int .i64 x]] w (Made w [] 2 0) := by
  have F0 : Hid (Fr w (two w 2 k x) 2 k x) := Fr.start w 2 k x
  have X : Hid (IsL B (two w 2 k x) v ([] : List Int)) := h.later F0.out.gr
  clear h
  go_enter Tryz.func108, Tryz.ntmps108
  go_wp2_with fail
  refine (Clone_is (w := two w 2 k x) X.out hx).mono ?_
  rintro e w1 ⟨v1, rfl, hown, hb⟩
  rw [two_size] at hown hb
  have F1 : Hid (Fr w w1 2 k x) := F0.out.later hb
  have O1 : Hid (Own (w.heap.size + 2) w1 v1 ([] : List Int)) := hown
  clear hown hb F0 X
  have o0 := F1.out.o0
  have o2 := F1.out.o2
  have r0 := F1.out.r0
  have r1 := F1.out.r1
  have f0 := F1.out.f0
  have f1 := F1.out.f1
  have sz := F1.out.sz
  obtain ⟨a, c, rfl⟩ := O1.out.form
  go_wp2_with fail
  refine (qtake_none a c w1).mono ?_
  rintro e w2 ⟨rfl, hb⟩
  have F2 : Hid (Fr w w2 2 k x) := F1.out.later (hb.mono F1.out.sz)
  clear hb o0 o2 r0 r1 f0 f1 sz F1 O1
  have o0 := F2.out.o0
  have o2 := F2.out.o2
  have r0 := F2.out.r0
  have r1 := F2.out.r1
  have f0 := F2.out.f0
  have f1 := F2.out.f1
  have sz := F2.out.sz
  go_wp2
  refine bodyPost_ret (v := .tuple #[.slice a 0 c, .agg #[.int .i64 2, .int .i64 0]]) ?_ rfl (F2.out.made 2 0 (IsL.nil _ _ _ _))
  have E := F2.out.ends 2 0
  unfold wr at E
  simp [results, Tryz.results108, go_sem, E.1, E.2.1]

set_option maxHeartbeats 1000000 in
theorem qDo_take {B : Nat} {v : Value} {z : Int} {r : List Int} {w : World} (k x : Int) (h : IsL B w v (z :: r)) (hx : (z :: r).length ≤ 1000000)  :
    Calls Tryz.prog 108 #[v, .agg #[.int .i64 2, .int .i64 k, .int .i64 x]] w (Made w r 1 z) := by
  have F0 : Hid (Fr w (two w 2 k x) 2 k x) := Fr.start w 2 k x
  have X : Hid (IsL B (two w 2 k x) v (z :: r)) := h.later F0.out.gr
  clear h
  go_enter Tryz.func108, Tryz.ntmps108
  go_wp2_with fail
  refine (Clone_is (w := two w 2 k x) X.out hx).mono ?_
  rintro e w1 ⟨v1, rfl, hown, hb⟩
  rw [two_size] at hown hb
  have F1 : Hid (Fr w w1 2 k x) := F0.out.later hb
  have O1 : Hid (Own (w.heap.size + 2) w1 v1 (z :: r)) := hown
  clear hown hb F0 X
  have o0 := F1.out.o0
  have o2 := F1.out.o2
  have r0 := F1.out.r0
  have r1 := F1.out.r1
  have f0 := F1.out.f0
  have f1 := F1.out.f1
  have sz := F1.out.sz
  go_wp2_with fail
  refine (qtake_one O1.out.isL).mono ?_
  rintro e w2 ⟨v2, rfl, hi, hb⟩
  have F2 : Hid (Fr w w2 2 k x) := F1.out.later (hb.mono F1.out.sz)
  have I2 : Hid (IsL (w.heap.size + 2) w2 v2 r) := hi
  clear hb hi o0 o2 r0 r1 f0 f1 sz F1 O1
  have o0 := F2.out.o0
  have o2 := F2.out.o2
  have r0 := F2.out.r0
  have r1 := F2.out.r1
  have f0 := F2.out.f0
  have f1 := F2.out.f1
  have sz := F2.out.sz
  go_wp2
  refine bodyPost_ret (v := .tuple #[v2, .agg #[.int .i64 1, .int .i64 z]]) ?_ rfl (F2.out.made 1 z I2.out)
  have E := F2.out.ends 1 z
  unfold wr at E
  simp [results, Tryz.results108, go_sem, E.1, E.2.1]

set_option maxHeartbeats 1000000 in
theorem qDo_peekno {B : Nat} {v : Value}  {w : World} (k x : Int) (h : IsL B w v ([] : List Int)) (hx : ([] : List Int).length ≤ 1000000)  :
    Calls Tryz.prog 108 #[v, .agg #[.int .i64 5, .int .i64 k, .int .i64 x]] w (Made w [] 2 0) := by
  have F0 : Hid (Fr w (two w 5 k x) 5 k x) := Fr.start w 5 k x
  have X : Hid (IsL B (two w 5 k x) v ([] : List Int)) := h.later F0.out.gr
  clear h
  go_enter Tryz.func108, Tryz.ntmps108
  go_wp2_with fail
  refine (Clone_is (w := two w 5 k x) X.out hx).mono ?_
  rintro e w1 ⟨v1, rfl, hown, hb⟩
  rw [two_size] at hown hb
  have F1 : Hid (Fr w w1 5 k x) := F0.out.later hb
  have O1 : Hid (Own (w.heap.size + 2) w1 v1 ([] : List Int)) := hown
  clear hown hb F0 X
  have o0 := F1.out.o0
  have o2 := F1.out.o2
  have r0 := F1.out.r0
  have r1 := F1.out.r1
  have f0 := F1.out.f0
  have f1 := F1.out.f1
  have sz := F1.out.sz
  obtain ⟨a, c, rfl⟩ := O1.out.form
  go_wp2_with fail
  refine (qtake_none a c w1).mono ?_
  rintro e w2 ⟨rfl, hb⟩
  have F3 : Hid (Fr w w2 5 k x) := F1.out.later (hb.mono F1.out.sz)
  have I3 : Hid (IsL (w.heap.size + 2) w2 (.slice a 0 c) []) := O1.out.isL.later hb
  clear hb  o0 o2 r0 r1 f0 f1 sz F1 O1
  have o0 := F3.out.o0
  have o2 := F3.out.o2
  have r0 := F3.out.r0
  have r1 := F3.out.r1
  have f0 := F3.out.f0
  have f1 := F3.out.f1
  have sz := F3.out.sz
  have l1 : w.heap.size + 1 < w2.heap.size := F3.out.sz
  go_wp2_with fail
  go_region
  all_goals go_wp2
  refine bodyPost_ret (v := .tuple #[(.slice a 0 c), .agg #[.int .i64 2, .int .i64 0]]) ?_ rfl (F3.out.made2 2 0 (.cells #[.int .i64 2, .int .i64 0] 58) I3.out)
  have E := F3.out.ends2 2 0 (.cells #[.int .i64 2, .int .i64 0] 58)
  unfold wr at E
  simp [results, Tryz.results108, go_sem, E.1, E.2.1]

set_option maxHeartbeats 1000000 in
theorem qDo_peek {B : Nat} {v : Value} {z : Int} {r : List Int} {w : World} (k x : Int) (h : IsL B w v (z :: r)) (hx : (z :: r).length ≤ 1000000)  :
    Calls Tryz.prog 108 #[v, .agg #[.int .i64 5, .int .i64 k, .int .i64 x]] w (Made w (z :: r) 1 z) := by
  have F0 : Hid (Fr w (two w 5 k x) 5 k x) := Fr.start w 5 k x
  have X : Hid (IsL B (two w 5 k x) v (z :: r)) := h.later F0.out.gr
  clear h
  go_enter Tryz.func108, Tryz.ntmps108
  go_wp2_with fail
  refine (Clone_is (w := two w 5 k x) X.out hx).mono ?_
  rintro e w1 ⟨v1, rfl, hown, hb⟩
  rw [two_size] at hown hb
  have F1 : Hid (Fr w w1 5 k x) := F0.out.later hb
  have O1 : Hid (Own (w.heap.size + 2) w1 v1 (z :: r)) := hown
  clear hown hb F0 X
  have o0 := F1.out.o0
  have o2 := F1.out.o2
  have r0 := F1.out.r0
  have r1 := F1.out.r1
  have f0 := F1.out.f0
  have f1 := F1.out.f1
  have sz := F1.out.sz
  go_wp2_with fail
  refine (qtake_one O1.out.isL).mono ?_
  rintro e w2 ⟨v2, rfl, hi, hb⟩
  have F3 : Hid (Fr w w2 5 k x) := F1.out.later (hb.mono F1.out.sz)
  have I3 : Hid (IsL (w.heap.size + 2) w2 v1 (z :: r)) := O1.out.isL.later hb
  clear hb hi o0 o2 r0 r1 f0 f1 sz F1 O1
  have o0 := F3.out.o0
  have o2 := F3.out.o2
  have r0 := F3.out.r0
  have r1 := F3.out.r1
  have f0 := F3.out.f0
  have f1 := F3.out.f1
  have sz := F3.out.sz
  have l1 : w.heap.size + 1 < w2.heap.size := F3.out.sz
  go_wp2_with fail
  go_region
  all_goals go_wp2
  refine bodyPost_ret (v := .tuple #[v1, .agg #[.int .i64 1, .int .i64 z]]) ?_ rfl (F3.out.made2 1 z (.cells #[.int .i64 1, .int .i64 z] 58) I3.out)
  have E := F3.out.ends2 1 z (.cells #[.int .i64 1, .int .i64 z] 58)
  unfold wr at E
  simp [results, Tryz.results108, go_sem, E.1, E.2.1]

theorem qdo_looks (ys : List Int) : ∃ r c y, qdo ys 5 0 = (ys, c, y) ∧ qdo ys 2 0 = (r, c, y) := by
  cases ys with
  | nil => exact ⟨[], 2, 0, rfl, rfl⟩
  | cons z r => exact ⟨r, 1, z, rfl, rfl⟩
theorem qdo_count (ys : List Int) (x : Int) : qdo ys 6 x = (ys, 1, (ys.length : Int)) := by simp [qdo]
theorem qDo_eq {B : Nat} {v : Value} {xs ys : List Int} {w : World} {o x c y : Int} (k : Int) (h : IsL B w v xs) (hx : xs.length ≤ 1000000) (hq : qdo xs o x = (ys, c, y)) :
    Calls Tryz.prog 108 #[v, .agg #[.int .i64 o, .int .i64 k, .int .i64 x]] w (Made w ys c y) := by
  by_cases n1 : o = 1
  · subst n1
    by_cases h6 : 6 ≤ xs.length
    · simp [qdo, h6] at hq
      obtain ⟨rfl, rfl, rfl⟩ := hq
      exact qDo_full k x h hx h6
    · simp [qdo, h6] at hq
      obtain ⟨rfl, rfl, rfl⟩ := hq
      exact qDo_put k x h hx (by omega)
  by_cases n2 : o = 2
  · subst n2
    cases xs with
    | nil => simp [qdo] at hq; obtain ⟨rfl, rfl, rfl⟩ := hq; exact qDo_empty k x h hx
    | cons z r => simp [qdo] at hq; obtain ⟨rfl, rfl, rfl⟩ := hq; exact qDo_take k x h hx
  by_cases n5 : o = 5
  · subst n5
    cases xs with
    | nil => simp [qdo] at hq; obtain ⟨rfl, rfl, rfl⟩ := hq; exact qDo_peekno k x h hx
    | cons z r => simp [qdo] at hq; obtain ⟨rfl, rfl, rfl⟩ := hq; exact qDo_peek k x h hx
  by_cases n6 : o = 6
  · subst n6
    simp [qdo] at hq
    obtain ⟨rfl, rfl, rfl⟩ := hq
    exact qDo_count k x h hx
  · simp [qdo, n1, n2, n5, n6] at hq
    obtain ⟨rfl, rfl, rfl⟩ := hq
    exact qDo_wrong o k x h hx n1 n2 n5 n6
end Go.Proofs.YteogbpaaacmllaaGreatDoor
