/- Package table: found, Right, by their contracts. -/
import Derived.Test.YtbmgjpdfmgcigabDoorTp2
namespace Go.Proofs.YtbmgjpdfmgcigabDoor.Tab
set_option maxRecDepth 20000
open Go.RowKit

theorem nat_beq (p i : Nat) : ((p : Int) == (i : Int)) = decide (p = i) := by
  by_cases h : p = i
  · simp [h]
  · have : ¬ ((p : Int) = (i : Int)) := by omega
    simp [h, this]

set_option maxHeartbeats 1000000 in
theorem found_is (t : Tb) (i : Nat) (hi : i < 8) (w : World) :
    Calls Tryd.prog 65 #[.agg t.all.toArray, .int .i64 (i : Nat)] w fun e w' => e = .returned (.bool (t.k (place t (t.k i)) == t.k i && decide (place t (t.k i) = i))) ∧ Below w.heap.size w w' := by
  obtain ⟨na, ea, hd⟩ := slots_array
  have HD : Hid _ := hd
  clear hd
  have HS : Hid (∀ t : Tb, (Tryd.prog.info? 92).map (·.size) = some t.all.length) := slots_size
  have hi1 : (i : Int) < 8 := by omega
  have hi0 : (0 : Int) ≤ (i : Int) := by omega
  have HP := place_eq t (t.k i)
  unfold Placed at HP
  generalize (t.k (place t (t.k i)) == t.k i) = has at HP ⊢
  generalize place t (t.k i) = p at HP ⊢
  have g0 : Hid (Gd w.heap.size w (w.alloc (.cells t.all.toArray 92))) := (Gd.refl w).new _
  have t0 : Hid (TAt (w.alloc (.cells t.all.toArray 92)) w.heap.size t) := TAt.born w t _
  go_enter Tryd.func65, Tryd.ntmps65
  go_wp2_with fail
  generalize (w.alloc (.cells t.all.toArray 92)) = W at g0 t0 ⊢
  generalize w.heap.size = n at g0 t0 ⊢
  have h1q : Hid (Gd n w W.drew) := g0.out.drew
  have h2q : Hid (TAt W.drew n t) := t0.out.drew
  clear g0 t0
  refine wp_region_held_drew (S := fun w' => TAt w' n t) (by kernel_rfl) h2q.out (fun hH => ?_)
  generalize W.drew = u3q at h1q h2q hH ⊢
  refine wpAnyH_take (i := 0) (oi := { dst := some 8, op := .load _ (.tmp 2), type := _, pos := _, after := _, guard := _ }) (v := _) rfl (by kernel_rfl) (by kernel_rfl) (by kernel_rfl) (fun _ _ _ h => h) (yieldsIf_load_mid (by rfl) _ _ rfl n _ rfl t.all _ (fun _ h => (h).range) HD.out rfl (HS.out t)) hH ?_
  simp only [Act.put, List.setIfInBounds_toArray, List.set_cons_zero, List.set_cons_succ]
  refine wpAnyH_take (i := 1) (oi := { dst := some 9, op := .move (.tmp 1), type := _, pos := _, after := _, guard := _ }) (v := ?_) rfl (by kernel_rfl) (by kernel_rfl) (by kernel_rfl) (fun _ _ _ h => h) (Or.inl ⟨by rfl, ?_⟩) hH ?_
  rotate_left
  · intro w hSw
    clear hSw
    go_simp
    try with_reducible rfl
  simp only [Act.put, List.setIfInBounds_toArray, List.set_cons_zero, List.set_cons_succ]
  refine wpAnyH_take (i := 2) (oi := { dst := some 10, op := .indexAddr _ (.tmp 2) (.tmp 9), type := _, pos := _, after := _, guard := _ }) (v := ?_) rfl (by kernel_rfl) (by kernel_rfl) (by kernel_rfl) (fun _ _ _ h => h) (Or.inl ⟨by rfl, ?_⟩) hH ?_
  rotate_left
  · intro w hSw
    clear hSw
    go_simp
    try with_reducible rfl
  simp only [Act.put, List.setIfInBounds_toArray, List.set_cons_zero, List.set_cons_succ]
  refine wpAnyH_take (i := 3) (oi := { dst := some 11, op := .fieldAddr _ (.tmp 10) 0, type := _, pos := _, after := _, guard := _ }) (v := ?_) rfl (by kernel_rfl) (by kernel_rfl) (by kernel_rfl) (fun _ _ _ h => h) (Or.inl ⟨by rfl, ?_⟩) hH ?_
  rotate_left
  · intro w hSw
    clear hSw
    go_simp
    try with_reducible rfl
  simp only [Act.put, List.setIfInBounds_toArray, List.set_cons_zero, List.set_cons_succ]
  refine wpAnyH_take (i := 4) (oi := { dst := some 12, op := .load _ (.tmp 11), type := _, pos := _, after := _, guard := _ }) (v := ?_) rfl (by kernel_rfl) (by kernel_rfl) (by kernel_rfl) (fun _ _ _ h => h) (Or.inl ⟨by rfl, ?_⟩) hH ?_
  rotate_left
  · intro w hSw
    have c4q := (hSw).key hi
    clear hSw
    go_simp
    try with_reducible rfl
  simp only [Act.put, List.setIfInBounds_toArray, List.set_cons_zero, List.set_cons_succ]
  refine wpAnyH_ready (rs := [5]) (by kernel_rfl) (by simp) ?_
  refine AllReadyH.cons (o := { dst := some 13, op := _, type := _, pos := _, after := _, guard := _ }) rfl (fun K hK => ?_) AllReadyH.nil
  go_simp
  refine (HP _).mono ?_
  rintro e u5q ⟨rfl, hb⟩
  have h6q : Hid (Gd n w u5q) := h1q.out.later hb
  have h7q : Hid (TAt u5q n t) := h2q.out.later hb
  clear h1q h2q
  clear hb
  go_wp2_with fail
  refine hK.out _ _ h7q.out (fun hH => ?_)
  clear hK K
  try simp only [Act.put, List.setIfInBounds_toArray, List.set_cons_zero, List.set_cons_succ]
  refine wpAnyH_take (i := 6) (oi := { dst := some 7, op := .move (.tmp 13), type := _, pos := _, after := _, guard := _ }) (v := ?_) rfl (by kernel_rfl) (by kernel_rfl) (by kernel_rfl) (fun _ _ _ h => h) (Or.inl ⟨by rfl, ?_⟩) hH ?_
  rotate_left
  · intro w hSw
    clear hSw
    go_simp
    try with_reducible rfl
  simp only [Act.put, List.setIfInBounds_toArray, List.set_cons_zero, List.set_cons_succ]
  refine wpAnyH_take (i := 7) (oi := { dst := some 14, op := .extract (.tmp 7) 0, type := _, pos := _, after := _, guard := _ }) (v := ?_) rfl (by kernel_rfl) (by kernel_rfl) (by kernel_rfl) (fun _ _ _ h => h) (Or.inl ⟨by rfl, ?_⟩) hH ?_
  rotate_left
  · intro w hSw
    clear hSw
    go_simp
    try with_reducible rfl
  simp only [Act.put, List.setIfInBounds_toArray, List.set_cons_zero, List.set_cons_succ]
  refine wpAnyH_take (i := 8) (oi := { dst := some 15, op := .extract (.tmp 7) 1, type := _, pos := _, after := _, guard := _ }) (v := ?_) rfl (by kernel_rfl) (by kernel_rfl) (by kernel_rfl) (fun _ _ _ h => h) (Or.inl ⟨by rfl, ?_⟩) hH ?_
  rotate_left
  · intro w hSw
    clear hSw
    go_simp
    try with_reducible rfl
  simp only [Act.put, List.setIfInBounds_toArray, List.set_cons_zero, List.set_cons_succ]
  refine wpAnyH_take (i := 9) (oi := { dst := some 5, op := .assign (.tmp 14), type := _, pos := _, after := _, guard := _ }) (v := ?_) rfl (by kernel_rfl) (by kernel_rfl) (by kernel_rfl) (fun _ _ _ h => h) (Or.inl ⟨by rfl, ?_⟩) hH ?_
  rotate_left
  · intro w hSw
    clear hSw
    go_simp
    try with_reducible rfl
  simp only [Act.put, List.setIfInBounds_toArray, List.set_cons_zero, List.set_cons_succ]
  refine wpAnyH_take (i := 10) (oi := { dst := some 6, op := .assign (.tmp 15), type := _, pos := _, after := _, guard := _ }) (v := ?_) rfl (by kernel_rfl) (by kernel_rfl) (by kernel_rfl) (fun _ _ _ h => h) (Or.inl ⟨by rfl, ?_⟩) hH ?_
  rotate_left
  · intro w hSw
    clear hSw
    go_simp
    try with_reducible rfl
  simp only [Act.put, List.setIfInBounds_toArray, List.set_cons_zero, List.set_cons_succ]
  refine wpAnyH_done (by kernel_rfl) ?_ _
  go_wp2
  all_goals go_ret
  all_goals refine ⟨?_, h6q.out.2⟩
  · have e : has = true := by cases has <;> simp_all
    subst e
    exact congrArg (fun b => Ending.returned (.bool b)) (by rw [Bool.true_and]; exact nat_beq p i)
  · have e : has = false := by cases has <;> simp_all
    subst e; rfl

/-- A slot as it may be. -/
def good (t : Tb) (i : Nat) : Prop := fitsF (t.k i) (t.v i) = true ∧ (t.k i ≠ 0 → place t (t.k i) = i)
theorem RT.goodAt {t : Tb} (h : RT t) {i : Nat} (hi : i < 8) : good t i := by
  refine ⟨?_, fun hk => h.found hi hk⟩
  unfold fitsF
  by_cases hk : t.k i = 0
  · rw [if_pos hk, h.none i hi hk]; rfl
  · have h1 := h.keys i hi
    have h2 := h.vals i hi
    rw [if_neg hk]
    simp only [decide_eq_true_eq]
    omega
theorem RT.of_good {t : Tb} (hl : len t ≤ 6) (h : ∀ i, i < 8 → good t i) : RT t := by
  have hf : ∀ i, i < 8 → (0 ≤ t.k i ∧ t.k i ≤ 1000) ∧ (0 ≤ t.v i ∧ t.v i ≤ 4294967295) ∧ (t.k i = 0 → t.v i = 0) := fun i hi => by
    have := (h i hi).1
    unfold fitsF at this
    by_cases hk : t.k i = 0
    · rw [if_pos hk] at this
      have e : t.v i = 0 := by simpa using this
      rw [hk, e]
      exact ⟨by omega, by omega, fun _ => rfl⟩
    · rw [if_neg hk] at this
      simp only [decide_eq_true_eq] at this
      exact ⟨by omega, by omega, fun e => absurd e hk⟩
  exact RT.of_found (fun i hi => (hf i hi).1) (fun i hi => (hf i hi).2.1) (fun i hi => (hf i hi).2.2) (fun i hi => (h i hi).2) hl

/-- A load under a guard that is met. -/
theorem wpList_load_wanted {P : Program} {ops : Array Oper} {rest : List Oper} {op : Oper} {a : Act} {w : World} {Q : Exit → Act → World → Prop} (hw : Region.wanted op (yielded ops a.tmps) = true) (ty : TypeId) (x : Operand) (ho : op.op = .load ty x)
    (b o : Nat) (hx : a.eval x = .pointer (some ⟨b, o, none⟩)) (cs : List Value) (d : TypeDesc) (hc : w.rangeAt b o cs)
    (hu : P.underlying ty = some d) (hd : d.isRow = true) (hi : (P.info? ty).map (·.size) = some cs.length)
    (h : wpList P ops Q rest (a.put op.dst (.agg cs.toArray)) w) : wpList P ops Q (op :: rest) a w := by
  simp only [wpList, hw, if_true]
  exact .inl (wp_load_mid ty x ho b o hx cs d hc hu hd hi h)

set_option maxHeartbeats 2000000 in
theorem Right_is (t : Tb) (b : Bool) (hb : b = true ↔ RT t) (w : World) :
    Calls Tryd.prog 48 #[.agg t.all.toArray] w fun e w' => e = .returned (.bool b) ∧ Below w.heap.size w w' := by
  obtain ⟨na, ea, hd⟩ := slots_array
  have HD : Hid _ := hd
  clear hd
  have HS : Hid (∀ t : Tb, (Tryd.prog.info? 92).map (·.size) = some t.all.length) := slots_size
  have HB : Hid (b = true ↔ RT t) := hb
  have HL := Len_is t
  have HX : Hid _ := slot_at t
  have HLL : Hid (len t ≤ 8) := len_le t
  have LE : Hid (∃ l, len t = l) := ⟨_, rfl⟩
  clear hb
  have g0 : Hid (Gd w.heap.size w (w.alloc (.cells t.all.toArray 92))) := (Gd.refl w).new _
  have t0 : Hid (TAt (w.alloc (.cells t.all.toArray 92)) w.heap.size t) := TAt.born w t _
  go_enter Tryd.func48, Tryd.ntmps48
  go_wp2_with (refine wpList_load_mid rfl 92 _ rfl _ _ rfl t.all _ t0.out.range HD.out rfl (HS.out t) ?_)
  refine (HL _).mono ?_
  rintro e w1 ⟨rfl, hb1⟩
  have g1 := g0.out.later hb1
  have t1 : Hid (TAt w1 w.heap.size t) := t0.out.later hb1
  have G1 : Hid (Gd w.heap.size w w1) := g1
  clear hb1 g0 t0 g1
  obtain ⟨l, hl⟩ := LE.out
  have HL2 : Hid (len t = l) := hl
  have hl8 : l ≤ 8 := hl ▸ HLL.out
  rw [hl]
  clear hl HL
  by_cases h6 : 6 < l
  · have h6' : (6 : Int) < (l : Int) := by omega
    have e : b = false := by
      cases b with
      | false => rfl
      | true => have := (HB.out.1 rfl).room; have := HL2.out; omega
    subst e
    go_wp2
    go_ret
    exact ⟨rfl, G1.out.2⟩
  have h6' : ¬ (6 : Int) < (l : Int) := by omega
  have L6 : Hid (len t ≤ 6) := by have := HL2.out; show len t ≤ 6; omega
  go_wp2_with (refine wpList_load_mid rfl 92 _ rfl _ _ rfl t.all _ t1.out.range HD.out rfl (HS.out t) ?_)
  generalize w.heap.size = n at t1 G1 ⊢
  have HNN : Hid (n = w.heap.size) := G1.out.1.symm
  go_loopg [9] 8 (fun gg s9 wt => Hid (TAt wt n t) ∧ Hid (Gd n w wt) ∧ ∃ i : Nat, i ≤ 8 ∧ 8 - i ≤ gg ∧ s9 = .int .i64 i ∧ Hid (∀ j, j < i → good t j))
  case atStart => exact ⟨t1, G1, 0, by omega, by omega, rfl, fun j hj => absurd hj (Nat.not_lt_zero _)⟩
  case round =>
    obtain ⟨T, G, i, hi, hgg, rfl, D⟩ := hrel
    clear t1 G1
    by_cases hlt : i < 8
    · have hx := HX.out i hlt
      by_cases hgd : good t i
      · have GD : Hid (good t i) := hgd
        have D' : Hid (∀ j, j < i + 1 → good t j) := fun j hj => by
          by_cases e : j = i
          · subst e; exact hgd
          · exact D.out j (by omega)
        have F := fits_is (t.k i) (t.v i)
        rw [hgd.1] at F
        by_cases hk : t.k i = 0
        · have m0 : (t.k i == 0) = true := by simp [hk]
          have R := free_is (t.k i) (t.v i)
          rw [m0] at R
          generalize t.k i = x at *
          generalize t.v i = y at *
          clear hk hgd m0
          go_wp2_with fail
          refine (F _).mono ?_
          rintro e w2 ⟨rfl, hb2⟩
          have T3 : Hid (TAt w2 n t) := (T.out.new (.cells #[.int .i64 x, .int .i64 y] 90)).later hb2
          have G3 : Hid (Gd n w w2) := (G.out.new (.cells #[.int .i64 x, .int .i64 y] 90)).later hb2
          have c0 : w2.cell? ⟨wr.heap.size, 0, none⟩ = some (.int .i64 x) := Below.box hb2 0 rfl
          have c1 : w2.cell? ⟨wr.heap.size, 1, none⟩ = some (.int .i64 y) := Below.box hb2 1 rfl
          clear hb2
          go_wp2_with fail
          refine (R _).mono ?_
          rintro e w3 ⟨rfl, hb3⟩
          have T4 : Hid (TAt w3 n t) := T3.out.later hb3
          have G4 : Hid (Gd n w w3) := G3.out.later hb3
          clear hb3 c0 c1
          go_wp2
          go_roundg (8 - (i + 1))
          case measure => omega
          case rel => exact ⟨T4, G4, i + 1, by omega, by omega, by go_num, D'⟩
        · have m0 : (t.k i == 0) = false := by simp [hk]
          have R := free_is (t.k i) (t.v i)
          rw [m0] at R
          have U := found_is t i hlt
          rw [show (t.k (place t (t.k i)) == t.k i && decide (place t (t.k i) = i)) = true by rw [hgd.2 hk]; simp] at U
          generalize t.k i = x at *
          generalize t.v i = y at *
          clear hk hgd m0
          go_wp2_with fail
          refine (F _).mono ?_
          rintro e w2 ⟨rfl, hb2⟩
          have T3 : Hid (TAt w2 n t) := (T.out.new (.cells #[.int .i64 x, .int .i64 y] 90)).later hb2
          have G3 : Hid (Gd n w w2) := (G.out.new (.cells #[.int .i64 x, .int .i64 y] 90)).later hb2
          have c0 : w2.cell? ⟨wr.heap.size, 0, none⟩ = some (.int .i64 x) := Below.box hb2 0 rfl
          have c1 : w2.cell? ⟨wr.heap.size, 1, none⟩ = some (.int .i64 y) := Below.box hb2 1 rfl
          clear hb2
          go_wp2_with fail
          refine (R _).mono ?_
          rintro e w3 ⟨rfl, hb3⟩
          have T4 : Hid (TAt w3 n t) := T3.out.later hb3
          have G4 : Hid (Gd n w w3) := G3.out.later hb3
          clear hb3 c0 c1
          go_wp2_with (refine wpList_load_wanted (by rfl) 92 _ rfl n _ rfl t.all _ T4.out.range HD.out rfl (HS.out t) ?_)
          refine (U _).mono ?_
          rintro e w4 ⟨rfl, hb4⟩
          have T5 : Hid (TAt w4 n t) := T4.out.later hb4
          have G5 : Hid (Gd n w w4) := G4.out.later hb4
          clear hb4
          go_wp2
          go_roundg (8 - (i + 1))
          case measure => omega
          case rel => exact ⟨T5, G5, i + 1, by omega, by omega, by go_num, D'⟩
      · have e : b = false := by
          cases b with
          | false => rfl
          | true => exact absurd ((HB.out.1 rfl).goodAt hlt) hgd
        subst e
        have F := fits_is (t.k i) (t.v i)
        by_cases hf : fitsF (t.k i) (t.v i) = true
        · rw [hf] at F
          have hk : t.k i ≠ 0 := fun hk => hgd ⟨hf, fun h => absurd hk h⟩
          have hp : place t (t.k i) ≠ i := fun hp => hgd ⟨hf, fun _ => hp⟩
          have m0 : (t.k i == 0) = false := by simp [hk]
          have R := free_is (t.k i) (t.v i)
          rw [m0] at R
          have U := found_is t i hlt
          rw [show (t.k (place t (t.k i)) == t.k i && decide (place t (t.k i) = i)) = false by simp [hp]] at U
          generalize t.k i = x at *
          generalize t.v i = y at *
          clear hk hgd m0 hp hf
          go_wp2_with fail
          refine (F _).mono ?_
          rintro e w2 ⟨rfl, hb2⟩
          have T3 : Hid (TAt w2 n t) := (T.out.new (.cells #[.int .i64 x, .int .i64 y] 90)).later hb2
          have G3 : Hid (Gd n w w2) := (G.out.new (.cells #[.int .i64 x, .int .i64 y] 90)).later hb2
          have c0 : w2.cell? ⟨wr.heap.size, 0, none⟩ = some (.int .i64 x) := Below.box hb2 0 rfl
          have c1 : w2.cell? ⟨wr.heap.size, 1, none⟩ = some (.int .i64 y) := Below.box hb2 1 rfl
          clear hb2
          go_wp2_with fail
          refine (R _).mono ?_
          rintro e w3 ⟨rfl, hb3⟩
          have T4 : Hid (TAt w3 n t) := T3.out.later hb3
          have G4 : Hid (Gd n w w3) := G3.out.later hb3
          clear hb3 c0 c1
          go_wp2_with (refine wpList_load_wanted (by rfl) 92 _ rfl n _ rfl t.all _ T4.out.range HD.out rfl (HS.out t) ?_)
          refine (U _).mono ?_
          rintro e w4 ⟨rfl, hb4⟩
          have T5 : Hid (TAt w4 n t) := T4.out.later hb4
          have G5 : Hid (Gd n w w4) := G4.out.later hb4
          clear hb4
          go_wp2
          go_ret
          exact ⟨rfl, G5.out.2⟩
        · rw [show fitsF (t.k i) (t.v i) = false by simpa using hf] at F
          generalize t.k i = x at *
          generalize t.v i = y at *
          clear hgd hf
          go_wp2_with fail
          refine (F _).mono ?_
          rintro e w2 ⟨rfl, hb2⟩
          have T3 : Hid (TAt w2 n t) := (T.out.new (.cells #[.int .i64 x, .int .i64 y] 90)).later hb2
          have G3 : Hid (Gd n w w2) := (G.out.new (.cells #[.int .i64 x, .int .i64 y] 90)).later hb2
          clear hb2
          go_wp2
          go_ret
          exact ⟨rfl, G3.out.2⟩
    · obtain rfl : i = 8 := by omega
      have e : b = true := HB.out.2 (RT.of_good L6.out D.out)
      subst e
      go_wp2
      go_ret
      exact ⟨rfl, G.out.2⟩
end Go.Proofs.YtbmgjpdfmgcigabDoor.Tab
