/- The reference's place, and slotsOf, by their contracts. -/
import Derived.Test.YtojnkfdodjcnfaaRf1
import Derived.Test.YtojnkfdodjcnfaaTp5
namespace Go.Proofs.Ytojnkfdodjcnfaa
open Go.RowKit

theorem rowL_isL {B : Nat} {w : World} {v : Value} {k : Int} (h : IsL B w v (rowL k 8)) : ∃ b off c, v = .slice (some ⟨b, off, none⟩) 8 c ∧ ∀ i, i < 8 → w.cell? ⟨b, off + i, none⟩ = some (.int .i64 (rowAt k i : Nat)) := by
  rcases h with ⟨h, _⟩ | ⟨b, off, c, hv, _, _, _, hcell, _⟩
  · have := rowL_len k 8; rw [h] at this; simp at this
  · rw [rowL_len] at hv hcell
    exact ⟨b, off, c, hv, fun i hi => by rw [hcell i hi, rowL_at k hi]⟩

set_option maxHeartbeats 1000000 in
theorem RPlace_is (t : Tb) (k : Int) (h0 : 0 ≤ k) (h1 : k ≤ 1000) (hf : ∃ p, p < 8 ∧ t.k p = 0) (w : World) :
    Calls Try.prog 28 #[.agg t.all.toArray, .int .i64 k] w fun e w' => e = .returned (.int .i64 (place t k : Nat)) ∧ Below w.heap.size w w' := by
  have T0 : Hid (TAt (w.alloc (.cells t.all.toArray 25)) w.heap.size t) := TAt.born w t _
  have B0 : Hid (Gd w.heap.size w (w.alloc (.cells t.all.toArray 25))) := (Gd.refl w).new _
  have HH : Hid (Hit t k (place t k)) := by
    obtain ⟨p, hp, e⟩ := hf
    exact place_hit t k hp (Or.inr e)
  have P : Hid (plF t k 7 0 = place t k) := rfl
  clear hf
  have RW := row_is k h0 h1
  go_enter Try.func28, Try.ntmps28
  go_wp2_with fail
  refine (RW _).mono ?_
  rintro e W ⟨v, rfl, hi, hb⟩
  obtain ⟨b, off, c, rfl, hcell⟩ := rowL_isL hi
  have T1 : Hid (TAt W w.heap.size t) := T0.out.later hb
  have G1 : Hid (Gd w.heap.size w W) := B0.out.later hb
  have C : Hid (∀ i, i < 8 → W.cell? ⟨b, off + i, none⟩ = some (.int .i64 (rowAt k i : Nat))) := hcell
  clear hi hb hcell T0 B0 RW
  generalize w.heap.size = n at T1 G1 ⊢
  go_wp2_with fail
  go_loopg [10] 8 (fun gg s10 wt => W = wt ∧ ∃ i : Nat, i < 8 ∧ 8 - i ≤ gg ∧ s10 = .int .i64 i ∧ Hid (plF t k (7 - i) i = place t k))
  case atStart => exact ⟨rfl, 0, by omega, by omega, rfl, P⟩
  case round =>
    obtain ⟨rfl, i, hlt, hgg, rfl, D⟩ := hrel
    have c0 := C.out i hlt
    have hp := rowAt_lt k i
    obtain ⟨p, hpe⟩ : ∃ p, rowAt k i = p := ⟨_, rfl⟩
    have EP : Hid (rowAt k i = p) := hpe
    rw [hpe] at c0 hp
    clear hpe
    have hi1 : (i : Int) < 8 := by omega
    have hi0 : (0 : Int) ≤ (i : Int) := by omega
    have hp1 : (p : Int) < 8 := by omega
    have hp0 : (0 : Int) ≤ (p : Int) := by omega
    have c1 := T1.out.key hp
    obtain ⟨x, hx⟩ : ∃ x, t.k p = x := ⟨_, rfl⟩
    have X : Hid (t.k p = x) := hx
    rw [hx] at c1
    clear hx
    by_cases hh : x = k ∨ x = 0
    · have PL : Hid (place t k = p) := by
        show place t k = p
        rw [← D.out, ← EP.out]
        cases hn : 7 - i with
        | zero => rfl
        | succ m => rw [plF, if_pos (show Hit t k (rowAt k i) by unfold Hit; rw [EP.out, X.out]; exact hh)]
      by_cases hk : x = k
      · have m1 : (x == k) = true := by simp [hk]
        clear hh hk
        go_wp2
        go_ret
        exact ⟨by rw [PL.out]; rfl, G1.out.2⟩
      · have h0' : x = 0 := hh.resolve_left hk
        have m1 : (x == k) = false := by simp [hk]
        have m0 : (x == 0) = true := by simp [h0']
        clear hh hk h0'
        go_wp2
        go_ret
        exact ⟨by rw [PL.out]; rfl, G1.out.2⟩
    · have NH : ¬ Hit t k (rowAt k i) := by unfold Hit; rw [EP.out, X.out]; exact hh
      have m1 : (x == k) = false := by simp; exact fun e => hh (Or.inl e)
      have m0 : (x == 0) = false := by simp; exact fun e => hh (Or.inr e)
      have h7 : i ≠ 7 := by
        intro e
        subst e
        have : place t k = rowAt k 7 := D.out.symm
        have := HH.out
        rw [‹place t k = rowAt k 7›] at this
        exact NH this
      have D' : Hid (plF t k (7 - (i + 1)) (i + 1) = place t k) := by
        have := D.out
        rw [show 7 - i = (7 - (i + 1)) + 1 by omega, plF, if_neg NH] at this
        exact this
      clear hh NH
      go_wp2
      go_roundg (8 - (i + 1))
      case measure => omega
      case rel => exact ⟨rfl, i + 1, by omega, by omega, by go_num, D'⟩

/-- A table whose first i slots are t's. -/
def cp (t : Tb) (i : Nat) : Tb := ⟨fun j => if j < i then t.k j else 0, fun j => if j < i then t.v j else 0⟩
theorem cp_zero (t : Tb) : cp t 0 = Tb.zero := by simp [cp, Tb.zero]
theorem cp_succ (t : Tb) (i : Nat) : (cp t i).set i (t.k i) (t.v i) = cp t (i + 1) := by
  unfold cp Tb.set
  congr 1 <;> funext j <;> simp only [] <;> by_cases e : j = i
  · subst e; simp
  · simp only [e, if_false]; by_cases h : j < i
    · simp [h, show j < i + 1 by omega]
    · simp [h, show ¬ j < i + 1 by omega]
  · subst e; simp
  · simp only [e, if_false]; by_cases h : j < i
    · simp [h, show j < i + 1 by omega]
    · simp [h, show ¬ j < i + 1 by omega]
theorem cp_all (t : Tb) : (cp t 8).all = t.all := by
  unfold Tb.all
  refine List.map_congr_left fun j hj => ?_
  have h8 : j / 2 < 8 := by have : j < 16 := by simpa using hj
                            omega
  simp [Tb.at, cp, h8]
set_option maxHeartbeats 4000000 in
set_option maxRecDepth 20000 in
theorem slotsOf_is (t : Tb) (w : World) :
    Calls Try.prog 10 #[.agg t.all.toArray] w (fun e w' => e = .returned (.agg t.all.toArray) ∧ Below w.heap.size w w') := by
  obtain ⟨na, ea, hd⟩ := slots_array
  have HD : Hid _ := hd
  clear hd
  have HS : Hid (∀ t : Tb, (Try.prog.info? 29).map (·.size) = some t.all.length) := slots_size
  have HZ : Hid (∀ t : Tb, (Try.prog.info? 29).map (·.size) = some t.all.toArray.size) := slots_size2
  have HT : Hid ((Try.prog.info? 27).map (·.size) = some 2) := slot_size
  have HA : Hid ((Try.prog.info? 37).map (·.size) = some 2) := answer_size
  obtain ⟨fs, ha⟩ := answer_struct
  have HDA : Hid _ := ha
  clear ha
  have g0 : Hid (Gd w.heap.size w w) := Gd.refl w
  have h1q : Hid (Gd w.heap.size w (w.alloc (.cells t.all.toArray 25))) := g0.out.new (.cells t.all.toArray 25)
  clear g0
  have h2q : Hid (TAt (w.alloc (.cells t.all.toArray 25)) w.heap.size t) := TAt.bornAt w t _ (by simp)
  have h3q : Hid (Gd w.heap.size w ((w.alloc (.cells t.all.toArray 25)).alloc (.cells #[.int .i64 0, .int .i64 0, .int .i64 0, .int .i64 0, .int .i64 0, .int .i64 0, .int .i64 0, .int .i64 0, .int .i64 0, .int .i64 0, .int .i64 0, .int .i64 0, .int .i64 0, .int .i64 0, .int .i64 0, .int .i64 0] 29))) := h1q.out.new (.cells #[.int .i64 0, .int .i64 0, .int .i64 0, .int .i64 0, .int .i64 0, .int .i64 0, .int .i64 0, .int .i64 0, .int .i64 0, .int .i64 0, .int .i64 0, .int .i64 0, .int .i64 0, .int .i64 0, .int .i64 0, .int .i64 0] 29)
  have h4q : Hid (TAt ((w.alloc (.cells t.all.toArray 25)).alloc (.cells #[.int .i64 0, .int .i64 0, .int .i64 0, .int .i64 0, .int .i64 0, .int .i64 0, .int .i64 0, .int .i64 0, .int .i64 0, .int .i64 0, .int .i64 0, .int .i64 0, .int .i64 0, .int .i64 0, .int .i64 0, .int .i64 0] 29)) w.heap.size t) := h2q.out.new (.cells #[.int .i64 0, .int .i64 0, .int .i64 0, .int .i64 0, .int .i64 0, .int .i64 0, .int .i64 0, .int .i64 0, .int .i64 0, .int .i64 0, .int .i64 0, .int .i64 0, .int .i64 0, .int .i64 0, .int .i64 0, .int .i64 0] 29)
  clear h1q h2q
  have h5q : Hid (TAt ((w.alloc (.cells t.all.toArray 25)).alloc (.cells #[.int .i64 0, .int .i64 0, .int .i64 0, .int .i64 0, .int .i64 0, .int .i64 0, .int .i64 0, .int .i64 0, .int .i64 0, .int .i64 0, .int .i64 0, .int .i64 0, .int .i64 0, .int .i64 0, .int .i64 0, .int .i64 0] 29)) (w.heap.size + 1) Tb.zero) := TAt.bornZero (w.alloc (.cells t.all.toArray 25)) 29 (by simp)
  have h6q : Hid (Gd w.heap.size w (((w.alloc (.cells t.all.toArray 25)).alloc (.cells #[.int .i64 0, .int .i64 0, .int .i64 0, .int .i64 0, .int .i64 0, .int .i64 0, .int .i64 0, .int .i64 0, .int .i64 0, .int .i64 0, .int .i64 0, .int .i64 0, .int .i64 0, .int .i64 0, .int .i64 0, .int .i64 0] 29)).alloc (.cells #[.int .i64 0, .int .i64 0, .int .i64 0, .int .i64 0, .int .i64 0, .int .i64 0, .int .i64 0, .int .i64 0, .int .i64 0, .int .i64 0, .int .i64 0, .int .i64 0, .int .i64 0, .int .i64 0, .int .i64 0, .int .i64 0] 29))) := h3q.out.new (.cells #[.int .i64 0, .int .i64 0, .int .i64 0, .int .i64 0, .int .i64 0, .int .i64 0, .int .i64 0, .int .i64 0, .int .i64 0, .int .i64 0, .int .i64 0, .int .i64 0, .int .i64 0, .int .i64 0, .int .i64 0, .int .i64 0] 29)
  have h7q : Hid (TAt (((w.alloc (.cells t.all.toArray 25)).alloc (.cells #[.int .i64 0, .int .i64 0, .int .i64 0, .int .i64 0, .int .i64 0, .int .i64 0, .int .i64 0, .int .i64 0, .int .i64 0, .int .i64 0, .int .i64 0, .int .i64 0, .int .i64 0, .int .i64 0, .int .i64 0, .int .i64 0] 29)).alloc (.cells #[.int .i64 0, .int .i64 0, .int .i64 0, .int .i64 0, .int .i64 0, .int .i64 0, .int .i64 0, .int .i64 0, .int .i64 0, .int .i64 0, .int .i64 0, .int .i64 0, .int .i64 0, .int .i64 0, .int .i64 0, .int .i64 0] 29)) w.heap.size t) := h4q.out.new (.cells #[.int .i64 0, .int .i64 0, .int .i64 0, .int .i64 0, .int .i64 0, .int .i64 0, .int .i64 0, .int .i64 0, .int .i64 0, .int .i64 0, .int .i64 0, .int .i64 0, .int .i64 0, .int .i64 0, .int .i64 0, .int .i64 0] 29)
  have h8q : Hid (TAt (((w.alloc (.cells t.all.toArray 25)).alloc (.cells #[.int .i64 0, .int .i64 0, .int .i64 0, .int .i64 0, .int .i64 0, .int .i64 0, .int .i64 0, .int .i64 0, .int .i64 0, .int .i64 0, .int .i64 0, .int .i64 0, .int .i64 0, .int .i64 0, .int .i64 0, .int .i64 0] 29)).alloc (.cells #[.int .i64 0, .int .i64 0, .int .i64 0, .int .i64 0, .int .i64 0, .int .i64 0, .int .i64 0, .int .i64 0, .int .i64 0, .int .i64 0, .int .i64 0, .int .i64 0, .int .i64 0, .int .i64 0, .int .i64 0, .int .i64 0] 29)) (w.heap.size + 1) Tb.zero) := h5q.out.new (.cells #[.int .i64 0, .int .i64 0, .int .i64 0, .int .i64 0, .int .i64 0, .int .i64 0, .int .i64 0, .int .i64 0, .int .i64 0, .int .i64 0, .int .i64 0, .int .i64 0, .int .i64 0, .int .i64 0, .int .i64 0, .int .i64 0] 29)
  clear h3q h4q h5q
  have h9q : Hid (TAt (((w.alloc (.cells t.all.toArray 25)).alloc (.cells #[.int .i64 0, .int .i64 0, .int .i64 0, .int .i64 0, .int .i64 0, .int .i64 0, .int .i64 0, .int .i64 0, .int .i64 0, .int .i64 0, .int .i64 0, .int .i64 0, .int .i64 0, .int .i64 0, .int .i64 0, .int .i64 0] 29)).alloc (.cells #[.int .i64 0, .int .i64 0, .int .i64 0, .int .i64 0, .int .i64 0, .int .i64 0, .int .i64 0, .int .i64 0, .int .i64 0, .int .i64 0, .int .i64 0, .int .i64 0, .int .i64 0, .int .i64 0, .int .i64 0, .int .i64 0] 29)) (w.heap.size + 2) Tb.zero) := TAt.bornZero ((w.alloc (.cells t.all.toArray 25)).alloc (.cells #[.int .i64 0, .int .i64 0, .int .i64 0, .int .i64 0, .int .i64 0, .int .i64 0, .int .i64 0, .int .i64 0, .int .i64 0, .int .i64 0, .int .i64 0, .int .i64 0, .int .i64 0, .int .i64 0, .int .i64 0, .int .i64 0] 29)) 29 (by simp)
  go_enter Try.func10, Try.ntmps10
  go_wp2_with fail
  generalize (((w.alloc (.cells t.all.toArray 25)).alloc (.cells #[.int .i64 0, .int .i64 0, .int .i64 0, .int .i64 0, .int .i64 0, .int .i64 0, .int .i64 0, .int .i64 0, .int .i64 0, .int .i64 0, .int .i64 0, .int .i64 0, .int .i64 0, .int .i64 0, .int .i64 0, .int .i64 0] 29)).alloc (.cells #[.int .i64 0, .int .i64 0, .int .i64 0, .int .i64 0, .int .i64 0, .int .i64 0, .int .i64 0, .int .i64 0, .int .i64 0, .int .i64 0, .int .i64 0, .int .i64 0, .int .i64 0, .int .i64 0, .int .i64 0, .int .i64 0] 29)) = W at h6q h7q h8q h9q ⊢
  generalize w.heap.size = n at h6q h7q h8q h9q ⊢
  have CA := cp_all t
  have HCA : Hid _ := CA
  clear CA
  go_loopg [4] 8 (fun gg s4 wt => ∃ i : Nat, i ≤ 8 ∧ 8 - i ≤ gg ∧ s4 = .int .i64 i ∧ Hid (TAt wt n t) ∧ Hid (TAt wt (n + 1) Tb.zero) ∧ Hid (TAt wt (n + 2) (cp t i)) ∧ Hid (Gd n w wt))
  case atStart => exact ⟨0, by omega, by omega, rfl, h7q, h8q, by rw [cp_zero]; exact h9q, h6q⟩
  case round =>
    obtain ⟨i, hi, hgg, rfl, T, Z, S, G⟩ := hrel
    clear h6q h7q h8q h9q
    by_cases hlt : i < 8
    · have hi1 : (i : Int) < 8 := by omega
      have hi0 : (0 : Int) ≤ (i : Int) := by omega
      have CS : Hid ((cp t i).set i (t.k i) (t.v i) = cp t (i + 1)) := cp_succ t i
      go_wp2_with fail
      have h10q : Hid (Gd n w wr.drew) := G.out.drew
      have h11q : Hid (TAt wr.drew n t) := T.out.drew
      have h12q : Hid (TAt wr.drew (n + 1) Tb.zero) := Z.out.drew
      have h13q : Hid (TAt wr.drew (n + 2) (cp t i)) := S.out.drew
      clear G T Z S
      refine wp_region_held_drew (S := fun w' => TAt w' n t) (by kernel_rfl) h11q.out (fun hH => ?_)
      generalize wr.drew = u14q at h10q h11q h12q h13q hH ⊢
      refine wpAnyH_take (i := 0) (oi := { dst := some 9, op := .move (.tmp 4), type := _, pos := _, after := _, guard := _ }) (v := ?_) rfl (by kernel_rfl) (by kernel_rfl) (by kernel_rfl) (fun _ _ _ h => h) (Or.inl ⟨by rfl, ?_⟩) hH ?_
      rotate_left
      · intro w hSw
        clear hSw
        go_simp
        try with_reducible rfl
      simp only [Act.put, List.setIfInBounds_toArray, List.set_cons_zero, List.set_cons_succ]
      refine wpAnyH_take (i := 1) (oi := { dst := some 10, op := .move (.tmp 4), type := _, pos := _, after := _, guard := _ }) (v := ?_) rfl (by kernel_rfl) (by kernel_rfl) (by kernel_rfl) (fun _ _ _ h => h) (Or.inl ⟨by rfl, ?_⟩) hH ?_
      rotate_left
      · intro w hSw
        clear hSw
        go_simp
        try with_reducible rfl
      simp only [Act.put, List.setIfInBounds_toArray, List.set_cons_zero, List.set_cons_succ]
      refine wpAnyH_take (i := 2) (oi := { dst := some 11, op := .indexAddr _ (.tmp 1) (.tmp 10), type := _, pos := _, after := _, guard := _ }) (v := ?_) rfl (by kernel_rfl) (by kernel_rfl) (by kernel_rfl) (fun _ _ _ h => h) (Or.inl ⟨by rfl, ?_⟩) hH ?_
      rotate_left
      · intro w hSw
        clear hSw
        go_simp
        try with_reducible rfl
      simp only [Act.put, List.setIfInBounds_toArray, List.set_cons_zero, List.set_cons_succ]
      refine wpAnyH_take (i := 3) (oi := { dst := some 12, op := .fieldAddr _ (.tmp 11) 0, type := _, pos := _, after := _, guard := _ }) (v := ?_) rfl (by kernel_rfl) (by kernel_rfl) (by kernel_rfl) (fun _ _ _ h => h) (Or.inl ⟨by rfl, ?_⟩) hH ?_
      rotate_left
      · intro w hSw
        clear hSw
        go_simp
        try with_reducible rfl
      simp only [Act.put, List.setIfInBounds_toArray, List.set_cons_zero, List.set_cons_succ]
      refine wpAnyH_take (i := 4) (oi := { dst := some 13, op := .load _ (.tmp 12), type := _, pos := _, after := _, guard := _ }) (v := ?_) rfl (by kernel_rfl) (by kernel_rfl) (by kernel_rfl) (fun _ _ _ h => h) (Or.inl ⟨by rfl, ?_⟩) hH ?_
      rotate_left
      · intro w hSw
        have c15q := (hSw).key hlt
        clear hSw
        go_simp
        try with_reducible rfl
      simp only [Act.put, List.setIfInBounds_toArray, List.set_cons_zero, List.set_cons_succ]
      refine wpAnyH_take (i := 5) (oi := { dst := some 14, op := .move (.tmp 4), type := _, pos := _, after := _, guard := _ }) (v := ?_) rfl (by kernel_rfl) (by kernel_rfl) (by kernel_rfl) (fun _ _ _ h => h) (Or.inl ⟨by rfl, ?_⟩) hH ?_
      rotate_left
      · intro w hSw
        clear hSw
        go_simp
        try with_reducible rfl
      simp only [Act.put, List.setIfInBounds_toArray, List.set_cons_zero, List.set_cons_succ]
      refine wpAnyH_take (i := 6) (oi := { dst := some 15, op := .indexAddr _ (.tmp 1) (.tmp 14), type := _, pos := _, after := _, guard := _ }) (v := ?_) rfl (by kernel_rfl) (by kernel_rfl) (by kernel_rfl) (fun _ _ _ h => h) (Or.inl ⟨by rfl, ?_⟩) hH ?_
      rotate_left
      · intro w hSw
        clear hSw
        go_simp
        try with_reducible rfl
      simp only [Act.put, List.setIfInBounds_toArray, List.set_cons_zero, List.set_cons_succ]
      refine wpAnyH_take (i := 7) (oi := { dst := some 16, op := .fieldAddr _ (.tmp 15) 1, type := _, pos := _, after := _, guard := _ }) (v := ?_) rfl (by kernel_rfl) (by kernel_rfl) (by kernel_rfl) (fun _ _ _ h => h) (Or.inl ⟨by rfl, ?_⟩) hH ?_
      rotate_left
      · intro w hSw
        clear hSw
        go_simp
        try with_reducible rfl
      simp only [Act.put, List.setIfInBounds_toArray, List.set_cons_zero, List.set_cons_succ]
      refine wpAnyH_take (i := 8) (oi := { dst := some 17, op := .load _ (.tmp 16), type := _, pos := _, after := _, guard := _ }) (v := ?_) rfl (by kernel_rfl) (by kernel_rfl) (by kernel_rfl) (fun _ _ _ h => h) (Or.inl ⟨by rfl, ?_⟩) hH ?_
      rotate_left
      · intro w hSw
        have c16q := (hSw).val hlt
        clear hSw
        go_simp
        try with_reducible rfl
      simp only [Act.put, List.setIfInBounds_toArray, List.set_cons_zero, List.set_cons_succ]
      refine wpAnyH_take (i := 9) (oi := { dst := some 18, op := .build _ #[(0, .tmp 13), (1, .tmp 17)], type := _, pos := _, after := _, guard := _ }) (v := ?_) rfl (by kernel_rfl) (by kernel_rfl) (by kernel_rfl) (fun _ _ _ h => h) (Or.inl ⟨by rfl, ?_⟩) hH ?_
      rotate_left
      · intro w hSw
        clear hSw
        go_simp
        try with_reducible rfl
      simp only [Act.put, List.setIfInBounds_toArray, List.set_cons_zero, List.set_cons_succ]
      refine wpAnyH_take (i := 10) (oi := { dst := some 19, op := .indexAddr _ (.tmp 3) (.tmp 9), type := _, pos := _, after := _, guard := _ }) (v := ?_) rfl (by kernel_rfl) (by kernel_rfl) (by kernel_rfl) (fun _ _ _ h => h) (Or.inl ⟨by rfl, ?_⟩) hH ?_
      rotate_left
      · intro w hSw
        clear hSw
        go_simp
        try with_reducible rfl
      simp only [Act.put, List.setIfInBounds_toArray, List.set_cons_zero, List.set_cons_succ]
      refine wpAnyH_ready (rs := [11]) (by kernel_rfl) (by simp) ?_
      refine AllReadyH.cons (o := { dst := none, op := .store _ (.tmp 19) (.tmp 18), type := _, pos := _, after := _, guard := _ }) rfl (fun K hK => ?_) AllReadyH.nil
      rw [if_pos (by rfl)]
      refine wp_store_mid _ _ _ rfl (n + 2) _ #[.int .i64 (t.k i), .int .i64 (t.v i)] rfl rfl (h13q.out.thereS hlt) HT.out (two_one _ _) ?_
      simp only [Act.put]
      have h17q : Hid (Gd n w (u14q.setCells (n + 2) (i * 2) [.int .i64 (t.k i), .int .i64 (t.v i)])) := h10q.out.asideL (by omega) (i * 2) [.int .i64 (t.k i), .int .i64 (t.v i)]
      have h18q : Hid (TAt (u14q.setCells (n + 2) (i * 2) [.int .i64 (t.k i), .int .i64 (t.v i)]) n t) := h11q.out.asideL (by omega) (i * 2) [.int .i64 (t.k i), .int .i64 (t.v i)]
      have h19q : Hid (TAt (u14q.setCells (n + 2) (i * 2) [.int .i64 (t.k i), .int .i64 (t.v i)]) (n + 1) Tb.zero) := h12q.out.asideL (by omega) (i * 2) [.int .i64 (t.k i), .int .i64 (t.v i)]
      have h20q : Hid (TAt (u14q.setCells (n + 2) (i * 2) [.int .i64 (t.k i), .int .i64 (t.v i)]) (n + 2) ((cp t i).set i (t.k i) (t.v i))) := h13q.out.slot hlt (t.k i) (t.v i)
      clear h10q h11q h12q h13q
      refine hK.out _ _ h18q.out (fun hH => ?_)
      clear hK K
      generalize (u14q.setCells (n + 2) (i * 2) [.int .i64 (t.k i), .int .i64 (t.v i)]) = u21q at h17q h18q h19q h20q hH ⊢
      try simp only [Act.put, List.setIfInBounds_toArray, List.set_cons_zero, List.set_cons_succ]
      refine wpAnyH_done (by kernel_rfl) ?_ _
      go_wp2
      go_roundg (8 - (i + 1))
      case measure => omega
      case rel => exact ⟨i + 1, by omega, by omega, by go_num, h18q, h19q, CS.out ▸ h20q, h17q⟩
    · obtain rfl : i = 8 := by omega
      go_wp2_with (first
        | (refine wpList_load_mid rfl 29 _ rfl (n + 2) _ rfl (cp t 8).all _ S.out.range HD.out rfl (HS.out (cp t 8)) ?_)
        | (refine wpList_store_mid rfl 29 _ _ rfl (n + 1) _ (cp t 8).all.toArray rfl rfl (Z.out.thereOf (cp t 8)) (HZ.out (cp t 8)) ((cp t 8).all_all) ?_
           have h22q : Hid (Gd n w (wr.setCells (n + 1) 0 (cp t 8).all)) := G.out.asideAll (by omega) (cp t 8)
           have h23q : Hid (TAt (wr.setCells (n + 1) 0 (cp t 8).all) n t) := T.out.asideAll (by omega) (cp t 8)
           have h24q : Hid (TAt (wr.setCells (n + 1) 0 (cp t 8).all) (n + 1) (cp t 8)) := Z.out.setAll (cp t 8)
           have h25q : Hid (TAt (wr.setCells (n + 1) 0 (cp t 8).all) (n + 2) (cp t 8)) := S.out.asideAll (by omega) (cp t 8)
           clear G T Z S
           generalize (wr.setCells (n + 1) 0 (cp t 8).all) = u26q at h22q h23q h24q h25q  ⊢))
      refine bodyPost_ret (results_row Try.results10 _ _ (n + 1) (cp t 8).all _ rfl h24q.out.range HD.out rfl (HS.out (cp t 8))) rfl ⟨?_, h22q.out.2⟩
      rw [HCA.out]
end Go.Proofs.Ytojnkfdodjcnfaa
