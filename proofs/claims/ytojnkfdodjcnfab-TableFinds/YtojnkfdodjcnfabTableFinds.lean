/- TableFinds is proved: for every list of operations and every key the call returns true (each key that stands in a slot has its value, and no other one is there). -/
import Derived.Test.YtojnkfdodjcnfabRows
import Derived.Test.YtojnkfdodjcnfabKf
import Derived.Test.YtojnkfdodjcnfabTl
import Derived.Test.YtojnkfdodjcnfabArgOps
import Derived.Deep.DeepCutAuto
import Derived.Deep.RegionHeld3

namespace Go.Proofs.Ytojnkfdodjcnfab.tableFinds
open Go.ChangeShapes Go.WideShapes Go.ChangeAt Go.RowKit
set_option linter.unusedVariables false

theorem own : ownKnob Try.prog.godebug = none := by kernel_rfl

/-- Does the key stand in one of the first i slots? -/
def there (t : Tb) (k : Int) (i : Nat) : Bool := (List.range i).any fun j => t.k j == k
theorem there_succ (t : Tb) (k : Int) (i : Nat) : there t k (i + 1) = (there t k i || t.k i == k) := by
  unfold there
  rw [List.range_succ, List.any_append]
  simp
theorem there_end {t : Tb} (h : RT t) {k : Int} (hk : k ≠ 0) : (there t k 8 = true ∧ (look t k).1 = 1) ∨ (there t k 8 = false ∧ (look t k).1 = 4) := by
  by_cases hh : t.k (place t k) = k
  · refine Or.inl ⟨?_, by rw [look_has hh]⟩
    unfold there
    rw [List.any_eq_true]
    exact ⟨place t k, by simpa using place_lt t k, by simpa using hh⟩
  · refine Or.inr ⟨?_, by rw [look_hasnt hh]⟩
    unfold there
    rw [List.any_eq_false]
    intro j hj
    have hj8 : j < 8 := by simpa using hj
    have : t.k j ≠ k := fun e => out_of_place h hk hh (t.v j) ⟨j, hj8, e, rfl⟩
    simpa using this

set_option maxHeartbeats 4000000 in
theorem walk (v0 : Value) (n0 : Nat) (a1 : Int) (w1 : (Lit.int .i64 a1).wf = true) (w : World) (D0 : Ops w v0 n0) :
    Calls Try.prog 5 #[v0, .int .i64 a1] w fun e w' => e = .returned (.bool true) ∧ Below w.heap.size w w' := by
  obtain ⟨na, ea, hd⟩ := slots_array
  have HD : Hid _ := hd
  clear hd
  have HS : Hid (∀ t : Tb, (Try.prog.info? 27).map (·.size) = some t.all.length) := slots_size
  have HZ : Hid (∀ t : Tb, (Try.prog.info? 27).map (·.size) = some t.all.toArray.size) := slots_size2
  have HT : Hid ((Try.prog.info? 25).map (·.size) = some 2) := slot_size
  have HA : Hid ((Try.prog.info? 31).map (·.size) = some 2) := answer_size
  obtain ⟨fs, ha⟩ := answer_struct
  have HDA : Hid _ := ha
  clear ha
  have EQ := slots_equal
  have FD0 := field0
  have FD1 := field1
  have g0 : Hid (Gd w.heap.size w w) := Gd.refl w
  have HD0 : Hid (Ops w v0 n0) := D0
  clear D0
  clear w1
  obtain ⟨r1, hr1, pr1⟩ := key_fun a1
  have Pr1 : Hid _ := pr1
  clear pr1
  obtain ⟨k, ek⟩ : ∃ k : Int, 1 + (r1 : Int) = k := ⟨_, rfl⟩
  have hk1 : 1 ≤ k := by omega
  have hk2 : k ≤ 1000 := by omega
  rw [ek] at Pr1
  clear ek hr1
  go_enter Try.func5, Try.ntmps5
  go_wp2_with fail
  generalize w.heap.size = n at g0 ⊢
  refine (tabled_is _).mono ?_
  rintro e u2305q ⟨rfl, hb⟩
  have h2306q : Hid (Gd n w u2305q) := g0.out.later hb
  clear g0
  clear hb
  go_wp2_with fail
  refine (filled_is (HD0.out.later h2306q.out.2)).mono ?_
  rintro e u2307q ⟨t, hR, rfl, hb⟩
  have h2308q : Hid (Gd n w u2307q) := h2306q.out.later hb
  clear h2306q
  clear hb
  have R : Hid (RT t) := hR
  clear hR HD0
  have l2309q : n ≤ u2307q.heap.size := h2308q.out.le
  have h2310q : Hid (Gd n w (u2307q.alloc (.cells #[.int .i64 0, .int .i64 0, .int .i64 0, .int .i64 0, .int .i64 0, .int .i64 0, .int .i64 0, .int .i64 0, .int .i64 0, .int .i64 0, .int .i64 0, .int .i64 0, .int .i64 0, .int .i64 0, .int .i64 0, .int .i64 0] 27))) := h2308q.out.new (.cells #[.int .i64 0, .int .i64 0, .int .i64 0, .int .i64 0, .int .i64 0, .int .i64 0, .int .i64 0, .int .i64 0, .int .i64 0, .int .i64 0, .int .i64 0, .int .i64 0, .int .i64 0, .int .i64 0, .int .i64 0, .int .i64 0] 27)
  clear h2308q
  have h2311q : Hid (TAt (u2307q.alloc (.cells #[.int .i64 0, .int .i64 0, .int .i64 0, .int .i64 0, .int .i64 0, .int .i64 0, .int .i64 0, .int .i64 0, .int .i64 0, .int .i64 0, .int .i64 0, .int .i64 0, .int .i64 0, .int .i64 0, .int .i64 0, .int .i64 0] 27)) u2307q.heap.size Tb.zero) := TAt.bornZero u2307q 27 (by simp)
  have HX : Hid _ := slot_at t
  go_wp2_with (first
    | (refine wpList_store_mid rfl 27 _ _ rfl u2307q.heap.size _ t.all.toArray rfl rfl (h2311q.out.thereOf t) (HZ.out t) (t.all_all) ?_
       have h2312q : Hid (Gd n w ((u2307q.alloc (.cells #[.int .i64 0, .int .i64 0, .int .i64 0, .int .i64 0, .int .i64 0, .int .i64 0, .int .i64 0, .int .i64 0, .int .i64 0, .int .i64 0, .int .i64 0, .int .i64 0, .int .i64 0, .int .i64 0, .int .i64 0, .int .i64 0] 27)).setCells u2307q.heap.size 0 t.all)) := h2310q.out.asideAll (by omega) t
       have h2313q : Hid (TAt ((u2307q.alloc (.cells #[.int .i64 0, .int .i64 0, .int .i64 0, .int .i64 0, .int .i64 0, .int .i64 0, .int .i64 0, .int .i64 0, .int .i64 0, .int .i64 0, .int .i64 0, .int .i64 0, .int .i64 0, .int .i64 0, .int .i64 0, .int .i64 0] 27)).setCells u2307q.heap.size 0 t.all) u2307q.heap.size t) := h2311q.out.setAll t
       clear h2310q h2311q
       generalize ((u2307q.alloc (.cells #[.int .i64 0, .int .i64 0, .int .i64 0, .int .i64 0, .int .i64 0, .int .i64 0, .int .i64 0, .int .i64 0, .int .i64 0, .int .i64 0, .int .i64 0, .int .i64 0, .int .i64 0, .int .i64 0, .int .i64 0, .int .i64 0] 27)).setCells u2307q.heap.size 0 t.all) = u2314q at h2312q h2313q  ⊢))
  refine (Pr1.out _).mono ?_
  rintro e u2315q ⟨rfl, hw⟩
  rw [hw]; clear hw u2315q
  go_wp2_with (first
    | (refine wpList_load_mid rfl 27 _ rfl u2307q.heap.size _ rfl t.all _ h2313q.out.range HD.out rfl (HS.out t) ?_))
  obtain ⟨m, hm⟩ : ∃ m, m = u2307q.heap.size := ⟨_, rfl⟩
  rw [← hm] at h2313q ⊢
  clear hm
  go_loopg [6, 16] 8 (fun gg s6 s16 wt => ∃ i : Nat, i ≤ 8 ∧ 8 - i ≤ gg ∧ s16 = .int .i64 i ∧ s6 = .bool (there t k i) ∧ Hid (TAt wt m t) ∧ Hid (Gd n w wt))
  case atStart => exact ⟨0, by omega, by omega, rfl, rfl, h2313q, h2312q⟩
  case round =>
    obtain ⟨i, hi, hgg, rfl, rfl, T, G⟩ := hrel
    clear h2313q h2312q
    by_cases hlt : i < 8
    · have hx := HX.out i hlt
      have TH : Hid (there t k (i + 1) = (there t k i || t.k i == k)) := there_succ t k i
      have FO : Hid (t.k i ≠ 0 → look t (t.k i) = (1, t.v i)) := fun h0 => look_in R.out h0 ⟨i, hlt, rfl, rfl⟩
      have hkr := R.out.keys i hlt
      generalize there t k i = b at *
      generalize t.k i = x at *
      generalize t.v i = y at *
      have l2316q : n ≤ wr.heap.size := G.out.le
      have l2317q : m < wr.heap.size := T.out.lt
      have h2318q : Hid (Gd n w (wr.alloc (.cells #[.int .i64 x, .int .i64 y] 25))) := G.out.new (.cells #[.int .i64 x, .int .i64 y] 25)
      have h2319q : Hid (TAt (wr.alloc (.cells #[.int .i64 x, .int .i64 y] 25)) m t) := T.out.new (.cells #[.int .i64 x, .int .i64 y] 25)
      clear G T
      have h2320q : Hid (Bo (wr.alloc (.cells #[.int .i64 x, .int .i64 y] 25)) wr.heap.size [.int .i64 x, .int .i64 y]) := Bo.born wr [.int .i64 x, .int .i64 y] 25 (by simp)
      go_wp2_with fail
      generalize (wr.alloc (.cells #[.int .i64 x, .int .i64 y] 25)) = W2 at h2318q h2319q h2320q  ⊢
      by_cases h0 : x = 0
      · have m0 : (x == 0) = true := by simp [h0]
        have m1 : (x != 0) = false := by simp [h0]
        clear h0
        have h2321q : Hid (Gd n w W2.drew) := h2318q.out.drew
        have h2322q : Hid (TAt W2.drew m t) := h2319q.out.drew
        have h2323q : Hid (Bo W2.drew wr.heap.size [.int .i64 x, .int .i64 y]) := h2320q.out.drew
        clear h2318q h2319q h2320q
        refine wp_region_held_drew (S := fun w' => Bo w' wr.heap.size [.int .i64 x, .int .i64 y] ∧ TAt w' m t) (by kernel_rfl) ⟨h2323q.out, h2322q.out⟩ (fun hH => ?_)
        generalize W2.drew = u2324q at h2321q h2322q h2323q hH ⊢
        refine wpAnyH_take (i := 0) (oi := { dst := some 19, op := .fieldAddr _ (.tmp 8) 0, type := _, pos := _, after := _, guard := _ }) (v := ?_) rfl (by kernel_rfl) (by kernel_rfl) (by kernel_rfl) (fun _ _ _ h => h) (Or.inl ⟨by rfl, ?_⟩) hH ?_
        rotate_left
        · intro w hSw
          clear hSw
          go_simp
          try with_reducible rfl
        simp only [Act.put, List.setIfInBounds_toArray, List.set_cons_zero, List.set_cons_succ]
        refine wpAnyH_take (i := 1) (oi := { dst := some 20, op := .load _ (.tmp 19), type := _, pos := _, after := _, guard := _ }) (v := ?_) rfl (by kernel_rfl) (by kernel_rfl) (by kernel_rfl) (fun _ _ _ h => h) (Or.inl ⟨by rfl, ?_⟩) hH ?_
        rotate_left
        · intro w hSw
          have c2325q := (hSw.1).at 0 rfl
          clear hSw
          go_simp
          try with_reducible rfl
        simp only [Act.put, List.setIfInBounds_toArray, List.set_cons_zero, List.set_cons_succ]
        refine wpAnyH_take (i := 2) (oi := { dst := some 21, op := .binOp .neq _ (.tmp 20) (.const (.int .i64 0)) _, type := _, pos := _, after := _, guard := _ }) (v := ?_) rfl (by kernel_rfl) (by kernel_rfl) (by kernel_rfl) (fun _ _ _ h => h) (Or.inl ⟨by rfl, ?_⟩) hH ?_
        rotate_left
        · intro w hSw
          clear hSw
          go_simp
          try with_reducible rfl
        simp only [Act.put, List.setIfInBounds_toArray, List.set_cons_zero, List.set_cons_succ]
        refine wpAnyH_take (i := 3) (oi := { dst := some 22, op := .move (.tmp 21), type := _, pos := _, after := _, guard := _ }) (v := ?_) rfl (by kernel_rfl) (by kernel_rfl) (by kernel_rfl) (fun _ _ _ h => h) (Or.inl ⟨by rfl, ?_⟩) hH ?_
        rotate_left
        · intro w hSw
          clear hSw
          go_simp
          try with_reducible rfl
        simp only [Act.put, List.setIfInBounds_toArray, List.set_cons_zero, List.set_cons_succ]
        refine wpAnyH_take (i := 4) (oi := { dst := some 23, op := .load _ (.tmp 5), type := _, pos := _, after := _, guard := _ }) (v := _) rfl (by kernel_rfl) (by kernel_rfl) (by kernel_rfl) (fun _ _ _ h => h) (Or.inr ⟨by rfl, rfl⟩) hH ?_
        simp only [Act.put, List.setIfInBounds_toArray, List.set_cons_zero, List.set_cons_succ]
        refine wpAnyH_take (i := 5) (oi := { dst := some 24, op := .fieldAddr _ (.tmp 8) 0, type := _, pos := _, after := _, guard := _ }) (v := _) rfl (by kernel_rfl) (by kernel_rfl) (by kernel_rfl) (fun _ _ _ h => h) (Or.inr ⟨by rfl, rfl⟩) hH ?_
        simp only [Act.put, List.setIfInBounds_toArray, List.set_cons_zero, List.set_cons_succ]
        refine wpAnyH_take (i := 6) (oi := { dst := some 25, op := .load _ (.tmp 24), type := _, pos := _, after := _, guard := _ }) (v := _) rfl (by kernel_rfl) (by kernel_rfl) (by kernel_rfl) (fun _ _ _ h => h) (Or.inr ⟨by rfl, rfl⟩) hH ?_
        simp only [Act.put, List.setIfInBounds_toArray, List.set_cons_zero, List.set_cons_succ]
        refine wpAnyH_take (i := 7) (oi := { dst := some 26, op := .call { callee := Callee.value (.func 11), args := #[.tmp 23, .tmp 25], argTypes := #[27, 3] }, type := _, pos := _, after := _, guard := _ }) (v := _) rfl (by kernel_rfl) (by kernel_rfl) (by kernel_rfl) (fun _ _ _ h => h) (Or.inr ⟨by rfl, rfl⟩) hH ?_
        simp only [Act.put, List.setIfInBounds_toArray, List.set_cons_zero, List.set_cons_succ]
        refine wpAnyH_take (i := 8) (oi := { dst := some 27, op := .fieldAddr _ (.tmp 8) 1, type := _, pos := _, after := _, guard := _ }) (v := _) rfl (by kernel_rfl) (by kernel_rfl) (by kernel_rfl) (fun _ _ _ h => h) (Or.inr ⟨by rfl, rfl⟩) hH ?_
        simp only [Act.put, List.setIfInBounds_toArray, List.set_cons_zero, List.set_cons_succ]
        refine wpAnyH_take (i := 9) (oi := { dst := some 28, op := .load _ (.tmp 27), type := _, pos := _, after := _, guard := _ }) (v := _) rfl (by kernel_rfl) (by kernel_rfl) (by kernel_rfl) (fun _ _ _ h => h) (Or.inr ⟨by rfl, rfl⟩) hH ?_
        simp only [Act.put, List.setIfInBounds_toArray, List.set_cons_zero, List.set_cons_succ]
        refine wpAnyH_take (i := 10) (oi := { dst := some 29, op := .build _ #[(0, .const (.int .i64 1)), (1, .tmp 28)], type := _, pos := _, after := _, guard := _ }) (v := _) rfl (by kernel_rfl) (by kernel_rfl) (by kernel_rfl) (fun _ _ _ h => h) (Or.inr ⟨by rfl, rfl⟩) hH ?_
        simp only [Act.put, List.setIfInBounds_toArray, List.set_cons_zero, List.set_cons_succ]
        refine wpAnyH_take (i := 11) (oi := { dst := some 30, op := .binOp .neq _ (.tmp 26) (.tmp 29) _, type := _, pos := _, after := _, guard := _ }) (v := _) rfl (by kernel_rfl) (by kernel_rfl) (by kernel_rfl) (fun _ _ _ h => h) (Or.inr ⟨by rfl, rfl⟩) hH ?_
        simp only [Act.put, List.setIfInBounds_toArray, List.set_cons_zero, List.set_cons_succ]
        refine wpAnyH_take (i := 12) (oi := { dst := some 31, op := .pick (.tmp 22) (.tmp 30) (.const (.bool false)), type := _, pos := _, after := _, guard := _ }) (v := ?_) rfl (by kernel_rfl) (by kernel_rfl) (by kernel_rfl) (fun _ _ _ h => h) (Or.inl ⟨by rfl, ?_⟩) hH ?_
        rotate_left
        · intro w hSw
          clear hSw
          go_simp
          try with_reducible rfl
        simp only [Act.put, List.setIfInBounds_toArray, List.set_cons_zero, List.set_cons_succ]
        refine wpAnyH_done (by kernel_rfl) ?_ _
        have c2326q := h2323q.out.at 0 rfl
        by_cases hxk : x = k
        · have mk : (x == k) = true := by simp [hxk]
          clear hxk
          cases b with
          | true =>
            go_wp2
            go_roundg (8 - (i + 1))
            case measure => omega
            case rel => exact ⟨i + 1, by omega, by omega, by go_num, by rw [TH.out, mk]; rfl, h2322q, h2321q⟩
          | false =>
            go_wp2
            go_roundg (8 - (i + 1))
            case measure => omega
            case rel => exact ⟨i + 1, by omega, by omega, by go_num, by rw [TH.out, mk]; rfl, h2322q, h2321q⟩
        · have mk : (x == k) = false := by simp [hxk]
          clear hxk
          cases b with
          | true =>
            go_wp2
            go_roundg (8 - (i + 1))
            case measure => omega
            case rel => exact ⟨i + 1, by omega, by omega, by go_num, by rw [TH.out, mk]; rfl, h2322q, h2321q⟩
          | false =>
            go_wp2
            go_roundg (8 - (i + 1))
            case measure => omega
            case rel => exact ⟨i + 1, by omega, by omega, by go_num, by rw [TH.out, mk]; rfl, h2322q, h2321q⟩
      · have m0 : (x == 0) = false := by simp [h0]
        have m1 : (x != 0) = true := by simp [h0]
        have PX := peek_is t x (by omega) (by omega)
        rw [show look t x = (1, y) from (FO.out h0)] at PX
        dsimp only at PX
        clear h0 hkr
        have h2327q : Hid (Gd n w W2.drew) := h2318q.out.drew
        have h2328q : Hid (TAt W2.drew m t) := h2319q.out.drew
        have h2329q : Hid (Bo W2.drew wr.heap.size [.int .i64 x, .int .i64 y]) := h2320q.out.drew
        clear h2318q h2319q h2320q
        refine wp_region_held_drew (S := fun w' => Bo w' wr.heap.size [.int .i64 x, .int .i64 y] ∧ TAt w' m t) (by kernel_rfl) ⟨h2329q.out, h2328q.out⟩ (fun hH => ?_)
        generalize W2.drew = u2330q at h2327q h2328q h2329q hH ⊢
        refine wpAnyH_take (i := 0) (oi := { dst := some 19, op := .fieldAddr _ (.tmp 8) 0, type := _, pos := _, after := _, guard := _ }) (v := ?_) rfl (by kernel_rfl) (by kernel_rfl) (by kernel_rfl) (fun _ _ _ h => h) (Or.inl ⟨by rfl, ?_⟩) hH ?_
        rotate_left
        · intro w hSw
          clear hSw
          go_simp
          try with_reducible rfl
        simp only [Act.put, List.setIfInBounds_toArray, List.set_cons_zero, List.set_cons_succ]
        refine wpAnyH_take (i := 1) (oi := { dst := some 20, op := .load _ (.tmp 19), type := _, pos := _, after := _, guard := _ }) (v := ?_) rfl (by kernel_rfl) (by kernel_rfl) (by kernel_rfl) (fun _ _ _ h => h) (Or.inl ⟨by rfl, ?_⟩) hH ?_
        rotate_left
        · intro w hSw
          have c2331q := (hSw.1).at 0 rfl
          clear hSw
          go_simp
          try with_reducible rfl
        simp only [Act.put, List.setIfInBounds_toArray, List.set_cons_zero, List.set_cons_succ]
        refine wpAnyH_take (i := 2) (oi := { dst := some 21, op := .binOp .neq _ (.tmp 20) (.const (.int .i64 0)) _, type := _, pos := _, after := _, guard := _ }) (v := ?_) rfl (by kernel_rfl) (by kernel_rfl) (by kernel_rfl) (fun _ _ _ h => h) (Or.inl ⟨by rfl, ?_⟩) hH ?_
        rotate_left
        · intro w hSw
          clear hSw
          go_simp
          try with_reducible rfl
        simp only [Act.put, List.setIfInBounds_toArray, List.set_cons_zero, List.set_cons_succ]
        refine wpAnyH_take (i := 3) (oi := { dst := some 22, op := .move (.tmp 21), type := _, pos := _, after := _, guard := _ }) (v := ?_) rfl (by kernel_rfl) (by kernel_rfl) (by kernel_rfl) (fun _ _ _ h => h) (Or.inl ⟨by rfl, ?_⟩) hH ?_
        rotate_left
        · intro w hSw
          clear hSw
          go_simp
          try with_reducible rfl
        simp only [Act.put, List.setIfInBounds_toArray, List.set_cons_zero, List.set_cons_succ]
        refine wpAnyH_take (i := 4) (oi := { dst := some 23, op := .load _ (.tmp 5), type := _, pos := _, after := _, guard := _ }) (v := _) rfl (by kernel_rfl) (by kernel_rfl) (by kernel_rfl) (fun _ _ _ h => h) (yieldsIf_load_mid (by rfl) _ _ rfl m _ rfl t.all _ (fun _ h => (h.2).range) HD.out rfl (HS.out t)) hH ?_
        simp only [Act.put, List.setIfInBounds_toArray, List.set_cons_zero, List.set_cons_succ]
        refine wpAnyH_take (i := 5) (oi := { dst := some 24, op := .fieldAddr _ (.tmp 8) 0, type := _, pos := _, after := _, guard := _ }) (v := ?_) rfl (by kernel_rfl) (by kernel_rfl) (by kernel_rfl) (fun _ _ _ h => h) (Or.inl ⟨by rfl, ?_⟩) hH ?_
        rotate_left
        · intro w hSw
          clear hSw
          go_simp
          try with_reducible rfl
        simp only [Act.put, List.setIfInBounds_toArray, List.set_cons_zero, List.set_cons_succ]
        refine wpAnyH_take (i := 6) (oi := { dst := some 25, op := .load _ (.tmp 24), type := _, pos := _, after := _, guard := _ }) (v := ?_) rfl (by kernel_rfl) (by kernel_rfl) (by kernel_rfl) (fun _ _ _ h => h) (Or.inl ⟨by rfl, ?_⟩) hH ?_
        rotate_left
        · intro w hSw
          have c2332q := (hSw.1).at 0 rfl
          clear hSw
          go_simp
          try with_reducible rfl
        simp only [Act.put, List.setIfInBounds_toArray, List.set_cons_zero, List.set_cons_succ]
        refine wpAnyH_take (i := 8) (oi := { dst := some 27, op := .fieldAddr _ (.tmp 8) 1, type := _, pos := _, after := _, guard := _ }) (v := ?_) rfl (by kernel_rfl) (by kernel_rfl) (by kernel_rfl) (fun _ _ _ h => h) (Or.inl ⟨by rfl, ?_⟩) hH ?_
        rotate_left
        · intro w hSw
          clear hSw
          go_simp
          try with_reducible rfl
        simp only [Act.put, List.setIfInBounds_toArray, List.set_cons_zero, List.set_cons_succ]
        refine wpAnyH_take (i := 9) (oi := { dst := some 28, op := .load _ (.tmp 27), type := _, pos := _, after := _, guard := _ }) (v := ?_) rfl (by kernel_rfl) (by kernel_rfl) (by kernel_rfl) (fun _ _ _ h => h) (Or.inl ⟨by rfl, ?_⟩) hH ?_
        rotate_left
        · intro w hSw
          have c2333q := (hSw.1).at 1 rfl
          clear hSw
          go_simp
          try with_reducible rfl
        simp only [Act.put, List.setIfInBounds_toArray, List.set_cons_zero, List.set_cons_succ]
        refine wpAnyH_take (i := 10) (oi := { dst := some 29, op := .build _ #[(0, .const (.int .i64 1)), (1, .tmp 28)], type := _, pos := _, after := _, guard := _ }) (v := ?_) rfl (by kernel_rfl) (by kernel_rfl) (by kernel_rfl) (fun _ _ _ h => h) (Or.inl ⟨by rfl, ?_⟩) hH ?_
        rotate_left
        · intro w hSw
          clear hSw
          go_simp
          try with_reducible rfl
        simp only [Act.put, List.setIfInBounds_toArray, List.set_cons_zero, List.set_cons_succ]
        refine wpAnyH_ready (rs := [7]) (by kernel_rfl) (by simp) ?_
        refine AllReadyH.cons (o := { dst := some 26, op := _, type := _, pos := _, after := _, guard := _ }) rfl (fun K hK => ?_) AllReadyH.nil
        go_simp
        refine (PX _).mono ?_
        rintro e u2334q ⟨rfl, hb⟩
        have h2335q : Hid (Gd n w u2334q) := h2327q.out.later hb
        have h2336q : Hid (TAt u2334q m t) := h2328q.out.later hb
        have h2337q : Hid (Bo u2334q wr.heap.size [.int .i64 x, .int .i64 y]) := h2329q.out.later hb
        clear h2327q h2328q h2329q
        clear hb
        go_wp2_with fail
        refine hK.out _ _ ⟨h2337q.out, h2336q.out⟩ (fun hH => ?_)
        clear hK K
        try simp only [Act.put, List.setIfInBounds_toArray, List.set_cons_zero, List.set_cons_succ]
        refine wpAnyH_take (i := 11) (oi := { dst := some 30, op := .binOp .neq _ (.tmp 26) (.tmp 29) _, type := _, pos := _, after := _, guard := _ }) (v := ?_) rfl (by kernel_rfl) (by kernel_rfl) (by kernel_rfl) (fun _ _ _ h => h) (Or.inl ⟨by rfl, ?_⟩) hH ?_
        rotate_left
        · intro w hSw
          clear hSw
          go_simp
          try with_reducible rfl
        simp only [Act.put, List.setIfInBounds_toArray, List.set_cons_zero, List.set_cons_succ]
        refine wpAnyH_take (i := 12) (oi := { dst := some 31, op := .pick (.tmp 22) (.tmp 30) (.const (.bool false)), type := _, pos := _, after := _, guard := _ }) (v := ?_) rfl (by kernel_rfl) (by kernel_rfl) (by kernel_rfl) (fun _ _ _ h => h) (Or.inl ⟨by rfl, ?_⟩) hH ?_
        rotate_left
        · intro w hSw
          clear hSw
          go_simp
          try with_reducible rfl
        simp only [Act.put, List.setIfInBounds_toArray, List.set_cons_zero, List.set_cons_succ]
        refine wpAnyH_done (by kernel_rfl) ?_ _
        have c2338q := h2337q.out.at 0 rfl
        by_cases hxk : x = k
        · have mk : (x == k) = true := by simp [hxk]
          clear hxk
          cases b with
          | true =>
            go_wp2
            go_roundg (8 - (i + 1))
            case measure => omega
            case rel => exact ⟨i + 1, by omega, by omega, by go_num, by rw [TH.out, mk]; rfl, h2336q, h2335q⟩
          | false =>
            go_wp2
            go_roundg (8 - (i + 1))
            case measure => omega
            case rel => exact ⟨i + 1, by omega, by omega, by go_num, by rw [TH.out, mk]; rfl, h2336q, h2335q⟩
        · have mk : (x == k) = false := by simp [hxk]
          clear hxk
          cases b with
          | true =>
            go_wp2
            go_roundg (8 - (i + 1))
            case measure => omega
            case rel => exact ⟨i + 1, by omega, by omega, by go_num, by rw [TH.out, mk]; rfl, h2336q, h2335q⟩
          | false =>
            go_wp2
            go_roundg (8 - (i + 1))
            case measure => omega
            case rel => exact ⟨i + 1, by omega, by omega, by go_num, by rw [TH.out, mk]; rfl, h2336q, h2335q⟩
    · obtain rfl : i = 8 := by omega
      have TE : Hid ((there t k 8 = true ∧ (look t k).1 = 1) ∨ (there t k 8 = false ∧ (look t k).1 = 4)) := there_end R.out (by omega)
      generalize there t k 8 = b at *
      have PK := peek_is t k (by omega) (by omega)
      generalize (look t k).1 = c at PK TE
      generalize (look t k).2 = y at PK
      go_wp2_with (first
        | (refine wpList_load_mid rfl 27 _ rfl m _ rfl t.all _ T.out.range HD.out rfl (HS.out t) ?_))
      refine (PK _).mono ?_
      rintro e u2339q ⟨rfl, hb⟩
      have h2340q : Hid (Gd n w u2339q) := G.out.later hb
      have h2341q : Hid (TAt u2339q m t) := T.out.later hb
      clear G T
      clear hb
      clear PK
      rcases TE.out with ⟨hb1, hc1⟩ | ⟨hb1, hc1⟩
      · subst hb1 hc1
        go_wp2
        go_ret
        exact ⟨rfl, h2340q.out.2⟩
      · subst hb1 hc1
        go_wp2
        go_ret
        exact ⟨rfl, h2340q.out.2⟩


set_option maxRecDepth 100000 in
theorem lifted (os : Os) (started : os.Started) (H : Type) (enc : TypeId × Value → H) :
    ReturnsInHanded {} Try.checked os 5 .any (Rows.tableFindsSpec.pre6 enc Try.prog Try.f5 Rows.tableFindsRow.domain false) (Rows.tableFindsSpec.post enc Try.prog Try.f5 false true false false) := by
  refine returnsInHanded_of_change (C := Try.checked) own started (by kernel_rfl) Try.func5
    (ChangeSpec.witness6 (enc := enc) (C := Try.checked) false ⟨#[], #[.slice none 0 0, .int .i64 0], []⟩ 8 (by kernel_rfl) (by kernel_rfl) (by kernel_rfl) (by kernel_rfl)) ?_
  intro W base args ds gs before hval0 hW hcnd _
  have hval : ∀ (j : Nat) t v, Try.f5.params[j]? = some t → args[j]? = some v → Value.okWide Try.prog W .any base t v := hval0
  have hW' := hW
  obtain ⟨p, q, hA0, hV, rfl, hfz, hnd⟩ := hW
  have hA : DataW.TrodAll enc Try.prog W 0 (fun _ => true) true Try.f5.params.toList args.toList ds p := hA0
  rw [Try.params5] at hA hval
  obtain ⟨v0, vs0, d0, ds0, p0, q0, hargs, rfl, rfl, h0, r0⟩ := trodAll_cons hA
  obtain ⟨v1, vs1, d1, ds1, p1, q1, rfl, rfl, rfl, h1, r1⟩ := trodAll_cons r0
  obtain ⟨rfl, rfl, rfl⟩ := trodAll_nil r1
  obtain rfl : args = #[v0, v1] := by cases args; simp_all
  obtain ⟨rfl, rfl⟩ := trodVars_none hV
  obtain ⟨n0, D0⟩ := ops_of_trod (hval 0 22 v0 rfl rfl) h0
  obtain ⟨a1, rfl, rfl, rfl, w1⟩ := open_int Try.underlying3 (hval 1 3 v1 rfl rfl) h1
  have hlt := hW'.lt
  clear hA0 hval0
  refine (walk v0 n0 a1 w1 W  D0).mono fun e W' ⟨he, hg⟩ => ?_
  subst he
  exact ⟨_, rfl, post_below (pv := []) hW' (fun _ _ _ => (trodAll_cons_mk (shut_bool Try.underlying4 _) trodAll_mk0)) (fun sp hsp => (trodAll_cons_mk (ops_stay h0 hg (fun x hx => hlt x (by simp [hx])) (fun x hx => hsp x (by simp [hx]))) (trodAll_cons_mk (shut_int Try.underlying3 w1) trodAll_mk0))) (fun _ _ => rfl) (by simp) (hg.frame _)⟩

theorem over : Rows.tableFindsRow.holds Try.pinned (OpenSpec.ofChange Rows.tableFindsSpec) :=
  OpenClaim.holds_of_wide 5 Try.f5 rfl rfl rfl rfl rfl rfl rfl ⟨rfl, rfl, rfl, rfl, rfl⟩ rfl rfl rfl rfl rfl (by kernel_rfl) Try.func5 (by kernel_rfl)
    (of_decide_eq_true (by kernel_rfl)) (by unfold Func.isWrapper; first | (rw [if_pos (by decide +kernel)]; kernel_rfl) | (rw [if_neg (by decide +kernel)]; exact ⟨rfl, rfl⟩))
    (fun os started H enc _ => lifted os started H enc)

theorem proved : Rows.TableFindsSaid :=
  over
#print axioms proved
end Go.Proofs.Ytojnkfdodjcnfab.tableFinds
