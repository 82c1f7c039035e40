/- The reference's store: Crash and Dirty, by their contracts. -/
import Derived.Test.YthgkmbimmelglaaDoorRf2
import Derived.Test.YthgkmbimmelglaaDoorSt3
namespace Go.Proofs.YthgkmbimmelglaaDoor
open Go.RowKit

theorem words_desc : Tryd.prog.underlying 30 = some (.array 72 27) := by kernel_rfl
theorem words_size (f : Nat → Int) (o : Nat) : (Tryd.prog.info? 30).map (·.size) = some (row f o 72).length := by rw [row_length]; kernel_rfl

theorem RfAt.backed {w : World} {r m : Nat} {s : St} (hs : RfAt w r m s) : RfAt (w.setCells r 0 (row s.good 0 72)) r m s.back := by
  refine hs.setCells _ _ (by simp) _ (fun i hi => ?_) (fun j hj h => ?_) rfl
  · have hi' : i < 72 := by simpa using hi
    rw [row_get, Nat.zero_add]
    simp [St.rat, hi', St.back]
  · have h' : 72 ≤ j := by simpa using h
    unfold St.rat St.back
    simp [show ¬ j < 72 by omega]

/-- A new map in the map's cell: no wish stands. -/
theorem RfAt.renewed {w : World} {r m : Nat} {s : St} (hs : RfAt w r m s) : RfAt ((w.setCell ⟨r, 144, none⟩ (.map (some w.heap.size))).alloc (.map #[] 0)) r w.heap.size { s with want := fun _ => false } where
  cell j hj := by
    have hlt : r < (w.setCell ⟨r, 144, none⟩ (.map (some w.heap.size))).heap.size := by simpa [World.setCell] using hs.lt
    rw [World.cell?_alloc_lt _ _ _ hlt]
    by_cases e : j = 144
    · subst e
      rw [World.cell?_setCell_same _ _ _ (hs.cell 144 hj)]
      simp [St.rat]
    · rw [World.cell?_setCell_other, hs.cell j hj]
      · unfold St.rat
        by_cases h1 : j < 72
        · simp [h1]
        · by_cases h2 : j < 144
          · simp [h1, h2]
          · simp [h1, h2, e]
      · intro h; injection h with h1 h2; exact e h2.symm
  froz j := by rw [frozen?_alloc_map, World.frozen?_setCell]; exact hs.froz j
  wants := by
    refine Wants.none (c := 0) ?_
    have e : w.heap.size = (w.setCell ⟨r, 144, none⟩ (.map (some w.heap.size))).heap.size := by simp [World.setCell]
    have h := heap_alloc_new (w.setCell ⟨r, 144, none⟩ (.map (some w.heap.size))) (.map #[] 0)
    rw [← e] at h
    exact h

set_option maxRecDepth 20000 in
set_option maxHeartbeats 1000000 in
theorem refCrash_any (x r m : Nat) (s : St) (w : World) (hx : x < 18446744073709551616) (hs : RfAt w r m s) :
    Calls Tryd.prog 26 #[.pointer (some ⟨r, 0, none⟩), .int .u64 x] w fun e w' => e = .returned (.tuple #[]) ∧ ∃ m', w.heap.size ≤ m' ∧ RfAt w' r m' (s.crash x) ∧ Only r w w' := by
  go_enter Tryd.func26, Tryd.ntmps26
  go_wp2
  go_loopw [5] (fun i wr => ∃ k : Nat, k ≤ 9 ∧ i = .int .i64 k ∧ RfAt wr r m (s.landing x k) ∧ Only r w wr)
    (fun i _ => 9 - (intOf i).toNat)
  case atStart => exact ⟨0, by omega, rfl, by rw [St.landing_zero]; exact hs, Only.refl _ _⟩
  case round =>
    obtain ⟨k, hk, rfl, h1, o1⟩ := hrel
    by_cases hlt : k < 9
    · cases hB : x.testBit k with
      | true =>
        have N : Hid _ := s.landing_yes x k hB
        have B : Hid _ := hB
        clear hB
        go_wp2_with fail
        refine (refBit_yes x k _ hx (by omega)).mono ?_
        rintro e w2 ⟨rfl, g2⟩
        rw [B.out]
        go_wp2_with fail
        refine (Lands_any k r m _ _ (h1.gr g2)).mono ?_
        rintro e w3 ⟨rfl, h3, o3⟩
        have O : Hid _ := (o1.gr g2).trans o3
        clear o1 g2 o3 h1
        go_wp2
        go_roundw
        case rel => exact ⟨k + 1, by omega, by go_num, by rw [← N.out]; exact h3, O.out⟩
        case measure => simp [intOf]; omega
      | false =>
        have N : Hid _ := s.landing_no x k hB
        have B : Hid _ := hB
        clear hB
        go_wp2_with fail
        refine (refBit_yes x k _ hx (by omega)).mono ?_
        rintro e w2 ⟨rfl, g2⟩
        rw [B.out]
        have h2 := h1.gr g2
        have O : Hid _ := o1.gr g2
        clear o1 g2 h1
        go_wp2
        go_roundw
        case rel => exact ⟨k + 1, by omega, by go_num, by rw [← N.out]; exact h2, O.out⟩
        case measure => simp [intOf]; omega
    · obtain rfl : k = 9 := by omega
      clear hk hlt
      have h2 := h1.backed
      have o2 := o1.setCells (row (s.landing x 9).good 0 72) 0
      have R := h1.good_row
      have RI := words_size (s.landing x 9).good 0
      have RO := all_oneCell_toArray (row_one (s.landing x 9).good 0 72)
      have RT := h1.there 0 (row (s.landing x 9).good 0 72).toArray.size (by simp)
      generalize row (s.landing x 9).good 0 72 = cs at *
      have RJ : (Tryd.prog.info? 30).map (·.size) = some cs.toArray.size := by rw [List.size_toArray]; exact RI
      have h3 := h2.renewed
      have hlt := h2.lt
      have A2 : Hid _ := And.intro R (And.intro RI (And.intro RT (And.intro RJ RO)))
      have mc : Hid _ := And.intro h2.mapc (h2.froz 144)
      have hm := @run_makeMap Tryd.prog
      have sz : Hid (w.heap.size ≤ (wr.setCells r 0 cs).heap.size) := o2.size
      have h4 : Hid _ := h3.congr (s' := s.crash x) (fun i hi => by simp [St.crash, St.back, St.landing, St.landed, show i / 8 < 9 by omega]) (fun i hi => by simp [St.crash, St.back, St.landing, St.landed, show i / 8 < 9 by omega]) (fun _ _ => rfl) rfl rfl
      have O4 : Hid _ := (o2.setCell 144 (.map (some (wr.setCells r 0 cs).heap.size))).gr ((Gr.refl _).allocMap #[] 0)
      clear R RI RT RJ RO h3 h2 o2 h1 o1
      go_wp2_with (first
        | (refine wpList_load_mid rfl 30 _ rfl r _ rfl cs _ A2.out.1 words_desc rfl A2.out.2.1 ?_)
        | (refine wpList_store_mid rfl 30 _ _ rfl r _ cs.toArray rfl rfl A2.out.2.2.1 A2.out.2.2.2.1 A2.out.2.2.2.2 ?_
           obtain ⟨mc1, mc2⟩ := mc.out
           generalize wr.setCells r 0 cs = W at *))
      go_end0
      exact ⟨rfl, _, sz.out, h4.out, O4.out⟩

/-! Dirty. -/
theorem wrap_small (x : Int) (h0 : 0 ≤ x) (h1 : x < 1000) : IntKind.i64.wrap x = x := by
  rw [IntKind.wrap_i64]; omega

theorem dirty_here (s : St) (l k : Nat) (hk : k / 8 = l) (h : ¬ s.now k = s.good k) : same s.now (l * 8) s.good (l * 8) 8 = false := by
  cases hB : same s.now (l * 8) s.good (l * 8) 8 with
  | false => rfl
  | true =>
    have := (same_iff _ _ _ _ _).1 hB (k % 8) (by omega)
    rw [show l * 8 + k % 8 = k by omega] at this
    exact absurd this h

set_option maxRecDepth 20000 in
set_option maxHeartbeats 2000000 in
theorem refDirty_yes (l r m : Nat) (s : St) (w : World) (hl : l < 9) (hs : RfAt w r m s) :
    Calls Tryd.prog 13 #[.pointer (some ⟨r, 0, none⟩), .int .i64 l] w fun e w' => e = .returned (.bool (!same s.now (l * 8) s.good (l * 8) 8)) ∧ ∃ q, w' = w.drewN q := by
  go_enter Tryd.func13, Tryd.ntmps13
  go_wp2
  go_loopw [6] (fun i wr => ∃ k : Nat, k ≤ 72 ∧ i = .int .i64 k ∧ (∀ j, j < k → j / 8 = l → s.now j = s.good j) ∧ ∃ q, wr = w.drewN q)
    (fun i _ => 72 - (intOf i).toNat)
  case atStart => exact ⟨0, by omega, rfl, fun j hj => absurd hj (Nat.not_lt_zero _), 0, rfl⟩
  case round =>
    obtain ⟨k, hk, rfl, hall, q, hw⟩ := hrel
    have AL : Hid _ := hall
    clear hall
    have h1 : RfAt wr r m s := by rw [hw]; exact hs.drewN q
    have HW : Hid _ := hw
    clear hw
    by_cases hlt : k < 72
    · have h0 : (0 : Int) ≤ (k : Int) := by omega
      have h9 : (k : Int) < 72 := by omega
      have c := h1.nowc hlt
      have cg := h1.goodc hlt
      by_cases hq : k / 8 = l
      · have hq' : (k : Int) / 8 = (l : Int) := by omega
        have hwl := wrap_small (l : Int) (by omega) (by omega)
        by_cases he : s.now k = s.good k
        · rw [he] at c
          have HE : Hid _ := he
          clear he
          go_wp2_with fail
          go_region_held3 (fun w' => w'.cell? ⟨r, k, none⟩ = some (.int .u64 (s.good k)) ∧ w'.cell? ⟨r, 72 + k, none⟩ = some (.int .u64 (s.good k))) (go_keep) (fail)
          go_wp2
          go_roundw
          case rel =>
            refine ⟨k + 1, by omega, by go_num, fun j hj hjl => ?_, q + 1, by rw [HW.out]; rfl⟩
            by_cases e : j = k
            · subst e; exact HE.out
            · exact AL.out j (by omega) hjl
          case measure => simp [intOf]; omega
        · have F : Hid _ := dirty_here s l k hq he
          go_wp2_with fail
          go_region_held3 (fun w' => w'.cell? ⟨r, k, none⟩ = some (.int .u64 (s.now k)) ∧ w'.cell? ⟨r, 72 + k, none⟩ = some (.int .u64 (s.good k))) (go_keep) (fail)
          go_wp2
          go_ret
          exact ⟨by rw [F.out]; rfl, q + 1, by rw [HW.out]; rfl⟩
      · have hq' : ¬ ((k : Int) / 8 = (l : Int)) := by omega
        have hwl := wrap_small ((k : Int) / 8) (by omega) (by omega)
        have hbe : (((k : Int) / 8) == (l : Int)) = false := by rw [beq_eq_false_iff_ne]; exact hq'
        go_wp2_with fail
        refine wp_region_held_drew (S := fun _ => True) (by kernel_rfl) trivial (fun hH => ?_)
        refine wpAnyH_take (i := 0) (oi := { dst := some 9, op := .move (.tmp 5), type := _, pos := _, after := _, guard := _ }) (v := ?_) rfl (by kernel_rfl) (by kernel_rfl) (by kernel_rfl) (fun _ _ _ h => h) (Or.inl ⟨by rfl, ?_⟩) hH ?_
        rotate_left
        · intro w hSw
          clear hSw
          go_simp
          with_reducible rfl
        simp only [Act.put, List.setIfInBounds_toArray, List.set_cons_zero, List.set_cons_succ]
        refine wpAnyH_take (i := 1) (oi := { dst := some 10, op := .binOp .quo _ (.tmp 9) (.const (.int .i64 8)) _, type := _, pos := _, after := _, guard := _ }) (v := ?_) rfl (by kernel_rfl) (by kernel_rfl) (by kernel_rfl) (fun _ _ _ h => h) (Or.inl ⟨by rfl, ?_⟩) hH ?_
        rotate_left
        · intro w hSw
          clear hSw
          go_simp
          with_reducible rfl
        simp only [Act.put, List.setIfInBounds_toArray, List.set_cons_zero, List.set_cons_succ]
        refine wpAnyH_take (i := 2) (oi := { dst := some 11, op := .move (.tmp 1), type := _, pos := _, after := _, guard := _ }) (v := ?_) rfl (by kernel_rfl) (by kernel_rfl) (by kernel_rfl) (fun _ _ _ h => h) (Or.inl ⟨by rfl, ?_⟩) hH ?_
        rotate_left
        · intro w hSw
          clear hSw
          go_simp
          with_reducible rfl
        simp only [Act.put, List.setIfInBounds_toArray, List.set_cons_zero, List.set_cons_succ]
        refine wpAnyH_take (i := 3) (oi := { dst := some 12, op := .binOp .eql _ (.tmp 10) (.tmp 11) _, type := _, pos := _, after := _, guard := _ }) (v := ?_) rfl (by kernel_rfl) (by kernel_rfl) (by kernel_rfl) (fun _ _ _ h => h) (Or.inl ⟨by rfl, ?_⟩) hH ?_
        rotate_left
        · intro w hSw
          clear hSw
          go_simp
          with_reducible rfl
        simp only [Act.put, List.setIfInBounds_toArray, List.set_cons_zero, List.set_cons_succ]
        refine wpAnyH_take (i := 4) (oi := { dst := some 13, op := .move (.tmp 12), type := _, pos := _, after := _, guard := _ }) (v := ?_) rfl (by kernel_rfl) (by kernel_rfl) (by kernel_rfl) (fun _ _ _ h => h) (Or.inl ⟨by rfl, ?_⟩) hH ?_
        rotate_left
        · intro w hSw
          clear hSw
          go_simp
          with_reducible rfl
        simp only [Act.put, List.setIfInBounds_toArray, List.set_cons_zero, List.set_cons_succ]
        refine wpAnyH_take (i := 5) (oi := { dst := some 14, op := .move (.tmp 0), type := _, pos := _, after := _, guard := _ }) (v := _) rfl (by kernel_rfl) (by kernel_rfl) (by kernel_rfl) (fun _ _ _ h => h) (Or.inr ⟨by rfl, rfl⟩) hH ?_
        simp only [Act.put, List.setIfInBounds_toArray, List.set_cons_zero, List.set_cons_succ]
        refine wpAnyH_take (i := 6) (oi := { dst := some 15, op := .move (.tmp 5), type := _, pos := _, after := _, guard := _ }) (v := _) rfl (by kernel_rfl) (by kernel_rfl) (by kernel_rfl) (fun _ _ _ h => h) (Or.inr ⟨by rfl, rfl⟩) hH ?_
        simp only [Act.put, List.setIfInBounds_toArray, List.set_cons_zero, List.set_cons_succ]
        refine wpAnyH_take (i := 7) (oi := { dst := some 16, op := .nilCheck (.tmp 14), type := _, pos := _, after := _, guard := _ }) (v := _) rfl (by kernel_rfl) (by kernel_rfl) (by kernel_rfl) (fun _ _ _ h => h) (Or.inr ⟨by rfl, rfl⟩) hH ?_
        simp only [Act.put, List.setIfInBounds_toArray, List.set_cons_zero, List.set_cons_succ]
        refine wpAnyH_take (i := 8) (oi := { dst := some 17, op := .fieldAddr _ (.tmp 16) 0, type := _, pos := _, after := _, guard := _ }) (v := _) rfl (by kernel_rfl) (by kernel_rfl) (by kernel_rfl) (fun _ _ _ h => h) (Or.inr ⟨by rfl, rfl⟩) hH ?_
        simp only [Act.put, List.setIfInBounds_toArray, List.set_cons_zero, List.set_cons_succ]
        refine wpAnyH_take (i := 9) (oi := { dst := some 18, op := .indexAddr _ (.tmp 17) (.tmp 15), type := _, pos := _, after := _, guard := _ }) (v := _) rfl (by kernel_rfl) (by kernel_rfl) (by kernel_rfl) (fun _ _ _ h => h) (Or.inr ⟨by rfl, rfl⟩) hH ?_
        simp only [Act.put, List.setIfInBounds_toArray, List.set_cons_zero, List.set_cons_succ]
        refine wpAnyH_take (i := 10) (oi := { dst := some 19, op := .load _ (.tmp 18), type := _, pos := _, after := _, guard := _ }) (v := _) rfl (by kernel_rfl) (by kernel_rfl) (by kernel_rfl) (fun _ _ _ h => h) (Or.inr ⟨by rfl, rfl⟩) hH ?_
        simp only [Act.put, List.setIfInBounds_toArray, List.set_cons_zero, List.set_cons_succ]
        refine wpAnyH_take (i := 11) (oi := { dst := some 20, op := .move (.tmp 0), type := _, pos := _, after := _, guard := _ }) (v := _) rfl (by kernel_rfl) (by kernel_rfl) (by kernel_rfl) (fun _ _ _ h => h) (Or.inr ⟨by rfl, rfl⟩) hH ?_
        simp only [Act.put, List.setIfInBounds_toArray, List.set_cons_zero, List.set_cons_succ]
        refine wpAnyH_take (i := 12) (oi := { dst := some 21, op := .move (.tmp 5), type := _, pos := _, after := _, guard := _ }) (v := _) rfl (by kernel_rfl) (by kernel_rfl) (by kernel_rfl) (fun _ _ _ h => h) (Or.inr ⟨by rfl, rfl⟩) hH ?_
        simp only [Act.put, List.setIfInBounds_toArray, List.set_cons_zero, List.set_cons_succ]
        refine wpAnyH_take (i := 13) (oi := { dst := some 22, op := .nilCheck (.tmp 20), type := _, pos := _, after := _, guard := _ }) (v := _) rfl (by kernel_rfl) (by kernel_rfl) (by kernel_rfl) (fun _ _ _ h => h) (Or.inr ⟨by rfl, rfl⟩) hH ?_
        simp only [Act.put, List.setIfInBounds_toArray, List.set_cons_zero, List.set_cons_succ]
        refine wpAnyH_take (i := 14) (oi := { dst := some 23, op := .fieldAddr _ (.tmp 22) 1, type := _, pos := _, after := _, guard := _ }) (v := _) rfl (by kernel_rfl) (by kernel_rfl) (by kernel_rfl) (fun _ _ _ h => h) (Or.inr ⟨by rfl, rfl⟩) hH ?_
        simp only [Act.put, List.setIfInBounds_toArray, List.set_cons_zero, List.set_cons_succ]
        refine wpAnyH_take (i := 15) (oi := { dst := some 24, op := .indexAddr _ (.tmp 23) (.tmp 21), type := _, pos := _, after := _, guard := _ }) (v := _) rfl (by kernel_rfl) (by kernel_rfl) (by kernel_rfl) (fun _ _ _ h => h) (Or.inr ⟨by rfl, rfl⟩) hH ?_
        simp only [Act.put, List.setIfInBounds_toArray, List.set_cons_zero, List.set_cons_succ]
        refine wpAnyH_take (i := 16) (oi := { dst := some 25, op := .load _ (.tmp 24), type := _, pos := _, after := _, guard := _ }) (v := _) rfl (by kernel_rfl) (by kernel_rfl) (by kernel_rfl) (fun _ _ _ h => h) (Or.inr ⟨by rfl, rfl⟩) hH ?_
        simp only [Act.put, List.setIfInBounds_toArray, List.set_cons_zero, List.set_cons_succ]
        refine wpAnyH_take (i := 17) (oi := { dst := some 26, op := .binOp .neq _ (.tmp 19) (.tmp 25) _, type := _, pos := _, after := _, guard := _ }) (v := _) rfl (by kernel_rfl) (by kernel_rfl) (by kernel_rfl) (fun _ _ _ h => h) (Or.inr ⟨by rfl, rfl⟩) hH ?_
        simp only [Act.put, List.setIfInBounds_toArray, List.set_cons_zero, List.set_cons_succ]
        refine wpAnyH_take (i := 18) (oi := { dst := some 27, op := .pick (.tmp 13) (.tmp 26) (.const (.bool false)), type := _, pos := _, after := _, guard := _ }) (v := ?_) rfl (by kernel_rfl) (by kernel_rfl) (by kernel_rfl) (fun _ _ _ h => h) (Or.inl ⟨by rfl, ?_⟩) hH ?_
        rotate_left
        · intro w hSw
          clear hSw
          go_simp
          with_reducible rfl
        simp only [Act.put, List.setIfInBounds_toArray, List.set_cons_zero, List.set_cons_succ]
        refine wpAnyH_done (by kernel_rfl) ?_ _
        go_wp2
        go_roundw
        case rel =>
          refine ⟨k + 1, by omega, by go_num, fun j hj hjl => ?_, q + 1, by rw [HW.out]; rfl⟩
          exact AL.out j (by have : j ≠ k := fun e => hq (e ▸ hjl); omega) hjl
        case measure => simp [intOf]; omega
    · obtain rfl : k = 72 := by omega
      have F : Hid (same s.now (l * 8) s.good (l * 8) 8 = true) := same_of _ _ _ _ _ fun i hi => AL.out _ (by omega) (by omega)
      go_wp2
      go_ret
      exact ⟨by rw [F.out]; rfl, q, HW.out⟩
end Go.Proofs.YthgkmbimmelglaaDoor
