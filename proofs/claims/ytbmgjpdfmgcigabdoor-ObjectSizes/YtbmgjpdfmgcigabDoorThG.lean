/- The reference's ThingOf: a list that is no heap. -/
import Derived.Test.YtbmgjpdfmgcigabDoorThF
import Derived.Test.YtbmgjpdfmgcigabDoorApr
import Derived.Test.YtbmgjpdfmgcigabDoorXh
namespace Go.Proofs.YtbmgjpdfmgcigabDoor.Tab
set_option maxRecDepth 20000
open Go.RowKit
set_option linter.unusedVariables false

set_option maxHeartbeats 8000000 in
theorem ThingOf_4n {bc oc kc : Nat} {c : Nat → Nat} {w : World} {b : Bool} {kind : Int} (k5 : 1 ≤ kind ∧ kind ≤ 4) (hc : Wf w bc oc c) (hm : ∀ j, j < 17 → c j ≤ 4294967295) (h6 : c 0 ≤ 6) (h4 : kind = 4) (hp : ¬ Hp (lst c)) :
    Calls Tryd.prog 5 #[.int .i64 kind, .slice (some ⟨bc, oc, none⟩) 17 kc] w fun e w' => ∃ v t x, v.oneCell' = true ∧ e = .returned (.tuple #[.agg (tg kind v t x).toArray, .bool false]) ∧ Below w.heap.size w w' := by
  have hk : 1 ≤ kind ∧ kind ≤ 6 := by omega
  have m5 : (kind == 5) = false := by simp; omega
  have m6 : (kind == 6) = false := by simp; omega
  have HK : Hid (kind ≠ 5 ∧ kind ≠ 6) := ⟨by omega, by omega⟩
  have HM : Hid _ := hm
  have H6 : Hid _ := h6
  clear k5 hm h6
  have H4 : Hid _ := h4
  have HP : Hid _ := hp
  clear h4 hp
  have LT : Hid (∀ i, i < c 0 → (lst c).take i ++ [((c (i + 1) : Nat) : Int)] = (lst c).take (i + 1)) := fun i hi => lsq_take c hi
  have LL : Hid (∀ i, i ≤ c 0 → ((lst c).take i).length = i) := fun i hi => by rw [List.length_take, lst_length]; omega
  have LE : Hid ((lst c).take (c 0) = lst c) := List.take_of_length_le (by rw [lst_length]; exact Nat.le_refl _)
  have LX : Hid (∀ x ∈ lst c, 0 ≤ x ∧ x ≤ 4294967295) := fun x hx => by
    simp only [lst, List.mem_map, List.mem_range] at hx
    obtain ⟨i, hi, rfl⟩ := hx
    have := HM.out (i + 1) (by have := H6.out; omega)
    omega
  obtain ⟨fs, hd⟩ := thing_struct
  have HTD : Hid _ := hd
  clear hd
  have HTS : Hid _ := thing_size
  have HTZ : Hid _ := thing_size2
  have HTW : Hid _ := thing_size3
  have R0 : Hid (Bo ((w.alloc (.cells #[.int .i64 0, .slice none 0 0, .int .i64 0, .int .i64 0, .int .i64 0, .int .i64 0, .int .i64 0, .int .i64 0, .int .i64 0, .int .i64 0, .int .i64 0, .int .i64 0, .int .i64 0, .int .i64 0, .int .i64 0, .int .i64 0, .int .i64 0, .int .i64 0, .int .i64 0] 33)).alloc (.cells #[.int .i64 0, .slice none 0 0, .int .i64 0, .int .i64 0, .int .i64 0, .int .i64 0, .int .i64 0, .int .i64 0, .int .i64 0, .int .i64 0, .int .i64 0, .int .i64 0, .int .i64 0, .int .i64 0, .int .i64 0, .int .i64 0, .int .i64 0, .int .i64 0, .int .i64 0] 33)) w.heap.size (tg 0 (.slice none 0 0) Tb.zero 0)) := (Bo.bornTh w 0 _ rfl).new _
  have T0 : Hid (Bo ((w.alloc (.cells #[.int .i64 0, .slice none 0 0, .int .i64 0, .int .i64 0, .int .i64 0, .int .i64 0, .int .i64 0, .int .i64 0, .int .i64 0, .int .i64 0, .int .i64 0, .int .i64 0, .int .i64 0, .int .i64 0, .int .i64 0, .int .i64 0, .int .i64 0, .int .i64 0, .int .i64 0] 33)).alloc (.cells #[.int .i64 0, .slice none 0 0, .int .i64 0, .int .i64 0, .int .i64 0, .int .i64 0, .int .i64 0, .int .i64 0, .int .i64 0, .int .i64 0, .int .i64 0, .int .i64 0, .int .i64 0, .int .i64 0, .int .i64 0, .int .i64 0, .int .i64 0, .int .i64 0, .int .i64 0] 33)) (w.heap.size + 1) (tg 0 (.slice none 0 0) Tb.zero 0)) := Bo.bornTh _ 0 _ (by simp)
  have G0 : Hid (Gd w.heap.size w ((w.alloc (.cells #[.int .i64 0, .slice none 0 0, .int .i64 0, .int .i64 0, .int .i64 0, .int .i64 0, .int .i64 0, .int .i64 0, .int .i64 0, .int .i64 0, .int .i64 0, .int .i64 0, .int .i64 0, .int .i64 0, .int .i64 0, .int .i64 0, .int .i64 0, .int .i64 0, .int .i64 0] 33)).alloc (.cells #[.int .i64 0, .slice none 0 0, .int .i64 0, .int .i64 0, .int .i64 0, .int .i64 0, .int .i64 0, .int .i64 0, .int .i64 0, .int .i64 0, .int .i64 0, .int .i64 0, .int .i64 0, .int .i64 0, .int .i64 0, .int .i64 0, .int .i64 0, .int .i64 0, .int .i64 0] 33))) := ((Gd.refl w).new _).new _
  have hbc := hc.lt
  have C0 : Hid (Wf ((w.alloc (.cells #[.int .i64 0, .slice none 0 0, .int .i64 0, .int .i64 0, .int .i64 0, .int .i64 0, .int .i64 0, .int .i64 0, .int .i64 0, .int .i64 0, .int .i64 0, .int .i64 0, .int .i64 0, .int .i64 0, .int .i64 0, .int .i64 0, .int .i64 0, .int .i64 0, .int .i64 0] 33)).alloc (.cells #[.int .i64 0, .slice none 0 0, .int .i64 0, .int .i64 0, .int .i64 0, .int .i64 0, .int .i64 0, .int .i64 0, .int .i64 0, .int .i64 0, .int .i64 0, .int .i64 0, .int .i64 0, .int .i64 0, .int .i64 0, .int .i64 0, .int .i64 0, .int .i64 0, .int .i64 0] 33)) bc oc c) := (hc.later (new_below _ _)).later (new_below _ _)
  clear hc
  go_enter Tryd.func5, Tryd.ntmps5
  go_wp2_with (first
    | (generalize ((w.alloc (.cells #[.int .i64 0, .slice none 0 0, .int .i64 0, .int .i64 0, .int .i64 0, .int .i64 0, .int .i64 0, .int .i64 0, .int .i64 0, .int .i64 0, .int .i64 0, .int .i64 0, .int .i64 0, .int .i64 0, .int .i64 0, .int .i64 0, .int .i64 0, .int .i64 0, .int .i64 0] 33)).alloc (.cells #[.int .i64 0, .slice none 0 0, .int .i64 0, .int .i64 0, .int .i64 0, .int .i64 0, .int .i64 0, .int .i64 0, .int .i64 0, .int .i64 0, .int .i64 0, .int .i64 0, .int .i64 0, .int .i64 0, .int .i64 0, .int .i64 0, .int .i64 0, .int .i64 0, .int .i64 0] 33)) = W0 at R0 T0 G0 C0 ⊢
       refine wpList_store_mid rfl 33 _ _ rfl (w.heap.size + 1) _ #[.int .i64 kind, .slice none 0 0, .int .i64 0, .int .i64 0, .int .i64 0, .int .i64 0, .int .i64 0, .int .i64 0, .int .i64 0, .int .i64 0, .int .i64 0, .int .i64 0, .int .i64 0, .int .i64 0, .int .i64 0, .int .i64 0, .int .i64 0, .int .i64 0, .int .i64 0] rfl rfl (T0.out.thereL (by rw [tg_length]; rfl)) HTW.out (nil_all kind) ?_
       have R : Hid (Bo (W0.setCells (w.heap.size + 1) 0 [.int .i64 kind, .slice none 0 0, .int .i64 0, .int .i64 0, .int .i64 0, .int .i64 0, .int .i64 0, .int .i64 0, .int .i64 0, .int .i64 0, .int .i64 0, .int .i64 0, .int .i64 0, .int .i64 0, .int .i64 0, .int .i64 0, .int .i64 0, .int .i64 0, .int .i64 0]) w.heap.size (tg 0 (.slice none 0 0) Tb.zero 0)) := R0.out.asideL (by omega) _ _
       have T : Hid (Bo (W0.setCells (w.heap.size + 1) 0 [.int .i64 kind, .slice none 0 0, .int .i64 0, .int .i64 0, .int .i64 0, .int .i64 0, .int .i64 0, .int .i64 0, .int .i64 0, .int .i64 0, .int .i64 0, .int .i64 0, .int .i64 0, .int .i64 0, .int .i64 0, .int .i64 0, .int .i64 0, .int .i64 0, .int .i64 0]) (w.heap.size + 1) (tg kind (.slice none 0 0) Tb.zero 0)) := T0.out.setZ kind
       have G : Hid (Gd w.heap.size w (W0.setCells (w.heap.size + 1) 0 [.int .i64 kind, .slice none 0 0, .int .i64 0, .int .i64 0, .int .i64 0, .int .i64 0, .int .i64 0, .int .i64 0, .int .i64 0, .int .i64 0, .int .i64 0, .int .i64 0, .int .i64 0, .int .i64 0, .int .i64 0, .int .i64 0, .int .i64 0, .int .i64 0, .int .i64 0])) := G0.out.asideL (by omega) _ _
       have C : Hid (Wf (W0.setCells (w.heap.size + 1) 0 [.int .i64 kind, .slice none 0 0, .int .i64 0, .int .i64 0, .int .i64 0, .int .i64 0, .int .i64 0, .int .i64 0, .int .i64 0, .int .i64 0, .int .i64 0, .int .i64 0, .int .i64 0, .int .i64 0, .int .i64 0, .int .i64 0, .int .i64 0, .int .i64 0, .int .i64 0]) bc oc c) := C0.out.keep (heap_setCells (by omega) _ _ _)
       clear R0 T0 G0 C0
       generalize W0.setCells (w.heap.size + 1) 0 [.int .i64 kind, .slice none 0 0, .int .i64 0, .int .i64 0, .int .i64 0, .int .i64 0, .int .i64 0, .int .i64 0, .int .i64 0, .int .i64 0, .int .i64 0, .int .i64 0, .int .i64 0, .int .i64 0, .int .i64 0, .int .i64 0, .int .i64 0, .int .i64 0, .int .i64 0] = W at R T G C ⊢))
  generalize hsz : w.heap.size = n at R T G hbc ⊢
  have HSZ : Hid (w.heap.size = n) := hsz
  clear hsz
  go_wp2_with fail
  refine (rwithin_yes kind 1 6 _ hk.1 hk.2).mono ?_
  rintro e ux ⟨rfl, hw⟩
  rw [hw]; clear hw ux
  go_wp2_with fail
  go_loopg [19] 17 (fun gg s19 wt => wt = W ∧ ∃ i : Nat, i ≤ 17 ∧ 17 - i ≤ gg ∧ s19 = .int .i64 i ∧ Hid (∀ j, j < i → c j ≤ 4294967295))
  case atStart => exact ⟨rfl, 0, by omega, by omega, rfl, fun j hj => absurd hj (by omega)⟩
  case round =>
    obtain ⟨rfl, i, hi, hgg, rfl, U⟩ := hrel
    by_cases hlt : i < 17
    · have g0 := C.out.cell i hlt
      have hi1 : (i : Int) < 17 := by omega
      have hi0 : (0 : Int) ≤ (i : Int) := by omega
      by_cases hle : c i ≤ 4294967295
      · have U' : Hid (∀ j, j < i + 1 → c j ≤ 4294967295) := fun j hj => by
          by_cases e : j = i
          · subst e; exact hle
          · exact U.out j (by omega)
        have hd : ¬ 4294967295 < ((c i : Nat) : Int) := by omega
        clear U
        generalize c i = x at g0 hd hle
        clear hle
        go_wp2
        go_roundg (17 - (i + 1))
        case measure => omega
        case rel => exact ⟨rfl, i + 1, by omega, by omega, by go_num, U'⟩
      · exact absurd (HM.out i hlt) hle
    · obtain rfl : i = 17 := by omega
      clear U hlt
      have g0 : wr.cell? ⟨bc, oc, none⟩ = _ := C.out.cell 0 (by decide)
      have h6 := H6.out
      have LL0 : Hid _ := lst_length c
      have ez1 : IntKind.i64.wrap ((c 0 : Nat) : Int) = (c 0 : Nat) := by rw [IntKind.wrap_i64]; omega
      have ez2 : wrap64 ((c 0 : Nat) : Int) = (c 0 : Nat) := by unfold wrap64; omega
      have hd : decide ((6 : Int) < ((c 0 : Nat) : Int)) = false := by simp; omega
      have hdn : ¬ (6 : Int) < ((c 0 : Nat) : Int) := by omega
      have HC : Hid (∀ W, Wf W bc oc c → ∀ j, j < 17 → W.cell? ⟨bc, oc + j, none⟩ = some (.int .u64 (c j : Nat))) := fun W h => h.cell
      obtain ⟨z, hz⟩ : ∃ z, c 0 = z := ⟨_, rfl⟩
      have HZ0 : Hid (c 0 = z) := hz
      rw [hz] at g0 ez1 ez2 hd hdn LT LL LE LL0 h6
      clear hz
      obtain ⟨wq, rfl⟩ : ∃ wq, wq = wr := ⟨_, rfl⟩
      go_wp2_with fail
      clear g0 hd hdn
      go_loopg [37] z (fun gg s37 wt => ∃ i : Nat, i ≤ z ∧ z - i ≤ gg ∧ s37 = .int .i64 i ∧ ∃ v, Hid (Own (n + 2) wt v ((lst c).take i)) ∧ Hid (Bo wt (n + 1) (tg kind v Tb.zero 0)) ∧ Hid (Bo wt n (tg 0 (.slice none 0 0) Tb.zero 0)) ∧ Hid (Wf wt bc oc c) ∧ Hid (Gd n w wt))
      case atStart => exact ⟨0, by omega, by omega, rfl, (.slice none 0 0), ⟨rfl, Or.inl ⟨rfl, rfl⟩⟩, T, R, C, G⟩
      case round =>
        clear R T C G
        obtain ⟨i, hi, hgg, rfl, v, O, T, R, C, G⟩ := hrel
        by_cases hlt : i < z
        · have N1 : Hid _ := LT.out i hlt
          have L1 : Hid (((lst c).take i).length + 1 ≤ 1000000) := by have := LL.out i (by omega); show _ + 1 ≤ 1000000; omega
          have x1 := HM.out (i + 1) (by omega)
          have ex1 : IntKind.i64.wrap ((c (i + 1) : Nat) : Int) = (c (i + 1) : Nat) := by rw [IntKind.wrap_i64]; omega
          have ex2 : wrap64 ((c (i + 1) : Nat) : Int) = (c (i + 1) : Nat) := by unfold wrap64; omega
          have i1 : (i : Int) < (z : Int) := by omega
          have j1 : (i : Int) + 1 < 17 := by omega
          have j0 : (0 : Int) ≤ (i : Int) + 1 := by omega
          have j2 : IntKind.i64.wrap ((i : Int) + 1) = (i : Int) + 1 := by rw [IntKind.wrap_i64]; omega
          have j3 : ((i : Int) + 1).toNat = i + 1 := by omega
          generalize (lst c).take i = ys at O N1 L1
          go_wp2_with fail
          have h45q : Hid (Own (n + 2) wr.drew v ys) := O.out.drew
          have h46q : Hid (Bo wr.drew (n + 1) (tg kind v Tb.zero 0)) := T.out.drew
          have h47q : Hid (Bo wr.drew n (tg 0 (.slice none 0 0) Tb.zero 0)) := R.out.drew
          have h48q : Hid (Wf wr.drew bc oc c) := C.out.drew
          have h49q : Hid (Gd n w wr.drew) := G.out.drew
          clear O T R C G
          refine wp_region_held_drew (S := fun w' => Wf w' bc oc c) (by kernel_rfl) h48q.out (fun hH => ?_)
          generalize wr.drew = u50q at h45q h46q h47q h48q h49q hH ⊢
          refine wpAnyH_take (i := 0) (oi := { dst := some 40, op := .fieldAddr _ (.tmp 6) 1, type := _, pos := _, after := _, guard := _ }) (v := ?_) rfl (by kernel_rfl) (by kernel_rfl) (by kernel_rfl) (fun _ _ _ h => h) (Or.inl ⟨by rfl, ?_⟩) hH ?_
          rotate_left
          · intro w hSw
            clear hSw
            go_simp
            try with_reducible rfl
          simp only [Act.put, List.setIfInBounds_toArray, List.set_cons_zero, List.set_cons_succ]
          refine wpAnyH_take (i := 2) (oi := { dst := some 42, op := .move (.tmp 1), type := _, pos := _, after := _, guard := _ }) (v := ?_) rfl (by kernel_rfl) (by kernel_rfl) (by kernel_rfl) (fun _ _ _ h => h) (Or.inl ⟨by rfl, ?_⟩) hH ?_
          rotate_left
          · intro w hSw
            clear hSw
            go_simp
            try with_reducible rfl
          simp only [Act.put, List.setIfInBounds_toArray, List.set_cons_zero, List.set_cons_succ]
          refine wpAnyH_take (i := 3) (oi := { dst := some 43, op := .move (.tmp 10), type := _, pos := _, after := _, guard := _ }) (v := ?_) rfl (by kernel_rfl) (by kernel_rfl) (by kernel_rfl) (fun _ _ _ h => h) (Or.inl ⟨by rfl, ?_⟩) hH ?_
          rotate_left
          · intro w hSw
            clear hSw
            go_simp
            try with_reducible rfl
          simp only [Act.put, List.setIfInBounds_toArray, List.set_cons_zero, List.set_cons_succ]
          refine wpAnyH_take (i := 4) (oi := { dst := some 44, op := .binOp .add _ (.tmp 43) (.const (.int .i64 1)) _, type := _, pos := _, after := _, guard := _ }) (v := ?_) rfl (by kernel_rfl) (by kernel_rfl) (by kernel_rfl) (fun _ _ _ h => h) (Or.inl ⟨by rfl, ?_⟩) hH ?_
          rotate_left
          · intro w hSw
            clear hSw
            go_simp
            try with_reducible rfl
          simp only [Act.put, List.setIfInBounds_toArray, List.set_cons_zero, List.set_cons_succ]
          refine wpAnyH_take (i := 5) (oi := { dst := some 45, op := .indexAddr _ (.tmp 42) (.tmp 44), type := _, pos := _, after := _, guard := _ }) (v := ?_) rfl (by kernel_rfl) (by kernel_rfl) (by kernel_rfl) (fun _ _ _ h => h) (Or.inl ⟨by rfl, ?_⟩) hH ?_
          rotate_left
          · intro w hSw
            clear hSw
            go_simp
            try with_reducible rfl
          simp only [Act.put, List.setIfInBounds_toArray, List.set_cons_zero, List.set_cons_succ]
          refine wpAnyH_take (i := 6) (oi := { dst := some 46, op := .load _ (.tmp 45), type := _, pos := _, after := _, guard := _ }) (v := ?_) rfl (by kernel_rfl) (by kernel_rfl) (by kernel_rfl) (fun _ _ _ h => h) (Or.inl ⟨by rfl, ?_⟩) hH ?_
          rotate_left
          · intro w hSw
            have c51q := (hSw).cell (i + 1) (by omega)
            clear hSw
            go_simp
            try with_reducible rfl
          simp only [Act.put, List.setIfInBounds_toArray, List.set_cons_zero, List.set_cons_succ]
          refine wpAnyH_take (i := 7) (oi := { dst := some 47, op := .convert _ _ (.tmp 46), type := _, pos := _, after := _, guard := _ }) (v := ?_) rfl (by kernel_rfl) (by kernel_rfl) (by kernel_rfl) (fun _ _ _ h => h) (Or.inl ⟨by rfl, ?_⟩) hH ?_
          rotate_left
          · intro w hSw
            clear hSw
            go_simp
            try with_reducible rfl
          simp only [Act.put, List.setIfInBounds_toArray, List.set_cons_zero, List.set_cons_succ]
          refine wpAnyH_ready (rs := [1, 8]) (by kernel_rfl) (by simp) ?_
          refine AllReadyH.cons (o := { dst := some 41, op := .load _ (.tmp 40), type := _, pos := _, after := _, guard := _ }) rfl (fun K hK => ?_) ?_
          · have c52q := h46q.out.tcell.2.1
            go_simp
            clear c52q
            refine hK.out _ _ h48q.out (fun hH => ?_)
            clear hK K
            try simp only [Act.put, List.setIfInBounds_toArray, List.set_cons_zero, List.set_cons_succ]
            refine wpAnyH_ready (rs := [8]) (by kernel_rfl) (by simp) ?_
            refine AllReadyH.cons (o := { dst := some 48, op := .buildSlice _ 1 #[(0, .tmp 47)], type := _, pos := _, after := _, guard := _ }) rfl (fun K hK => ?_) AllReadyH.nil
            have l53q : (n + 1) < u50q.heap.size := h46q.out.lt
            have l54q : n < u50q.heap.size := h47q.out.lt
            have l55q : bc < u50q.heap.size := h48q.out.lt
            have l56q : n ≤ u50q.heap.size := h49q.out.le
            go_simp
            have h57q : Hid (Own (n + 2) (u50q.alloc (.cells #[.int .i64 (c (i + 1) : Nat)] 3)) v ys) := h45q.out.new (.cells #[.int .i64 (c (i + 1) : Nat)] 3)
            have h58q : Hid (Bo (u50q.alloc (.cells #[.int .i64 (c (i + 1) : Nat)] 3)) (n + 1) (tg kind v Tb.zero 0)) := h46q.out.new (.cells #[.int .i64 (c (i + 1) : Nat)] 3)
            have h59q : Hid (Bo (u50q.alloc (.cells #[.int .i64 (c (i + 1) : Nat)] 3)) n (tg 0 (.slice none 0 0) Tb.zero 0)) := h47q.out.new (.cells #[.int .i64 (c (i + 1) : Nat)] 3)
            have h60q : Hid (Wf (u50q.alloc (.cells #[.int .i64 (c (i + 1) : Nat)] 3)) bc oc c) := h48q.out.new (.cells #[.int .i64 (c (i + 1) : Nat)] 3)
            have h61q : Hid (Gd n w (u50q.alloc (.cells #[.int .i64 (c (i + 1) : Nat)] 3))) := h49q.out.new (.cells #[.int .i64 (c (i + 1) : Nat)] 3)
            clear h45q h46q h47q h48q h49q
            have h62q : Hid (IsL 0 (u50q.alloc (.cells #[.int .i64 (c (i + 1) : Nat)] 3)) (.slice (some ⟨u50q.heap.size, 0, none⟩) 1 1) [((c (i + 1) : Nat) : Int)]) := IsL.lit u50q [((c (i + 1) : Nat) : Int)] Nat.zero_lt_one
            refine hK.out _ _ h60q.out (fun hH => ?_)
            clear hK K
            generalize (u50q.alloc (.cells #[.int .i64 (c (i + 1) : Nat)] 3)) = u63q at h57q h58q h59q h60q h61q h62q hH ⊢
            try simp only [Act.put, List.setIfInBounds_toArray, List.set_cons_zero, List.set_cons_succ]
            refine wpAnyH_ready (rs := [9]) (by kernel_rfl) (by simp) ?_
            refine AllReadyH.cons (o := { dst := some 49, op := _, type := _, pos := _, after := _, guard := _ }) rfl (fun K hK => ?_) AllReadyH.nil
            have l64q : (n + 1) < u63q.heap.size := h58q.out.lt
            have l65q : n < u63q.heap.size := h59q.out.lt
            have l66q : bc < u63q.heap.size := h60q.out.lt
            have l67q : n ≤ u63q.heap.size := h61q.out.le
            refine step_onto rfl (.tmp 41) (.tmp 48) rfl rfl rfl (show n + 2 ≤ u63q.heap.size by omega) h57q.out h62q.out L1.out ?_
            intro v3 w3 hO3 hb3
            obtain ⟨a3, k3, rfl⟩ := hO3.form
            generalize hl3 : (ys ++ [((c (i + 1) : Nat) : Int)]).length = l3
            rw [hl3] at hO3; clear hl3
            have h68q : Hid (Bo w3 (n + 1) (tg kind v Tb.zero 0)) := h58q.out.laterB (by omega) hb3
            clear h58q
            have h69q : Hid (Bo w3 n (tg 0 (.slice none 0 0) Tb.zero 0)) := h59q.out.laterB (by omega) hb3
            clear h59q
            have h70q : Hid (Wf w3 bc oc c) := h60q.out.laterB (by omega) hb3
            clear h60q
            have h71q : Hid (Gd n w w3) := h61q.out.laterB (by omega) hb3
            clear h61q
            have h72q : Hid (Own (n + 2) w3 (.slice a3 l3 k3) (ys ++ [((c (i + 1) : Nat) : Int)])) := hO3
            clear h57q h62q hO3 hb3
            refine hK.out _ _ h70q.out (fun hH => ?_)
            clear hK K
            try simp only [Act.put, List.setIfInBounds_toArray, List.set_cons_zero, List.set_cons_succ]
            refine wpAnyH_take (i := 10) (oi := { dst := some 50, op := .fieldAddr _ (.tmp 6) 1, type := _, pos := _, after := _, guard := _ }) (v := ?_) rfl (by kernel_rfl) (by kernel_rfl) (by kernel_rfl) (fun _ _ _ h => h) (Or.inl ⟨by rfl, ?_⟩) hH ?_
            rotate_left
            · intro w hSw
              clear hSw
              go_simp
              try with_reducible rfl
            simp only [Act.put, List.setIfInBounds_toArray, List.set_cons_zero, List.set_cons_succ]
            refine wpAnyH_ready (rs := [11]) (by kernel_rfl) (by simp) ?_
            refine AllReadyH.cons (o := { dst := none, op := .store _ (.tmp 50) (.tmp 49), type := _, pos := _, after := _, guard := _ }) rfl (fun K hK => ?_) AllReadyH.nil
            have l73q : (n + 1) < w3.heap.size := h68q.out.lt
            have l74q : n < w3.heap.size := h69q.out.lt
            have l75q : bc < w3.heap.size := h70q.out.lt
            have l76q : n ≤ w3.heap.size := h71q.out.le
            have c77q := h68q.out.tcell.2.1
            have c78q := h68q.out.froz 1
            go_simp
            clear c77q c78q
            have h79q : Hid (Own (n + 2) (w3.setCell ⟨n + 1, 1, none⟩ (.slice a3 l3 k3)) (.slice a3 l3 k3) (ys ++ [((c (i + 1) : Nat) : Int)])) := h72q.out.aside (by simp; try omega) _
            have h80q : Hid (Bo (w3.setCell ⟨n + 1, 1, none⟩ (.slice a3 l3 k3)) (n + 1) (tg kind (.slice a3 l3 k3) Tb.zero 0)) := h68q.out.set1 (j := 1) (x := (.slice a3 l3 k3)) (by rw [tg_length]; decide) (tg_list _ _ (.slice a3 l3 k3) _ _)
            have h81q : Hid (Bo (w3.setCell ⟨n + 1, 1, none⟩ (.slice a3 l3 k3)) n (tg 0 (.slice none 0 0) Tb.zero 0)) := h69q.out.aside (by simp; try omega) _
            have h82q : Hid (Wf (w3.setCell ⟨n + 1, 1, none⟩ (.slice a3 l3 k3)) bc oc c) := h70q.out.aside (by simp; try omega) _
            have h83q : Hid (Gd n w (w3.setCell ⟨n + 1, 1, none⟩ (.slice a3 l3 k3))) := h71q.out.aside (by simp; try omega) _
            clear h72q h68q h69q h70q h71q
            refine hK.out _ _ h82q.out (fun hH => ?_)
            clear hK K
            generalize (w3.setCell ⟨n + 1, 1, none⟩ (.slice a3 l3 k3)) = u84q at h79q h80q h81q h82q h83q hH ⊢
            try simp only [Act.put, List.setIfInBounds_toArray, List.set_cons_zero, List.set_cons_succ]
            refine wpAnyH_done (by kernel_rfl) ?_ _
            go_wp2
            go_roundg (z - (i + 1))
            case measure => omega
            case rel => exact ⟨i + 1, by omega, by omega, by go_num, (.slice a3 l3 k3), by rw [← N1.out]; exact h79q.out, h80q, h81q, h82q, h83q⟩
          refine AllReadyH.cons (o := { dst := some 48, op := .buildSlice _ 1 #[(0, .tmp 47)], type := _, pos := _, after := _, guard := _ }) rfl (fun K hK => ?_) AllReadyH.nil
          have l85q : (n + 1) < u50q.heap.size := h46q.out.lt
          have l86q : n < u50q.heap.size := h47q.out.lt
          have l87q : bc < u50q.heap.size := h48q.out.lt
          have l88q : n ≤ u50q.heap.size := h49q.out.le
          go_simp
          have h89q : Hid (Own (n + 2) (u50q.alloc (.cells #[.int .i64 (c (i + 1) : Nat)] 3)) v ys) := h45q.out.new (.cells #[.int .i64 (c (i + 1) : Nat)] 3)
          have h90q : Hid (Bo (u50q.alloc (.cells #[.int .i64 (c (i + 1) : Nat)] 3)) (n + 1) (tg kind v Tb.zero 0)) := h46q.out.new (.cells #[.int .i64 (c (i + 1) : Nat)] 3)
          have h91q : Hid (Bo (u50q.alloc (.cells #[.int .i64 (c (i + 1) : Nat)] 3)) n (tg 0 (.slice none 0 0) Tb.zero 0)) := h47q.out.new (.cells #[.int .i64 (c (i + 1) : Nat)] 3)
          have h92q : Hid (Wf (u50q.alloc (.cells #[.int .i64 (c (i + 1) : Nat)] 3)) bc oc c) := h48q.out.new (.cells #[.int .i64 (c (i + 1) : Nat)] 3)
          have h93q : Hid (Gd n w (u50q.alloc (.cells #[.int .i64 (c (i + 1) : Nat)] 3))) := h49q.out.new (.cells #[.int .i64 (c (i + 1) : Nat)] 3)
          clear h45q h46q h47q h48q h49q
          have h94q : Hid (IsL 0 (u50q.alloc (.cells #[.int .i64 (c (i + 1) : Nat)] 3)) (.slice (some ⟨u50q.heap.size, 0, none⟩) 1 1) [((c (i + 1) : Nat) : Int)]) := IsL.lit u50q [((c (i + 1) : Nat) : Int)] Nat.zero_lt_one
          refine hK.out _ _ h92q.out (fun hH => ?_)
          clear hK K
          generalize (u50q.alloc (.cells #[.int .i64 (c (i + 1) : Nat)] 3)) = u95q at h89q h90q h91q h92q h93q h94q hH ⊢
          try simp only [Act.put, List.setIfInBounds_toArray, List.set_cons_zero, List.set_cons_succ]
          refine wpAnyH_ready (rs := [1]) (by kernel_rfl) (by simp) ?_
          refine AllReadyH.cons (o := { dst := some 41, op := .load _ (.tmp 40), type := _, pos := _, after := _, guard := _ }) rfl (fun K hK => ?_) AllReadyH.nil
          have c96q := h90q.out.tcell.2.1
          go_simp
          clear c96q
          refine hK.out _ _ h92q.out (fun hH => ?_)
          clear hK K
          try simp only [Act.put, List.setIfInBounds_toArray, List.set_cons_zero, List.set_cons_succ]
          refine wpAnyH_ready (rs := [9]) (by kernel_rfl) (by simp) ?_
          refine AllReadyH.cons (o := { dst := some 49, op := _, type := _, pos := _, after := _, guard := _ }) rfl (fun K hK => ?_) AllReadyH.nil
          have l97q : (n + 1) < u95q.heap.size := h90q.out.lt
          have l98q : n < u95q.heap.size := h91q.out.lt
          have l99q : bc < u95q.heap.size := h92q.out.lt
          have l100q : n ≤ u95q.heap.size := h93q.out.le
          refine step_onto rfl (.tmp 41) (.tmp 48) rfl rfl rfl (show n + 2 ≤ u95q.heap.size by omega) h89q.out h94q.out L1.out ?_
          intro v3 w3 hO3 hb3
          obtain ⟨a3, k3, rfl⟩ := hO3.form
          generalize hl3 : (ys ++ [((c (i + 1) : Nat) : Int)]).length = l3
          rw [hl3] at hO3; clear hl3
          have h101q : Hid (Bo w3 (n + 1) (tg kind v Tb.zero 0)) := h90q.out.laterB (by omega) hb3
          clear h90q
          have h102q : Hid (Bo w3 n (tg 0 (.slice none 0 0) Tb.zero 0)) := h91q.out.laterB (by omega) hb3
          clear h91q
          have h103q : Hid (Wf w3 bc oc c) := h92q.out.laterB (by omega) hb3
          clear h92q
          have h104q : Hid (Gd n w w3) := h93q.out.laterB (by omega) hb3
          clear h93q
          have h105q : Hid (Own (n + 2) w3 (.slice a3 l3 k3) (ys ++ [((c (i + 1) : Nat) : Int)])) := hO3
          clear h89q h94q hO3 hb3
          refine hK.out _ _ h103q.out (fun hH => ?_)
          clear hK K
          try simp only [Act.put, List.setIfInBounds_toArray, List.set_cons_zero, List.set_cons_succ]
          refine wpAnyH_take (i := 10) (oi := { dst := some 50, op := .fieldAddr _ (.tmp 6) 1, type := _, pos := _, after := _, guard := _ }) (v := ?_) rfl (by kernel_rfl) (by kernel_rfl) (by kernel_rfl) (fun _ _ _ h => h) (Or.inl ⟨by rfl, ?_⟩) hH ?_
          rotate_left
          · intro w hSw
            clear hSw
            go_simp
            try with_reducible rfl
          simp only [Act.put, List.setIfInBounds_toArray, List.set_cons_zero, List.set_cons_succ]
          refine wpAnyH_ready (rs := [11]) (by kernel_rfl) (by simp) ?_
          refine AllReadyH.cons (o := { dst := none, op := .store _ (.tmp 50) (.tmp 49), type := _, pos := _, after := _, guard := _ }) rfl (fun K hK => ?_) AllReadyH.nil
          have l106q : (n + 1) < w3.heap.size := h101q.out.lt
          have l107q : n < w3.heap.size := h102q.out.lt
          have l108q : bc < w3.heap.size := h103q.out.lt
          have l109q : n ≤ w3.heap.size := h104q.out.le
          have c110q := h101q.out.tcell.2.1
          have c111q := h101q.out.froz 1
          go_simp
          clear c110q c111q
          have h112q : Hid (Own (n + 2) (w3.setCell ⟨n + 1, 1, none⟩ (.slice a3 l3 k3)) (.slice a3 l3 k3) (ys ++ [((c (i + 1) : Nat) : Int)])) := h105q.out.aside (by simp; try omega) _
          have h113q : Hid (Bo (w3.setCell ⟨n + 1, 1, none⟩ (.slice a3 l3 k3)) (n + 1) (tg kind (.slice a3 l3 k3) Tb.zero 0)) := h101q.out.set1 (j := 1) (x := (.slice a3 l3 k3)) (by rw [tg_length]; decide) (tg_list _ _ (.slice a3 l3 k3) _ _)
          have h114q : Hid (Bo (w3.setCell ⟨n + 1, 1, none⟩ (.slice a3 l3 k3)) n (tg 0 (.slice none 0 0) Tb.zero 0)) := h102q.out.aside (by simp; try omega) _
          have h115q : Hid (Wf (w3.setCell ⟨n + 1, 1, none⟩ (.slice a3 l3 k3)) bc oc c) := h103q.out.aside (by simp; try omega) _
          have h116q : Hid (Gd n w (w3.setCell ⟨n + 1, 1, none⟩ (.slice a3 l3 k3))) := h104q.out.aside (by simp; try omega) _
          clear h105q h101q h102q h103q h104q
          refine hK.out _ _ h115q.out (fun hH => ?_)
          clear hK K
          generalize (w3.setCell ⟨n + 1, 1, none⟩ (.slice a3 l3 k3)) = u117q at h112q h113q h114q h115q h116q hH ⊢
          try simp only [Act.put, List.setIfInBounds_toArray, List.set_cons_zero, List.set_cons_succ]
          refine wpAnyH_done (by kernel_rfl) ?_ _
          go_wp2
          go_roundg (z - (i + 1))
          case measure => omega
          case rel => exact ⟨i + 1, by omega, by omega, by go_num, (.slice a3 l3 k3), by rw [← N1.out]; exact h112q.out, h113q, h114q, h115q, h116q⟩
        · have ei : i = z := by omega
          rw [ei, LE.out] at O
          clear hlt
          have I : Hid (IsL (n + 2) wr v (lst c)) := O.out.isL
          have t1 := T.out.tcell.2.1
          have h4 := H4.out
          clear H4
          subst h4
          go_wp2_with fail
          refine (RRight_isnt I.out (by rw [LL0.out]; omega) (fun h => HP.out h.2)).mono ?_
          rintro e W2 ⟨rfl, hb⟩
          have T2 : Hid (Bo W2 (n + 1) (tg 4 v Tb.zero 0)) := T.out.later hb
          have R2 : Hid (Bo W2 n (tg 0 (.slice none 0 0) Tb.zero 0)) := R.out.later hb
          have C2 : Hid (Wf W2 bc oc c) := C.out.later hb
          have G2 : Hid (Gd n w W2) := G.out.later hb
          have I2 : Hid (IsL (n + 2) W2 v (lst c)) := I.out.later hb
          clear hb T R C G t1 O I
          obtain ⟨a, ka, hva⟩ := I2.out.form
          subst hva
          go_wp2_with (first
            | (refine wpList_load_mid rfl 33 _ rfl (n + 1) _ rfl (tg 4 (.slice a (lst c).length ka) Tb.zero 0) _ T2.out.range HTD.out rfl (HTS.out _ _ _ _) ?_)
            | (refine wpList_store_mid rfl 33 _ _ rfl n _ (tg 4 (.slice a (lst c).length ka) Tb.zero 0).toArray rfl rfl (R2.out.thereT 4 (.slice a (lst c).length ka) Tb.zero 0) (HTZ.out _ _ _ _) (tg_all _ rfl _ _) ?_
               have RS : Hid (Bo (W2.setCells n 0 (tg 4 (.slice a (lst c).length ka) Tb.zero 0)) n (tg 4 (.slice a (lst c).length ka) Tb.zero 0)) := R2.out.setT 4 (.slice a (lst c).length ka) Tb.zero 0
               have GS : Hid (Gd n w (W2.setCells n 0 (tg 4 (.slice a (lst c).length ka) Tb.zero 0))) := G2.out.asideL (Nat.le_refl _) _ _
               clear R2 T2 G2
               generalize W2.setCells n 0 (tg 4 (.slice a (lst c).length ka) Tb.zero 0) = V at RS GS ⊢))
          exact bodyPost_ret (results_rowS Tryd.results5 _ _ n (tg 4 (.slice a (lst c).length ka) Tb.zero 0) _ (.bool false) rfl rfl RS.out.range HTD.out rfl (HTS.out _ _ _ _)) rfl ⟨_, Tb.zero, 0, rfl, rfl, GS.out.2⟩
end Go.Proofs.YtbmgjpdfmgcigabDoor.Tab
