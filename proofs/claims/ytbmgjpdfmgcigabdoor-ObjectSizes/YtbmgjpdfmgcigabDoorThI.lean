/- The reference's ThingOf: a list. -/
import Derived.Test.YtbmgjpdfmgcigabDoorThF
import Derived.Test.YtbmgjpdfmgcigabDoorApr
import Derived.Test.YtbmgjpdfmgcigabDoorTcl
namespace Go.Proofs.YtbmgjpdfmgcigabDoor.Tab
set_option maxRecDepth 20000
open Go.RowKit
set_option linter.unusedVariables false

set_option maxHeartbeats 8000000 in
theorem ThingOf_l {bc oc kc : Nat} {c : Nat → Nat} {w : World} {b : Bool} {kind : Int} (k5 : 1 ≤ kind ∧ kind ≤ 4) (hc : Wf w bc oc c) (hm : ∀ j, j < 17 → c j ≤ 4294967295) (h6 : c 0 ≤ 6) (h4 : kind ≠ 4) (hv : b = true ↔ ∀ j, j < 17 → lw (lst c) j = c j) :
    Calls Tryd.prog 5 #[.int .i64 kind, .slice (some ⟨bc, oc, none⟩) 17 kc] w fun e w' => ∃ v, e = .returned (.tuple #[.agg (tg kind v Tb.zero 0).toArray, .bool b]) ∧ IsL w.heap.size w' v (lst c) ∧ Below w.heap.size w w' := by
  have hk : 1 ≤ kind ∧ kind ≤ 6 := by omega
  have m5 : (kind == 5) = false := by simp; omega
  have m6 : (kind == 6) = false := by simp; omega
  have HK : Hid (kind ≠ 5 ∧ kind ≠ 6) := ⟨by omega, by omega⟩
  have HM : Hid _ := hm
  have H6 : Hid _ := h6
  clear k5 hm h6
  have m4 : (kind == 4) = false := by simp; exact h4
  clear h4
  have HV : Hid _ := hv
  clear hv
  have LT : Hid (∀ i, i < c 0 → (lst c).take i ++ [((c (i + 1) : Nat) : Int)] = (lst c).take (i + 1)) := fun i hi => lsq_take c hi
  have LL : Hid (∀ i, i ≤ c 0 → ((lst c).take i).length = i) := fun i hi => by rw [List.length_take, lst_length]; omega
  have LE : Hid ((lst c).take (c 0) = lst c) := List.take_of_length_le (by rw [lst_length]; exact Nat.le_refl _)
  have LX : Hid (∀ x ∈ lst c, 0 ≤ x ∧ x ≤ 4294967295) := fun x hx => by
    simp only [lst, List.mem_map, List.mem_range] at hx
    obtain ⟨i, hi, rfl⟩ := hx
    have := HM.out (i + 1) (by have := H6.out; omega)
    omega
  obtain ⟨fs, hd⟩ := thing_struct
  have HTD : Hid _ := hd
  clear hd
  have HTS : Hid _ := thing_size
  have HTZ : Hid _ := thing_size2
  have HTW : Hid _ := thing_size3
  have R0 : Hid (Bo ((w.alloc (.cells #[.int .i64 0, .slice none 0 0, .int .i64 0, .int .i64 0, .int .i64 0, .int .i64 0, .int .i64 0, .int .i64 0, .int .i64 0, .int .i64 0, .int .i64 0, .int .i64 0, .int .i64 0, .int .i64 0, .int .i64 0, .int .i64 0, .int .i64 0, .int .i64 0, .int .i64 0] 33)).alloc (.cells #[.int .i64 0, .slice none 0 0, .int .i64 0, .int .i64 0, .int .i64 0, .int .i64 0, .int .i64 0, .int .i64 0, .int .i64 0, .int .i64 0, .int .i64 0, .int .i64 0, .int .i64 0, .int .i64 0, .int .i64 0, .int .i64 0, .int .i64 0, .int .i64 0, .int .i64 0] 33)) w.heap.size (tg 0 (.slice none 0 0) Tb.zero 0)) := (Bo.bornTh w 0 _ rfl).new _
  have T0 : Hid (Bo ((w.alloc (.cells #[.int .i64 0, .slice none 0 0, .int .i64 0, .int .i64 0, .int .i64 0, .int .i64 0, .int .i64 0, .int .i64 0, .int .i64 0, .int .i64 0, .int .i64 0, .int .i64 0, .int .i64 0, .int .i64 0, .int .i64 0, .int .i64 0, .int .i64 0, .int .i64 0, .int .i64 0] 33)).alloc (.cells #[.int .i64 0, .slice none 0 0, .int .i64 0, .int .i64 0, .int .i64 0, .int .i64 0, .int .i64 0, .int .i64 0, .int .i64 0, .int .i64 0, .int .i64 0, .int .i64 0, .int .i64 0, .int .i64 0, .int .i64 0, .int .i64 0, .int .i64 0, .int .i64 0, .int .i64 0] 33)) (w.heap.size + 1) (tg 0 (.slice none 0 0) Tb.zero 0)) := Bo.bornTh _ 0 _ (by simp)
  have G0 : Hid (Gd w.heap.size w ((w.alloc (.cells #[.int .i64 0, .slice none 0 0, .int .i64 0, .int .i64 0, .int .i64 0, .int .i64 0, .int .i64 0, .int .i64 0, .int .i64 0, .int .i64 0, .int .i64 0, .int .i64 0, .int .i64 0, .int .i64 0, .int .i64 0, .int .i64 0, .int .i64 0, .int .i64 0, .int .i64 0] 33)).alloc (.cells #[.int .i64 0, .slice none 0 0, .int .i64 0, .int .i64 0, .int .i64 0, .int .i64 0, .int .i64 0, .int .i64 0, .int .i64 0, .int .i64 0, .int .i64 0, .int .i64 0, .int .i64 0, .int .i64 0, .int .i64 0, .int .i64 0, .int .i64 0, .int .i64 0, .int .i64 0] 33))) := ((Gd.refl w).new _).new _
  have hbc := hc.lt
  have C0 : Hid (Wf ((w.alloc (.cells #[.int .i64 0, .slice none 0 0, .int .i64 0, .int .i64 0, .int .i64 0, .int .i64 0, .int .i64 0, .int .i64 0, .int .i64 0, .int .i64 0, .int .i64 0, .int .i64 0, .int .i64 0, .int .i64 0, .int .i64 0, .int .i64 0, .int .i64 0, .int .i64 0, .int .i64 0] 33)).alloc (.cells #[.int .i64 0, .slice none 0 0, .int .i64 0, .int .i64 0, .int .i64 0, .int .i64 0, .int .i64 0, .int .i64 0, .int .i64 0, .int .i64 0, .int .i64 0, .int .i64 0, .int .i64 0, .int .i64 0, .int .i64 0, .int .i64 0, .int .i64 0, .int .i64 0, .int .i64 0] 33)) bc oc c) := (hc.later (new_below _ _)).later (new_below _ _)
  clear hc
  go_enter Tryd.func5, Tryd.ntmps5
  go_wp2_with (first
    | (generalize ((w.alloc (.cells #[.int .i64 0, .slice none 0 0, .int .i64 0, .int .i64 0, .int .i64 0, .int .i64 0, .int .i64 0, .int .i64 0, .int .i64 0, .int .i64 0, .int .i64 0, .int .i64 0, .int .i64 0, .int .i64 0, .int .i64 0, .int .i64 0, .int .i64 0, .int .i64 0, .int .i64 0] 33)).alloc (.cells #[.int .i64 0, .slice none 0 0, .int .i64 0, .int .i64 0, .int .i64 0, .int .i64 0, .int .i64 0, .int .i64 0, .int .i64 0, .int .i64 0, .int .i64 0, .int .i64 0, .int .i64 0, .int .i64 0, .int .i64 0, .int .i64 0, .int .i64 0, .int .i64 0, .int .i64 0] 33)) = W0 at R0 T0 G0 C0 ⊢
       refine wpList_store_mid rfl 33 _ _ rfl (w.heap.size + 1) _ #[.int .i64 kind, .slice none 0 0, .int .i64 0, .int .i64 0, .int .i64 0, .int .i64 0, .int .i64 0, .int .i64 0, .int .i64 0, .int .i64 0, .int .i64 0, .int .i64 0, .int .i64 0, .int .i64 0, .int .i64 0, .int .i64 0, .int .i64 0, .int .i64 0, .int .i64 0] rfl rfl (T0.out.thereL (by rw [tg_length]; rfl)) HTW.out (nil_all kind) ?_
       have R : Hid (Bo (W0.setCells (w.heap.size + 1) 0 [.int .i64 kind, .slice none 0 0, .int .i64 0, .int .i64 0, .int .i64 0, .int .i64 0, .int .i64 0, .int .i64 0, .int .i64 0, .int .i64 0, .int .i64 0, .int .i64 0, .int .i64 0, .int .i64 0, .int .i64 0, .int .i64 0, .int .i64 0, .int .i64 0, .int .i64 0]) w.heap.size (tg 0 (.slice none 0 0) Tb.zero 0)) := R0.out.asideL (by omega) _ _
       have T : Hid (Bo (W0.setCells (w.heap.size + 1) 0 [.int .i64 kind, .slice none 0 0, .int .i64 0, .int .i64 0, .int .i64 0, .int .i64 0, .int .i64 0, .int .i64 0, .int .i64 0, .int .i64 0, .int .i64 0, .int .i64 0, .int .i64 0, .int .i64 0, .int .i64 0, .int .i64 0, .int .i64 0, .int .i64 0, .int .i64 0]) (w.heap.size + 1) (tg kind (.slice none 0 0) Tb.zero 0)) := T0.out.setZ kind
       have G : Hid (Gd w.heap.size w (W0.setCells (w.heap.size + 1) 0 [.int .i64 kind, .slice none 0 0, .int .i64 0, .int .i64 0, .int .i64 0, .int .i64 0, .int .i64 0, .int .i64 0, .int .i64 0, .int .i64 0, .int .i64 0, .int .i64 0, .int .i64 0, .int .i64 0, .int .i64 0, .int .i64 0, .int .i64 0, .int .i64 0, .int .i64 0])) := G0.out.asideL (by omega) _ _
       have C : Hid (Wf (W0.setCells (w.heap.size + 1) 0 [.int .i64 kind, .slice none 0 0, .int .i64 0, .int .i64 0, .int .i64 0, .int .i64 0, .int .i64 0, .int .i64 0, .int .i64 0, .int .i64 0, .int .i64 0, .int .i64 0, .int .i64 0, .int .i64 0, .int .i64 0, .int .i64 0, .int .i64 0, .int .i64 0, .int .i64 0]) bc oc c) := C0.out.keep (heap_setCells (by omega) _ _ _)
       clear R0 T0 G0 C0
       generalize W0.setCells (w.heap.size + 1) 0 [.int .i64 kind, .slice none 0 0, .int .i64 0, .int .i64 0, .int .i64 0, .int .i64 0, .int .i64 0, .int .i64 0, .int .i64 0, .int .i64 0, .int .i64 0, .int .i64 0, .int .i64 0, .int .i64 0, .int .i64 0, .int .i64 0, .int .i64 0, .int .i64 0, .int .i64 0] = W at R T G C ⊢))
  generalize hsz : w.heap.size = n at R T G hbc ⊢
  have HSZ : Hid (w.heap.size = n) := hsz
  clear hsz
  go_wp2_with fail
  refine (rwithin_yes kind 1 6 _ hk.1 hk.2).mono ?_
  rintro e ux ⟨rfl, hw⟩
  rw [hw]; clear hw ux
  go_wp2_with fail
  go_loopg [19] 17 (fun gg s19 wt => wt = W ∧ ∃ i : Nat, i ≤ 17 ∧ 17 - i ≤ gg ∧ s19 = .int .i64 i ∧ Hid (∀ j, j < i → c j ≤ 4294967295))
  case atStart => exact ⟨rfl, 0, by omega, by omega, rfl, fun j hj => absurd hj (by omega)⟩
  case round =>
    obtain ⟨rfl, i, hi, hgg, rfl, U⟩ := hrel
    by_cases hlt : i < 17
    · have g0 := C.out.cell i hlt
      have hi1 : (i : Int) < 17 := by omega
      have hi0 : (0 : Int) ≤ (i : Int) := by omega
      by_cases hle : c i ≤ 4294967295
      · have U' : Hid (∀ j, j < i + 1 → c j ≤ 4294967295) := fun j hj => by
          by_cases e : j = i
          · subst e; exact hle
          · exact U.out j (by omega)
        have hd : ¬ 4294967295 < ((c i : Nat) : Int) := by omega
        clear U
        generalize c i = x at g0 hd hle
        clear hle
        go_wp2
        go_roundg (17 - (i + 1))
        case measure => omega
        case rel => exact ⟨rfl, i + 1, by omega, by omega, by go_num, U'⟩
      · exact absurd (HM.out i hlt) hle
    · obtain rfl : i = 17 := by omega
      clear U hlt
      have g0 : wr.cell? ⟨bc, oc, none⟩ = _ := C.out.cell 0 (by decide)
      have h6 := H6.out
      have LL0 : Hid _ := lst_length c
      have ez1 : IntKind.i64.wrap ((c 0 : Nat) : Int) = (c 0 : Nat) := by rw [IntKind.wrap_i64]; omega
      have ez2 : wrap64 ((c 0 : Nat) : Int) = (c 0 : Nat) := by unfold wrap64; omega
      have hd : decide ((6 : Int) < ((c 0 : Nat) : Int)) = false := by simp; omega
      have hdn : ¬ (6 : Int) < ((c 0 : Nat) : Int) := by omega
      have HC : Hid (∀ W, Wf W bc oc c → ∀ j, j < 17 → W.cell? ⟨bc, oc + j, none⟩ = some (.int .u64 (c j : Nat))) := fun W h => h.cell
      obtain ⟨z, hz⟩ : ∃ z, c 0 = z := ⟨_, rfl⟩
      have HZ0 : Hid (c 0 = z) := hz
      rw [hz] at g0 ez1 ez2 hd hdn LT LL LE LL0 h6
      clear hz
      obtain ⟨wq, rfl⟩ : ∃ wq, wq = wr := ⟨_, rfl⟩
      go_wp2_with fail
      clear g0 hd hdn
      go_loopg [37] z (fun gg s37 wt => ∃ i : Nat, i ≤ z ∧ z - i ≤ gg ∧ s37 = .int .i64 i ∧ ∃ v, Hid (Own (n + 2) wt v ((lst c).take i)) ∧ Hid (Bo wt (n + 1) (tg kind v Tb.zero 0)) ∧ Hid (Bo wt n (tg 0 (.slice none 0 0) Tb.zero 0)) ∧ Hid (Wf wt bc oc c) ∧ Hid (Gd n w wt))
      case atStart => exact ⟨0, by omega, by omega, rfl, (.slice none 0 0), ⟨rfl, Or.inl ⟨rfl, rfl⟩⟩, T, R, C, G⟩
      case round =>
        clear R T C G
        obtain ⟨i, hi, hgg, rfl, v, O, T, R, C, G⟩ := hrel
        by_cases hlt : i < z
        · have N1 : Hid _ := LT.out i hlt
          have L1 : Hid (((lst c).take i).length + 1 ≤ 1000000) := by have := LL.out i (by omega); show _ + 1 ≤ 1000000; omega
          have x1 := HM.out (i + 1) (by omega)
          have ex1 : IntKind.i64.wrap ((c (i + 1) : Nat) : Int) = (c (i + 1) : Nat) := by rw [IntKind.wrap_i64]; omega
          have ex2 : wrap64 ((c (i + 1) : Nat) : Int) = (c (i + 1) : Nat) := by unfold wrap64; omega
          have i1 : (i : Int) < (z : Int) := by omega
          have j1 : (i : Int) + 1 < 17 := by omega
          have j0 : (0 : Int) ≤ (i : Int) + 1 := by omega
          have j2 : IntKind.i64.wrap ((i : Int) + 1) = (i : Int) + 1 := by rw [IntKind.wrap_i64]; omega
          have j3 : ((i : Int) + 1).toNat = i + 1 := by omega
          generalize (lst c).take i = ys at O N1 L1
          go_wp2_with fail
          have h217q : Hid (Own (n + 2) wr.drew v ys) := O.out.drew
          have h218q : Hid (Bo wr.drew (n + 1) (tg kind v Tb.zero 0)) := T.out.drew
          have h219q : Hid (Bo wr.drew n (tg 0 (.slice none 0 0) Tb.zero 0)) := R.out.drew
          have h220q : Hid (Wf wr.drew bc oc c) := C.out.drew
          have h221q : Hid (Gd n w wr.drew) := G.out.drew
          clear O T R C G
          refine wp_region_held_drew (S := fun w' => Wf w' bc oc c) (by kernel_rfl) h220q.out (fun hH => ?_)
          generalize wr.drew = u222q at h217q h218q h219q h220q h221q hH ⊢
          refine wpAnyH_take (i := 0) (oi := { dst := some 40, op := .fieldAddr _ (.tmp 6) 1, type := _, pos := _, after := _, guard := _ }) (v := ?_) rfl (by kernel_rfl) (by kernel_rfl) (by kernel_rfl) (fun _ _ _ h => h) (Or.inl ⟨by rfl, ?_⟩) hH ?_
          rotate_left
          · intro w hSw
            clear hSw
            go_simp
            try with_reducible rfl
          simp only [Act.put, List.setIfInBounds_toArray, List.set_cons_zero, List.set_cons_succ]
          refine wpAnyH_take (i := 2) (oi := { dst := some 42, op := .move (.tmp 1), type := _, pos := _, after := _, guard := _ }) (v := ?_) rfl (by kernel_rfl) (by kernel_rfl) (by kernel_rfl) (fun _ _ _ h => h) (Or.inl ⟨by rfl, ?_⟩) hH ?_
          rotate_left
          · intro w hSw
            clear hSw
            go_simp
            try with_reducible rfl
          simp only [Act.put, List.setIfInBounds_toArray, List.set_cons_zero, List.set_cons_succ]
          refine wpAnyH_take (i := 3) (oi := { dst := some 43, op := .move (.tmp 10), type := _, pos := _, after := _, guard := _ }) (v := ?_) rfl (by kernel_rfl) (by kernel_rfl) (by kernel_rfl) (fun _ _ _ h => h) (Or.inl ⟨by rfl, ?_⟩) hH ?_
          rotate_left
          · intro w hSw
            clear hSw
            go_simp
            try with_reducible rfl
          simp only [Act.put, List.setIfInBounds_toArray, List.set_cons_zero, List.set_cons_succ]
          refine wpAnyH_take (i := 4) (oi := { dst := some 44, op := .binOp .add _ (.tmp 43) (.const (.int .i64 1)) _, type := _, pos := _, after := _, guard := _ }) (v := ?_) rfl (by kernel_rfl) (by kernel_rfl) (by kernel_rfl) (fun _ _ _ h => h) (Or.inl ⟨by rfl, ?_⟩) hH ?_
          rotate_left
          · intro w hSw
            clear hSw
            go_simp
            try with_reducible rfl
          simp only [Act.put, List.setIfInBounds_toArray, List.set_cons_zero, List.set_cons_succ]
          refine wpAnyH_take (i := 5) (oi := { dst := some 45, op := .indexAddr _ (.tmp 42) (.tmp 44), type := _, pos := _, after := _, guard := _ }) (v := ?_) rfl (by kernel_rfl) (by kernel_rfl) (by kernel_rfl) (fun _ _ _ h => h) (Or.inl ⟨by rfl, ?_⟩) hH ?_
          rotate_left
          · intro w hSw
            clear hSw
            go_simp
            try with_reducible rfl
          simp only [Act.put, List.setIfInBounds_toArray, List.set_cons_zero, List.set_cons_succ]
          refine wpAnyH_take (i := 6) (oi := { dst := some 46, op := .load _ (.tmp 45), type := _, pos := _, after := _, guard := _ }) (v := ?_) rfl (by kernel_rfl) (by kernel_rfl) (by kernel_rfl) (fun _ _ _ h => h) (Or.inl ⟨by rfl, ?_⟩) hH ?_
          rotate_left
          · intro w hSw
            have c223q := (hSw).cell (i + 1) (by omega)
            clear hSw
            go_simp
            try with_reducible rfl
          simp only [Act.put, List.setIfInBounds_toArray, List.set_cons_zero, List.set_cons_succ]
          refine wpAnyH_take (i := 7) (oi := { dst := some 47, op := .convert _ _ (.tmp 46), type := _, pos := _, after := _, guard := _ }) (v := ?_) rfl (by kernel_rfl) (by kernel_rfl) (by kernel_rfl) (fun _ _ _ h => h) (Or.inl ⟨by rfl, ?_⟩) hH ?_
          rotate_left
          · intro w hSw
            clear hSw
            go_simp
            try with_reducible rfl
          simp only [Act.put, List.setIfInBounds_toArray, List.set_cons_zero, List.set_cons_succ]
          refine wpAnyH_ready (rs := [1, 8]) (by kernel_rfl) (by simp) ?_
          refine AllReadyH.cons (o := { dst := some 41, op := .load _ (.tmp 40), type := _, pos := _, after := _, guard := _ }) rfl (fun K hK => ?_) ?_
          · have c224q := h218q.out.tcell.2.1
            go_simp
            clear c224q
            refine hK.out _ _ h220q.out (fun hH => ?_)
            clear hK K
            try simp only [Act.put, List.setIfInBounds_toArray, List.set_cons_zero, List.set_cons_succ]
            refine wpAnyH_ready (rs := [8]) (by kernel_rfl) (by simp) ?_
            refine AllReadyH.cons (o := { dst := some 48, op := .buildSlice _ 1 #[(0, .tmp 47)], type := _, pos := _, after := _, guard := _ }) rfl (fun K hK => ?_) AllReadyH.nil
            have l225q : (n + 1) < u222q.heap.size := h218q.out.lt
            have l226q : n < u222q.heap.size := h219q.out.lt
            have l227q : bc < u222q.heap.size := h220q.out.lt
            have l228q : n ≤ u222q.heap.size := h221q.out.le
            go_simp
            have h229q : Hid (Own (n + 2) (u222q.alloc (.cells #[.int .i64 (c (i + 1) : Nat)] 3)) v ys) := h217q.out.new (.cells #[.int .i64 (c (i + 1) : Nat)] 3)
            have h230q : Hid (Bo (u222q.alloc (.cells #[.int .i64 (c (i + 1) : Nat)] 3)) (n + 1) (tg kind v Tb.zero 0)) := h218q.out.new (.cells #[.int .i64 (c (i + 1) : Nat)] 3)
            have h231q : Hid (Bo (u222q.alloc (.cells #[.int .i64 (c (i + 1) : Nat)] 3)) n (tg 0 (.slice none 0 0) Tb.zero 0)) := h219q.out.new (.cells #[.int .i64 (c (i + 1) : Nat)] 3)
            have h232q : Hid (Wf (u222q.alloc (.cells #[.int .i64 (c (i + 1) : Nat)] 3)) bc oc c) := h220q.out.new (.cells #[.int .i64 (c (i + 1) : Nat)] 3)
            have h233q : Hid (Gd n w (u222q.alloc (.cells #[.int .i64 (c (i + 1) : Nat)] 3))) := h221q.out.new (.cells #[.int .i64 (c (i + 1) : Nat)] 3)
            clear h217q h218q h219q h220q h221q
            have h234q : Hid (IsL 0 (u222q.alloc (.cells #[.int .i64 (c (i + 1) : Nat)] 3)) (.slice (some ⟨u222q.heap.size, 0, none⟩) 1 1) [((c (i + 1) : Nat) : Int)]) := IsL.lit u222q [((c (i + 1) : Nat) : Int)] Nat.zero_lt_one
            refine hK.out _ _ h232q.out (fun hH => ?_)
            clear hK K
            generalize (u222q.alloc (.cells #[.int .i64 (c (i + 1) : Nat)] 3)) = u235q at h229q h230q h231q h232q h233q h234q hH ⊢
            try simp only [Act.put, List.setIfInBounds_toArray, List.set_cons_zero, List.set_cons_succ]
            refine wpAnyH_ready (rs := [9]) (by kernel_rfl) (by simp) ?_
            refine AllReadyH.cons (o := { dst := some 49, op := _, type := _, pos := _, after := _, guard := _ }) rfl (fun K hK => ?_) AllReadyH.nil
            have l236q : (n + 1) < u235q.heap.size := h230q.out.lt
            have l237q : n < u235q.heap.size := h231q.out.lt
            have l238q : bc < u235q.heap.size := h232q.out.lt
            have l239q : n ≤ u235q.heap.size := h233q.out.le
            refine step_onto rfl (.tmp 41) (.tmp 48) rfl rfl rfl (show n + 2 ≤ u235q.heap.size by omega) h229q.out h234q.out L1.out ?_
            intro v3 w3 hO3 hb3
            obtain ⟨a3, k3, rfl⟩ := hO3.form
            generalize hl3 : (ys ++ [((c (i + 1) : Nat) : Int)]).length = l3
            rw [hl3] at hO3; clear hl3
            have h240q : Hid (Bo w3 (n + 1) (tg kind v Tb.zero 0)) := h230q.out.laterB (by omega) hb3
            clear h230q
            have h241q : Hid (Bo w3 n (tg 0 (.slice none 0 0) Tb.zero 0)) := h231q.out.laterB (by omega) hb3
            clear h231q
            have h242q : Hid (Wf w3 bc oc c) := h232q.out.laterB (by omega) hb3
            clear h232q
            have h243q : Hid (Gd n w w3) := h233q.out.laterB (by omega) hb3
            clear h233q
            have h244q : Hid (Own (n + 2) w3 (.slice a3 l3 k3) (ys ++ [((c (i + 1) : Nat) : Int)])) := hO3
            clear h229q h234q hO3 hb3
            refine hK.out _ _ h242q.out (fun hH => ?_)
            clear hK K
            try simp only [Act.put, List.setIfInBounds_toArray, List.set_cons_zero, List.set_cons_succ]
            refine wpAnyH_take (i := 10) (oi := { dst := some 50, op := .fieldAddr _ (.tmp 6) 1, type := _, pos := _, after := _, guard := _ }) (v := ?_) rfl (by kernel_rfl) (by kernel_rfl) (by kernel_rfl) (fun _ _ _ h => h) (Or.inl ⟨by rfl, ?_⟩) hH ?_
            rotate_left
            · intro w hSw
              clear hSw
              go_simp
              try with_reducible rfl
            simp only [Act.put, List.setIfInBounds_toArray, List.set_cons_zero, List.set_cons_succ]
            refine wpAnyH_ready (rs := [11]) (by kernel_rfl) (by simp) ?_
            refine AllReadyH.cons (o := { dst := none, op := .store _ (.tmp 50) (.tmp 49), type := _, pos := _, after := _, guard := _ }) rfl (fun K hK => ?_) AllReadyH.nil
            have l245q : (n + 1) < w3.heap.size := h240q.out.lt
            have l246q : n < w3.heap.size := h241q.out.lt
            have l247q : bc < w3.heap.size := h242q.out.lt
            have l248q : n ≤ w3.heap.size := h243q.out.le
            have c249q := h240q.out.tcell.2.1
            have c250q := h240q.out.froz 1
            go_simp
            clear c249q c250q
            have h251q : Hid (Own (n + 2) (w3.setCell ⟨n + 1, 1, none⟩ (.slice a3 l3 k3)) (.slice a3 l3 k3) (ys ++ [((c (i + 1) : Nat) : Int)])) := h244q.out.aside (by simp; try omega) _
            have h252q : Hid (Bo (w3.setCell ⟨n + 1, 1, none⟩ (.slice a3 l3 k3)) (n + 1) (tg kind (.slice a3 l3 k3) Tb.zero 0)) := h240q.out.set1 (j := 1) (x := (.slice a3 l3 k3)) (by rw [tg_length]; decide) (tg_list _ _ (.slice a3 l3 k3) _ _)
            have h253q : Hid (Bo (w3.setCell ⟨n + 1, 1, none⟩ (.slice a3 l3 k3)) n (tg 0 (.slice none 0 0) Tb.zero 0)) := h241q.out.aside (by simp; try omega) _
            have h254q : Hid (Wf (w3.setCell ⟨n + 1, 1, none⟩ (.slice a3 l3 k3)) bc oc c) := h242q.out.aside (by simp; try omega) _
            have h255q : Hid (Gd n w (w3.setCell ⟨n + 1, 1, none⟩ (.slice a3 l3 k3))) := h243q.out.aside (by simp; try omega) _
            clear h244q h240q h241q h242q h243q
            refine hK.out _ _ h254q.out (fun hH => ?_)
            clear hK K
            generalize (w3.setCell ⟨n + 1, 1, none⟩ (.slice a3 l3 k3)) = u256q at h251q h252q h253q h254q h255q hH ⊢
            try simp only [Act.put, List.setIfInBounds_toArray, List.set_cons_zero, List.set_cons_succ]
            refine wpAnyH_done (by kernel_rfl) ?_ _
            go_wp2
            go_roundg (z - (i + 1))
            case measure => omega
            case rel => exact ⟨i + 1, by omega, by omega, by go_num, (.slice a3 l3 k3), by rw [← N1.out]; exact h251q.out, h252q, h253q, h254q, h255q⟩
          refine AllReadyH.cons (o := { dst := some 48, op := .buildSlice _ 1 #[(0, .tmp 47)], type := _, pos := _, after := _, guard := _ }) rfl (fun K hK => ?_) AllReadyH.nil
          have l257q : (n + 1) < u222q.heap.size := h218q.out.lt
          have l258q : n < u222q.heap.size := h219q.out.lt
          have l259q : bc < u222q.heap.size := h220q.out.lt
          have l260q : n ≤ u222q.heap.size := h221q.out.le
          go_simp
          have h261q : Hid (Own (n + 2) (u222q.alloc (.cells #[.int .i64 (c (i + 1) : Nat)] 3)) v ys) := h217q.out.new (.cells #[.int .i64 (c (i + 1) : Nat)] 3)
          have h262q : Hid (Bo (u222q.alloc (.cells #[.int .i64 (c (i + 1) : Nat)] 3)) (n + 1) (tg kind v Tb.zero 0)) := h218q.out.new (.cells #[.int .i64 (c (i + 1) : Nat)] 3)
          have h263q : Hid (Bo (u222q.alloc (.cells #[.int .i64 (c (i + 1) : Nat)] 3)) n (tg 0 (.slice none 0 0) Tb.zero 0)) := h219q.out.new (.cells #[.int .i64 (c (i + 1) : Nat)] 3)
          have h264q : Hid (Wf (u222q.alloc (.cells #[.int .i64 (c (i + 1) : Nat)] 3)) bc oc c) := h220q.out.new (.cells #[.int .i64 (c (i + 1) : Nat)] 3)
          have h265q : Hid (Gd n w (u222q.alloc (.cells #[.int .i64 (c (i + 1) : Nat)] 3))) := h221q.out.new (.cells #[.int .i64 (c (i + 1) : Nat)] 3)
          clear h217q h218q h219q h220q h221q
          have h266q : Hid (IsL 0 (u222q.alloc (.cells #[.int .i64 (c (i + 1) : Nat)] 3)) (.slice (some ⟨u222q.heap.size, 0, none⟩) 1 1) [((c (i + 1) : Nat) : Int)]) := IsL.lit u222q [((c (i + 1) : Nat) : Int)] Nat.zero_lt_one
          refine hK.out _ _ h264q.out (fun hH => ?_)
          clear hK K
          generalize (u222q.alloc (.cells #[.int .i64 (c (i + 1) : Nat)] 3)) = u267q at h261q h262q h263q h264q h265q h266q hH ⊢
          try simp only [Act.put, List.setIfInBounds_toArray, List.set_cons_zero, List.set_cons_succ]
          refine wpAnyH_ready (rs := [1]) (by kernel_rfl) (by simp) ?_
          refine AllReadyH.cons (o := { dst := some 41, op := .load _ (.tmp 40), type := _, pos := _, after := _, guard := _ }) rfl (fun K hK => ?_) AllReadyH.nil
          have c268q := h262q.out.tcell.2.1
          go_simp
          clear c268q
          refine hK.out _ _ h264q.out (fun hH => ?_)
          clear hK K
          try simp only [Act.put, List.setIfInBounds_toArray, List.set_cons_zero, List.set_cons_succ]
          refine wpAnyH_ready (rs := [9]) (by kernel_rfl) (by simp) ?_
          refine AllReadyH.cons (o := { dst := some 49, op := _, type := _, pos := _, after := _, guard := _ }) rfl (fun K hK => ?_) AllReadyH.nil
          have l269q : (n + 1) < u267q.heap.size := h262q.out.lt
          have l270q : n < u267q.heap.size := h263q.out.lt
          have l271q : bc < u267q.heap.size := h264q.out.lt
          have l272q : n ≤ u267q.heap.size := h265q.out.le
          refine step_onto rfl (.tmp 41) (.tmp 48) rfl rfl rfl (show n + 2 ≤ u267q.heap.size by omega) h261q.out h266q.out L1.out ?_
          intro v3 w3 hO3 hb3
          obtain ⟨a3, k3, rfl⟩ := hO3.form
          generalize hl3 : (ys ++ [((c (i + 1) : Nat) : Int)]).length = l3
          rw [hl3] at hO3; clear hl3
          have h273q : Hid (Bo w3 (n + 1) (tg kind v Tb.zero 0)) := h262q.out.laterB (by omega) hb3
          clear h262q
          have h274q : Hid (Bo w3 n (tg 0 (.slice none 0 0) Tb.zero 0)) := h263q.out.laterB (by omega) hb3
          clear h263q
          have h275q : Hid (Wf w3 bc oc c) := h264q.out.laterB (by omega) hb3
          clear h264q
          have h276q : Hid (Gd n w w3) := h265q.out.laterB (by omega) hb3
          clear h265q
          have h277q : Hid (Own (n + 2) w3 (.slice a3 l3 k3) (ys ++ [((c (i + 1) : Nat) : Int)])) := hO3
          clear h261q h266q hO3 hb3
          refine hK.out _ _ h275q.out (fun hH => ?_)
          clear hK K
          try simp only [Act.put, List.setIfInBounds_toArray, List.set_cons_zero, List.set_cons_succ]
          refine wpAnyH_take (i := 10) (oi := { dst := some 50, op := .fieldAddr _ (.tmp 6) 1, type := _, pos := _, after := _, guard := _ }) (v := ?_) rfl (by kernel_rfl) (by kernel_rfl) (by kernel_rfl) (fun _ _ _ h => h) (Or.inl ⟨by rfl, ?_⟩) hH ?_
          rotate_left
          · intro w hSw
            clear hSw
            go_simp
            try with_reducible rfl
          simp only [Act.put, List.setIfInBounds_toArray, List.set_cons_zero, List.set_cons_succ]
          refine wpAnyH_ready (rs := [11]) (by kernel_rfl) (by simp) ?_
          refine AllReadyH.cons (o := { dst := none, op := .store _ (.tmp 50) (.tmp 49), type := _, pos := _, after := _, guard := _ }) rfl (fun K hK => ?_) AllReadyH.nil
          have l278q : (n + 1) < w3.heap.size := h273q.out.lt
          have l279q : n < w3.heap.size := h274q.out.lt
          have l280q : bc < w3.heap.size := h275q.out.lt
          have l281q : n ≤ w3.heap.size := h276q.out.le
          have c282q := h273q.out.tcell.2.1
          have c283q := h273q.out.froz 1
          go_simp
          clear c282q c283q
          have h284q : Hid (Own (n + 2) (w3.setCell ⟨n + 1, 1, none⟩ (.slice a3 l3 k3)) (.slice a3 l3 k3) (ys ++ [((c (i + 1) : Nat) : Int)])) := h277q.out.aside (by simp; try omega) _
          have h285q : Hid (Bo (w3.setCell ⟨n + 1, 1, none⟩ (.slice a3 l3 k3)) (n + 1) (tg kind (.slice a3 l3 k3) Tb.zero 0)) := h273q.out.set1 (j := 1) (x := (.slice a3 l3 k3)) (by rw [tg_length]; decide) (tg_list _ _ (.slice a3 l3 k3) _ _)
          have h286q : Hid (Bo (w3.setCell ⟨n + 1, 1, none⟩ (.slice a3 l3 k3)) n (tg 0 (.slice none 0 0) Tb.zero 0)) := h274q.out.aside (by simp; try omega) _
          have h287q : Hid (Wf (w3.setCell ⟨n + 1, 1, none⟩ (.slice a3 l3 k3)) bc oc c) := h275q.out.aside (by simp; try omega) _
          have h288q : Hid (Gd n w (w3.setCell ⟨n + 1, 1, none⟩ (.slice a3 l3 k3))) := h276q.out.aside (by simp; try omega) _
          clear h277q h273q h274q h275q h276q
          refine hK.out _ _ h287q.out (fun hH => ?_)
          clear hK K
          generalize (w3.setCell ⟨n + 1, 1, none⟩ (.slice a3 l3 k3)) = u289q at h284q h285q h286q h287q h288q hH ⊢
          try simp only [Act.put, List.setIfInBounds_toArray, List.set_cons_zero, List.set_cons_succ]
          refine wpAnyH_done (by kernel_rfl) ?_ _
          go_wp2
          go_roundg (z - (i + 1))
          case measure => omega
          case rel => exact ⟨i + 1, by omega, by omega, by go_num, (.slice a3 l3 k3), by rw [← N1.out]; exact h284q.out, h285q, h286q, h287q, h288q⟩
        · have ei : i = z := by omega
          rw [ei, LE.out] at O
          clear hlt
          have I : Hid (IsL (n + 2) wr v (lst c)) := O.out.isL
          have t1 := T.out.tcell.2.1
          have HVO : Hid (v.oneCell' = true) := by obtain ⟨a, k, hv⟩ := I.out.form; rw [hv]; rfl
          have CC : Hid (∀ W, IsL (n + 2) W v (lst c) → _) := fun W h => Cells_list (k := kind) (v := v) (l := lst c) HK.out.1 HK.out.2 Tb.zero 0 (w := W) h (by rw [LL0.out]; exact h6) LX.out
          go_wp2_with fail
          have h290q : Hid (Bo wr.drew n (tg 0 (.slice none 0 0) Tb.zero 0)) := R.out.drew
          have h291q : Hid (Bo wr.drew (n + 1) (tg kind v Tb.zero 0)) := T.out.drew
          have h292q : Hid (Wf wr.drew bc oc c) := C.out.drew
          have h293q : Hid (Gd n w wr.drew) := G.out.drew
          have h294q : Hid (IsL (n + 2) wr.drew v (lst c)) := I.out.drew
          clear R T C G I
          refine wp_region_held_drew (S := fun w' => Bo w' (n + 1) (tg kind v Tb.zero 0)) (by kernel_rfl) h291q.out (fun hH => ?_)
          generalize wr.drew = u295q at h290q h291q h292q h293q h294q hH ⊢
          refine wpAnyH_take (i := 0) (oi := { dst := some 96, op := .load _ (.tmp 6), type := _, pos := _, after := _, guard := _ }) (v := _) rfl (by kernel_rfl) (by kernel_rfl) (by kernel_rfl) (fun _ _ _ h => h) (yieldsIf_load_mid (by rfl) _ _ rfl (n + 1) _ rfl (tg kind v Tb.zero 0) _ (fun _ h => (h).range) HTD.out rfl (HTS.out _ _ _ _)) hH ?_
          simp only [Act.put, List.setIfInBounds_toArray, List.set_cons_zero, List.set_cons_succ]
          refine wpAnyH_take (i := 1) (oi := { dst := some 97, op := .load _ (.tmp 6), type := _, pos := _, after := _, guard := _ }) (v := _) rfl (by kernel_rfl) (by kernel_rfl) (by kernel_rfl) (fun _ _ _ h => h) (yieldsIf_load_mid (by rfl) _ _ rfl (n + 1) _ rfl (tg kind v Tb.zero 0) _ (fun _ h => (h).range) HTD.out rfl (HTS.out _ _ _ _)) hH ?_
          simp only [Act.put, List.setIfInBounds_toArray, List.set_cons_zero, List.set_cons_succ]
          refine wpAnyH_take (i := 3) (oi := { dst := some 99, op := .move (.tmp 1), type := _, pos := _, after := _, guard := _ }) (v := ?_) rfl (by kernel_rfl) (by kernel_rfl) (by kernel_rfl) (fun _ _ _ h => h) (Or.inl ⟨by rfl, ?_⟩) hH ?_
          rotate_left
          · intro w hSw
            clear hSw
            go_simp
            try with_reducible rfl
          simp only [Act.put, List.setIfInBounds_toArray, List.set_cons_zero, List.set_cons_succ]
          refine wpAnyH_ready (rs := [2]) (by kernel_rfl) (by simp) ?_
          refine AllReadyH.cons (o := { dst := some 98, op := _, type := _, pos := _, after := _, guard := _ }) rfl (fun K hK => ?_) AllReadyH.nil
          go_simp
          refine (CC.out _ h294q.out).mono ?_
          rintro e u296q ⟨⟨bq, rfl, hq, hW⟩, hb⟩
          have h297q : Hid (Bo u296q n (tg 0 (.slice none 0 0) Tb.zero 0)) := h290q.out.later hb
          have h298q : Hid (Bo u296q (n + 1) (tg kind v Tb.zero 0)) := h291q.out.later hb
          have h299q : Hid (Wf u296q bc oc c) := h292q.out.later hb
          have h300q : Hid (Gd n w u296q) := h293q.out.later hb
          have h301q : Hid (IsL (n + 2) u296q v (lst c)) := h294q.out.later hb
          clear h290q h291q h292q h293q h294q
          have h302q : Hid (Bo u296q bq (wl (lw (lst c)))) := hW
          clear hb
          go_wp2_with fail
          refine hK.out _ _ h298q.out (fun hH => ?_)
          clear hK K
          try simp only [Act.put, List.setIfInBounds_toArray, List.set_cons_zero, List.set_cons_succ]
          refine wpAnyH_ready (rs := [4]) (by kernel_rfl) (by simp) ?_
          refine AllReadyH.cons (o := { dst := some 100, op := _, type := _, pos := _, after := _, guard := _ }) rfl (fun K hK => ?_) AllReadyH.nil
          go_simp
          refine (same_wf h302q.out h299q.out _ HV.out).mono ?_
          rintro e u303q ⟨rfl, hb⟩
          have h304q : Hid (Bo u303q n (tg 0 (.slice none 0 0) Tb.zero 0)) := h297q.out.later hb
          have h305q : Hid (Bo u303q (n + 1) (tg kind v Tb.zero 0)) := h298q.out.later hb
          have h306q : Hid (Wf u303q bc oc c) := h299q.out.later hb
          have h307q : Hid (Gd n w u303q) := h300q.out.later hb
          have h308q : Hid (IsL (n + 2) u303q v (lst c)) := h301q.out.later hb
          have h309q : Hid (Bo u303q bq (wl (lw (lst c)))) := h302q.out.later hb
          clear h297q h298q h299q h300q h301q h302q
          clear h309q
          clear hb
          go_wp2_with fail
          refine hK.out _ _ h305q.out (fun hH => ?_)
          clear hK K
          try simp only [Act.put, List.setIfInBounds_toArray, List.set_cons_zero, List.set_cons_succ]
          refine wpAnyH_ready (rs := [5]) (by kernel_rfl) (by simp) ?_
          refine AllReadyH.cons (o := { dst := none, op := .store _ (.tmp 4) (.tmp 96), type := _, pos := _, after := _, guard := _ }) rfl (fun K hK => ?_) AllReadyH.nil
          rw [if_pos (by rfl)]
          refine wp_store_mid _ _ _ rfl n _ (tg kind v Tb.zero 0).toArray rfl rfl (h304q.out.thereT kind v Tb.zero 0) (HTZ.out _ _ _ _) (tg_all _ HVO.out _ _) ?_
          simp only [Act.put]
          have h310q : Hid (Bo (u303q.setCells n 0 (tg kind v Tb.zero 0)) n (tg kind v Tb.zero 0)) := h304q.out.setT kind v Tb.zero 0
          have h311q : Hid (Bo (u303q.setCells n 0 (tg kind v Tb.zero 0)) (n + 1) (tg kind v Tb.zero 0)) := h305q.out.asideL (by omega) 0 (tg kind v Tb.zero 0)
          have h312q : Hid (Wf (u303q.setCells n 0 (tg kind v Tb.zero 0)) bc oc c) := h306q.out.asideL (by omega) 0 (tg kind v Tb.zero 0)
          have h313q : Hid (Gd n w (u303q.setCells n 0 (tg kind v Tb.zero 0))) := h307q.out.asideL (by omega) 0 (tg kind v Tb.zero 0)
          have h314q : Hid (IsL (n + 2) (u303q.setCells n 0 (tg kind v Tb.zero 0)) v (lst c)) := h308q.out.asideL (by omega) 0 (tg kind v Tb.zero 0)
          clear h304q h305q h306q h307q h308q
          refine hK.out _ _ h311q.out (fun hH => ?_)
          clear hK K
          generalize (u303q.setCells n 0 (tg kind v Tb.zero 0)) = u315q at h310q h311q h312q h313q h314q hH ⊢
          try simp only [Act.put, List.setIfInBounds_toArray, List.set_cons_zero, List.set_cons_succ]
          refine wpAnyH_take (i := 6) (oi := { dst := some 5, op := .assign (.tmp 100), type := _, pos := _, after := _, guard := _ }) (v := ?_) rfl (by kernel_rfl) (by kernel_rfl) (by kernel_rfl) (fun _ _ _ h => h) (Or.inl ⟨by rfl, ?_⟩) hH ?_
          rotate_left
          · intro w hSw
            clear hSw
            go_simp
            try with_reducible rfl
          simp only [Act.put, List.setIfInBounds_toArray, List.set_cons_zero, List.set_cons_succ]
          refine wpAnyH_done (by kernel_rfl) ?_ _
          go_wp2
          exact bodyPost_ret (results_rowS Tryd.results5 _ _ n (tg kind v Tb.zero 0) _ _ rfl rfl h310q.out.range HTD.out rfl (HTS.out _ _ _ _)) rfl ⟨v, rfl, h314q.out.mono (by have := HSZ.out; omega), h313q.out.2⟩
end Go.Proofs.YtbmgjpdfmgcigabDoor.Tab
