/- The reference's ThingOf: a heap. -/
import Derived.Test.YtbmgjpdfmgcigabDoorThF
import Derived.Test.YtbmgjpdfmgcigabDoorApr
import Derived.Test.YtbmgjpdfmgcigabDoorXh
import Derived.Test.YtbmgjpdfmgcigabDoorTcl
namespace Go.Proofs.YtbmgjpdfmgcigabDoor.Tab
set_option maxRecDepth 20000
open Go.RowKit
set_option linter.unusedVariables false

set_option maxHeartbeats 8000000 in
theorem ThingOf_4 {bc oc kc : Nat} {c : Nat → Nat} {w : World} {b : Bool} {kind : Int} (k5 : 1 ≤ kind ∧ kind ≤ 4) (hc : Wf w bc oc c) (hm : ∀ j, j < 17 → c j ≤ 4294967295) (h6 : c 0 ≤ 6) (h4 : kind = 4) (hp : Hp (lst c)) (hv : b = true ↔ ∀ j, j < 17 → lw (lst c) j = c j) :
    Calls Tryd.prog 5 #[.int .i64 kind, .slice (some ⟨bc, oc, none⟩) 17 kc] w fun e w' => ∃ v, e = .returned (.tuple #[.agg (tg kind v Tb.zero 0).toArray, .bool b]) ∧ IsL w.heap.size w' v (lst c) ∧ Below w.heap.size w w' := by
  have hk : 1 ≤ kind ∧ kind ≤ 6 := by omega
  have m5 : (kind == 5) = false := by simp; omega
  have m6 : (kind == 6) = false := by simp; omega
  have HK : Hid (kind ≠ 5 ∧ kind ≠ 6) := ⟨by omega, by omega⟩
  have HM : Hid _ := hm
  have H6 : Hid _ := h6
  clear k5 hm h6
  have H4 : Hid _ := h4
  have HP : Hid _ := hp
  clear h4 hp
  have HV : Hid _ := hv
  clear hv
  have LT : Hid (∀ i, i < c 0 → (lst c).take i ++ [((c (i + 1) : Nat) : Int)] = (lst c).take (i + 1)) := fun i hi => lsq_take c hi
  have LL : Hid (∀ i, i ≤ c 0 → ((lst c).take i).length = i) := fun i hi => by rw [List.length_take, lst_length]; omega
  have LE : Hid ((lst c).take (c 0) = lst c) := List.take_of_length_le (by rw [lst_length]; exact Nat.le_refl _)
  have LX : Hid (∀ x ∈ lst c, 0 ≤ x ∧ x ≤ 4294967295) := fun x hx => by
    simp only [lst, List.mem_map, List.mem_range] at hx
    obtain ⟨i, hi, rfl⟩ := hx
    have := HM.out (i + 1) (by have := H6.out; omega)
    omega
  obtain ⟨fs, hd⟩ := thing_struct
  have HTD : Hid _ := hd
  clear hd
  have HTS : Hid _ := thing_size
  have HTZ : Hid _ := thing_size2
  have HTW : Hid _ := thing_size3
  have R0 : Hid (Bo ((w.alloc (.cells #[.int .i64 0, .slice none 0 0, .int .i64 0, .int .i64 0, .int .i64 0, .int .i64 0, .int .i64 0, .int .i64 0, .int .i64 0, .int .i64 0, .int .i64 0, .int .i64 0, .int .i64 0, .int .i64 0, .int .i64 0, .int .i64 0, .int .i64 0, .int .i64 0, .int .i64 0] 33)).alloc (.cells #[.int .i64 0, .slice none 0 0, .int .i64 0, .int .i64 0, .int .i64 0, .int .i64 0, .int .i64 0, .int .i64 0, .int .i64 0, .int .i64 0, .int .i64 0, .int .i64 0, .int .i64 0, .int .i64 0, .int .i64 0, .int .i64 0, .int .i64 0, .int .i64 0, .int .i64 0] 33)) w.heap.size (tg 0 (.slice none 0 0) Tb.zero 0)) := (Bo.bornTh w 0 _ rfl).new _
  have T0 : Hid (Bo ((w.alloc (.cells #[.int .i64 0, .slice none 0 0, .int .i64 0, .int .i64 0, .int .i64 0, .int .i64 0, .int .i64 0, .int .i64 0, .int .i64 0, .int .i64 0, .int .i64 0, .int .i64 0, .int .i64 0, .int .i64 0, .int .i64 0, .int .i64 0, .int .i64 0, .int .i64 0, .int .i64 0] 33)).alloc (.cells #[.int .i64 0, .slice none 0 0, .int .i64 0, .int .i64 0, .int .i64 0, .int .i64 0, .int .i64 0, .int .i64 0, .int .i64 0, .int .i64 0, .int .i64 0, .int .i64 0, .int .i64 0, .int .i64 0, .int .i64 0, .int .i64 0, .int .i64 0, .int .i64 0, .int .i64 0] 33)) (w.heap.size + 1) (tg 0 (.slice none 0 0) Tb.zero 0)) := Bo.bornTh _ 0 _ (by simp)
  have G0 : Hid (Gd w.heap.size w ((w.alloc (.cells #[.int .i64 0, .slice none 0 0, .int .i64 0, .int .i64 0, .int .i64 0, .int .i64 0, .int .i64 0, .int .i64 0, .int .i64 0, .int .i64 0, .int .i64 0, .int .i64 0, .int .i64 0, .int .i64 0, .int .i64 0, .int .i64 0, .int .i64 0, .int .i64 0, .int .i64 0] 33)).alloc (.cells #[.int .i64 0, .slice none 0 0, .int .i64 0, .int .i64 0, .int .i64 0, .int .i64 0, .int .i64 0, .int .i64 0, .int .i64 0, .int .i64 0, .int .i64 0, .int .i64 0, .int .i64 0, .int .i64 0, .int .i64 0, .int .i64 0, .int .i64 0, .int .i64 0, .int .i64 0] 33))) := ((Gd.refl w).new _).new _
  have hbc := hc.lt
  have C0 : Hid (Wf ((w.alloc (.cells #[.int .i64 0, .slice none 0 0, .int .i64 0, .int .i64 0, .int .i64 0, .int .i64 0, .int .i64 0, .int .i64 0, .int .i64 0, .int .i64 0, .int .i64 0, .int .i64 0, .int .i64 0, .int .i64 0, .int .i64 0, .int .i64 0, .int .i64 0, .int .i64 0, .int .i64 0] 33)).alloc (.cells #[.int .i64 0, .slice none 0 0, .int .i64 0, .int .i64 0, .int .i64 0, .int .i64 0, .int .i64 0, .int .i64 0, .int .i64 0, .int .i64 0, .int .i64 0, .int .i64 0, .int .i64 0, .int .i64 0, .int .i64 0, .int .i64 0, .int .i64 0, .int .i64 0, .int .i64 0] 33)) bc oc c) := (hc.later (new_below _ _)).later (new_below _ _)
  clear hc
  go_enter Tryd.func5, Tryd.ntmps5
  go_wp2_with (first
    | (generalize ((w.alloc (.cells #[.int .i64 0, .slice none 0 0, .int .i64 0, .int .i64 0, .int .i64 0, .int .i64 0, .int .i64 0, .int .i64 0, .int .i64 0, .int .i64 0, .int .i64 0, .int .i64 0, .int .i64 0, .int .i64 0, .int .i64 0, .int .i64 0, .int .i64 0, .int .i64 0, .int .i64 0] 33)).alloc (.cells #[.int .i64 0, .slice none 0 0, .int .i64 0, .int .i64 0, .int .i64 0, .int .i64 0, .int .i64 0, .int .i64 0, .int .i64 0, .int .i64 0, .int .i64 0, .int .i64 0, .int .i64 0, .int .i64 0, .int .i64 0, .int .i64 0, .int .i64 0, .int .i64 0, .int .i64 0] 33)) = W0 at R0 T0 G0 C0 ⊢
       refine wpList_store_mid rfl 33 _ _ rfl (w.heap.size + 1) _ #[.int .i64 kind, .slice none 0 0, .int .i64 0, .int .i64 0, .int .i64 0, .int .i64 0, .int .i64 0, .int .i64 0, .int .i64 0, .int .i64 0, .int .i64 0, .int .i64 0, .int .i64 0, .int .i64 0, .int .i64 0, .int .i64 0, .int .i64 0, .int .i64 0, .int .i64 0] rfl rfl (T0.out.thereL (by rw [tg_length]; rfl)) HTW.out (nil_all kind) ?_
       have R : Hid (Bo (W0.setCells (w.heap.size + 1) 0 [.int .i64 kind, .slice none 0 0, .int .i64 0, .int .i64 0, .int .i64 0, .int .i64 0, .int .i64 0, .int .i64 0, .int .i64 0, .int .i64 0, .int .i64 0, .int .i64 0, .int .i64 0, .int .i64 0, .int .i64 0, .int .i64 0, .int .i64 0, .int .i64 0, .int .i64 0]) w.heap.size (tg 0 (.slice none 0 0) Tb.zero 0)) := R0.out.asideL (by omega) _ _
       have T : Hid (Bo (W0.setCells (w.heap.size + 1) 0 [.int .i64 kind, .slice none 0 0, .int .i64 0, .int .i64 0, .int .i64 0, .int .i64 0, .int .i64 0, .int .i64 0, .int .i64 0, .int .i64 0, .int .i64 0, .int .i64 0, .int .i64 0, .int .i64 0, .int .i64 0, .int .i64 0, .int .i64 0, .int .i64 0, .int .i64 0]) (w.heap.size + 1) (tg kind (.slice none 0 0) Tb.zero 0)) := T0.out.setZ kind
       have G : Hid (Gd w.heap.size w (W0.setCells (w.heap.size + 1) 0 [.int .i64 kind, .slice none 0 0, .int .i64 0, .int .i64 0, .int .i64 0, .int .i64 0, .int .i64 0, .int .i64 0, .int .i64 0, .int .i64 0, .int .i64 0, .int .i64 0, .int .i64 0, .int .i64 0, .int .i64 0, .int .i64 0, .int .i64 0, .int .i64 0, .int .i64 0])) := G0.out.asideL (by omega) _ _
       have C : Hid (Wf (W0.setCells (w.heap.size + 1) 0 [.int .i64 kind, .slice none 0 0, .int .i64 0, .int .i64 0, .int .i64 0, .int .i64 0, .int .i64 0, .int .i64 0, .int .i64 0, .int .i64 0, .int .i64 0, .int .i64 0, .int .i64 0, .int .i64 0, .int .i64 0, .int .i64 0, .int .i64 0, .int .i64 0, .int .i64 0]) bc oc c) := C0.out.keep (heap_setCells (by omega) _ _ _)
       clear R0 T0 G0 C0
       generalize W0.setCells (w.heap.size + 1) 0 [.int .i64 kind, .slice none 0 0, .int .i64 0, .int .i64 0, .int .i64 0, .int .i64 0, .int .i64 0, .int .i64 0, .int .i64 0, .int .i64 0, .int .i64 0, .int .i64 0, .int .i64 0, .int .i64 0, .int .i64 0, .int .i64 0, .int .i64 0, .int .i64 0, .int .i64 0] = W at R T G C ⊢))
  generalize hsz : w.heap.size = n at R T G hbc ⊢
  have HSZ : Hid (w.heap.size = n) := hsz
  clear hsz
  go_wp2_with fail
  refine (rwithin_yes kind 1 6 _ hk.1 hk.2).mono ?_
  rintro e ux ⟨rfl, hw⟩
  rw [hw]; clear hw ux
  go_wp2_with fail
  go_loopg [19] 17 (fun gg s19 wt => wt = W ∧ ∃ i : Nat, i ≤ 17 ∧ 17 - i ≤ gg ∧ s19 = .int .i64 i ∧ Hid (∀ j, j < i → c j ≤ 4294967295))
  case atStart => exact ⟨rfl, 0, by omega, by omega, rfl, fun j hj => absurd hj (by omega)⟩
  case round =>
    obtain ⟨rfl, i, hi, hgg, rfl, U⟩ := hrel
    by_cases hlt : i < 17
    · have g0 := C.out.cell i hlt
      have hi1 : (i : Int) < 17 := by omega
      have hi0 : (0 : Int) ≤ (i : Int) := by omega
      by_cases hle : c i ≤ 4294967295
      · have U' : Hid (∀ j, j < i + 1 → c j ≤ 4294967295) := fun j hj => by
          by_cases e : j = i
          · subst e; exact hle
          · exact U.out j (by omega)
        have hd : ¬ 4294967295 < ((c i : Nat) : Int) := by omega
        clear U
        generalize c i = x at g0 hd hle
        clear hle
        go_wp2
        go_roundg (17 - (i + 1))
        case measure => omega
        case rel => exact ⟨rfl, i + 1, by omega, by omega, by go_num, U'⟩
      · exact absurd (HM.out i hlt) hle
    · obtain rfl : i = 17 := by omega
      clear U hlt
      have g0 : wr.cell? ⟨bc, oc, none⟩ = _ := C.out.cell 0 (by decide)
      have h6 := H6.out
      have LL0 : Hid _ := lst_length c
      have ez1 : IntKind.i64.wrap ((c 0 : Nat) : Int) = (c 0 : Nat) := by rw [IntKind.wrap_i64]; omega
      have ez2 : wrap64 ((c 0 : Nat) : Int) = (c 0 : Nat) := by unfold wrap64; omega
      have hd : decide ((6 : Int) < ((c 0 : Nat) : Int)) = false := by simp; omega
      have hdn : ¬ (6 : Int) < ((c 0 : Nat) : Int) := by omega
      have HC : Hid (∀ W, Wf W bc oc c → ∀ j, j < 17 → W.cell? ⟨bc, oc + j, none⟩ = some (.int .u64 (c j : Nat))) := fun W h => h.cell
      obtain ⟨z, hz⟩ : ∃ z, c 0 = z := ⟨_, rfl⟩
      have HZ0 : Hid (c 0 = z) := hz
      rw [hz] at g0 ez1 ez2 hd hdn LT LL LE LL0 h6
      clear hz
      obtain ⟨wq, rfl⟩ : ∃ wq, wq = wr := ⟨_, rfl⟩
      go_wp2_with fail
      clear g0 hd hdn
      go_loopg [37] z (fun gg s37 wt => ∃ i : Nat, i ≤ z ∧ z - i ≤ gg ∧ s37 = .int .i64 i ∧ ∃ v, Hid (Own (n + 2) wt v ((lst c).take i)) ∧ Hid (Bo wt (n + 1) (tg kind v Tb.zero 0)) ∧ Hid (Bo wt n (tg 0 (.slice none 0 0) Tb.zero 0)) ∧ Hid (Wf wt bc oc c) ∧ Hid (Gd n w wt))
      case atStart => exact ⟨0, by omega, by omega, rfl, (.slice none 0 0), ⟨rfl, Or.inl ⟨rfl, rfl⟩⟩, T, R, C, G⟩
      case round =>
        clear R T C G
        obtain ⟨i, hi, hgg, rfl, v, O, T, R, C, G⟩ := hrel
        by_cases hlt : i < z
        · have N1 : Hid _ := LT.out i hlt
          have L1 : Hid (((lst c).take i).length + 1 ≤ 1000000) := by have := LL.out i (by omega); show _ + 1 ≤ 1000000; omega
          have x1 := HM.out (i + 1) (by omega)
          have ex1 : IntKind.i64.wrap ((c (i + 1) : Nat) : Int) = (c (i + 1) : Nat) := by rw [IntKind.wrap_i64]; omega
          have ex2 : wrap64 ((c (i + 1) : Nat) : Int) = (c (i + 1) : Nat) := by unfold wrap64; omega
          have i1 : (i : Int) < (z : Int) := by omega
          have j1 : (i : Int) + 1 < 17 := by omega
          have j0 : (0 : Int) ≤ (i : Int) + 1 := by omega
          have j2 : IntKind.i64.wrap ((i : Int) + 1) = (i : Int) + 1 := by rw [IntKind.wrap_i64]; omega
          have j3 : ((i : Int) + 1).toNat = i + 1 := by omega
          generalize (lst c).take i = ys at O N1 L1
          go_wp2_with fail
          have h118q : Hid (Own (n + 2) wr.drew v ys) := O.out.drew
          have h119q : Hid (Bo wr.drew (n + 1) (tg kind v Tb.zero 0)) := T.out.drew
          have h120q : Hid (Bo wr.drew n (tg 0 (.slice none 0 0) Tb.zero 0)) := R.out.drew
          have h121q : Hid (Wf wr.drew bc oc c) := C.out.drew
          have h122q : Hid (Gd n w wr.drew) := G.out.drew
          clear O T R C G
          refine wp_region_held_drew (S := fun w' => Wf w' bc oc c) (by kernel_rfl) h121q.out (fun hH => ?_)
          generalize wr.drew = u123q at h118q h119q h120q h121q h122q hH ⊢
          refine wpAnyH_take (i := 0) (oi := { dst := some 40, op := .fieldAddr _ (.tmp 6) 1, type := _, pos := _, after := _, guard := _ }) (v := ?_) rfl (by kernel_rfl) (by kernel_rfl) (by kernel_rfl) (fun _ _ _ h => h) (Or.inl ⟨by rfl, ?_⟩) hH ?_
          rotate_left
          · intro w hSw
            clear hSw
            go_simp
            try with_reducible rfl
          simp only [Act.put, List.setIfInBounds_toArray, List.set_cons_zero, List.set_cons_succ]
          refine wpAnyH_take (i := 2) (oi := { dst := some 42, op := .move (.tmp 1), type := _, pos := _, after := _, guard := _ }) (v := ?_) rfl (by kernel_rfl) (by kernel_rfl) (by kernel_rfl) (fun _ _ _ h => h) (Or.inl ⟨by rfl, ?_⟩) hH ?_
          rotate_left
          · intro w hSw
            clear hSw
            go_simp
            try with_reducible rfl
          simp only [Act.put, List.setIfInBounds_toArray, List.set_cons_zero, List.set_cons_succ]
          refine wpAnyH_take (i := 3) (oi := { dst := some 43, op := .move (.tmp 10), type := _, pos := _, after := _, guard := _ }) (v := ?_) rfl (by kernel_rfl) (by kernel_rfl) (by kernel_rfl) (fun _ _ _ h => h) (Or.inl ⟨by rfl, ?_⟩) hH ?_
          rotate_left
          · intro w hSw
            clear hSw
            go_simp
            try with_reducible rfl
          simp only [Act.put, List.setIfInBounds_toArray, List.set_cons_zero, List.set_cons_succ]
          refine wpAnyH_take (i := 4) (oi := { dst := some 44, op := .binOp .add _ (.tmp 43) (.const (.int .i64 1)) _, type := _, pos := _, after := _, guard := _ }) (v := ?_) rfl (by kernel_rfl) (by kernel_rfl) (by kernel_rfl) (fun _ _ _ h => h) (Or.inl ⟨by rfl, ?_⟩) hH ?_
          rotate_left
          · intro w hSw
            clear hSw
            go_simp
            try with_reducible rfl
          simp only [Act.put, List.setIfInBounds_toArray, List.set_cons_zero, List.set_cons_succ]
          refine wpAnyH_take (i := 5) (oi := { dst := some 45, op := .indexAddr _ (.tmp 42) (.tmp 44), type := _, pos := _, after := _, guard := _ }) (v := ?_) rfl (by kernel_rfl) (by kernel_rfl) (by kernel_rfl) (fun _ _ _ h => h) (Or.inl ⟨by rfl, ?_⟩) hH ?_
          rotate_left
          · intro w hSw
            clear hSw
            go_simp
            try with_reducible rfl
          simp only [Act.put, List.setIfInBounds_toArray, List.set_cons_zero, List.set_cons_succ]
          refine wpAnyH_take (i := 6) (oi := { dst := some 46, op := .load _ (.tmp 45), type := _, pos := _, after := _, guard := _ }) (v := ?_) rfl (by kernel_rfl) (by kernel_rfl) (by kernel_rfl) (fun _ _ _ h => h) (Or.inl ⟨by rfl, ?_⟩) hH ?_
          rotate_left
          · intro w hSw
            have c124q := (hSw).cell (i + 1) (by omega)
            clear hSw
            go_simp
            try with_reducible rfl
          simp only [Act.put, List.setIfInBounds_toArray, List.set_cons_zero, List.set_cons_succ]
          refine wpAnyH_take (i := 7) (oi := { dst := some 47, op := .convert _ _ (.tmp 46), type := _, pos := _, after := _, guard := _ }) (v := ?_) rfl (by kernel_rfl) (by kernel_rfl) (by kernel_rfl) (fun _ _ _ h => h) (Or.inl ⟨by rfl, ?_⟩) hH ?_
          rotate_left
          · intro w hSw
            clear hSw
            go_simp
            try with_reducible rfl
          simp only [Act.put, List.setIfInBounds_toArray, List.set_cons_zero, List.set_cons_succ]
          refine wpAnyH_ready (rs := [1, 8]) (by kernel_rfl) (by simp) ?_
          refine AllReadyH.cons (o := { dst := some 41, op := .load _ (.tmp 40), type := _, pos := _, after := _, guard := _ }) rfl (fun K hK => ?_) ?_
          · have c125q := h119q.out.tcell.2.1
            go_simp
            clear c125q
            refine hK.out _ _ h121q.out (fun hH => ?_)
            clear hK K
            try simp only [Act.put, List.setIfInBounds_toArray, List.set_cons_zero, List.set_cons_succ]
            refine wpAnyH_ready (rs := [8]) (by kernel_rfl) (by simp) ?_
            refine AllReadyH.cons (o := { dst := some 48, op := .buildSlice _ 1 #[(0, .tmp 47)], type := _, pos := _, after := _, guard := _ }) rfl (fun K hK => ?_) AllReadyH.nil
            have l126q : (n + 1) < u123q.heap.size := h119q.out.lt
            have l127q : n < u123q.heap.size := h120q.out.lt
            have l128q : bc < u123q.heap.size := h121q.out.lt
            have l129q : n ≤ u123q.heap.size := h122q.out.le
            go_simp
            have h130q : Hid (Own (n + 2) (u123q.alloc (.cells #[.int .i64 (c (i + 1) : Nat)] 3)) v ys) := h118q.out.new (.cells #[.int .i64 (c (i + 1) : Nat)] 3)
            have h131q : Hid (Bo (u123q.alloc (.cells #[.int .i64 (c (i + 1) : Nat)] 3)) (n + 1) (tg kind v Tb.zero 0)) := h119q.out.new (.cells #[.int .i64 (c (i + 1) : Nat)] 3)
            have h132q : Hid (Bo (u123q.alloc (.cells #[.int .i64 (c (i + 1) : Nat)] 3)) n (tg 0 (.slice none 0 0) Tb.zero 0)) := h120q.out.new (.cells #[.int .i64 (c (i + 1) : Nat)] 3)
            have h133q : Hid (Wf (u123q.alloc (.cells #[.int .i64 (c (i + 1) : Nat)] 3)) bc oc c) := h121q.out.new (.cells #[.int .i64 (c (i + 1) : Nat)] 3)
            have h134q : Hid (Gd n w (u123q.alloc (.cells #[.int .i64 (c (i + 1) : Nat)] 3))) := h122q.out.new (.cells #[.int .i64 (c (i + 1) : Nat)] 3)
            clear h118q h119q h120q h121q h122q
            have h135q : Hid (IsL 0 (u123q.alloc (.cells #[.int .i64 (c (i + 1) : Nat)] 3)) (.slice (some ⟨u123q.heap.size, 0, none⟩) 1 1) [((c (i + 1) : Nat) : Int)]) := IsL.lit u123q [((c (i + 1) : Nat) : Int)] Nat.zero_lt_one
            refine hK.out _ _ h133q.out (fun hH => ?_)
            clear hK K
            generalize (u123q.alloc (.cells #[.int .i64 (c (i + 1) : Nat)] 3)) = u136q at h130q h131q h132q h133q h134q h135q hH ⊢
            try simp only [Act.put, List.setIfInBounds_toArray, List.set_cons_zero, List.set_cons_succ]
            refine wpAnyH_ready (rs := [9]) (by kernel_rfl) (by simp) ?_
            refine AllReadyH.cons (o := { dst := some 49, op := _, type := _, pos := _, after := _, guard := _ }) rfl (fun K hK => ?_) AllReadyH.nil
            have l137q : (n + 1) < u136q.heap.size := h131q.out.lt
            have l138q : n < u136q.heap.size := h132q.out.lt
            have l139q : bc < u136q.heap.size := h133q.out.lt
            have l140q : n ≤ u136q.heap.size := h134q.out.le
            refine step_onto rfl (.tmp 41) (.tmp 48) rfl rfl rfl (show n + 2 ≤ u136q.heap.size by omega) h130q.out h135q.out L1.out ?_
            intro v3 w3 hO3 hb3
            obtain ⟨a3, k3, rfl⟩ := hO3.form
            generalize hl3 : (ys ++ [((c (i + 1) : Nat) : Int)]).length = l3
            rw [hl3] at hO3; clear hl3
            have h141q : Hid (Bo w3 (n + 1) (tg kind v Tb.zero 0)) := h131q.out.laterB (by omega) hb3
            clear h131q
            have h142q : Hid (Bo w3 n (tg 0 (.slice none 0 0) Tb.zero 0)) := h132q.out.laterB (by omega) hb3
            clear h132q
            have h143q : Hid (Wf w3 bc oc c) := h133q.out.laterB (by omega) hb3
            clear h133q
            have h144q : Hid (Gd n w w3) := h134q.out.laterB (by omega) hb3
            clear h134q
            have h145q : Hid (Own (n + 2) w3 (.slice a3 l3 k3) (ys ++ [((c (i + 1) : Nat) : Int)])) := hO3
            clear h130q h135q hO3 hb3
            refine hK.out _ _ h143q.out (fun hH => ?_)
            clear hK K
            try simp only [Act.put, List.setIfInBounds_toArray, List.set_cons_zero, List.set_cons_succ]
            refine wpAnyH_take (i := 10) (oi := { dst := some 50, op := .fieldAddr _ (.tmp 6) 1, type := _, pos := _, after := _, guard := _ }) (v := ?_) rfl (by kernel_rfl) (by kernel_rfl) (by kernel_rfl) (fun _ _ _ h => h) (Or.inl ⟨by rfl, ?_⟩) hH ?_
            rotate_left
            · intro w hSw
              clear hSw
              go_simp
              try with_reducible rfl
            simp only [Act.put, List.setIfInBounds_toArray, List.set_cons_zero, List.set_cons_succ]
            refine wpAnyH_ready (rs := [11]) (by kernel_rfl) (by simp) ?_
            refine AllReadyH.cons (o := { dst := none, op := .store _ (.tmp 50) (.tmp 49), type := _, pos := _, after := _, guard := _ }) rfl (fun K hK => ?_) AllReadyH.nil
            have l146q : (n + 1) < w3.heap.size := h141q.out.lt
            have l147q : n < w3.heap.size := h142q.out.lt
            have l148q : bc < w3.heap.size := h143q.out.lt
            have l149q : n ≤ w3.heap.size := h144q.out.le
            have c150q := h141q.out.tcell.2.1
            have c151q := h141q.out.froz 1
            go_simp
            clear c150q c151q
            have h152q : Hid (Own (n + 2) (w3.setCell ⟨n + 1, 1, none⟩ (.slice a3 l3 k3)) (.slice a3 l3 k3) (ys ++ [((c (i + 1) : Nat) : Int)])) := h145q.out.aside (by simp; try omega) _
            have h153q : Hid (Bo (w3.setCell ⟨n + 1, 1, none⟩ (.slice a3 l3 k3)) (n + 1) (tg kind (.slice a3 l3 k3) Tb.zero 0)) := h141q.out.set1 (j := 1) (x := (.slice a3 l3 k3)) (by rw [tg_length]; decide) (tg_list _ _ (.slice a3 l3 k3) _ _)
            have h154q : Hid (Bo (w3.setCell ⟨n + 1, 1, none⟩ (.slice a3 l3 k3)) n (tg 0 (.slice none 0 0) Tb.zero 0)) := h142q.out.aside (by simp; try omega) _
            have h155q : Hid (Wf (w3.setCell ⟨n + 1, 1, none⟩ (.slice a3 l3 k3)) bc oc c) := h143q.out.aside (by simp; try omega) _
            have h156q : Hid (Gd n w (w3.setCell ⟨n + 1, 1, none⟩ (.slice a3 l3 k3))) := h144q.out.aside (by simp; try omega) _
            clear h145q h141q h142q h143q h144q
            refine hK.out _ _ h155q.out (fun hH => ?_)
            clear hK K
            generalize (w3.setCell ⟨n + 1, 1, none⟩ (.slice a3 l3 k3)) = u157q at h152q h153q h154q h155q h156q hH ⊢
            try simp only [Act.put, List.setIfInBounds_toArray, List.set_cons_zero, List.set_cons_succ]
            refine wpAnyH_done (by kernel_rfl) ?_ _
            go_wp2
            go_roundg (z - (i + 1))
            case measure => omega
            case rel => exact ⟨i + 1, by omega, by omega, by go_num, (.slice a3 l3 k3), by rw [← N1.out]; exact h152q.out, h153q, h154q, h155q, h156q⟩
          refine AllReadyH.cons (o := { dst := some 48, op := .buildSlice _ 1 #[(0, .tmp 47)], type := _, pos := _, after := _, guard := _ }) rfl (fun K hK => ?_) AllReadyH.nil
          have l158q : (n + 1) < u123q.heap.size := h119q.out.lt
          have l159q : n < u123q.heap.size := h120q.out.lt
          have l160q : bc < u123q.heap.size := h121q.out.lt
          have l161q : n ≤ u123q.heap.size := h122q.out.le
          go_simp
          have h162q : Hid (Own (n + 2) (u123q.alloc (.cells #[.int .i64 (c (i + 1) : Nat)] 3)) v ys) := h118q.out.new (.cells #[.int .i64 (c (i + 1) : Nat)] 3)
          have h163q : Hid (Bo (u123q.alloc (.cells #[.int .i64 (c (i + 1) : Nat)] 3)) (n + 1) (tg kind v Tb.zero 0)) := h119q.out.new (.cells #[.int .i64 (c (i + 1) : Nat)] 3)
          have h164q : Hid (Bo (u123q.alloc (.cells #[.int .i64 (c (i + 1) : Nat)] 3)) n (tg 0 (.slice none 0 0) Tb.zero 0)) := h120q.out.new (.cells #[.int .i64 (c (i + 1) : Nat)] 3)
          have h165q : Hid (Wf (u123q.alloc (.cells #[.int .i64 (c (i + 1) : Nat)] 3)) bc oc c) := h121q.out.new (.cells #[.int .i64 (c (i + 1) : Nat)] 3)
          have h166q : Hid (Gd n w (u123q.alloc (.cells #[.int .i64 (c (i + 1) : Nat)] 3))) := h122q.out.new (.cells #[.int .i64 (c (i + 1) : Nat)] 3)
          clear h118q h119q h120q h121q h122q
          have h167q : Hid (IsL 0 (u123q.alloc (.cells #[.int .i64 (c (i + 1) : Nat)] 3)) (.slice (some ⟨u123q.heap.size, 0, none⟩) 1 1) [((c (i + 1) : Nat) : Int)]) := IsL.lit u123q [((c (i + 1) : Nat) : Int)] Nat.zero_lt_one
          refine hK.out _ _ h165q.out (fun hH => ?_)
          clear hK K
          generalize (u123q.alloc (.cells #[.int .i64 (c (i + 1) : Nat)] 3)) = u168q at h162q h163q h164q h165q h166q h167q hH ⊢
          try simp only [Act.put, List.setIfInBounds_toArray, List.set_cons_zero, List.set_cons_succ]
          refine wpAnyH_ready (rs := [1]) (by kernel_rfl) (by simp) ?_
          refine AllReadyH.cons (o := { dst := some 41, op := .load _ (.tmp 40), type := _, pos := _, after := _, guard := _ }) rfl (fun K hK => ?_) AllReadyH.nil
          have c169q := h163q.out.tcell.2.1
          go_simp
          clear c169q
          refine hK.out _ _ h165q.out (fun hH => ?_)
          clear hK K
          try simp only [Act.put, List.setIfInBounds_toArray, List.set_cons_zero, List.set_cons_succ]
          refine wpAnyH_ready (rs := [9]) (by kernel_rfl) (by simp) ?_
          refine AllReadyH.cons (o := { dst := some 49, op := _, type := _, pos := _, after := _, guard := _ }) rfl (fun K hK => ?_) AllReadyH.nil
          have l170q : (n + 1) < u168q.heap.size := h163q.out.lt
          have l171q : n < u168q.heap.size := h164q.out.lt
          have l172q : bc < u168q.heap.size := h165q.out.lt
          have l173q : n ≤ u168q.heap.size := h166q.out.le
          refine step_onto rfl (.tmp 41) (.tmp 48) rfl rfl rfl (show n + 2 ≤ u168q.heap.size by omega) h162q.out h167q.out L1.out ?_
          intro v3 w3 hO3 hb3
          obtain ⟨a3, k3, rfl⟩ := hO3.form
          generalize hl3 : (ys ++ [((c (i + 1) : Nat) : Int)]).length = l3
          rw [hl3] at hO3; clear hl3
          have h174q : Hid (Bo w3 (n + 1) (tg kind v Tb.zero 0)) := h163q.out.laterB (by omega) hb3
          clear h163q
          have h175q : Hid (Bo w3 n (tg 0 (.slice none 0 0) Tb.zero 0)) := h164q.out.laterB (by omega) hb3
          clear h164q
          have h176q : Hid (Wf w3 bc oc c) := h165q.out.laterB (by omega) hb3
          clear h165q
          have h177q : Hid (Gd n w w3) := h166q.out.laterB (by omega) hb3
          clear h166q
          have h178q : Hid (Own (n + 2) w3 (.slice a3 l3 k3) (ys ++ [((c (i + 1) : Nat) : Int)])) := hO3
          clear h162q h167q hO3 hb3
          refine hK.out _ _ h176q.out (fun hH => ?_)
          clear hK K
          try simp only [Act.put, List.setIfInBounds_toArray, List.set_cons_zero, List.set_cons_succ]
          refine wpAnyH_take (i := 10) (oi := { dst := some 50, op := .fieldAddr _ (.tmp 6) 1, type := _, pos := _, after := _, guard := _ }) (v := ?_) rfl (by kernel_rfl) (by kernel_rfl) (by kernel_rfl) (fun _ _ _ h => h) (Or.inl ⟨by rfl, ?_⟩) hH ?_
          rotate_left
          · intro w hSw
            clear hSw
            go_simp
            try with_reducible rfl
          simp only [Act.put, List.setIfInBounds_toArray, List.set_cons_zero, List.set_cons_succ]
          refine wpAnyH_ready (rs := [11]) (by kernel_rfl) (by simp) ?_
          refine AllReadyH.cons (o := { dst := none, op := .store _ (.tmp 50) (.tmp 49), type := _, pos := _, after := _, guard := _ }) rfl (fun K hK => ?_) AllReadyH.nil
          have l179q : (n + 1) < w3.heap.size := h174q.out.lt
          have l180q : n < w3.heap.size := h175q.out.lt
          have l181q : bc < w3.heap.size := h176q.out.lt
          have l182q : n ≤ w3.heap.size := h177q.out.le
          have c183q := h174q.out.tcell.2.1
          have c184q := h174q.out.froz 1
          go_simp
          clear c183q c184q
          have h185q : Hid (Own (n + 2) (w3.setCell ⟨n + 1, 1, none⟩ (.slice a3 l3 k3)) (.slice a3 l3 k3) (ys ++ [((c (i + 1) : Nat) : Int)])) := h178q.out.aside (by simp; try omega) _
          have h186q : Hid (Bo (w3.setCell ⟨n + 1, 1, none⟩ (.slice a3 l3 k3)) (n + 1) (tg kind (.slice a3 l3 k3) Tb.zero 0)) := h174q.out.set1 (j := 1) (x := (.slice a3 l3 k3)) (by rw [tg_length]; decide) (tg_list _ _ (.slice a3 l3 k3) _ _)
          have h187q : Hid (Bo (w3.setCell ⟨n + 1, 1, none⟩ (.slice a3 l3 k3)) n (tg 0 (.slice none 0 0) Tb.zero 0)) := h175q.out.aside (by simp; try omega) _
          have h188q : Hid (Wf (w3.setCell ⟨n + 1, 1, none⟩ (.slice a3 l3 k3)) bc oc c) := h176q.out.aside (by simp; try omega) _
          have h189q : Hid (Gd n w (w3.setCell ⟨n + 1, 1, none⟩ (.slice a3 l3 k3))) := h177q.out.aside (by simp; try omega) _
          clear h178q h174q h175q h176q h177q
          refine hK.out _ _ h188q.out (fun hH => ?_)
          clear hK K
          generalize (w3.setCell ⟨n + 1, 1, none⟩ (.slice a3 l3 k3)) = u190q at h185q h186q h187q h188q h189q hH ⊢
          try simp only [Act.put, List.setIfInBounds_toArray, List.set_cons_zero, List.set_cons_succ]
          refine wpAnyH_done (by kernel_rfl) ?_ _
          go_wp2
          go_roundg (z - (i + 1))
          case measure => omega
          case rel => exact ⟨i + 1, by omega, by omega, by go_num, (.slice a3 l3 k3), by rw [← N1.out]; exact h185q.out, h186q, h187q, h188q, h189q⟩
        · have ei : i = z := by omega
          rw [ei, LE.out] at O
          clear hlt
          have I : Hid (IsL (n + 2) wr v (lst c)) := O.out.isL
          have t1 := T.out.tcell.2.1
          have h4 := H4.out
          clear H4
          subst h4
          go_wp2_with fail
          refine (RRight_yes I.out (by rw [LL0.out]; omega) HP.out).mono ?_
          rintro e W2 ⟨rfl, hb⟩
          have T2 : Hid (Bo W2 (n + 1) (tg 4 v Tb.zero 0)) := T.out.later hb
          have R2 : Hid (Bo W2 n (tg 0 (.slice none 0 0) Tb.zero 0)) := R.out.later hb
          have C2 : Hid (Wf W2 bc oc c) := C.out.later hb
          have G2 : Hid (Gd n w W2) := G.out.later hb
          have I2 : Hid (IsL (n + 2) W2 v (lst c)) := I.out.later hb
          clear hb T R C G t1 O I
          have HVO : Hid (v.oneCell' = true) := by obtain ⟨a, k, hv⟩ := I2.out.form; rw [hv]; rfl
          have CC : Hid (∀ W, IsL (n + 2) W v (lst c) → _) := fun W h => Cells_list (k := 4) (v := v) (l := lst c) (by decide) (by decide) Tb.zero 0 (w := W) h (by rw [LL0.out]; exact h6) LX.out
          go_wp2_with fail
          have h191q : Hid (Bo W2.drew n (tg 0 (.slice none 0 0) Tb.zero 0)) := R2.out.drew
          have h192q : Hid (Bo W2.drew (n + 1) (tg 4 v Tb.zero 0)) := T2.out.drew
          have h193q : Hid (Wf W2.drew bc oc c) := C2.out.drew
          have h194q : Hid (Gd n w W2.drew) := G2.out.drew
          have h195q : Hid (IsL (n + 2) W2.drew v (lst c)) := I2.out.drew
          clear R2 T2 C2 G2 I2
          refine wp_region_held_drew (S := fun w' => Bo w' (n + 1) (tg 4 v Tb.zero 0)) (by kernel_rfl) h192q.out (fun hH => ?_)
          generalize W2.drew = u196q at h191q h192q h193q h194q h195q hH ⊢
          refine wpAnyH_take (i := 0) (oi := { dst := some 96, op := .load _ (.tmp 6), type := _, pos := _, after := _, guard := _ }) (v := _) rfl (by kernel_rfl) (by kernel_rfl) (by kernel_rfl) (fun _ _ _ h => h) (yieldsIf_load_mid (by rfl) _ _ rfl (n + 1) _ rfl (tg 4 v Tb.zero 0) _ (fun _ h => (h).range) HTD.out rfl (HTS.out _ _ _ _)) hH ?_
          simp only [Act.put, List.setIfInBounds_toArray, List.set_cons_zero, List.set_cons_succ]
          refine wpAnyH_take (i := 1) (oi := { dst := some 97, op := .load _ (.tmp 6), type := _, pos := _, after := _, guard := _ }) (v := _) rfl (by kernel_rfl) (by kernel_rfl) (by kernel_rfl) (fun _ _ _ h => h) (yieldsIf_load_mid (by rfl) _ _ rfl (n + 1) _ rfl (tg 4 v Tb.zero 0) _ (fun _ h => (h).range) HTD.out rfl (HTS.out _ _ _ _)) hH ?_
          simp only [Act.put, List.setIfInBounds_toArray, List.set_cons_zero, List.set_cons_succ]
          refine wpAnyH_take (i := 3) (oi := { dst := some 99, op := .move (.tmp 1), type := _, pos := _, after := _, guard := _ }) (v := ?_) rfl (by kernel_rfl) (by kernel_rfl) (by kernel_rfl) (fun _ _ _ h => h) (Or.inl ⟨by rfl, ?_⟩) hH ?_
          rotate_left
          · intro w hSw
            clear hSw
            go_simp
            try with_reducible rfl
          simp only [Act.put, List.setIfInBounds_toArray, List.set_cons_zero, List.set_cons_succ]
          refine wpAnyH_ready (rs := [2]) (by kernel_rfl) (by simp) ?_
          refine AllReadyH.cons (o := { dst := some 98, op := _, type := _, pos := _, after := _, guard := _ }) rfl (fun K hK => ?_) AllReadyH.nil
          go_simp
          refine (CC.out _ h195q.out).mono ?_
          rintro e u197q ⟨⟨bq, rfl, hq, hW⟩, hb⟩
          have h198q : Hid (Bo u197q n (tg 0 (.slice none 0 0) Tb.zero 0)) := h191q.out.later hb
          have h199q : Hid (Bo u197q (n + 1) (tg 4 v Tb.zero 0)) := h192q.out.later hb
          have h200q : Hid (Wf u197q bc oc c) := h193q.out.later hb
          have h201q : Hid (Gd n w u197q) := h194q.out.later hb
          have h202q : Hid (IsL (n + 2) u197q v (lst c)) := h195q.out.later hb
          clear h191q h192q h193q h194q h195q
          have h203q : Hid (Bo u197q bq (wl (lw (lst c)))) := hW
          clear hb
          go_wp2_with fail
          refine hK.out _ _ h199q.out (fun hH => ?_)
          clear hK K
          try simp only [Act.put, List.setIfInBounds_toArray, List.set_cons_zero, List.set_cons_succ]
          refine wpAnyH_ready (rs := [4]) (by kernel_rfl) (by simp) ?_
          refine AllReadyH.cons (o := { dst := some 100, op := _, type := _, pos := _, after := _, guard := _ }) rfl (fun K hK => ?_) AllReadyH.nil
          go_simp
          refine (same_wf h203q.out h200q.out _ HV.out).mono ?_
          rintro e u204q ⟨rfl, hb⟩
          have h205q : Hid (Bo u204q n (tg 0 (.slice none 0 0) Tb.zero 0)) := h198q.out.later hb
          have h206q : Hid (Bo u204q (n + 1) (tg 4 v Tb.zero 0)) := h199q.out.later hb
          have h207q : Hid (Wf u204q bc oc c) := h200q.out.later hb
          have h208q : Hid (Gd n w u204q) := h201q.out.later hb
          have h209q : Hid (IsL (n + 2) u204q v (lst c)) := h202q.out.later hb
          have h210q : Hid (Bo u204q bq (wl (lw (lst c)))) := h203q.out.later hb
          clear h198q h199q h200q h201q h202q h203q
          clear h210q
          clear hb
          go_wp2_with fail
          refine hK.out _ _ h206q.out (fun hH => ?_)
          clear hK K
          try simp only [Act.put, List.setIfInBounds_toArray, List.set_cons_zero, List.set_cons_succ]
          refine wpAnyH_ready (rs := [5]) (by kernel_rfl) (by simp) ?_
          refine AllReadyH.cons (o := { dst := none, op := .store _ (.tmp 4) (.tmp 96), type := _, pos := _, after := _, guard := _ }) rfl (fun K hK => ?_) AllReadyH.nil
          rw [if_pos (by rfl)]
          refine wp_store_mid _ _ _ rfl n _ (tg 4 v Tb.zero 0).toArray rfl rfl (h205q.out.thereT 4 v Tb.zero 0) (HTZ.out _ _ _ _) (tg_all _ HVO.out _ _) ?_
          simp only [Act.put]
          have h211q : Hid (Bo (u204q.setCells n 0 (tg 4 v Tb.zero 0)) n (tg 4 v Tb.zero 0)) := h205q.out.setT 4 v Tb.zero 0
          have h212q : Hid (Bo (u204q.setCells n 0 (tg 4 v Tb.zero 0)) (n + 1) (tg 4 v Tb.zero 0)) := h206q.out.asideL (by omega) 0 (tg 4 v Tb.zero 0)
          have h213q : Hid (Wf (u204q.setCells n 0 (tg 4 v Tb.zero 0)) bc oc c) := h207q.out.asideL (by omega) 0 (tg 4 v Tb.zero 0)
          have h214q : Hid (Gd n w (u204q.setCells n 0 (tg 4 v Tb.zero 0))) := h208q.out.asideL (by omega) 0 (tg 4 v Tb.zero 0)
          have h215q : Hid (IsL (n + 2) (u204q.setCells n 0 (tg 4 v Tb.zero 0)) v (lst c)) := h209q.out.asideL (by omega) 0 (tg 4 v Tb.zero 0)
          clear h205q h206q h207q h208q h209q
          refine hK.out _ _ h212q.out (fun hH => ?_)
          clear hK K
          generalize (u204q.setCells n 0 (tg 4 v Tb.zero 0)) = u216q at h211q h212q h213q h214q h215q hH ⊢
          try simp only [Act.put, List.setIfInBounds_toArray, List.set_cons_zero, List.set_cons_succ]
          refine wpAnyH_take (i := 6) (oi := { dst := some 5, op := .assign (.tmp 100), type := _, pos := _, after := _, guard := _ }) (v := ?_) rfl (by kernel_rfl) (by kernel_rfl) (by kernel_rfl) (fun _ _ _ h => h) (Or.inl ⟨by rfl, ?_⟩) hH ?_
          rotate_left
          · intro w hSw
            clear hSw
            go_simp
            try with_reducible rfl
          simp only [Act.put, List.setIfInBounds_toArray, List.set_cons_zero, List.set_cons_succ]
          refine wpAnyH_done (by kernel_rfl) ?_ _
          go_wp2
          exact bodyPost_ret (results_rowS Tryd.results5 _ _ n (tg 4 v Tb.zero 0) _ _ rfl rfl h211q.out.range HTD.out rfl (HTS.out _ _ _ _)) rfl ⟨v, rfl, h215q.out.mono (by have := HSZ.out; omega), h214q.out.2⟩
end Go.Proofs.YtbmgjpdfmgcigabDoor.Tab
