/- The reference's ThingOf: a table. -/
import Derived.Test.YtbmgjpdfmgcigabDoorThD
namespace Go.Proofs.YtbmgjpdfmgcigabDoor.Tab
set_option maxRecDepth 20000
open Go.RowKit
set_option linter.unusedVariables false

set_option maxHeartbeats 8000000 in
theorem ThingOf_5 {bc oc kc : Nat} {c : Nat → Nat} {w : World} {b : Bool} (hc : Wf w bc oc c) (hm : ∀ j, j < 17 → c j ≤ 4294967295) (hr : RT (tbl c)) (hv : b = true ↔ ∀ j, j < 17 → tw (tbl c) j = c j) {kind : Int} (h5 : kind = 5) :
    Calls Tryd.prog 5 #[.int .i64 kind, .slice (some ⟨bc, oc, none⟩) 17 kc] w fun e w' => e = .returned (.tuple #[.agg (tg 5 (.slice none 0 0) (tbl c) 0).toArray, .bool b]) ∧ Below w.heap.size w w' := by
  have hk : 1 ≤ kind ∧ kind ≤ 6 := by omega
  have H5 : Hid _ := h5
  clear h5
  have HV : Hid _ := hv
  clear hv
  have HM : Hid _ := hm
  have HR : Hid _ := hr
  have HRT : Hid (∀ w, _) := RTRight_is (tbl c) true ⟨fun _ => hr, fun _ => rfl⟩
  obtain ⟨na, ea, hd⟩ := rslots_array
  have HD : Hid _ := hd
  clear hd
  have HS : Hid (∀ t : Tb, (Tryd.prog.info? 31).map (·.size) = some t.all.length) := rslots_size
  have CC : Hid (∀ (v : Value) (x : Int) w, _) := fun v x w => Cells_5 v (tbl c) x (fun i hi => by have := hm (2 * i) (by omega); simp only [tbl]; omega) (fun i hi => by have := hm (2 * i + 1) (by omega); simp only [tbl]; omega) w
  have NX : Hid (∀ i, _) := fun i => tbq_next c i
  have NZ : Hid _ := tbq_zero c
  have NT : Hid (∀ k v x, _) := fun k v x => tbq_tg c k v x
  clear hm hr
  obtain ⟨fs, hd⟩ := thing_struct
  have HTD : Hid _ := hd
  clear hd
  have HTS : Hid _ := thing_size
  have HTZ : Hid _ := thing_size2
  have HTW : Hid _ := thing_size3
  have R0 : Hid (Bo ((w.alloc (.cells #[.int .i64 0, .slice none 0 0, .int .i64 0, .int .i64 0, .int .i64 0, .int .i64 0, .int .i64 0, .int .i64 0, .int .i64 0, .int .i64 0, .int .i64 0, .int .i64 0, .int .i64 0, .int .i64 0, .int .i64 0, .int .i64 0, .int .i64 0, .int .i64 0, .int .i64 0] 33)).alloc (.cells #[.int .i64 0, .slice none 0 0, .int .i64 0, .int .i64 0, .int .i64 0, .int .i64 0, .int .i64 0, .int .i64 0, .int .i64 0, .int .i64 0, .int .i64 0, .int .i64 0, .int .i64 0, .int .i64 0, .int .i64 0, .int .i64 0, .int .i64 0, .int .i64 0, .int .i64 0] 33)) w.heap.size (tg 0 (.slice none 0 0) Tb.zero 0)) := (Bo.bornTh w 0 _ rfl).new _
  have T0 : Hid (Bo ((w.alloc (.cells #[.int .i64 0, .slice none 0 0, .int .i64 0, .int .i64 0, .int .i64 0, .int .i64 0, .int .i64 0, .int .i64 0, .int .i64 0, .int .i64 0, .int .i64 0, .int .i64 0, .int .i64 0, .int .i64 0, .int .i64 0, .int .i64 0, .int .i64 0, .int .i64 0, .int .i64 0] 33)).alloc (.cells #[.int .i64 0, .slice none 0 0, .int .i64 0, .int .i64 0, .int .i64 0, .int .i64 0, .int .i64 0, .int .i64 0, .int .i64 0, .int .i64 0, .int .i64 0, .int .i64 0, .int .i64 0, .int .i64 0, .int .i64 0, .int .i64 0, .int .i64 0, .int .i64 0, .int .i64 0] 33)) (w.heap.size + 1) (tg 0 (.slice none 0 0) Tb.zero 0)) := Bo.bornTh _ 0 _ (by simp)
  have G0 : Hid (Gd w.heap.size w ((w.alloc (.cells #[.int .i64 0, .slice none 0 0, .int .i64 0, .int .i64 0, .int .i64 0, .int .i64 0, .int .i64 0, .int .i64 0, .int .i64 0, .int .i64 0, .int .i64 0, .int .i64 0, .int .i64 0, .int .i64 0, .int .i64 0, .int .i64 0, .int .i64 0, .int .i64 0, .int .i64 0] 33)).alloc (.cells #[.int .i64 0, .slice none 0 0, .int .i64 0, .int .i64 0, .int .i64 0, .int .i64 0, .int .i64 0, .int .i64 0, .int .i64 0, .int .i64 0, .int .i64 0, .int .i64 0, .int .i64 0, .int .i64 0, .int .i64 0, .int .i64 0, .int .i64 0, .int .i64 0, .int .i64 0] 33))) := ((Gd.refl w).new _).new _
  have hbc := hc.lt
  have C0 : Hid (Wf ((w.alloc (.cells #[.int .i64 0, .slice none 0 0, .int .i64 0, .int .i64 0, .int .i64 0, .int .i64 0, .int .i64 0, .int .i64 0, .int .i64 0, .int .i64 0, .int .i64 0, .int .i64 0, .int .i64 0, .int .i64 0, .int .i64 0, .int .i64 0, .int .i64 0, .int .i64 0, .int .i64 0] 33)).alloc (.cells #[.int .i64 0, .slice none 0 0, .int .i64 0, .int .i64 0, .int .i64 0, .int .i64 0, .int .i64 0, .int .i64 0, .int .i64 0, .int .i64 0, .int .i64 0, .int .i64 0, .int .i64 0, .int .i64 0, .int .i64 0, .int .i64 0, .int .i64 0, .int .i64 0, .int .i64 0] 33)) bc oc c) := (hc.later (new_below _ _)).later (new_below _ _)
  clear hc
  go_enter Tryd.func5, Tryd.ntmps5
  go_wp2_with (first
    | (generalize ((w.alloc (.cells #[.int .i64 0, .slice none 0 0, .int .i64 0, .int .i64 0, .int .i64 0, .int .i64 0, .int .i64 0, .int .i64 0, .int .i64 0, .int .i64 0, .int .i64 0, .int .i64 0, .int .i64 0, .int .i64 0, .int .i64 0, .int .i64 0, .int .i64 0, .int .i64 0, .int .i64 0] 33)).alloc (.cells #[.int .i64 0, .slice none 0 0, .int .i64 0, .int .i64 0, .int .i64 0, .int .i64 0, .int .i64 0, .int .i64 0, .int .i64 0, .int .i64 0, .int .i64 0, .int .i64 0, .int .i64 0, .int .i64 0, .int .i64 0, .int .i64 0, .int .i64 0, .int .i64 0, .int .i64 0] 33)) = W0 at R0 T0 G0 C0 ⊢
       refine wpList_store_mid rfl 33 _ _ rfl (w.heap.size + 1) _ #[.int .i64 kind, .slice none 0 0, .int .i64 0, .int .i64 0, .int .i64 0, .int .i64 0, .int .i64 0, .int .i64 0, .int .i64 0, .int .i64 0, .int .i64 0, .int .i64 0, .int .i64 0, .int .i64 0, .int .i64 0, .int .i64 0, .int .i64 0, .int .i64 0, .int .i64 0] rfl rfl (T0.out.thereL (by rw [tg_length]; rfl)) HTW.out (nil_all kind) ?_
       have R : Hid (Bo (W0.setCells (w.heap.size + 1) 0 [.int .i64 kind, .slice none 0 0, .int .i64 0, .int .i64 0, .int .i64 0, .int .i64 0, .int .i64 0, .int .i64 0, .int .i64 0, .int .i64 0, .int .i64 0, .int .i64 0, .int .i64 0, .int .i64 0, .int .i64 0, .int .i64 0, .int .i64 0, .int .i64 0, .int .i64 0]) w.heap.size (tg 0 (.slice none 0 0) Tb.zero 0)) := R0.out.asideL (by omega) _ _
       have T : Hid (Bo (W0.setCells (w.heap.size + 1) 0 [.int .i64 kind, .slice none 0 0, .int .i64 0, .int .i64 0, .int .i64 0, .int .i64 0, .int .i64 0, .int .i64 0, .int .i64 0, .int .i64 0, .int .i64 0, .int .i64 0, .int .i64 0, .int .i64 0, .int .i64 0, .int .i64 0, .int .i64 0, .int .i64 0, .int .i64 0]) (w.heap.size + 1) (tg kind (.slice none 0 0) Tb.zero 0)) := T0.out.setZ kind
       have G : Hid (Gd w.heap.size w (W0.setCells (w.heap.size + 1) 0 [.int .i64 kind, .slice none 0 0, .int .i64 0, .int .i64 0, .int .i64 0, .int .i64 0, .int .i64 0, .int .i64 0, .int .i64 0, .int .i64 0, .int .i64 0, .int .i64 0, .int .i64 0, .int .i64 0, .int .i64 0, .int .i64 0, .int .i64 0, .int .i64 0, .int .i64 0])) := G0.out.asideL (by omega) _ _
       have C : Hid (Wf (W0.setCells (w.heap.size + 1) 0 [.int .i64 kind, .slice none 0 0, .int .i64 0, .int .i64 0, .int .i64 0, .int .i64 0, .int .i64 0, .int .i64 0, .int .i64 0, .int .i64 0, .int .i64 0, .int .i64 0, .int .i64 0, .int .i64 0, .int .i64 0, .int .i64 0, .int .i64 0, .int .i64 0, .int .i64 0]) bc oc c) := C0.out.keep (heap_setCells (by omega) _ _ _)
       clear R0 T0 G0 C0
       generalize W0.setCells (w.heap.size + 1) 0 [.int .i64 kind, .slice none 0 0, .int .i64 0, .int .i64 0, .int .i64 0, .int .i64 0, .int .i64 0, .int .i64 0, .int .i64 0, .int .i64 0, .int .i64 0, .int .i64 0, .int .i64 0, .int .i64 0, .int .i64 0, .int .i64 0, .int .i64 0, .int .i64 0, .int .i64 0] = W at R T G C ⊢))
  generalize hsz : w.heap.size = n at R T G hbc ⊢
  have HSZ : Hid (w.heap.size = n) := hsz
  clear hsz
  go_wp2_with fail
  refine (rwithin_yes kind 1 6 _ hk.1 hk.2).mono ?_
  rintro e ux ⟨rfl, hw⟩
  rw [hw]; clear hw ux
  go_wp2_with fail
  go_loopg [19] 17 (fun gg s19 wt => wt = W ∧ ∃ i : Nat, i ≤ 17 ∧ 17 - i ≤ gg ∧ s19 = .int .i64 i ∧ Hid (∀ j, j < i → c j ≤ 4294967295))
  case atStart => exact ⟨rfl, 0, by omega, by omega, rfl, fun j hj => absurd hj (by omega)⟩
  case round =>
    obtain ⟨rfl, i, hi, hgg, rfl, U⟩ := hrel
    by_cases hlt : i < 17
    · have g0 := C.out.cell i hlt
      have hi1 : (i : Int) < 17 := by omega
      have hi0 : (0 : Int) ≤ (i : Int) := by omega
      by_cases hle : c i ≤ 4294967295
      · have U' : Hid (∀ j, j < i + 1 → c j ≤ 4294967295) := fun j hj => by
          by_cases e : j = i
          · subst e; exact hle
          · exact U.out j (by omega)
        have hd : ¬ 4294967295 < ((c i : Nat) : Int) := by omega
        clear U
        generalize c i = x at g0 hd hle
        clear hle
        go_wp2
        go_roundg (17 - (i + 1))
        case measure => omega
        case rel => exact ⟨rfl, i + 1, by omega, by omega, by go_num, U'⟩
      · exact absurd (HM.out i hlt) hle
    · obtain rfl : i = 17 := by omega
      clear U hlt
      have h5 := H5.out
      clear H5
      subst h5
      have T1 : Hid (Bo wr (n + 1) (tg 5 (.slice none 0 0) (tbq c 0) 0)) := by rw [NZ.out]; exact T.out
      clear T
      go_wp2_with fail
      generalize wr = W1 at R T1 C G ⊢
      go_loopg [63] 8 (fun gg s63 wt => ∃ i : Nat, i ≤ 8 ∧ 8 - i ≤ gg ∧ s63 = .int .i64 i ∧ Hid (Bo wt (n + 1) (tg 5 (.slice none 0 0) (tbq c i) 0)) ∧ Hid (Bo wt n (tg 0 (.slice none 0 0) Tb.zero 0)) ∧ Hid (Wf wt bc oc c) ∧ Hid (Gd n w wt))
      case atStart => exact ⟨0, by omega, by omega, rfl, T1, R, C, G⟩
      case round =>
        clear R T1 C G
        obtain ⟨i, hi, hgg, rfl, T, R, C, G⟩ := hrel
        by_cases hlt : i < 8
        · have g0 := C.out.cell (2 * i) (by omega)
          have g1 := C.out.cell (2 * i + 1) (by omega)
          have x1 := HM.out (2 * i) (by omega)
          have y1 := HM.out (2 * i + 1) (by omega)
          have l0 : wr.cell? ⟨n + 1, 2 + i * 2, none⟩ = some ((tbq c i).at (i * 2)) := T.out.cell (2 + i * 2) _ (tg_at _ _ _ _ (show i * 2 < 16 by omega))
          have l1 : wr.cell? ⟨n + 1, 2 + i * 2 + 1, none⟩ = some ((tbq c i).at (i * 2 + 1)) := T.out.cell (2 + (i * 2 + 1)) _ (tg_at _ _ _ _ (show i * 2 + 1 < 16 by omega))
          have f0 := T.out.froz (2 + i * 2)
          have f1 := T.out.froz (2 + i * 2 + 1)
          have N1 : Hid _ := NX.out i
          have T1 : Hid (Bo wr.drew (n + 1) (tg 5 (.slice none 0 0) (tbq c i) 0)) := T.out.drew
          have R1 : Hid (Bo wr.drew n (tg 0 (.slice none 0 0) Tb.zero 0)) := R.out.drew
          have C1 : Hid (Wf wr.drew bc oc c) := C.out.drew
          have G1 : Hid (Gd n w wr.drew) := G.out.drew
          clear T R C G
          generalize c (2 * i) = x at g0 x1 N1
          generalize c (2 * i + 1) = y at g1 y1 N1
          generalize (tbq c i).at (i * 2) = z0 at l0
          generalize (tbq c i).at (i * 2 + 1) = z1 at l1
          have ex1 : IntKind.i64.wrap (x : Int) = x := by rw [IntKind.wrap_i64]; omega
          have ex2 : wrap64 (x : Int) = x := by unfold wrap64; omega
          have ey1 : IntKind.i64.wrap (y : Int) = y := by rw [IntKind.wrap_i64]; omega
          have ey2 : wrap64 (y : Int) = y := by unfold wrap64; omega
          have i1 : (i : Int) < 8 := by omega
          have i0 : (0 : Int) ≤ (i : Int) := by omega
          have i2 : 2 * (i : Int) < 17 := by omega
          have i3 : 2 * (i : Int) + 1 < 17 := by omega
          have i4 : (0 : Int) ≤ 2 * (i : Int) := by omega
          have i5 : (0 : Int) ≤ 2 * (i : Int) + 1 := by omega
          clear x1 y1
          go_wp2_with fail
          go_region
          all_goals go_wp2
          all_goals go_roundg (8 - (i + 1))
          case measure => omega
          case rel => exact ⟨i + 1, by omega, by omega, by go_num, by rw [← N1.out]; exact T1.out.tslot hlt x y, (R1.out.aside (show n ≠ n + 1 by omega) _).aside (show n ≠ n + 1 by omega) _, (C1.out.aside (show bc ≠ n + 1 by omega) _).aside (show bc ≠ n + 1 by omega) _, (G1.out.aside (show n ≤ n + 1 by omega) _).aside (show n ≤ n + 1 by omega) _⟩
        · have ei : i = 8 := by omega
          subst ei
          clear hlt
          have T1 : Hid (Bo wr (n + 1) (tg 5 (.slice none 0 0) (tbl c) 0)) := by rw [← NT.out]; exact T.out
          have RG : Hid _ := T1.out.slots
          clear T
          go_wp2_with (refine wpList_load_mid rfl 31 _ rfl (n + 1) _ rfl (tbl c).all _ RG.out HD.out rfl (HS.out _) ?_)
          refine (HRT.out _).mono ?_
          rintro e W2 ⟨rfl, hb⟩
          have T2 : Hid (Bo W2 (n + 1) (tg 5 (.slice none 0 0) (tbl c) 0)) := T1.out.later hb
          have R2 : Hid (Bo W2 n (tg 0 (.slice none 0 0) Tb.zero 0)) := R.out.later hb
          have C2 : Hid (Wf W2 bc oc c) := C.out.later hb
          have G2 : Hid (Gd n w W2) := G.out.later hb
          clear hb T1 R C G RG
          go_wp2_with fail
          have h23q : Hid (Bo W2.drew n (tg 0 (.slice none 0 0) Tb.zero 0)) := R2.out.drew
          have h24q : Hid (Bo W2.drew (n + 1) (tg 5 (.slice none 0 0) (tbl c) 0)) := T2.out.drew
          have h25q : Hid (Wf W2.drew bc oc c) := C2.out.drew
          have h26q : Hid (Gd n w W2.drew) := G2.out.drew
          clear R2 T2 C2 G2
          refine wp_region_held_drew (S := fun w' => Bo w' (n + 1) (tg 5 (.slice none 0 0) (tbl c) 0)) (by kernel_rfl) h24q.out (fun hH => ?_)
          generalize W2.drew = u27q at h23q h24q h25q h26q hH ⊢
          refine wpAnyH_take (i := 0) (oi := { dst := some 96, op := .load _ (.tmp 6), type := _, pos := _, after := _, guard := _ }) (v := _) rfl (by kernel_rfl) (by kernel_rfl) (by kernel_rfl) (fun _ _ _ h => h) (yieldsIf_load_mid (by rfl) _ _ rfl (n + 1) _ rfl (tg 5 (.slice none 0 0) (tbl c) 0) _ (fun _ h => (h).range) HTD.out rfl (HTS.out _ _ _ _)) hH ?_
          simp only [Act.put, List.setIfInBounds_toArray, List.set_cons_zero, List.set_cons_succ]
          refine wpAnyH_take (i := 1) (oi := { dst := some 97, op := .load _ (.tmp 6), type := _, pos := _, after := _, guard := _ }) (v := _) rfl (by kernel_rfl) (by kernel_rfl) (by kernel_rfl) (fun _ _ _ h => h) (yieldsIf_load_mid (by rfl) _ _ rfl (n + 1) _ rfl (tg 5 (.slice none 0 0) (tbl c) 0) _ (fun _ h => (h).range) HTD.out rfl (HTS.out _ _ _ _)) hH ?_
          simp only [Act.put, List.setIfInBounds_toArray, List.set_cons_zero, List.set_cons_succ]
          refine wpAnyH_take (i := 3) (oi := { dst := some 99, op := .move (.tmp 1), type := _, pos := _, after := _, guard := _ }) (v := ?_) rfl (by kernel_rfl) (by kernel_rfl) (by kernel_rfl) (fun _ _ _ h => h) (Or.inl ⟨by rfl, ?_⟩) hH ?_
          rotate_left
          · intro w hSw
            clear hSw
            go_simp
            try with_reducible rfl
          simp only [Act.put, List.setIfInBounds_toArray, List.set_cons_zero, List.set_cons_succ]
          refine wpAnyH_ready (rs := [2]) (by kernel_rfl) (by simp) ?_
          refine AllReadyH.cons (o := { dst := some 98, op := _, type := _, pos := _, after := _, guard := _ }) rfl (fun K hK => ?_) AllReadyH.nil
          go_simp
          refine (CC.out _ _ _).mono ?_
          rintro e u28q ⟨⟨bq, rfl, hq, hW⟩, hb⟩
          have h29q : Hid (Bo u28q n (tg 0 (.slice none 0 0) Tb.zero 0)) := h23q.out.later hb
          have h30q : Hid (Bo u28q (n + 1) (tg 5 (.slice none 0 0) (tbl c) 0)) := h24q.out.later hb
          have h31q : Hid (Wf u28q bc oc c) := h25q.out.later hb
          have h32q : Hid (Gd n w u28q) := h26q.out.later hb
          clear h23q h24q h25q h26q
          have h33q : Hid (Bo u28q bq (wl (tw (tbl c)))) := hW
          clear hb
          go_wp2_with fail
          refine hK.out _ _ h30q.out (fun hH => ?_)
          clear hK K
          try simp only [Act.put, List.setIfInBounds_toArray, List.set_cons_zero, List.set_cons_succ]
          refine wpAnyH_ready (rs := [4]) (by kernel_rfl) (by simp) ?_
          refine AllReadyH.cons (o := { dst := some 100, op := _, type := _, pos := _, after := _, guard := _ }) rfl (fun K hK => ?_) AllReadyH.nil
          go_simp
          refine (same_wf h33q.out h31q.out _ HV.out).mono ?_
          rintro e u34q ⟨rfl, hb⟩
          have h35q : Hid (Bo u34q n (tg 0 (.slice none 0 0) Tb.zero 0)) := h29q.out.later hb
          have h36q : Hid (Bo u34q (n + 1) (tg 5 (.slice none 0 0) (tbl c) 0)) := h30q.out.later hb
          have h37q : Hid (Wf u34q bc oc c) := h31q.out.later hb
          have h38q : Hid (Gd n w u34q) := h32q.out.later hb
          have h39q : Hid (Bo u34q bq (wl (tw (tbl c)))) := h33q.out.later hb
          clear h29q h30q h31q h32q h33q
          clear h39q
          clear hb
          go_wp2_with fail
          refine hK.out _ _ h36q.out (fun hH => ?_)
          clear hK K
          try simp only [Act.put, List.setIfInBounds_toArray, List.set_cons_zero, List.set_cons_succ]
          refine wpAnyH_ready (rs := [5]) (by kernel_rfl) (by simp) ?_
          refine AllReadyH.cons (o := { dst := none, op := .store _ (.tmp 4) (.tmp 96), type := _, pos := _, after := _, guard := _ }) rfl (fun K hK => ?_) AllReadyH.nil
          rw [if_pos (by rfl)]
          refine wp_store_mid _ _ _ rfl n _ (tg 5 (.slice none 0 0) (tbl c) 0).toArray rfl rfl (h35q.out.thereT 5 (.slice none 0 0) (tbl c) 0) (HTZ.out _ _ _ _) (tg_all _ rfl _ _) ?_
          simp only [Act.put]
          have h40q : Hid (Bo (u34q.setCells n 0 (tg 5 (.slice none 0 0) (tbl c) 0)) n (tg 5 (.slice none 0 0) (tbl c) 0)) := h35q.out.setT 5 (.slice none 0 0) (tbl c) 0
          have h41q : Hid (Bo (u34q.setCells n 0 (tg 5 (.slice none 0 0) (tbl c) 0)) (n + 1) (tg 5 (.slice none 0 0) (tbl c) 0)) := h36q.out.asideL (by omega) 0 (tg 5 (.slice none 0 0) (tbl c) 0)
          have h42q : Hid (Wf (u34q.setCells n 0 (tg 5 (.slice none 0 0) (tbl c) 0)) bc oc c) := h37q.out.asideL (by omega) 0 (tg 5 (.slice none 0 0) (tbl c) 0)
          have h43q : Hid (Gd n w (u34q.setCells n 0 (tg 5 (.slice none 0 0) (tbl c) 0))) := h38q.out.asideL (by omega) 0 (tg 5 (.slice none 0 0) (tbl c) 0)
          clear h35q h36q h37q h38q
          refine hK.out _ _ h41q.out (fun hH => ?_)
          clear hK K
          generalize (u34q.setCells n 0 (tg 5 (.slice none 0 0) (tbl c) 0)) = u44q at h40q h41q h42q h43q hH ⊢
          try simp only [Act.put, List.setIfInBounds_toArray, List.set_cons_zero, List.set_cons_succ]
          refine wpAnyH_take (i := 6) (oi := { dst := some 5, op := .assign (.tmp 100), type := _, pos := _, after := _, guard := _ }) (v := ?_) rfl (by kernel_rfl) (by kernel_rfl) (by kernel_rfl) (fun _ _ _ h => h) (Or.inl ⟨by rfl, ?_⟩) hH ?_
          rotate_left
          · intro w hSw
            clear hSw
            go_simp
            try with_reducible rfl
          simp only [Act.put, List.setIfInBounds_toArray, List.set_cons_zero, List.set_cons_succ]
          refine wpAnyH_done (by kernel_rfl) ?_ _
          go_wp2
          exact bodyPost_ret (results_rowS Tryd.results5 _ _ n (tg 5 (.slice none 0 0) (tbl c) 0) _ _ rfl rfl h40q.out.range HTD.out rfl (HTS.out _ _ _ _)) rfl ⟨rfl, h43q.out.2⟩
end Go.Proofs.YtbmgjpdfmgcigabDoor.Tab
