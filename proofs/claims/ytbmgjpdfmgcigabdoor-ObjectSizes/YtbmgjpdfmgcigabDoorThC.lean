/- The reference's ThingOf: a tally. -/
import Derived.Test.YtbmgjpdfmgcigabDoorSmf
import Derived.Test.YtbmgjpdfmgcigabDoorX1
import Derived.Test.YtbmgjpdfmgcigabDoorTc6
import Derived.Deep.LoopGhost
import Derived.Deep.RegionHeld
import Derived.Deep.MidRow
namespace Go.Proofs.YtbmgjpdfmgcigabDoor.Tab
set_option maxRecDepth 20000
open Go.RowKit
set_option linter.unusedVariables false

set_option maxHeartbeats 4000000 in
theorem ThingOf_6 {bc oc kc : Nat} {c : Nat → Nat} {w : World} {b : Bool} (hc : Wf w bc oc c) (hm : ∀ j, j < 17 → c j ≤ 4294967295) (hv : b = true ↔ ∀ j, j < 17 → tyw (c 0 : Nat) j = c j) {kind : Int} (h6 : kind = 6) :
    Calls Tryd.prog 5 #[.int .i64 kind, .slice (some ⟨bc, oc, none⟩) 17 kc] w fun e w' => e = .returned (.tuple #[.agg (tg kind (.slice none 0 0) Tb.zero (c 0 : Nat)).toArray, .bool b]) ∧ Below w.heap.size w w' := by
  have hk : 1 ≤ kind ∧ kind ≤ 6 := by omega
  have H6 : Hid _ := h6
  clear h6
  have HV : Hid _ := hv
  have HM : Hid _ := hm
  have CC : Hid (∀ (v : Value) (t : Tb) w, _) := fun v t w => Cells_6 v t (c 0) (hm 0 (by decide)) w
  clear hv hm
  obtain ⟨fs, hd⟩ := thing_struct
  have HTD : Hid _ := hd
  clear hd
  have HTS : Hid _ := thing_size
  have HTZ : Hid _ := thing_size2
  have HTW : Hid _ := thing_size3
  have R0 : Hid (Bo ((w.alloc (.cells #[.int .i64 0, .slice none 0 0, .int .i64 0, .int .i64 0, .int .i64 0, .int .i64 0, .int .i64 0, .int .i64 0, .int .i64 0, .int .i64 0, .int .i64 0, .int .i64 0, .int .i64 0, .int .i64 0, .int .i64 0, .int .i64 0, .int .i64 0, .int .i64 0, .int .i64 0] 33)).alloc (.cells #[.int .i64 0, .slice none 0 0, .int .i64 0, .int .i64 0, .int .i64 0, .int .i64 0, .int .i64 0, .int .i64 0, .int .i64 0, .int .i64 0, .int .i64 0, .int .i64 0, .int .i64 0, .int .i64 0, .int .i64 0, .int .i64 0, .int .i64 0, .int .i64 0, .int .i64 0] 33)) w.heap.size (tg 0 (.slice none 0 0) Tb.zero 0)) := (Bo.bornTh w 0 _ rfl).new _
  have T0 : Hid (Bo ((w.alloc (.cells #[.int .i64 0, .slice none 0 0, .int .i64 0, .int .i64 0, .int .i64 0, .int .i64 0, .int .i64 0, .int .i64 0, .int .i64 0, .int .i64 0, .int .i64 0, .int .i64 0, .int .i64 0, .int .i64 0, .int .i64 0, .int .i64 0, .int .i64 0, .int .i64 0, .int .i64 0] 33)).alloc (.cells #[.int .i64 0, .slice none 0 0, .int .i64 0, .int .i64 0, .int .i64 0, .int .i64 0, .int .i64 0, .int .i64 0, .int .i64 0, .int .i64 0, .int .i64 0, .int .i64 0, .int .i64 0, .int .i64 0, .int .i64 0, .int .i64 0, .int .i64 0, .int .i64 0, .int .i64 0] 33)) (w.heap.size + 1) (tg 0 (.slice none 0 0) Tb.zero 0)) := Bo.bornTh _ 0 _ (by simp)
  have G0 : Hid (Gd w.heap.size w ((w.alloc (.cells #[.int .i64 0, .slice none 0 0, .int .i64 0, .int .i64 0, .int .i64 0, .int .i64 0, .int .i64 0, .int .i64 0, .int .i64 0, .int .i64 0, .int .i64 0, .int .i64 0, .int .i64 0, .int .i64 0, .int .i64 0, .int .i64 0, .int .i64 0, .int .i64 0, .int .i64 0] 33)).alloc (.cells #[.int .i64 0, .slice none 0 0, .int .i64 0, .int .i64 0, .int .i64 0, .int .i64 0, .int .i64 0, .int .i64 0, .int .i64 0, .int .i64 0, .int .i64 0, .int .i64 0, .int .i64 0, .int .i64 0, .int .i64 0, .int .i64 0, .int .i64 0, .int .i64 0, .int .i64 0] 33))) := ((Gd.refl w).new _).new _
  have hbc := hc.lt
  have C0 : Hid (Wf ((w.alloc (.cells #[.int .i64 0, .slice none 0 0, .int .i64 0, .int .i64 0, .int .i64 0, .int .i64 0, .int .i64 0, .int .i64 0, .int .i64 0, .int .i64 0, .int .i64 0, .int .i64 0, .int .i64 0, .int .i64 0, .int .i64 0, .int .i64 0, .int .i64 0, .int .i64 0, .int .i64 0] 33)).alloc (.cells #[.int .i64 0, .slice none 0 0, .int .i64 0, .int .i64 0, .int .i64 0, .int .i64 0, .int .i64 0, .int .i64 0, .int .i64 0, .int .i64 0, .int .i64 0, .int .i64 0, .int .i64 0, .int .i64 0, .int .i64 0, .int .i64 0, .int .i64 0, .int .i64 0, .int .i64 0] 33)) bc oc c) := (hc.later (new_below _ _)).later (new_below _ _)
  clear hc
  go_enter Tryd.func5, Tryd.ntmps5
  go_wp2_with (first
    | (generalize ((w.alloc (.cells #[.int .i64 0, .slice none 0 0, .int .i64 0, .int .i64 0, .int .i64 0, .int .i64 0, .int .i64 0, .int .i64 0, .int .i64 0, .int .i64 0, .int .i64 0, .int .i64 0, .int .i64 0, .int .i64 0, .int .i64 0, .int .i64 0, .int .i64 0, .int .i64 0, .int .i64 0] 33)).alloc (.cells #[.int .i64 0, .slice none 0 0, .int .i64 0, .int .i64 0, .int .i64 0, .int .i64 0, .int .i64 0, .int .i64 0, .int .i64 0, .int .i64 0, .int .i64 0, .int .i64 0, .int .i64 0, .int .i64 0, .int .i64 0, .int .i64 0, .int .i64 0, .int .i64 0, .int .i64 0] 33)) = W0 at R0 T0 G0 C0 ⊢
       refine wpList_store_mid rfl 33 _ _ rfl (w.heap.size + 1) _ #[.int .i64 kind, .slice none 0 0, .int .i64 0, .int .i64 0, .int .i64 0, .int .i64 0, .int .i64 0, .int .i64 0, .int .i64 0, .int .i64 0, .int .i64 0, .int .i64 0, .int .i64 0, .int .i64 0, .int .i64 0, .int .i64 0, .int .i64 0, .int .i64 0, .int .i64 0] rfl rfl (T0.out.thereL (by rw [tg_length]; rfl)) HTW.out (nil_all kind) ?_
       have R : Hid (Bo (W0.setCells (w.heap.size + 1) 0 [.int .i64 kind, .slice none 0 0, .int .i64 0, .int .i64 0, .int .i64 0, .int .i64 0, .int .i64 0, .int .i64 0, .int .i64 0, .int .i64 0, .int .i64 0, .int .i64 0, .int .i64 0, .int .i64 0, .int .i64 0, .int .i64 0, .int .i64 0, .int .i64 0, .int .i64 0]) w.heap.size (tg 0 (.slice none 0 0) Tb.zero 0)) := R0.out.asideL (by omega) _ _
       have T : Hid (Bo (W0.setCells (w.heap.size + 1) 0 [.int .i64 kind, .slice none 0 0, .int .i64 0, .int .i64 0, .int .i64 0, .int .i64 0, .int .i64 0, .int .i64 0, .int .i64 0, .int .i64 0, .int .i64 0, .int .i64 0, .int .i64 0, .int .i64 0, .int .i64 0, .int .i64 0, .int .i64 0, .int .i64 0, .int .i64 0]) (w.heap.size + 1) (tg kind (.slice none 0 0) Tb.zero 0)) := T0.out.setZ kind
       have G : Hid (Gd w.heap.size w (W0.setCells (w.heap.size + 1) 0 [.int .i64 kind, .slice none 0 0, .int .i64 0, .int .i64 0, .int .i64 0, .int .i64 0, .int .i64 0, .int .i64 0, .int .i64 0, .int .i64 0, .int .i64 0, .int .i64 0, .int .i64 0, .int .i64 0, .int .i64 0, .int .i64 0, .int .i64 0, .int .i64 0, .int .i64 0])) := G0.out.asideL (by omega) _ _
       have C : Hid (Wf (W0.setCells (w.heap.size + 1) 0 [.int .i64 kind, .slice none 0 0, .int .i64 0, .int .i64 0, .int .i64 0, .int .i64 0, .int .i64 0, .int .i64 0, .int .i64 0, .int .i64 0, .int .i64 0, .int .i64 0, .int .i64 0, .int .i64 0, .int .i64 0, .int .i64 0, .int .i64 0, .int .i64 0, .int .i64 0]) bc oc c) := C0.out.keep (heap_setCells (by omega) _ _ _)
       clear R0 T0 G0 C0
       generalize W0.setCells (w.heap.size + 1) 0 [.int .i64 kind, .slice none 0 0, .int .i64 0, .int .i64 0, .int .i64 0, .int .i64 0, .int .i64 0, .int .i64 0, .int .i64 0, .int .i64 0, .int .i64 0, .int .i64 0, .int .i64 0, .int .i64 0, .int .i64 0, .int .i64 0, .int .i64 0, .int .i64 0, .int .i64 0] = W at R T G C ⊢))
  generalize hsz : w.heap.size = n at R T G hbc ⊢
  have HSZ : Hid (w.heap.size = n) := hsz
  clear hsz
  go_wp2_with fail
  refine (rwithin_yes kind 1 6 _ hk.1 hk.2).mono ?_
  rintro e ux ⟨rfl, hw⟩
  rw [hw]; clear hw ux
  go_wp2_with fail
  go_loopg [19] 17 (fun gg s19 wt => wt = W ∧ ∃ i : Nat, i ≤ 17 ∧ 17 - i ≤ gg ∧ s19 = .int .i64 i ∧ Hid (∀ j, j < i → c j ≤ 4294967295))
  case atStart => exact ⟨rfl, 0, by omega, by omega, rfl, fun j hj => absurd hj (by omega)⟩
  case round =>
    obtain ⟨rfl, i, hi, hgg, rfl, U⟩ := hrel
    by_cases hlt : i < 17
    · have g0 := C.out.cell i hlt
      have hi1 : (i : Int) < 17 := by omega
      have hi0 : (0 : Int) ≤ (i : Int) := by omega
      by_cases hle : c i ≤ 4294967295
      · have U' : Hid (∀ j, j < i + 1 → c j ≤ 4294967295) := fun j hj => by
          by_cases e : j = i
          · subst e; exact hle
          · exact U.out j (by omega)
        have hd : ¬ 4294967295 < ((c i : Nat) : Int) := by omega
        clear U
        generalize c i = x at g0 hd hle
        clear hle
        go_wp2
        go_roundg (17 - (i + 1))
        case measure => omega
        case rel => exact ⟨rfl, i + 1, by omega, by omega, by go_num, U'⟩
      · exact absurd (HM.out i hlt) hle
    · obtain rfl : i = 17 := by omega
      clear U hlt
      have h6 := H6.out
      clear H6
      subst h6
      have g0 : wr.cell? ⟨bc, oc, none⟩ = _ := C.out.cell 0 (by decide)
      have x0 := HM.out 0 (by decide)
      have t0 := T.out.tcell.2.2
      have f0 := T.out.froz 18
      have ey1 : IntKind.i64.wrap ((c 0 : Nat) : Int) = (c 0 : Nat) := by rw [IntKind.wrap_i64]; omega
      have ey2 : wrap64 ((c 0 : Nat) : Int) = (c 0 : Nat) := by unfold wrap64; omega
      have T1 : Hid (Bo (wr.setCell ⟨n + 1, 18, none⟩ (.int .i64 (c 0 : Nat))) (n + 1) (tg 6 (.slice none 0 0) Tb.zero (c 0 : Nat))) := T.out.set1 (by rw [tg_length]; decide) (tg_num _ _ _ _ _)
      have R1 : Hid (Bo (wr.setCell ⟨n + 1, 18, none⟩ (.int .i64 (c 0 : Nat))) n (tg 0 (.slice none 0 0) Tb.zero 0)) := R.out.aside (by simp) _
      have C1 : Hid (Wf (wr.setCell ⟨n + 1, 18, none⟩ (.int .i64 (c 0 : Nat))) bc oc c) := C.out.aside (by simp; omega) _
      have G1 : Hid (Gd n w (wr.setCell ⟨n + 1, 18, none⟩ (.int .i64 (c 0 : Nat)))) := G.out.aside (by simp) _
      clear R T C G
      go_wp2_with fail
      generalize wr.setCell ⟨n + 1, 18, none⟩ (.int .i64 (c 0 : Nat)) = W1 at R1 T1 C1 G1 ⊢
      have h1q : Hid (Bo W1.drew n (tg 0 (.slice none 0 0) Tb.zero 0)) := R1.out.drew
      have h2q : Hid (Bo W1.drew (n + 1) (tg 6 (.slice none 0 0) Tb.zero (c 0 : Nat))) := T1.out.drew
      have h3q : Hid (Wf W1.drew bc oc c) := C1.out.drew
      have h4q : Hid (Gd n w W1.drew) := G1.out.drew
      clear R1 T1 C1 G1
      refine wp_region_held_drew (S := fun w' => Bo w' (n + 1) (tg 6 (.slice none 0 0) Tb.zero (c 0 : Nat))) (by kernel_rfl) h2q.out (fun hH => ?_)
      generalize W1.drew = u5q at h1q h2q h3q h4q hH ⊢
      refine wpAnyH_take (i := 0) (oi := { dst := some 96, op := .load _ (.tmp 6), type := _, pos := _, after := _, guard := _ }) (v := _) rfl (by kernel_rfl) (by kernel_rfl) (by kernel_rfl) (fun _ _ _ h => h) (yieldsIf_load_mid (by rfl) _ _ rfl (n + 1) _ rfl (tg 6 (.slice none 0 0) Tb.zero (c 0 : Nat)) _ (fun _ h => (h).range) HTD.out rfl (HTS.out _ _ _ _)) hH ?_
      simp only [Act.put, List.setIfInBounds_toArray, List.set_cons_zero, List.set_cons_succ]
      refine wpAnyH_take (i := 1) (oi := { dst := some 97, op := .load _ (.tmp 6), type := _, pos := _, after := _, guard := _ }) (v := _) rfl (by kernel_rfl) (by kernel_rfl) (by kernel_rfl) (fun _ _ _ h => h) (yieldsIf_load_mid (by rfl) _ _ rfl (n + 1) _ rfl (tg 6 (.slice none 0 0) Tb.zero (c 0 : Nat)) _ (fun _ h => (h).range) HTD.out rfl (HTS.out _ _ _ _)) hH ?_
      simp only [Act.put, List.setIfInBounds_toArray, List.set_cons_zero, List.set_cons_succ]
      refine wpAnyH_take (i := 3) (oi := { dst := some 99, op := .move (.tmp 1), type := _, pos := _, after := _, guard := _ }) (v := ?_) rfl (by kernel_rfl) (by kernel_rfl) (by kernel_rfl) (fun _ _ _ h => h) (Or.inl ⟨by rfl, ?_⟩) hH ?_
      rotate_left
      · intro w hSw
        clear hSw
        go_simp
        try with_reducible rfl
      simp only [Act.put, List.setIfInBounds_toArray, List.set_cons_zero, List.set_cons_succ]
      refine wpAnyH_ready (rs := [2]) (by kernel_rfl) (by simp) ?_
      refine AllReadyH.cons (o := { dst := some 98, op := _, type := _, pos := _, after := _, guard := _ }) rfl (fun K hK => ?_) AllReadyH.nil
      go_simp
      refine (CC.out _ _ _).mono ?_
      rintro e u6q ⟨⟨bq, rfl, hq, hW⟩, hb⟩
      have h7q : Hid (Bo u6q n (tg 0 (.slice none 0 0) Tb.zero 0)) := h1q.out.later hb
      have h8q : Hid (Bo u6q (n + 1) (tg 6 (.slice none 0 0) Tb.zero (c 0 : Nat))) := h2q.out.later hb
      have h9q : Hid (Wf u6q bc oc c) := h3q.out.later hb
      have h10q : Hid (Gd n w u6q) := h4q.out.later hb
      clear h1q h2q h3q h4q
      have h11q : Hid (Bo u6q bq (wl (tyw (c 0 : Nat)))) := hW
      clear hb
      go_wp2_with fail
      refine hK.out _ _ h8q.out (fun hH => ?_)
      clear hK K
      try simp only [Act.put, List.setIfInBounds_toArray, List.set_cons_zero, List.set_cons_succ]
      refine wpAnyH_ready (rs := [4]) (by kernel_rfl) (by simp) ?_
      refine AllReadyH.cons (o := { dst := some 100, op := _, type := _, pos := _, after := _, guard := _ }) rfl (fun K hK => ?_) AllReadyH.nil
      go_simp
      refine (same_wf h11q.out h9q.out _ HV.out).mono ?_
      rintro e u12q ⟨rfl, hb⟩
      have h13q : Hid (Bo u12q n (tg 0 (.slice none 0 0) Tb.zero 0)) := h7q.out.later hb
      have h14q : Hid (Bo u12q (n + 1) (tg 6 (.slice none 0 0) Tb.zero (c 0 : Nat))) := h8q.out.later hb
      have h15q : Hid (Wf u12q bc oc c) := h9q.out.later hb
      have h16q : Hid (Gd n w u12q) := h10q.out.later hb
      have h17q : Hid (Bo u12q bq (wl (tyw (c 0 : Nat)))) := h11q.out.later hb
      clear h7q h8q h9q h10q h11q
      clear h17q
      clear hb
      go_wp2_with fail
      refine hK.out _ _ h14q.out (fun hH => ?_)
      clear hK K
      try simp only [Act.put, List.setIfInBounds_toArray, List.set_cons_zero, List.set_cons_succ]
      refine wpAnyH_ready (rs := [5]) (by kernel_rfl) (by simp) ?_
      refine AllReadyH.cons (o := { dst := none, op := .store _ (.tmp 4) (.tmp 96), type := _, pos := _, after := _, guard := _ }) rfl (fun K hK => ?_) AllReadyH.nil
      rw [if_pos (by rfl)]
      refine wp_store_mid _ _ _ rfl n _ (tg 6 (.slice none 0 0) Tb.zero (c 0 : Nat)).toArray rfl rfl (h13q.out.thereT 6 (.slice none 0 0) Tb.zero (c 0 : Nat)) (HTZ.out _ _ _ _) (tg_all _ rfl _ _) ?_
      simp only [Act.put]
      have h18q : Hid (Bo (u12q.setCells n 0 (tg 6 (.slice none 0 0) Tb.zero (c 0 : Nat))) n (tg 6 (.slice none 0 0) Tb.zero (c 0 : Nat))) := h13q.out.setT 6 (.slice none 0 0) Tb.zero (c 0 : Nat)
      have h19q : Hid (Bo (u12q.setCells n 0 (tg 6 (.slice none 0 0) Tb.zero (c 0 : Nat))) (n + 1) (tg 6 (.slice none 0 0) Tb.zero (c 0 : Nat))) := h14q.out.asideL (by omega) 0 (tg 6 (.slice none 0 0) Tb.zero (c 0 : Nat))
      have h20q : Hid (Wf (u12q.setCells n 0 (tg 6 (.slice none 0 0) Tb.zero (c 0 : Nat))) bc oc c) := h15q.out.asideL (by omega) 0 (tg 6 (.slice none 0 0) Tb.zero (c 0 : Nat))
      have h21q : Hid (Gd n w (u12q.setCells n 0 (tg 6 (.slice none 0 0) Tb.zero (c 0 : Nat)))) := h16q.out.asideL (by omega) 0 (tg 6 (.slice none 0 0) Tb.zero (c 0 : Nat))
      clear h13q h14q h15q h16q
      refine hK.out _ _ h19q.out (fun hH => ?_)
      clear hK K
      generalize (u12q.setCells n 0 (tg 6 (.slice none 0 0) Tb.zero (c 0 : Nat))) = u22q at h18q h19q h20q h21q hH ⊢
      try simp only [Act.put, List.setIfInBounds_toArray, List.set_cons_zero, List.set_cons_succ]
      refine wpAnyH_take (i := 6) (oi := { dst := some 5, op := .assign (.tmp 100), type := _, pos := _, after := _, guard := _ }) (v := ?_) rfl (by kernel_rfl) (by kernel_rfl) (by kernel_rfl) (fun _ _ _ h => h) (Or.inl ⟨by rfl, ?_⟩) hH ?_
      rotate_left
      · intro w hSw
        clear hSw
        go_simp
        try with_reducible rfl
      simp only [Act.put, List.setIfInBounds_toArray, List.set_cons_zero, List.set_cons_succ]
      refine wpAnyH_done (by kernel_rfl) ?_ _
      go_wp2
      exact bodyPost_ret (results_rowS Tryd.results5 _ _ n (tg 6 (.slice none 0 0) Tb.zero (c 0 : Nat)) _ _ rfl rfl h18q.out.range HTD.out rfl (HTS.out _ _ _ _)) rfl ⟨rfl, h21q.out.2⟩
end Go.Proofs.YtbmgjpdfmgcigabDoor.Tab
