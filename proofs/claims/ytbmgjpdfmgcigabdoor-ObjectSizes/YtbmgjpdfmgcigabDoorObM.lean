/- Package object: Do, where it is done. -/
import Derived.Test.YtbmgjpdfmgcigabDoorObL
import Derived.Test.YtbmgjpdfmgcigabDoorDd
import Derived.Deep.DeepCutAuto
import Derived.Deep.RegionHeld3
namespace Go.Proofs.YtbmgjpdfmgcigabDoor.Tab
set_option maxRecDepth 20000
open Go.RowKit
set_option linter.unusedVariables false

set_option maxHeartbeats 8000000 in
theorem obDo_any {kind o k x cc y : Int} {c d : Nat → Nat} {fk : Nat} (cp : Nat → Nat → Nat → Nat → Array Value) (he : ∀ args (w : World), (callFunc fk args).run Tryd.prog w = .ok (.enter fk args) w) (hR : Rt o k x) (hO : isOb kind c) (hL : ∀ u m b1 b2 b3 b4, Deeds u m b1 b2 b3 b4 → (Instr.lookup 61 (.map (some m)) (.int .i64 kind) false).run Tryd.prog u = .ok (.func (.func fk) #[] (cp b1 b2 b3 b4)) u) (hC : ∀ u m b1 b2 b3 b4, Deeds u m b1 b2 b3 b4 → Calls Tryd.prog fk (#[.agg (wl c).toArray, .agg #[.int .i64 o, .int .i64 k, .int .i64 x]] ++ cp b1 b2 b3 b4) u fun e w' => e = .returned (.tuple #[.agg (wl d).toArray, .agg #[.int .i64 cc, .int .i64 y]]) ∧ Below u.heap.size u w') (w : World) :
    Calls Tryd.prog 6 #[.int .i64 kind, .agg (wl c).toArray, .agg #[.int .i64 o, .int .i64 k, .int .i64 x]] w (DidD w d cc y) := by
  have HA : Hid ((Tryd.prog.info? 38).map (·.size) = some 2) := answer_sz
  obtain ⟨fs, ha⟩ := answer_st
  have HDA : Hid _ := ha
  clear ha
  obtain ⟨nb, eb, hd⟩ := cells_array
  have HC : Hid _ := hd
  clear hd
  have HCS : Hid _ := cells_size
  have HCZ : Hid _ := cells_size2
  have g0 : Hid (Gd w.heap.size w w) := Gd.refl w
  have OR : Hid (∀ w : World, _) := fun w => opR_yes hR w
  have RR : Hid (∀ w : World, _) := fun w => obRight_is (v := true) ⟨fun _ => hO, fun _ => rfl⟩ w
  have LL : Hid _ := hL
  have CC : Hid _ := hC
  clear hR hO hL hC
  have h77q : Hid (Gd w.heap.size w (w.alloc (.cells (wl c).toArray 24))) := g0.out.new (.cells (wl c).toArray 24)
  clear g0
  have h78q : Hid (Bo (w.alloc (.cells (wl c).toArray 24)) w.heap.size (wl c)) := Bo.born w (wl c) 24 (by simp)
  have h79q : Hid (Gd w.heap.size w ((w.alloc (.cells (wl c).toArray 24)).alloc (.cells #[.int .i64 o, .int .i64 k, .int .i64 x] 26))) := h77q.out.new (.cells #[.int .i64 o, .int .i64 k, .int .i64 x] 26)
  have h80q : Hid (Bo ((w.alloc (.cells (wl c).toArray 24)).alloc (.cells #[.int .i64 o, .int .i64 k, .int .i64 x] 26)) w.heap.size (wl c)) := h78q.out.new (.cells #[.int .i64 o, .int .i64 k, .int .i64 x] 26)
  clear h77q h78q
  have h81q : Hid (Bo ((w.alloc (.cells (wl c).toArray 24)).alloc (.cells #[.int .i64 o, .int .i64 k, .int .i64 x] 26)) (w.heap.size + 1) [.int .i64 o, .int .i64 k, .int .i64 x]) := Bo.born (w.alloc (.cells (wl c).toArray 24)) [.int .i64 o, .int .i64 k, .int .i64 x] 26 (by simp)
  have h82q : Hid (Gd w.heap.size w (((w.alloc (.cells (wl c).toArray 24)).alloc (.cells #[.int .i64 o, .int .i64 k, .int .i64 x] 26)).alloc (.cells #[.int .u64 0, .int .u64 0, .int .u64 0, .int .u64 0, .int .u64 0, .int .u64 0, .int .u64 0, .int .u64 0, .int .u64 0, .int .u64 0, .int .u64 0, .int .u64 0, .int .u64 0, .int .u64 0, .int .u64 0, .int .u64 0, .int .u64 0] 24))) := h79q.out.new (.cells #[.int .u64 0, .int .u64 0, .int .u64 0, .int .u64 0, .int .u64 0, .int .u64 0, .int .u64 0, .int .u64 0, .int .u64 0, .int .u64 0, .int .u64 0, .int .u64 0, .int .u64 0, .int .u64 0, .int .u64 0, .int .u64 0, .int .u64 0] 24)
  have h83q : Hid (Bo (((w.alloc (.cells (wl c).toArray 24)).alloc (.cells #[.int .i64 o, .int .i64 k, .int .i64 x] 26)).alloc (.cells #[.int .u64 0, .int .u64 0, .int .u64 0, .int .u64 0, .int .u64 0, .int .u64 0, .int .u64 0, .int .u64 0, .int .u64 0, .int .u64 0, .int .u64 0, .int .u64 0, .int .u64 0, .int .u64 0, .int .u64 0, .int .u64 0, .int .u64 0] 24)) w.heap.size (wl c)) := h80q.out.new (.cells #[.int .u64 0, .int .u64 0, .int .u64 0, .int .u64 0, .int .u64 0, .int .u64 0, .int .u64 0, .int .u64 0, .int .u64 0, .int .u64 0, .int .u64 0, .int .u64 0, .int .u64 0, .int .u64 0, .int .u64 0, .int .u64 0, .int .u64 0] 24)
  have h84q : Hid (Bo (((w.alloc (.cells (wl c).toArray 24)).alloc (.cells #[.int .i64 o, .int .i64 k, .int .i64 x] 26)).alloc (.cells #[.int .u64 0, .int .u64 0, .int .u64 0, .int .u64 0, .int .u64 0, .int .u64 0, .int .u64 0, .int .u64 0, .int .u64 0, .int .u64 0, .int .u64 0, .int .u64 0, .int .u64 0, .int .u64 0, .int .u64 0, .int .u64 0, .int .u64 0] 24)) (w.heap.size + 1) [.int .i64 o, .int .i64 k, .int .i64 x]) := h81q.out.new (.cells #[.int .u64 0, .int .u64 0, .int .u64 0, .int .u64 0, .int .u64 0, .int .u64 0, .int .u64 0, .int .u64 0, .int .u64 0, .int .u64 0, .int .u64 0, .int .u64 0, .int .u64 0, .int .u64 0, .int .u64 0, .int .u64 0, .int .u64 0] 24)
  clear h79q h80q h81q
  have h85q : Hid (Bo (((w.alloc (.cells (wl c).toArray 24)).alloc (.cells #[.int .i64 o, .int .i64 k, .int .i64 x] 26)).alloc (.cells #[.int .u64 0, .int .u64 0, .int .u64 0, .int .u64 0, .int .u64 0, .int .u64 0, .int .u64 0, .int .u64 0, .int .u64 0, .int .u64 0, .int .u64 0, .int .u64 0, .int .u64 0, .int .u64 0, .int .u64 0, .int .u64 0, .int .u64 0] 24)) (w.heap.size + 2) (wl wz)) := Bo.born ((w.alloc (.cells (wl c).toArray 24)).alloc (.cells #[.int .i64 o, .int .i64 k, .int .i64 x] 26)) (wl wz) 24 (by simp)
  have h86q : Hid (Gd w.heap.size w ((((w.alloc (.cells (wl c).toArray 24)).alloc (.cells #[.int .i64 o, .int .i64 k, .int .i64 x] 26)).alloc (.cells #[.int .u64 0, .int .u64 0, .int .u64 0, .int .u64 0, .int .u64 0, .int .u64 0, .int .u64 0, .int .u64 0, .int .u64 0, .int .u64 0, .int .u64 0, .int .u64 0, .int .u64 0, .int .u64 0, .int .u64 0, .int .u64 0, .int .u64 0] 24)).alloc (.cells #[.int .i64 0, .int .i64 0] 38))) := h82q.out.new (.cells #[.int .i64 0, .int .i64 0] 38)
  have h87q : Hid (Bo ((((w.alloc (.cells (wl c).toArray 24)).alloc (.cells #[.int .i64 o, .int .i64 k, .int .i64 x] 26)).alloc (.cells #[.int .u64 0, .int .u64 0, .int .u64 0, .int .u64 0, .int .u64 0, .int .u64 0, .int .u64 0, .int .u64 0, .int .u64 0, .int .u64 0, .int .u64 0, .int .u64 0, .int .u64 0, .int .u64 0, .int .u64 0, .int .u64 0, .int .u64 0] 24)).alloc (.cells #[.int .i64 0, .int .i64 0] 38)) w.heap.size (wl c)) := h83q.out.new (.cells #[.int .i64 0, .int .i64 0] 38)
  have h88q : Hid (Bo ((((w.alloc (.cells (wl c).toArray 24)).alloc (.cells #[.int .i64 o, .int .i64 k, .int .i64 x] 26)).alloc (.cells #[.int .u64 0, .int .u64 0, .int .u64 0, .int .u64 0, .int .u64 0, .int .u64 0, .int .u64 0, .int .u64 0, .int .u64 0, .int .u64 0, .int .u64 0, .int .u64 0, .int .u64 0, .int .u64 0, .int .u64 0, .int .u64 0, .int .u64 0] 24)).alloc (.cells #[.int .i64 0, .int .i64 0] 38)) (w.heap.size + 1) [.int .i64 o, .int .i64 k, .int .i64 x]) := h84q.out.new (.cells #[.int .i64 0, .int .i64 0] 38)
  have h89q : Hid (Bo ((((w.alloc (.cells (wl c).toArray 24)).alloc (.cells #[.int .i64 o, .int .i64 k, .int .i64 x] 26)).alloc (.cells #[.int .u64 0, .int .u64 0, .int .u64 0, .int .u64 0, .int .u64 0, .int .u64 0, .int .u64 0, .int .u64 0, .int .u64 0, .int .u64 0, .int .u64 0, .int .u64 0, .int .u64 0, .int .u64 0, .int .u64 0, .int .u64 0, .int .u64 0] 24)).alloc (.cells #[.int .i64 0, .int .i64 0] 38)) (w.heap.size + 2) (wl wz)) := h85q.out.new (.cells #[.int .i64 0, .int .i64 0] 38)
  clear h82q h83q h84q h85q
  have h90q : Hid (Bo ((((w.alloc (.cells (wl c).toArray 24)).alloc (.cells #[.int .i64 o, .int .i64 k, .int .i64 x] 26)).alloc (.cells #[.int .u64 0, .int .u64 0, .int .u64 0, .int .u64 0, .int .u64 0, .int .u64 0, .int .u64 0, .int .u64 0, .int .u64 0, .int .u64 0, .int .u64 0, .int .u64 0, .int .u64 0, .int .u64 0, .int .u64 0, .int .u64 0, .int .u64 0] 24)).alloc (.cells #[.int .i64 0, .int .i64 0] 38)) (w.heap.size + 3) [.int .i64 0, .int .i64 0]) := Bo.born (((w.alloc (.cells (wl c).toArray 24)).alloc (.cells #[.int .i64 o, .int .i64 k, .int .i64 x] 26)).alloc (.cells #[.int .u64 0, .int .u64 0, .int .u64 0, .int .u64 0, .int .u64 0, .int .u64 0, .int .u64 0, .int .u64 0, .int .u64 0, .int .u64 0, .int .u64 0, .int .u64 0, .int .u64 0, .int .u64 0, .int .u64 0, .int .u64 0, .int .u64 0] 24)) [.int .i64 0, .int .i64 0] 38 (by simp)
  have c91q := h88q.out.at 0 rfl
  have c92q := h88q.out.at 1 rfl
  have c93q := h88q.out.at 2 rfl
  go_enter Tryd.func6, Tryd.ntmps6
  go_wp2_with fail
  refine (OR.out _).mono ?_
  rintro e u94q ⟨rfl, hb⟩
  have h95q : Hid (Gd w.heap.size w u94q) := h86q.out.later hb
  have h96q : Hid (Bo u94q w.heap.size (wl c)) := h87q.out.later hb
  have h97q : Hid (Bo u94q (w.heap.size + 1) [.int .i64 o, .int .i64 k, .int .i64 x]) := h88q.out.later hb
  have h98q : Hid (Bo u94q (w.heap.size + 2) (wl wz)) := h89q.out.later hb
  have h99q : Hid (Bo u94q (w.heap.size + 3) [.int .i64 0, .int .i64 0]) := h90q.out.later hb
  clear h86q h87q h88q h89q h90q
  clear hb
  generalize hsz : w.heap.size = n at h95q h96q h97q h98q h99q  ⊢
  have HSZ : Hid (w.heap.size = n) := hsz
  clear hsz
  go_wp2_with (first
    | (refine wpList_load_wanted (by rfl) 24 _ rfl n _ rfl (wl c) _ h96q.out.range HC.out rfl (HCS.out c) ?_))
  refine (RR.out _).mono ?_
  rintro e u100q ⟨rfl, hb⟩
  have h101q : Hid (Gd n w u100q) := h95q.out.later hb
  have h102q : Hid (Bo u100q n (wl c)) := h96q.out.later hb
  have h103q : Hid (Bo u100q (n + 1) [.int .i64 o, .int .i64 k, .int .i64 x]) := h97q.out.later hb
  have h104q : Hid (Bo u100q (n + 2) (wl wz)) := h98q.out.later hb
  have h105q : Hid (Bo u100q (n + 3) [.int .i64 0, .int .i64 0]) := h99q.out.later hb
  clear h95q h96q h97q h98q h99q
  clear hb
  go_wp2_with fail
  go_cut [9, 10] (fun s9 s10 wx => ∃ b_z b_b : Nat, s9 = .pointer (some ⟨b_z, 0, none⟩) ∧ s10 = .pointer (some ⟨b_b, 0, none⟩) ∧ Hid (Gd n w wx) ∧ Hid (Bo wx (n + 2) (wl wz)) ∧ Hid (Bo wx (n + 3) [.int .i64 0, .int .i64 0]) ∧ Hid (Bo wx b_z (wl d)) ∧ Hid (Bo wx b_b [.int .i64 (cc), .int .i64 (y)]) ∧ (n + 3 < b_z ∧ n + 3 < b_b ∧ b_z ≠ b_b))
  case first =>
    have h106q : Hid (Gd n w u100q.drew) := h101q.out.drew
    have h107q : Hid (Bo u100q.drew n (wl c)) := h102q.out.drew
    have h108q : Hid (Bo u100q.drew (n + 1) [.int .i64 o, .int .i64 k, .int .i64 x]) := h103q.out.drew
    have h109q : Hid (Bo u100q.drew (n + 2) (wl wz)) := h104q.out.drew
    have h110q : Hid (Bo u100q.drew (n + 3) [.int .i64 0, .int .i64 0]) := h105q.out.drew
    clear h101q h102q h103q h104q h105q
    refine wp_region_held_drew (S := fun w' => Bo w' n (wl c) ∧ Bo w' (n + 1) [.int .i64 o, .int .i64 k, .int .i64 x]) (by kernel_rfl) ⟨h107q.out, h108q.out⟩ (fun hH => ?_)
    generalize u100q.drew = u111q at h106q h107q h108q h109q h110q hH ⊢
    refine wpAnyH_take (i := 1) (oi := { dst := some 25, op := .move (.tmp 0), type := _, pos := _, after := _, guard := _ }) (v := ?_) rfl (by kernel_rfl) (by kernel_rfl) (by kernel_rfl) (fun _ _ _ h => h) (Or.inl ⟨by rfl, ?_⟩) hH ?_
    rotate_left
    · intro w hSw
      clear hSw
      go_simp
      try with_reducible rfl
    simp only [Act.put, List.setIfInBounds_toArray, List.set_cons_zero, List.set_cons_succ]
    refine wpAnyH_take (i := 3) (oi := { dst := some 27, op := .load _ (.tmp 4), type := _, pos := _, after := _, guard := _ }) (v := _) rfl (by kernel_rfl) (by kernel_rfl) (by kernel_rfl) (fun _ _ _ h => h) (yieldsIf_load_mid (by rfl) _ _ rfl n _ rfl (wl c) _ (fun _ h => (h.1).range) HC.out rfl (HCS.out c)) hH ?_
    simp only [Act.put, List.setIfInBounds_toArray, List.set_cons_zero, List.set_cons_succ]
    refine wpAnyH_take (i := 4) (oi := { dst := some 28, op := .load _ (.tmp 5), type := _, pos := _, after := _, guard := _ }) (v := ?_) rfl (by kernel_rfl) (by kernel_rfl) (by kernel_rfl) (fun _ _ _ h => h) (Or.inl ⟨by rfl, ?_⟩) hH ?_
    rotate_left
    · intro w hSw
      have c112q := (hSw.2).at 0 rfl
      have c113q := (hSw.2).at 1 rfl
      have c114q := (hSw.2).at 2 rfl
      clear hSw
      go_simp
      try with_reducible rfl
    simp only [Act.put, List.setIfInBounds_toArray, List.set_cons_zero, List.set_cons_succ]
    refine wpAnyH_ready (rs := [0, 9, 10]) (by kernel_rfl) (by simp) ?_
    refine AllReadyH.cons (o := { dst := some 24, op := _, type := _, pos := _, after := _, guard := _ }) rfl (fun K hK => ?_) ?_
    · go_simp
      refine (deeds_is _).mono ?_
      rintro e u115q ⟨rfl, ⟨b1, b2, b3, b4, hD⟩, hb⟩
      have h116q : Hid (Gd n w u115q) := h106q.out.later hb
      have h117q : Hid (Bo u115q n (wl c)) := h107q.out.later hb
      have h118q : Hid (Bo u115q (n + 1) [.int .i64 o, .int .i64 k, .int .i64 x]) := h108q.out.later hb
      have h119q : Hid (Bo u115q (n + 2) (wl wz)) := h109q.out.later hb
      have h120q : Hid (Bo u115q (n + 3) [.int .i64 0, .int .i64 0]) := h110q.out.later hb
      clear h106q h107q h108q h109q h110q
      generalize u111q.heap.size = m at hD ⊢
      have h121q : Hid (Deeds u115q m b1 b2 b3 b4) := hD
      clear hD
      clear hb
      go_wp2_with fail
      refine hK.out _ _ ⟨h117q.out, h118q.out⟩ (fun hH => ?_)
      clear hK K
      try simp only [Act.put, List.setIfInBounds_toArray, List.set_cons_zero, List.set_cons_succ]
      refine wpAnyH_ready (rs := [2, 9, 10]) (by kernel_rfl) (by simp) ?_
      refine AllReadyH.cons (o := { dst := some 26, op := .lookup _ (.tmp 24) (.tmp 25) false, type := _, pos := _, after := _, guard := _ }) rfl (fun K hK => ?_) ?_
      · have lk := LL.out _ _ _ _ _ _ h121q.out
        go_simp
        refine hK.out _ _ ⟨h117q.out, h118q.out⟩ (fun hH => ?_)
        clear hK K
        try simp only [Act.put, List.setIfInBounds_toArray, List.set_cons_zero, List.set_cons_succ]
        refine wpAnyH_ready (rs := [5, 9, 10]) (by kernel_rfl) (by simp) ?_
        refine AllReadyH.cons (o := { dst := some 29, op := _, type := _, pos := _, after := _, guard := _ }) rfl (fun K hK => ?_) ?_
        · go_simp
          refine (CC.out _ _ _ _ _ _ h121q.out).mono ?_
          rintro e u122q ⟨rfl, hb⟩
          have h123q : Hid (Gd n w u122q) := h116q.out.later hb
          have h124q : Hid (Bo u122q n (wl c)) := h117q.out.later hb
          have h125q : Hid (Bo u122q (n + 1) [.int .i64 o, .int .i64 k, .int .i64 x]) := h118q.out.later hb
          have h126q : Hid (Bo u122q (n + 2) (wl wz)) := h119q.out.later hb
          have h127q : Hid (Bo u122q (n + 3) [.int .i64 0, .int .i64 0]) := h120q.out.later hb
          have h128q : Hid (Deeds u122q m b1 b2 b3 b4) := h121q.out.later hb
          clear h116q h117q h118q h119q h120q h121q
          clear h128q
          clear hb
          go_wp2_with fail
          refine hK.out _ _ ⟨h124q.out, h125q.out⟩ (fun hH => ?_)
          clear hK K
          try simp only [Act.put, List.setIfInBounds_toArray, List.set_cons_zero, List.set_cons_succ]
          refine wpAnyH_take (i := 6) (oi := { dst := some 23, op := .move (.tmp 29), type := _, pos := _, after := _, guard := _ }) (v := ?_) rfl (by kernel_rfl) (by kernel_rfl) (by kernel_rfl) (fun _ _ _ h => h) (Or.inl ⟨by rfl, ?_⟩) hH ?_
          rotate_left
          · intro w hSw
            clear hSw
            go_simp
            try with_reducible rfl
          simp only [Act.put, List.setIfInBounds_toArray, List.set_cons_zero, List.set_cons_succ]
          refine wpAnyH_take (i := 7) (oi := { dst := some 30, op := .extract (.tmp 23) 0, type := _, pos := _, after := _, guard := _ }) (v := ?_) rfl (by kernel_rfl) (by kernel_rfl) (by kernel_rfl) (fun _ _ _ h => h) (Or.inl ⟨by rfl, ?_⟩) hH ?_
          rotate_left
          · intro w hSw
            clear hSw
            go_simp
            try with_reducible rfl
          simp only [Act.put, List.setIfInBounds_toArray, List.set_cons_zero, List.set_cons_succ]
          refine wpAnyH_take (i := 8) (oi := { dst := some 31, op := .extract (.tmp 23) 1, type := _, pos := _, after := _, guard := _ }) (v := ?_) rfl (by kernel_rfl) (by kernel_rfl) (by kernel_rfl) (fun _ _ _ h => h) (Or.inl ⟨by rfl, ?_⟩) hH ?_
          rotate_left
          · intro w hSw
            clear hSw
            go_simp
            try with_reducible rfl
          simp only [Act.put, List.setIfInBounds_toArray, List.set_cons_zero, List.set_cons_succ]
          refine wpAnyH_ready (rs := [9, 10]) (by kernel_rfl) (by simp) ?_
          refine AllReadyH.cons (o := { dst := some 9, op := .alloc _, type := _, pos := _, after := _, guard := _ }) rfl (fun K hK => ?_) ?_
          · have l129q : n ≤ u122q.heap.size := h123q.out.le
            have l130q : n < u122q.heap.size := h124q.out.lt
            have l131q : (n + 1) < u122q.heap.size := h125q.out.lt
            have l132q : (n + 2) < u122q.heap.size := h126q.out.lt
            have l133q : (n + 3) < u122q.heap.size := h127q.out.lt
            go_simp
            have h134q : Hid (Gd n w (u122q.alloc (.cells #[.int .u64 0, .int .u64 0, .int .u64 0, .int .u64 0, .int .u64 0, .int .u64 0, .int .u64 0, .int .u64 0, .int .u64 0, .int .u64 0, .int .u64 0, .int .u64 0, .int .u64 0, .int .u64 0, .int .u64 0, .int .u64 0, .int .u64 0] 24))) := h123q.out.new (.cells #[.int .u64 0, .int .u64 0, .int .u64 0, .int .u64 0, .int .u64 0, .int .u64 0, .int .u64 0, .int .u64 0, .int .u64 0, .int .u64 0, .int .u64 0, .int .u64 0, .int .u64 0, .int .u64 0, .int .u64 0, .int .u64 0, .int .u64 0] 24)
            have h135q : Hid (Bo (u122q.alloc (.cells #[.int .u64 0, .int .u64 0, .int .u64 0, .int .u64 0, .int .u64 0, .int .u64 0, .int .u64 0, .int .u64 0, .int .u64 0, .int .u64 0, .int .u64 0, .int .u64 0, .int .u64 0, .int .u64 0, .int .u64 0, .int .u64 0, .int .u64 0] 24)) n (wl c)) := h124q.out.new (.cells #[.int .u64 0, .int .u64 0, .int .u64 0, .int .u64 0, .int .u64 0, .int .u64 0, .int .u64 0, .int .u64 0, .int .u64 0, .int .u64 0, .int .u64 0, .int .u64 0, .int .u64 0, .int .u64 0, .int .u64 0, .int .u64 0, .int .u64 0] 24)
            have h136q : Hid (Bo (u122q.alloc (.cells #[.int .u64 0, .int .u64 0, .int .u64 0, .int .u64 0, .int .u64 0, .int .u64 0, .int .u64 0, .int .u64 0, .int .u64 0, .int .u64 0, .int .u64 0, .int .u64 0, .int .u64 0, .int .u64 0, .int .u64 0, .int .u64 0, .int .u64 0] 24)) (n + 1) [.int .i64 o, .int .i64 k, .int .i64 x]) := h125q.out.new (.cells #[.int .u64 0, .int .u64 0, .int .u64 0, .int .u64 0, .int .u64 0, .int .u64 0, .int .u64 0, .int .u64 0, .int .u64 0, .int .u64 0, .int .u64 0, .int .u64 0, .int .u64 0, .int .u64 0, .int .u64 0, .int .u64 0, .int .u64 0] 24)
            have h137q : Hid (Bo (u122q.alloc (.cells #[.int .u64 0, .int .u64 0, .int .u64 0, .int .u64 0, .int .u64 0, .int .u64 0, .int .u64 0, .int .u64 0, .int .u64 0, .int .u64 0, .int .u64 0, .int .u64 0, .int .u64 0, .int .u64 0, .int .u64 0, .int .u64 0, .int .u64 0] 24)) (n + 2) (wl wz)) := h126q.out.new (.cells #[.int .u64 0, .int .u64 0, .int .u64 0, .int .u64 0, .int .u64 0, .int .u64 0, .int .u64 0, .int .u64 0, .int .u64 0, .int .u64 0, .int .u64 0, .int .u64 0, .int .u64 0, .int .u64 0, .int .u64 0, .int .u64 0, .int .u64 0] 24)
            have h138q : Hid (Bo (u122q.alloc (.cells #[.int .u64 0, .int .u64 0, .int .u64 0, .int .u64 0, .int .u64 0, .int .u64 0, .int .u64 0, .int .u64 0, .int .u64 0, .int .u64 0, .int .u64 0, .int .u64 0, .int .u64 0, .int .u64 0, .int .u64 0, .int .u64 0, .int .u64 0] 24)) (n + 3) [.int .i64 0, .int .i64 0]) := h127q.out.new (.cells #[.int .u64 0, .int .u64 0, .int .u64 0, .int .u64 0, .int .u64 0, .int .u64 0, .int .u64 0, .int .u64 0, .int .u64 0, .int .u64 0, .int .u64 0, .int .u64 0, .int .u64 0, .int .u64 0, .int .u64 0, .int .u64 0, .int .u64 0] 24)
            clear h123q h124q h125q h126q h127q
            have h139q : Hid (Bo (u122q.alloc (.cells #[.int .u64 0, .int .u64 0, .int .u64 0, .int .u64 0, .int .u64 0, .int .u64 0, .int .u64 0, .int .u64 0, .int .u64 0, .int .u64 0, .int .u64 0, .int .u64 0, .int .u64 0, .int .u64 0, .int .u64 0, .int .u64 0, .int .u64 0] 24)) u122q.heap.size (wl wz)) := Bo.born u122q (wl wz) 24 (by simp)
            refine hK.out _ _ ⟨h135q.out, h136q.out⟩ (fun hH => ?_)
            clear hK K
            generalize (u122q.alloc (.cells #[.int .u64 0, .int .u64 0, .int .u64 0, .int .u64 0, .int .u64 0, .int .u64 0, .int .u64 0, .int .u64 0, .int .u64 0, .int .u64 0, .int .u64 0, .int .u64 0, .int .u64 0, .int .u64 0, .int .u64 0, .int .u64 0, .int .u64 0] 24)) = u140q at h134q h135q h136q h137q h138q h139q hH ⊢
            try simp only [Act.put, List.setIfInBounds_toArray, List.set_cons_zero, List.set_cons_succ]
            refine wpAnyH_ready (rs := [10]) (by kernel_rfl) (by simp) ?_
            refine AllReadyH.cons (o := { dst := some 10, op := .alloc _, type := _, pos := _, after := _, guard := _ }) rfl (fun K hK => ?_) AllReadyH.nil
            have l141q : n ≤ u140q.heap.size := h134q.out.le
            have l142q : n < u140q.heap.size := h135q.out.lt
            have l143q : (n + 1) < u140q.heap.size := h136q.out.lt
            have l144q : (n + 2) < u140q.heap.size := h137q.out.lt
            have l145q : (n + 3) < u140q.heap.size := h138q.out.lt
            have l146q : u122q.heap.size < u140q.heap.size := h139q.out.lt
            go_simp
            have h147q : Hid (Gd n w (u140q.alloc (.cells #[.int .i64 0, .int .i64 0] 38))) := h134q.out.new (.cells #[.int .i64 0, .int .i64 0] 38)
            have h148q : Hid (Bo (u140q.alloc (.cells #[.int .i64 0, .int .i64 0] 38)) n (wl c)) := h135q.out.new (.cells #[.int .i64 0, .int .i64 0] 38)
            have h149q : Hid (Bo (u140q.alloc (.cells #[.int .i64 0, .int .i64 0] 38)) (n + 1) [.int .i64 o, .int .i64 k, .int .i64 x]) := h136q.out.new (.cells #[.int .i64 0, .int .i64 0] 38)
            have h150q : Hid (Bo (u140q.alloc (.cells #[.int .i64 0, .int .i64 0] 38)) (n + 2) (wl wz)) := h137q.out.new (.cells #[.int .i64 0, .int .i64 0] 38)
            have h151q : Hid (Bo (u140q.alloc (.cells #[.int .i64 0, .int .i64 0] 38)) (n + 3) [.int .i64 0, .int .i64 0]) := h138q.out.new (.cells #[.int .i64 0, .int .i64 0] 38)
            have h152q : Hid (Bo (u140q.alloc (.cells #[.int .i64 0, .int .i64 0] 38)) u122q.heap.size (wl wz)) := h139q.out.new (.cells #[.int .i64 0, .int .i64 0] 38)
            clear h134q h135q h136q h137q h138q h139q
            have h153q : Hid (Bo (u140q.alloc (.cells #[.int .i64 0, .int .i64 0] 38)) u140q.heap.size [.int .i64 0, .int .i64 0]) := Bo.born u140q [.int .i64 0, .int .i64 0] 38 (by simp)
            refine hK.out _ _ ⟨h148q.out, h149q.out⟩ (fun hH => ?_)
            clear hK K
            generalize (u140q.alloc (.cells #[.int .i64 0, .int .i64 0] 38)) = u154q at h147q h148q h149q h150q h151q h152q h153q hH ⊢
            try simp only [Act.put, List.setIfInBounds_toArray, List.set_cons_zero, List.set_cons_succ]
            refine wpAnyH_ready (rs := [11]) (by kernel_rfl) (by simp) ?_
            refine AllReadyH.cons (o := { dst := none, op := .store _ (.tmp 9) (.tmp 30), type := _, pos := _, after := _, guard := _ }) rfl (fun K hK => ?_) AllReadyH.nil
            rw [if_pos (by rfl)]
            refine wp_store_mid _ _ _ rfl u122q.heap.size _ (wl d).toArray rfl rfl (h152q.out.thereW d) (HCZ.out d) (wl_all d) ?_
            simp only [Act.put]
            have h155q : Hid (Gd n w (u154q.setCells u122q.heap.size 0 (wl d))) := h147q.out.asideL (by omega) 0 (wl d)
            have h156q : Hid (Bo (u154q.setCells u122q.heap.size 0 (wl d)) n (wl c)) := h148q.out.asideL (by omega) 0 (wl d)
            have h157q : Hid (Bo (u154q.setCells u122q.heap.size 0 (wl d)) (n + 1) [.int .i64 o, .int .i64 k, .int .i64 x]) := h149q.out.asideL (by omega) 0 (wl d)
            have h158q : Hid (Bo (u154q.setCells u122q.heap.size 0 (wl d)) (n + 2) (wl wz)) := h150q.out.asideL (by omega) 0 (wl d)
            have h159q : Hid (Bo (u154q.setCells u122q.heap.size 0 (wl d)) (n + 3) [.int .i64 0, .int .i64 0]) := h151q.out.asideL (by omega) 0 (wl d)
            have h160q : Hid (Bo (u154q.setCells u122q.heap.size 0 (wl d)) u122q.heap.size (wl d)) := h152q.out.setW d
            have h161q : Hid (Bo (u154q.setCells u122q.heap.size 0 (wl d)) u140q.heap.size [.int .i64 0, .int .i64 0]) := h153q.out.asideL (by omega) 0 (wl d)
            clear h147q h148q h149q h150q h151q h152q h153q
            refine hK.out _ _ ⟨h156q.out, h157q.out⟩ (fun hH => ?_)
            clear hK K
            generalize (u154q.setCells u122q.heap.size 0 (wl d)) = u162q at h155q h156q h157q h158q h159q h160q h161q hH ⊢
            try simp only [Act.put, List.setIfInBounds_toArray, List.set_cons_zero, List.set_cons_succ]
            refine wpAnyH_ready (rs := [12]) (by kernel_rfl) (by simp) ?_
            refine AllReadyH.cons (o := { dst := none, op := .store _ (.tmp 10) (.tmp 31), type := _, pos := _, after := _, guard := _ }) rfl (fun K hK => ?_) AllReadyH.nil
            rw [if_pos (by rfl)]
            refine wp_store_mid _ _ _ rfl u140q.heap.size _ #[.int .i64 (cc), .int .i64 (y)] rfl rfl h161q.out.there2 HA.out (two_one _ _) ?_
            simp only [Act.put]
            have h163q : Hid (Gd n w (u162q.setCells u140q.heap.size 0 [.int .i64 (cc), .int .i64 (y)])) := h155q.out.asideL (by omega) 0 [.int .i64 (cc), .int .i64 (y)]
            have h164q : Hid (Bo (u162q.setCells u140q.heap.size 0 [.int .i64 (cc), .int .i64 (y)]) n (wl c)) := h156q.out.asideL (by omega) 0 [.int .i64 (cc), .int .i64 (y)]
            have h165q : Hid (Bo (u162q.setCells u140q.heap.size 0 [.int .i64 (cc), .int .i64 (y)]) (n + 1) [.int .i64 o, .int .i64 k, .int .i64 x]) := h157q.out.asideL (by omega) 0 [.int .i64 (cc), .int .i64 (y)]
            have h166q : Hid (Bo (u162q.setCells u140q.heap.size 0 [.int .i64 (cc), .int .i64 (y)]) (n + 2) (wl wz)) := h158q.out.asideL (by omega) 0 [.int .i64 (cc), .int .i64 (y)]
            have h167q : Hid (Bo (u162q.setCells u140q.heap.size 0 [.int .i64 (cc), .int .i64 (y)]) (n + 3) [.int .i64 0, .int .i64 0]) := h159q.out.asideL (by omega) 0 [.int .i64 (cc), .int .i64 (y)]
            have h168q : Hid (Bo (u162q.setCells u140q.heap.size 0 [.int .i64 (cc), .int .i64 (y)]) u122q.heap.size (wl d)) := h160q.out.asideL (by omega) 0 [.int .i64 (cc), .int .i64 (y)]
            have h169q : Hid (Bo (u162q.setCells u140q.heap.size 0 [.int .i64 (cc), .int .i64 (y)]) u140q.heap.size [.int .i64 (cc), .int .i64 (y)]) := h161q.out.set2 (.int .i64 (cc)) (.int .i64 (y))
            clear h155q h156q h157q h158q h159q h160q h161q
            refine hK.out _ _ ⟨h164q.out, h165q.out⟩ (fun hH => ?_)
            clear hK K
            generalize (u162q.setCells u140q.heap.size 0 [.int .i64 (cc), .int .i64 (y)]) = u170q at h163q h164q h165q h166q h167q h168q h169q hH ⊢
            try simp only [Act.put, List.setIfInBounds_toArray, List.set_cons_zero, List.set_cons_succ]
            refine wpAnyH_done (by kernel_rfl) ?_ _
            go_wp2_with fail
            go_meet
            case rel => exact ⟨u122q.heap.size, u140q.heap.size, rfl, rfl, h163q, h166q, h167q, h168q, h169q, (by omega)⟩
          refine AllReadyH.cons (o := { dst := some 10, op := .alloc _, type := _, pos := _, after := _, guard := _ }) rfl (fun K hK => ?_) AllReadyH.nil
          have l171q : n ≤ u122q.heap.size := h123q.out.le
          have l172q : n < u122q.heap.size := h124q.out.lt
          have l173q : (n + 1) < u122q.heap.size := h125q.out.lt
          have l174q : (n + 2) < u122q.heap.size := h126q.out.lt
          have l175q : (n + 3) < u122q.heap.size := h127q.out.lt
          go_simp
          have h176q : Hid (Gd n w (u122q.alloc (.cells #[.int .i64 0, .int .i64 0] 38))) := h123q.out.new (.cells #[.int .i64 0, .int .i64 0] 38)
          have h177q : Hid (Bo (u122q.alloc (.cells #[.int .i64 0, .int .i64 0] 38)) n (wl c)) := h124q.out.new (.cells #[.int .i64 0, .int .i64 0] 38)
          have h178q : Hid (Bo (u122q.alloc (.cells #[.int .i64 0, .int .i64 0] 38)) (n + 1) [.int .i64 o, .int .i64 k, .int .i64 x]) := h125q.out.new (.cells #[.int .i64 0, .int .i64 0] 38)
          have h179q : Hid (Bo (u122q.alloc (.cells #[.int .i64 0, .int .i64 0] 38)) (n + 2) (wl wz)) := h126q.out.new (.cells #[.int .i64 0, .int .i64 0] 38)
          have h180q : Hid (Bo (u122q.alloc (.cells #[.int .i64 0, .int .i64 0] 38)) (n + 3) [.int .i64 0, .int .i64 0]) := h127q.out.new (.cells #[.int .i64 0, .int .i64 0] 38)
          clear h123q h124q h125q h126q h127q
          have h181q : Hid (Bo (u122q.alloc (.cells #[.int .i64 0, .int .i64 0] 38)) u122q.heap.size [.int .i64 0, .int .i64 0]) := Bo.born u122q [.int .i64 0, .int .i64 0] 38 (by simp)
          refine hK.out _ _ ⟨h177q.out, h178q.out⟩ (fun hH => ?_)
          clear hK K
          generalize (u122q.alloc (.cells #[.int .i64 0, .int .i64 0] 38)) = u182q at h176q h177q h178q h179q h180q h181q hH ⊢
          try simp only [Act.put, List.setIfInBounds_toArray, List.set_cons_zero, List.set_cons_succ]
          refine wpAnyH_ready (rs := [9]) (by kernel_rfl) (by simp) ?_
          refine AllReadyH.cons (o := { dst := some 9, op := .alloc _, type := _, pos := _, after := _, guard := _ }) rfl (fun K hK => ?_) AllReadyH.nil
          have l183q : n ≤ u182q.heap.size := h176q.out.le
          have l184q : n < u182q.heap.size := h177q.out.lt
          have l185q : (n + 1) < u182q.heap.size := h178q.out.lt
          have l186q : (n + 2) < u182q.heap.size := h179q.out.lt
          have l187q : (n + 3) < u182q.heap.size := h180q.out.lt
          have l188q : u122q.heap.size < u182q.heap.size := h181q.out.lt
          go_simp
          have h189q : Hid (Gd n w (u182q.alloc (.cells #[.int .u64 0, .int .u64 0, .int .u64 0, .int .u64 0, .int .u64 0, .int .u64 0, .int .u64 0, .int .u64 0, .int .u64 0, .int .u64 0, .int .u64 0, .int .u64 0, .int .u64 0, .int .u64 0, .int .u64 0, .int .u64 0, .int .u64 0] 24))) := h176q.out.new (.cells #[.int .u64 0, .int .u64 0, .int .u64 0, .int .u64 0, .int .u64 0, .int .u64 0, .int .u64 0, .int .u64 0, .int .u64 0, .int .u64 0, .int .u64 0, .int .u64 0, .int .u64 0, .int .u64 0, .int .u64 0, .int .u64 0, .int .u64 0] 24)
          have h190q : Hid (Bo (u182q.alloc (.cells #[.int .u64 0, .int .u64 0, .int .u64 0, .int .u64 0, .int .u64 0, .int .u64 0, .int .u64 0, .int .u64 0, .int .u64 0, .int .u64 0, .int .u64 0, .int .u64 0, .int .u64 0, .int .u64 0, .int .u64 0, .int .u64 0, .int .u64 0] 24)) n (wl c)) := h177q.out.new (.cells #[.int .u64 0, .int .u64 0, .int .u64 0, .int .u64 0, .int .u64 0, .int .u64 0, .int .u64 0, .int .u64 0, .int .u64 0, .int .u64 0, .int .u64 0, .int .u64 0, .int .u64 0, .int .u64 0, .int .u64 0, .int .u64 0, .int .u64 0] 24)
          have h191q : Hid (Bo (u182q.alloc (.cells #[.int .u64 0, .int .u64 0, .int .u64 0, .int .u64 0, .int .u64 0, .int .u64 0, .int .u64 0, .int .u64 0, .int .u64 0, .int .u64 0, .int .u64 0, .int .u64 0, .int .u64 0, .int .u64 0, .int .u64 0, .int .u64 0, .int .u64 0] 24)) (n + 1) [.int .i64 o, .int .i64 k, .int .i64 x]) := h178q.out.new (.cells #[.int .u64 0, .int .u64 0, .int .u64 0, .int .u64 0, .int .u64 0, .int .u64 0, .int .u64 0, .int .u64 0, .int .u64 0, .int .u64 0, .int .u64 0, .int .u64 0, .int .u64 0, .int .u64 0, .int .u64 0, .int .u64 0, .int .u64 0] 24)
          have h192q : Hid (Bo (u182q.alloc (.cells #[.int .u64 0, .int .u64 0, .int .u64 0, .int .u64 0, .int .u64 0, .int .u64 0, .int .u64 0, .int .u64 0, .int .u64 0, .int .u64 0, .int .u64 0, .int .u64 0, .int .u64 0, .int .u64 0, .int .u64 0, .int .u64 0, .int .u64 0] 24)) (n + 2) (wl wz)) := h179q.out.new (.cells #[.int .u64 0, .int .u64 0, .int .u64 0, .int .u64 0, .int .u64 0, .int .u64 0, .int .u64 0, .int .u64 0, .int .u64 0, .int .u64 0, .int .u64 0, .int .u64 0, .int .u64 0, .int .u64 0, .int .u64 0, .int .u64 0, .int .u64 0] 24)
          have h193q : Hid (Bo (u182q.alloc (.cells #[.int .u64 0, .int .u64 0, .int .u64 0, .int .u64 0, .int .u64 0, .int .u64 0, .int .u64 0, .int .u64 0, .int .u64 0, .int .u64 0, .int .u64 0, .int .u64 0, .int .u64 0, .int .u64 0, .int .u64 0, .int .u64 0, .int .u64 0] 24)) (n + 3) [.int .i64 0, .int .i64 0]) := h180q.out.new (.cells #[.int .u64 0, .int .u64 0, .int .u64 0, .int .u64 0, .int .u64 0, .int .u64 0, .int .u64 0, .int .u64 0, .int .u64 0, .int .u64 0, .int .u64 0, .int .u64 0, .int .u64 0, .int .u64 0, .int .u64 0, .int .u64 0, .int .u64 0] 24)
          have h194q : Hid (Bo (u182q.alloc (.cells #[.int .u64 0, .int .u64 0, .int .u64 0, .int .u64 0, .int .u64 0, .int .u64 0, .int .u64 0, .int .u64 0, .int .u64 0, .int .u64 0, .int .u64 0, .int .u64 0, .int .u64 0, .int .u64 0, .int .u64 0, .int .u64 0, .int .u64 0] 24)) u122q.heap.size [.int .i64 0, .int .i64 0]) := h181q.out.new (.cells #[.int .u64 0, .int .u64 0, .int .u64 0, .int .u64 0, .int .u64 0, .int .u64 0, .int .u64 0, .int .u64 0, .int .u64 0, .int .u64 0, .int .u64 0, .int .u64 0, .int .u64 0, .int .u64 0, .int .u64 0, .int .u64 0, .int .u64 0] 24)
          clear h176q h177q h178q h179q h180q h181q
          have h195q : Hid (Bo (u182q.alloc (.cells #[.int .u64 0, .int .u64 0, .int .u64 0, .int .u64 0, .int .u64 0, .int .u64 0, .int .u64 0, .int .u64 0, .int .u64 0, .int .u64 0, .int .u64 0, .int .u64 0, .int .u64 0, .int .u64 0, .int .u64 0, .int .u64 0, .int .u64 0] 24)) u182q.heap.size (wl wz)) := Bo.born u182q (wl wz) 24 (by simp)
          refine hK.out _ _ ⟨h190q.out, h191q.out⟩ (fun hH => ?_)
          clear hK K
          generalize (u182q.alloc (.cells #[.int .u64 0, .int .u64 0, .int .u64 0, .int .u64 0, .int .u64 0, .int .u64 0, .int .u64 0, .int .u64 0, .int .u64 0, .int .u64 0, .int .u64 0, .int .u64 0, .int .u64 0, .int .u64 0, .int .u64 0, .int .u64 0, .int .u64 0] 24)) = u196q at h189q h190q h191q h192q h193q h194q h195q hH ⊢
          try simp only [Act.put, List.setIfInBounds_toArray, List.set_cons_zero, List.set_cons_succ]
          refine wpAnyH_ready (rs := [11]) (by kernel_rfl) (by simp) ?_
          refine AllReadyH.cons (o := { dst := none, op := .store _ (.tmp 9) (.tmp 30), type := _, pos := _, after := _, guard := _ }) rfl (fun K hK => ?_) AllReadyH.nil
          rw [if_pos (by rfl)]
          refine wp_store_mid _ _ _ rfl u182q.heap.size _ (wl d).toArray rfl rfl (h195q.out.thereW d) (HCZ.out d) (wl_all d) ?_
          simp only [Act.put]
          have h197q : Hid (Gd n w (u196q.setCells u182q.heap.size 0 (wl d))) := h189q.out.asideL (by omega) 0 (wl d)
          have h198q : Hid (Bo (u196q.setCells u182q.heap.size 0 (wl d)) n (wl c)) := h190q.out.asideL (by omega) 0 (wl d)
          have h199q : Hid (Bo (u196q.setCells u182q.heap.size 0 (wl d)) (n + 1) [.int .i64 o, .int .i64 k, .int .i64 x]) := h191q.out.asideL (by omega) 0 (wl d)
          have h200q : Hid (Bo (u196q.setCells u182q.heap.size 0 (wl d)) (n + 2) (wl wz)) := h192q.out.asideL (by omega) 0 (wl d)
          have h201q : Hid (Bo (u196q.setCells u182q.heap.size 0 (wl d)) (n + 3) [.int .i64 0, .int .i64 0]) := h193q.out.asideL (by omega) 0 (wl d)
          have h202q : Hid (Bo (u196q.setCells u182q.heap.size 0 (wl d)) u122q.heap.size [.int .i64 0, .int .i64 0]) := h194q.out.asideL (by omega) 0 (wl d)
          have h203q : Hid (Bo (u196q.setCells u182q.heap.size 0 (wl d)) u182q.heap.size (wl d)) := h195q.out.setW d
          clear h189q h190q h191q h192q h193q h194q h195q
          refine hK.out _ _ ⟨h198q.out, h199q.out⟩ (fun hH => ?_)
          clear hK K
          generalize (u196q.setCells u182q.heap.size 0 (wl d)) = u204q at h197q h198q h199q h200q h201q h202q h203q hH ⊢
          try simp only [Act.put, List.setIfInBounds_toArray, List.set_cons_zero, List.set_cons_succ]
          refine wpAnyH_ready (rs := [12]) (by kernel_rfl) (by simp) ?_
          refine AllReadyH.cons (o := { dst := none, op := .store _ (.tmp 10) (.tmp 31), type := _, pos := _, after := _, guard := _ }) rfl (fun K hK => ?_) AllReadyH.nil
          rw [if_pos (by rfl)]
          refine wp_store_mid _ _ _ rfl u122q.heap.size _ #[.int .i64 (cc), .int .i64 (y)] rfl rfl h202q.out.there2 HA.out (two_one _ _) ?_
          simp only [Act.put]
          have h205q : Hid (Gd n w (u204q.setCells u122q.heap.size 0 [.int .i64 (cc), .int .i64 (y)])) := h197q.out.asideL (by omega) 0 [.int .i64 (cc), .int .i64 (y)]
          have h206q : Hid (Bo (u204q.setCells u122q.heap.size 0 [.int .i64 (cc), .int .i64 (y)]) n (wl c)) := h198q.out.asideL (by omega) 0 [.int .i64 (cc), .int .i64 (y)]
          have h207q : Hid (Bo (u204q.setCells u122q.heap.size 0 [.int .i64 (cc), .int .i64 (y)]) (n + 1) [.int .i64 o, .int .i64 k, .int .i64 x]) := h199q.out.asideL (by omega) 0 [.int .i64 (cc), .int .i64 (y)]
          have h208q : Hid (Bo (u204q.setCells u122q.heap.size 0 [.int .i64 (cc), .int .i64 (y)]) (n + 2) (wl wz)) := h200q.out.asideL (by omega) 0 [.int .i64 (cc), .int .i64 (y)]
          have h209q : Hid (Bo (u204q.setCells u122q.heap.size 0 [.int .i64 (cc), .int .i64 (y)]) (n + 3) [.int .i64 0, .int .i64 0]) := h201q.out.asideL (by omega) 0 [.int .i64 (cc), .int .i64 (y)]
          have h210q : Hid (Bo (u204q.setCells u122q.heap.size 0 [.int .i64 (cc), .int .i64 (y)]) u122q.heap.size [.int .i64 (cc), .int .i64 (y)]) := h202q.out.set2 (.int .i64 (cc)) (.int .i64 (y))
          have h211q : Hid (Bo (u204q.setCells u122q.heap.size 0 [.int .i64 (cc), .int .i64 (y)]) u182q.heap.size (wl d)) := h203q.out.asideL (by omega) 0 [.int .i64 (cc), .int .i64 (y)]
          clear h197q h198q h199q h200q h201q h202q h203q
          refine hK.out _ _ ⟨h206q.out, h207q.out⟩ (fun hH => ?_)
          clear hK K
          generalize (u204q.setCells u122q.heap.size 0 [.int .i64 (cc), .int .i64 (y)]) = u212q at h205q h206q h207q h208q h209q h210q h211q hH ⊢
          try simp only [Act.put, List.setIfInBounds_toArray, List.set_cons_zero, List.set_cons_succ]
          refine wpAnyH_done (by kernel_rfl) ?_ _
          go_wp2_with fail
          go_meet
          case rel => exact ⟨u182q.heap.size, u122q.heap.size, rfl, rfl, h205q, h208q, h209q, h211q, h210q, (by omega)⟩
        refine AllReadyH.cons (o := { dst := some 9, op := .alloc _, type := _, pos := _, after := _, guard := _ }) rfl (fun K hK => ?_) ?_
        · have l213q : n ≤ u115q.heap.size := h116q.out.le
          have l214q : n < u115q.heap.size := h117q.out.lt
          have l215q : (n + 1) < u115q.heap.size := h118q.out.lt
          have l216q : (n + 2) < u115q.heap.size := h119q.out.lt
          have l217q : (n + 3) < u115q.heap.size := h120q.out.lt
          go_simp
          have h218q : Hid (Gd n w (u115q.alloc (.cells #[.int .u64 0, .int .u64 0, .int .u64 0, .int .u64 0, .int .u64 0, .int .u64 0, .int .u64 0, .int .u64 0, .int .u64 0, .int .u64 0, .int .u64 0, .int .u64 0, .int .u64 0, .int .u64 0, .int .u64 0, .int .u64 0, .int .u64 0] 24))) := h116q.out.new (.cells #[.int .u64 0, .int .u64 0, .int .u64 0, .int .u64 0, .int .u64 0, .int .u64 0, .int .u64 0, .int .u64 0, .int .u64 0, .int .u64 0, .int .u64 0, .int .u64 0, .int .u64 0, .int .u64 0, .int .u64 0, .int .u64 0, .int .u64 0] 24)
          have h219q : Hid (Bo (u115q.alloc (.cells #[.int .u64 0, .int .u64 0, .int .u64 0, .int .u64 0, .int .u64 0, .int .u64 0, .int .u64 0, .int .u64 0, .int .u64 0, .int .u64 0, .int .u64 0, .int .u64 0, .int .u64 0, .int .u64 0, .int .u64 0, .int .u64 0, .int .u64 0] 24)) n (wl c)) := h117q.out.new (.cells #[.int .u64 0, .int .u64 0, .int .u64 0, .int .u64 0, .int .u64 0, .int .u64 0, .int .u64 0, .int .u64 0, .int .u64 0, .int .u64 0, .int .u64 0, .int .u64 0, .int .u64 0, .int .u64 0, .int .u64 0, .int .u64 0, .int .u64 0] 24)
          have h220q : Hid (Bo (u115q.alloc (.cells #[.int .u64 0, .int .u64 0, .int .u64 0, .int .u64 0, .int .u64 0, .int .u64 0, .int .u64 0, .int .u64 0, .int .u64 0, .int .u64 0, .int .u64 0, .int .u64 0, .int .u64 0, .int .u64 0, .int .u64 0, .int .u64 0, .int .u64 0] 24)) (n + 1) [.int .i64 o, .int .i64 k, .int .i64 x]) := h118q.out.new (.cells #[.int .u64 0, .int .u64 0, .int .u64 0, .int .u64 0, .int .u64 0, .int .u64 0, .int .u64 0, .int .u64 0, .int .u64 0, .int .u64 0, .int .u64 0, .int .u64 0, .int .u64 0, .int .u64 0, .int .u64 0, .int .u64 0, .int .u64 0] 24)
          have h221q : Hid (Bo (u115q.alloc (.cells #[.int .u64 0, .int .u64 0, .int .u64 0, .int .u64 0, .int .u64 0, .int .u64 0, .int .u64 0, .int .u64 0, .int .u64 0, .int .u64 0, .int .u64 0, .int .u64 0, .int .u64 0, .int .u64 0, .int .u64 0, .int .u64 0, .int .u64 0] 24)) (n + 2) (wl wz)) := h119q.out.new (.cells #[.int .u64 0, .int .u64 0, .int .u64 0, .int .u64 0, .int .u64 0, .int .u64 0, .int .u64 0, .int .u64 0, .int .u64 0, .int .u64 0, .int .u64 0, .int .u64 0, .int .u64 0, .int .u64 0, .int .u64 0, .int .u64 0, .int .u64 0] 24)
          have h222q : Hid (Bo (u115q.alloc (.cells #[.int .u64 0, .int .u64 0, .int .u64 0, .int .u64 0, .int .u64 0, .int .u64 0, .int .u64 0, .int .u64 0, .int .u64 0, .int .u64 0, .int .u64 0, .int .u64 0, .int .u64 0, .int .u64 0, .int .u64 0, .int .u64 0, .int .u64 0] 24)) (n + 3) [.int .i64 0, .int .i64 0]) := h120q.out.new (.cells #[.int .u64 0, .int .u64 0, .int .u64 0, .int .u64 0, .int .u64 0, .int .u64 0, .int .u64 0, .int .u64 0, .int .u64 0, .int .u64 0, .int .u64 0, .int .u64 0, .int .u64 0, .int .u64 0, .int .u64 0, .int .u64 0, .int .u64 0] 24)
          have h223q : Hid (Deeds (u115q.alloc (.cells #[.int .u64 0, .int .u64 0, .int .u64 0, .int .u64 0, .int .u64 0, .int .u64 0, .int .u64 0, .int .u64 0, .int .u64 0, .int .u64 0, .int .u64 0, .int .u64 0, .int .u64 0, .int .u64 0, .int .u64 0, .int .u64 0, .int .u64 0] 24)) m b1 b2 b3 b4) := h121q.out.new (.cells #[.int .u64 0, .int .u64 0, .int .u64 0, .int .u64 0, .int .u64 0, .int .u64 0, .int .u64 0, .int .u64 0, .int .u64 0, .int .u64 0, .int .u64 0, .int .u64 0, .int .u64 0, .int .u64 0, .int .u64 0, .int .u64 0, .int .u64 0] 24)
          clear h116q h117q h118q h119q h120q h121q
          have h224q : Hid (Bo (u115q.alloc (.cells #[.int .u64 0, .int .u64 0, .int .u64 0, .int .u64 0, .int .u64 0, .int .u64 0, .int .u64 0, .int .u64 0, .int .u64 0, .int .u64 0, .int .u64 0, .int .u64 0, .int .u64 0, .int .u64 0, .int .u64 0, .int .u64 0, .int .u64 0] 24)) u115q.heap.size (wl wz)) := Bo.born u115q (wl wz) 24 (by simp)
          refine hK.out _ _ ⟨h219q.out, h220q.out⟩ (fun hH => ?_)
          clear hK K
          generalize (u115q.alloc (.cells #[.int .u64 0, .int .u64 0, .int .u64 0, .int .u64 0, .int .u64 0, .int .u64 0, .int .u64 0, .int .u64 0, .int .u64 0, .int .u64 0, .int .u64 0, .int .u64 0, .int .u64 0, .int .u64 0, .int .u64 0, .int .u64 0, .int .u64 0] 24)) = u225q at h218q h219q h220q h221q h222q h223q h224q hH ⊢
          try simp only [Act.put, List.setIfInBounds_toArray, List.set_cons_zero, List.set_cons_succ]
          refine wpAnyH_ready (rs := [5, 10]) (by kernel_rfl) (by simp) ?_
          refine AllReadyH.cons (o := { dst := some 29, op := _, type := _, pos := _, after := _, guard := _ }) rfl (fun K hK => ?_) ?_
          · go_simp
            refine (CC.out _ _ _ _ _ _ h223q.out).mono ?_
            rintro e u226q ⟨rfl, hb⟩
            have h227q : Hid (Gd n w u226q) := h218q.out.later hb
            have h228q : Hid (Bo u226q n (wl c)) := h219q.out.later hb
            have h229q : Hid (Bo u226q (n + 1) [.int .i64 o, .int .i64 k, .int .i64 x]) := h220q.out.later hb
            have h230q : Hid (Bo u226q (n + 2) (wl wz)) := h221q.out.later hb
            have h231q : Hid (Bo u226q (n + 3) [.int .i64 0, .int .i64 0]) := h222q.out.later hb
            have h232q : Hid (Deeds u226q m b1 b2 b3 b4) := h223q.out.later hb
            have h233q : Hid (Bo u226q u115q.heap.size (wl wz)) := h224q.out.later hb
            clear h218q h219q h220q h221q h222q h223q h224q
            clear h232q
            clear hb
            go_wp2_with fail
            refine hK.out _ _ ⟨h228q.out, h229q.out⟩ (fun hH => ?_)
            clear hK K
            try simp only [Act.put, List.setIfInBounds_toArray, List.set_cons_zero, List.set_cons_succ]
            refine wpAnyH_take (i := 6) (oi := { dst := some 23, op := .move (.tmp 29), type := _, pos := _, after := _, guard := _ }) (v := ?_) rfl (by kernel_rfl) (by kernel_rfl) (by kernel_rfl) (fun _ _ _ h => h) (Or.inl ⟨by rfl, ?_⟩) hH ?_
            rotate_left
            · intro w hSw
              clear hSw
              go_simp
              try with_reducible rfl
            simp only [Act.put, List.setIfInBounds_toArray, List.set_cons_zero, List.set_cons_succ]
            refine wpAnyH_take (i := 7) (oi := { dst := some 30, op := .extract (.tmp 23) 0, type := _, pos := _, after := _, guard := _ }) (v := ?_) rfl (by kernel_rfl) (by kernel_rfl) (by kernel_rfl) (fun _ _ _ h => h) (Or.inl ⟨by rfl, ?_⟩) hH ?_
            rotate_left
            · intro w hSw
              clear hSw
              go_simp
              try with_reducible rfl
            simp only [Act.put, List.setIfInBounds_toArray, List.set_cons_zero, List.set_cons_succ]
            refine wpAnyH_take (i := 8) (oi := { dst := some 31, op := .extract (.tmp 23) 1, type := _, pos := _, after := _, guard := _ }) (v := ?_) rfl (by kernel_rfl) (by kernel_rfl) (by kernel_rfl) (fun _ _ _ h => h) (Or.inl ⟨by rfl, ?_⟩) hH ?_
            rotate_left
            · intro w hSw
              clear hSw
              go_simp
              try with_reducible rfl
            simp only [Act.put, List.setIfInBounds_toArray, List.set_cons_zero, List.set_cons_succ]
            refine wpAnyH_ready (rs := [10]) (by kernel_rfl) (by simp) ?_
            refine AllReadyH.cons (o := { dst := some 10, op := .alloc _, type := _, pos := _, after := _, guard := _ }) rfl (fun K hK => ?_) AllReadyH.nil
            have l234q : n ≤ u226q.heap.size := h227q.out.le
            have l235q : n < u226q.heap.size := h228q.out.lt
            have l236q : (n + 1) < u226q.heap.size := h229q.out.lt
            have l237q : (n + 2) < u226q.heap.size := h230q.out.lt
            have l238q : (n + 3) < u226q.heap.size := h231q.out.lt
            have l239q : u115q.heap.size < u226q.heap.size := h233q.out.lt
            go_simp
            have h240q : Hid (Gd n w (u226q.alloc (.cells #[.int .i64 0, .int .i64 0] 38))) := h227q.out.new (.cells #[.int .i64 0, .int .i64 0] 38)
            have h241q : Hid (Bo (u226q.alloc (.cells #[.int .i64 0, .int .i64 0] 38)) n (wl c)) := h228q.out.new (.cells #[.int .i64 0, .int .i64 0] 38)
            have h242q : Hid (Bo (u226q.alloc (.cells #[.int .i64 0, .int .i64 0] 38)) (n + 1) [.int .i64 o, .int .i64 k, .int .i64 x]) := h229q.out.new (.cells #[.int .i64 0, .int .i64 0] 38)
            have h243q : Hid (Bo (u226q.alloc (.cells #[.int .i64 0, .int .i64 0] 38)) (n + 2) (wl wz)) := h230q.out.new (.cells #[.int .i64 0, .int .i64 0] 38)
            have h244q : Hid (Bo (u226q.alloc (.cells #[.int .i64 0, .int .i64 0] 38)) (n + 3) [.int .i64 0, .int .i64 0]) := h231q.out.new (.cells #[.int .i64 0, .int .i64 0] 38)
            have h245q : Hid (Bo (u226q.alloc (.cells #[.int .i64 0, .int .i64 0] 38)) u115q.heap.size (wl wz)) := h233q.out.new (.cells #[.int .i64 0, .int .i64 0] 38)
            clear h227q h228q h229q h230q h231q h233q
            have h246q : Hid (Bo (u226q.alloc (.cells #[.int .i64 0, .int .i64 0] 38)) u226q.heap.size [.int .i64 0, .int .i64 0]) := Bo.born u226q [.int .i64 0, .int .i64 0] 38 (by simp)
            refine hK.out _ _ ⟨h241q.out, h242q.out⟩ (fun hH => ?_)
            clear hK K
            generalize (u226q.alloc (.cells #[.int .i64 0, .int .i64 0] 38)) = u247q at h240q h241q h242q h243q h244q h245q h246q hH ⊢
            try simp only [Act.put, List.setIfInBounds_toArray, List.set_cons_zero, List.set_cons_succ]
            refine wpAnyH_ready (rs := [11]) (by kernel_rfl) (by simp) ?_
            refine AllReadyH.cons (o := { dst := none, op := .store _ (.tmp 9) (.tmp 30), type := _, pos := _, after := _, guard := _ }) rfl (fun K hK => ?_) AllReadyH.nil
            rw [if_pos (by rfl)]
            refine wp_store_mid _ _ _ rfl u115q.heap.size _ (wl d).toArray rfl rfl (h245q.out.thereW d) (HCZ.out d) (wl_all d) ?_
            simp only [Act.put]
            have h248q : Hid (Gd n w (u247q.setCells u115q.heap.size 0 (wl d))) := h240q.out.asideL (by omega) 0 (wl d)
            have h249q : Hid (Bo (u247q.setCells u115q.heap.size 0 (wl d)) n (wl c)) := h241q.out.asideL (by omega) 0 (wl d)
            have h250q : Hid (Bo (u247q.setCells u115q.heap.size 0 (wl d)) (n + 1) [.int .i64 o, .int .i64 k, .int .i64 x]) := h242q.out.asideL (by omega) 0 (wl d)
            have h251q : Hid (Bo (u247q.setCells u115q.heap.size 0 (wl d)) (n + 2) (wl wz)) := h243q.out.asideL (by omega) 0 (wl d)
            have h252q : Hid (Bo (u247q.setCells u115q.heap.size 0 (wl d)) (n + 3) [.int .i64 0, .int .i64 0]) := h244q.out.asideL (by omega) 0 (wl d)
            have h253q : Hid (Bo (u247q.setCells u115q.heap.size 0 (wl d)) u115q.heap.size (wl d)) := h245q.out.setW d
            have h254q : Hid (Bo (u247q.setCells u115q.heap.size 0 (wl d)) u226q.heap.size [.int .i64 0, .int .i64 0]) := h246q.out.asideL (by omega) 0 (wl d)
            clear h240q h241q h242q h243q h244q h245q h246q
            refine hK.out _ _ ⟨h249q.out, h250q.out⟩ (fun hH => ?_)
            clear hK K
            generalize (u247q.setCells u115q.heap.size 0 (wl d)) = u255q at h248q h249q h250q h251q h252q h253q h254q hH ⊢
            try simp only [Act.put, List.setIfInBounds_toArray, List.set_cons_zero, List.set_cons_succ]
            refine wpAnyH_ready (rs := [12]) (by kernel_rfl) (by simp) ?_
            refine AllReadyH.cons (o := { dst := none, op := .store _ (.tmp 10) (.tmp 31), type := _, pos := _, after := _, guard := _ }) rfl (fun K hK => ?_) AllReadyH.nil
            rw [if_pos (by rfl)]
            refine wp_store_mid _ _ _ rfl u226q.heap.size _ #[.int .i64 (cc), .int .i64 (y)] rfl rfl h254q.out.there2 HA.out (two_one _ _) ?_
            simp only [Act.put]
            have h256q : Hid (Gd n w (u255q.setCells u226q.heap.size 0 [.int .i64 (cc), .int .i64 (y)])) := h248q.out.asideL (by omega) 0 [.int .i64 (cc), .int .i64 (y)]
            have h257q : Hid (Bo (u255q.setCells u226q.heap.size 0 [.int .i64 (cc), .int .i64 (y)]) n (wl c)) := h249q.out.asideL (by omega) 0 [.int .i64 (cc), .int .i64 (y)]
            have h258q : Hid (Bo (u255q.setCells u226q.heap.size 0 [.int .i64 (cc), .int .i64 (y)]) (n + 1) [.int .i64 o, .int .i64 k, .int .i64 x]) := h250q.out.asideL (by omega) 0 [.int .i64 (cc), .int .i64 (y)]
            have h259q : Hid (Bo (u255q.setCells u226q.heap.size 0 [.int .i64 (cc), .int .i64 (y)]) (n + 2) (wl wz)) := h251q.out.asideL (by omega) 0 [.int .i64 (cc), .int .i64 (y)]
            have h260q : Hid (Bo (u255q.setCells u226q.heap.size 0 [.int .i64 (cc), .int .i64 (y)]) (n + 3) [.int .i64 0, .int .i64 0]) := h252q.out.asideL (by omega) 0 [.int .i64 (cc), .int .i64 (y)]
            have h261q : Hid (Bo (u255q.setCells u226q.heap.size 0 [.int .i64 (cc), .int .i64 (y)]) u115q.heap.size (wl d)) := h253q.out.asideL (by omega) 0 [.int .i64 (cc), .int .i64 (y)]
            have h262q : Hid (Bo (u255q.setCells u226q.heap.size 0 [.int .i64 (cc), .int .i64 (y)]) u226q.heap.size [.int .i64 (cc), .int .i64 (y)]) := h254q.out.set2 (.int .i64 (cc)) (.int .i64 (y))
            clear h248q h249q h250q h251q h252q h253q h254q
            refine hK.out _ _ ⟨h257q.out, h258q.out⟩ (fun hH => ?_)
            clear hK K
            generalize (u255q.setCells u226q.heap.size 0 [.int .i64 (cc), .int .i64 (y)]) = u263q at h256q h257q h258q h259q h260q h261q h262q hH ⊢
            try simp only [Act.put, List.setIfInBounds_toArray, List.set_cons_zero, List.set_cons_succ]
            refine wpAnyH_done (by kernel_rfl) ?_ _
            go_wp2_with fail
            go_meet
            case rel => exact ⟨u115q.heap.size, u226q.heap.size, rfl, rfl, h256q, h259q, h260q, h261q, h262q, (by omega)⟩
          refine AllReadyH.cons (o := { dst := some 10, op := .alloc _, type := _, pos := _, after := _, guard := _ }) rfl (fun K hK => ?_) AllReadyH.nil
          have l264q : n ≤ u225q.heap.size := h218q.out.le
          have l265q : n < u225q.heap.size := h219q.out.lt
          have l266q : (n + 1) < u225q.heap.size := h220q.out.lt
          have l267q : (n + 2) < u225q.heap.size := h221q.out.lt
          have l268q : (n + 3) < u225q.heap.size := h222q.out.lt
          have l269q : u115q.heap.size < u225q.heap.size := h224q.out.lt
          go_simp
          have h270q : Hid (Gd n w (u225q.alloc (.cells #[.int .i64 0, .int .i64 0] 38))) := h218q.out.new (.cells #[.int .i64 0, .int .i64 0] 38)
          have h271q : Hid (Bo (u225q.alloc (.cells #[.int .i64 0, .int .i64 0] 38)) n (wl c)) := h219q.out.new (.cells #[.int .i64 0, .int .i64 0] 38)
          have h272q : Hid (Bo (u225q.alloc (.cells #[.int .i64 0, .int .i64 0] 38)) (n + 1) [.int .i64 o, .int .i64 k, .int .i64 x]) := h220q.out.new (.cells #[.int .i64 0, .int .i64 0] 38)
          have h273q : Hid (Bo (u225q.alloc (.cells #[.int .i64 0, .int .i64 0] 38)) (n + 2) (wl wz)) := h221q.out.new (.cells #[.int .i64 0, .int .i64 0] 38)
          have h274q : Hid (Bo (u225q.alloc (.cells #[.int .i64 0, .int .i64 0] 38)) (n + 3) [.int .i64 0, .int .i64 0]) := h222q.out.new (.cells #[.int .i64 0, .int .i64 0] 38)
          have h275q : Hid (Deeds (u225q.alloc (.cells #[.int .i64 0, .int .i64 0] 38)) m b1 b2 b3 b4) := h223q.out.new (.cells #[.int .i64 0, .int .i64 0] 38)
          have h276q : Hid (Bo (u225q.alloc (.cells #[.int .i64 0, .int .i64 0] 38)) u115q.heap.size (wl wz)) := h224q.out.new (.cells #[.int .i64 0, .int .i64 0] 38)
          clear h218q h219q h220q h221q h222q h223q h224q
          have h277q : Hid (Bo (u225q.alloc (.cells #[.int .i64 0, .int .i64 0] 38)) u225q.heap.size [.int .i64 0, .int .i64 0]) := Bo.born u225q [.int .i64 0, .int .i64 0] 38 (by simp)
          refine hK.out _ _ ⟨h271q.out, h272q.out⟩ (fun hH => ?_)
          clear hK K
          generalize (u225q.alloc (.cells #[.int .i64 0, .int .i64 0] 38)) = u278q at h270q h271q h272q h273q h274q h275q h276q h277q hH ⊢
          try simp only [Act.put, List.setIfInBounds_toArray, List.set_cons_zero, List.set_cons_succ]
          refine wpAnyH_ready (rs := [5]) (by kernel_rfl) (by simp) ?_
          refine AllReadyH.cons (o := { dst := some 29, op := _, type := _, pos := _, after := _, guard := _ }) rfl (fun K hK => ?_) AllReadyH.nil
          go_simp
          refine (CC.out _ _ _ _ _ _ h275q.out).mono ?_
          rintro e u279q ⟨rfl, hb⟩
          have h280q : Hid (Gd n w u279q) := h270q.out.later hb
          have h281q : Hid (Bo u279q n (wl c)) := h271q.out.later hb
          have h282q : Hid (Bo u279q (n + 1) [.int .i64 o, .int .i64 k, .int .i64 x]) := h272q.out.later hb
          have h283q : Hid (Bo u279q (n + 2) (wl wz)) := h273q.out.later hb
          have h284q : Hid (Bo u279q (n + 3) [.int .i64 0, .int .i64 0]) := h274q.out.later hb
          have h285q : Hid (Deeds u279q m b1 b2 b3 b4) := h275q.out.later hb
          have h286q : Hid (Bo u279q u115q.heap.size (wl wz)) := h276q.out.later hb
          have h287q : Hid (Bo u279q u225q.heap.size [.int .i64 0, .int .i64 0]) := h277q.out.later hb
          clear h270q h271q h272q h273q h274q h275q h276q h277q
          clear h285q
          clear hb
          go_wp2_with fail
          refine hK.out _ _ ⟨h281q.out, h282q.out⟩ (fun hH => ?_)
          clear hK K
          try simp only [Act.put, List.setIfInBounds_toArray, List.set_cons_zero, List.set_cons_succ]
          refine wpAnyH_take (i := 6) (oi := { dst := some 23, op := .move (.tmp 29), type := _, pos := _, after := _, guard := _ }) (v := ?_) rfl (by kernel_rfl) (by kernel_rfl) (by kernel_rfl) (fun _ _ _ h => h) (Or.inl ⟨by rfl, ?_⟩) hH ?_
          rotate_left
          · intro w hSw
            clear hSw
            go_simp
            try with_reducible rfl
          simp only [Act.put, List.setIfInBounds_toArray, List.set_cons_zero, List.set_cons_succ]
          refine wpAnyH_take (i := 7) (oi := { dst := some 30, op := .extract (.tmp 23) 0, type := _, pos := _, after := _, guard := _ }) (v := ?_) rfl (by kernel_rfl) (by kernel_rfl) (by kernel_rfl) (fun _ _ _ h => h) (Or.inl ⟨by rfl, ?_⟩) hH ?_
          rotate_left
          · intro w hSw
            clear hSw
            go_simp
            try with_reducible rfl
          simp only [Act.put, List.setIfInBounds_toArray, List.set_cons_zero, List.set_cons_succ]
          refine wpAnyH_take (i := 8) (oi := { dst := some 31, op := .extract (.tmp 23) 1, type := _, pos := _, after := _, guard := _ }) (v := ?_) rfl (by kernel_rfl) (by kernel_rfl) (by kernel_rfl) (fun _ _ _ h => h) (Or.inl ⟨by rfl, ?_⟩) hH ?_
          rotate_left
          · intro w hSw
            clear hSw
            go_simp
            try with_reducible rfl
          simp only [Act.put, List.setIfInBounds_toArray, List.set_cons_zero, List.set_cons_succ]
          refine wpAnyH_ready (rs := [11]) (by kernel_rfl) (by simp) ?_
          refine AllReadyH.cons (o := { dst := none, op := .store _ (.tmp 9) (.tmp 30), type := _, pos := _, after := _, guard := _ }) rfl (fun K hK => ?_) AllReadyH.nil
          rw [if_pos (by rfl)]
          refine wp_store_mid _ _ _ rfl u115q.heap.size _ (wl d).toArray rfl rfl (h286q.out.thereW d) (HCZ.out d) (wl_all d) ?_
          simp only [Act.put]
          have h288q : Hid (Gd n w (u279q.setCells u115q.heap.size 0 (wl d))) := h280q.out.asideL (by omega) 0 (wl d)
          have h289q : Hid (Bo (u279q.setCells u115q.heap.size 0 (wl d)) n (wl c)) := h281q.out.asideL (by omega) 0 (wl d)
          have h290q : Hid (Bo (u279q.setCells u115q.heap.size 0 (wl d)) (n + 1) [.int .i64 o, .int .i64 k, .int .i64 x]) := h282q.out.asideL (by omega) 0 (wl d)
          have h291q : Hid (Bo (u279q.setCells u115q.heap.size 0 (wl d)) (n + 2) (wl wz)) := h283q.out.asideL (by omega) 0 (wl d)
          have h292q : Hid (Bo (u279q.setCells u115q.heap.size 0 (wl d)) (n + 3) [.int .i64 0, .int .i64 0]) := h284q.out.asideL (by omega) 0 (wl d)
          have h293q : Hid (Bo (u279q.setCells u115q.heap.size 0 (wl d)) u115q.heap.size (wl d)) := h286q.out.setW d
          have h294q : Hid (Bo (u279q.setCells u115q.heap.size 0 (wl d)) u225q.heap.size [.int .i64 0, .int .i64 0]) := h287q.out.asideL (by omega) 0 (wl d)
          clear h280q h281q h282q h283q h284q h286q h287q
          refine hK.out _ _ ⟨h289q.out, h290q.out⟩ (fun hH => ?_)
          clear hK K
          generalize (u279q.setCells u115q.heap.size 0 (wl d)) = u295q at h288q h289q h290q h291q h292q h293q h294q hH ⊢
          try simp only [Act.put, List.setIfInBounds_toArray, List.set_cons_zero, List.set_cons_succ]
          refine wpAnyH_ready (rs := [12]) (by kernel_rfl) (by simp) ?_
          refine AllReadyH.cons (o := { dst := none, op := .store _ (.tmp 10) (.tmp 31), type := _, pos := _, after := _, guard := _ }) rfl (fun K hK => ?_) AllReadyH.nil
          rw [if_pos (by rfl)]
          refine wp_store_mid _ _ _ rfl u225q.heap.size _ #[.int .i64 (cc), .int .i64 (y)] rfl rfl h294q.out.there2 HA.out (two_one _ _) ?_
          simp only [Act.put]
          have h296q : Hid (Gd n w (u295q.setCells u225q.heap.size 0 [.int .i64 (cc), .int .i64 (y)])) := h288q.out.asideL (by omega) 0 [.int .i64 (cc), .int .i64 (y)]
          have h297q : Hid (Bo (u295q.setCells u225q.heap.size 0 [.int .i64 (cc), .int .i64 (y)]) n (wl c)) := h289q.out.asideL (by omega) 0 [.int .i64 (cc), .int .i64 (y)]
          have h298q : Hid (Bo (u295q.setCells u225q.heap.size 0 [.int .i64 (cc), .int .i64 (y)]) (n + 1) [.int .i64 o, .int .i64 k, .int .i64 x]) := h290q.out.asideL (by omega) 0 [.int .i64 (cc), .int .i64 (y)]
          have h299q : Hid (Bo (u295q.setCells u225q.heap.size 0 [.int .i64 (cc), .int .i64 (y)]) (n + 2) (wl wz)) := h291q.out.asideL (by omega) 0 [.int .i64 (cc), .int .i64 (y)]
          have h300q : Hid (Bo (u295q.setCells u225q.heap.size 0 [.int .i64 (cc), .int .i64 (y)]) (n + 3) [.int .i64 0, .int .i64 0]) := h292q.out.asideL (by omega) 0 [.int .i64 (cc), .int .i64 (y)]
          have h301q : Hid (Bo (u295q.setCells u225q.heap.size 0 [.int .i64 (cc), .int .i64 (y)]) u115q.heap.size (wl d)) := h293q.out.asideL (by omega) 0 [.int .i64 (cc), .int .i64 (y)]
          have h302q : Hid (Bo (u295q.setCells u225q.heap.size 0 [.int .i64 (cc), .int .i64 (y)]) u225q.heap.size [.int .i64 (cc), .int .i64 (y)]) := h294q.out.set2 (.int .i64 (cc)) (.int .i64 (y))
          clear h288q h289q h290q h291q h292q h293q h294q
          refine hK.out _ _ ⟨h297q.out, h298q.out⟩ (fun hH => ?_)
          clear hK K
          generalize (u295q.setCells u225q.heap.size 0 [.int .i64 (cc), .int .i64 (y)]) = u303q at h296q h297q h298q h299q h300q h301q h302q hH ⊢
          try simp only [Act.put, List.setIfInBounds_toArray, List.set_cons_zero, List.set_cons_succ]
          refine wpAnyH_done (by kernel_rfl) ?_ _
          go_wp2_with fail
          go_meet
          case rel => exact ⟨u115q.heap.size, u225q.heap.size, rfl, rfl, h296q, h299q, h300q, h301q, h302q, (by omega)⟩
        refine AllReadyH.cons (o := { dst := some 10, op := .alloc _, type := _, pos := _, after := _, guard := _ }) rfl (fun K hK => ?_) AllReadyH.nil
        have l304q : n ≤ u115q.heap.size := h116q.out.le
        have l305q : n < u115q.heap.size := h117q.out.lt
        have l306q : (n + 1) < u115q.heap.size := h118q.out.lt
        have l307q : (n + 2) < u115q.heap.size := h119q.out.lt
        have l308q : (n + 3) < u115q.heap.size := h120q.out.lt
        go_simp
        have h309q : Hid (Gd n w (u115q.alloc (.cells #[.int .i64 0, .int .i64 0] 38))) := h116q.out.new (.cells #[.int .i64 0, .int .i64 0] 38)
        have h310q : Hid (Bo (u115q.alloc (.cells #[.int .i64 0, .int .i64 0] 38)) n (wl c)) := h117q.out.new (.cells #[.int .i64 0, .int .i64 0] 38)
        have h311q : Hid (Bo (u115q.alloc (.cells #[.int .i64 0, .int .i64 0] 38)) (n + 1) [.int .i64 o, .int .i64 k, .int .i64 x]) := h118q.out.new (.cells #[.int .i64 0, .int .i64 0] 38)
        have h312q : Hid (Bo (u115q.alloc (.cells #[.int .i64 0, .int .i64 0] 38)) (n + 2) (wl wz)) := h119q.out.new (.cells #[.int .i64 0, .int .i64 0] 38)
        have h313q : Hid (Bo (u115q.alloc (.cells #[.int .i64 0, .int .i64 0] 38)) (n + 3) [.int .i64 0, .int .i64 0]) := h120q.out.new (.cells #[.int .i64 0, .int .i64 0] 38)
        have h314q : Hid (Deeds (u115q.alloc (.cells #[.int .i64 0, .int .i64 0] 38)) m b1 b2 b3 b4) := h121q.out.new (.cells #[.int .i64 0, .int .i64 0] 38)
        clear h116q h117q h118q h119q h120q h121q
        have h315q : Hid (Bo (u115q.alloc (.cells #[.int .i64 0, .int .i64 0] 38)) u115q.heap.size [.int .i64 0, .int .i64 0]) := Bo.born u115q [.int .i64 0, .int .i64 0] 38 (by simp)
        refine hK.out _ _ ⟨h310q.out, h311q.out⟩ (fun hH => ?_)
        clear hK K
        generalize (u115q.alloc (.cells #[.int .i64 0, .int .i64 0] 38)) = u316q at h309q h310q h311q h312q h313q h314q h315q hH ⊢
        try simp only [Act.put, List.setIfInBounds_toArray, List.set_cons_zero, List.set_cons_succ]
        refine wpAnyH_ready (rs := [5, 9]) (by kernel_rfl) (by simp) ?_
        refine AllReadyH.cons (o := { dst := some 29, op := _, type := _, pos := _, after := _, guard := _ }) rfl (fun K hK => ?_) ?_
        · go_simp
          refine (CC.out _ _ _ _ _ _ h314q.out).mono ?_
          rintro e u317q ⟨rfl, hb⟩
          have h318q : Hid (Gd n w u317q) := h309q.out.later hb
          have h319q : Hid (Bo u317q n (wl c)) := h310q.out.later hb
          have h320q : Hid (Bo u317q (n + 1) [.int .i64 o, .int .i64 k, .int .i64 x]) := h311q.out.later hb
          have h321q : Hid (Bo u317q (n + 2) (wl wz)) := h312q.out.later hb
          have h322q : Hid (Bo u317q (n + 3) [.int .i64 0, .int .i64 0]) := h313q.out.later hb
          have h323q : Hid (Deeds u317q m b1 b2 b3 b4) := h314q.out.later hb
          have h324q : Hid (Bo u317q u115q.heap.size [.int .i64 0, .int .i64 0]) := h315q.out.later hb
          clear h309q h310q h311q h312q h313q h314q h315q
          clear h323q
          clear hb
          go_wp2_with fail
          refine hK.out _ _ ⟨h319q.out, h320q.out⟩ (fun hH => ?_)
          clear hK K
          try simp only [Act.put, List.setIfInBounds_toArray, List.set_cons_zero, List.set_cons_succ]
          refine wpAnyH_take (i := 6) (oi := { dst := some 23, op := .move (.tmp 29), type := _, pos := _, after := _, guard := _ }) (v := ?_) rfl (by kernel_rfl) (by kernel_rfl) (by kernel_rfl) (fun _ _ _ h => h) (Or.inl ⟨by rfl, ?_⟩) hH ?_
          rotate_left
          · intro w hSw
            clear hSw
            go_simp
            try with_reducible rfl
          simp only [Act.put, List.setIfInBounds_toArray, List.set_cons_zero, List.set_cons_succ]
          refine wpAnyH_take (i := 7) (oi := { dst := some 30, op := .extract (.tmp 23) 0, type := _, pos := _, after := _, guard := _ }) (v := ?_) rfl (by kernel_rfl) (by kernel_rfl) (by kernel_rfl) (fun _ _ _ h => h) (Or.inl ⟨by rfl, ?_⟩) hH ?_
          rotate_left
          · intro w hSw
            clear hSw
            go_simp
            try with_reducible rfl
          simp only [Act.put, List.setIfInBounds_toArray, List.set_cons_zero, List.set_cons_succ]
          refine wpAnyH_take (i := 8) (oi := { dst := some 31, op := .extract (.tmp 23) 1, type := _, pos := _, after := _, guard := _ }) (v := ?_) rfl (by kernel_rfl) (by kernel_rfl) (by kernel_rfl) (fun _ _ _ h => h) (Or.inl ⟨by rfl, ?_⟩) hH ?_
          rotate_left
          · intro w hSw
            clear hSw
            go_simp
            try with_reducible rfl
          simp only [Act.put, List.setIfInBounds_toArray, List.set_cons_zero, List.set_cons_succ]
          refine wpAnyH_ready (rs := [9]) (by kernel_rfl) (by simp) ?_
          refine AllReadyH.cons (o := { dst := some 9, op := .alloc _, type := _, pos := _, after := _, guard := _ }) rfl (fun K hK => ?_) AllReadyH.nil
          have l325q : n ≤ u317q.heap.size := h318q.out.le
          have l326q : n < u317q.heap.size := h319q.out.lt
          have l327q : (n + 1) < u317q.heap.size := h320q.out.lt
          have l328q : (n + 2) < u317q.heap.size := h321q.out.lt
          have l329q : (n + 3) < u317q.heap.size := h322q.out.lt
          have l330q : u115q.heap.size < u317q.heap.size := h324q.out.lt
          go_simp
          have h331q : Hid (Gd n w (u317q.alloc (.cells #[.int .u64 0, .int .u64 0, .int .u64 0, .int .u64 0, .int .u64 0, .int .u64 0, .int .u64 0, .int .u64 0, .int .u64 0, .int .u64 0, .int .u64 0, .int .u64 0, .int .u64 0, .int .u64 0, .int .u64 0, .int .u64 0, .int .u64 0] 24))) := h318q.out.new (.cells #[.int .u64 0, .int .u64 0, .int .u64 0, .int .u64 0, .int .u64 0, .int .u64 0, .int .u64 0, .int .u64 0, .int .u64 0, .int .u64 0, .int .u64 0, .int .u64 0, .int .u64 0, .int .u64 0, .int .u64 0, .int .u64 0, .int .u64 0] 24)
          have h332q : Hid (Bo (u317q.alloc (.cells #[.int .u64 0, .int .u64 0, .int .u64 0, .int .u64 0, .int .u64 0, .int .u64 0, .int .u64 0, .int .u64 0, .int .u64 0, .int .u64 0, .int .u64 0, .int .u64 0, .int .u64 0, .int .u64 0, .int .u64 0, .int .u64 0, .int .u64 0] 24)) n (wl c)) := h319q.out.new (.cells #[.int .u64 0, .int .u64 0, .int .u64 0, .int .u64 0, .int .u64 0, .int .u64 0, .int .u64 0, .int .u64 0, .int .u64 0, .int .u64 0, .int .u64 0, .int .u64 0, .int .u64 0, .int .u64 0, .int .u64 0, .int .u64 0, .int .u64 0] 24)
          have h333q : Hid (Bo (u317q.alloc (.cells #[.int .u64 0, .int .u64 0, .int .u64 0, .int .u64 0, .int .u64 0, .int .u64 0, .int .u64 0, .int .u64 0, .int .u64 0, .int .u64 0, .int .u64 0, .int .u64 0, .int .u64 0, .int .u64 0, .int .u64 0, .int .u64 0, .int .u64 0] 24)) (n + 1) [.int .i64 o, .int .i64 k, .int .i64 x]) := h320q.out.new (.cells #[.int .u64 0, .int .u64 0, .int .u64 0, .int .u64 0, .int .u64 0, .int .u64 0, .int .u64 0, .int .u64 0, .int .u64 0, .int .u64 0, .int .u64 0, .int .u64 0, .int .u64 0, .int .u64 0, .int .u64 0, .int .u64 0, .int .u64 0] 24)
          have h334q : Hid (Bo (u317q.alloc (.cells #[.int .u64 0, .int .u64 0, .int .u64 0, .int .u64 0, .int .u64 0, .int .u64 0, .int .u64 0, .int .u64 0, .int .u64 0, .int .u64 0, .int .u64 0, .int .u64 0, .int .u64 0, .int .u64 0, .int .u64 0, .int .u64 0, .int .u64 0] 24)) (n + 2) (wl wz)) := h321q.out.new (.cells #[.int .u64 0, .int .u64 0, .int .u64 0, .int .u64 0, .int .u64 0, .int .u64 0, .int .u64 0, .int .u64 0, .int .u64 0, .int .u64 0, .int .u64 0, .int .u64 0, .int .u64 0, .int .u64 0, .int .u64 0, .int .u64 0, .int .u64 0] 24)
          have h335q : Hid (Bo (u317q.alloc (.cells #[.int .u64 0, .int .u64 0, .int .u64 0, .int .u64 0, .int .u64 0, .int .u64 0, .int .u64 0, .int .u64 0, .int .u64 0, .int .u64 0, .int .u64 0, .int .u64 0, .int .u64 0, .int .u64 0, .int .u64 0, .int .u64 0, .int .u64 0] 24)) (n + 3) [.int .i64 0, .int .i64 0]) := h322q.out.new (.cells #[.int .u64 0, .int .u64 0, .int .u64 0, .int .u64 0, .int .u64 0, .int .u64 0, .int .u64 0, .int .u64 0, .int .u64 0, .int .u64 0, .int .u64 0, .int .u64 0, .int .u64 0, .int .u64 0, .int .u64 0, .int .u64 0, .int .u64 0] 24)
          have h336q : Hid (Bo (u317q.alloc (.cells #[.int .u64 0, .int .u64 0, .int .u64 0, .int .u64 0, .int .u64 0, .int .u64 0, .int .u64 0, .int .u64 0, .int .u64 0, .int .u64 0, .int .u64 0, .int .u64 0, .int .u64 0, .int .u64 0, .int .u64 0, .int .u64 0, .int .u64 0] 24)) u115q.heap.size [.int .i64 0, .int .i64 0]) := h324q.out.new (.cells #[.int .u64 0, .int .u64 0, .int .u64 0, .int .u64 0, .int .u64 0, .int .u64 0, .int .u64 0, .int .u64 0, .int .u64 0, .int .u64 0, .int .u64 0, .int .u64 0, .int .u64 0, .int .u64 0, .int .u64 0, .int .u64 0, .int .u64 0] 24)
          clear h318q h319q h320q h321q h322q h324q
          have h337q : Hid (Bo (u317q.alloc (.cells #[.int .u64 0, .int .u64 0, .int .u64 0, .int .u64 0, .int .u64 0, .int .u64 0, .int .u64 0, .int .u64 0, .int .u64 0, .int .u64 0, .int .u64 0, .int .u64 0, .int .u64 0, .int .u64 0, .int .u64 0, .int .u64 0, .int .u64 0] 24)) u317q.heap.size (wl wz)) := Bo.born u317q (wl wz) 24 (by simp)
          refine hK.out _ _ ⟨h332q.out, h333q.out⟩ (fun hH => ?_)
          clear hK K
          generalize (u317q.alloc (.cells #[.int .u64 0, .int .u64 0, .int .u64 0, .int .u64 0, .int .u64 0, .int .u64 0, .int .u64 0, .int .u64 0, .int .u64 0, .int .u64 0, .int .u64 0, .int .u64 0, .int .u64 0, .int .u64 0, .int .u64 0, .int .u64 0, .int .u64 0] 24)) = u338q at h331q h332q h333q h334q h335q h336q h337q hH ⊢
          try simp only [Act.put, List.setIfInBounds_toArray, List.set_cons_zero, List.set_cons_succ]
          refine wpAnyH_ready (rs := [11]) (by kernel_rfl) (by simp) ?_
          refine AllReadyH.cons (o := { dst := none, op := .store _ (.tmp 9) (.tmp 30), type := _, pos := _, after := _, guard := _ }) rfl (fun K hK => ?_) AllReadyH.nil
          rw [if_pos (by rfl)]
          refine wp_store_mid _ _ _ rfl u317q.heap.size _ (wl d).toArray rfl rfl (h337q.out.thereW d) (HCZ.out d) (wl_all d) ?_
          simp only [Act.put]
          have h339q : Hid (Gd n w (u338q.setCells u317q.heap.size 0 (wl d))) := h331q.out.asideL (by omega) 0 (wl d)
          have h340q : Hid (Bo (u338q.setCells u317q.heap.size 0 (wl d)) n (wl c)) := h332q.out.asideL (by omega) 0 (wl d)
          have h341q : Hid (Bo (u338q.setCells u317q.heap.size 0 (wl d)) (n + 1) [.int .i64 o, .int .i64 k, .int .i64 x]) := h333q.out.asideL (by omega) 0 (wl d)
          have h342q : Hid (Bo (u338q.setCells u317q.heap.size 0 (wl d)) (n + 2) (wl wz)) := h334q.out.asideL (by omega) 0 (wl d)
          have h343q : Hid (Bo (u338q.setCells u317q.heap.size 0 (wl d)) (n + 3) [.int .i64 0, .int .i64 0]) := h335q.out.asideL (by omega) 0 (wl d)
          have h344q : Hid (Bo (u338q.setCells u317q.heap.size 0 (wl d)) u115q.heap.size [.int .i64 0, .int .i64 0]) := h336q.out.asideL (by omega) 0 (wl d)
          have h345q : Hid (Bo (u338q.setCells u317q.heap.size 0 (wl d)) u317q.heap.size (wl d)) := h337q.out.setW d
          clear h331q h332q h333q h334q h335q h336q h337q
          refine hK.out _ _ ⟨h340q.out, h341q.out⟩ (fun hH => ?_)
          clear hK K
          generalize (u338q.setCells u317q.heap.size 0 (wl d)) = u346q at h339q h340q h341q h342q h343q h344q h345q hH ⊢
          try simp only [Act.put, List.setIfInBounds_toArray, List.set_cons_zero, List.set_cons_succ]
          refine wpAnyH_ready (rs := [12]) (by kernel_rfl) (by simp) ?_
          refine AllReadyH.cons (o := { dst := none, op := .store _ (.tmp 10) (.tmp 31), type := _, pos := _, after := _, guard := _ }) rfl (fun K hK => ?_) AllReadyH.nil
          rw [if_pos (by rfl)]
          refine wp_store_mid _ _ _ rfl u115q.heap.size _ #[.int .i64 (cc), .int .i64 (y)] rfl rfl h344q.out.there2 HA.out (two_one _ _) ?_
          simp only [Act.put]
          have h347q : Hid (Gd n w (u346q.setCells u115q.heap.size 0 [.int .i64 (cc), .int .i64 (y)])) := h339q.out.asideL (by omega) 0 [.int .i64 (cc), .int .i64 (y)]
          have h348q : Hid (Bo (u346q.setCells u115q.heap.size 0 [.int .i64 (cc), .int .i64 (y)]) n (wl c)) := h340q.out.asideL (by omega) 0 [.int .i64 (cc), .int .i64 (y)]
          have h349q : Hid (Bo (u346q.setCells u115q.heap.size 0 [.int .i64 (cc), .int .i64 (y)]) (n + 1) [.int .i64 o, .int .i64 k, .int .i64 x]) := h341q.out.asideL (by omega) 0 [.int .i64 (cc), .int .i64 (y)]
          have h350q : Hid (Bo (u346q.setCells u115q.heap.size 0 [.int .i64 (cc), .int .i64 (y)]) (n + 2) (wl wz)) := h342q.out.asideL (by omega) 0 [.int .i64 (cc), .int .i64 (y)]
          have h351q : Hid (Bo (u346q.setCells u115q.heap.size 0 [.int .i64 (cc), .int .i64 (y)]) (n + 3) [.int .i64 0, .int .i64 0]) := h343q.out.asideL (by omega) 0 [.int .i64 (cc), .int .i64 (y)]
          have h352q : Hid (Bo (u346q.setCells u115q.heap.size 0 [.int .i64 (cc), .int .i64 (y)]) u115q.heap.size [.int .i64 (cc), .int .i64 (y)]) := h344q.out.set2 (.int .i64 (cc)) (.int .i64 (y))
          have h353q : Hid (Bo (u346q.setCells u115q.heap.size 0 [.int .i64 (cc), .int .i64 (y)]) u317q.heap.size (wl d)) := h345q.out.asideL (by omega) 0 [.int .i64 (cc), .int .i64 (y)]
          clear h339q h340q h341q h342q h343q h344q h345q
          refine hK.out _ _ ⟨h348q.out, h349q.out⟩ (fun hH => ?_)
          clear hK K
          generalize (u346q.setCells u115q.heap.size 0 [.int .i64 (cc), .int .i64 (y)]) = u354q at h347q h348q h349q h350q h351q h352q h353q hH ⊢
          try simp only [Act.put, List.setIfInBounds_toArray, List.set_cons_zero, List.set_cons_succ]
          refine wpAnyH_done (by kernel_rfl) ?_ _
          go_wp2_with fail
          go_meet
          case rel => exact ⟨u317q.heap.size, u115q.heap.size, rfl, rfl, h347q, h350q, h351q, h353q, h352q, (by omega)⟩
        refine AllReadyH.cons (o := { dst := some 9, op := .alloc _, type := _, pos := _, after := _, guard := _ }) rfl (fun K hK => ?_) AllReadyH.nil
        have l355q : n ≤ u316q.heap.size := h309q.out.le
        have l356q : n < u316q.heap.size := h310q.out.lt
        have l357q : (n + 1) < u316q.heap.size := h311q.out.lt
        have l358q : (n + 2) < u316q.heap.size := h312q.out.lt
        have l359q : (n + 3) < u316q.heap.size := h313q.out.lt
        have l360q : u115q.heap.size < u316q.heap.size := h315q.out.lt
        go_simp
        have h361q : Hid (Gd n w (u316q.alloc (.cells #[.int .u64 0, .int .u64 0, .int .u64 0, .int .u64 0, .int .u64 0, .int .u64 0, .int .u64 0, .int .u64 0, .int .u64 0, .int .u64 0, .int .u64 0, .int .u64 0, .int .u64 0, .int .u64 0, .int .u64 0, .int .u64 0, .int .u64 0] 24))) := h309q.out.new (.cells #[.int .u64 0, .int .u64 0, .int .u64 0, .int .u64 0, .int .u64 0, .int .u64 0, .int .u64 0, .int .u64 0, .int .u64 0, .int .u64 0, .int .u64 0, .int .u64 0, .int .u64 0, .int .u64 0, .int .u64 0, .int .u64 0, .int .u64 0] 24)
        have h362q : Hid (Bo (u316q.alloc (.cells #[.int .u64 0, .int .u64 0, .int .u64 0, .int .u64 0, .int .u64 0, .int .u64 0, .int .u64 0, .int .u64 0, .int .u64 0, .int .u64 0, .int .u64 0, .int .u64 0, .int .u64 0, .int .u64 0, .int .u64 0, .int .u64 0, .int .u64 0] 24)) n (wl c)) := h310q.out.new (.cells #[.int .u64 0, .int .u64 0, .int .u64 0, .int .u64 0, .int .u64 0, .int .u64 0, .int .u64 0, .int .u64 0, .int .u64 0, .int .u64 0, .int .u64 0, .int .u64 0, .int .u64 0, .int .u64 0, .int .u64 0, .int .u64 0, .int .u64 0] 24)
        have h363q : Hid (Bo (u316q.alloc (.cells #[.int .u64 0, .int .u64 0, .int .u64 0, .int .u64 0, .int .u64 0, .int .u64 0, .int .u64 0, .int .u64 0, .int .u64 0, .int .u64 0, .int .u64 0, .int .u64 0, .int .u64 0, .int .u64 0, .int .u64 0, .int .u64 0, .int .u64 0] 24)) (n + 1) [.int .i64 o, .int .i64 k, .int .i64 x]) := h311q.out.new (.cells #[.int .u64 0, .int .u64 0, .int .u64 0, .int .u64 0, .int .u64 0, .int .u64 0, .int .u64 0, .int .u64 0, .int .u64 0, .int .u64 0, .int .u64 0, .int .u64 0, .int .u64 0, .int .u64 0, .int .u64 0, .int .u64 0, .int .u64 0] 24)
        have h364q : Hid (Bo (u316q.alloc (.cells #[.int .u64 0, .int .u64 0, .int .u64 0, .int .u64 0, .int .u64 0, .int .u64 0, .int .u64 0, .int .u64 0, .int .u64 0, .int .u64 0, .int .u64 0, .int .u64 0, .int .u64 0, .int .u64 0, .int .u64 0, .int .u64 0, .int .u64 0] 24)) (n + 2) (wl wz)) := h312q.out.new (.cells #[.int .u64 0, .int .u64 0, .int .u64 0, .int .u64 0, .int .u64 0, .int .u64 0, .int .u64 0, .int .u64 0, .int .u64 0, .int .u64 0, .int .u64 0, .int .u64 0, .int .u64 0, .int .u64 0, .int .u64 0, .int .u64 0, .int .u64 0] 24)
        have h365q : Hid (Bo (u316q.alloc (.cells #[.int .u64 0, .int .u64 0, .int .u64 0, .int .u64 0, .int .u64 0, .int .u64 0, .int .u64 0, .int .u64 0, .int .u64 0, .int .u64 0, .int .u64 0, .int .u64 0, .int .u64 0, .int .u64 0, .int .u64 0, .int .u64 0, .int .u64 0] 24)) (n + 3) [.int .i64 0, .int .i64 0]) := h313q.out.new (.cells #[.int .u64 0, .int .u64 0, .int .u64 0, .int .u64 0, .int .u64 0, .int .u64 0, .int .u64 0, .int .u64 0, .int .u64 0, .int .u64 0, .int .u64 0, .int .u64 0, .int .u64 0, .int .u64 0, .int .u64 0, .int .u64 0, .int .u64 0] 24)
        have h366q : Hid (Deeds (u316q.alloc (.cells #[.int .u64 0, .int .u64 0, .int .u64 0, .int .u64 0, .int .u64 0, .int .u64 0, .int .u64 0, .int .u64 0, .int .u64 0, .int .u64 0, .int .u64 0, .int .u64 0, .int .u64 0, .int .u64 0, .int .u64 0, .int .u64 0, .int .u64 0] 24)) m b1 b2 b3 b4) := h314q.out.new (.cells #[.int .u64 0, .int .u64 0, .int .u64 0, .int .u64 0, .int .u64 0, .int .u64 0, .int .u64 0, .int .u64 0, .int .u64 0, .int .u64 0, .int .u64 0, .int .u64 0, .int .u64 0, .int .u64 0, .int .u64 0, .int .u64 0, .int .u64 0] 24)
        have h367q : Hid (Bo (u316q.alloc (.cells #[.int .u64 0, .int .u64 0, .int .u64 0, .int .u64 0, .int .u64 0, .int .u64 0, .int .u64 0, .int .u64 0, .int .u64 0, .int .u64 0, .int .u64 0, .int .u64 0, .int .u64 0, .int .u64 0, .int .u64 0, .int .u64 0, .int .u64 0] 24)) u115q.heap.size [.int .i64 0, .int .i64 0]) := h315q.out.new (.cells #[.int .u64 0, .int .u64 0, .int .u64 0, .int .u64 0, .int .u64 0, .int .u64 0, .int .u64 0, .int .u64 0, .int .u64 0, .int .u64 0, .int .u64 0, .int .u64 0, .int .u64 0, .int .u64 0, .int .u64 0, .int .u64 0, .int .u64 0] 24)
        clear h309q h310q h311q h312q h313q h314q h315q
        have h368q : Hid (Bo (u316q.alloc (.cells #[.int .u64 0, .int .u64 0, .int .u64 0, .int .u64 0, .int .u64 0, .int .u64 0, .int .u64 0, .int .u64 0, .int .u64 0, .int .u64 0, .int .u64 0, .int .u64 0, .int .u64 0, .int .u64 0, .int .u64 0, .int .u64 0, .int .u64 0] 24)) u316q.heap.size (wl wz)) := Bo.born u316q (wl wz) 24 (by simp)
        refine hK.out _ _ ⟨h362q.out, h363q.out⟩ (fun hH => ?_)
        clear hK K
        generalize (u316q.alloc (.cells #[.int .u64 0, .int .u64 0, .int .u64 0, .int .u64 0, .int .u64 0, .int .u64 0, .int .u64 0, .int .u64 0, .int .u64 0, .int .u64 0, .int .u64 0, .int .u64 0, .int .u64 0, .int .u64 0, .int .u64 0, .int .u64 0, .int .u64 0] 24)) = u369q at h361q h362q h363q h364q h365q h366q h367q h368q hH ⊢
        try simp only [Act.put, List.setIfInBounds_toArray, List.set_cons_zero, List.set_cons_succ]
        refine wpAnyH_ready (rs := [5]) (by kernel_rfl) (by simp) ?_
        refine AllReadyH.cons (o := { dst := some 29, op := _, type := _, pos := _, after := _, guard := _ }) rfl (fun K hK => ?_) AllReadyH.nil
        go_simp
        refine (CC.out _ _ _ _ _ _ h366q.out).mono ?_
        rintro e u370q ⟨rfl, hb⟩
        have h371q : Hid (Gd n w u370q) := h361q.out.later hb
        have h372q : Hid (Bo u370q n (wl c)) := h362q.out.later hb
        have h373q : Hid (Bo u370q (n + 1) [.int .i64 o, .int .i64 k, .int .i64 x]) := h363q.out.later hb
        have h374q : Hid (Bo u370q (n + 2) (wl wz)) := h364q.out.later hb
        have h375q : Hid (Bo u370q (n + 3) [.int .i64 0, .int .i64 0]) := h365q.out.later hb
        have h376q : Hid (Deeds u370q m b1 b2 b3 b4) := h366q.out.later hb
        have h377q : Hid (Bo u370q u115q.heap.size [.int .i64 0, .int .i64 0]) := h367q.out.later hb
        have h378q : Hid (Bo u370q u316q.heap.size (wl wz)) := h368q.out.later hb
        clear h361q h362q h363q h364q h365q h366q h367q h368q
        clear h376q
        clear hb
        go_wp2_with fail
        refine hK.out _ _ ⟨h372q.out, h373q.out⟩ (fun hH => ?_)
        clear hK K
        try simp only [Act.put, List.setIfInBounds_toArray, List.set_cons_zero, List.set_cons_succ]
        refine wpAnyH_take (i := 6) (oi := { dst := some 23, op := .move (.tmp 29), type := _, pos := _, after := _, guard := _ }) (v := ?_) rfl (by kernel_rfl) (by kernel_rfl) (by kernel_rfl) (fun _ _ _ h => h) (Or.inl ⟨by rfl, ?_⟩) hH ?_
        rotate_left
        · intro w hSw
          clear hSw
          go_simp
          try with_reducible rfl
        simp only [Act.put, List.setIfInBounds_toArray, List.set_cons_zero, List.set_cons_succ]
        refine wpAnyH_take (i := 7) (oi := { dst := some 30, op := .extract (.tmp 23) 0, type := _, pos := _, after := _, guard := _ }) (v := ?_) rfl (by kernel_rfl) (by kernel_rfl) (by kernel_rfl) (fun _ _ _ h => h) (Or.inl ⟨by rfl, ?_⟩) hH ?_
        rotate_left
        · intro w hSw
          clear hSw
          go_simp
          try with_reducible rfl
        simp only [Act.put, List.setIfInBounds_toArray, List.set_cons_zero, List.set_cons_succ]
        refine wpAnyH_take (i := 8) (oi := { dst := some 31, op := .extract (.tmp 23) 1, type := _, pos := _, after := _, guard := _ }) (v := ?_) rfl (by kernel_rfl) (by kernel_rfl) (by kernel_rfl) (fun _ _ _ h => h) (Or.inl ⟨by rfl, ?_⟩) hH ?_
        rotate_left
        · intro w hSw
          clear hSw
          go_simp
          try with_reducible rfl
        simp only [Act.put, List.setIfInBounds_toArray, List.set_cons_zero, List.set_cons_succ]
        refine wpAnyH_ready (rs := [11]) (by kernel_rfl) (by simp) ?_
        refine AllReadyH.cons (o := { dst := none, op := .store _ (.tmp 9) (.tmp 30), type := _, pos := _, after := _, guard := _ }) rfl (fun K hK => ?_) AllReadyH.nil
        rw [if_pos (by rfl)]
        refine wp_store_mid _ _ _ rfl u316q.heap.size _ (wl d).toArray rfl rfl (h378q.out.thereW d) (HCZ.out d) (wl_all d) ?_
        simp only [Act.put]
        have h379q : Hid (Gd n w (u370q.setCells u316q.heap.size 0 (wl d))) := h371q.out.asideL (by omega) 0 (wl d)
        have h380q : Hid (Bo (u370q.setCells u316q.heap.size 0 (wl d)) n (wl c)) := h372q.out.asideL (by omega) 0 (wl d)
        have h381q : Hid (Bo (u370q.setCells u316q.heap.size 0 (wl d)) (n + 1) [.int .i64 o, .int .i64 k, .int .i64 x]) := h373q.out.asideL (by omega) 0 (wl d)
        have h382q : Hid (Bo (u370q.setCells u316q.heap.size 0 (wl d)) (n + 2) (wl wz)) := h374q.out.asideL (by omega) 0 (wl d)
        have h383q : Hid (Bo (u370q.setCells u316q.heap.size 0 (wl d)) (n + 3) [.int .i64 0, .int .i64 0]) := h375q.out.asideL (by omega) 0 (wl d)
        have h384q : Hid (Bo (u370q.setCells u316q.heap.size 0 (wl d)) u115q.heap.size [.int .i64 0, .int .i64 0]) := h377q.out.asideL (by omega) 0 (wl d)
        have h385q : Hid (Bo (u370q.setCells u316q.heap.size 0 (wl d)) u316q.heap.size (wl d)) := h378q.out.setW d
        clear h371q h372q h373q h374q h375q h377q h378q
        refine hK.out _ _ ⟨h380q.out, h381q.out⟩ (fun hH => ?_)
        clear hK K
        generalize (u370q.setCells u316q.heap.size 0 (wl d)) = u386q at h379q h380q h381q h382q h383q h384q h385q hH ⊢
        try simp only [Act.put, List.setIfInBounds_toArray, List.set_cons_zero, List.set_cons_succ]
        refine wpAnyH_ready (rs := [12]) (by kernel_rfl) (by simp) ?_
        refine AllReadyH.cons (o := { dst := none, op := .store _ (.tmp 10) (.tmp 31), type := _, pos := _, after := _, guard := _ }) rfl (fun K hK => ?_) AllReadyH.nil
        rw [if_pos (by rfl)]
        refine wp_store_mid _ _ _ rfl u115q.heap.size _ #[.int .i64 (cc), .int .i64 (y)] rfl rfl h384q.out.there2 HA.out (two_one _ _) ?_
        simp only [Act.put]
        have h387q : Hid (Gd n w (u386q.setCells u115q.heap.size 0 [.int .i64 (cc), .int .i64 (y)])) := h379q.out.asideL (by omega) 0 [.int .i64 (cc), .int .i64 (y)]
        have h388q : Hid (Bo (u386q.setCells u115q.heap.size 0 [.int .i64 (cc), .int .i64 (y)]) n (wl c)) := h380q.out.asideL (by omega) 0 [.int .i64 (cc), .int .i64 (y)]
        have h389q : Hid (Bo (u386q.setCells u115q.heap.size 0 [.int .i64 (cc), .int .i64 (y)]) (n + 1) [.int .i64 o, .int .i64 k, .int .i64 x]) := h381q.out.asideL (by omega) 0 [.int .i64 (cc), .int .i64 (y)]
        have h390q : Hid (Bo (u386q.setCells u115q.heap.size 0 [.int .i64 (cc), .int .i64 (y)]) (n + 2) (wl wz)) := h382q.out.asideL (by omega) 0 [.int .i64 (cc), .int .i64 (y)]
        have h391q : Hid (Bo (u386q.setCells u115q.heap.size 0 [.int .i64 (cc), .int .i64 (y)]) (n + 3) [.int .i64 0, .int .i64 0]) := h383q.out.asideL (by omega) 0 [.int .i64 (cc), .int .i64 (y)]
        have h392q : Hid (Bo (u386q.setCells u115q.heap.size 0 [.int .i64 (cc), .int .i64 (y)]) u115q.heap.size [.int .i64 (cc), .int .i64 (y)]) := h384q.out.set2 (.int .i64 (cc)) (.int .i64 (y))
        have h393q : Hid (Bo (u386q.setCells u115q.heap.size 0 [.int .i64 (cc), .int .i64 (y)]) u316q.heap.size (wl d)) := h385q.out.asideL (by omega) 0 [.int .i64 (cc), .int .i64 (y)]
        clear h379q h380q h381q h382q h383q h384q h385q
        refine hK.out _ _ ⟨h388q.out, h389q.out⟩ (fun hH => ?_)
        clear hK K
        generalize (u386q.setCells u115q.heap.size 0 [.int .i64 (cc), .int .i64 (y)]) = u394q at h387q h388q h389q h390q h391q h392q h393q hH ⊢
        try simp only [Act.put, List.setIfInBounds_toArray, List.set_cons_zero, List.set_cons_succ]
        refine wpAnyH_done (by kernel_rfl) ?_ _
        go_wp2_with fail
        go_meet
        case rel => exact ⟨u316q.heap.size, u115q.heap.size, rfl, rfl, h387q, h390q, h391q, h393q, h392q, (by omega)⟩
      refine AllReadyH.cons (o := { dst := some 9, op := .alloc _, type := _, pos := _, after := _, guard := _ }) rfl (fun K hK => ?_) ?_
      · have l395q : n ≤ u115q.heap.size := h116q.out.le
        have l396q : n < u115q.heap.size := h117q.out.lt
        have l397q : (n + 1) < u115q.heap.size := h118q.out.lt
        have l398q : (n + 2) < u115q.heap.size := h119q.out.lt
        have l399q : (n + 3) < u115q.heap.size := h120q.out.lt
        go_simp
        have h400q : Hid (Gd n w (u115q.alloc (.cells #[.int .u64 0, .int .u64 0, .int .u64 0, .int .u64 0, .int .u64 0, .int .u64 0, .int .u64 0, .int .u64 0, .int .u64 0, .int .u64 0, .int .u64 0, .int .u64 0, .int .u64 0, .int .u64 0, .int .u64 0, .int .u64 0, .int .u64 0] 24))) := h116q.out.new (.cells #[.int .u64 0, .int .u64 0, .int .u64 0, .int .u64 0, .int .u64 0, .int .u64 0, .int .u64 0, .int .u64 0, .int .u64 0, .int .u64 0, .int .u64 0, .int .u64 0, .int .u64 0, .int .u64 0, .int .u64 0, .int .u64 0, .int .u64 0] 24)
        have h401q : Hid (Bo (u115q.alloc (.cells #[.int .u64 0, .int .u64 0, .int .u64 0, .int .u64 0, .int .u64 0, .int .u64 0, .int .u64 0, .int .u64 0, .int .u64 0, .int .u64 0, .int .u64 0, .int .u64 0, .int .u64 0, .int .u64 0, .int .u64 0, .int .u64 0, .int .u64 0] 24)) n (wl c)) := h117q.out.new (.cells #[.int .u64 0, .int .u64 0, .int .u64 0, .int .u64 0, .int .u64 0, .int .u64 0, .int .u64 0, .int .u64 0, .int .u64 0, .int .u64 0, .int .u64 0, .int .u64 0, .int .u64 0, .int .u64 0, .int .u64 0, .int .u64 0, .int .u64 0] 24)
        have h402q : Hid (Bo (u115q.alloc (.cells #[.int .u64 0, .int .u64 0, .int .u64 0, .int .u64 0, .int .u64 0, .int .u64 0, .int .u64 0, .int .u64 0, .int .u64 0, .int .u64 0, .int .u64 0, .int .u64 0, .int .u64 0, .int .u64 0, .int .u64 0, .int .u64 0, .int .u64 0] 24)) (n + 1) [.int .i64 o, .int .i64 k, .int .i64 x]) := h118q.out.new (.cells #[.int .u64 0, .int .u64 0, .int .u64 0, .int .u64 0, .int .u64 0, .int .u64 0, .int .u64 0, .int .u64 0, .int .u64 0, .int .u64 0, .int .u64 0, .int .u64 0, .int .u64 0, .int .u64 0, .int .u64 0, .int .u64 0, .int .u64 0] 24)
        have h403q : Hid (Bo (u115q.alloc (.cells #[.int .u64 0, .int .u64 0, .int .u64 0, .int .u64 0, .int .u64 0, .int .u64 0, .int .u64 0, .int .u64 0, .int .u64 0, .int .u64 0, .int .u64 0, .int .u64 0, .int .u64 0, .int .u64 0, .int .u64 0, .int .u64 0, .int .u64 0] 24)) (n + 2) (wl wz)) := h119q.out.new (.cells #[.int .u64 0, .int .u64 0, .int .u64 0, .int .u64 0, .int .u64 0, .int .u64 0, .int .u64 0, .int .u64 0, .int .u64 0, .int .u64 0, .int .u64 0, .int .u64 0, .int .u64 0, .int .u64 0, .int .u64 0, .int .u64 0, .int .u64 0] 24)
        have h404q : Hid (Bo (u115q.alloc (.cells #[.int .u64 0, .int .u64 0, .int .u64 0, .int .u64 0, .int .u64 0, .int .u64 0, .int .u64 0, .int .u64 0, .int .u64 0, .int .u64 0, .int .u64 0, .int .u64 0, .int .u64 0, .int .u64 0, .int .u64 0, .int .u64 0, .int .u64 0] 24)) (n + 3) [.int .i64 0, .int .i64 0]) := h120q.out.new (.cells #[.int .u64 0, .int .u64 0, .int .u64 0, .int .u64 0, .int .u64 0, .int .u64 0, .int .u64 0, .int .u64 0, .int .u64 0, .int .u64 0, .int .u64 0, .int .u64 0, .int .u64 0, .int .u64 0, .int .u64 0, .int .u64 0, .int .u64 0] 24)
        have h405q : Hid (Deeds (u115q.alloc (.cells #[.int .u64 0, .int .u64 0, .int .u64 0, .int .u64 0, .int .u64 0, .int .u64 0, .int .u64 0, .int .u64 0, .int .u64 0, .int .u64 0, .int .u64 0, .int .u64 0, .int .u64 0, .int .u64 0, .int .u64 0, .int .u64 0, .int .u64 0] 24)) m b1 b2 b3 b4) := h121q.out.new (.cells #[.int .u64 0, .int .u64 0, .int .u64 0, .int .u64 0, .int .u64 0, .int .u64 0, .int .u64 0, .int .u64 0, .int .u64 0, .int .u64 0, .int .u64 0, .int .u64 0, .int .u64 0, .int .u64 0, .int .u64 0, .int .u64 0, .int .u64 0] 24)
        clear h116q h117q h118q h119q h120q h121q
        have h406q : Hid (Bo (u115q.alloc (.cells #[.int .u64 0, .int .u64 0, .int .u64 0, .int .u64 0, .int .u64 0, .int .u64 0, .int .u64 0, .int .u64 0, .int .u64 0, .int .u64 0, .int .u64 0, .int .u64 0, .int .u64 0, .int .u64 0, .int .u64 0, .int .u64 0, .int .u64 0] 24)) u115q.heap.size (wl wz)) := Bo.born u115q (wl wz) 24 (by simp)
        refine hK.out _ _ ⟨h401q.out, h402q.out⟩ (fun hH => ?_)
        clear hK K
        generalize (u115q.alloc (.cells #[.int .u64 0, .int .u64 0, .int .u64 0, .int .u64 0, .int .u64 0, .int .u64 0, .int .u64 0, .int .u64 0, .int .u64 0, .int .u64 0, .int .u64 0, .int .u64 0, .int .u64 0, .int .u64 0, .int .u64 0, .int .u64 0, .int .u64 0] 24)) = u407q at h400q h401q h402q h403q h404q h405q h406q hH ⊢
        try simp only [Act.put, List.setIfInBounds_toArray, List.set_cons_zero, List.set_cons_succ]
        refine wpAnyH_ready (rs := [2, 10]) (by kernel_rfl) (by simp) ?_
        refine AllReadyH.cons (o := { dst := some 26, op := .lookup _ (.tmp 24) (.tmp 25) false, type := _, pos := _, after := _, guard := _ }) rfl (fun K hK => ?_) ?_
        · have lk := LL.out _ _ _ _ _ _ h405q.out
          go_simp
          refine hK.out _ _ ⟨h401q.out, h402q.out⟩ (fun hH => ?_)
          clear hK K
          try simp only [Act.put, List.setIfInBounds_toArray, List.set_cons_zero, List.set_cons_succ]
          refine wpAnyH_ready (rs := [5, 10]) (by kernel_rfl) (by simp) ?_
          refine AllReadyH.cons (o := { dst := some 29, op := _, type := _, pos := _, after := _, guard := _ }) rfl (fun K hK => ?_) ?_
          · go_simp
            refine (CC.out _ _ _ _ _ _ h405q.out).mono ?_
            rintro e u408q ⟨rfl, hb⟩
            have h409q : Hid (Gd n w u408q) := h400q.out.later hb
            have h410q : Hid (Bo u408q n (wl c)) := h401q.out.later hb
            have h411q : Hid (Bo u408q (n + 1) [.int .i64 o, .int .i64 k, .int .i64 x]) := h402q.out.later hb
            have h412q : Hid (Bo u408q (n + 2) (wl wz)) := h403q.out.later hb
            have h413q : Hid (Bo u408q (n + 3) [.int .i64 0, .int .i64 0]) := h404q.out.later hb
            have h414q : Hid (Deeds u408q m b1 b2 b3 b4) := h405q.out.later hb
            have h415q : Hid (Bo u408q u115q.heap.size (wl wz)) := h406q.out.later hb
            clear h400q h401q h402q h403q h404q h405q h406q
            clear h414q
            clear hb
            go_wp2_with fail
            refine hK.out _ _ ⟨h410q.out, h411q.out⟩ (fun hH => ?_)
            clear hK K
            try simp only [Act.put, List.setIfInBounds_toArray, List.set_cons_zero, List.set_cons_succ]
            refine wpAnyH_take (i := 6) (oi := { dst := some 23, op := .move (.tmp 29), type := _, pos := _, after := _, guard := _ }) (v := ?_) rfl (by kernel_rfl) (by kernel_rfl) (by kernel_rfl) (fun _ _ _ h => h) (Or.inl ⟨by rfl, ?_⟩) hH ?_
            rotate_left
            · intro w hSw
              clear hSw
              go_simp
              try with_reducible rfl
            simp only [Act.put, List.setIfInBounds_toArray, List.set_cons_zero, List.set_cons_succ]
            refine wpAnyH_take (i := 7) (oi := { dst := some 30, op := .extract (.tmp 23) 0, type := _, pos := _, after := _, guard := _ }) (v := ?_) rfl (by kernel_rfl) (by kernel_rfl) (by kernel_rfl) (fun _ _ _ h => h) (Or.inl ⟨by rfl, ?_⟩) hH ?_
            rotate_left
            · intro w hSw
              clear hSw
              go_simp
              try with_reducible rfl
            simp only [Act.put, List.setIfInBounds_toArray, List.set_cons_zero, List.set_cons_succ]
            refine wpAnyH_take (i := 8) (oi := { dst := some 31, op := .extract (.tmp 23) 1, type := _, pos := _, after := _, guard := _ }) (v := ?_) rfl (by kernel_rfl) (by kernel_rfl) (by kernel_rfl) (fun _ _ _ h => h) (Or.inl ⟨by rfl, ?_⟩) hH ?_
            rotate_left
            · intro w hSw
              clear hSw
              go_simp
              try with_reducible rfl
            simp only [Act.put, List.setIfInBounds_toArray, List.set_cons_zero, List.set_cons_succ]
            refine wpAnyH_ready (rs := [10]) (by kernel_rfl) (by simp) ?_
            refine AllReadyH.cons (o := { dst := some 10, op := .alloc _, type := _, pos := _, after := _, guard := _ }) rfl (fun K hK => ?_) AllReadyH.nil
            have l416q : n ≤ u408q.heap.size := h409q.out.le
            have l417q : n < u408q.heap.size := h410q.out.lt
            have l418q : (n + 1) < u408q.heap.size := h411q.out.lt
            have l419q : (n + 2) < u408q.heap.size := h412q.out.lt
            have l420q : (n + 3) < u408q.heap.size := h413q.out.lt
            have l421q : u115q.heap.size < u408q.heap.size := h415q.out.lt
            go_simp
            have h422q : Hid (Gd n w (u408q.alloc (.cells #[.int .i64 0, .int .i64 0] 38))) := h409q.out.new (.cells #[.int .i64 0, .int .i64 0] 38)
            have h423q : Hid (Bo (u408q.alloc (.cells #[.int .i64 0, .int .i64 0] 38)) n (wl c)) := h410q.out.new (.cells #[.int .i64 0, .int .i64 0] 38)
            have h424q : Hid (Bo (u408q.alloc (.cells #[.int .i64 0, .int .i64 0] 38)) (n + 1) [.int .i64 o, .int .i64 k, .int .i64 x]) := h411q.out.new (.cells #[.int .i64 0, .int .i64 0] 38)
            have h425q : Hid (Bo (u408q.alloc (.cells #[.int .i64 0, .int .i64 0] 38)) (n + 2) (wl wz)) := h412q.out.new (.cells #[.int .i64 0, .int .i64 0] 38)
            have h426q : Hid (Bo (u408q.alloc (.cells #[.int .i64 0, .int .i64 0] 38)) (n + 3) [.int .i64 0, .int .i64 0]) := h413q.out.new (.cells #[.int .i64 0, .int .i64 0] 38)
            have h427q : Hid (Bo (u408q.alloc (.cells #[.int .i64 0, .int .i64 0] 38)) u115q.heap.size (wl wz)) := h415q.out.new (.cells #[.int .i64 0, .int .i64 0] 38)
            clear h409q h410q h411q h412q h413q h415q
            have h428q : Hid (Bo (u408q.alloc (.cells #[.int .i64 0, .int .i64 0] 38)) u408q.heap.size [.int .i64 0, .int .i64 0]) := Bo.born u408q [.int .i64 0, .int .i64 0] 38 (by simp)
            refine hK.out _ _ ⟨h423q.out, h424q.out⟩ (fun hH => ?_)
            clear hK K
            generalize (u408q.alloc (.cells #[.int .i64 0, .int .i64 0] 38)) = u429q at h422q h423q h424q h425q h426q h427q h428q hH ⊢
            try simp only [Act.put, List.setIfInBounds_toArray, List.set_cons_zero, List.set_cons_succ]
            refine wpAnyH_ready (rs := [11]) (by kernel_rfl) (by simp) ?_
            refine AllReadyH.cons (o := { dst := none, op := .store _ (.tmp 9) (.tmp 30), type := _, pos := _, after := _, guard := _ }) rfl (fun K hK => ?_) AllReadyH.nil
            rw [if_pos (by rfl)]
            refine wp_store_mid _ _ _ rfl u115q.heap.size _ (wl d).toArray rfl rfl (h427q.out.thereW d) (HCZ.out d) (wl_all d) ?_
            simp only [Act.put]
            have h430q : Hid (Gd n w (u429q.setCells u115q.heap.size 0 (wl d))) := h422q.out.asideL (by omega) 0 (wl d)
            have h431q : Hid (Bo (u429q.setCells u115q.heap.size 0 (wl d)) n (wl c)) := h423q.out.asideL (by omega) 0 (wl d)
            have h432q : Hid (Bo (u429q.setCells u115q.heap.size 0 (wl d)) (n + 1) [.int .i64 o, .int .i64 k, .int .i64 x]) := h424q.out.asideL (by omega) 0 (wl d)
            have h433q : Hid (Bo (u429q.setCells u115q.heap.size 0 (wl d)) (n + 2) (wl wz)) := h425q.out.asideL (by omega) 0 (wl d)
            have h434q : Hid (Bo (u429q.setCells u115q.heap.size 0 (wl d)) (n + 3) [.int .i64 0, .int .i64 0]) := h426q.out.asideL (by omega) 0 (wl d)
            have h435q : Hid (Bo (u429q.setCells u115q.heap.size 0 (wl d)) u115q.heap.size (wl d)) := h427q.out.setW d
            have h436q : Hid (Bo (u429q.setCells u115q.heap.size 0 (wl d)) u408q.heap.size [.int .i64 0, .int .i64 0]) := h428q.out.asideL (by omega) 0 (wl d)
            clear h422q h423q h424q h425q h426q h427q h428q
            refine hK.out _ _ ⟨h431q.out, h432q.out⟩ (fun hH => ?_)
            clear hK K
            generalize (u429q.setCells u115q.heap.size 0 (wl d)) = u437q at h430q h431q h432q h433q h434q h435q h436q hH ⊢
            try simp only [Act.put, List.setIfInBounds_toArray, List.set_cons_zero, List.set_cons_succ]
            refine wpAnyH_ready (rs := [12]) (by kernel_rfl) (by simp) ?_
            refine AllReadyH.cons (o := { dst := none, op := .store _ (.tmp 10) (.tmp 31), type := _, pos := _, after := _, guard := _ }) rfl (fun K hK => ?_) AllReadyH.nil
            rw [if_pos (by rfl)]
            refine wp_store_mid _ _ _ rfl u408q.heap.size _ #[.int .i64 (cc), .int .i64 (y)] rfl rfl h436q.out.there2 HA.out (two_one _ _) ?_
            simp only [Act.put]
            have h438q : Hid (Gd n w (u437q.setCells u408q.heap.size 0 [.int .i64 (cc), .int .i64 (y)])) := h430q.out.asideL (by omega) 0 [.int .i64 (cc), .int .i64 (y)]
            have h439q : Hid (Bo (u437q.setCells u408q.heap.size 0 [.int .i64 (cc), .int .i64 (y)]) n (wl c)) := h431q.out.asideL (by omega) 0 [.int .i64 (cc), .int .i64 (y)]
            have h440q : Hid (Bo (u437q.setCells u408q.heap.size 0 [.int .i64 (cc), .int .i64 (y)]) (n + 1) [.int .i64 o, .int .i64 k, .int .i64 x]) := h432q.out.asideL (by omega) 0 [.int .i64 (cc), .int .i64 (y)]
            have h441q : Hid (Bo (u437q.setCells u408q.heap.size 0 [.int .i64 (cc), .int .i64 (y)]) (n + 2) (wl wz)) := h433q.out.asideL (by omega) 0 [.int .i64 (cc), .int .i64 (y)]
            have h442q : Hid (Bo (u437q.setCells u408q.heap.size 0 [.int .i64 (cc), .int .i64 (y)]) (n + 3) [.int .i64 0, .int .i64 0]) := h434q.out.asideL (by omega) 0 [.int .i64 (cc), .int .i64 (y)]
            have h443q : Hid (Bo (u437q.setCells u408q.heap.size 0 [.int .i64 (cc), .int .i64 (y)]) u115q.heap.size (wl d)) := h435q.out.asideL (by omega) 0 [.int .i64 (cc), .int .i64 (y)]
            have h444q : Hid (Bo (u437q.setCells u408q.heap.size 0 [.int .i64 (cc), .int .i64 (y)]) u408q.heap.size [.int .i64 (cc), .int .i64 (y)]) := h436q.out.set2 (.int .i64 (cc)) (.int .i64 (y))
            clear h430q h431q h432q h433q h434q h435q h436q
            refine hK.out _ _ ⟨h439q.out, h440q.out⟩ (fun hH => ?_)
            clear hK K
            generalize (u437q.setCells u408q.heap.size 0 [.int .i64 (cc), .int .i64 (y)]) = u445q at h438q h439q h440q h441q h442q h443q h444q hH ⊢
            try simp only [Act.put, List.setIfInBounds_toArray, List.set_cons_zero, List.set_cons_succ]
            refine wpAnyH_done (by kernel_rfl) ?_ _
            go_wp2_with fail
            go_meet
            case rel => exact ⟨u115q.heap.size, u408q.heap.size, rfl, rfl, h438q, h441q, h442q, h443q, h444q, (by omega)⟩
          refine AllReadyH.cons (o := { dst := some 10, op := .alloc _, type := _, pos := _, after := _, guard := _ }) rfl (fun K hK => ?_) AllReadyH.nil
          have l446q : n ≤ u407q.heap.size := h400q.out.le
          have l447q : n < u407q.heap.size := h401q.out.lt
          have l448q : (n + 1) < u407q.heap.size := h402q.out.lt
          have l449q : (n + 2) < u407q.heap.size := h403q.out.lt
          have l450q : (n + 3) < u407q.heap.size := h404q.out.lt
          have l451q : u115q.heap.size < u407q.heap.size := h406q.out.lt
          go_simp
          have h452q : Hid (Gd n w (u407q.alloc (.cells #[.int .i64 0, .int .i64 0] 38))) := h400q.out.new (.cells #[.int .i64 0, .int .i64 0] 38)
          have h453q : Hid (Bo (u407q.alloc (.cells #[.int .i64 0, .int .i64 0] 38)) n (wl c)) := h401q.out.new (.cells #[.int .i64 0, .int .i64 0] 38)
          have h454q : Hid (Bo (u407q.alloc (.cells #[.int .i64 0, .int .i64 0] 38)) (n + 1) [.int .i64 o, .int .i64 k, .int .i64 x]) := h402q.out.new (.cells #[.int .i64 0, .int .i64 0] 38)
          have h455q : Hid (Bo (u407q.alloc (.cells #[.int .i64 0, .int .i64 0] 38)) (n + 2) (wl wz)) := h403q.out.new (.cells #[.int .i64 0, .int .i64 0] 38)
          have h456q : Hid (Bo (u407q.alloc (.cells #[.int .i64 0, .int .i64 0] 38)) (n + 3) [.int .i64 0, .int .i64 0]) := h404q.out.new (.cells #[.int .i64 0, .int .i64 0] 38)
          have h457q : Hid (Deeds (u407q.alloc (.cells #[.int .i64 0, .int .i64 0] 38)) m b1 b2 b3 b4) := h405q.out.new (.cells #[.int .i64 0, .int .i64 0] 38)
          have h458q : Hid (Bo (u407q.alloc (.cells #[.int .i64 0, .int .i64 0] 38)) u115q.heap.size (wl wz)) := h406q.out.new (.cells #[.int .i64 0, .int .i64 0] 38)
          clear h400q h401q h402q h403q h404q h405q h406q
          have h459q : Hid (Bo (u407q.alloc (.cells #[.int .i64 0, .int .i64 0] 38)) u407q.heap.size [.int .i64 0, .int .i64 0]) := Bo.born u407q [.int .i64 0, .int .i64 0] 38 (by simp)
          refine hK.out _ _ ⟨h453q.out, h454q.out⟩ (fun hH => ?_)
          clear hK K
          generalize (u407q.alloc (.cells #[.int .i64 0, .int .i64 0] 38)) = u460q at h452q h453q h454q h455q h456q h457q h458q h459q hH ⊢
          try simp only [Act.put, List.setIfInBounds_toArray, List.set_cons_zero, List.set_cons_succ]
          refine wpAnyH_ready (rs := [5]) (by kernel_rfl) (by simp) ?_
          refine AllReadyH.cons (o := { dst := some 29, op := _, type := _, pos := _, after := _, guard := _ }) rfl (fun K hK => ?_) AllReadyH.nil
          go_simp
          refine (CC.out _ _ _ _ _ _ h457q.out).mono ?_
          rintro e u461q ⟨rfl, hb⟩
          have h462q : Hid (Gd n w u461q) := h452q.out.later hb
          have h463q : Hid (Bo u461q n (wl c)) := h453q.out.later hb
          have h464q : Hid (Bo u461q (n + 1) [.int .i64 o, .int .i64 k, .int .i64 x]) := h454q.out.later hb
          have h465q : Hid (Bo u461q (n + 2) (wl wz)) := h455q.out.later hb
          have h466q : Hid (Bo u461q (n + 3) [.int .i64 0, .int .i64 0]) := h456q.out.later hb
          have h467q : Hid (Deeds u461q m b1 b2 b3 b4) := h457q.out.later hb
          have h468q : Hid (Bo u461q u115q.heap.size (wl wz)) := h458q.out.later hb
          have h469q : Hid (Bo u461q u407q.heap.size [.int .i64 0, .int .i64 0]) := h459q.out.later hb
          clear h452q h453q h454q h455q h456q h457q h458q h459q
          clear h467q
          clear hb
          go_wp2_with fail
          refine hK.out _ _ ⟨h463q.out, h464q.out⟩ (fun hH => ?_)
          clear hK K
          try simp only [Act.put, List.setIfInBounds_toArray, List.set_cons_zero, List.set_cons_succ]
          refine wpAnyH_take (i := 6) (oi := { dst := some 23, op := .move (.tmp 29), type := _, pos := _, after := _, guard := _ }) (v := ?_) rfl (by kernel_rfl) (by kernel_rfl) (by kernel_rfl) (fun _ _ _ h => h) (Or.inl ⟨by rfl, ?_⟩) hH ?_
          rotate_left
          · intro w hSw
            clear hSw
            go_simp
            try with_reducible rfl
          simp only [Act.put, List.setIfInBounds_toArray, List.set_cons_zero, List.set_cons_succ]
          refine wpAnyH_take (i := 7) (oi := { dst := some 30, op := .extract (.tmp 23) 0, type := _, pos := _, after := _, guard := _ }) (v := ?_) rfl (by kernel_rfl) (by kernel_rfl) (by kernel_rfl) (fun _ _ _ h => h) (Or.inl ⟨by rfl, ?_⟩) hH ?_
          rotate_left
          · intro w hSw
            clear hSw
            go_simp
            try with_reducible rfl
          simp only [Act.put, List.setIfInBounds_toArray, List.set_cons_zero, List.set_cons_succ]
          refine wpAnyH_take (i := 8) (oi := { dst := some 31, op := .extract (.tmp 23) 1, type := _, pos := _, after := _, guard := _ }) (v := ?_) rfl (by kernel_rfl) (by kernel_rfl) (by kernel_rfl) (fun _ _ _ h => h) (Or.inl ⟨by rfl, ?_⟩) hH ?_
          rotate_left
          · intro w hSw
            clear hSw
            go_simp
            try with_reducible rfl
          simp only [Act.put, List.setIfInBounds_toArray, List.set_cons_zero, List.set_cons_succ]
          refine wpAnyH_ready (rs := [11]) (by kernel_rfl) (by simp) ?_
          refine AllReadyH.cons (o := { dst := none, op := .store _ (.tmp 9) (.tmp 30), type := _, pos := _, after := _, guard := _ }) rfl (fun K hK => ?_) AllReadyH.nil
          rw [if_pos (by rfl)]
          refine wp_store_mid _ _ _ rfl u115q.heap.size _ (wl d).toArray rfl rfl (h468q.out.thereW d) (HCZ.out d) (wl_all d) ?_
          simp only [Act.put]
          have h470q : Hid (Gd n w (u461q.setCells u115q.heap.size 0 (wl d))) := h462q.out.asideL (by omega) 0 (wl d)
          have h471q : Hid (Bo (u461q.setCells u115q.heap.size 0 (wl d)) n (wl c)) := h463q.out.asideL (by omega) 0 (wl d)
          have h472q : Hid (Bo (u461q.setCells u115q.heap.size 0 (wl d)) (n + 1) [.int .i64 o, .int .i64 k, .int .i64 x]) := h464q.out.asideL (by omega) 0 (wl d)
          have h473q : Hid (Bo (u461q.setCells u115q.heap.size 0 (wl d)) (n + 2) (wl wz)) := h465q.out.asideL (by omega) 0 (wl d)
          have h474q : Hid (Bo (u461q.setCells u115q.heap.size 0 (wl d)) (n + 3) [.int .i64 0, .int .i64 0]) := h466q.out.asideL (by omega) 0 (wl d)
          have h475q : Hid (Bo (u461q.setCells u115q.heap.size 0 (wl d)) u115q.heap.size (wl d)) := h468q.out.setW d
          have h476q : Hid (Bo (u461q.setCells u115q.heap.size 0 (wl d)) u407q.heap.size [.int .i64 0, .int .i64 0]) := h469q.out.asideL (by omega) 0 (wl d)
          clear h462q h463q h464q h465q h466q h468q h469q
          refine hK.out _ _ ⟨h471q.out, h472q.out⟩ (fun hH => ?_)
          clear hK K
          generalize (u461q.setCells u115q.heap.size 0 (wl d)) = u477q at h470q h471q h472q h473q h474q h475q h476q hH ⊢
          try simp only [Act.put, List.setIfInBounds_toArray, List.set_cons_zero, List.set_cons_succ]
          refine wpAnyH_ready (rs := [12]) (by kernel_rfl) (by simp) ?_
          refine AllReadyH.cons (o := { dst := none, op := .store _ (.tmp 10) (.tmp 31), type := _, pos := _, after := _, guard := _ }) rfl (fun K hK => ?_) AllReadyH.nil
          rw [if_pos (by rfl)]
          refine wp_store_mid _ _ _ rfl u407q.heap.size _ #[.int .i64 (cc), .int .i64 (y)] rfl rfl h476q.out.there2 HA.out (two_one _ _) ?_
          simp only [Act.put]
          have h478q : Hid (Gd n w (u477q.setCells u407q.heap.size 0 [.int .i64 (cc), .int .i64 (y)])) := h470q.out.asideL (by omega) 0 [.int .i64 (cc), .int .i64 (y)]
          have h479q : Hid (Bo (u477q.setCells u407q.heap.size 0 [.int .i64 (cc), .int .i64 (y)]) n (wl c)) := h471q.out.asideL (by omega) 0 [.int .i64 (cc), .int .i64 (y)]
          have h480q : Hid (Bo (u477q.setCells u407q.heap.size 0 [.int .i64 (cc), .int .i64 (y)]) (n + 1) [.int .i64 o, .int .i64 k, .int .i64 x]) := h472q.out.asideL (by omega) 0 [.int .i64 (cc), .int .i64 (y)]
          have h481q : Hid (Bo (u477q.setCells u407q.heap.size 0 [.int .i64 (cc), .int .i64 (y)]) (n + 2) (wl wz)) := h473q.out.asideL (by omega) 0 [.int .i64 (cc), .int .i64 (y)]
          have h482q : Hid (Bo (u477q.setCells u407q.heap.size 0 [.int .i64 (cc), .int .i64 (y)]) (n + 3) [.int .i64 0, .int .i64 0]) := h474q.out.asideL (by omega) 0 [.int .i64 (cc), .int .i64 (y)]
          have h483q : Hid (Bo (u477q.setCells u407q.heap.size 0 [.int .i64 (cc), .int .i64 (y)]) u115q.heap.size (wl d)) := h475q.out.asideL (by omega) 0 [.int .i64 (cc), .int .i64 (y)]
          have h484q : Hid (Bo (u477q.setCells u407q.heap.size 0 [.int .i64 (cc), .int .i64 (y)]) u407q.heap.size [.int .i64 (cc), .int .i64 (y)]) := h476q.out.set2 (.int .i64 (cc)) (.int .i64 (y))
          clear h470q h471q h472q h473q h474q h475q h476q
          refine hK.out _ _ ⟨h479q.out, h480q.out⟩ (fun hH => ?_)
          clear hK K
          generalize (u477q.setCells u407q.heap.size 0 [.int .i64 (cc), .int .i64 (y)]) = u485q at h478q h479q h480q h481q h482q h483q h484q hH ⊢
          try simp only [Act.put, List.setIfInBounds_toArray, List.set_cons_zero, List.set_cons_succ]
          refine wpAnyH_done (by kernel_rfl) ?_ _
          go_wp2_with fail
          go_meet
          case rel => exact ⟨u115q.heap.size, u407q.heap.size, rfl, rfl, h478q, h481q, h482q, h483q, h484q, (by omega)⟩
        refine AllReadyH.cons (o := { dst := some 10, op := .alloc _, type := _, pos := _, after := _, guard := _ }) rfl (fun K hK => ?_) AllReadyH.nil
        have l486q : n ≤ u407q.heap.size := h400q.out.le
        have l487q : n < u407q.heap.size := h401q.out.lt
        have l488q : (n + 1) < u407q.heap.size := h402q.out.lt
        have l489q : (n + 2) < u407q.heap.size := h403q.out.lt
        have l490q : (n + 3) < u407q.heap.size := h404q.out.lt
        have l491q : u115q.heap.size < u407q.heap.size := h406q.out.lt
        go_simp
        have h492q : Hid (Gd n w (u407q.alloc (.cells #[.int .i64 0, .int .i64 0] 38))) := h400q.out.new (.cells #[.int .i64 0, .int .i64 0] 38)
        have h493q : Hid (Bo (u407q.alloc (.cells #[.int .i64 0, .int .i64 0] 38)) n (wl c)) := h401q.out.new (.cells #[.int .i64 0, .int .i64 0] 38)
        have h494q : Hid (Bo (u407q.alloc (.cells #[.int .i64 0, .int .i64 0] 38)) (n + 1) [.int .i64 o, .int .i64 k, .int .i64 x]) := h402q.out.new (.cells #[.int .i64 0, .int .i64 0] 38)
        have h495q : Hid (Bo (u407q.alloc (.cells #[.int .i64 0, .int .i64 0] 38)) (n + 2) (wl wz)) := h403q.out.new (.cells #[.int .i64 0, .int .i64 0] 38)
        have h496q : Hid (Bo (u407q.alloc (.cells #[.int .i64 0, .int .i64 0] 38)) (n + 3) [.int .i64 0, .int .i64 0]) := h404q.out.new (.cells #[.int .i64 0, .int .i64 0] 38)
        have h497q : Hid (Deeds (u407q.alloc (.cells #[.int .i64 0, .int .i64 0] 38)) m b1 b2 b3 b4) := h405q.out.new (.cells #[.int .i64 0, .int .i64 0] 38)
        have h498q : Hid (Bo (u407q.alloc (.cells #[.int .i64 0, .int .i64 0] 38)) u115q.heap.size (wl wz)) := h406q.out.new (.cells #[.int .i64 0, .int .i64 0] 38)
        clear h400q h401q h402q h403q h404q h405q h406q
        have h499q : Hid (Bo (u407q.alloc (.cells #[.int .i64 0, .int .i64 0] 38)) u407q.heap.size [.int .i64 0, .int .i64 0]) := Bo.born u407q [.int .i64 0, .int .i64 0] 38 (by simp)
        refine hK.out _ _ ⟨h493q.out, h494q.out⟩ (fun hH => ?_)
        clear hK K
        generalize (u407q.alloc (.cells #[.int .i64 0, .int .i64 0] 38)) = u500q at h492q h493q h494q h495q h496q h497q h498q h499q hH ⊢
        try simp only [Act.put, List.setIfInBounds_toArray, List.set_cons_zero, List.set_cons_succ]
        refine wpAnyH_ready (rs := [2]) (by kernel_rfl) (by simp) ?_
        refine AllReadyH.cons (o := { dst := some 26, op := .lookup _ (.tmp 24) (.tmp 25) false, type := _, pos := _, after := _, guard := _ }) rfl (fun K hK => ?_) AllReadyH.nil
        have lk := LL.out _ _ _ _ _ _ h497q.out
        go_simp
        refine hK.out _ _ ⟨h493q.out, h494q.out⟩ (fun hH => ?_)
        clear hK K
        try simp only [Act.put, List.setIfInBounds_toArray, List.set_cons_zero, List.set_cons_succ]
        refine wpAnyH_ready (rs := [5]) (by kernel_rfl) (by simp) ?_
        refine AllReadyH.cons (o := { dst := some 29, op := _, type := _, pos := _, after := _, guard := _ }) rfl (fun K hK => ?_) AllReadyH.nil
        go_simp
        refine (CC.out _ _ _ _ _ _ h497q.out).mono ?_
        rintro e u501q ⟨rfl, hb⟩
        have h502q : Hid (Gd n w u501q) := h492q.out.later hb
        have h503q : Hid (Bo u501q n (wl c)) := h493q.out.later hb
        have h504q : Hid (Bo u501q (n + 1) [.int .i64 o, .int .i64 k, .int .i64 x]) := h494q.out.later hb
        have h505q : Hid (Bo u501q (n + 2) (wl wz)) := h495q.out.later hb
        have h506q : Hid (Bo u501q (n + 3) [.int .i64 0, .int .i64 0]) := h496q.out.later hb
        have h507q : Hid (Deeds u501q m b1 b2 b3 b4) := h497q.out.later hb
        have h508q : Hid (Bo u501q u115q.heap.size (wl wz)) := h498q.out.later hb
        have h509q : Hid (Bo u501q u407q.heap.size [.int .i64 0, .int .i64 0]) := h499q.out.later hb
        clear h492q h493q h494q h495q h496q h497q h498q h499q
        clear h507q
        clear hb
        go_wp2_with fail
        refine hK.out _ _ ⟨h503q.out, h504q.out⟩ (fun hH => ?_)
        clear hK K
        try simp only [Act.put, List.setIfInBounds_toArray, List.set_cons_zero, List.set_cons_succ]
        refine wpAnyH_take (i := 6) (oi := { dst := some 23, op := .move (.tmp 29), type := _, pos := _, after := _, guard := _ }) (v := ?_) rfl (by kernel_rfl) (by kernel_rfl) (by kernel_rfl) (fun _ _ _ h => h) (Or.inl ⟨by rfl, ?_⟩) hH ?_
        rotate_left
        · intro w hSw
          clear hSw
          go_simp
          try with_reducible rfl
        simp only [Act.put, List.setIfInBounds_toArray, List.set_cons_zero, List.set_cons_succ]
        refine wpAnyH_take (i := 7) (oi := { dst := some 30, op := .extract (.tmp 23) 0, type := _, pos := _, after := _, guard := _ }) (v := ?_) rfl (by kernel_rfl) (by kernel_rfl) (by kernel_rfl) (fun _ _ _ h => h) (Or.inl ⟨by rfl, ?_⟩) hH ?_
        rotate_left
        · intro w hSw
          clear hSw
          go_simp
          try with_reducible rfl
        simp only [Act.put, List.setIfInBounds_toArray, List.set_cons_zero, List.set_cons_succ]
        refine wpAnyH_take (i := 8) (oi := { dst := some 31, op := .extract (.tmp 23) 1, type := _, pos := _, after := _, guard := _ }) (v := ?_) rfl (by kernel_rfl) (by kernel_rfl) (by kernel_rfl) (fun _ _ _ h => h) (Or.inl ⟨by rfl, ?_⟩) hH ?_
        rotate_left
        · intro w hSw
          clear hSw
          go_simp
          try with_reducible rfl
        simp only [Act.put, List.setIfInBounds_toArray, List.set_cons_zero, List.set_cons_succ]
        refine wpAnyH_ready (rs := [11]) (by kernel_rfl) (by simp) ?_
        refine AllReadyH.cons (o := { dst := none, op := .store _ (.tmp 9) (.tmp 30), type := _, pos := _, after := _, guard := _ }) rfl (fun K hK => ?_) AllReadyH.nil
        rw [if_pos (by rfl)]
        refine wp_store_mid _ _ _ rfl u115q.heap.size _ (wl d).toArray rfl rfl (h508q.out.thereW d) (HCZ.out d) (wl_all d) ?_
        simp only [Act.put]
        have h510q : Hid (Gd n w (u501q.setCells u115q.heap.size 0 (wl d))) := h502q.out.asideL (by omega) 0 (wl d)
        have h511q : Hid (Bo (u501q.setCells u115q.heap.size 0 (wl d)) n (wl c)) := h503q.out.asideL (by omega) 0 (wl d)
        have h512q : Hid (Bo (u501q.setCells u115q.heap.size 0 (wl d)) (n + 1) [.int .i64 o, .int .i64 k, .int .i64 x]) := h504q.out.asideL (by omega) 0 (wl d)
        have h513q : Hid (Bo (u501q.setCells u115q.heap.size 0 (wl d)) (n + 2) (wl wz)) := h505q.out.asideL (by omega) 0 (wl d)
        have h514q : Hid (Bo (u501q.setCells u115q.heap.size 0 (wl d)) (n + 3) [.int .i64 0, .int .i64 0]) := h506q.out.asideL (by omega) 0 (wl d)
        have h515q : Hid (Bo (u501q.setCells u115q.heap.size 0 (wl d)) u115q.heap.size (wl d)) := h508q.out.setW d
        have h516q : Hid (Bo (u501q.setCells u115q.heap.size 0 (wl d)) u407q.heap.size [.int .i64 0, .int .i64 0]) := h509q.out.asideL (by omega) 0 (wl d)
        clear h502q h503q h504q h505q h506q h508q h509q
        refine hK.out _ _ ⟨h511q.out, h512q.out⟩ (fun hH => ?_)
        clear hK K
        generalize (u501q.setCells u115q.heap.size 0 (wl d)) = u517q at h510q h511q h512q h513q h514q h515q h516q hH ⊢
        try simp only [Act.put, List.setIfInBounds_toArray, List.set_cons_zero, List.set_cons_succ]
        refine wpAnyH_ready (rs := [12]) (by kernel_rfl) (by simp) ?_
        refine AllReadyH.cons (o := { dst := none, op := .store _ (.tmp 10) (.tmp 31), type := _, pos := _, after := _, guard := _ }) rfl (fun K hK => ?_) AllReadyH.nil
        rw [if_pos (by rfl)]
        refine wp_store_mid _ _ _ rfl u407q.heap.size _ #[.int .i64 (cc), .int .i64 (y)] rfl rfl h516q.out.there2 HA.out (two_one _ _) ?_
        simp only [Act.put]
        have h518q : Hid (Gd n w (u517q.setCells u407q.heap.size 0 [.int .i64 (cc), .int .i64 (y)])) := h510q.out.asideL (by omega) 0 [.int .i64 (cc), .int .i64 (y)]
        have h519q : Hid (Bo (u517q.setCells u407q.heap.size 0 [.int .i64 (cc), .int .i64 (y)]) n (wl c)) := h511q.out.asideL (by omega) 0 [.int .i64 (cc), .int .i64 (y)]
        have h520q : Hid (Bo (u517q.setCells u407q.heap.size 0 [.int .i64 (cc), .int .i64 (y)]) (n + 1) [.int .i64 o, .int .i64 k, .int .i64 x]) := h512q.out.asideL (by omega) 0 [.int .i64 (cc), .int .i64 (y)]
        have h521q : Hid (Bo (u517q.setCells u407q.heap.size 0 [.int .i64 (cc), .int .i64 (y)]) (n + 2) (wl wz)) := h513q.out.asideL (by omega) 0 [.int .i64 (cc), .int .i64 (y)]
        have h522q : Hid (Bo (u517q.setCells u407q.heap.size 0 [.int .i64 (cc), .int .i64 (y)]) (n + 3) [.int .i64 0, .int .i64 0]) := h514q.out.asideL (by omega) 0 [.int .i64 (cc), .int .i64 (y)]
        have h523q : Hid (Bo (u517q.setCells u407q.heap.size 0 [.int .i64 (cc), .int .i64 (y)]) u115q.heap.size (wl d)) := h515q.out.asideL (by omega) 0 [.int .i64 (cc), .int .i64 (y)]
        have h524q : Hid (Bo (u517q.setCells u407q.heap.size 0 [.int .i64 (cc), .int .i64 (y)]) u407q.heap.size [.int .i64 (cc), .int .i64 (y)]) := h516q.out.set2 (.int .i64 (cc)) (.int .i64 (y))
        clear h510q h511q h512q h513q h514q h515q h516q
        refine hK.out _ _ ⟨h519q.out, h520q.out⟩ (fun hH => ?_)
        clear hK K
        generalize (u517q.setCells u407q.heap.size 0 [.int .i64 (cc), .int .i64 (y)]) = u525q at h518q h519q h520q h521q h522q h523q h524q hH ⊢
        try simp only [Act.put, List.setIfInBounds_toArray, List.set_cons_zero, List.set_cons_succ]
        refine wpAnyH_done (by kernel_rfl) ?_ _
        go_wp2_with fail
        go_meet
        case rel => exact ⟨u115q.heap.size, u407q.heap.size, rfl, rfl, h518q, h521q, h522q, h523q, h524q, (by omega)⟩
      refine AllReadyH.cons (o := { dst := some 10, op := .alloc _, type := _, pos := _, after := _, guard := _ }) rfl (fun K hK => ?_) AllReadyH.nil
      have l526q : n ≤ u115q.heap.size := h116q.out.le
      have l527q : n < u115q.heap.size := h117q.out.lt
      have l528q : (n + 1) < u115q.heap.size := h118q.out.lt
      have l529q : (n + 2) < u115q.heap.size := h119q.out.lt
      have l530q : (n + 3) < u115q.heap.size := h120q.out.lt
      go_simp
      have h531q : Hid (Gd n w (u115q.alloc (.cells #[.int .i64 0, .int .i64 0] 38))) := h116q.out.new (.cells #[.int .i64 0, .int .i64 0] 38)
      have h532q : Hid (Bo (u115q.alloc (.cells #[.int .i64 0, .int .i64 0] 38)) n (wl c)) := h117q.out.new (.cells #[.int .i64 0, .int .i64 0] 38)
      have h533q : Hid (Bo (u115q.alloc (.cells #[.int .i64 0, .int .i64 0] 38)) (n + 1) [.int .i64 o, .int .i64 k, .int .i64 x]) := h118q.out.new (.cells #[.int .i64 0, .int .i64 0] 38)
      have h534q : Hid (Bo (u115q.alloc (.cells #[.int .i64 0, .int .i64 0] 38)) (n + 2) (wl wz)) := h119q.out.new (.cells #[.int .i64 0, .int .i64 0] 38)
      have h535q : Hid (Bo (u115q.alloc (.cells #[.int .i64 0, .int .i64 0] 38)) (n + 3) [.int .i64 0, .int .i64 0]) := h120q.out.new (.cells #[.int .i64 0, .int .i64 0] 38)
      have h536q : Hid (Deeds (u115q.alloc (.cells #[.int .i64 0, .int .i64 0] 38)) m b1 b2 b3 b4) := h121q.out.new (.cells #[.int .i64 0, .int .i64 0] 38)
      clear h116q h117q h118q h119q h120q h121q
      have h537q : Hid (Bo (u115q.alloc (.cells #[.int .i64 0, .int .i64 0] 38)) u115q.heap.size [.int .i64 0, .int .i64 0]) := Bo.born u115q [.int .i64 0, .int .i64 0] 38 (by simp)
      refine hK.out _ _ ⟨h532q.out, h533q.out⟩ (fun hH => ?_)
      clear hK K
      generalize (u115q.alloc (.cells #[.int .i64 0, .int .i64 0] 38)) = u538q at h531q h532q h533q h534q h535q h536q h537q hH ⊢
      try simp only [Act.put, List.setIfInBounds_toArray, List.set_cons_zero, List.set_cons_succ]
      refine wpAnyH_ready (rs := [2, 9]) (by kernel_rfl) (by simp) ?_
      refine AllReadyH.cons (o := { dst := some 26, op := .lookup _ (.tmp 24) (.tmp 25) false, type := _, pos := _, after := _, guard := _ }) rfl (fun K hK => ?_) ?_
      · have lk := LL.out _ _ _ _ _ _ h536q.out
        go_simp
        refine hK.out _ _ ⟨h532q.out, h533q.out⟩ (fun hH => ?_)
        clear hK K
        try simp only [Act.put, List.setIfInBounds_toArray, List.set_cons_zero, List.set_cons_succ]
        refine wpAnyH_ready (rs := [5, 9]) (by kernel_rfl) (by simp) ?_
        refine AllReadyH.cons (o := { dst := some 29, op := _, type := _, pos := _, after := _, guard := _ }) rfl (fun K hK => ?_) ?_
        · go_simp
          refine (CC.out _ _ _ _ _ _ h536q.out).mono ?_
          rintro e u539q ⟨rfl, hb⟩
          have h540q : Hid (Gd n w u539q) := h531q.out.later hb
          have h541q : Hid (Bo u539q n (wl c)) := h532q.out.later hb
          have h542q : Hid (Bo u539q (n + 1) [.int .i64 o, .int .i64 k, .int .i64 x]) := h533q.out.later hb
          have h543q : Hid (Bo u539q (n + 2) (wl wz)) := h534q.out.later hb
          have h544q : Hid (Bo u539q (n + 3) [.int .i64 0, .int .i64 0]) := h535q.out.later hb
          have h545q : Hid (Deeds u539q m b1 b2 b3 b4) := h536q.out.later hb
          have h546q : Hid (Bo u539q u115q.heap.size [.int .i64 0, .int .i64 0]) := h537q.out.later hb
          clear h531q h532q h533q h534q h535q h536q h537q
          clear h545q
          clear hb
          go_wp2_with fail
          refine hK.out _ _ ⟨h541q.out, h542q.out⟩ (fun hH => ?_)
          clear hK K
          try simp only [Act.put, List.setIfInBounds_toArray, List.set_cons_zero, List.set_cons_succ]
          refine wpAnyH_take (i := 6) (oi := { dst := some 23, op := .move (.tmp 29), type := _, pos := _, after := _, guard := _ }) (v := ?_) rfl (by kernel_rfl) (by kernel_rfl) (by kernel_rfl) (fun _ _ _ h => h) (Or.inl ⟨by rfl, ?_⟩) hH ?_
          rotate_left
          · intro w hSw
            clear hSw
            go_simp
            try with_reducible rfl
          simp only [Act.put, List.setIfInBounds_toArray, List.set_cons_zero, List.set_cons_succ]
          refine wpAnyH_take (i := 7) (oi := { dst := some 30, op := .extract (.tmp 23) 0, type := _, pos := _, after := _, guard := _ }) (v := ?_) rfl (by kernel_rfl) (by kernel_rfl) (by kernel_rfl) (fun _ _ _ h => h) (Or.inl ⟨by rfl, ?_⟩) hH ?_
          rotate_left
          · intro w hSw
            clear hSw
            go_simp
            try with_reducible rfl
          simp only [Act.put, List.setIfInBounds_toArray, List.set_cons_zero, List.set_cons_succ]
          refine wpAnyH_take (i := 8) (oi := { dst := some 31, op := .extract (.tmp 23) 1, type := _, pos := _, after := _, guard := _ }) (v := ?_) rfl (by kernel_rfl) (by kernel_rfl) (by kernel_rfl) (fun _ _ _ h => h) (Or.inl ⟨by rfl, ?_⟩) hH ?_
          rotate_left
          · intro w hSw
            clear hSw
            go_simp
            try with_reducible rfl
          simp only [Act.put, List.setIfInBounds_toArray, List.set_cons_zero, List.set_cons_succ]
          refine wpAnyH_ready (rs := [9]) (by kernel_rfl) (by simp) ?_
          refine AllReadyH.cons (o := { dst := some 9, op := .alloc _, type := _, pos := _, after := _, guard := _ }) rfl (fun K hK => ?_) AllReadyH.nil
          have l547q : n ≤ u539q.heap.size := h540q.out.le
          have l548q : n < u539q.heap.size := h541q.out.lt
          have l549q : (n + 1) < u539q.heap.size := h542q.out.lt
          have l550q : (n + 2) < u539q.heap.size := h543q.out.lt
          have l551q : (n + 3) < u539q.heap.size := h544q.out.lt
          have l552q : u115q.heap.size < u539q.heap.size := h546q.out.lt
          go_simp
          have h553q : Hid (Gd n w (u539q.alloc (.cells #[.int .u64 0, .int .u64 0, .int .u64 0, .int .u64 0, .int .u64 0, .int .u64 0, .int .u64 0, .int .u64 0, .int .u64 0, .int .u64 0, .int .u64 0, .int .u64 0, .int .u64 0, .int .u64 0, .int .u64 0, .int .u64 0, .int .u64 0] 24))) := h540q.out.new (.cells #[.int .u64 0, .int .u64 0, .int .u64 0, .int .u64 0, .int .u64 0, .int .u64 0, .int .u64 0, .int .u64 0, .int .u64 0, .int .u64 0, .int .u64 0, .int .u64 0, .int .u64 0, .int .u64 0, .int .u64 0, .int .u64 0, .int .u64 0] 24)
          have h554q : Hid (Bo (u539q.alloc (.cells #[.int .u64 0, .int .u64 0, .int .u64 0, .int .u64 0, .int .u64 0, .int .u64 0, .int .u64 0, .int .u64 0, .int .u64 0, .int .u64 0, .int .u64 0, .int .u64 0, .int .u64 0, .int .u64 0, .int .u64 0, .int .u64 0, .int .u64 0] 24)) n (wl c)) := h541q.out.new (.cells #[.int .u64 0, .int .u64 0, .int .u64 0, .int .u64 0, .int .u64 0, .int .u64 0, .int .u64 0, .int .u64 0, .int .u64 0, .int .u64 0, .int .u64 0, .int .u64 0, .int .u64 0, .int .u64 0, .int .u64 0, .int .u64 0, .int .u64 0] 24)
          have h555q : Hid (Bo (u539q.alloc (.cells #[.int .u64 0, .int .u64 0, .int .u64 0, .int .u64 0, .int .u64 0, .int .u64 0, .int .u64 0, .int .u64 0, .int .u64 0, .int .u64 0, .int .u64 0, .int .u64 0, .int .u64 0, .int .u64 0, .int .u64 0, .int .u64 0, .int .u64 0] 24)) (n + 1) [.int .i64 o, .int .i64 k, .int .i64 x]) := h542q.out.new (.cells #[.int .u64 0, .int .u64 0, .int .u64 0, .int .u64 0, .int .u64 0, .int .u64 0, .int .u64 0, .int .u64 0, .int .u64 0, .int .u64 0, .int .u64 0, .int .u64 0, .int .u64 0, .int .u64 0, .int .u64 0, .int .u64 0, .int .u64 0] 24)
          have h556q : Hid (Bo (u539q.alloc (.cells #[.int .u64 0, .int .u64 0, .int .u64 0, .int .u64 0, .int .u64 0, .int .u64 0, .int .u64 0, .int .u64 0, .int .u64 0, .int .u64 0, .int .u64 0, .int .u64 0, .int .u64 0, .int .u64 0, .int .u64 0, .int .u64 0, .int .u64 0] 24)) (n + 2) (wl wz)) := h543q.out.new (.cells #[.int .u64 0, .int .u64 0, .int .u64 0, .int .u64 0, .int .u64 0, .int .u64 0, .int .u64 0, .int .u64 0, .int .u64 0, .int .u64 0, .int .u64 0, .int .u64 0, .int .u64 0, .int .u64 0, .int .u64 0, .int .u64 0, .int .u64 0] 24)
          have h557q : Hid (Bo (u539q.alloc (.cells #[.int .u64 0, .int .u64 0, .int .u64 0, .int .u64 0, .int .u64 0, .int .u64 0, .int .u64 0, .int .u64 0, .int .u64 0, .int .u64 0, .int .u64 0, .int .u64 0, .int .u64 0, .int .u64 0, .int .u64 0, .int .u64 0, .int .u64 0] 24)) (n + 3) [.int .i64 0, .int .i64 0]) := h544q.out.new (.cells #[.int .u64 0, .int .u64 0, .int .u64 0, .int .u64 0, .int .u64 0, .int .u64 0, .int .u64 0, .int .u64 0, .int .u64 0, .int .u64 0, .int .u64 0, .int .u64 0, .int .u64 0, .int .u64 0, .int .u64 0, .int .u64 0, .int .u64 0] 24)
          have h558q : Hid (Bo (u539q.alloc (.cells #[.int .u64 0, .int .u64 0, .int .u64 0, .int .u64 0, .int .u64 0, .int .u64 0, .int .u64 0, .int .u64 0, .int .u64 0, .int .u64 0, .int .u64 0, .int .u64 0, .int .u64 0, .int .u64 0, .int .u64 0, .int .u64 0, .int .u64 0] 24)) u115q.heap.size [.int .i64 0, .int .i64 0]) := h546q.out.new (.cells #[.int .u64 0, .int .u64 0, .int .u64 0, .int .u64 0, .int .u64 0, .int .u64 0, .int .u64 0, .int .u64 0, .int .u64 0, .int .u64 0, .int .u64 0, .int .u64 0, .int .u64 0, .int .u64 0, .int .u64 0, .int .u64 0, .int .u64 0] 24)
          clear h540q h541q h542q h543q h544q h546q
          have h559q : Hid (Bo (u539q.alloc (.cells #[.int .u64 0, .int .u64 0, .int .u64 0, .int .u64 0, .int .u64 0, .int .u64 0, .int .u64 0, .int .u64 0, .int .u64 0, .int .u64 0, .int .u64 0, .int .u64 0, .int .u64 0, .int .u64 0, .int .u64 0, .int .u64 0, .int .u64 0] 24)) u539q.heap.size (wl wz)) := Bo.born u539q (wl wz) 24 (by simp)
          refine hK.out _ _ ⟨h554q.out, h555q.out⟩ (fun hH => ?_)
          clear hK K
          generalize (u539q.alloc (.cells #[.int .u64 0, .int .u64 0, .int .u64 0, .int .u64 0, .int .u64 0, .int .u64 0, .int .u64 0, .int .u64 0, .int .u64 0, .int .u64 0, .int .u64 0, .int .u64 0, .int .u64 0, .int .u64 0, .int .u64 0, .int .u64 0, .int .u64 0] 24)) = u560q at h553q h554q h555q h556q h557q h558q h559q hH ⊢
          try simp only [Act.put, List.setIfInBounds_toArray, List.set_cons_zero, List.set_cons_succ]
          refine wpAnyH_ready (rs := [11]) (by kernel_rfl) (by simp) ?_
          refine AllReadyH.cons (o := { dst := none, op := .store _ (.tmp 9) (.tmp 30), type := _, pos := _, after := _, guard := _ }) rfl (fun K hK => ?_) AllReadyH.nil
          rw [if_pos (by rfl)]
          refine wp_store_mid _ _ _ rfl u539q.heap.size _ (wl d).toArray rfl rfl (h559q.out.thereW d) (HCZ.out d) (wl_all d) ?_
          simp only [Act.put]
          have h561q : Hid (Gd n w (u560q.setCells u539q.heap.size 0 (wl d))) := h553q.out.asideL (by omega) 0 (wl d)
          have h562q : Hid (Bo (u560q.setCells u539q.heap.size 0 (wl d)) n (wl c)) := h554q.out.asideL (by omega) 0 (wl d)
          have h563q : Hid (Bo (u560q.setCells u539q.heap.size 0 (wl d)) (n + 1) [.int .i64 o, .int .i64 k, .int .i64 x]) := h555q.out.asideL (by omega) 0 (wl d)
          have h564q : Hid (Bo (u560q.setCells u539q.heap.size 0 (wl d)) (n + 2) (wl wz)) := h556q.out.asideL (by omega) 0 (wl d)
          have h565q : Hid (Bo (u560q.setCells u539q.heap.size 0 (wl d)) (n + 3) [.int .i64 0, .int .i64 0]) := h557q.out.asideL (by omega) 0 (wl d)
          have h566q : Hid (Bo (u560q.setCells u539q.heap.size 0 (wl d)) u115q.heap.size [.int .i64 0, .int .i64 0]) := h558q.out.asideL (by omega) 0 (wl d)
          have h567q : Hid (Bo (u560q.setCells u539q.heap.size 0 (wl d)) u539q.heap.size (wl d)) := h559q.out.setW d
          clear h553q h554q h555q h556q h557q h558q h559q
          refine hK.out _ _ ⟨h562q.out, h563q.out⟩ (fun hH => ?_)
          clear hK K
          generalize (u560q.setCells u539q.heap.size 0 (wl d)) = u568q at h561q h562q h563q h564q h565q h566q h567q hH ⊢
          try simp only [Act.put, List.setIfInBounds_toArray, List.set_cons_zero, List.set_cons_succ]
          refine wpAnyH_ready (rs := [12]) (by kernel_rfl) (by simp) ?_
          refine AllReadyH.cons (o := { dst := none, op := .store _ (.tmp 10) (.tmp 31), type := _, pos := _, after := _, guard := _ }) rfl (fun K hK => ?_) AllReadyH.nil
          rw [if_pos (by rfl)]
          refine wp_store_mid _ _ _ rfl u115q.heap.size _ #[.int .i64 (cc), .int .i64 (y)] rfl rfl h566q.out.there2 HA.out (two_one _ _) ?_
          simp only [Act.put]
          have h569q : Hid (Gd n w (u568q.setCells u115q.heap.size 0 [.int .i64 (cc), .int .i64 (y)])) := h561q.out.asideL (by omega) 0 [.int .i64 (cc), .int .i64 (y)]
          have h570q : Hid (Bo (u568q.setCells u115q.heap.size 0 [.int .i64 (cc), .int .i64 (y)]) n (wl c)) := h562q.out.asideL (by omega) 0 [.int .i64 (cc), .int .i64 (y)]
          have h571q : Hid (Bo (u568q.setCells u115q.heap.size 0 [.int .i64 (cc), .int .i64 (y)]) (n + 1) [.int .i64 o, .int .i64 k, .int .i64 x]) := h563q.out.asideL (by omega) 0 [.int .i64 (cc), .int .i64 (y)]
          have h572q : Hid (Bo (u568q.setCells u115q.heap.size 0 [.int .i64 (cc), .int .i64 (y)]) (n + 2) (wl wz)) := h564q.out.asideL (by omega) 0 [.int .i64 (cc), .int .i64 (y)]
          have h573q : Hid (Bo (u568q.setCells u115q.heap.size 0 [.int .i64 (cc), .int .i64 (y)]) (n + 3) [.int .i64 0, .int .i64 0]) := h565q.out.asideL (by omega) 0 [.int .i64 (cc), .int .i64 (y)]
          have h574q : Hid (Bo (u568q.setCells u115q.heap.size 0 [.int .i64 (cc), .int .i64 (y)]) u115q.heap.size [.int .i64 (cc), .int .i64 (y)]) := h566q.out.set2 (.int .i64 (cc)) (.int .i64 (y))
          have h575q : Hid (Bo (u568q.setCells u115q.heap.size 0 [.int .i64 (cc), .int .i64 (y)]) u539q.heap.size (wl d)) := h567q.out.asideL (by omega) 0 [.int .i64 (cc), .int .i64 (y)]
          clear h561q h562q h563q h564q h565q h566q h567q
          refine hK.out _ _ ⟨h570q.out, h571q.out⟩ (fun hH => ?_)
          clear hK K
          generalize (u568q.setCells u115q.heap.size 0 [.int .i64 (cc), .int .i64 (y)]) = u576q at h569q h570q h571q h572q h573q h574q h575q hH ⊢
          try simp only [Act.put, List.setIfInBounds_toArray, List.set_cons_zero, List.set_cons_succ]
          refine wpAnyH_done (by kernel_rfl) ?_ _
          go_wp2_with fail
          go_meet
          case rel => exact ⟨u539q.heap.size, u115q.heap.size, rfl, rfl, h569q, h572q, h573q, h575q, h574q, (by omega)⟩
        refine AllReadyH.cons (o := { dst := some 9, op := .alloc _, type := _, pos := _, after := _, guard := _ }) rfl (fun K hK => ?_) AllReadyH.nil
        have l577q : n ≤ u538q.heap.size := h531q.out.le
        have l578q : n < u538q.heap.size := h532q.out.lt
        have l579q : (n + 1) < u538q.heap.size := h533q.out.lt
        have l580q : (n + 2) < u538q.heap.size := h534q.out.lt
        have l581q : (n + 3) < u538q.heap.size := h535q.out.lt
        have l582q : u115q.heap.size < u538q.heap.size := h537q.out.lt
        go_simp
        have h583q : Hid (Gd n w (u538q.alloc (.cells #[.int .u64 0, .int .u64 0, .int .u64 0, .int .u64 0, .int .u64 0, .int .u64 0, .int .u64 0, .int .u64 0, .int .u64 0, .int .u64 0, .int .u64 0, .int .u64 0, .int .u64 0, .int .u64 0, .int .u64 0, .int .u64 0, .int .u64 0] 24))) := h531q.out.new (.cells #[.int .u64 0, .int .u64 0, .int .u64 0, .int .u64 0, .int .u64 0, .int .u64 0, .int .u64 0, .int .u64 0, .int .u64 0, .int .u64 0, .int .u64 0, .int .u64 0, .int .u64 0, .int .u64 0, .int .u64 0, .int .u64 0, .int .u64 0] 24)
        have h584q : Hid (Bo (u538q.alloc (.cells #[.int .u64 0, .int .u64 0, .int .u64 0, .int .u64 0, .int .u64 0, .int .u64 0, .int .u64 0, .int .u64 0, .int .u64 0, .int .u64 0, .int .u64 0, .int .u64 0, .int .u64 0, .int .u64 0, .int .u64 0, .int .u64 0, .int .u64 0] 24)) n (wl c)) := h532q.out.new (.cells #[.int .u64 0, .int .u64 0, .int .u64 0, .int .u64 0, .int .u64 0, .int .u64 0, .int .u64 0, .int .u64 0, .int .u64 0, .int .u64 0, .int .u64 0, .int .u64 0, .int .u64 0, .int .u64 0, .int .u64 0, .int .u64 0, .int .u64 0] 24)
        have h585q : Hid (Bo (u538q.alloc (.cells #[.int .u64 0, .int .u64 0, .int .u64 0, .int .u64 0, .int .u64 0, .int .u64 0, .int .u64 0, .int .u64 0, .int .u64 0, .int .u64 0, .int .u64 0, .int .u64 0, .int .u64 0, .int .u64 0, .int .u64 0, .int .u64 0, .int .u64 0] 24)) (n + 1) [.int .i64 o, .int .i64 k, .int .i64 x]) := h533q.out.new (.cells #[.int .u64 0, .int .u64 0, .int .u64 0, .int .u64 0, .int .u64 0, .int .u64 0, .int .u64 0, .int .u64 0, .int .u64 0, .int .u64 0, .int .u64 0, .int .u64 0, .int .u64 0, .int .u64 0, .int .u64 0, .int .u64 0, .int .u64 0] 24)
        have h586q : Hid (Bo (u538q.alloc (.cells #[.int .u64 0, .int .u64 0, .int .u64 0, .int .u64 0, .int .u64 0, .int .u64 0, .int .u64 0, .int .u64 0, .int .u64 0, .int .u64 0, .int .u64 0, .int .u64 0, .int .u64 0, .int .u64 0, .int .u64 0, .int .u64 0, .int .u64 0] 24)) (n + 2) (wl wz)) := h534q.out.new (.cells #[.int .u64 0, .int .u64 0, .int .u64 0, .int .u64 0, .int .u64 0, .int .u64 0, .int .u64 0, .int .u64 0, .int .u64 0, .int .u64 0, .int .u64 0, .int .u64 0, .int .u64 0, .int .u64 0, .int .u64 0, .int .u64 0, .int .u64 0] 24)
        have h587q : Hid (Bo (u538q.alloc (.cells #[.int .u64 0, .int .u64 0, .int .u64 0, .int .u64 0, .int .u64 0, .int .u64 0, .int .u64 0, .int .u64 0, .int .u64 0, .int .u64 0, .int .u64 0, .int .u64 0, .int .u64 0, .int .u64 0, .int .u64 0, .int .u64 0, .int .u64 0] 24)) (n + 3) [.int .i64 0, .int .i64 0]) := h535q.out.new (.cells #[.int .u64 0, .int .u64 0, .int .u64 0, .int .u64 0, .int .u64 0, .int .u64 0, .int .u64 0, .int .u64 0, .int .u64 0, .int .u64 0, .int .u64 0, .int .u64 0, .int .u64 0, .int .u64 0, .int .u64 0, .int .u64 0, .int .u64 0] 24)
        have h588q : Hid (Deeds (u538q.alloc (.cells #[.int .u64 0, .int .u64 0, .int .u64 0, .int .u64 0, .int .u64 0, .int .u64 0, .int .u64 0, .int .u64 0, .int .u64 0, .int .u64 0, .int .u64 0, .int .u64 0, .int .u64 0, .int .u64 0, .int .u64 0, .int .u64 0, .int .u64 0] 24)) m b1 b2 b3 b4) := h536q.out.new (.cells #[.int .u64 0, .int .u64 0, .int .u64 0, .int .u64 0, .int .u64 0, .int .u64 0, .int .u64 0, .int .u64 0, .int .u64 0, .int .u64 0, .int .u64 0, .int .u64 0, .int .u64 0, .int .u64 0, .int .u64 0, .int .u64 0, .int .u64 0] 24)
        have h589q : Hid (Bo (u538q.alloc (.cells #[.int .u64 0, .int .u64 0, .int .u64 0, .int .u64 0, .int .u64 0, .int .u64 0, .int .u64 0, .int .u64 0, .int .u64 0, .int .u64 0, .int .u64 0, .int .u64 0, .int .u64 0, .int .u64 0, .int .u64 0, .int .u64 0, .int .u64 0] 24)) u115q.heap.size [.int .i64 0, .int .i64 0]) := h537q.out.new (.cells #[.int .u64 0, .int .u64 0, .int .u64 0, .int .u64 0, .int .u64 0, .int .u64 0, .int .u64 0, .int .u64 0, .int .u64 0, .int .u64 0, .int .u64 0, .int .u64 0, .int .u64 0, .int .u64 0, .int .u64 0, .int .u64 0, .int .u64 0] 24)
        clear h531q h532q h533q h534q h535q h536q h537q
        have h590q : Hid (Bo (u538q.alloc (.cells #[.int .u64 0, .int .u64 0, .int .u64 0, .int .u64 0, .int .u64 0, .int .u64 0, .int .u64 0, .int .u64 0, .int .u64 0, .int .u64 0, .int .u64 0, .int .u64 0, .int .u64 0, .int .u64 0, .int .u64 0, .int .u64 0, .int .u64 0] 24)) u538q.heap.size (wl wz)) := Bo.born u538q (wl wz) 24 (by simp)
        refine hK.out _ _ ⟨h584q.out, h585q.out⟩ (fun hH => ?_)
        clear hK K
        generalize (u538q.alloc (.cells #[.int .u64 0, .int .u64 0, .int .u64 0, .int .u64 0, .int .u64 0, .int .u64 0, .int .u64 0, .int .u64 0, .int .u64 0, .int .u64 0, .int .u64 0, .int .u64 0, .int .u64 0, .int .u64 0, .int .u64 0, .int .u64 0, .int .u64 0] 24)) = u591q at h583q h584q h585q h586q h587q h588q h589q h590q hH ⊢
        try simp only [Act.put, List.setIfInBounds_toArray, List.set_cons_zero, List.set_cons_succ]
        refine wpAnyH_ready (rs := [5]) (by kernel_rfl) (by simp) ?_
        refine AllReadyH.cons (o := { dst := some 29, op := _, type := _, pos := _, after := _, guard := _ }) rfl (fun K hK => ?_) AllReadyH.nil
        go_simp
        refine (CC.out _ _ _ _ _ _ h588q.out).mono ?_
        rintro e u592q ⟨rfl, hb⟩
        have h593q : Hid (Gd n w u592q) := h583q.out.later hb
        have h594q : Hid (Bo u592q n (wl c)) := h584q.out.later hb
        have h595q : Hid (Bo u592q (n + 1) [.int .i64 o, .int .i64 k, .int .i64 x]) := h585q.out.later hb
        have h596q : Hid (Bo u592q (n + 2) (wl wz)) := h586q.out.later hb
        have h597q : Hid (Bo u592q (n + 3) [.int .i64 0, .int .i64 0]) := h587q.out.later hb
        have h598q : Hid (Deeds u592q m b1 b2 b3 b4) := h588q.out.later hb
        have h599q : Hid (Bo u592q u115q.heap.size [.int .i64 0, .int .i64 0]) := h589q.out.later hb
        have h600q : Hid (Bo u592q u538q.heap.size (wl wz)) := h590q.out.later hb
        clear h583q h584q h585q h586q h587q h588q h589q h590q
        clear h598q
        clear hb
        go_wp2_with fail
        refine hK.out _ _ ⟨h594q.out, h595q.out⟩ (fun hH => ?_)
        clear hK K
        try simp only [Act.put, List.setIfInBounds_toArray, List.set_cons_zero, List.set_cons_succ]
        refine wpAnyH_take (i := 6) (oi := { dst := some 23, op := .move (.tmp 29), type := _, pos := _, after := _, guard := _ }) (v := ?_) rfl (by kernel_rfl) (by kernel_rfl) (by kernel_rfl) (fun _ _ _ h => h) (Or.inl ⟨by rfl, ?_⟩) hH ?_
        rotate_left
        · intro w hSw
          clear hSw
          go_simp
          try with_reducible rfl
        simp only [Act.put, List.setIfInBounds_toArray, List.set_cons_zero, List.set_cons_succ]
        refine wpAnyH_take (i := 7) (oi := { dst := some 30, op := .extract (.tmp 23) 0, type := _, pos := _, after := _, guard := _ }) (v := ?_) rfl (by kernel_rfl) (by kernel_rfl) (by kernel_rfl) (fun _ _ _ h => h) (Or.inl ⟨by rfl, ?_⟩) hH ?_
        rotate_left
        · intro w hSw
          clear hSw
          go_simp
          try with_reducible rfl
        simp only [Act.put, List.setIfInBounds_toArray, List.set_cons_zero, List.set_cons_succ]
        refine wpAnyH_take (i := 8) (oi := { dst := some 31, op := .extract (.tmp 23) 1, type := _, pos := _, after := _, guard := _ }) (v := ?_) rfl (by kernel_rfl) (by kernel_rfl) (by kernel_rfl) (fun _ _ _ h => h) (Or.inl ⟨by rfl, ?_⟩) hH ?_
        rotate_left
        · intro w hSw
          clear hSw
          go_simp
          try with_reducible rfl
        simp only [Act.put, List.setIfInBounds_toArray, List.set_cons_zero, List.set_cons_succ]
        refine wpAnyH_ready (rs := [11]) (by kernel_rfl) (by simp) ?_
        refine AllReadyH.cons (o := { dst := none, op := .store _ (.tmp 9) (.tmp 30), type := _, pos := _, after := _, guard := _ }) rfl (fun K hK => ?_) AllReadyH.nil
        rw [if_pos (by rfl)]
        refine wp_store_mid _ _ _ rfl u538q.heap.size _ (wl d).toArray rfl rfl (h600q.out.thereW d) (HCZ.out d) (wl_all d) ?_
        simp only [Act.put]
        have h601q : Hid (Gd n w (u592q.setCells u538q.heap.size 0 (wl d))) := h593q.out.asideL (by omega) 0 (wl d)
        have h602q : Hid (Bo (u592q.setCells u538q.heap.size 0 (wl d)) n (wl c)) := h594q.out.asideL (by omega) 0 (wl d)
        have h603q : Hid (Bo (u592q.setCells u538q.heap.size 0 (wl d)) (n + 1) [.int .i64 o, .int .i64 k, .int .i64 x]) := h595q.out.asideL (by omega) 0 (wl d)
        have h604q : Hid (Bo (u592q.setCells u538q.heap.size 0 (wl d)) (n + 2) (wl wz)) := h596q.out.asideL (by omega) 0 (wl d)
        have h605q : Hid (Bo (u592q.setCells u538q.heap.size 0 (wl d)) (n + 3) [.int .i64 0, .int .i64 0]) := h597q.out.asideL (by omega) 0 (wl d)
        have h606q : Hid (Bo (u592q.setCells u538q.heap.size 0 (wl d)) u115q.heap.size [.int .i64 0, .int .i64 0]) := h599q.out.asideL (by omega) 0 (wl d)
        have h607q : Hid (Bo (u592q.setCells u538q.heap.size 0 (wl d)) u538q.heap.size (wl d)) := h600q.out.setW d
        clear h593q h594q h595q h596q h597q h599q h600q
        refine hK.out _ _ ⟨h602q.out, h603q.out⟩ (fun hH => ?_)
        clear hK K
        generalize (u592q.setCells u538q.heap.size 0 (wl d)) = u608q at h601q h602q h603q h604q h605q h606q h607q hH ⊢
        try simp only [Act.put, List.setIfInBounds_toArray, List.set_cons_zero, List.set_cons_succ]
        refine wpAnyH_ready (rs := [12]) (by kernel_rfl) (by simp) ?_
        refine AllReadyH.cons (o := { dst := none, op := .store _ (.tmp 10) (.tmp 31), type := _, pos := _, after := _, guard := _ }) rfl (fun K hK => ?_) AllReadyH.nil
        rw [if_pos (by rfl)]
        refine wp_store_mid _ _ _ rfl u115q.heap.size _ #[.int .i64 (cc), .int .i64 (y)] rfl rfl h606q.out.there2 HA.out (two_one _ _) ?_
        simp only [Act.put]
        have h609q : Hid (Gd n w (u608q.setCells u115q.heap.size 0 [.int .i64 (cc), .int .i64 (y)])) := h601q.out.asideL (by omega) 0 [.int .i64 (cc), .int .i64 (y)]
        have h610q : Hid (Bo (u608q.setCells u115q.heap.size 0 [.int .i64 (cc), .int .i64 (y)]) n (wl c)) := h602q.out.asideL (by omega) 0 [.int .i64 (cc), .int .i64 (y)]
        have h611q : Hid (Bo (u608q.setCells u115q.heap.size 0 [.int .i64 (cc), .int .i64 (y)]) (n + 1) [.int .i64 o, .int .i64 k, .int .i64 x]) := h603q.out.asideL (by omega) 0 [.int .i64 (cc), .int .i64 (y)]
        have h612q : Hid (Bo (u608q.setCells u115q.heap.size 0 [.int .i64 (cc), .int .i64 (y)]) (n + 2) (wl wz)) := h604q.out.asideL (by omega) 0 [.int .i64 (cc), .int .i64 (y)]
        have h613q : Hid (Bo (u608q.setCells u115q.heap.size 0 [.int .i64 (cc), .int .i64 (y)]) (n + 3) [.int .i64 0, .int .i64 0]) := h605q.out.asideL (by omega) 0 [.int .i64 (cc), .int .i64 (y)]
        have h614q : Hid (Bo (u608q.setCells u115q.heap.size 0 [.int .i64 (cc), .int .i64 (y)]) u115q.heap.size [.int .i64 (cc), .int .i64 (y)]) := h606q.out.set2 (.int .i64 (cc)) (.int .i64 (y))
        have h615q : Hid (Bo (u608q.setCells u115q.heap.size 0 [.int .i64 (cc), .int .i64 (y)]) u538q.heap.size (wl d)) := h607q.out.asideL (by omega) 0 [.int .i64 (cc), .int .i64 (y)]
        clear h601q h602q h603q h604q h605q h606q h607q
        refine hK.out _ _ ⟨h610q.out, h611q.out⟩ (fun hH => ?_)
        clear hK K
        generalize (u608q.setCells u115q.heap.size 0 [.int .i64 (cc), .int .i64 (y)]) = u616q at h609q h610q h611q h612q h613q h614q h615q hH ⊢
        try simp only [Act.put, List.setIfInBounds_toArray, List.set_cons_zero, List.set_cons_succ]
        refine wpAnyH_done (by kernel_rfl) ?_ _
        go_wp2_with fail
        go_meet
        case rel => exact ⟨u538q.heap.size, u115q.heap.size, rfl, rfl, h609q, h612q, h613q, h615q, h614q, (by omega)⟩
      refine AllReadyH.cons (o := { dst := some 9, op := .alloc _, type := _, pos := _, after := _, guard := _ }) rfl (fun K hK => ?_) AllReadyH.nil
      have l617q : n ≤ u538q.heap.size := h531q.out.le
      have l618q : n < u538q.heap.size := h532q.out.lt
      have l619q : (n + 1) < u538q.heap.size := h533q.out.lt
      have l620q : (n + 2) < u538q.heap.size := h534q.out.lt
      have l621q : (n + 3) < u538q.heap.size := h535q.out.lt
      have l622q : u115q.heap.size < u538q.heap.size := h537q.out.lt
      go_simp
      have h623q : Hid (Gd n w (u538q.alloc (.cells #[.int .u64 0, .int .u64 0, .int .u64 0, .int .u64 0, .int .u64 0, .int .u64 0, .int .u64 0, .int .u64 0, .int .u64 0, .int .u64 0, .int .u64 0, .int .u64 0, .int .u64 0, .int .u64 0, .int .u64 0, .int .u64 0, .int .u64 0] 24))) := h531q.out.new (.cells #[.int .u64 0, .int .u64 0, .int .u64 0, .int .u64 0, .int .u64 0, .int .u64 0, .int .u64 0, .int .u64 0, .int .u64 0, .int .u64 0, .int .u64 0, .int .u64 0, .int .u64 0, .int .u64 0, .int .u64 0, .int .u64 0, .int .u64 0] 24)
      have h624q : Hid (Bo (u538q.alloc (.cells #[.int .u64 0, .int .u64 0, .int .u64 0, .int .u64 0, .int .u64 0, .int .u64 0, .int .u64 0, .int .u64 0, .int .u64 0, .int .u64 0, .int .u64 0, .int .u64 0, .int .u64 0, .int .u64 0, .int .u64 0, .int .u64 0, .int .u64 0] 24)) n (wl c)) := h532q.out.new (.cells #[.int .u64 0, .int .u64 0, .int .u64 0, .int .u64 0, .int .u64 0, .int .u64 0, .int .u64 0, .int .u64 0, .int .u64 0, .int .u64 0, .int .u64 0, .int .u64 0, .int .u64 0, .int .u64 0, .int .u64 0, .int .u64 0, .int .u64 0] 24)
      have h625q : Hid (Bo (u538q.alloc (.cells #[.int .u64 0, .int .u64 0, .int .u64 0, .int .u64 0, .int .u64 0, .int .u64 0, .int .u64 0, .int .u64 0, .int .u64 0, .int .u64 0, .int .u64 0, .int .u64 0, .int .u64 0, .int .u64 0, .int .u64 0, .int .u64 0, .int .u64 0] 24)) (n + 1) [.int .i64 o, .int .i64 k, .int .i64 x]) := h533q.out.new (.cells #[.int .u64 0, .int .u64 0, .int .u64 0, .int .u64 0, .int .u64 0, .int .u64 0, .int .u64 0, .int .u64 0, .int .u64 0, .int .u64 0, .int .u64 0, .int .u64 0, .int .u64 0, .int .u64 0, .int .u64 0, .int .u64 0, .int .u64 0] 24)
      have h626q : Hid (Bo (u538q.alloc (.cells #[.int .u64 0, .int .u64 0, .int .u64 0, .int .u64 0, .int .u64 0, .int .u64 0, .int .u64 0, .int .u64 0, .int .u64 0, .int .u64 0, .int .u64 0, .int .u64 0, .int .u64 0, .int .u64 0, .int .u64 0, .int .u64 0, .int .u64 0] 24)) (n + 2) (wl wz)) := h534q.out.new (.cells #[.int .u64 0, .int .u64 0, .int .u64 0, .int .u64 0, .int .u64 0, .int .u64 0, .int .u64 0, .int .u64 0, .int .u64 0, .int .u64 0, .int .u64 0, .int .u64 0, .int .u64 0, .int .u64 0, .int .u64 0, .int .u64 0, .int .u64 0] 24)
      have h627q : Hid (Bo (u538q.alloc (.cells #[.int .u64 0, .int .u64 0, .int .u64 0, .int .u64 0, .int .u64 0, .int .u64 0, .int .u64 0, .int .u64 0, .int .u64 0, .int .u64 0, .int .u64 0, .int .u64 0, .int .u64 0, .int .u64 0, .int .u64 0, .int .u64 0, .int .u64 0] 24)) (n + 3) [.int .i64 0, .int .i64 0]) := h535q.out.new (.cells #[.int .u64 0, .int .u64 0, .int .u64 0, .int .u64 0, .int .u64 0, .int .u64 0, .int .u64 0, .int .u64 0, .int .u64 0, .int .u64 0, .int .u64 0, .int .u64 0, .int .u64 0, .int .u64 0, .int .u64 0, .int .u64 0, .int .u64 0] 24)
      have h628q : Hid (Deeds (u538q.alloc (.cells #[.int .u64 0, .int .u64 0, .int .u64 0, .int .u64 0, .int .u64 0, .int .u64 0, .int .u64 0, .int .u64 0, .int .u64 0, .int .u64 0, .int .u64 0, .int .u64 0, .int .u64 0, .int .u64 0, .int .u64 0, .int .u64 0, .int .u64 0] 24)) m b1 b2 b3 b4) := h536q.out.new (.cells #[.int .u64 0, .int .u64 0, .int .u64 0, .int .u64 0, .int .u64 0, .int .u64 0, .int .u64 0, .int .u64 0, .int .u64 0, .int .u64 0, .int .u64 0, .int .u64 0, .int .u64 0, .int .u64 0, .int .u64 0, .int .u64 0, .int .u64 0] 24)
      have h629q : Hid (Bo (u538q.alloc (.cells #[.int .u64 0, .int .u64 0, .int .u64 0, .int .u64 0, .int .u64 0, .int .u64 0, .int .u64 0, .int .u64 0, .int .u64 0, .int .u64 0, .int .u64 0, .int .u64 0, .int .u64 0, .int .u64 0, .int .u64 0, .int .u64 0, .int .u64 0] 24)) u115q.heap.size [.int .i64 0, .int .i64 0]) := h537q.out.new (.cells #[.int .u64 0, .int .u64 0, .int .u64 0, .int .u64 0, .int .u64 0, .int .u64 0, .int .u64 0, .int .u64 0, .int .u64 0, .int .u64 0, .int .u64 0, .int .u64 0, .int .u64 0, .int .u64 0, .int .u64 0, .int .u64 0, .int .u64 0] 24)
      clear h531q h532q h533q h534q h535q h536q h537q
      have h630q : Hid (Bo (u538q.alloc (.cells #[.int .u64 0, .int .u64 0, .int .u64 0, .int .u64 0, .int .u64 0, .int .u64 0, .int .u64 0, .int .u64 0, .int .u64 0, .int .u64 0, .int .u64 0, .int .u64 0, .int .u64 0, .int .u64 0, .int .u64 0, .int .u64 0, .int .u64 0] 24)) u538q.heap.size (wl wz)) := Bo.born u538q (wl wz) 24 (by simp)
      refine hK.out _ _ ⟨h624q.out, h625q.out⟩ (fun hH => ?_)
      clear hK K
      generalize (u538q.alloc (.cells #[.int .u64 0, .int .u64 0, .int .u64 0, .int .u64 0, .int .u64 0, .int .u64 0, .int .u64 0, .int .u64 0, .int .u64 0, .int .u64 0, .int .u64 0, .int .u64 0, .int .u64 0, .int .u64 0, .int .u64 0, .int .u64 0, .int .u64 0] 24)) = u631q at h623q h624q h625q h626q h627q h628q h629q h630q hH ⊢
      try simp only [Act.put, List.setIfInBounds_toArray, List.set_cons_zero, List.set_cons_succ]
      refine wpAnyH_ready (rs := [2]) (by kernel_rfl) (by simp) ?_
      refine AllReadyH.cons (o := { dst := some 26, op := .lookup _ (.tmp 24) (.tmp 25) false, type := _, pos := _, after := _, guard := _ }) rfl (fun K hK => ?_) AllReadyH.nil
      have lk := LL.out _ _ _ _ _ _ h628q.out
      go_simp
      refine hK.out _ _ ⟨h624q.out, h625q.out⟩ (fun hH => ?_)
      clear hK K
      try simp only [Act.put, List.setIfInBounds_toArray, List.set_cons_zero, List.set_cons_succ]
      refine wpAnyH_ready (rs := [5]) (by kernel_rfl) (by simp) ?_
      refine AllReadyH.cons (o := { dst := some 29, op := _, type := _, pos := _, after := _, guard := _ }) rfl (fun K hK => ?_) AllReadyH.nil
      go_simp
      refine (CC.out _ _ _ _ _ _ h628q.out).mono ?_
      rintro e u632q ⟨rfl, hb⟩
      have h633q : Hid (Gd n w u632q) := h623q.out.later hb
      have h634q : Hid (Bo u632q n (wl c)) := h624q.out.later hb
      have h635q : Hid (Bo u632q (n + 1) [.int .i64 o, .int .i64 k, .int .i64 x]) := h625q.out.later hb
      have h636q : Hid (Bo u632q (n + 2) (wl wz)) := h626q.out.later hb
      have h637q : Hid (Bo u632q (n + 3) [.int .i64 0, .int .i64 0]) := h627q.out.later hb
      have h638q : Hid (Deeds u632q m b1 b2 b3 b4) := h628q.out.later hb
      have h639q : Hid (Bo u632q u115q.heap.size [.int .i64 0, .int .i64 0]) := h629q.out.later hb
      have h640q : Hid (Bo u632q u538q.heap.size (wl wz)) := h630q.out.later hb
      clear h623q h624q h625q h626q h627q h628q h629q h630q
      clear h638q
      clear hb
      go_wp2_with fail
      refine hK.out _ _ ⟨h634q.out, h635q.out⟩ (fun hH => ?_)
      clear hK K
      try simp only [Act.put, List.setIfInBounds_toArray, List.set_cons_zero, List.set_cons_succ]
      refine wpAnyH_take (i := 6) (oi := { dst := some 23, op := .move (.tmp 29), type := _, pos := _, after := _, guard := _ }) (v := ?_) rfl (by kernel_rfl) (by kernel_rfl) (by kernel_rfl) (fun _ _ _ h => h) (Or.inl ⟨by rfl, ?_⟩) hH ?_
      rotate_left
      · intro w hSw
        clear hSw
        go_simp
        try with_reducible rfl
      simp only [Act.put, List.setIfInBounds_toArray, List.set_cons_zero, List.set_cons_succ]
      refine wpAnyH_take (i := 7) (oi := { dst := some 30, op := .extract (.tmp 23) 0, type := _, pos := _, after := _, guard := _ }) (v := ?_) rfl (by kernel_rfl) (by kernel_rfl) (by kernel_rfl) (fun _ _ _ h => h) (Or.inl ⟨by rfl, ?_⟩) hH ?_
      rotate_left
      · intro w hSw
        clear hSw
        go_simp
        try with_reducible rfl
      simp only [Act.put, List.setIfInBounds_toArray, List.set_cons_zero, List.set_cons_succ]
      refine wpAnyH_take (i := 8) (oi := { dst := some 31, op := .extract (.tmp 23) 1, type := _, pos := _, after := _, guard := _ }) (v := ?_) rfl (by kernel_rfl) (by kernel_rfl) (by kernel_rfl) (fun _ _ _ h => h) (Or.inl ⟨by rfl, ?_⟩) hH ?_
      rotate_left
      · intro w hSw
        clear hSw
        go_simp
        try with_reducible rfl
      simp only [Act.put, List.setIfInBounds_toArray, List.set_cons_zero, List.set_cons_succ]
      refine wpAnyH_ready (rs := [11]) (by kernel_rfl) (by simp) ?_
      refine AllReadyH.cons (o := { dst := none, op := .store _ (.tmp 9) (.tmp 30), type := _, pos := _, after := _, guard := _ }) rfl (fun K hK => ?_) AllReadyH.nil
      rw [if_pos (by rfl)]
      refine wp_store_mid _ _ _ rfl u538q.heap.size _ (wl d).toArray rfl rfl (h640q.out.thereW d) (HCZ.out d) (wl_all d) ?_
      simp only [Act.put]
      have h641q : Hid (Gd n w (u632q.setCells u538q.heap.size 0 (wl d))) := h633q.out.asideL (by omega) 0 (wl d)
      have h642q : Hid (Bo (u632q.setCells u538q.heap.size 0 (wl d)) n (wl c)) := h634q.out.asideL (by omega) 0 (wl d)
      have h643q : Hid (Bo (u632q.setCells u538q.heap.size 0 (wl d)) (n + 1) [.int .i64 o, .int .i64 k, .int .i64 x]) := h635q.out.asideL (by omega) 0 (wl d)
      have h644q : Hid (Bo (u632q.setCells u538q.heap.size 0 (wl d)) (n + 2) (wl wz)) := h636q.out.asideL (by omega) 0 (wl d)
      have h645q : Hid (Bo (u632q.setCells u538q.heap.size 0 (wl d)) (n + 3) [.int .i64 0, .int .i64 0]) := h637q.out.asideL (by omega) 0 (wl d)
      have h646q : Hid (Bo (u632q.setCells u538q.heap.size 0 (wl d)) u115q.heap.size [.int .i64 0, .int .i64 0]) := h639q.out.asideL (by omega) 0 (wl d)
      have h647q : Hid (Bo (u632q.setCells u538q.heap.size 0 (wl d)) u538q.heap.size (wl d)) := h640q.out.setW d
      clear h633q h634q h635q h636q h637q h639q h640q
      refine hK.out _ _ ⟨h642q.out, h643q.out⟩ (fun hH => ?_)
      clear hK K
      generalize (u632q.setCells u538q.heap.size 0 (wl d)) = u648q at h641q h642q h643q h644q h645q h646q h647q hH ⊢
      try simp only [Act.put, List.setIfInBounds_toArray, List.set_cons_zero, List.set_cons_succ]
      refine wpAnyH_ready (rs := [12]) (by kernel_rfl) (by simp) ?_
      refine AllReadyH.cons (o := { dst := none, op := .store _ (.tmp 10) (.tmp 31), type := _, pos := _, after := _, guard := _ }) rfl (fun K hK => ?_) AllReadyH.nil
      rw [if_pos (by rfl)]
      refine wp_store_mid _ _ _ rfl u115q.heap.size _ #[.int .i64 (cc), .int .i64 (y)] rfl rfl h646q.out.there2 HA.out (two_one _ _) ?_
      simp only [Act.put]
      have h649q : Hid (Gd n w (u648q.setCells u115q.heap.size 0 [.int .i64 (cc), .int .i64 (y)])) := h641q.out.asideL (by omega) 0 [.int .i64 (cc), .int .i64 (y)]
      have h650q : Hid (Bo (u648q.setCells u115q.heap.size 0 [.int .i64 (cc), .int .i64 (y)]) n (wl c)) := h642q.out.asideL (by omega) 0 [.int .i64 (cc), .int .i64 (y)]
      have h651q : Hid (Bo (u648q.setCells u115q.heap.size 0 [.int .i64 (cc), .int .i64 (y)]) (n + 1) [.int .i64 o, .int .i64 k, .int .i64 x]) := h643q.out.asideL (by omega) 0 [.int .i64 (cc), .int .i64 (y)]
      have h652q : Hid (Bo (u648q.setCells u115q.heap.size 0 [.int .i64 (cc), .int .i64 (y)]) (n + 2) (wl wz)) := h644q.out.asideL (by omega) 0 [.int .i64 (cc), .int .i64 (y)]
      have h653q : Hid (Bo (u648q.setCells u115q.heap.size 0 [.int .i64 (cc), .int .i64 (y)]) (n + 3) [.int .i64 0, .int .i64 0]) := h645q.out.asideL (by omega) 0 [.int .i64 (cc), .int .i64 (y)]
      have h654q : Hid (Bo (u648q.setCells u115q.heap.size 0 [.int .i64 (cc), .int .i64 (y)]) u115q.heap.size [.int .i64 (cc), .int .i64 (y)]) := h646q.out.set2 (.int .i64 (cc)) (.int .i64 (y))
      have h655q : Hid (Bo (u648q.setCells u115q.heap.size 0 [.int .i64 (cc), .int .i64 (y)]) u538q.heap.size (wl d)) := h647q.out.asideL (by omega) 0 [.int .i64 (cc), .int .i64 (y)]
      clear h641q h642q h643q h644q h645q h646q h647q
      refine hK.out _ _ ⟨h650q.out, h651q.out⟩ (fun hH => ?_)
      clear hK K
      generalize (u648q.setCells u115q.heap.size 0 [.int .i64 (cc), .int .i64 (y)]) = u656q at h649q h650q h651q h652q h653q h654q h655q hH ⊢
      try simp only [Act.put, List.setIfInBounds_toArray, List.set_cons_zero, List.set_cons_succ]
      refine wpAnyH_done (by kernel_rfl) ?_ _
      go_wp2_with fail
      go_meet
      case rel => exact ⟨u538q.heap.size, u115q.heap.size, rfl, rfl, h649q, h652q, h653q, h655q, h654q, (by omega)⟩
    refine AllReadyH.cons (o := { dst := some 9, op := .alloc _, type := _, pos := _, after := _, guard := _ }) rfl (fun K hK => ?_) ?_
    · have l657q : n ≤ u111q.heap.size := h106q.out.le
      have l658q : n < u111q.heap.size := h107q.out.lt
      have l659q : (n + 1) < u111q.heap.size := h108q.out.lt
      have l660q : (n + 2) < u111q.heap.size := h109q.out.lt
      have l661q : (n + 3) < u111q.heap.size := h110q.out.lt
      go_simp
      have h662q : Hid (Gd n w (u111q.alloc (.cells #[.int .u64 0, .int .u64 0, .int .u64 0, .int .u64 0, .int .u64 0, .int .u64 0, .int .u64 0, .int .u64 0, .int .u64 0, .int .u64 0, .int .u64 0, .int .u64 0, .int .u64 0, .int .u64 0, .int .u64 0, .int .u64 0, .int .u64 0] 24))) := h106q.out.new (.cells #[.int .u64 0, .int .u64 0, .int .u64 0, .int .u64 0, .int .u64 0, .int .u64 0, .int .u64 0, .int .u64 0, .int .u64 0, .int .u64 0, .int .u64 0, .int .u64 0, .int .u64 0, .int .u64 0, .int .u64 0, .int .u64 0, .int .u64 0] 24)
      have h663q : Hid (Bo (u111q.alloc (.cells #[.int .u64 0, .int .u64 0, .int .u64 0, .int .u64 0, .int .u64 0, .int .u64 0, .int .u64 0, .int .u64 0, .int .u64 0, .int .u64 0, .int .u64 0, .int .u64 0, .int .u64 0, .int .u64 0, .int .u64 0, .int .u64 0, .int .u64 0] 24)) n (wl c)) := h107q.out.new (.cells #[.int .u64 0, .int .u64 0, .int .u64 0, .int .u64 0, .int .u64 0, .int .u64 0, .int .u64 0, .int .u64 0, .int .u64 0, .int .u64 0, .int .u64 0, .int .u64 0, .int .u64 0, .int .u64 0, .int .u64 0, .int .u64 0, .int .u64 0] 24)
      have h664q : Hid (Bo (u111q.alloc (.cells #[.int .u64 0, .int .u64 0, .int .u64 0, .int .u64 0, .int .u64 0, .int .u64 0, .int .u64 0, .int .u64 0, .int .u64 0, .int .u64 0, .int .u64 0, .int .u64 0, .int .u64 0, .int .u64 0, .int .u64 0, .int .u64 0, .int .u64 0] 24)) (n + 1) [.int .i64 o, .int .i64 k, .int .i64 x]) := h108q.out.new (.cells #[.int .u64 0, .int .u64 0, .int .u64 0, .int .u64 0, .int .u64 0, .int .u64 0, .int .u64 0, .int .u64 0, .int .u64 0, .int .u64 0, .int .u64 0, .int .u64 0, .int .u64 0, .int .u64 0, .int .u64 0, .int .u64 0, .int .u64 0] 24)
      have h665q : Hid (Bo (u111q.alloc (.cells #[.int .u64 0, .int .u64 0, .int .u64 0, .int .u64 0, .int .u64 0, .int .u64 0, .int .u64 0, .int .u64 0, .int .u64 0, .int .u64 0, .int .u64 0, .int .u64 0, .int .u64 0, .int .u64 0, .int .u64 0, .int .u64 0, .int .u64 0] 24)) (n + 2) (wl wz)) := h109q.out.new (.cells #[.int .u64 0, .int .u64 0, .int .u64 0, .int .u64 0, .int .u64 0, .int .u64 0, .int .u64 0, .int .u64 0, .int .u64 0, .int .u64 0, .int .u64 0, .int .u64 0, .int .u64 0, .int .u64 0, .int .u64 0, .int .u64 0, .int .u64 0] 24)
      have h666q : Hid (Bo (u111q.alloc (.cells #[.int .u64 0, .int .u64 0, .int .u64 0, .int .u64 0, .int .u64 0, .int .u64 0, .int .u64 0, .int .u64 0, .int .u64 0, .int .u64 0, .int .u64 0, .int .u64 0, .int .u64 0, .int .u64 0, .int .u64 0, .int .u64 0, .int .u64 0] 24)) (n + 3) [.int .i64 0, .int .i64 0]) := h110q.out.new (.cells #[.int .u64 0, .int .u64 0, .int .u64 0, .int .u64 0, .int .u64 0, .int .u64 0, .int .u64 0, .int .u64 0, .int .u64 0, .int .u64 0, .int .u64 0, .int .u64 0, .int .u64 0, .int .u64 0, .int .u64 0, .int .u64 0, .int .u64 0] 24)
      clear h106q h107q h108q h109q h110q
      have h667q : Hid (Bo (u111q.alloc (.cells #[.int .u64 0, .int .u64 0, .int .u64 0, .int .u64 0, .int .u64 0, .int .u64 0, .int .u64 0, .int .u64 0, .int .u64 0, .int .u64 0, .int .u64 0, .int .u64 0, .int .u64 0, .int .u64 0, .int .u64 0, .int .u64 0, .int .u64 0] 24)) u111q.heap.size (wl wz)) := Bo.born u111q (wl wz) 24 (by simp)
      refine hK.out _ _ ⟨h663q.out, h664q.out⟩ (fun hH => ?_)
      clear hK K
      generalize (u111q.alloc (.cells #[.int .u64 0, .int .u64 0, .int .u64 0, .int .u64 0, .int .u64 0, .int .u64 0, .int .u64 0, .int .u64 0, .int .u64 0, .int .u64 0, .int .u64 0, .int .u64 0, .int .u64 0, .int .u64 0, .int .u64 0, .int .u64 0, .int .u64 0] 24)) = u668q at h662q h663q h664q h665q h666q h667q hH ⊢
      try simp only [Act.put, List.setIfInBounds_toArray, List.set_cons_zero, List.set_cons_succ]
      refine wpAnyH_ready (rs := [0, 10]) (by kernel_rfl) (by simp) ?_
      refine AllReadyH.cons (o := { dst := some 24, op := _, type := _, pos := _, after := _, guard := _ }) rfl (fun K hK => ?_) ?_
      · go_simp
        refine (deeds_is _).mono ?_
        rintro e u669q ⟨rfl, ⟨b1, b2, b3, b4, hD⟩, hb⟩
        have h670q : Hid (Gd n w u669q) := h662q.out.later hb
        have h671q : Hid (Bo u669q n (wl c)) := h663q.out.later hb
        have h672q : Hid (Bo u669q (n + 1) [.int .i64 o, .int .i64 k, .int .i64 x]) := h664q.out.later hb
        have h673q : Hid (Bo u669q (n + 2) (wl wz)) := h665q.out.later hb
        have h674q : Hid (Bo u669q (n + 3) [.int .i64 0, .int .i64 0]) := h666q.out.later hb
        have h675q : Hid (Bo u669q u111q.heap.size (wl wz)) := h667q.out.later hb
        clear h662q h663q h664q h665q h666q h667q
        generalize u668q.heap.size = m at hD ⊢
        have h676q : Hid (Deeds u669q m b1 b2 b3 b4) := hD
        clear hD
        clear hb
        go_wp2_with fail
        refine hK.out _ _ ⟨h671q.out, h672q.out⟩ (fun hH => ?_)
        clear hK K
        try simp only [Act.put, List.setIfInBounds_toArray, List.set_cons_zero, List.set_cons_succ]
        refine wpAnyH_ready (rs := [2, 10]) (by kernel_rfl) (by simp) ?_
        refine AllReadyH.cons (o := { dst := some 26, op := .lookup _ (.tmp 24) (.tmp 25) false, type := _, pos := _, after := _, guard := _ }) rfl (fun K hK => ?_) ?_
        · have lk := LL.out _ _ _ _ _ _ h676q.out
          go_simp
          refine hK.out _ _ ⟨h671q.out, h672q.out⟩ (fun hH => ?_)
          clear hK K
          try simp only [Act.put, List.setIfInBounds_toArray, List.set_cons_zero, List.set_cons_succ]
          refine wpAnyH_ready (rs := [5, 10]) (by kernel_rfl) (by simp) ?_
          refine AllReadyH.cons (o := { dst := some 29, op := _, type := _, pos := _, after := _, guard := _ }) rfl (fun K hK => ?_) ?_
          · go_simp
            refine (CC.out _ _ _ _ _ _ h676q.out).mono ?_
            rintro e u677q ⟨rfl, hb⟩
            have h678q : Hid (Gd n w u677q) := h670q.out.later hb
            have h679q : Hid (Bo u677q n (wl c)) := h671q.out.later hb
            have h680q : Hid (Bo u677q (n + 1) [.int .i64 o, .int .i64 k, .int .i64 x]) := h672q.out.later hb
            have h681q : Hid (Bo u677q (n + 2) (wl wz)) := h673q.out.later hb
            have h682q : Hid (Bo u677q (n + 3) [.int .i64 0, .int .i64 0]) := h674q.out.later hb
            have h683q : Hid (Bo u677q u111q.heap.size (wl wz)) := h675q.out.later hb
            have h684q : Hid (Deeds u677q m b1 b2 b3 b4) := h676q.out.later hb
            clear h670q h671q h672q h673q h674q h675q h676q
            clear h684q
            clear hb
            go_wp2_with fail
            refine hK.out _ _ ⟨h679q.out, h680q.out⟩ (fun hH => ?_)
            clear hK K
            try simp only [Act.put, List.setIfInBounds_toArray, List.set_cons_zero, List.set_cons_succ]
            refine wpAnyH_take (i := 6) (oi := { dst := some 23, op := .move (.tmp 29), type := _, pos := _, after := _, guard := _ }) (v := ?_) rfl (by kernel_rfl) (by kernel_rfl) (by kernel_rfl) (fun _ _ _ h => h) (Or.inl ⟨by rfl, ?_⟩) hH ?_
            rotate_left
            · intro w hSw
              clear hSw
              go_simp
              try with_reducible rfl
            simp only [Act.put, List.setIfInBounds_toArray, List.set_cons_zero, List.set_cons_succ]
            refine wpAnyH_take (i := 7) (oi := { dst := some 30, op := .extract (.tmp 23) 0, type := _, pos := _, after := _, guard := _ }) (v := ?_) rfl (by kernel_rfl) (by kernel_rfl) (by kernel_rfl) (fun _ _ _ h => h) (Or.inl ⟨by rfl, ?_⟩) hH ?_
            rotate_left
            · intro w hSw
              clear hSw
              go_simp
              try with_reducible rfl
            simp only [Act.put, List.setIfInBounds_toArray, List.set_cons_zero, List.set_cons_succ]
            refine wpAnyH_take (i := 8) (oi := { dst := some 31, op := .extract (.tmp 23) 1, type := _, pos := _, after := _, guard := _ }) (v := ?_) rfl (by kernel_rfl) (by kernel_rfl) (by kernel_rfl) (fun _ _ _ h => h) (Or.inl ⟨by rfl, ?_⟩) hH ?_
            rotate_left
            · intro w hSw
              clear hSw
              go_simp
              try with_reducible rfl
            simp only [Act.put, List.setIfInBounds_toArray, List.set_cons_zero, List.set_cons_succ]
            refine wpAnyH_ready (rs := [10]) (by kernel_rfl) (by simp) ?_
            refine AllReadyH.cons (o := { dst := some 10, op := .alloc _, type := _, pos := _, after := _, guard := _ }) rfl (fun K hK => ?_) AllReadyH.nil
            have l685q : n ≤ u677q.heap.size := h678q.out.le
            have l686q : n < u677q.heap.size := h679q.out.lt
            have l687q : (n + 1) < u677q.heap.size := h680q.out.lt
            have l688q : (n + 2) < u677q.heap.size := h681q.out.lt
            have l689q : (n + 3) < u677q.heap.size := h682q.out.lt
            have l690q : u111q.heap.size < u677q.heap.size := h683q.out.lt
            go_simp
            have h691q : Hid (Gd n w (u677q.alloc (.cells #[.int .i64 0, .int .i64 0] 38))) := h678q.out.new (.cells #[.int .i64 0, .int .i64 0] 38)
            have h692q : Hid (Bo (u677q.alloc (.cells #[.int .i64 0, .int .i64 0] 38)) n (wl c)) := h679q.out.new (.cells #[.int .i64 0, .int .i64 0] 38)
            have h693q : Hid (Bo (u677q.alloc (.cells #[.int .i64 0, .int .i64 0] 38)) (n + 1) [.int .i64 o, .int .i64 k, .int .i64 x]) := h680q.out.new (.cells #[.int .i64 0, .int .i64 0] 38)
            have h694q : Hid (Bo (u677q.alloc (.cells #[.int .i64 0, .int .i64 0] 38)) (n + 2) (wl wz)) := h681q.out.new (.cells #[.int .i64 0, .int .i64 0] 38)
            have h695q : Hid (Bo (u677q.alloc (.cells #[.int .i64 0, .int .i64 0] 38)) (n + 3) [.int .i64 0, .int .i64 0]) := h682q.out.new (.cells #[.int .i64 0, .int .i64 0] 38)
            have h696q : Hid (Bo (u677q.alloc (.cells #[.int .i64 0, .int .i64 0] 38)) u111q.heap.size (wl wz)) := h683q.out.new (.cells #[.int .i64 0, .int .i64 0] 38)
            clear h678q h679q h680q h681q h682q h683q
            have h697q : Hid (Bo (u677q.alloc (.cells #[.int .i64 0, .int .i64 0] 38)) u677q.heap.size [.int .i64 0, .int .i64 0]) := Bo.born u677q [.int .i64 0, .int .i64 0] 38 (by simp)
            refine hK.out _ _ ⟨h692q.out, h693q.out⟩ (fun hH => ?_)
            clear hK K
            generalize (u677q.alloc (.cells #[.int .i64 0, .int .i64 0] 38)) = u698q at h691q h692q h693q h694q h695q h696q h697q hH ⊢
            try simp only [Act.put, List.setIfInBounds_toArray, List.set_cons_zero, List.set_cons_succ]
            refine wpAnyH_ready (rs := [11]) (by kernel_rfl) (by simp) ?_
            refine AllReadyH.cons (o := { dst := none, op := .store _ (.tmp 9) (.tmp 30), type := _, pos := _, after := _, guard := _ }) rfl (fun K hK => ?_) AllReadyH.nil
            rw [if_pos (by rfl)]
            refine wp_store_mid _ _ _ rfl u111q.heap.size _ (wl d).toArray rfl rfl (h696q.out.thereW d) (HCZ.out d) (wl_all d) ?_
            simp only [Act.put]
            have h699q : Hid (Gd n w (u698q.setCells u111q.heap.size 0 (wl d))) := h691q.out.asideL (by omega) 0 (wl d)
            have h700q : Hid (Bo (u698q.setCells u111q.heap.size 0 (wl d)) n (wl c)) := h692q.out.asideL (by omega) 0 (wl d)
            have h701q : Hid (Bo (u698q.setCells u111q.heap.size 0 (wl d)) (n + 1) [.int .i64 o, .int .i64 k, .int .i64 x]) := h693q.out.asideL (by omega) 0 (wl d)
            have h702q : Hid (Bo (u698q.setCells u111q.heap.size 0 (wl d)) (n + 2) (wl wz)) := h694q.out.asideL (by omega) 0 (wl d)
            have h703q : Hid (Bo (u698q.setCells u111q.heap.size 0 (wl d)) (n + 3) [.int .i64 0, .int .i64 0]) := h695q.out.asideL (by omega) 0 (wl d)
            have h704q : Hid (Bo (u698q.setCells u111q.heap.size 0 (wl d)) u111q.heap.size (wl d)) := h696q.out.setW d
            have h705q : Hid (Bo (u698q.setCells u111q.heap.size 0 (wl d)) u677q.heap.size [.int .i64 0, .int .i64 0]) := h697q.out.asideL (by omega) 0 (wl d)
            clear h691q h692q h693q h694q h695q h696q h697q
            refine hK.out _ _ ⟨h700q.out, h701q.out⟩ (fun hH => ?_)
            clear hK K
            generalize (u698q.setCells u111q.heap.size 0 (wl d)) = u706q at h699q h700q h701q h702q h703q h704q h705q hH ⊢
            try simp only [Act.put, List.setIfInBounds_toArray, List.set_cons_zero, List.set_cons_succ]
            refine wpAnyH_ready (rs := [12]) (by kernel_rfl) (by simp) ?_
            refine AllReadyH.cons (o := { dst := none, op := .store _ (.tmp 10) (.tmp 31), type := _, pos := _, after := _, guard := _ }) rfl (fun K hK => ?_) AllReadyH.nil
            rw [if_pos (by rfl)]
            refine wp_store_mid _ _ _ rfl u677q.heap.size _ #[.int .i64 (cc), .int .i64 (y)] rfl rfl h705q.out.there2 HA.out (two_one _ _) ?_
            simp only [Act.put]
            have h707q : Hid (Gd n w (u706q.setCells u677q.heap.size 0 [.int .i64 (cc), .int .i64 (y)])) := h699q.out.asideL (by omega) 0 [.int .i64 (cc), .int .i64 (y)]
            have h708q : Hid (Bo (u706q.setCells u677q.heap.size 0 [.int .i64 (cc), .int .i64 (y)]) n (wl c)) := h700q.out.asideL (by omega) 0 [.int .i64 (cc), .int .i64 (y)]
            have h709q : Hid (Bo (u706q.setCells u677q.heap.size 0 [.int .i64 (cc), .int .i64 (y)]) (n + 1) [.int .i64 o, .int .i64 k, .int .i64 x]) := h701q.out.asideL (by omega) 0 [.int .i64 (cc), .int .i64 (y)]
            have h710q : Hid (Bo (u706q.setCells u677q.heap.size 0 [.int .i64 (cc), .int .i64 (y)]) (n + 2) (wl wz)) := h702q.out.asideL (by omega) 0 [.int .i64 (cc), .int .i64 (y)]
            have h711q : Hid (Bo (u706q.setCells u677q.heap.size 0 [.int .i64 (cc), .int .i64 (y)]) (n + 3) [.int .i64 0, .int .i64 0]) := h703q.out.asideL (by omega) 0 [.int .i64 (cc), .int .i64 (y)]
            have h712q : Hid (Bo (u706q.setCells u677q.heap.size 0 [.int .i64 (cc), .int .i64 (y)]) u111q.heap.size (wl d)) := h704q.out.asideL (by omega) 0 [.int .i64 (cc), .int .i64 (y)]
            have h713q : Hid (Bo (u706q.setCells u677q.heap.size 0 [.int .i64 (cc), .int .i64 (y)]) u677q.heap.size [.int .i64 (cc), .int .i64 (y)]) := h705q.out.set2 (.int .i64 (cc)) (.int .i64 (y))
            clear h699q h700q h701q h702q h703q h704q h705q
            refine hK.out _ _ ⟨h708q.out, h709q.out⟩ (fun hH => ?_)
            clear hK K
            generalize (u706q.setCells u677q.heap.size 0 [.int .i64 (cc), .int .i64 (y)]) = u714q at h707q h708q h709q h710q h711q h712q h713q hH ⊢
            try simp only [Act.put, List.setIfInBounds_toArray, List.set_cons_zero, List.set_cons_succ]
            refine wpAnyH_done (by kernel_rfl) ?_ _
            go_wp2_with fail
            go_meet
            case rel => exact ⟨u111q.heap.size, u677q.heap.size, rfl, rfl, h707q, h710q, h711q, h712q, h713q, (by omega)⟩
          refine AllReadyH.cons (o := { dst := some 10, op := .alloc _, type := _, pos := _, after := _, guard := _ }) rfl (fun K hK => ?_) AllReadyH.nil
          have l715q : n ≤ u669q.heap.size := h670q.out.le
          have l716q : n < u669q.heap.size := h671q.out.lt
          have l717q : (n + 1) < u669q.heap.size := h672q.out.lt
          have l718q : (n + 2) < u669q.heap.size := h673q.out.lt
          have l719q : (n + 3) < u669q.heap.size := h674q.out.lt
          have l720q : u111q.heap.size < u669q.heap.size := h675q.out.lt
          go_simp
          have h721q : Hid (Gd n w (u669q.alloc (.cells #[.int .i64 0, .int .i64 0] 38))) := h670q.out.new (.cells #[.int .i64 0, .int .i64 0] 38)
          have h722q : Hid (Bo (u669q.alloc (.cells #[.int .i64 0, .int .i64 0] 38)) n (wl c)) := h671q.out.new (.cells #[.int .i64 0, .int .i64 0] 38)
          have h723q : Hid (Bo (u669q.alloc (.cells #[.int .i64 0, .int .i64 0] 38)) (n + 1) [.int .i64 o, .int .i64 k, .int .i64 x]) := h672q.out.new (.cells #[.int .i64 0, .int .i64 0] 38)
          have h724q : Hid (Bo (u669q.alloc (.cells #[.int .i64 0, .int .i64 0] 38)) (n + 2) (wl wz)) := h673q.out.new (.cells #[.int .i64 0, .int .i64 0] 38)
          have h725q : Hid (Bo (u669q.alloc (.cells #[.int .i64 0, .int .i64 0] 38)) (n + 3) [.int .i64 0, .int .i64 0]) := h674q.out.new (.cells #[.int .i64 0, .int .i64 0] 38)
          have h726q : Hid (Bo (u669q.alloc (.cells #[.int .i64 0, .int .i64 0] 38)) u111q.heap.size (wl wz)) := h675q.out.new (.cells #[.int .i64 0, .int .i64 0] 38)
          have h727q : Hid (Deeds (u669q.alloc (.cells #[.int .i64 0, .int .i64 0] 38)) m b1 b2 b3 b4) := h676q.out.new (.cells #[.int .i64 0, .int .i64 0] 38)
          clear h670q h671q h672q h673q h674q h675q h676q
          have h728q : Hid (Bo (u669q.alloc (.cells #[.int .i64 0, .int .i64 0] 38)) u669q.heap.size [.int .i64 0, .int .i64 0]) := Bo.born u669q [.int .i64 0, .int .i64 0] 38 (by simp)
          refine hK.out _ _ ⟨h722q.out, h723q.out⟩ (fun hH => ?_)
          clear hK K
          generalize (u669q.alloc (.cells #[.int .i64 0, .int .i64 0] 38)) = u729q at h721q h722q h723q h724q h725q h726q h727q h728q hH ⊢
          try simp only [Act.put, List.setIfInBounds_toArray, List.set_cons_zero, List.set_cons_succ]
          refine wpAnyH_ready (rs := [5]) (by kernel_rfl) (by simp) ?_
          refine AllReadyH.cons (o := { dst := some 29, op := _, type := _, pos := _, after := _, guard := _ }) rfl (fun K hK => ?_) AllReadyH.nil
          go_simp
          refine (CC.out _ _ _ _ _ _ h727q.out).mono ?_
          rintro e u730q ⟨rfl, hb⟩
          have h731q : Hid (Gd n w u730q) := h721q.out.later hb
          have h732q : Hid (Bo u730q n (wl c)) := h722q.out.later hb
          have h733q : Hid (Bo u730q (n + 1) [.int .i64 o, .int .i64 k, .int .i64 x]) := h723q.out.later hb
          have h734q : Hid (Bo u730q (n + 2) (wl wz)) := h724q.out.later hb
          have h735q : Hid (Bo u730q (n + 3) [.int .i64 0, .int .i64 0]) := h725q.out.later hb
          have h736q : Hid (Bo u730q u111q.heap.size (wl wz)) := h726q.out.later hb
          have h737q : Hid (Deeds u730q m b1 b2 b3 b4) := h727q.out.later hb
          have h738q : Hid (Bo u730q u669q.heap.size [.int .i64 0, .int .i64 0]) := h728q.out.later hb
          clear h721q h722q h723q h724q h725q h726q h727q h728q
          clear h737q
          clear hb
          go_wp2_with fail
          refine hK.out _ _ ⟨h732q.out, h733q.out⟩ (fun hH => ?_)
          clear hK K
          try simp only [Act.put, List.setIfInBounds_toArray, List.set_cons_zero, List.set_cons_succ]
          refine wpAnyH_take (i := 6) (oi := { dst := some 23, op := .move (.tmp 29), type := _, pos := _, after := _, guard := _ }) (v := ?_) rfl (by kernel_rfl) (by kernel_rfl) (by kernel_rfl) (fun _ _ _ h => h) (Or.inl ⟨by rfl, ?_⟩) hH ?_
          rotate_left
          · intro w hSw
            clear hSw
            go_simp
            try with_reducible rfl
          simp only [Act.put, List.setIfInBounds_toArray, List.set_cons_zero, List.set_cons_succ]
          refine wpAnyH_take (i := 7) (oi := { dst := some 30, op := .extract (.tmp 23) 0, type := _, pos := _, after := _, guard := _ }) (v := ?_) rfl (by kernel_rfl) (by kernel_rfl) (by kernel_rfl) (fun _ _ _ h => h) (Or.inl ⟨by rfl, ?_⟩) hH ?_
          rotate_left
          · intro w hSw
            clear hSw
            go_simp
            try with_reducible rfl
          simp only [Act.put, List.setIfInBounds_toArray, List.set_cons_zero, List.set_cons_succ]
          refine wpAnyH_take (i := 8) (oi := { dst := some 31, op := .extract (.tmp 23) 1, type := _, pos := _, after := _, guard := _ }) (v := ?_) rfl (by kernel_rfl) (by kernel_rfl) (by kernel_rfl) (fun _ _ _ h => h) (Or.inl ⟨by rfl, ?_⟩) hH ?_
          rotate_left
          · intro w hSw
            clear hSw
            go_simp
            try with_reducible rfl
          simp only [Act.put, List.setIfInBounds_toArray, List.set_cons_zero, List.set_cons_succ]
          refine wpAnyH_ready (rs := [11]) (by kernel_rfl) (by simp) ?_
          refine AllReadyH.cons (o := { dst := none, op := .store _ (.tmp 9) (.tmp 30), type := _, pos := _, after := _, guard := _ }) rfl (fun K hK => ?_) AllReadyH.nil
          rw [if_pos (by rfl)]
          refine wp_store_mid _ _ _ rfl u111q.heap.size _ (wl d).toArray rfl rfl (h736q.out.thereW d) (HCZ.out d) (wl_all d) ?_
          simp only [Act.put]
          have h739q : Hid (Gd n w (u730q.setCells u111q.heap.size 0 (wl d))) := h731q.out.asideL (by omega) 0 (wl d)
          have h740q : Hid (Bo (u730q.setCells u111q.heap.size 0 (wl d)) n (wl c)) := h732q.out.asideL (by omega) 0 (wl d)
          have h741q : Hid (Bo (u730q.setCells u111q.heap.size 0 (wl d)) (n + 1) [.int .i64 o, .int .i64 k, .int .i64 x]) := h733q.out.asideL (by omega) 0 (wl d)
          have h742q : Hid (Bo (u730q.setCells u111q.heap.size 0 (wl d)) (n + 2) (wl wz)) := h734q.out.asideL (by omega) 0 (wl d)
          have h743q : Hid (Bo (u730q.setCells u111q.heap.size 0 (wl d)) (n + 3) [.int .i64 0, .int .i64 0]) := h735q.out.asideL (by omega) 0 (wl d)
          have h744q : Hid (Bo (u730q.setCells u111q.heap.size 0 (wl d)) u111q.heap.size (wl d)) := h736q.out.setW d
          have h745q : Hid (Bo (u730q.setCells u111q.heap.size 0 (wl d)) u669q.heap.size [.int .i64 0, .int .i64 0]) := h738q.out.asideL (by omega) 0 (wl d)
          clear h731q h732q h733q h734q h735q h736q h738q
          refine hK.out _ _ ⟨h740q.out, h741q.out⟩ (fun hH => ?_)
          clear hK K
          generalize (u730q.setCells u111q.heap.size 0 (wl d)) = u746q at h739q h740q h741q h742q h743q h744q h745q hH ⊢
          try simp only [Act.put, List.setIfInBounds_toArray, List.set_cons_zero, List.set_cons_succ]
          refine wpAnyH_ready (rs := [12]) (by kernel_rfl) (by simp) ?_
          refine AllReadyH.cons (o := { dst := none, op := .store _ (.tmp 10) (.tmp 31), type := _, pos := _, after := _, guard := _ }) rfl (fun K hK => ?_) AllReadyH.nil
          rw [if_pos (by rfl)]
          refine wp_store_mid _ _ _ rfl u669q.heap.size _ #[.int .i64 (cc), .int .i64 (y)] rfl rfl h745q.out.there2 HA.out (two_one _ _) ?_
          simp only [Act.put]
          have h747q : Hid (Gd n w (u746q.setCells u669q.heap.size 0 [.int .i64 (cc), .int .i64 (y)])) := h739q.out.asideL (by omega) 0 [.int .i64 (cc), .int .i64 (y)]
          have h748q : Hid (Bo (u746q.setCells u669q.heap.size 0 [.int .i64 (cc), .int .i64 (y)]) n (wl c)) := h740q.out.asideL (by omega) 0 [.int .i64 (cc), .int .i64 (y)]
          have h749q : Hid (Bo (u746q.setCells u669q.heap.size 0 [.int .i64 (cc), .int .i64 (y)]) (n + 1) [.int .i64 o, .int .i64 k, .int .i64 x]) := h741q.out.asideL (by omega) 0 [.int .i64 (cc), .int .i64 (y)]
          have h750q : Hid (Bo (u746q.setCells u669q.heap.size 0 [.int .i64 (cc), .int .i64 (y)]) (n + 2) (wl wz)) := h742q.out.asideL (by omega) 0 [.int .i64 (cc), .int .i64 (y)]
          have h751q : Hid (Bo (u746q.setCells u669q.heap.size 0 [.int .i64 (cc), .int .i64 (y)]) (n + 3) [.int .i64 0, .int .i64 0]) := h743q.out.asideL (by omega) 0 [.int .i64 (cc), .int .i64 (y)]
          have h752q : Hid (Bo (u746q.setCells u669q.heap.size 0 [.int .i64 (cc), .int .i64 (y)]) u111q.heap.size (wl d)) := h744q.out.asideL (by omega) 0 [.int .i64 (cc), .int .i64 (y)]
          have h753q : Hid (Bo (u746q.setCells u669q.heap.size 0 [.int .i64 (cc), .int .i64 (y)]) u669q.heap.size [.int .i64 (cc), .int .i64 (y)]) := h745q.out.set2 (.int .i64 (cc)) (.int .i64 (y))
          clear h739q h740q h741q h742q h743q h744q h745q
          refine hK.out _ _ ⟨h748q.out, h749q.out⟩ (fun hH => ?_)
          clear hK K
          generalize (u746q.setCells u669q.heap.size 0 [.int .i64 (cc), .int .i64 (y)]) = u754q at h747q h748q h749q h750q h751q h752q h753q hH ⊢
          try simp only [Act.put, List.setIfInBounds_toArray, List.set_cons_zero, List.set_cons_succ]
          refine wpAnyH_done (by kernel_rfl) ?_ _
          go_wp2_with fail
          go_meet
          case rel => exact ⟨u111q.heap.size, u669q.heap.size, rfl, rfl, h747q, h750q, h751q, h752q, h753q, (by omega)⟩
        refine AllReadyH.cons (o := { dst := some 10, op := .alloc _, type := _, pos := _, after := _, guard := _ }) rfl (fun K hK => ?_) AllReadyH.nil
        have l755q : n ≤ u669q.heap.size := h670q.out.le
        have l756q : n < u669q.heap.size := h671q.out.lt
        have l757q : (n + 1) < u669q.heap.size := h672q.out.lt
        have l758q : (n + 2) < u669q.heap.size := h673q.out.lt
        have l759q : (n + 3) < u669q.heap.size := h674q.out.lt
        have l760q : u111q.heap.size < u669q.heap.size := h675q.out.lt
        go_simp
        have h761q : Hid (Gd n w (u669q.alloc (.cells #[.int .i64 0, .int .i64 0] 38))) := h670q.out.new (.cells #[.int .i64 0, .int .i64 0] 38)
        have h762q : Hid (Bo (u669q.alloc (.cells #[.int .i64 0, .int .i64 0] 38)) n (wl c)) := h671q.out.new (.cells #[.int .i64 0, .int .i64 0] 38)
        have h763q : Hid (Bo (u669q.alloc (.cells #[.int .i64 0, .int .i64 0] 38)) (n + 1) [.int .i64 o, .int .i64 k, .int .i64 x]) := h672q.out.new (.cells #[.int .i64 0, .int .i64 0] 38)
        have h764q : Hid (Bo (u669q.alloc (.cells #[.int .i64 0, .int .i64 0] 38)) (n + 2) (wl wz)) := h673q.out.new (.cells #[.int .i64 0, .int .i64 0] 38)
        have h765q : Hid (Bo (u669q.alloc (.cells #[.int .i64 0, .int .i64 0] 38)) (n + 3) [.int .i64 0, .int .i64 0]) := h674q.out.new (.cells #[.int .i64 0, .int .i64 0] 38)
        have h766q : Hid (Bo (u669q.alloc (.cells #[.int .i64 0, .int .i64 0] 38)) u111q.heap.size (wl wz)) := h675q.out.new (.cells #[.int .i64 0, .int .i64 0] 38)
        have h767q : Hid (Deeds (u669q.alloc (.cells #[.int .i64 0, .int .i64 0] 38)) m b1 b2 b3 b4) := h676q.out.new (.cells #[.int .i64 0, .int .i64 0] 38)
        clear h670q h671q h672q h673q h674q h675q h676q
        have h768q : Hid (Bo (u669q.alloc (.cells #[.int .i64 0, .int .i64 0] 38)) u669q.heap.size [.int .i64 0, .int .i64 0]) := Bo.born u669q [.int .i64 0, .int .i64 0] 38 (by simp)
        refine hK.out _ _ ⟨h762q.out, h763q.out⟩ (fun hH => ?_)
        clear hK K
        generalize (u669q.alloc (.cells #[.int .i64 0, .int .i64 0] 38)) = u769q at h761q h762q h763q h764q h765q h766q h767q h768q hH ⊢
        try simp only [Act.put, List.setIfInBounds_toArray, List.set_cons_zero, List.set_cons_succ]
        refine wpAnyH_ready (rs := [2]) (by kernel_rfl) (by simp) ?_
        refine AllReadyH.cons (o := { dst := some 26, op := .lookup _ (.tmp 24) (.tmp 25) false, type := _, pos := _, after := _, guard := _ }) rfl (fun K hK => ?_) AllReadyH.nil
        have lk := LL.out _ _ _ _ _ _ h767q.out
        go_simp
        refine hK.out _ _ ⟨h762q.out, h763q.out⟩ (fun hH => ?_)
        clear hK K
        try simp only [Act.put, List.setIfInBounds_toArray, List.set_cons_zero, List.set_cons_succ]
        refine wpAnyH_ready (rs := [5]) (by kernel_rfl) (by simp) ?_
        refine AllReadyH.cons (o := { dst := some 29, op := _, type := _, pos := _, after := _, guard := _ }) rfl (fun K hK => ?_) AllReadyH.nil
        go_simp
        refine (CC.out _ _ _ _ _ _ h767q.out).mono ?_
        rintro e u770q ⟨rfl, hb⟩
        have h771q : Hid (Gd n w u770q) := h761q.out.later hb
        have h772q : Hid (Bo u770q n (wl c)) := h762q.out.later hb
        have h773q : Hid (Bo u770q (n + 1) [.int .i64 o, .int .i64 k, .int .i64 x]) := h763q.out.later hb
        have h774q : Hid (Bo u770q (n + 2) (wl wz)) := h764q.out.later hb
        have h775q : Hid (Bo u770q (n + 3) [.int .i64 0, .int .i64 0]) := h765q.out.later hb
        have h776q : Hid (Bo u770q u111q.heap.size (wl wz)) := h766q.out.later hb
        have h777q : Hid (Deeds u770q m b1 b2 b3 b4) := h767q.out.later hb
        have h778q : Hid (Bo u770q u669q.heap.size [.int .i64 0, .int .i64 0]) := h768q.out.later hb
        clear h761q h762q h763q h764q h765q h766q h767q h768q
        clear h777q
        clear hb
        go_wp2_with fail
        refine hK.out _ _ ⟨h772q.out, h773q.out⟩ (fun hH => ?_)
        clear hK K
        try simp only [Act.put, List.setIfInBounds_toArray, List.set_cons_zero, List.set_cons_succ]
        refine wpAnyH_take (i := 6) (oi := { dst := some 23, op := .move (.tmp 29), type := _, pos := _, after := _, guard := _ }) (v := ?_) rfl (by kernel_rfl) (by kernel_rfl) (by kernel_rfl) (fun _ _ _ h => h) (Or.inl ⟨by rfl, ?_⟩) hH ?_
        rotate_left
        · intro w hSw
          clear hSw
          go_simp
          try with_reducible rfl
        simp only [Act.put, List.setIfInBounds_toArray, List.set_cons_zero, List.set_cons_succ]
        refine wpAnyH_take (i := 7) (oi := { dst := some 30, op := .extract (.tmp 23) 0, type := _, pos := _, after := _, guard := _ }) (v := ?_) rfl (by kernel_rfl) (by kernel_rfl) (by kernel_rfl) (fun _ _ _ h => h) (Or.inl ⟨by rfl, ?_⟩) hH ?_
        rotate_left
        · intro w hSw
          clear hSw
          go_simp
          try with_reducible rfl
        simp only [Act.put, List.setIfInBounds_toArray, List.set_cons_zero, List.set_cons_succ]
        refine wpAnyH_take (i := 8) (oi := { dst := some 31, op := .extract (.tmp 23) 1, type := _, pos := _, after := _, guard := _ }) (v := ?_) rfl (by kernel_rfl) (by kernel_rfl) (by kernel_rfl) (fun _ _ _ h => h) (Or.inl ⟨by rfl, ?_⟩) hH ?_
        rotate_left
        · intro w hSw
          clear hSw
          go_simp
          try with_reducible rfl
        simp only [Act.put, List.setIfInBounds_toArray, List.set_cons_zero, List.set_cons_succ]
        refine wpAnyH_ready (rs := [11]) (by kernel_rfl) (by simp) ?_
        refine AllReadyH.cons (o := { dst := none, op := .store _ (.tmp 9) (.tmp 30), type := _, pos := _, after := _, guard := _ }) rfl (fun K hK => ?_) AllReadyH.nil
        rw [if_pos (by rfl)]
        refine wp_store_mid _ _ _ rfl u111q.heap.size _ (wl d).toArray rfl rfl (h776q.out.thereW d) (HCZ.out d) (wl_all d) ?_
        simp only [Act.put]
        have h779q : Hid (Gd n w (u770q.setCells u111q.heap.size 0 (wl d))) := h771q.out.asideL (by omega) 0 (wl d)
        have h780q : Hid (Bo (u770q.setCells u111q.heap.size 0 (wl d)) n (wl c)) := h772q.out.asideL (by omega) 0 (wl d)
        have h781q : Hid (Bo (u770q.setCells u111q.heap.size 0 (wl d)) (n + 1) [.int .i64 o, .int .i64 k, .int .i64 x]) := h773q.out.asideL (by omega) 0 (wl d)
        have h782q : Hid (Bo (u770q.setCells u111q.heap.size 0 (wl d)) (n + 2) (wl wz)) := h774q.out.asideL (by omega) 0 (wl d)
        have h783q : Hid (Bo (u770q.setCells u111q.heap.size 0 (wl d)) (n + 3) [.int .i64 0, .int .i64 0]) := h775q.out.asideL (by omega) 0 (wl d)
        have h784q : Hid (Bo (u770q.setCells u111q.heap.size 0 (wl d)) u111q.heap.size (wl d)) := h776q.out.setW d
        have h785q : Hid (Bo (u770q.setCells u111q.heap.size 0 (wl d)) u669q.heap.size [.int .i64 0, .int .i64 0]) := h778q.out.asideL (by omega) 0 (wl d)
        clear h771q h772q h773q h774q h775q h776q h778q
        refine hK.out _ _ ⟨h780q.out, h781q.out⟩ (fun hH => ?_)
        clear hK K
        generalize (u770q.setCells u111q.heap.size 0 (wl d)) = u786q at h779q h780q h781q h782q h783q h784q h785q hH ⊢
        try simp only [Act.put, List.setIfInBounds_toArray, List.set_cons_zero, List.set_cons_succ]
        refine wpAnyH_ready (rs := [12]) (by kernel_rfl) (by simp) ?_
        refine AllReadyH.cons (o := { dst := none, op := .store _ (.tmp 10) (.tmp 31), type := _, pos := _, after := _, guard := _ }) rfl (fun K hK => ?_) AllReadyH.nil
        rw [if_pos (by rfl)]
        refine wp_store_mid _ _ _ rfl u669q.heap.size _ #[.int .i64 (cc), .int .i64 (y)] rfl rfl h785q.out.there2 HA.out (two_one _ _) ?_
        simp only [Act.put]
        have h787q : Hid (Gd n w (u786q.setCells u669q.heap.size 0 [.int .i64 (cc), .int .i64 (y)])) := h779q.out.asideL (by omega) 0 [.int .i64 (cc), .int .i64 (y)]
        have h788q : Hid (Bo (u786q.setCells u669q.heap.size 0 [.int .i64 (cc), .int .i64 (y)]) n (wl c)) := h780q.out.asideL (by omega) 0 [.int .i64 (cc), .int .i64 (y)]
        have h789q : Hid (Bo (u786q.setCells u669q.heap.size 0 [.int .i64 (cc), .int .i64 (y)]) (n + 1) [.int .i64 o, .int .i64 k, .int .i64 x]) := h781q.out.asideL (by omega) 0 [.int .i64 (cc), .int .i64 (y)]
        have h790q : Hid (Bo (u786q.setCells u669q.heap.size 0 [.int .i64 (cc), .int .i64 (y)]) (n + 2) (wl wz)) := h782q.out.asideL (by omega) 0 [.int .i64 (cc), .int .i64 (y)]
        have h791q : Hid (Bo (u786q.setCells u669q.heap.size 0 [.int .i64 (cc), .int .i64 (y)]) (n + 3) [.int .i64 0, .int .i64 0]) := h783q.out.asideL (by omega) 0 [.int .i64 (cc), .int .i64 (y)]
        have h792q : Hid (Bo (u786q.setCells u669q.heap.size 0 [.int .i64 (cc), .int .i64 (y)]) u111q.heap.size (wl d)) := h784q.out.asideL (by omega) 0 [.int .i64 (cc), .int .i64 (y)]
        have h793q : Hid (Bo (u786q.setCells u669q.heap.size 0 [.int .i64 (cc), .int .i64 (y)]) u669q.heap.size [.int .i64 (cc), .int .i64 (y)]) := h785q.out.set2 (.int .i64 (cc)) (.int .i64 (y))
        clear h779q h780q h781q h782q h783q h784q h785q
        refine hK.out _ _ ⟨h788q.out, h789q.out⟩ (fun hH => ?_)
        clear hK K
        generalize (u786q.setCells u669q.heap.size 0 [.int .i64 (cc), .int .i64 (y)]) = u794q at h787q h788q h789q h790q h791q h792q h793q hH ⊢
        try simp only [Act.put, List.setIfInBounds_toArray, List.set_cons_zero, List.set_cons_succ]
        refine wpAnyH_done (by kernel_rfl) ?_ _
        go_wp2_with fail
        go_meet
        case rel => exact ⟨u111q.heap.size, u669q.heap.size, rfl, rfl, h787q, h790q, h791q, h792q, h793q, (by omega)⟩
      refine AllReadyH.cons (o := { dst := some 10, op := .alloc _, type := _, pos := _, after := _, guard := _ }) rfl (fun K hK => ?_) AllReadyH.nil
      have l795q : n ≤ u668q.heap.size := h662q.out.le
      have l796q : n < u668q.heap.size := h663q.out.lt
      have l797q : (n + 1) < u668q.heap.size := h664q.out.lt
      have l798q : (n + 2) < u668q.heap.size := h665q.out.lt
      have l799q : (n + 3) < u668q.heap.size := h666q.out.lt
      have l800q : u111q.heap.size < u668q.heap.size := h667q.out.lt
      go_simp
      have h801q : Hid (Gd n w (u668q.alloc (.cells #[.int .i64 0, .int .i64 0] 38))) := h662q.out.new (.cells #[.int .i64 0, .int .i64 0] 38)
      have h802q : Hid (Bo (u668q.alloc (.cells #[.int .i64 0, .int .i64 0] 38)) n (wl c)) := h663q.out.new (.cells #[.int .i64 0, .int .i64 0] 38)
      have h803q : Hid (Bo (u668q.alloc (.cells #[.int .i64 0, .int .i64 0] 38)) (n + 1) [.int .i64 o, .int .i64 k, .int .i64 x]) := h664q.out.new (.cells #[.int .i64 0, .int .i64 0] 38)
      have h804q : Hid (Bo (u668q.alloc (.cells #[.int .i64 0, .int .i64 0] 38)) (n + 2) (wl wz)) := h665q.out.new (.cells #[.int .i64 0, .int .i64 0] 38)
      have h805q : Hid (Bo (u668q.alloc (.cells #[.int .i64 0, .int .i64 0] 38)) (n + 3) [.int .i64 0, .int .i64 0]) := h666q.out.new (.cells #[.int .i64 0, .int .i64 0] 38)
      have h806q : Hid (Bo (u668q.alloc (.cells #[.int .i64 0, .int .i64 0] 38)) u111q.heap.size (wl wz)) := h667q.out.new (.cells #[.int .i64 0, .int .i64 0] 38)
      clear h662q h663q h664q h665q h666q h667q
      have h807q : Hid (Bo (u668q.alloc (.cells #[.int .i64 0, .int .i64 0] 38)) u668q.heap.size [.int .i64 0, .int .i64 0]) := Bo.born u668q [.int .i64 0, .int .i64 0] 38 (by simp)
      refine hK.out _ _ ⟨h802q.out, h803q.out⟩ (fun hH => ?_)
      clear hK K
      generalize (u668q.alloc (.cells #[.int .i64 0, .int .i64 0] 38)) = u808q at h801q h802q h803q h804q h805q h806q h807q hH ⊢
      try simp only [Act.put, List.setIfInBounds_toArray, List.set_cons_zero, List.set_cons_succ]
      refine wpAnyH_ready (rs := [0]) (by kernel_rfl) (by simp) ?_
      refine AllReadyH.cons (o := { dst := some 24, op := _, type := _, pos := _, after := _, guard := _ }) rfl (fun K hK => ?_) AllReadyH.nil
      go_simp
      refine (deeds_is _).mono ?_
      rintro e u809q ⟨rfl, ⟨b1, b2, b3, b4, hD⟩, hb⟩
      have h810q : Hid (Gd n w u809q) := h801q.out.later hb
      have h811q : Hid (Bo u809q n (wl c)) := h802q.out.later hb
      have h812q : Hid (Bo u809q (n + 1) [.int .i64 o, .int .i64 k, .int .i64 x]) := h803q.out.later hb
      have h813q : Hid (Bo u809q (n + 2) (wl wz)) := h804q.out.later hb
      have h814q : Hid (Bo u809q (n + 3) [.int .i64 0, .int .i64 0]) := h805q.out.later hb
      have h815q : Hid (Bo u809q u111q.heap.size (wl wz)) := h806q.out.later hb
      have h816q : Hid (Bo u809q u668q.heap.size [.int .i64 0, .int .i64 0]) := h807q.out.later hb
      clear h801q h802q h803q h804q h805q h806q h807q
      generalize u808q.heap.size = m at hD ⊢
      have h817q : Hid (Deeds u809q m b1 b2 b3 b4) := hD
      clear hD
      clear hb
      go_wp2_with fail
      refine hK.out _ _ ⟨h811q.out, h812q.out⟩ (fun hH => ?_)
      clear hK K
      try simp only [Act.put, List.setIfInBounds_toArray, List.set_cons_zero, List.set_cons_succ]
      refine wpAnyH_ready (rs := [2]) (by kernel_rfl) (by simp) ?_
      refine AllReadyH.cons (o := { dst := some 26, op := .lookup _ (.tmp 24) (.tmp 25) false, type := _, pos := _, after := _, guard := _ }) rfl (fun K hK => ?_) AllReadyH.nil
      have lk := LL.out _ _ _ _ _ _ h817q.out
      go_simp
      refine hK.out _ _ ⟨h811q.out, h812q.out⟩ (fun hH => ?_)
      clear hK K
      try simp only [Act.put, List.setIfInBounds_toArray, List.set_cons_zero, List.set_cons_succ]
      refine wpAnyH_ready (rs := [5]) (by kernel_rfl) (by simp) ?_
      refine AllReadyH.cons (o := { dst := some 29, op := _, type := _, pos := _, after := _, guard := _ }) rfl (fun K hK => ?_) AllReadyH.nil
      go_simp
      refine (CC.out _ _ _ _ _ _ h817q.out).mono ?_
      rintro e u818q ⟨rfl, hb⟩
      have h819q : Hid (Gd n w u818q) := h810q.out.later hb
      have h820q : Hid (Bo u818q n (wl c)) := h811q.out.later hb
      have h821q : Hid (Bo u818q (n + 1) [.int .i64 o, .int .i64 k, .int .i64 x]) := h812q.out.later hb
      have h822q : Hid (Bo u818q (n + 2) (wl wz)) := h813q.out.later hb
      have h823q : Hid (Bo u818q (n + 3) [.int .i64 0, .int .i64 0]) := h814q.out.later hb
      have h824q : Hid (Bo u818q u111q.heap.size (wl wz)) := h815q.out.later hb
      have h825q : Hid (Bo u818q u668q.heap.size [.int .i64 0, .int .i64 0]) := h816q.out.later hb
      have h826q : Hid (Deeds u818q m b1 b2 b3 b4) := h817q.out.later hb
      clear h810q h811q h812q h813q h814q h815q h816q h817q
      clear h826q
      clear hb
      go_wp2_with fail
      refine hK.out _ _ ⟨h820q.out, h821q.out⟩ (fun hH => ?_)
      clear hK K
      try simp only [Act.put, List.setIfInBounds_toArray, List.set_cons_zero, List.set_cons_succ]
      refine wpAnyH_take (i := 6) (oi := { dst := some 23, op := .move (.tmp 29), type := _, pos := _, after := _, guard := _ }) (v := ?_) rfl (by kernel_rfl) (by kernel_rfl) (by kernel_rfl) (fun _ _ _ h => h) (Or.inl ⟨by rfl, ?_⟩) hH ?_
      rotate_left
      · intro w hSw
        clear hSw
        go_simp
        try with_reducible rfl
      simp only [Act.put, List.setIfInBounds_toArray, List.set_cons_zero, List.set_cons_succ]
      refine wpAnyH_take (i := 7) (oi := { dst := some 30, op := .extract (.tmp 23) 0, type := _, pos := _, after := _, guard := _ }) (v := ?_) rfl (by kernel_rfl) (by kernel_rfl) (by kernel_rfl) (fun _ _ _ h => h) (Or.inl ⟨by rfl, ?_⟩) hH ?_
      rotate_left
      · intro w hSw
        clear hSw
        go_simp
        try with_reducible rfl
      simp only [Act.put, List.setIfInBounds_toArray, List.set_cons_zero, List.set_cons_succ]
      refine wpAnyH_take (i := 8) (oi := { dst := some 31, op := .extract (.tmp 23) 1, type := _, pos := _, after := _, guard := _ }) (v := ?_) rfl (by kernel_rfl) (by kernel_rfl) (by kernel_rfl) (fun _ _ _ h => h) (Or.inl ⟨by rfl, ?_⟩) hH ?_
      rotate_left
      · intro w hSw
        clear hSw
        go_simp
        try with_reducible rfl
      simp only [Act.put, List.setIfInBounds_toArray, List.set_cons_zero, List.set_cons_succ]
      refine wpAnyH_ready (rs := [11]) (by kernel_rfl) (by simp) ?_
      refine AllReadyH.cons (o := { dst := none, op := .store _ (.tmp 9) (.tmp 30), type := _, pos := _, after := _, guard := _ }) rfl (fun K hK => ?_) AllReadyH.nil
      rw [if_pos (by rfl)]
      refine wp_store_mid _ _ _ rfl u111q.heap.size _ (wl d).toArray rfl rfl (h824q.out.thereW d) (HCZ.out d) (wl_all d) ?_
      simp only [Act.put]
      have h827q : Hid (Gd n w (u818q.setCells u111q.heap.size 0 (wl d))) := h819q.out.asideL (by omega) 0 (wl d)
      have h828q : Hid (Bo (u818q.setCells u111q.heap.size 0 (wl d)) n (wl c)) := h820q.out.asideL (by omega) 0 (wl d)
      have h829q : Hid (Bo (u818q.setCells u111q.heap.size 0 (wl d)) (n + 1) [.int .i64 o, .int .i64 k, .int .i64 x]) := h821q.out.asideL (by omega) 0 (wl d)
      have h830q : Hid (Bo (u818q.setCells u111q.heap.size 0 (wl d)) (n + 2) (wl wz)) := h822q.out.asideL (by omega) 0 (wl d)
      have h831q : Hid (Bo (u818q.setCells u111q.heap.size 0 (wl d)) (n + 3) [.int .i64 0, .int .i64 0]) := h823q.out.asideL (by omega) 0 (wl d)
      have h832q : Hid (Bo (u818q.setCells u111q.heap.size 0 (wl d)) u111q.heap.size (wl d)) := h824q.out.setW d
      have h833q : Hid (Bo (u818q.setCells u111q.heap.size 0 (wl d)) u668q.heap.size [.int .i64 0, .int .i64 0]) := h825q.out.asideL (by omega) 0 (wl d)
      clear h819q h820q h821q h822q h823q h824q h825q
      refine hK.out _ _ ⟨h828q.out, h829q.out⟩ (fun hH => ?_)
      clear hK K
      generalize (u818q.setCells u111q.heap.size 0 (wl d)) = u834q at h827q h828q h829q h830q h831q h832q h833q hH ⊢
      try simp only [Act.put, List.setIfInBounds_toArray, List.set_cons_zero, List.set_cons_succ]
      refine wpAnyH_ready (rs := [12]) (by kernel_rfl) (by simp) ?_
      refine AllReadyH.cons (o := { dst := none, op := .store _ (.tmp 10) (.tmp 31), type := _, pos := _, after := _, guard := _ }) rfl (fun K hK => ?_) AllReadyH.nil
      rw [if_pos (by rfl)]
      refine wp_store_mid _ _ _ rfl u668q.heap.size _ #[.int .i64 (cc), .int .i64 (y)] rfl rfl h833q.out.there2 HA.out (two_one _ _) ?_
      simp only [Act.put]
      have h835q : Hid (Gd n w (u834q.setCells u668q.heap.size 0 [.int .i64 (cc), .int .i64 (y)])) := h827q.out.asideL (by omega) 0 [.int .i64 (cc), .int .i64 (y)]
      have h836q : Hid (Bo (u834q.setCells u668q.heap.size 0 [.int .i64 (cc), .int .i64 (y)]) n (wl c)) := h828q.out.asideL (by omega) 0 [.int .i64 (cc), .int .i64 (y)]
      have h837q : Hid (Bo (u834q.setCells u668q.heap.size 0 [.int .i64 (cc), .int .i64 (y)]) (n + 1) [.int .i64 o, .int .i64 k, .int .i64 x]) := h829q.out.asideL (by omega) 0 [.int .i64 (cc), .int .i64 (y)]
      have h838q : Hid (Bo (u834q.setCells u668q.heap.size 0 [.int .i64 (cc), .int .i64 (y)]) (n + 2) (wl wz)) := h830q.out.asideL (by omega) 0 [.int .i64 (cc), .int .i64 (y)]
      have h839q : Hid (Bo (u834q.setCells u668q.heap.size 0 [.int .i64 (cc), .int .i64 (y)]) (n + 3) [.int .i64 0, .int .i64 0]) := h831q.out.asideL (by omega) 0 [.int .i64 (cc), .int .i64 (y)]
      have h840q : Hid (Bo (u834q.setCells u668q.heap.size 0 [.int .i64 (cc), .int .i64 (y)]) u111q.heap.size (wl d)) := h832q.out.asideL (by omega) 0 [.int .i64 (cc), .int .i64 (y)]
      have h841q : Hid (Bo (u834q.setCells u668q.heap.size 0 [.int .i64 (cc), .int .i64 (y)]) u668q.heap.size [.int .i64 (cc), .int .i64 (y)]) := h833q.out.set2 (.int .i64 (cc)) (.int .i64 (y))
      clear h827q h828q h829q h830q h831q h832q h833q
      refine hK.out _ _ ⟨h836q.out, h837q.out⟩ (fun hH => ?_)
      clear hK K
      generalize (u834q.setCells u668q.heap.size 0 [.int .i64 (cc), .int .i64 (y)]) = u842q at h835q h836q h837q h838q h839q h840q h841q hH ⊢
      try simp only [Act.put, List.setIfInBounds_toArray, List.set_cons_zero, List.set_cons_succ]
      refine wpAnyH_done (by kernel_rfl) ?_ _
      go_wp2_with fail
      go_meet
      case rel => exact ⟨u111q.heap.size, u668q.heap.size, rfl, rfl, h835q, h838q, h839q, h840q, h841q, (by omega)⟩
    refine AllReadyH.cons (o := { dst := some 10, op := .alloc _, type := _, pos := _, after := _, guard := _ }) rfl (fun K hK => ?_) AllReadyH.nil
    have l843q : n ≤ u111q.heap.size := h106q.out.le
    have l844q : n < u111q.heap.size := h107q.out.lt
    have l845q : (n + 1) < u111q.heap.size := h108q.out.lt
    have l846q : (n + 2) < u111q.heap.size := h109q.out.lt
    have l847q : (n + 3) < u111q.heap.size := h110q.out.lt
    go_simp
    have h848q : Hid (Gd n w (u111q.alloc (.cells #[.int .i64 0, .int .i64 0] 38))) := h106q.out.new (.cells #[.int .i64 0, .int .i64 0] 38)
    have h849q : Hid (Bo (u111q.alloc (.cells #[.int .i64 0, .int .i64 0] 38)) n (wl c)) := h107q.out.new (.cells #[.int .i64 0, .int .i64 0] 38)
    have h850q : Hid (Bo (u111q.alloc (.cells #[.int .i64 0, .int .i64 0] 38)) (n + 1) [.int .i64 o, .int .i64 k, .int .i64 x]) := h108q.out.new (.cells #[.int .i64 0, .int .i64 0] 38)
    have h851q : Hid (Bo (u111q.alloc (.cells #[.int .i64 0, .int .i64 0] 38)) (n + 2) (wl wz)) := h109q.out.new (.cells #[.int .i64 0, .int .i64 0] 38)
    have h852q : Hid (Bo (u111q.alloc (.cells #[.int .i64 0, .int .i64 0] 38)) (n + 3) [.int .i64 0, .int .i64 0]) := h110q.out.new (.cells #[.int .i64 0, .int .i64 0] 38)
    clear h106q h107q h108q h109q h110q
    have h853q : Hid (Bo (u111q.alloc (.cells #[.int .i64 0, .int .i64 0] 38)) u111q.heap.size [.int .i64 0, .int .i64 0]) := Bo.born u111q [.int .i64 0, .int .i64 0] 38 (by simp)
    refine hK.out _ _ ⟨h849q.out, h850q.out⟩ (fun hH => ?_)
    clear hK K
    generalize (u111q.alloc (.cells #[.int .i64 0, .int .i64 0] 38)) = u854q at h848q h849q h850q h851q h852q h853q hH ⊢
    try simp only [Act.put, List.setIfInBounds_toArray, List.set_cons_zero, List.set_cons_succ]
    refine wpAnyH_ready (rs := [0, 9]) (by kernel_rfl) (by simp) ?_
    refine AllReadyH.cons (o := { dst := some 24, op := _, type := _, pos := _, after := _, guard := _ }) rfl (fun K hK => ?_) ?_
    · go_simp
      refine (deeds_is _).mono ?_
      rintro e u855q ⟨rfl, ⟨b1, b2, b3, b4, hD⟩, hb⟩
      have h856q : Hid (Gd n w u855q) := h848q.out.later hb
      have h857q : Hid (Bo u855q n (wl c)) := h849q.out.later hb
      have h858q : Hid (Bo u855q (n + 1) [.int .i64 o, .int .i64 k, .int .i64 x]) := h850q.out.later hb
      have h859q : Hid (Bo u855q (n + 2) (wl wz)) := h851q.out.later hb
      have h860q : Hid (Bo u855q (n + 3) [.int .i64 0, .int .i64 0]) := h852q.out.later hb
      have h861q : Hid (Bo u855q u111q.heap.size [.int .i64 0, .int .i64 0]) := h853q.out.later hb
      clear h848q h849q h850q h851q h852q h853q
      generalize u854q.heap.size = m at hD ⊢
      have h862q : Hid (Deeds u855q m b1 b2 b3 b4) := hD
      clear hD
      clear hb
      go_wp2_with fail
      refine hK.out _ _ ⟨h857q.out, h858q.out⟩ (fun hH => ?_)
      clear hK K
      try simp only [Act.put, List.setIfInBounds_toArray, List.set_cons_zero, List.set_cons_succ]
      refine wpAnyH_ready (rs := [2, 9]) (by kernel_rfl) (by simp) ?_
      refine AllReadyH.cons (o := { dst := some 26, op := .lookup _ (.tmp 24) (.tmp 25) false, type := _, pos := _, after := _, guard := _ }) rfl (fun K hK => ?_) ?_
      · have lk := LL.out _ _ _ _ _ _ h862q.out
        go_simp
        refine hK.out _ _ ⟨h857q.out, h858q.out⟩ (fun hH => ?_)
        clear hK K
        try simp only [Act.put, List.setIfInBounds_toArray, List.set_cons_zero, List.set_cons_succ]
        refine wpAnyH_ready (rs := [5, 9]) (by kernel_rfl) (by simp) ?_
        refine AllReadyH.cons (o := { dst := some 29, op := _, type := _, pos := _, after := _, guard := _ }) rfl (fun K hK => ?_) ?_
        · go_simp
          refine (CC.out _ _ _ _ _ _ h862q.out).mono ?_
          rintro e u863q ⟨rfl, hb⟩
          have h864q : Hid (Gd n w u863q) := h856q.out.later hb
          have h865q : Hid (Bo u863q n (wl c)) := h857q.out.later hb
          have h866q : Hid (Bo u863q (n + 1) [.int .i64 o, .int .i64 k, .int .i64 x]) := h858q.out.later hb
          have h867q : Hid (Bo u863q (n + 2) (wl wz)) := h859q.out.later hb
          have h868q : Hid (Bo u863q (n + 3) [.int .i64 0, .int .i64 0]) := h860q.out.later hb
          have h869q : Hid (Bo u863q u111q.heap.size [.int .i64 0, .int .i64 0]) := h861q.out.later hb
          have h870q : Hid (Deeds u863q m b1 b2 b3 b4) := h862q.out.later hb
          clear h856q h857q h858q h859q h860q h861q h862q
          clear h870q
          clear hb
          go_wp2_with fail
          refine hK.out _ _ ⟨h865q.out, h866q.out⟩ (fun hH => ?_)
          clear hK K
          try simp only [Act.put, List.setIfInBounds_toArray, List.set_cons_zero, List.set_cons_succ]
          refine wpAnyH_take (i := 6) (oi := { dst := some 23, op := .move (.tmp 29), type := _, pos := _, after := _, guard := _ }) (v := ?_) rfl (by kernel_rfl) (by kernel_rfl) (by kernel_rfl) (fun _ _ _ h => h) (Or.inl ⟨by rfl, ?_⟩) hH ?_
          rotate_left
          · intro w hSw
            clear hSw
            go_simp
            try with_reducible rfl
          simp only [Act.put, List.setIfInBounds_toArray, List.set_cons_zero, List.set_cons_succ]
          refine wpAnyH_take (i := 7) (oi := { dst := some 30, op := .extract (.tmp 23) 0, type := _, pos := _, after := _, guard := _ }) (v := ?_) rfl (by kernel_rfl) (by kernel_rfl) (by kernel_rfl) (fun _ _ _ h => h) (Or.inl ⟨by rfl, ?_⟩) hH ?_
          rotate_left
          · intro w hSw
            clear hSw
            go_simp
            try with_reducible rfl
          simp only [Act.put, List.setIfInBounds_toArray, List.set_cons_zero, List.set_cons_succ]
          refine wpAnyH_take (i := 8) (oi := { dst := some 31, op := .extract (.tmp 23) 1, type := _, pos := _, after := _, guard := _ }) (v := ?_) rfl (by kernel_rfl) (by kernel_rfl) (by kernel_rfl) (fun _ _ _ h => h) (Or.inl ⟨by rfl, ?_⟩) hH ?_
          rotate_left
          · intro w hSw
            clear hSw
            go_simp
            try with_reducible rfl
          simp only [Act.put, List.setIfInBounds_toArray, List.set_cons_zero, List.set_cons_succ]
          refine wpAnyH_ready (rs := [9]) (by kernel_rfl) (by simp) ?_
          refine AllReadyH.cons (o := { dst := some 9, op := .alloc _, type := _, pos := _, after := _, guard := _ }) rfl (fun K hK => ?_) AllReadyH.nil
          have l871q : n ≤ u863q.heap.size := h864q.out.le
          have l872q : n < u863q.heap.size := h865q.out.lt
          have l873q : (n + 1) < u863q.heap.size := h866q.out.lt
          have l874q : (n + 2) < u863q.heap.size := h867q.out.lt
          have l875q : (n + 3) < u863q.heap.size := h868q.out.lt
          have l876q : u111q.heap.size < u863q.heap.size := h869q.out.lt
          go_simp
          have h877q : Hid (Gd n w (u863q.alloc (.cells #[.int .u64 0, .int .u64 0, .int .u64 0, .int .u64 0, .int .u64 0, .int .u64 0, .int .u64 0, .int .u64 0, .int .u64 0, .int .u64 0, .int .u64 0, .int .u64 0, .int .u64 0, .int .u64 0, .int .u64 0, .int .u64 0, .int .u64 0] 24))) := h864q.out.new (.cells #[.int .u64 0, .int .u64 0, .int .u64 0, .int .u64 0, .int .u64 0, .int .u64 0, .int .u64 0, .int .u64 0, .int .u64 0, .int .u64 0, .int .u64 0, .int .u64 0, .int .u64 0, .int .u64 0, .int .u64 0, .int .u64 0, .int .u64 0] 24)
          have h878q : Hid (Bo (u863q.alloc (.cells #[.int .u64 0, .int .u64 0, .int .u64 0, .int .u64 0, .int .u64 0, .int .u64 0, .int .u64 0, .int .u64 0, .int .u64 0, .int .u64 0, .int .u64 0, .int .u64 0, .int .u64 0, .int .u64 0, .int .u64 0, .int .u64 0, .int .u64 0] 24)) n (wl c)) := h865q.out.new (.cells #[.int .u64 0, .int .u64 0, .int .u64 0, .int .u64 0, .int .u64 0, .int .u64 0, .int .u64 0, .int .u64 0, .int .u64 0, .int .u64 0, .int .u64 0, .int .u64 0, .int .u64 0, .int .u64 0, .int .u64 0, .int .u64 0, .int .u64 0] 24)
          have h879q : Hid (Bo (u863q.alloc (.cells #[.int .u64 0, .int .u64 0, .int .u64 0, .int .u64 0, .int .u64 0, .int .u64 0, .int .u64 0, .int .u64 0, .int .u64 0, .int .u64 0, .int .u64 0, .int .u64 0, .int .u64 0, .int .u64 0, .int .u64 0, .int .u64 0, .int .u64 0] 24)) (n + 1) [.int .i64 o, .int .i64 k, .int .i64 x]) := h866q.out.new (.cells #[.int .u64 0, .int .u64 0, .int .u64 0, .int .u64 0, .int .u64 0, .int .u64 0, .int .u64 0, .int .u64 0, .int .u64 0, .int .u64 0, .int .u64 0, .int .u64 0, .int .u64 0, .int .u64 0, .int .u64 0, .int .u64 0, .int .u64 0] 24)
          have h880q : Hid (Bo (u863q.alloc (.cells #[.int .u64 0, .int .u64 0, .int .u64 0, .int .u64 0, .int .u64 0, .int .u64 0, .int .u64 0, .int .u64 0, .int .u64 0, .int .u64 0, .int .u64 0, .int .u64 0, .int .u64 0, .int .u64 0, .int .u64 0, .int .u64 0, .int .u64 0] 24)) (n + 2) (wl wz)) := h867q.out.new (.cells #[.int .u64 0, .int .u64 0, .int .u64 0, .int .u64 0, .int .u64 0, .int .u64 0, .int .u64 0, .int .u64 0, .int .u64 0, .int .u64 0, .int .u64 0, .int .u64 0, .int .u64 0, .int .u64 0, .int .u64 0, .int .u64 0, .int .u64 0] 24)
          have h881q : Hid (Bo (u863q.alloc (.cells #[.int .u64 0, .int .u64 0, .int .u64 0, .int .u64 0, .int .u64 0, .int .u64 0, .int .u64 0, .int .u64 0, .int .u64 0, .int .u64 0, .int .u64 0, .int .u64 0, .int .u64 0, .int .u64 0, .int .u64 0, .int .u64 0, .int .u64 0] 24)) (n + 3) [.int .i64 0, .int .i64 0]) := h868q.out.new (.cells #[.int .u64 0, .int .u64 0, .int .u64 0, .int .u64 0, .int .u64 0, .int .u64 0, .int .u64 0, .int .u64 0, .int .u64 0, .int .u64 0, .int .u64 0, .int .u64 0, .int .u64 0, .int .u64 0, .int .u64 0, .int .u64 0, .int .u64 0] 24)
          have h882q : Hid (Bo (u863q.alloc (.cells #[.int .u64 0, .int .u64 0, .int .u64 0, .int .u64 0, .int .u64 0, .int .u64 0, .int .u64 0, .int .u64 0, .int .u64 0, .int .u64 0, .int .u64 0, .int .u64 0, .int .u64 0, .int .u64 0, .int .u64 0, .int .u64 0, .int .u64 0] 24)) u111q.heap.size [.int .i64 0, .int .i64 0]) := h869q.out.new (.cells #[.int .u64 0, .int .u64 0, .int .u64 0, .int .u64 0, .int .u64 0, .int .u64 0, .int .u64 0, .int .u64 0, .int .u64 0, .int .u64 0, .int .u64 0, .int .u64 0, .int .u64 0, .int .u64 0, .int .u64 0, .int .u64 0, .int .u64 0] 24)
          clear h864q h865q h866q h867q h868q h869q
          have h883q : Hid (Bo (u863q.alloc (.cells #[.int .u64 0, .int .u64 0, .int .u64 0, .int .u64 0, .int .u64 0, .int .u64 0, .int .u64 0, .int .u64 0, .int .u64 0, .int .u64 0, .int .u64 0, .int .u64 0, .int .u64 0, .int .u64 0, .int .u64 0, .int .u64 0, .int .u64 0] 24)) u863q.heap.size (wl wz)) := Bo.born u863q (wl wz) 24 (by simp)
          refine hK.out _ _ ⟨h878q.out, h879q.out⟩ (fun hH => ?_)
          clear hK K
          generalize (u863q.alloc (.cells #[.int .u64 0, .int .u64 0, .int .u64 0, .int .u64 0, .int .u64 0, .int .u64 0, .int .u64 0, .int .u64 0, .int .u64 0, .int .u64 0, .int .u64 0, .int .u64 0, .int .u64 0, .int .u64 0, .int .u64 0, .int .u64 0, .int .u64 0] 24)) = u884q at h877q h878q h879q h880q h881q h882q h883q hH ⊢
          try simp only [Act.put, List.setIfInBounds_toArray, List.set_cons_zero, List.set_cons_succ]
          refine wpAnyH_ready (rs := [11]) (by kernel_rfl) (by simp) ?_
          refine AllReadyH.cons (o := { dst := none, op := .store _ (.tmp 9) (.tmp 30), type := _, pos := _, after := _, guard := _ }) rfl (fun K hK => ?_) AllReadyH.nil
          rw [if_pos (by rfl)]
          refine wp_store_mid _ _ _ rfl u863q.heap.size _ (wl d).toArray rfl rfl (h883q.out.thereW d) (HCZ.out d) (wl_all d) ?_
          simp only [Act.put]
          have h885q : Hid (Gd n w (u884q.setCells u863q.heap.size 0 (wl d))) := h877q.out.asideL (by omega) 0 (wl d)
          have h886q : Hid (Bo (u884q.setCells u863q.heap.size 0 (wl d)) n (wl c)) := h878q.out.asideL (by omega) 0 (wl d)
          have h887q : Hid (Bo (u884q.setCells u863q.heap.size 0 (wl d)) (n + 1) [.int .i64 o, .int .i64 k, .int .i64 x]) := h879q.out.asideL (by omega) 0 (wl d)
          have h888q : Hid (Bo (u884q.setCells u863q.heap.size 0 (wl d)) (n + 2) (wl wz)) := h880q.out.asideL (by omega) 0 (wl d)
          have h889q : Hid (Bo (u884q.setCells u863q.heap.size 0 (wl d)) (n + 3) [.int .i64 0, .int .i64 0]) := h881q.out.asideL (by omega) 0 (wl d)
          have h890q : Hid (Bo (u884q.setCells u863q.heap.size 0 (wl d)) u111q.heap.size [.int .i64 0, .int .i64 0]) := h882q.out.asideL (by omega) 0 (wl d)
          have h891q : Hid (Bo (u884q.setCells u863q.heap.size 0 (wl d)) u863q.heap.size (wl d)) := h883q.out.setW d
          clear h877q h878q h879q h880q h881q h882q h883q
          refine hK.out _ _ ⟨h886q.out, h887q.out⟩ (fun hH => ?_)
          clear hK K
          generalize (u884q.setCells u863q.heap.size 0 (wl d)) = u892q at h885q h886q h887q h888q h889q h890q h891q hH ⊢
          try simp only [Act.put, List.setIfInBounds_toArray, List.set_cons_zero, List.set_cons_succ]
          refine wpAnyH_ready (rs := [12]) (by kernel_rfl) (by simp) ?_
          refine AllReadyH.cons (o := { dst := none, op := .store _ (.tmp 10) (.tmp 31), type := _, pos := _, after := _, guard := _ }) rfl (fun K hK => ?_) AllReadyH.nil
          rw [if_pos (by rfl)]
          refine wp_store_mid _ _ _ rfl u111q.heap.size _ #[.int .i64 (cc), .int .i64 (y)] rfl rfl h890q.out.there2 HA.out (two_one _ _) ?_
          simp only [Act.put]
          have h893q : Hid (Gd n w (u892q.setCells u111q.heap.size 0 [.int .i64 (cc), .int .i64 (y)])) := h885q.out.asideL (by omega) 0 [.int .i64 (cc), .int .i64 (y)]
          have h894q : Hid (Bo (u892q.setCells u111q.heap.size 0 [.int .i64 (cc), .int .i64 (y)]) n (wl c)) := h886q.out.asideL (by omega) 0 [.int .i64 (cc), .int .i64 (y)]
          have h895q : Hid (Bo (u892q.setCells u111q.heap.size 0 [.int .i64 (cc), .int .i64 (y)]) (n + 1) [.int .i64 o, .int .i64 k, .int .i64 x]) := h887q.out.asideL (by omega) 0 [.int .i64 (cc), .int .i64 (y)]
          have h896q : Hid (Bo (u892q.setCells u111q.heap.size 0 [.int .i64 (cc), .int .i64 (y)]) (n + 2) (wl wz)) := h888q.out.asideL (by omega) 0 [.int .i64 (cc), .int .i64 (y)]
          have h897q : Hid (Bo (u892q.setCells u111q.heap.size 0 [.int .i64 (cc), .int .i64 (y)]) (n + 3) [.int .i64 0, .int .i64 0]) := h889q.out.asideL (by omega) 0 [.int .i64 (cc), .int .i64 (y)]
          have h898q : Hid (Bo (u892q.setCells u111q.heap.size 0 [.int .i64 (cc), .int .i64 (y)]) u111q.heap.size [.int .i64 (cc), .int .i64 (y)]) := h890q.out.set2 (.int .i64 (cc)) (.int .i64 (y))
          have h899q : Hid (Bo (u892q.setCells u111q.heap.size 0 [.int .i64 (cc), .int .i64 (y)]) u863q.heap.size (wl d)) := h891q.out.asideL (by omega) 0 [.int .i64 (cc), .int .i64 (y)]
          clear h885q h886q h887q h888q h889q h890q h891q
          refine hK.out _ _ ⟨h894q.out, h895q.out⟩ (fun hH => ?_)
          clear hK K
          generalize (u892q.setCells u111q.heap.size 0 [.int .i64 (cc), .int .i64 (y)]) = u900q at h893q h894q h895q h896q h897q h898q h899q hH ⊢
          try simp only [Act.put, List.setIfInBounds_toArray, List.set_cons_zero, List.set_cons_succ]
          refine wpAnyH_done (by kernel_rfl) ?_ _
          go_wp2_with fail
          go_meet
          case rel => exact ⟨u863q.heap.size, u111q.heap.size, rfl, rfl, h893q, h896q, h897q, h899q, h898q, (by omega)⟩
        refine AllReadyH.cons (o := { dst := some 9, op := .alloc _, type := _, pos := _, after := _, guard := _ }) rfl (fun K hK => ?_) AllReadyH.nil
        have l901q : n ≤ u855q.heap.size := h856q.out.le
        have l902q : n < u855q.heap.size := h857q.out.lt
        have l903q : (n + 1) < u855q.heap.size := h858q.out.lt
        have l904q : (n + 2) < u855q.heap.size := h859q.out.lt
        have l905q : (n + 3) < u855q.heap.size := h860q.out.lt
        have l906q : u111q.heap.size < u855q.heap.size := h861q.out.lt
        go_simp
        have h907q : Hid (Gd n w (u855q.alloc (.cells #[.int .u64 0, .int .u64 0, .int .u64 0, .int .u64 0, .int .u64 0, .int .u64 0, .int .u64 0, .int .u64 0, .int .u64 0, .int .u64 0, .int .u64 0, .int .u64 0, .int .u64 0, .int .u64 0, .int .u64 0, .int .u64 0, .int .u64 0] 24))) := h856q.out.new (.cells #[.int .u64 0, .int .u64 0, .int .u64 0, .int .u64 0, .int .u64 0, .int .u64 0, .int .u64 0, .int .u64 0, .int .u64 0, .int .u64 0, .int .u64 0, .int .u64 0, .int .u64 0, .int .u64 0, .int .u64 0, .int .u64 0, .int .u64 0] 24)
        have h908q : Hid (Bo (u855q.alloc (.cells #[.int .u64 0, .int .u64 0, .int .u64 0, .int .u64 0, .int .u64 0, .int .u64 0, .int .u64 0, .int .u64 0, .int .u64 0, .int .u64 0, .int .u64 0, .int .u64 0, .int .u64 0, .int .u64 0, .int .u64 0, .int .u64 0, .int .u64 0] 24)) n (wl c)) := h857q.out.new (.cells #[.int .u64 0, .int .u64 0, .int .u64 0, .int .u64 0, .int .u64 0, .int .u64 0, .int .u64 0, .int .u64 0, .int .u64 0, .int .u64 0, .int .u64 0, .int .u64 0, .int .u64 0, .int .u64 0, .int .u64 0, .int .u64 0, .int .u64 0] 24)
        have h909q : Hid (Bo (u855q.alloc (.cells #[.int .u64 0, .int .u64 0, .int .u64 0, .int .u64 0, .int .u64 0, .int .u64 0, .int .u64 0, .int .u64 0, .int .u64 0, .int .u64 0, .int .u64 0, .int .u64 0, .int .u64 0, .int .u64 0, .int .u64 0, .int .u64 0, .int .u64 0] 24)) (n + 1) [.int .i64 o, .int .i64 k, .int .i64 x]) := h858q.out.new (.cells #[.int .u64 0, .int .u64 0, .int .u64 0, .int .u64 0, .int .u64 0, .int .u64 0, .int .u64 0, .int .u64 0, .int .u64 0, .int .u64 0, .int .u64 0, .int .u64 0, .int .u64 0, .int .u64 0, .int .u64 0, .int .u64 0, .int .u64 0] 24)
        have h910q : Hid (Bo (u855q.alloc (.cells #[.int .u64 0, .int .u64 0, .int .u64 0, .int .u64 0, .int .u64 0, .int .u64 0, .int .u64 0, .int .u64 0, .int .u64 0, .int .u64 0, .int .u64 0, .int .u64 0, .int .u64 0, .int .u64 0, .int .u64 0, .int .u64 0, .int .u64 0] 24)) (n + 2) (wl wz)) := h859q.out.new (.cells #[.int .u64 0, .int .u64 0, .int .u64 0, .int .u64 0, .int .u64 0, .int .u64 0, .int .u64 0, .int .u64 0, .int .u64 0, .int .u64 0, .int .u64 0, .int .u64 0, .int .u64 0, .int .u64 0, .int .u64 0, .int .u64 0, .int .u64 0] 24)
        have h911q : Hid (Bo (u855q.alloc (.cells #[.int .u64 0, .int .u64 0, .int .u64 0, .int .u64 0, .int .u64 0, .int .u64 0, .int .u64 0, .int .u64 0, .int .u64 0, .int .u64 0, .int .u64 0, .int .u64 0, .int .u64 0, .int .u64 0, .int .u64 0, .int .u64 0, .int .u64 0] 24)) (n + 3) [.int .i64 0, .int .i64 0]) := h860q.out.new (.cells #[.int .u64 0, .int .u64 0, .int .u64 0, .int .u64 0, .int .u64 0, .int .u64 0, .int .u64 0, .int .u64 0, .int .u64 0, .int .u64 0, .int .u64 0, .int .u64 0, .int .u64 0, .int .u64 0, .int .u64 0, .int .u64 0, .int .u64 0] 24)
        have h912q : Hid (Bo (u855q.alloc (.cells #[.int .u64 0, .int .u64 0, .int .u64 0, .int .u64 0, .int .u64 0, .int .u64 0, .int .u64 0, .int .u64 0, .int .u64 0, .int .u64 0, .int .u64 0, .int .u64 0, .int .u64 0, .int .u64 0, .int .u64 0, .int .u64 0, .int .u64 0] 24)) u111q.heap.size [.int .i64 0, .int .i64 0]) := h861q.out.new (.cells #[.int .u64 0, .int .u64 0, .int .u64 0, .int .u64 0, .int .u64 0, .int .u64 0, .int .u64 0, .int .u64 0, .int .u64 0, .int .u64 0, .int .u64 0, .int .u64 0, .int .u64 0, .int .u64 0, .int .u64 0, .int .u64 0, .int .u64 0] 24)
        have h913q : Hid (Deeds (u855q.alloc (.cells #[.int .u64 0, .int .u64 0, .int .u64 0, .int .u64 0, .int .u64 0, .int .u64 0, .int .u64 0, .int .u64 0, .int .u64 0, .int .u64 0, .int .u64 0, .int .u64 0, .int .u64 0, .int .u64 0, .int .u64 0, .int .u64 0, .int .u64 0] 24)) m b1 b2 b3 b4) := h862q.out.new (.cells #[.int .u64 0, .int .u64 0, .int .u64 0, .int .u64 0, .int .u64 0, .int .u64 0, .int .u64 0, .int .u64 0, .int .u64 0, .int .u64 0, .int .u64 0, .int .u64 0, .int .u64 0, .int .u64 0, .int .u64 0, .int .u64 0, .int .u64 0] 24)
        clear h856q h857q h858q h859q h860q h861q h862q
        have h914q : Hid (Bo (u855q.alloc (.cells #[.int .u64 0, .int .u64 0, .int .u64 0, .int .u64 0, .int .u64 0, .int .u64 0, .int .u64 0, .int .u64 0, .int .u64 0, .int .u64 0, .int .u64 0, .int .u64 0, .int .u64 0, .int .u64 0, .int .u64 0, .int .u64 0, .int .u64 0] 24)) u855q.heap.size (wl wz)) := Bo.born u855q (wl wz) 24 (by simp)
        refine hK.out _ _ ⟨h908q.out, h909q.out⟩ (fun hH => ?_)
        clear hK K
        generalize (u855q.alloc (.cells #[.int .u64 0, .int .u64 0, .int .u64 0, .int .u64 0, .int .u64 0, .int .u64 0, .int .u64 0, .int .u64 0, .int .u64 0, .int .u64 0, .int .u64 0, .int .u64 0, .int .u64 0, .int .u64 0, .int .u64 0, .int .u64 0, .int .u64 0] 24)) = u915q at h907q h908q h909q h910q h911q h912q h913q h914q hH ⊢
        try simp only [Act.put, List.setIfInBounds_toArray, List.set_cons_zero, List.set_cons_succ]
        refine wpAnyH_ready (rs := [5]) (by kernel_rfl) (by simp) ?_
        refine AllReadyH.cons (o := { dst := some 29, op := _, type := _, pos := _, after := _, guard := _ }) rfl (fun K hK => ?_) AllReadyH.nil
        go_simp
        refine (CC.out _ _ _ _ _ _ h913q.out).mono ?_
        rintro e u916q ⟨rfl, hb⟩
        have h917q : Hid (Gd n w u916q) := h907q.out.later hb
        have h918q : Hid (Bo u916q n (wl c)) := h908q.out.later hb
        have h919q : Hid (Bo u916q (n + 1) [.int .i64 o, .int .i64 k, .int .i64 x]) := h909q.out.later hb
        have h920q : Hid (Bo u916q (n + 2) (wl wz)) := h910q.out.later hb
        have h921q : Hid (Bo u916q (n + 3) [.int .i64 0, .int .i64 0]) := h911q.out.later hb
        have h922q : Hid (Bo u916q u111q.heap.size [.int .i64 0, .int .i64 0]) := h912q.out.later hb
        have h923q : Hid (Deeds u916q m b1 b2 b3 b4) := h913q.out.later hb
        have h924q : Hid (Bo u916q u855q.heap.size (wl wz)) := h914q.out.later hb
        clear h907q h908q h909q h910q h911q h912q h913q h914q
        clear h923q
        clear hb
        go_wp2_with fail
        refine hK.out _ _ ⟨h918q.out, h919q.out⟩ (fun hH => ?_)
        clear hK K
        try simp only [Act.put, List.setIfInBounds_toArray, List.set_cons_zero, List.set_cons_succ]
        refine wpAnyH_take (i := 6) (oi := { dst := some 23, op := .move (.tmp 29), type := _, pos := _, after := _, guard := _ }) (v := ?_) rfl (by kernel_rfl) (by kernel_rfl) (by kernel_rfl) (fun _ _ _ h => h) (Or.inl ⟨by rfl, ?_⟩) hH ?_
        rotate_left
        · intro w hSw
          clear hSw
          go_simp
          try with_reducible rfl
        simp only [Act.put, List.setIfInBounds_toArray, List.set_cons_zero, List.set_cons_succ]
        refine wpAnyH_take (i := 7) (oi := { dst := some 30, op := .extract (.tmp 23) 0, type := _, pos := _, after := _, guard := _ }) (v := ?_) rfl (by kernel_rfl) (by kernel_rfl) (by kernel_rfl) (fun _ _ _ h => h) (Or.inl ⟨by rfl, ?_⟩) hH ?_
        rotate_left
        · intro w hSw
          clear hSw
          go_simp
          try with_reducible rfl
        simp only [Act.put, List.setIfInBounds_toArray, List.set_cons_zero, List.set_cons_succ]
        refine wpAnyH_take (i := 8) (oi := { dst := some 31, op := .extract (.tmp 23) 1, type := _, pos := _, after := _, guard := _ }) (v := ?_) rfl (by kernel_rfl) (by kernel_rfl) (by kernel_rfl) (fun _ _ _ h => h) (Or.inl ⟨by rfl, ?_⟩) hH ?_
        rotate_left
        · intro w hSw
          clear hSw
          go_simp
          try with_reducible rfl
        simp only [Act.put, List.setIfInBounds_toArray, List.set_cons_zero, List.set_cons_succ]
        refine wpAnyH_ready (rs := [11]) (by kernel_rfl) (by simp) ?_
        refine AllReadyH.cons (o := { dst := none, op := .store _ (.tmp 9) (.tmp 30), type := _, pos := _, after := _, guard := _ }) rfl (fun K hK => ?_) AllReadyH.nil
        rw [if_pos (by rfl)]
        refine wp_store_mid _ _ _ rfl u855q.heap.size _ (wl d).toArray rfl rfl (h924q.out.thereW d) (HCZ.out d) (wl_all d) ?_
        simp only [Act.put]
        have h925q : Hid (Gd n w (u916q.setCells u855q.heap.size 0 (wl d))) := h917q.out.asideL (by omega) 0 (wl d)
        have h926q : Hid (Bo (u916q.setCells u855q.heap.size 0 (wl d)) n (wl c)) := h918q.out.asideL (by omega) 0 (wl d)
        have h927q : Hid (Bo (u916q.setCells u855q.heap.size 0 (wl d)) (n + 1) [.int .i64 o, .int .i64 k, .int .i64 x]) := h919q.out.asideL (by omega) 0 (wl d)
        have h928q : Hid (Bo (u916q.setCells u855q.heap.size 0 (wl d)) (n + 2) (wl wz)) := h920q.out.asideL (by omega) 0 (wl d)
        have h929q : Hid (Bo (u916q.setCells u855q.heap.size 0 (wl d)) (n + 3) [.int .i64 0, .int .i64 0]) := h921q.out.asideL (by omega) 0 (wl d)
        have h930q : Hid (Bo (u916q.setCells u855q.heap.size 0 (wl d)) u111q.heap.size [.int .i64 0, .int .i64 0]) := h922q.out.asideL (by omega) 0 (wl d)
        have h931q : Hid (Bo (u916q.setCells u855q.heap.size 0 (wl d)) u855q.heap.size (wl d)) := h924q.out.setW d
        clear h917q h918q h919q h920q h921q h922q h924q
        refine hK.out _ _ ⟨h926q.out, h927q.out⟩ (fun hH => ?_)
        clear hK K
        generalize (u916q.setCells u855q.heap.size 0 (wl d)) = u932q at h925q h926q h927q h928q h929q h930q h931q hH ⊢
        try simp only [Act.put, List.setIfInBounds_toArray, List.set_cons_zero, List.set_cons_succ]
        refine wpAnyH_ready (rs := [12]) (by kernel_rfl) (by simp) ?_
        refine AllReadyH.cons (o := { dst := none, op := .store _ (.tmp 10) (.tmp 31), type := _, pos := _, after := _, guard := _ }) rfl (fun K hK => ?_) AllReadyH.nil
        rw [if_pos (by rfl)]
        refine wp_store_mid _ _ _ rfl u111q.heap.size _ #[.int .i64 (cc), .int .i64 (y)] rfl rfl h930q.out.there2 HA.out (two_one _ _) ?_
        simp only [Act.put]
        have h933q : Hid (Gd n w (u932q.setCells u111q.heap.size 0 [.int .i64 (cc), .int .i64 (y)])) := h925q.out.asideL (by omega) 0 [.int .i64 (cc), .int .i64 (y)]
        have h934q : Hid (Bo (u932q.setCells u111q.heap.size 0 [.int .i64 (cc), .int .i64 (y)]) n (wl c)) := h926q.out.asideL (by omega) 0 [.int .i64 (cc), .int .i64 (y)]
        have h935q : Hid (Bo (u932q.setCells u111q.heap.size 0 [.int .i64 (cc), .int .i64 (y)]) (n + 1) [.int .i64 o, .int .i64 k, .int .i64 x]) := h927q.out.asideL (by omega) 0 [.int .i64 (cc), .int .i64 (y)]
        have h936q : Hid (Bo (u932q.setCells u111q.heap.size 0 [.int .i64 (cc), .int .i64 (y)]) (n + 2) (wl wz)) := h928q.out.asideL (by omega) 0 [.int .i64 (cc), .int .i64 (y)]
        have h937q : Hid (Bo (u932q.setCells u111q.heap.size 0 [.int .i64 (cc), .int .i64 (y)]) (n + 3) [.int .i64 0, .int .i64 0]) := h929q.out.asideL (by omega) 0 [.int .i64 (cc), .int .i64 (y)]
        have h938q : Hid (Bo (u932q.setCells u111q.heap.size 0 [.int .i64 (cc), .int .i64 (y)]) u111q.heap.size [.int .i64 (cc), .int .i64 (y)]) := h930q.out.set2 (.int .i64 (cc)) (.int .i64 (y))
        have h939q : Hid (Bo (u932q.setCells u111q.heap.size 0 [.int .i64 (cc), .int .i64 (y)]) u855q.heap.size (wl d)) := h931q.out.asideL (by omega) 0 [.int .i64 (cc), .int .i64 (y)]
        clear h925q h926q h927q h928q h929q h930q h931q
        refine hK.out _ _ ⟨h934q.out, h935q.out⟩ (fun hH => ?_)
        clear hK K
        generalize (u932q.setCells u111q.heap.size 0 [.int .i64 (cc), .int .i64 (y)]) = u940q at h933q h934q h935q h936q h937q h938q h939q hH ⊢
        try simp only [Act.put, List.setIfInBounds_toArray, List.set_cons_zero, List.set_cons_succ]
        refine wpAnyH_done (by kernel_rfl) ?_ _
        go_wp2_with fail
        go_meet
        case rel => exact ⟨u855q.heap.size, u111q.heap.size, rfl, rfl, h933q, h936q, h937q, h939q, h938q, (by omega)⟩
      refine AllReadyH.cons (o := { dst := some 9, op := .alloc _, type := _, pos := _, after := _, guard := _ }) rfl (fun K hK => ?_) AllReadyH.nil
      have l941q : n ≤ u855q.heap.size := h856q.out.le
      have l942q : n < u855q.heap.size := h857q.out.lt
      have l943q : (n + 1) < u855q.heap.size := h858q.out.lt
      have l944q : (n + 2) < u855q.heap.size := h859q.out.lt
      have l945q : (n + 3) < u855q.heap.size := h860q.out.lt
      have l946q : u111q.heap.size < u855q.heap.size := h861q.out.lt
      go_simp
      have h947q : Hid (Gd n w (u855q.alloc (.cells #[.int .u64 0, .int .u64 0, .int .u64 0, .int .u64 0, .int .u64 0, .int .u64 0, .int .u64 0, .int .u64 0, .int .u64 0, .int .u64 0, .int .u64 0, .int .u64 0, .int .u64 0, .int .u64 0, .int .u64 0, .int .u64 0, .int .u64 0] 24))) := h856q.out.new (.cells #[.int .u64 0, .int .u64 0, .int .u64 0, .int .u64 0, .int .u64 0, .int .u64 0, .int .u64 0, .int .u64 0, .int .u64 0, .int .u64 0, .int .u64 0, .int .u64 0, .int .u64 0, .int .u64 0, .int .u64 0, .int .u64 0, .int .u64 0] 24)
      have h948q : Hid (Bo (u855q.alloc (.cells #[.int .u64 0, .int .u64 0, .int .u64 0, .int .u64 0, .int .u64 0, .int .u64 0, .int .u64 0, .int .u64 0, .int .u64 0, .int .u64 0, .int .u64 0, .int .u64 0, .int .u64 0, .int .u64 0, .int .u64 0, .int .u64 0, .int .u64 0] 24)) n (wl c)) := h857q.out.new (.cells #[.int .u64 0, .int .u64 0, .int .u64 0, .int .u64 0, .int .u64 0, .int .u64 0, .int .u64 0, .int .u64 0, .int .u64 0, .int .u64 0, .int .u64 0, .int .u64 0, .int .u64 0, .int .u64 0, .int .u64 0, .int .u64 0, .int .u64 0] 24)
      have h949q : Hid (Bo (u855q.alloc (.cells #[.int .u64 0, .int .u64 0, .int .u64 0, .int .u64 0, .int .u64 0, .int .u64 0, .int .u64 0, .int .u64 0, .int .u64 0, .int .u64 0, .int .u64 0, .int .u64 0, .int .u64 0, .int .u64 0, .int .u64 0, .int .u64 0, .int .u64 0] 24)) (n + 1) [.int .i64 o, .int .i64 k, .int .i64 x]) := h858q.out.new (.cells #[.int .u64 0, .int .u64 0, .int .u64 0, .int .u64 0, .int .u64 0, .int .u64 0, .int .u64 0, .int .u64 0, .int .u64 0, .int .u64 0, .int .u64 0, .int .u64 0, .int .u64 0, .int .u64 0, .int .u64 0, .int .u64 0, .int .u64 0] 24)
      have h950q : Hid (Bo (u855q.alloc (.cells #[.int .u64 0, .int .u64 0, .int .u64 0, .int .u64 0, .int .u64 0, .int .u64 0, .int .u64 0, .int .u64 0, .int .u64 0, .int .u64 0, .int .u64 0, .int .u64 0, .int .u64 0, .int .u64 0, .int .u64 0, .int .u64 0, .int .u64 0] 24)) (n + 2) (wl wz)) := h859q.out.new (.cells #[.int .u64 0, .int .u64 0, .int .u64 0, .int .u64 0, .int .u64 0, .int .u64 0, .int .u64 0, .int .u64 0, .int .u64 0, .int .u64 0, .int .u64 0, .int .u64 0, .int .u64 0, .int .u64 0, .int .u64 0, .int .u64 0, .int .u64 0] 24)
      have h951q : Hid (Bo (u855q.alloc (.cells #[.int .u64 0, .int .u64 0, .int .u64 0, .int .u64 0, .int .u64 0, .int .u64 0, .int .u64 0, .int .u64 0, .int .u64 0, .int .u64 0, .int .u64 0, .int .u64 0, .int .u64 0, .int .u64 0, .int .u64 0, .int .u64 0, .int .u64 0] 24)) (n + 3) [.int .i64 0, .int .i64 0]) := h860q.out.new (.cells #[.int .u64 0, .int .u64 0, .int .u64 0, .int .u64 0, .int .u64 0, .int .u64 0, .int .u64 0, .int .u64 0, .int .u64 0, .int .u64 0, .int .u64 0, .int .u64 0, .int .u64 0, .int .u64 0, .int .u64 0, .int .u64 0, .int .u64 0] 24)
      have h952q : Hid (Bo (u855q.alloc (.cells #[.int .u64 0, .int .u64 0, .int .u64 0, .int .u64 0, .int .u64 0, .int .u64 0, .int .u64 0, .int .u64 0, .int .u64 0, .int .u64 0, .int .u64 0, .int .u64 0, .int .u64 0, .int .u64 0, .int .u64 0, .int .u64 0, .int .u64 0] 24)) u111q.heap.size [.int .i64 0, .int .i64 0]) := h861q.out.new (.cells #[.int .u64 0, .int .u64 0, .int .u64 0, .int .u64 0, .int .u64 0, .int .u64 0, .int .u64 0, .int .u64 0, .int .u64 0, .int .u64 0, .int .u64 0, .int .u64 0, .int .u64 0, .int .u64 0, .int .u64 0, .int .u64 0, .int .u64 0] 24)
      have h953q : Hid (Deeds (u855q.alloc (.cells #[.int .u64 0, .int .u64 0, .int .u64 0, .int .u64 0, .int .u64 0, .int .u64 0, .int .u64 0, .int .u64 0, .int .u64 0, .int .u64 0, .int .u64 0, .int .u64 0, .int .u64 0, .int .u64 0, .int .u64 0, .int .u64 0, .int .u64 0] 24)) m b1 b2 b3 b4) := h862q.out.new (.cells #[.int .u64 0, .int .u64 0, .int .u64 0, .int .u64 0, .int .u64 0, .int .u64 0, .int .u64 0, .int .u64 0, .int .u64 0, .int .u64 0, .int .u64 0, .int .u64 0, .int .u64 0, .int .u64 0, .int .u64 0, .int .u64 0, .int .u64 0] 24)
      clear h856q h857q h858q h859q h860q h861q h862q
      have h954q : Hid (Bo (u855q.alloc (.cells #[.int .u64 0, .int .u64 0, .int .u64 0, .int .u64 0, .int .u64 0, .int .u64 0, .int .u64 0, .int .u64 0, .int .u64 0, .int .u64 0, .int .u64 0, .int .u64 0, .int .u64 0, .int .u64 0, .int .u64 0, .int .u64 0, .int .u64 0] 24)) u855q.heap.size (wl wz)) := Bo.born u855q (wl wz) 24 (by simp)
      refine hK.out _ _ ⟨h948q.out, h949q.out⟩ (fun hH => ?_)
      clear hK K
      generalize (u855q.alloc (.cells #[.int .u64 0, .int .u64 0, .int .u64 0, .int .u64 0, .int .u64 0, .int .u64 0, .int .u64 0, .int .u64 0, .int .u64 0, .int .u64 0, .int .u64 0, .int .u64 0, .int .u64 0, .int .u64 0, .int .u64 0, .int .u64 0, .int .u64 0] 24)) = u955q at h947q h948q h949q h950q h951q h952q h953q h954q hH ⊢
      try simp only [Act.put, List.setIfInBounds_toArray, List.set_cons_zero, List.set_cons_succ]
      refine wpAnyH_ready (rs := [2]) (by kernel_rfl) (by simp) ?_
      refine AllReadyH.cons (o := { dst := some 26, op := .lookup _ (.tmp 24) (.tmp 25) false, type := _, pos := _, after := _, guard := _ }) rfl (fun K hK => ?_) AllReadyH.nil
      have lk := LL.out _ _ _ _ _ _ h953q.out
      go_simp
      refine hK.out _ _ ⟨h948q.out, h949q.out⟩ (fun hH => ?_)
      clear hK K
      try simp only [Act.put, List.setIfInBounds_toArray, List.set_cons_zero, List.set_cons_succ]
      refine wpAnyH_ready (rs := [5]) (by kernel_rfl) (by simp) ?_
      refine AllReadyH.cons (o := { dst := some 29, op := _, type := _, pos := _, after := _, guard := _ }) rfl (fun K hK => ?_) AllReadyH.nil
      go_simp
      refine (CC.out _ _ _ _ _ _ h953q.out).mono ?_
      rintro e u956q ⟨rfl, hb⟩
      have h957q : Hid (Gd n w u956q) := h947q.out.later hb
      have h958q : Hid (Bo u956q n (wl c)) := h948q.out.later hb
      have h959q : Hid (Bo u956q (n + 1) [.int .i64 o, .int .i64 k, .int .i64 x]) := h949q.out.later hb
      have h960q : Hid (Bo u956q (n + 2) (wl wz)) := h950q.out.later hb
      have h961q : Hid (Bo u956q (n + 3) [.int .i64 0, .int .i64 0]) := h951q.out.later hb
      have h962q : Hid (Bo u956q u111q.heap.size [.int .i64 0, .int .i64 0]) := h952q.out.later hb
      have h963q : Hid (Deeds u956q m b1 b2 b3 b4) := h953q.out.later hb
      have h964q : Hid (Bo u956q u855q.heap.size (wl wz)) := h954q.out.later hb
      clear h947q h948q h949q h950q h951q h952q h953q h954q
      clear h963q
      clear hb
      go_wp2_with fail
      refine hK.out _ _ ⟨h958q.out, h959q.out⟩ (fun hH => ?_)
      clear hK K
      try simp only [Act.put, List.setIfInBounds_toArray, List.set_cons_zero, List.set_cons_succ]
      refine wpAnyH_take (i := 6) (oi := { dst := some 23, op := .move (.tmp 29), type := _, pos := _, after := _, guard := _ }) (v := ?_) rfl (by kernel_rfl) (by kernel_rfl) (by kernel_rfl) (fun _ _ _ h => h) (Or.inl ⟨by rfl, ?_⟩) hH ?_
      rotate_left
      · intro w hSw
        clear hSw
        go_simp
        try with_reducible rfl
      simp only [Act.put, List.setIfInBounds_toArray, List.set_cons_zero, List.set_cons_succ]
      refine wpAnyH_take (i := 7) (oi := { dst := some 30, op := .extract (.tmp 23) 0, type := _, pos := _, after := _, guard := _ }) (v := ?_) rfl (by kernel_rfl) (by kernel_rfl) (by kernel_rfl) (fun _ _ _ h => h) (Or.inl ⟨by rfl, ?_⟩) hH ?_
      rotate_left
      · intro w hSw
        clear hSw
        go_simp
        try with_reducible rfl
      simp only [Act.put, List.setIfInBounds_toArray, List.set_cons_zero, List.set_cons_succ]
      refine wpAnyH_take (i := 8) (oi := { dst := some 31, op := .extract (.tmp 23) 1, type := _, pos := _, after := _, guard := _ }) (v := ?_) rfl (by kernel_rfl) (by kernel_rfl) (by kernel_rfl) (fun _ _ _ h => h) (Or.inl ⟨by rfl, ?_⟩) hH ?_
      rotate_left
      · intro w hSw
        clear hSw
        go_simp
        try with_reducible rfl
      simp only [Act.put, List.setIfInBounds_toArray, List.set_cons_zero, List.set_cons_succ]
      refine wpAnyH_ready (rs := [11]) (by kernel_rfl) (by simp) ?_
      refine AllReadyH.cons (o := { dst := none, op := .store _ (.tmp 9) (.tmp 30), type := _, pos := _, after := _, guard := _ }) rfl (fun K hK => ?_) AllReadyH.nil
      rw [if_pos (by rfl)]
      refine wp_store_mid _ _ _ rfl u855q.heap.size _ (wl d).toArray rfl rfl (h964q.out.thereW d) (HCZ.out d) (wl_all d) ?_
      simp only [Act.put]
      have h965q : Hid (Gd n w (u956q.setCells u855q.heap.size 0 (wl d))) := h957q.out.asideL (by omega) 0 (wl d)
      have h966q : Hid (Bo (u956q.setCells u855q.heap.size 0 (wl d)) n (wl c)) := h958q.out.asideL (by omega) 0 (wl d)
      have h967q : Hid (Bo (u956q.setCells u855q.heap.size 0 (wl d)) (n + 1) [.int .i64 o, .int .i64 k, .int .i64 x]) := h959q.out.asideL (by omega) 0 (wl d)
      have h968q : Hid (Bo (u956q.setCells u855q.heap.size 0 (wl d)) (n + 2) (wl wz)) := h960q.out.asideL (by omega) 0 (wl d)
      have h969q : Hid (Bo (u956q.setCells u855q.heap.size 0 (wl d)) (n + 3) [.int .i64 0, .int .i64 0]) := h961q.out.asideL (by omega) 0 (wl d)
      have h970q : Hid (Bo (u956q.setCells u855q.heap.size 0 (wl d)) u111q.heap.size [.int .i64 0, .int .i64 0]) := h962q.out.asideL (by omega) 0 (wl d)
      have h971q : Hid (Bo (u956q.setCells u855q.heap.size 0 (wl d)) u855q.heap.size (wl d)) := h964q.out.setW d
      clear h957q h958q h959q h960q h961q h962q h964q
      refine hK.out _ _ ⟨h966q.out, h967q.out⟩ (fun hH => ?_)
      clear hK K
      generalize (u956q.setCells u855q.heap.size 0 (wl d)) = u972q at h965q h966q h967q h968q h969q h970q h971q hH ⊢
      try simp only [Act.put, List.setIfInBounds_toArray, List.set_cons_zero, List.set_cons_succ]
      refine wpAnyH_ready (rs := [12]) (by kernel_rfl) (by simp) ?_
      refine AllReadyH.cons (o := { dst := none, op := .store _ (.tmp 10) (.tmp 31), type := _, pos := _, after := _, guard := _ }) rfl (fun K hK => ?_) AllReadyH.nil
      rw [if_pos (by rfl)]
      refine wp_store_mid _ _ _ rfl u111q.heap.size _ #[.int .i64 (cc), .int .i64 (y)] rfl rfl h970q.out.there2 HA.out (two_one _ _) ?_
      simp only [Act.put]
      have h973q : Hid (Gd n w (u972q.setCells u111q.heap.size 0 [.int .i64 (cc), .int .i64 (y)])) := h965q.out.asideL (by omega) 0 [.int .i64 (cc), .int .i64 (y)]
      have h974q : Hid (Bo (u972q.setCells u111q.heap.size 0 [.int .i64 (cc), .int .i64 (y)]) n (wl c)) := h966q.out.asideL (by omega) 0 [.int .i64 (cc), .int .i64 (y)]
      have h975q : Hid (Bo (u972q.setCells u111q.heap.size 0 [.int .i64 (cc), .int .i64 (y)]) (n + 1) [.int .i64 o, .int .i64 k, .int .i64 x]) := h967q.out.asideL (by omega) 0 [.int .i64 (cc), .int .i64 (y)]
      have h976q : Hid (Bo (u972q.setCells u111q.heap.size 0 [.int .i64 (cc), .int .i64 (y)]) (n + 2) (wl wz)) := h968q.out.asideL (by omega) 0 [.int .i64 (cc), .int .i64 (y)]
      have h977q : Hid (Bo (u972q.setCells u111q.heap.size 0 [.int .i64 (cc), .int .i64 (y)]) (n + 3) [.int .i64 0, .int .i64 0]) := h969q.out.asideL (by omega) 0 [.int .i64 (cc), .int .i64 (y)]
      have h978q : Hid (Bo (u972q.setCells u111q.heap.size 0 [.int .i64 (cc), .int .i64 (y)]) u111q.heap.size [.int .i64 (cc), .int .i64 (y)]) := h970q.out.set2 (.int .i64 (cc)) (.int .i64 (y))
      have h979q : Hid (Bo (u972q.setCells u111q.heap.size 0 [.int .i64 (cc), .int .i64 (y)]) u855q.heap.size (wl d)) := h971q.out.asideL (by omega) 0 [.int .i64 (cc), .int .i64 (y)]
      clear h965q h966q h967q h968q h969q h970q h971q
      refine hK.out _ _ ⟨h974q.out, h975q.out⟩ (fun hH => ?_)
      clear hK K
      generalize (u972q.setCells u111q.heap.size 0 [.int .i64 (cc), .int .i64 (y)]) = u980q at h973q h974q h975q h976q h977q h978q h979q hH ⊢
      try simp only [Act.put, List.setIfInBounds_toArray, List.set_cons_zero, List.set_cons_succ]
      refine wpAnyH_done (by kernel_rfl) ?_ _
      go_wp2_with fail
      go_meet
      case rel => exact ⟨u855q.heap.size, u111q.heap.size, rfl, rfl, h973q, h976q, h977q, h979q, h978q, (by omega)⟩
    refine AllReadyH.cons (o := { dst := some 9, op := .alloc _, type := _, pos := _, after := _, guard := _ }) rfl (fun K hK => ?_) AllReadyH.nil
    have l981q : n ≤ u854q.heap.size := h848q.out.le
    have l982q : n < u854q.heap.size := h849q.out.lt
    have l983q : (n + 1) < u854q.heap.size := h850q.out.lt
    have l984q : (n + 2) < u854q.heap.size := h851q.out.lt
    have l985q : (n + 3) < u854q.heap.size := h852q.out.lt
    have l986q : u111q.heap.size < u854q.heap.size := h853q.out.lt
    go_simp
    have h987q : Hid (Gd n w (u854q.alloc (.cells #[.int .u64 0, .int .u64 0, .int .u64 0, .int .u64 0, .int .u64 0, .int .u64 0, .int .u64 0, .int .u64 0, .int .u64 0, .int .u64 0, .int .u64 0, .int .u64 0, .int .u64 0, .int .u64 0, .int .u64 0, .int .u64 0, .int .u64 0] 24))) := h848q.out.new (.cells #[.int .u64 0, .int .u64 0, .int .u64 0, .int .u64 0, .int .u64 0, .int .u64 0, .int .u64 0, .int .u64 0, .int .u64 0, .int .u64 0, .int .u64 0, .int .u64 0, .int .u64 0, .int .u64 0, .int .u64 0, .int .u64 0, .int .u64 0] 24)
    have h988q : Hid (Bo (u854q.alloc (.cells #[.int .u64 0, .int .u64 0, .int .u64 0, .int .u64 0, .int .u64 0, .int .u64 0, .int .u64 0, .int .u64 0, .int .u64 0, .int .u64 0, .int .u64 0, .int .u64 0, .int .u64 0, .int .u64 0, .int .u64 0, .int .u64 0, .int .u64 0] 24)) n (wl c)) := h849q.out.new (.cells #[.int .u64 0, .int .u64 0, .int .u64 0, .int .u64 0, .int .u64 0, .int .u64 0, .int .u64 0, .int .u64 0, .int .u64 0, .int .u64 0, .int .u64 0, .int .u64 0, .int .u64 0, .int .u64 0, .int .u64 0, .int .u64 0, .int .u64 0] 24)
    have h989q : Hid (Bo (u854q.alloc (.cells #[.int .u64 0, .int .u64 0, .int .u64 0, .int .u64 0, .int .u64 0, .int .u64 0, .int .u64 0, .int .u64 0, .int .u64 0, .int .u64 0, .int .u64 0, .int .u64 0, .int .u64 0, .int .u64 0, .int .u64 0, .int .u64 0, .int .u64 0] 24)) (n + 1) [.int .i64 o, .int .i64 k, .int .i64 x]) := h850q.out.new (.cells #[.int .u64 0, .int .u64 0, .int .u64 0, .int .u64 0, .int .u64 0, .int .u64 0, .int .u64 0, .int .u64 0, .int .u64 0, .int .u64 0, .int .u64 0, .int .u64 0, .int .u64 0, .int .u64 0, .int .u64 0, .int .u64 0, .int .u64 0] 24)
    have h990q : Hid (Bo (u854q.alloc (.cells #[.int .u64 0, .int .u64 0, .int .u64 0, .int .u64 0, .int .u64 0, .int .u64 0, .int .u64 0, .int .u64 0, .int .u64 0, .int .u64 0, .int .u64 0, .int .u64 0, .int .u64 0, .int .u64 0, .int .u64 0, .int .u64 0, .int .u64 0] 24)) (n + 2) (wl wz)) := h851q.out.new (.cells #[.int .u64 0, .int .u64 0, .int .u64 0, .int .u64 0, .int .u64 0, .int .u64 0, .int .u64 0, .int .u64 0, .int .u64 0, .int .u64 0, .int .u64 0, .int .u64 0, .int .u64 0, .int .u64 0, .int .u64 0, .int .u64 0, .int .u64 0] 24)
    have h991q : Hid (Bo (u854q.alloc (.cells #[.int .u64 0, .int .u64 0, .int .u64 0, .int .u64 0, .int .u64 0, .int .u64 0, .int .u64 0, .int .u64 0, .int .u64 0, .int .u64 0, .int .u64 0, .int .u64 0, .int .u64 0, .int .u64 0, .int .u64 0, .int .u64 0, .int .u64 0] 24)) (n + 3) [.int .i64 0, .int .i64 0]) := h852q.out.new (.cells #[.int .u64 0, .int .u64 0, .int .u64 0, .int .u64 0, .int .u64 0, .int .u64 0, .int .u64 0, .int .u64 0, .int .u64 0, .int .u64 0, .int .u64 0, .int .u64 0, .int .u64 0, .int .u64 0, .int .u64 0, .int .u64 0, .int .u64 0] 24)
    have h992q : Hid (Bo (u854q.alloc (.cells #[.int .u64 0, .int .u64 0, .int .u64 0, .int .u64 0, .int .u64 0, .int .u64 0, .int .u64 0, .int .u64 0, .int .u64 0, .int .u64 0, .int .u64 0, .int .u64 0, .int .u64 0, .int .u64 0, .int .u64 0, .int .u64 0, .int .u64 0] 24)) u111q.heap.size [.int .i64 0, .int .i64 0]) := h853q.out.new (.cells #[.int .u64 0, .int .u64 0, .int .u64 0, .int .u64 0, .int .u64 0, .int .u64 0, .int .u64 0, .int .u64 0, .int .u64 0, .int .u64 0, .int .u64 0, .int .u64 0, .int .u64 0, .int .u64 0, .int .u64 0, .int .u64 0, .int .u64 0] 24)
    clear h848q h849q h850q h851q h852q h853q
    have h993q : Hid (Bo (u854q.alloc (.cells #[.int .u64 0, .int .u64 0, .int .u64 0, .int .u64 0, .int .u64 0, .int .u64 0, .int .u64 0, .int .u64 0, .int .u64 0, .int .u64 0, .int .u64 0, .int .u64 0, .int .u64 0, .int .u64 0, .int .u64 0, .int .u64 0, .int .u64 0] 24)) u854q.heap.size (wl wz)) := Bo.born u854q (wl wz) 24 (by simp)
    refine hK.out _ _ ⟨h988q.out, h989q.out⟩ (fun hH => ?_)
    clear hK K
    generalize (u854q.alloc (.cells #[.int .u64 0, .int .u64 0, .int .u64 0, .int .u64 0, .int .u64 0, .int .u64 0, .int .u64 0, .int .u64 0, .int .u64 0, .int .u64 0, .int .u64 0, .int .u64 0, .int .u64 0, .int .u64 0, .int .u64 0, .int .u64 0, .int .u64 0] 24)) = u994q at h987q h988q h989q h990q h991q h992q h993q hH ⊢
    try simp only [Act.put, List.setIfInBounds_toArray, List.set_cons_zero, List.set_cons_succ]
    refine wpAnyH_ready (rs := [0]) (by kernel_rfl) (by simp) ?_
    refine AllReadyH.cons (o := { dst := some 24, op := _, type := _, pos := _, after := _, guard := _ }) rfl (fun K hK => ?_) AllReadyH.nil
    go_simp
    refine (deeds_is _).mono ?_
    rintro e u995q ⟨rfl, ⟨b1, b2, b3, b4, hD⟩, hb⟩
    have h996q : Hid (Gd n w u995q) := h987q.out.later hb
    have h997q : Hid (Bo u995q n (wl c)) := h988q.out.later hb
    have h998q : Hid (Bo u995q (n + 1) [.int .i64 o, .int .i64 k, .int .i64 x]) := h989q.out.later hb
    have h999q : Hid (Bo u995q (n + 2) (wl wz)) := h990q.out.later hb
    have h1000q : Hid (Bo u995q (n + 3) [.int .i64 0, .int .i64 0]) := h991q.out.later hb
    have h1001q : Hid (Bo u995q u111q.heap.size [.int .i64 0, .int .i64 0]) := h992q.out.later hb
    have h1002q : Hid (Bo u995q u854q.heap.size (wl wz)) := h993q.out.later hb
    clear h987q h988q h989q h990q h991q h992q h993q
    generalize u994q.heap.size = m at hD ⊢
    have h1003q : Hid (Deeds u995q m b1 b2 b3 b4) := hD
    clear hD
    clear hb
    go_wp2_with fail
    refine hK.out _ _ ⟨h997q.out, h998q.out⟩ (fun hH => ?_)
    clear hK K
    try simp only [Act.put, List.setIfInBounds_toArray, List.set_cons_zero, List.set_cons_succ]
    refine wpAnyH_ready (rs := [2]) (by kernel_rfl) (by simp) ?_
    refine AllReadyH.cons (o := { dst := some 26, op := .lookup _ (.tmp 24) (.tmp 25) false, type := _, pos := _, after := _, guard := _ }) rfl (fun K hK => ?_) AllReadyH.nil
    have lk := LL.out _ _ _ _ _ _ h1003q.out
    go_simp
    refine hK.out _ _ ⟨h997q.out, h998q.out⟩ (fun hH => ?_)
    clear hK K
    try simp only [Act.put, List.setIfInBounds_toArray, List.set_cons_zero, List.set_cons_succ]
    refine wpAnyH_ready (rs := [5]) (by kernel_rfl) (by simp) ?_
    refine AllReadyH.cons (o := { dst := some 29, op := _, type := _, pos := _, after := _, guard := _ }) rfl (fun K hK => ?_) AllReadyH.nil
    go_simp
    refine (CC.out _ _ _ _ _ _ h1003q.out).mono ?_
    rintro e u1004q ⟨rfl, hb⟩
    have h1005q : Hid (Gd n w u1004q) := h996q.out.later hb
    have h1006q : Hid (Bo u1004q n (wl c)) := h997q.out.later hb
    have h1007q : Hid (Bo u1004q (n + 1) [.int .i64 o, .int .i64 k, .int .i64 x]) := h998q.out.later hb
    have h1008q : Hid (Bo u1004q (n + 2) (wl wz)) := h999q.out.later hb
    have h1009q : Hid (Bo u1004q (n + 3) [.int .i64 0, .int .i64 0]) := h1000q.out.later hb
    have h1010q : Hid (Bo u1004q u111q.heap.size [.int .i64 0, .int .i64 0]) := h1001q.out.later hb
    have h1011q : Hid (Bo u1004q u854q.heap.size (wl wz)) := h1002q.out.later hb
    have h1012q : Hid (Deeds u1004q m b1 b2 b3 b4) := h1003q.out.later hb
    clear h996q h997q h998q h999q h1000q h1001q h1002q h1003q
    clear h1012q
    clear hb
    go_wp2_with fail
    refine hK.out _ _ ⟨h1006q.out, h1007q.out⟩ (fun hH => ?_)
    clear hK K
    try simp only [Act.put, List.setIfInBounds_toArray, List.set_cons_zero, List.set_cons_succ]
    refine wpAnyH_take (i := 6) (oi := { dst := some 23, op := .move (.tmp 29), type := _, pos := _, after := _, guard := _ }) (v := ?_) rfl (by kernel_rfl) (by kernel_rfl) (by kernel_rfl) (fun _ _ _ h => h) (Or.inl ⟨by rfl, ?_⟩) hH ?_
    rotate_left
    · intro w hSw
      clear hSw
      go_simp
      try with_reducible rfl
    simp only [Act.put, List.setIfInBounds_toArray, List.set_cons_zero, List.set_cons_succ]
    refine wpAnyH_take (i := 7) (oi := { dst := some 30, op := .extract (.tmp 23) 0, type := _, pos := _, after := _, guard := _ }) (v := ?_) rfl (by kernel_rfl) (by kernel_rfl) (by kernel_rfl) (fun _ _ _ h => h) (Or.inl ⟨by rfl, ?_⟩) hH ?_
    rotate_left
    · intro w hSw
      clear hSw
      go_simp
      try with_reducible rfl
    simp only [Act.put, List.setIfInBounds_toArray, List.set_cons_zero, List.set_cons_succ]
    refine wpAnyH_take (i := 8) (oi := { dst := some 31, op := .extract (.tmp 23) 1, type := _, pos := _, after := _, guard := _ }) (v := ?_) rfl (by kernel_rfl) (by kernel_rfl) (by kernel_rfl) (fun _ _ _ h => h) (Or.inl ⟨by rfl, ?_⟩) hH ?_
    rotate_left
    · intro w hSw
      clear hSw
      go_simp
      try with_reducible rfl
    simp only [Act.put, List.setIfInBounds_toArray, List.set_cons_zero, List.set_cons_succ]
    refine wpAnyH_ready (rs := [11]) (by kernel_rfl) (by simp) ?_
    refine AllReadyH.cons (o := { dst := none, op := .store _ (.tmp 9) (.tmp 30), type := _, pos := _, after := _, guard := _ }) rfl (fun K hK => ?_) AllReadyH.nil
    rw [if_pos (by rfl)]
    refine wp_store_mid _ _ _ rfl u854q.heap.size _ (wl d).toArray rfl rfl (h1011q.out.thereW d) (HCZ.out d) (wl_all d) ?_
    simp only [Act.put]
    have h1013q : Hid (Gd n w (u1004q.setCells u854q.heap.size 0 (wl d))) := h1005q.out.asideL (by omega) 0 (wl d)
    have h1014q : Hid (Bo (u1004q.setCells u854q.heap.size 0 (wl d)) n (wl c)) := h1006q.out.asideL (by omega) 0 (wl d)
    have h1015q : Hid (Bo (u1004q.setCells u854q.heap.size 0 (wl d)) (n + 1) [.int .i64 o, .int .i64 k, .int .i64 x]) := h1007q.out.asideL (by omega) 0 (wl d)
    have h1016q : Hid (Bo (u1004q.setCells u854q.heap.size 0 (wl d)) (n + 2) (wl wz)) := h1008q.out.asideL (by omega) 0 (wl d)
    have h1017q : Hid (Bo (u1004q.setCells u854q.heap.size 0 (wl d)) (n + 3) [.int .i64 0, .int .i64 0]) := h1009q.out.asideL (by omega) 0 (wl d)
    have h1018q : Hid (Bo (u1004q.setCells u854q.heap.size 0 (wl d)) u111q.heap.size [.int .i64 0, .int .i64 0]) := h1010q.out.asideL (by omega) 0 (wl d)
    have h1019q : Hid (Bo (u1004q.setCells u854q.heap.size 0 (wl d)) u854q.heap.size (wl d)) := h1011q.out.setW d
    clear h1005q h1006q h1007q h1008q h1009q h1010q h1011q
    refine hK.out _ _ ⟨h1014q.out, h1015q.out⟩ (fun hH => ?_)
    clear hK K
    generalize (u1004q.setCells u854q.heap.size 0 (wl d)) = u1020q at h1013q h1014q h1015q h1016q h1017q h1018q h1019q hH ⊢
    try simp only [Act.put, List.setIfInBounds_toArray, List.set_cons_zero, List.set_cons_succ]
    refine wpAnyH_ready (rs := [12]) (by kernel_rfl) (by simp) ?_
    refine AllReadyH.cons (o := { dst := none, op := .store _ (.tmp 10) (.tmp 31), type := _, pos := _, after := _, guard := _ }) rfl (fun K hK => ?_) AllReadyH.nil
    rw [if_pos (by rfl)]
    refine wp_store_mid _ _ _ rfl u111q.heap.size _ #[.int .i64 (cc), .int .i64 (y)] rfl rfl h1018q.out.there2 HA.out (two_one _ _) ?_
    simp only [Act.put]
    have h1021q : Hid (Gd n w (u1020q.setCells u111q.heap.size 0 [.int .i64 (cc), .int .i64 (y)])) := h1013q.out.asideL (by omega) 0 [.int .i64 (cc), .int .i64 (y)]
    have h1022q : Hid (Bo (u1020q.setCells u111q.heap.size 0 [.int .i64 (cc), .int .i64 (y)]) n (wl c)) := h1014q.out.asideL (by omega) 0 [.int .i64 (cc), .int .i64 (y)]
    have h1023q : Hid (Bo (u1020q.setCells u111q.heap.size 0 [.int .i64 (cc), .int .i64 (y)]) (n + 1) [.int .i64 o, .int .i64 k, .int .i64 x]) := h1015q.out.asideL (by omega) 0 [.int .i64 (cc), .int .i64 (y)]
    have h1024q : Hid (Bo (u1020q.setCells u111q.heap.size 0 [.int .i64 (cc), .int .i64 (y)]) (n + 2) (wl wz)) := h1016q.out.asideL (by omega) 0 [.int .i64 (cc), .int .i64 (y)]
    have h1025q : Hid (Bo (u1020q.setCells u111q.heap.size 0 [.int .i64 (cc), .int .i64 (y)]) (n + 3) [.int .i64 0, .int .i64 0]) := h1017q.out.asideL (by omega) 0 [.int .i64 (cc), .int .i64 (y)]
    have h1026q : Hid (Bo (u1020q.setCells u111q.heap.size 0 [.int .i64 (cc), .int .i64 (y)]) u111q.heap.size [.int .i64 (cc), .int .i64 (y)]) := h1018q.out.set2 (.int .i64 (cc)) (.int .i64 (y))
    have h1027q : Hid (Bo (u1020q.setCells u111q.heap.size 0 [.int .i64 (cc), .int .i64 (y)]) u854q.heap.size (wl d)) := h1019q.out.asideL (by omega) 0 [.int .i64 (cc), .int .i64 (y)]
    clear h1013q h1014q h1015q h1016q h1017q h1018q h1019q
    refine hK.out _ _ ⟨h1022q.out, h1023q.out⟩ (fun hH => ?_)
    clear hK K
    generalize (u1020q.setCells u111q.heap.size 0 [.int .i64 (cc), .int .i64 (y)]) = u1028q at h1021q h1022q h1023q h1024q h1025q h1026q h1027q hH ⊢
    try simp only [Act.put, List.setIfInBounds_toArray, List.set_cons_zero, List.set_cons_succ]
    refine wpAnyH_done (by kernel_rfl) ?_ _
    go_wp2_with fail
    go_meet
    case rel => exact ⟨u854q.heap.size, u111q.heap.size, rfl, rfl, h1021q, h1024q, h1025q, h1027q, h1026q, (by omega)⟩
  case rest =>
    obtain ⟨b_z, b_b, rfl, rfl, h1029q, h1030q, h1031q, h1032q, h1033q, hmore⟩ := hcut
    go_wp2_with fail
    have h1034q : Hid (Gd n w wc.drew) := h1029q.out.drew
    have h1035q : Hid (Bo wc.drew (n + 2) (wl wz)) := h1030q.out.drew
    have h1036q : Hid (Bo wc.drew (n + 3) [.int .i64 0, .int .i64 0]) := h1031q.out.drew
    have h1037q : Hid (Bo wc.drew b_z (wl d)) := h1032q.out.drew
    have h1038q : Hid (Bo wc.drew b_b [.int .i64 (cc), .int .i64 (y)]) := h1033q.out.drew
    clear h1029q h1030q h1031q h1032q h1033q
    refine wp_region_held_drew (S := fun w' => Bo w' b_z (wl d) ∧ Bo w' b_b [.int .i64 (cc), .int .i64 (y)]) (by kernel_rfl) ⟨h1037q.out, h1038q.out⟩ (fun hH => ?_)
    generalize wc.drew = u1039q at h1034q h1035q h1036q h1037q h1038q hH ⊢
    refine wpAnyH_take (i := 0) (oi := { dst := some 32, op := .load _ (.tmp 9), type := _, pos := _, after := _, guard := _ }) (v := _) rfl (by kernel_rfl) (by kernel_rfl) (by kernel_rfl) (fun _ _ _ h => h) (yieldsIf_load_mid (by rfl) _ _ rfl b_z _ rfl (wl d) _ (fun _ h => (h.1).range) HC.out rfl (HCS.out d)) hH ?_
    simp only [Act.put, List.setIfInBounds_toArray, List.set_cons_zero, List.set_cons_succ]
    refine wpAnyH_take (i := 1) (oi := { dst := some 33, op := .load _ (.tmp 10), type := _, pos := _, after := _, guard := _ }) (v := ?_) rfl (by kernel_rfl) (by kernel_rfl) (by kernel_rfl) (fun _ _ _ h => h) (Or.inl ⟨by rfl, ?_⟩) hH ?_
    rotate_left
    · intro w hSw
      have c1040q := (hSw.2).at 0 rfl
      have c1041q := (hSw.2).at 1 rfl
      clear hSw
      go_simp
      try with_reducible rfl
    simp only [Act.put, List.setIfInBounds_toArray, List.set_cons_zero, List.set_cons_succ]
    refine wpAnyH_ready (rs := [2]) (by kernel_rfl) (by simp) ?_
    refine AllReadyH.cons (o := { dst := none, op := .store _ (.tmp 6) (.tmp 32), type := _, pos := _, after := _, guard := _ }) rfl (fun K hK => ?_) AllReadyH.nil
    rw [if_pos (by rfl)]
    refine wp_store_mid _ _ _ rfl (n + 2) _ (wl d).toArray rfl rfl (h1035q.out.thereW d) (HCZ.out d) (wl_all d) ?_
    simp only [Act.put]
    have h1042q : Hid (Gd n w (u1039q.setCells (n + 2) 0 (wl d))) := h1034q.out.asideL (by omega) 0 (wl d)
    have h1043q : Hid (Bo (u1039q.setCells (n + 2) 0 (wl d)) (n + 2) (wl d)) := h1035q.out.setW d
    have h1044q : Hid (Bo (u1039q.setCells (n + 2) 0 (wl d)) (n + 3) [.int .i64 0, .int .i64 0]) := h1036q.out.asideL (by omega) 0 (wl d)
    have h1045q : Hid (Bo (u1039q.setCells (n + 2) 0 (wl d)) b_z (wl d)) := h1037q.out.asideL (by omega) 0 (wl d)
    have h1046q : Hid (Bo (u1039q.setCells (n + 2) 0 (wl d)) b_b [.int .i64 (cc), .int .i64 (y)]) := h1038q.out.asideL (by omega) 0 (wl d)
    clear h1034q h1035q h1036q h1037q h1038q
    refine hK.out _ _ ⟨h1045q.out, h1046q.out⟩ (fun hH => ?_)
    clear hK K
    generalize (u1039q.setCells (n + 2) 0 (wl d)) = u1047q at h1042q h1043q h1044q h1045q h1046q hH ⊢
    try simp only [Act.put, List.setIfInBounds_toArray, List.set_cons_zero, List.set_cons_succ]
    refine wpAnyH_ready (rs := [3]) (by kernel_rfl) (by simp) ?_
    refine AllReadyH.cons (o := { dst := none, op := .store _ (.tmp 7) (.tmp 33), type := _, pos := _, after := _, guard := _ }) rfl (fun K hK => ?_) AllReadyH.nil
    rw [if_pos (by rfl)]
    refine wp_store_mid _ _ _ rfl (n + 3) _ #[.int .i64 (cc), .int .i64 (y)] rfl rfl h1044q.out.there2 HA.out (two_one _ _) ?_
    simp only [Act.put]
    have h1048q : Hid (Gd n w (u1047q.setCells (n + 3) 0 [.int .i64 (cc), .int .i64 (y)])) := h1042q.out.asideL (by omega) 0 [.int .i64 (cc), .int .i64 (y)]
    have h1049q : Hid (Bo (u1047q.setCells (n + 3) 0 [.int .i64 (cc), .int .i64 (y)]) (n + 2) (wl d)) := h1043q.out.asideL (by omega) 0 [.int .i64 (cc), .int .i64 (y)]
    have h1050q : Hid (Bo (u1047q.setCells (n + 3) 0 [.int .i64 (cc), .int .i64 (y)]) (n + 3) [.int .i64 (cc), .int .i64 (y)]) := h1044q.out.set2 (.int .i64 (cc)) (.int .i64 (y))
    have h1051q : Hid (Bo (u1047q.setCells (n + 3) 0 [.int .i64 (cc), .int .i64 (y)]) b_z (wl d)) := h1045q.out.asideL (by omega) 0 [.int .i64 (cc), .int .i64 (y)]
    have h1052q : Hid (Bo (u1047q.setCells (n + 3) 0 [.int .i64 (cc), .int .i64 (y)]) b_b [.int .i64 (cc), .int .i64 (y)]) := h1046q.out.asideL (by omega) 0 [.int .i64 (cc), .int .i64 (y)]
    clear h1042q h1043q h1044q h1045q h1046q
    refine hK.out _ _ ⟨h1051q.out, h1052q.out⟩ (fun hH => ?_)
    clear hK K
    generalize (u1047q.setCells (n + 3) 0 [.int .i64 (cc), .int .i64 (y)]) = u1053q at h1048q h1049q h1050q h1051q h1052q hH ⊢
    try simp only [Act.put, List.setIfInBounds_toArray, List.set_cons_zero, List.set_cons_succ]
    refine wpAnyH_take (i := 4) (oi := { dst := some 8, op := .assign (.const .nilIface), type := _, pos := _, after := _, guard := _ }) (v := ?_) rfl (by kernel_rfl) (by kernel_rfl) (by kernel_rfl) (fun _ _ _ h => h) (Or.inl ⟨by rfl, ?_⟩) hH ?_
    rotate_left
    · intro w hSw
      clear hSw
      go_simp
      try with_reducible rfl
    simp only [Act.put, List.setIfInBounds_toArray, List.set_cons_zero, List.set_cons_succ]
    refine wpAnyH_done (by kernel_rfl) ?_ _
    go_wp2
    exact bodyPost_ret (results_row3 Tryd.results6 _ _ (n + 2) (n + 3) (wl d) [.int .i64 (cc), .int .i64 (y)] (.nilIface) _ _ rfl rfl rfl h1049q.out.range HC.out rfl (HCS.out d) h1050q.out.range HDA.out rfl HA.out) rfl ⟨rfl, by first | exact h1048q.out.low | exact h1048q.out.2⟩
end Go.Proofs.YtbmgjpdfmgcigabDoor.Tab
