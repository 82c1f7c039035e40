/- ObjectWrong is proved: for every number of a kind, every list of operations and every operation the call returns true (which operations an object cannot do hangs on its kind, and on the key, alone). -/
import Derived.Test.YtbmgjpdfmgcigabRows
import Derived.Test.YtbmgjpdfmgcigabKm
import Derived.Test.YtbmgjpdfmgcigabKs
import Derived.Test.YtbmgjpdfmgcigabFt
import Derived.Test.YtbmgjpdfmgcigabArgOps
import Derived.Test.YtbmgjpdfmgcigabArgOp
import Derived.Deep.DeepCutAuto
import Derived.Deep.RegionHeld3

namespace Go.Proofs.Ytbmgjpdfmgcigab.Tab.objectWrong
open Go.ChangeShapes Go.WideShapes Go.ChangeAt Go.RowKit
set_option linter.unusedVariables false

theorem own : ownKnob Try.prog.godebug = none := by kernel_rfl

set_option maxHeartbeats 4000000 in
set_option maxRecDepth 20000 in
theorem walk (a0 : Int) (v1 : Value) (n1 : Nat) (o k x : Int) (w0 : (Lit.int .i64 a0).wf = true) (wa2 : (Lit.int .i64 o).wf = true) (wb2 : (Lit.int .i64 k).wf = true) (wc2 : (Lit.int .i64 x).wf = true) (w : World) (D : Ops w v1 n1) :
    Calls Try.prog 6 #[.int .i64 a0, v1, .agg #[.int .i64 o, .int .i64 k, .int .i64 x]] w (fun e w' => e = .returned (.bool true) ∧ Below w.heap.size w w') := by
  have HA : Hid ((Try.prog.info? 32).map (·.size) = some 2) := answer_sz
  obtain ⟨fs, ha⟩ := answer_st
  have HDA : Hid _ := ha
  clear ha
  obtain ⟨nb, eb, hd⟩ := cells_array
  have HC : Hid _ := hd
  clear hd
  have HCS : Hid _ := cells_size
  have HCZ : Hid _ := cells_size2
  have g0 : Hid (Gd w.heap.size w w) := Gd.refl w
  have h1q : Hid (Gd w.heap.size w (w.alloc (.cells #[.int .i64 o, .int .i64 k, .int .i64 x] 24))) := g0.out.new (.cells #[.int .i64 o, .int .i64 k, .int .i64 x] 24)
  clear g0
  have h2q : Hid (Bo (w.alloc (.cells #[.int .i64 o, .int .i64 k, .int .i64 x] 24)) w.heap.size [.int .i64 o, .int .i64 k, .int .i64 x]) := Bo.born w [.int .i64 o, .int .i64 k, .int .i64 x] 24 (by simp)
  have D1 : Hid (Ops w v1 n1) := D
  clear D
  clear w0 wa2 wb2 wc2
  have TH : Hid (∀ w : World, _) := fun w => things_is w
  obtain ⟨r, hr1, hr6, hko⟩ := kindOf_is a0
  have KO : Hid _ := hko
  clear hko
  have F0 := afield0
  by_cases hR : Rt o k x
  · have OR : Hid (∀ w : World, _) := fun w => opR_yes hR w
    have HR : Hid _ := hR
    clear hR
    go_enter Try.func6, Try.ntmps6
    go_wp2_with fail
    refine (TH.out _).mono ?_
    rintro e u3q ⟨rfl, hb⟩
    have h4q : Hid (Gd w.heap.size w u3q) := h1q.out.later hb
    have h5q : Hid (Bo u3q w.heap.size [.int .i64 o, .int .i64 k, .int .i64 x]) := h2q.out.later hb
    clear h1q h2q
    clear hb
    have c6q := h5q.out.at 0 rfl
    have c7q := h5q.out.at 1 rfl
    have c8q := h5q.out.at 2 rfl
    go_wp2_with fail
    refine (OR.out _).mono ?_
    rintro e u9q ⟨rfl, hb⟩
    have h10q : Hid (Gd w.heap.size w u9q) := h4q.out.later hb
    have h11q : Hid (Bo u9q w.heap.size [.int .i64 o, .int .i64 k, .int .i64 x]) := h5q.out.later hb
    clear h4q h5q
    clear hb
    go_wp2_with fail
    refine (KO.out _).mono ?_
    rintro e u12q ⟨rfl, hw⟩
    rw [hw]; clear hw u12q
    go_wp2_with fail
    generalize hsz : w.heap.size = n at h10q h11q  ⊢
    have HSZ : Hid (w.heap.size = n) := hsz
    clear hsz
    go_cut [7, 8, 9] (fun s7 s8 s9 wx => ∃ b_d b_a : Nat, ∃ cc : Int, ∃ yy : Int, s7 = .pointer (some ⟨b_d, 0, none⟩) ∧ s8 = .pointer (some ⟨b_a, 0, none⟩) ∧ s9 = .nilIface ∧ Hid (Gd n w wx) ∧ Hid (Bo wx n [.int .i64 o, .int .i64 k, .int .i64 x]) ∧ Hid (Bo wx b_a [.int .i64 (cc), .int .i64 (yy)]) ∧ Hid (cc = 5 ↔ (((o = 3 ∨ o = 4) ∧ ((r : Nat) : Int) ≠ 3) ∨ (((r : Nat) : Int) = 5 ∧ o ≠ 6 ∧ (o = 3 ∨ o = 4 ∨ k = 0)))))
    case first =>
      have h13q : Hid (Gd n w u9q.drew) := h10q.out.drew
      have h14q : Hid (Bo u9q.drew n [.int .i64 o, .int .i64 k, .int .i64 x]) := h11q.out.drew
      clear h10q h11q
      refine wp_region_held_drew (S := fun w' => Bo w' n [.int .i64 o, .int .i64 k, .int .i64 x]) (by kernel_rfl) h14q.out (fun hH => ?_)
      generalize u9q.drew = u15q at h13q h14q hH ⊢
      refine wpAnyH_take (i := 0) (oi := { dst := some 20, op := .move (.tmp 0), type := _, pos := _, after := _, guard := _ }) (v := ?_) rfl (by kernel_rfl) (by kernel_rfl) (by kernel_rfl) (fun _ _ _ h => h) (Or.inl ⟨by rfl, ?_⟩) hH ?_
      rotate_left
      · intro w hSw
        clear hSw
        go_simp
        try with_reducible rfl
      simp only [Act.put, List.setIfInBounds_toArray, List.set_cons_zero, List.set_cons_succ]
      refine wpAnyH_take (i := 1) (oi := { dst := some 21, op := .move (.tmp 0), type := _, pos := _, after := _, guard := _ }) (v := ?_) rfl (by kernel_rfl) (by kernel_rfl) (by kernel_rfl) (fun _ _ _ h => h) (Or.inl ⟨by rfl, ?_⟩) hH ?_
      rotate_left
      · intro w hSw
        clear hSw
        go_simp
        try with_reducible rfl
      simp only [Act.put, List.setIfInBounds_toArray, List.set_cons_zero, List.set_cons_succ]
      refine wpAnyH_take (i := 2) (oi := { dst := some 22, op := .move (.tmp 1), type := _, pos := _, after := _, guard := _ }) (v := ?_) rfl (by kernel_rfl) (by kernel_rfl) (by kernel_rfl) (fun _ _ _ h => h) (Or.inl ⟨by rfl, ?_⟩) hH ?_
      rotate_left
      · intro w hSw
        clear hSw
        go_simp
        try with_reducible rfl
      simp only [Act.put, List.setIfInBounds_toArray, List.set_cons_zero, List.set_cons_succ]
      refine wpAnyH_take (i := 4) (oi := { dst := some 24, op := .load _ (.tmp 5), type := _, pos := _, after := _, guard := _ }) (v := ?_) rfl (by kernel_rfl) (by kernel_rfl) (by kernel_rfl) (fun _ _ _ h => h) (Or.inl ⟨by rfl, ?_⟩) hH ?_
      rotate_left
      · intro w hSw
        have c16q := (hSw).at 0 rfl
        have c17q := (hSw).at 1 rfl
        have c18q := (hSw).at 2 rfl
        clear hSw
        go_simp
        try with_reducible rfl
      simp only [Act.put, List.setIfInBounds_toArray, List.set_cons_zero, List.set_cons_succ]
      refine wpAnyH_ready (rs := [3, 10, 11]) (by kernel_rfl) (by simp) ?_
      refine AllReadyH.cons (o := { dst := some 23, op := _, type := _, pos := _, after := _, guard := _ }) rfl (fun K hK => ?_) ?_
      · go_simp
        refine (made_is (kind := (r : Nat)) (by omega) (by omega) (Ops.later (v := v1) (n := n1) D1.out h13q.out.2)).mono ?_
        rintro e u19q ⟨c, hO, rfl, hb⟩
        have h20q : Hid (Gd n w u19q) := h13q.out.later hb
        have h21q : Hid (Bo u19q n [.int .i64 o, .int .i64 k, .int .i64 x]) := h14q.out.later hb
        clear h13q h14q
        have HO : Hid _ := hO
        clear hO
        obtain ⟨⟨u, cc, yy⟩, hu⟩ : ∃ r9, odo (r : Nat) c o k x = r9 := ⟨_, rfl⟩
        have DO : Hid (∀ w, Calls Try.prog 10 #[.int .i64 (r : Nat), .agg (wl c).toArray, .agg #[.int .i64 o, .int .i64 k, .int .i64 x]] w (DidD w u cc yy)) := fun w => by have := obDo_is HO.out HR.out w; rw [hu] at this; exact this
        have f : OF (r : Nat) c o k x (u, cc, yy) := by have := odo_facts HO.out HR.out.w1 HR.out.w6 HR.out.k0 HR.out.k1 HR.out.v0 HR.out.v1; rw [hu] at this; exact this
        clear hu
        have WR : Hid (cc = 5 ↔ (((o = 3 ∨ o = 4) ∧ ((r : Nat) : Int) ≠ 3) ∨ (((r : Nat) : Int) = 5 ∧ o ≠ 6 ∧ (o = 3 ∨ o = 4 ∨ k = 0)))) := f.wrong
        clear f
        clear hb
        go_wp2_with fail
        refine hK.out _ _ h21q.out (fun hH => ?_)
        clear hK K
        try simp only [Act.put, List.setIfInBounds_toArray, List.set_cons_zero, List.set_cons_succ]
        refine wpAnyH_ready (rs := [5, 10, 11]) (by kernel_rfl) (by simp) ?_
        refine AllReadyH.cons (o := { dst := some 25, op := _, type := _, pos := _, after := _, guard := _ }) rfl (fun K hK => ?_) ?_
        · go_simp
          refine (DO.out _).mono ?_
          rintro e u22q ⟨rfl, hb⟩
          have h23q : Hid (Gd n w u22q) := h20q.out.later hb
          have h24q : Hid (Bo u22q n [.int .i64 o, .int .i64 k, .int .i64 x]) := h21q.out.later hb
          clear h20q h21q
          clear hb
          go_wp2_with fail
          refine hK.out _ _ h24q.out (fun hH => ?_)
          clear hK K
          try simp only [Act.put, List.setIfInBounds_toArray, List.set_cons_zero, List.set_cons_succ]
          refine wpAnyH_take (i := 6) (oi := { dst := some 19, op := .move (.tmp 25), type := _, pos := _, after := _, guard := _ }) (v := ?_) rfl (by kernel_rfl) (by kernel_rfl) (by kernel_rfl) (fun _ _ _ h => h) (Or.inl ⟨by rfl, ?_⟩) hH ?_
          rotate_left
          · intro w hSw
            clear hSw
            go_simp
            try with_reducible rfl
          simp only [Act.put, List.setIfInBounds_toArray, List.set_cons_zero, List.set_cons_succ]
          refine wpAnyH_take (i := 7) (oi := { dst := some 26, op := .extract (.tmp 19) 0, type := _, pos := _, after := _, guard := _ }) (v := ?_) rfl (by kernel_rfl) (by kernel_rfl) (by kernel_rfl) (fun _ _ _ h => h) (Or.inl ⟨by rfl, ?_⟩) hH ?_
          rotate_left
          · intro w hSw
            clear hSw
            go_simp
            try with_reducible rfl
          simp only [Act.put, List.setIfInBounds_toArray, List.set_cons_zero, List.set_cons_succ]
          refine wpAnyH_take (i := 8) (oi := { dst := some 27, op := .extract (.tmp 19) 1, type := _, pos := _, after := _, guard := _ }) (v := ?_) rfl (by kernel_rfl) (by kernel_rfl) (by kernel_rfl) (fun _ _ _ h => h) (Or.inl ⟨by rfl, ?_⟩) hH ?_
          rotate_left
          · intro w hSw
            clear hSw
            go_simp
            try with_reducible rfl
          simp only [Act.put, List.setIfInBounds_toArray, List.set_cons_zero, List.set_cons_succ]
          refine wpAnyH_take (i := 9) (oi := { dst := some 28, op := .extract (.tmp 19) 2, type := _, pos := _, after := _, guard := _ }) (v := ?_) rfl (by kernel_rfl) (by kernel_rfl) (by kernel_rfl) (fun _ _ _ h => h) (Or.inl ⟨by rfl, ?_⟩) hH ?_
          rotate_left
          · intro w hSw
            clear hSw
            go_simp
            try with_reducible rfl
          simp only [Act.put, List.setIfInBounds_toArray, List.set_cons_zero, List.set_cons_succ]
          refine wpAnyH_ready (rs := [10, 11]) (by kernel_rfl) (by simp) ?_
          refine AllReadyH.cons (o := { dst := some 7, op := .alloc _, type := _, pos := _, after := _, guard := _ }) rfl (fun K hK => ?_) ?_
          · have l25q : n ≤ u22q.heap.size := h23q.out.le
            have l26q : n < u22q.heap.size := h24q.out.lt
            go_simp
            have h27q : Hid (Gd n w (u22q.alloc (.cells #[.int .u64 0, .int .u64 0, .int .u64 0, .int .u64 0, .int .u64 0, .int .u64 0, .int .u64 0, .int .u64 0, .int .u64 0, .int .u64 0, .int .u64 0, .int .u64 0, .int .u64 0, .int .u64 0, .int .u64 0, .int .u64 0, .int .u64 0] 29))) := h23q.out.new (.cells #[.int .u64 0, .int .u64 0, .int .u64 0, .int .u64 0, .int .u64 0, .int .u64 0, .int .u64 0, .int .u64 0, .int .u64 0, .int .u64 0, .int .u64 0, .int .u64 0, .int .u64 0, .int .u64 0, .int .u64 0, .int .u64 0, .int .u64 0] 29)
            have h28q : Hid (Bo (u22q.alloc (.cells #[.int .u64 0, .int .u64 0, .int .u64 0, .int .u64 0, .int .u64 0, .int .u64 0, .int .u64 0, .int .u64 0, .int .u64 0, .int .u64 0, .int .u64 0, .int .u64 0, .int .u64 0, .int .u64 0, .int .u64 0, .int .u64 0, .int .u64 0] 29)) n [.int .i64 o, .int .i64 k, .int .i64 x]) := h24q.out.new (.cells #[.int .u64 0, .int .u64 0, .int .u64 0, .int .u64 0, .int .u64 0, .int .u64 0, .int .u64 0, .int .u64 0, .int .u64 0, .int .u64 0, .int .u64 0, .int .u64 0, .int .u64 0, .int .u64 0, .int .u64 0, .int .u64 0, .int .u64 0] 29)
            clear h23q h24q
            have h29q : Hid (Bo (u22q.alloc (.cells #[.int .u64 0, .int .u64 0, .int .u64 0, .int .u64 0, .int .u64 0, .int .u64 0, .int .u64 0, .int .u64 0, .int .u64 0, .int .u64 0, .int .u64 0, .int .u64 0, .int .u64 0, .int .u64 0, .int .u64 0, .int .u64 0, .int .u64 0] 29)) u22q.heap.size (wl wz)) := Bo.born u22q (wl wz) 29 (by simp)
            refine hK.out _ _ h28q.out (fun hH => ?_)
            clear hK K
            generalize (u22q.alloc (.cells #[.int .u64 0, .int .u64 0, .int .u64 0, .int .u64 0, .int .u64 0, .int .u64 0, .int .u64 0, .int .u64 0, .int .u64 0, .int .u64 0, .int .u64 0, .int .u64 0, .int .u64 0, .int .u64 0, .int .u64 0, .int .u64 0, .int .u64 0] 29)) = u30q at h27q h28q h29q hH ⊢
            try simp only [Act.put, List.setIfInBounds_toArray, List.set_cons_zero, List.set_cons_succ]
            refine wpAnyH_ready (rs := [11]) (by kernel_rfl) (by simp) ?_
            refine AllReadyH.cons (o := { dst := some 8, op := .alloc _, type := _, pos := _, after := _, guard := _ }) rfl (fun K hK => ?_) AllReadyH.nil
            have l31q : n ≤ u30q.heap.size := h27q.out.le
            have l32q : n < u30q.heap.size := h28q.out.lt
            have l33q : u22q.heap.size < u30q.heap.size := h29q.out.lt
            go_simp
            have h34q : Hid (Gd n w (u30q.alloc (.cells #[.int .i64 0, .int .i64 0] 32))) := h27q.out.new (.cells #[.int .i64 0, .int .i64 0] 32)
            have h35q : Hid (Bo (u30q.alloc (.cells #[.int .i64 0, .int .i64 0] 32)) n [.int .i64 o, .int .i64 k, .int .i64 x]) := h28q.out.new (.cells #[.int .i64 0, .int .i64 0] 32)
            have h36q : Hid (Bo (u30q.alloc (.cells #[.int .i64 0, .int .i64 0] 32)) u22q.heap.size (wl wz)) := h29q.out.new (.cells #[.int .i64 0, .int .i64 0] 32)
            clear h27q h28q h29q
            have h37q : Hid (Bo (u30q.alloc (.cells #[.int .i64 0, .int .i64 0] 32)) u30q.heap.size [.int .i64 0, .int .i64 0]) := Bo.born u30q [.int .i64 0, .int .i64 0] 32 (by simp)
            refine hK.out _ _ h35q.out (fun hH => ?_)
            clear hK K
            generalize (u30q.alloc (.cells #[.int .i64 0, .int .i64 0] 32)) = u38q at h34q h35q h36q h37q hH ⊢
            try simp only [Act.put, List.setIfInBounds_toArray, List.set_cons_zero, List.set_cons_succ]
            refine wpAnyH_ready (rs := [12]) (by kernel_rfl) (by simp) ?_
            refine AllReadyH.cons (o := { dst := none, op := .store _ (.tmp 7) (.tmp 26), type := _, pos := _, after := _, guard := _ }) rfl (fun K hK => ?_) AllReadyH.nil
            rw [if_pos (by rfl)]
            refine wp_store_mid _ _ _ rfl u22q.heap.size _ (wl u).toArray rfl rfl (h36q.out.thereW u) (HCZ.out u) (wl_all u) ?_
            simp only [Act.put]
            have h39q : Hid (Gd n w (u38q.setCells u22q.heap.size 0 (wl u))) := h34q.out.asideL (by omega) 0 (wl u)
            have h40q : Hid (Bo (u38q.setCells u22q.heap.size 0 (wl u)) n [.int .i64 o, .int .i64 k, .int .i64 x]) := h35q.out.asideL (by omega) 0 (wl u)
            have h41q : Hid (Bo (u38q.setCells u22q.heap.size 0 (wl u)) u22q.heap.size (wl u)) := h36q.out.setW u
            have h42q : Hid (Bo (u38q.setCells u22q.heap.size 0 (wl u)) u30q.heap.size [.int .i64 0, .int .i64 0]) := h37q.out.asideL (by omega) 0 (wl u)
            clear h34q h35q h36q h37q
            refine hK.out _ _ h40q.out (fun hH => ?_)
            clear hK K
            generalize (u38q.setCells u22q.heap.size 0 (wl u)) = u43q at h39q h40q h41q h42q hH ⊢
            try simp only [Act.put, List.setIfInBounds_toArray, List.set_cons_zero, List.set_cons_succ]
            refine wpAnyH_ready (rs := [13]) (by kernel_rfl) (by simp) ?_
            refine AllReadyH.cons (o := { dst := none, op := .store _ (.tmp 8) (.tmp 27), type := _, pos := _, after := _, guard := _ }) rfl (fun K hK => ?_) AllReadyH.nil
            rw [if_pos (by rfl)]
            refine wp_store_mid _ _ _ rfl u30q.heap.size _ #[.int .i64 (cc), .int .i64 (yy)] rfl rfl h42q.out.there2 HA.out (two_one _ _) ?_
            simp only [Act.put]
            have h44q : Hid (Gd n w (u43q.setCells u30q.heap.size 0 [.int .i64 (cc), .int .i64 (yy)])) := h39q.out.asideL (by omega) 0 [.int .i64 (cc), .int .i64 (yy)]
            have h45q : Hid (Bo (u43q.setCells u30q.heap.size 0 [.int .i64 (cc), .int .i64 (yy)]) n [.int .i64 o, .int .i64 k, .int .i64 x]) := h40q.out.asideL (by omega) 0 [.int .i64 (cc), .int .i64 (yy)]
            have h46q : Hid (Bo (u43q.setCells u30q.heap.size 0 [.int .i64 (cc), .int .i64 (yy)]) u22q.heap.size (wl u)) := h41q.out.asideL (by omega) 0 [.int .i64 (cc), .int .i64 (yy)]
            have h47q : Hid (Bo (u43q.setCells u30q.heap.size 0 [.int .i64 (cc), .int .i64 (yy)]) u30q.heap.size [.int .i64 (cc), .int .i64 (yy)]) := h42q.out.set2 (.int .i64 (cc)) (.int .i64 (yy))
            clear h39q h40q h41q h42q
            refine hK.out _ _ h45q.out (fun hH => ?_)
            clear hK K
            generalize (u43q.setCells u30q.heap.size 0 [.int .i64 (cc), .int .i64 (yy)]) = u48q at h44q h45q h46q h47q hH ⊢
            try simp only [Act.put, List.setIfInBounds_toArray, List.set_cons_zero, List.set_cons_succ]
            refine wpAnyH_take (i := 14) (oi := { dst := some 9, op := .assign (.tmp 28), type := _, pos := _, after := _, guard := _ }) (v := ?_) rfl (by kernel_rfl) (by kernel_rfl) (by kernel_rfl) (fun _ _ _ h => h) (Or.inl ⟨by rfl, ?_⟩) hH ?_
            rotate_left
            · intro w hSw
              clear hSw
              go_simp
              try with_reducible rfl
            simp only [Act.put, List.setIfInBounds_toArray, List.set_cons_zero, List.set_cons_succ]
            refine wpAnyH_done (by kernel_rfl) ?_ _
            go_wp2_with fail
            go_meet
            case rel => exact ⟨u22q.heap.size, u30q.heap.size, cc, yy, rfl, rfl, rfl, h44q, h45q, h47q, WR⟩
          refine AllReadyH.cons (o := { dst := some 8, op := .alloc _, type := _, pos := _, after := _, guard := _ }) rfl (fun K hK => ?_) AllReadyH.nil
          have l49q : n ≤ u22q.heap.size := h23q.out.le
          have l50q : n < u22q.heap.size := h24q.out.lt
          go_simp
          have h51q : Hid (Gd n w (u22q.alloc (.cells #[.int .i64 0, .int .i64 0] 32))) := h23q.out.new (.cells #[.int .i64 0, .int .i64 0] 32)
          have h52q : Hid (Bo (u22q.alloc (.cells #[.int .i64 0, .int .i64 0] 32)) n [.int .i64 o, .int .i64 k, .int .i64 x]) := h24q.out.new (.cells #[.int .i64 0, .int .i64 0] 32)
          clear h23q h24q
          have h53q : Hid (Bo (u22q.alloc (.cells #[.int .i64 0, .int .i64 0] 32)) u22q.heap.size [.int .i64 0, .int .i64 0]) := Bo.born u22q [.int .i64 0, .int .i64 0] 32 (by simp)
          refine hK.out _ _ h52q.out (fun hH => ?_)
          clear hK K
          generalize (u22q.alloc (.cells #[.int .i64 0, .int .i64 0] 32)) = u54q at h51q h52q h53q hH ⊢
          try simp only [Act.put, List.setIfInBounds_toArray, List.set_cons_zero, List.set_cons_succ]
          refine wpAnyH_ready (rs := [10]) (by kernel_rfl) (by simp) ?_
          refine AllReadyH.cons (o := { dst := some 7, op := .alloc _, type := _, pos := _, after := _, guard := _ }) rfl (fun K hK => ?_) AllReadyH.nil
          have l55q : n ≤ u54q.heap.size := h51q.out.le
          have l56q : n < u54q.heap.size := h52q.out.lt
          have l57q : u22q.heap.size < u54q.heap.size := h53q.out.lt
          go_simp
          have h58q : Hid (Gd n w (u54q.alloc (.cells #[.int .u64 0, .int .u64 0, .int .u64 0, .int .u64 0, .int .u64 0, .int .u64 0, .int .u64 0, .int .u64 0, .int .u64 0, .int .u64 0, .int .u64 0, .int .u64 0, .int .u64 0, .int .u64 0, .int .u64 0, .int .u64 0, .int .u64 0] 29))) := h51q.out.new (.cells #[.int .u64 0, .int .u64 0, .int .u64 0, .int .u64 0, .int .u64 0, .int .u64 0, .int .u64 0, .int .u64 0, .int .u64 0, .int .u64 0, .int .u64 0, .int .u64 0, .int .u64 0, .int .u64 0, .int .u64 0, .int .u64 0, .int .u64 0] 29)
          have h59q : Hid (Bo (u54q.alloc (.cells #[.int .u64 0, .int .u64 0, .int .u64 0, .int .u64 0, .int .u64 0, .int .u64 0, .int .u64 0, .int .u64 0, .int .u64 0, .int .u64 0, .int .u64 0, .int .u64 0, .int .u64 0, .int .u64 0, .int .u64 0, .int .u64 0, .int .u64 0] 29)) n [.int .i64 o, .int .i64 k, .int .i64 x]) := h52q.out.new (.cells #[.int .u64 0, .int .u64 0, .int .u64 0, .int .u64 0, .int .u64 0, .int .u64 0, .int .u64 0, .int .u64 0, .int .u64 0, .int .u64 0, .int .u64 0, .int .u64 0, .int .u64 0, .int .u64 0, .int .u64 0, .int .u64 0, .int .u64 0] 29)
          have h60q : Hid (Bo (u54q.alloc (.cells #[.int .u64 0, .int .u64 0, .int .u64 0, .int .u64 0, .int .u64 0, .int .u64 0, .int .u64 0, .int .u64 0, .int .u64 0, .int .u64 0, .int .u64 0, .int .u64 0, .int .u64 0, .int .u64 0, .int .u64 0, .int .u64 0, .int .u64 0] 29)) u22q.heap.size [.int .i64 0, .int .i64 0]) := h53q.out.new (.cells #[.int .u64 0, .int .u64 0, .int .u64 0, .int .u64 0, .int .u64 0, .int .u64 0, .int .u64 0, .int .u64 0, .int .u64 0, .int .u64 0, .int .u64 0, .int .u64 0, .int .u64 0, .int .u64 0, .int .u64 0, .int .u64 0, .int .u64 0] 29)
          clear h51q h52q h53q
          have h61q : Hid (Bo (u54q.alloc (.cells #[.int .u64 0, .int .u64 0, .int .u64 0, .int .u64 0, .int .u64 0, .int .u64 0, .int .u64 0, .int .u64 0, .int .u64 0, .int .u64 0, .int .u64 0, .int .u64 0, .int .u64 0, .int .u64 0, .int .u64 0, .int .u64 0, .int .u64 0] 29)) u54q.heap.size (wl wz)) := Bo.born u54q (wl wz) 29 (by simp)
          refine hK.out _ _ h59q.out (fun hH => ?_)
          clear hK K
          generalize (u54q.alloc (.cells #[.int .u64 0, .int .u64 0, .int .u64 0, .int .u64 0, .int .u64 0, .int .u64 0, .int .u64 0, .int .u64 0, .int .u64 0, .int .u64 0, .int .u64 0, .int .u64 0, .int .u64 0, .int .u64 0, .int .u64 0, .int .u64 0, .int .u64 0] 29)) = u62q at h58q h59q h60q h61q hH ⊢
          try simp only [Act.put, List.setIfInBounds_toArray, List.set_cons_zero, List.set_cons_succ]
          refine wpAnyH_ready (rs := [12]) (by kernel_rfl) (by simp) ?_
          refine AllReadyH.cons (o := { dst := none, op := .store _ (.tmp 7) (.tmp 26), type := _, pos := _, after := _, guard := _ }) rfl (fun K hK => ?_) AllReadyH.nil
          rw [if_pos (by rfl)]
          refine wp_store_mid _ _ _ rfl u54q.heap.size _ (wl u).toArray rfl rfl (h61q.out.thereW u) (HCZ.out u) (wl_all u) ?_
          simp only [Act.put]
          have h63q : Hid (Gd n w (u62q.setCells u54q.heap.size 0 (wl u))) := h58q.out.asideL (by omega) 0 (wl u)
          have h64q : Hid (Bo (u62q.setCells u54q.heap.size 0 (wl u)) n [.int .i64 o, .int .i64 k, .int .i64 x]) := h59q.out.asideL (by omega) 0 (wl u)
          have h65q : Hid (Bo (u62q.setCells u54q.heap.size 0 (wl u)) u22q.heap.size [.int .i64 0, .int .i64 0]) := h60q.out.asideL (by omega) 0 (wl u)
          have h66q : Hid (Bo (u62q.setCells u54q.heap.size 0 (wl u)) u54q.heap.size (wl u)) := h61q.out.setW u
          clear h58q h59q h60q h61q
          refine hK.out _ _ h64q.out (fun hH => ?_)
          clear hK K
          generalize (u62q.setCells u54q.heap.size 0 (wl u)) = u67q at h63q h64q h65q h66q hH ⊢
          try simp only [Act.put, List.setIfInBounds_toArray, List.set_cons_zero, List.set_cons_succ]
          refine wpAnyH_ready (rs := [13]) (by kernel_rfl) (by simp) ?_
          refine AllReadyH.cons (o := { dst := none, op := .store _ (.tmp 8) (.tmp 27), type := _, pos := _, after := _, guard := _ }) rfl (fun K hK => ?_) AllReadyH.nil
          rw [if_pos (by rfl)]
          refine wp_store_mid _ _ _ rfl u22q.heap.size _ #[.int .i64 (cc), .int .i64 (yy)] rfl rfl h65q.out.there2 HA.out (two_one _ _) ?_
          simp only [Act.put]
          have h68q : Hid (Gd n w (u67q.setCells u22q.heap.size 0 [.int .i64 (cc), .int .i64 (yy)])) := h63q.out.asideL (by omega) 0 [.int .i64 (cc), .int .i64 (yy)]
          have h69q : Hid (Bo (u67q.setCells u22q.heap.size 0 [.int .i64 (cc), .int .i64 (yy)]) n [.int .i64 o, .int .i64 k, .int .i64 x]) := h64q.out.asideL (by omega) 0 [.int .i64 (cc), .int .i64 (yy)]
          have h70q : Hid (Bo (u67q.setCells u22q.heap.size 0 [.int .i64 (cc), .int .i64 (yy)]) u22q.heap.size [.int .i64 (cc), .int .i64 (yy)]) := h65q.out.set2 (.int .i64 (cc)) (.int .i64 (yy))
          have h71q : Hid (Bo (u67q.setCells u22q.heap.size 0 [.int .i64 (cc), .int .i64 (yy)]) u54q.heap.size (wl u)) := h66q.out.asideL (by omega) 0 [.int .i64 (cc), .int .i64 (yy)]
          clear h63q h64q h65q h66q
          refine hK.out _ _ h69q.out (fun hH => ?_)
          clear hK K
          generalize (u67q.setCells u22q.heap.size 0 [.int .i64 (cc), .int .i64 (yy)]) = u72q at h68q h69q h70q h71q hH ⊢
          try simp only [Act.put, List.setIfInBounds_toArray, List.set_cons_zero, List.set_cons_succ]
          refine wpAnyH_take (i := 14) (oi := { dst := some 9, op := .assign (.tmp 28), type := _, pos := _, after := _, guard := _ }) (v := ?_) rfl (by kernel_rfl) (by kernel_rfl) (by kernel_rfl) (fun _ _ _ h => h) (Or.inl ⟨by rfl, ?_⟩) hH ?_
          rotate_left
          · intro w hSw
            clear hSw
            go_simp
            try with_reducible rfl
          simp only [Act.put, List.setIfInBounds_toArray, List.set_cons_zero, List.set_cons_succ]
          refine wpAnyH_done (by kernel_rfl) ?_ _
          go_wp2_with fail
          go_meet
          case rel => exact ⟨u54q.heap.size, u22q.heap.size, cc, yy, rfl, rfl, rfl, h68q, h69q, h70q, WR⟩
        refine AllReadyH.cons (o := { dst := some 7, op := .alloc _, type := _, pos := _, after := _, guard := _ }) rfl (fun K hK => ?_) ?_
        · have l73q : n ≤ u19q.heap.size := h20q.out.le
          have l74q : n < u19q.heap.size := h21q.out.lt
          go_simp
          have h75q : Hid (Gd n w (u19q.alloc (.cells #[.int .u64 0, .int .u64 0, .int .u64 0, .int .u64 0, .int .u64 0, .int .u64 0, .int .u64 0, .int .u64 0, .int .u64 0, .int .u64 0, .int .u64 0, .int .u64 0, .int .u64 0, .int .u64 0, .int .u64 0, .int .u64 0, .int .u64 0] 29))) := h20q.out.new (.cells #[.int .u64 0, .int .u64 0, .int .u64 0, .int .u64 0, .int .u64 0, .int .u64 0, .int .u64 0, .int .u64 0, .int .u64 0, .int .u64 0, .int .u64 0, .int .u64 0, .int .u64 0, .int .u64 0, .int .u64 0, .int .u64 0, .int .u64 0] 29)
          have h76q : Hid (Bo (u19q.alloc (.cells #[.int .u64 0, .int .u64 0, .int .u64 0, .int .u64 0, .int .u64 0, .int .u64 0, .int .u64 0, .int .u64 0, .int .u64 0, .int .u64 0, .int .u64 0, .int .u64 0, .int .u64 0, .int .u64 0, .int .u64 0, .int .u64 0, .int .u64 0] 29)) n [.int .i64 o, .int .i64 k, .int .i64 x]) := h21q.out.new (.cells #[.int .u64 0, .int .u64 0, .int .u64 0, .int .u64 0, .int .u64 0, .int .u64 0, .int .u64 0, .int .u64 0, .int .u64 0, .int .u64 0, .int .u64 0, .int .u64 0, .int .u64 0, .int .u64 0, .int .u64 0, .int .u64 0, .int .u64 0] 29)
          clear h20q h21q
          have h77q : Hid (Bo (u19q.alloc (.cells #[.int .u64 0, .int .u64 0, .int .u64 0, .int .u64 0, .int .u64 0, .int .u64 0, .int .u64 0, .int .u64 0, .int .u64 0, .int .u64 0, .int .u64 0, .int .u64 0, .int .u64 0, .int .u64 0, .int .u64 0, .int .u64 0, .int .u64 0] 29)) u19q.heap.size (wl wz)) := Bo.born u19q (wl wz) 29 (by simp)
          refine hK.out _ _ h76q.out (fun hH => ?_)
          clear hK K
          generalize (u19q.alloc (.cells #[.int .u64 0, .int .u64 0, .int .u64 0, .int .u64 0, .int .u64 0, .int .u64 0, .int .u64 0, .int .u64 0, .int .u64 0, .int .u64 0, .int .u64 0, .int .u64 0, .int .u64 0, .int .u64 0, .int .u64 0, .int .u64 0, .int .u64 0] 29)) = u78q at h75q h76q h77q hH ⊢
          try simp only [Act.put, List.setIfInBounds_toArray, List.set_cons_zero, List.set_cons_succ]
          refine wpAnyH_ready (rs := [5, 11]) (by kernel_rfl) (by simp) ?_
          refine AllReadyH.cons (o := { dst := some 25, op := _, type := _, pos := _, after := _, guard := _ }) rfl (fun K hK => ?_) ?_
          · go_simp
            refine (DO.out _).mono ?_
            rintro e u79q ⟨rfl, hb⟩
            have h80q : Hid (Gd n w u79q) := h75q.out.later hb
            have h81q : Hid (Bo u79q n [.int .i64 o, .int .i64 k, .int .i64 x]) := h76q.out.later hb
            have h82q : Hid (Bo u79q u19q.heap.size (wl wz)) := h77q.out.later hb
            clear h75q h76q h77q
            clear hb
            go_wp2_with fail
            refine hK.out _ _ h81q.out (fun hH => ?_)
            clear hK K
            try simp only [Act.put, List.setIfInBounds_toArray, List.set_cons_zero, List.set_cons_succ]
            refine wpAnyH_take (i := 6) (oi := { dst := some 19, op := .move (.tmp 25), type := _, pos := _, after := _, guard := _ }) (v := ?_) rfl (by kernel_rfl) (by kernel_rfl) (by kernel_rfl) (fun _ _ _ h => h) (Or.inl ⟨by rfl, ?_⟩) hH ?_
            rotate_left
            · intro w hSw
              clear hSw
              go_simp
              try with_reducible rfl
            simp only [Act.put, List.setIfInBounds_toArray, List.set_cons_zero, List.set_cons_succ]
            refine wpAnyH_take (i := 7) (oi := { dst := some 26, op := .extract (.tmp 19) 0, type := _, pos := _, after := _, guard := _ }) (v := ?_) rfl (by kernel_rfl) (by kernel_rfl) (by kernel_rfl) (fun _ _ _ h => h) (Or.inl ⟨by rfl, ?_⟩) hH ?_
            rotate_left
            · intro w hSw
              clear hSw
              go_simp
              try with_reducible rfl
            simp only [Act.put, List.setIfInBounds_toArray, List.set_cons_zero, List.set_cons_succ]
            refine wpAnyH_take (i := 8) (oi := { dst := some 27, op := .extract (.tmp 19) 1, type := _, pos := _, after := _, guard := _ }) (v := ?_) rfl (by kernel_rfl) (by kernel_rfl) (by kernel_rfl) (fun _ _ _ h => h) (Or.inl ⟨by rfl, ?_⟩) hH ?_
            rotate_left
            · intro w hSw
              clear hSw
              go_simp
              try with_reducible rfl
            simp only [Act.put, List.setIfInBounds_toArray, List.set_cons_zero, List.set_cons_succ]
            refine wpAnyH_take (i := 9) (oi := { dst := some 28, op := .extract (.tmp 19) 2, type := _, pos := _, after := _, guard := _ }) (v := ?_) rfl (by kernel_rfl) (by kernel_rfl) (by kernel_rfl) (fun _ _ _ h => h) (Or.inl ⟨by rfl, ?_⟩) hH ?_
            rotate_left
            · intro w hSw
              clear hSw
              go_simp
              try with_reducible rfl
            simp only [Act.put, List.setIfInBounds_toArray, List.set_cons_zero, List.set_cons_succ]
            refine wpAnyH_ready (rs := [11]) (by kernel_rfl) (by simp) ?_
            refine AllReadyH.cons (o := { dst := some 8, op := .alloc _, type := _, pos := _, after := _, guard := _ }) rfl (fun K hK => ?_) AllReadyH.nil
            have l83q : n ≤ u79q.heap.size := h80q.out.le
            have l84q : n < u79q.heap.size := h81q.out.lt
            have l85q : u19q.heap.size < u79q.heap.size := h82q.out.lt
            go_simp
            have h86q : Hid (Gd n w (u79q.alloc (.cells #[.int .i64 0, .int .i64 0] 32))) := h80q.out.new (.cells #[.int .i64 0, .int .i64 0] 32)
            have h87q : Hid (Bo (u79q.alloc (.cells #[.int .i64 0, .int .i64 0] 32)) n [.int .i64 o, .int .i64 k, .int .i64 x]) := h81q.out.new (.cells #[.int .i64 0, .int .i64 0] 32)
            have h88q : Hid (Bo (u79q.alloc (.cells #[.int .i64 0, .int .i64 0] 32)) u19q.heap.size (wl wz)) := h82q.out.new (.cells #[.int .i64 0, .int .i64 0] 32)
            clear h80q h81q h82q
            have h89q : Hid (Bo (u79q.alloc (.cells #[.int .i64 0, .int .i64 0] 32)) u79q.heap.size [.int .i64 0, .int .i64 0]) := Bo.born u79q [.int .i64 0, .int .i64 0] 32 (by simp)
            refine hK.out _ _ h87q.out (fun hH => ?_)
            clear hK K
            generalize (u79q.alloc (.cells #[.int .i64 0, .int .i64 0] 32)) = u90q at h86q h87q h88q h89q hH ⊢
            try simp only [Act.put, List.setIfInBounds_toArray, List.set_cons_zero, List.set_cons_succ]
            refine wpAnyH_ready (rs := [12]) (by kernel_rfl) (by simp) ?_
            refine AllReadyH.cons (o := { dst := none, op := .store _ (.tmp 7) (.tmp 26), type := _, pos := _, after := _, guard := _ }) rfl (fun K hK => ?_) AllReadyH.nil
            rw [if_pos (by rfl)]
            refine wp_store_mid _ _ _ rfl u19q.heap.size _ (wl u).toArray rfl rfl (h88q.out.thereW u) (HCZ.out u) (wl_all u) ?_
            simp only [Act.put]
            have h91q : Hid (Gd n w (u90q.setCells u19q.heap.size 0 (wl u))) := h86q.out.asideL (by omega) 0 (wl u)
            have h92q : Hid (Bo (u90q.setCells u19q.heap.size 0 (wl u)) n [.int .i64 o, .int .i64 k, .int .i64 x]) := h87q.out.asideL (by omega) 0 (wl u)
            have h93q : Hid (Bo (u90q.setCells u19q.heap.size 0 (wl u)) u19q.heap.size (wl u)) := h88q.out.setW u
            have h94q : Hid (Bo (u90q.setCells u19q.heap.size 0 (wl u)) u79q.heap.size [.int .i64 0, .int .i64 0]) := h89q.out.asideL (by omega) 0 (wl u)
            clear h86q h87q h88q h89q
            refine hK.out _ _ h92q.out (fun hH => ?_)
            clear hK K
            generalize (u90q.setCells u19q.heap.size 0 (wl u)) = u95q at h91q h92q h93q h94q hH ⊢
            try simp only [Act.put, List.setIfInBounds_toArray, List.set_cons_zero, List.set_cons_succ]
            refine wpAnyH_ready (rs := [13]) (by kernel_rfl) (by simp) ?_
            refine AllReadyH.cons (o := { dst := none, op := .store _ (.tmp 8) (.tmp 27), type := _, pos := _, after := _, guard := _ }) rfl (fun K hK => ?_) AllReadyH.nil
            rw [if_pos (by rfl)]
            refine wp_store_mid _ _ _ rfl u79q.heap.size _ #[.int .i64 (cc), .int .i64 (yy)] rfl rfl h94q.out.there2 HA.out (two_one _ _) ?_
            simp only [Act.put]
            have h96q : Hid (Gd n w (u95q.setCells u79q.heap.size 0 [.int .i64 (cc), .int .i64 (yy)])) := h91q.out.asideL (by omega) 0 [.int .i64 (cc), .int .i64 (yy)]
            have h97q : Hid (Bo (u95q.setCells u79q.heap.size 0 [.int .i64 (cc), .int .i64 (yy)]) n [.int .i64 o, .int .i64 k, .int .i64 x]) := h92q.out.asideL (by omega) 0 [.int .i64 (cc), .int .i64 (yy)]
            have h98q : Hid (Bo (u95q.setCells u79q.heap.size 0 [.int .i64 (cc), .int .i64 (yy)]) u19q.heap.size (wl u)) := h93q.out.asideL (by omega) 0 [.int .i64 (cc), .int .i64 (yy)]
            have h99q : Hid (Bo (u95q.setCells u79q.heap.size 0 [.int .i64 (cc), .int .i64 (yy)]) u79q.heap.size [.int .i64 (cc), .int .i64 (yy)]) := h94q.out.set2 (.int .i64 (cc)) (.int .i64 (yy))
            clear h91q h92q h93q h94q
            refine hK.out _ _ h97q.out (fun hH => ?_)
            clear hK K
            generalize (u95q.setCells u79q.heap.size 0 [.int .i64 (cc), .int .i64 (yy)]) = u100q at h96q h97q h98q h99q hH ⊢
            try simp only [Act.put, List.setIfInBounds_toArray, List.set_cons_zero, List.set_cons_succ]
            refine wpAnyH_take (i := 14) (oi := { dst := some 9, op := .assign (.tmp 28), type := _, pos := _, after := _, guard := _ }) (v := ?_) rfl (by kernel_rfl) (by kernel_rfl) (by kernel_rfl) (fun _ _ _ h => h) (Or.inl ⟨by rfl, ?_⟩) hH ?_
            rotate_left
            · intro w hSw
              clear hSw
              go_simp
              try with_reducible rfl
            simp only [Act.put, List.setIfInBounds_toArray, List.set_cons_zero, List.set_cons_succ]
            refine wpAnyH_done (by kernel_rfl) ?_ _
            go_wp2_with fail
            go_meet
            case rel => exact ⟨u19q.heap.size, u79q.heap.size, cc, yy, rfl, rfl, rfl, h96q, h97q, h99q, WR⟩
          refine AllReadyH.cons (o := { dst := some 8, op := .alloc _, type := _, pos := _, after := _, guard := _ }) rfl (fun K hK => ?_) AllReadyH.nil
          have l101q : n ≤ u78q.heap.size := h75q.out.le
          have l102q : n < u78q.heap.size := h76q.out.lt
          have l103q : u19q.heap.size < u78q.heap.size := h77q.out.lt
          go_simp
          have h104q : Hid (Gd n w (u78q.alloc (.cells #[.int .i64 0, .int .i64 0] 32))) := h75q.out.new (.cells #[.int .i64 0, .int .i64 0] 32)
          have h105q : Hid (Bo (u78q.alloc (.cells #[.int .i64 0, .int .i64 0] 32)) n [.int .i64 o, .int .i64 k, .int .i64 x]) := h76q.out.new (.cells #[.int .i64 0, .int .i64 0] 32)
          have h106q : Hid (Bo (u78q.alloc (.cells #[.int .i64 0, .int .i64 0] 32)) u19q.heap.size (wl wz)) := h77q.out.new (.cells #[.int .i64 0, .int .i64 0] 32)
          clear h75q h76q h77q
          have h107q : Hid (Bo (u78q.alloc (.cells #[.int .i64 0, .int .i64 0] 32)) u78q.heap.size [.int .i64 0, .int .i64 0]) := Bo.born u78q [.int .i64 0, .int .i64 0] 32 (by simp)
          refine hK.out _ _ h105q.out (fun hH => ?_)
          clear hK K
          generalize (u78q.alloc (.cells #[.int .i64 0, .int .i64 0] 32)) = u108q at h104q h105q h106q h107q hH ⊢
          try simp only [Act.put, List.setIfInBounds_toArray, List.set_cons_zero, List.set_cons_succ]
          refine wpAnyH_ready (rs := [5]) (by kernel_rfl) (by simp) ?_
          refine AllReadyH.cons (o := { dst := some 25, op := _, type := _, pos := _, after := _, guard := _ }) rfl (fun K hK => ?_) AllReadyH.nil
          go_simp
          refine (DO.out _).mono ?_
          rintro e u109q ⟨rfl, hb⟩
          have h110q : Hid (Gd n w u109q) := h104q.out.later hb
          have h111q : Hid (Bo u109q n [.int .i64 o, .int .i64 k, .int .i64 x]) := h105q.out.later hb
          have h112q : Hid (Bo u109q u19q.heap.size (wl wz)) := h106q.out.later hb
          have h113q : Hid (Bo u109q u78q.heap.size [.int .i64 0, .int .i64 0]) := h107q.out.later hb
          clear h104q h105q h106q h107q
          clear hb
          go_wp2_with fail
          refine hK.out _ _ h111q.out (fun hH => ?_)
          clear hK K
          try simp only [Act.put, List.setIfInBounds_toArray, List.set_cons_zero, List.set_cons_succ]
          refine wpAnyH_take (i := 6) (oi := { dst := some 19, op := .move (.tmp 25), type := _, pos := _, after := _, guard := _ }) (v := ?_) rfl (by kernel_rfl) (by kernel_rfl) (by kernel_rfl) (fun _ _ _ h => h) (Or.inl ⟨by rfl, ?_⟩) hH ?_
          rotate_left
          · intro w hSw
            clear hSw
            go_simp
            try with_reducible rfl
          simp only [Act.put, List.setIfInBounds_toArray, List.set_cons_zero, List.set_cons_succ]
          refine wpAnyH_take (i := 7) (oi := { dst := some 26, op := .extract (.tmp 19) 0, type := _, pos := _, after := _, guard := _ }) (v := ?_) rfl (by kernel_rfl) (by kernel_rfl) (by kernel_rfl) (fun _ _ _ h => h) (Or.inl ⟨by rfl, ?_⟩) hH ?_
          rotate_left
          · intro w hSw
            clear hSw
            go_simp
            try with_reducible rfl
          simp only [Act.put, List.setIfInBounds_toArray, List.set_cons_zero, List.set_cons_succ]
          refine wpAnyH_take (i := 8) (oi := { dst := some 27, op := .extract (.tmp 19) 1, type := _, pos := _, after := _, guard := _ }) (v := ?_) rfl (by kernel_rfl) (by kernel_rfl) (by kernel_rfl) (fun _ _ _ h => h) (Or.inl ⟨by rfl, ?_⟩) hH ?_
          rotate_left
          · intro w hSw
            clear hSw
            go_simp
            try with_reducible rfl
          simp only [Act.put, List.setIfInBounds_toArray, List.set_cons_zero, List.set_cons_succ]
          refine wpAnyH_take (i := 9) (oi := { dst := some 28, op := .extract (.tmp 19) 2, type := _, pos := _, after := _, guard := _ }) (v := ?_) rfl (by kernel_rfl) (by kernel_rfl) (by kernel_rfl) (fun _ _ _ h => h) (Or.inl ⟨by rfl, ?_⟩) hH ?_
          rotate_left
          · intro w hSw
            clear hSw
            go_simp
            try with_reducible rfl
          simp only [Act.put, List.setIfInBounds_toArray, List.set_cons_zero, List.set_cons_succ]
          refine wpAnyH_ready (rs := [12]) (by kernel_rfl) (by simp) ?_
          refine AllReadyH.cons (o := { dst := none, op := .store _ (.tmp 7) (.tmp 26), type := _, pos := _, after := _, guard := _ }) rfl (fun K hK => ?_) AllReadyH.nil
          rw [if_pos (by rfl)]
          refine wp_store_mid _ _ _ rfl u19q.heap.size _ (wl u).toArray rfl rfl (h112q.out.thereW u) (HCZ.out u) (wl_all u) ?_
          simp only [Act.put]
          have h114q : Hid (Gd n w (u109q.setCells u19q.heap.size 0 (wl u))) := h110q.out.asideL (by omega) 0 (wl u)
          have h115q : Hid (Bo (u109q.setCells u19q.heap.size 0 (wl u)) n [.int .i64 o, .int .i64 k, .int .i64 x]) := h111q.out.asideL (by omega) 0 (wl u)
          have h116q : Hid (Bo (u109q.setCells u19q.heap.size 0 (wl u)) u19q.heap.size (wl u)) := h112q.out.setW u
          have h117q : Hid (Bo (u109q.setCells u19q.heap.size 0 (wl u)) u78q.heap.size [.int .i64 0, .int .i64 0]) := h113q.out.asideL (by omega) 0 (wl u)
          clear h110q h111q h112q h113q
          refine hK.out _ _ h115q.out (fun hH => ?_)
          clear hK K
          generalize (u109q.setCells u19q.heap.size 0 (wl u)) = u118q at h114q h115q h116q h117q hH ⊢
          try simp only [Act.put, List.setIfInBounds_toArray, List.set_cons_zero, List.set_cons_succ]
          refine wpAnyH_ready (rs := [13]) (by kernel_rfl) (by simp) ?_
          refine AllReadyH.cons (o := { dst := none, op := .store _ (.tmp 8) (.tmp 27), type := _, pos := _, after := _, guard := _ }) rfl (fun K hK => ?_) AllReadyH.nil
          rw [if_pos (by rfl)]
          refine wp_store_mid _ _ _ rfl u78q.heap.size _ #[.int .i64 (cc), .int .i64 (yy)] rfl rfl h117q.out.there2 HA.out (two_one _ _) ?_
          simp only [Act.put]
          have h119q : Hid (Gd n w (u118q.setCells u78q.heap.size 0 [.int .i64 (cc), .int .i64 (yy)])) := h114q.out.asideL (by omega) 0 [.int .i64 (cc), .int .i64 (yy)]
          have h120q : Hid (Bo (u118q.setCells u78q.heap.size 0 [.int .i64 (cc), .int .i64 (yy)]) n [.int .i64 o, .int .i64 k, .int .i64 x]) := h115q.out.asideL (by omega) 0 [.int .i64 (cc), .int .i64 (yy)]
          have h121q : Hid (Bo (u118q.setCells u78q.heap.size 0 [.int .i64 (cc), .int .i64 (yy)]) u19q.heap.size (wl u)) := h116q.out.asideL (by omega) 0 [.int .i64 (cc), .int .i64 (yy)]
          have h122q : Hid (Bo (u118q.setCells u78q.heap.size 0 [.int .i64 (cc), .int .i64 (yy)]) u78q.heap.size [.int .i64 (cc), .int .i64 (yy)]) := h117q.out.set2 (.int .i64 (cc)) (.int .i64 (yy))
          clear h114q h115q h116q h117q
          refine hK.out _ _ h120q.out (fun hH => ?_)
          clear hK K
          generalize (u118q.setCells u78q.heap.size 0 [.int .i64 (cc), .int .i64 (yy)]) = u123q at h119q h120q h121q h122q hH ⊢
          try simp only [Act.put, List.setIfInBounds_toArray, List.set_cons_zero, List.set_cons_succ]
          refine wpAnyH_take (i := 14) (oi := { dst := some 9, op := .assign (.tmp 28), type := _, pos := _, after := _, guard := _ }) (v := ?_) rfl (by kernel_rfl) (by kernel_rfl) (by kernel_rfl) (fun _ _ _ h => h) (Or.inl ⟨by rfl, ?_⟩) hH ?_
          rotate_left
          · intro w hSw
            clear hSw
            go_simp
            try with_reducible rfl
          simp only [Act.put, List.setIfInBounds_toArray, List.set_cons_zero, List.set_cons_succ]
          refine wpAnyH_done (by kernel_rfl) ?_ _
          go_wp2_with fail
          go_meet
          case rel => exact ⟨u19q.heap.size, u78q.heap.size, cc, yy, rfl, rfl, rfl, h119q, h120q, h122q, WR⟩
        refine AllReadyH.cons (o := { dst := some 8, op := .alloc _, type := _, pos := _, after := _, guard := _ }) rfl (fun K hK => ?_) AllReadyH.nil
        have l124q : n ≤ u19q.heap.size := h20q.out.le
        have l125q : n < u19q.heap.size := h21q.out.lt
        go_simp
        have h126q : Hid (Gd n w (u19q.alloc (.cells #[.int .i64 0, .int .i64 0] 32))) := h20q.out.new (.cells #[.int .i64 0, .int .i64 0] 32)
        have h127q : Hid (Bo (u19q.alloc (.cells #[.int .i64 0, .int .i64 0] 32)) n [.int .i64 o, .int .i64 k, .int .i64 x]) := h21q.out.new (.cells #[.int .i64 0, .int .i64 0] 32)
        clear h20q h21q
        have h128q : Hid (Bo (u19q.alloc (.cells #[.int .i64 0, .int .i64 0] 32)) u19q.heap.size [.int .i64 0, .int .i64 0]) := Bo.born u19q [.int .i64 0, .int .i64 0] 32 (by simp)
        refine hK.out _ _ h127q.out (fun hH => ?_)
        clear hK K
        generalize (u19q.alloc (.cells #[.int .i64 0, .int .i64 0] 32)) = u129q at h126q h127q h128q hH ⊢
        try simp only [Act.put, List.setIfInBounds_toArray, List.set_cons_zero, List.set_cons_succ]
        refine wpAnyH_ready (rs := [5, 10]) (by kernel_rfl) (by simp) ?_
        refine AllReadyH.cons (o := { dst := some 25, op := _, type := _, pos := _, after := _, guard := _ }) rfl (fun K hK => ?_) ?_
        · go_simp
          refine (DO.out _).mono ?_
          rintro e u130q ⟨rfl, hb⟩
          have h131q : Hid (Gd n w u130q) := h126q.out.later hb
          have h132q : Hid (Bo u130q n [.int .i64 o, .int .i64 k, .int .i64 x]) := h127q.out.later hb
          have h133q : Hid (Bo u130q u19q.heap.size [.int .i64 0, .int .i64 0]) := h128q.out.later hb
          clear h126q h127q h128q
          clear hb
          go_wp2_with fail
          refine hK.out _ _ h132q.out (fun hH => ?_)
          clear hK K
          try simp only [Act.put, List.setIfInBounds_toArray, List.set_cons_zero, List.set_cons_succ]
          refine wpAnyH_take (i := 6) (oi := { dst := some 19, op := .move (.tmp 25), type := _, pos := _, after := _, guard := _ }) (v := ?_) rfl (by kernel_rfl) (by kernel_rfl) (by kernel_rfl) (fun _ _ _ h => h) (Or.inl ⟨by rfl, ?_⟩) hH ?_
          rotate_left
          · intro w hSw
            clear hSw
            go_simp
            try with_reducible rfl
          simp only [Act.put, List.setIfInBounds_toArray, List.set_cons_zero, List.set_cons_succ]
          refine wpAnyH_take (i := 7) (oi := { dst := some 26, op := .extract (.tmp 19) 0, type := _, pos := _, after := _, guard := _ }) (v := ?_) rfl (by kernel_rfl) (by kernel_rfl) (by kernel_rfl) (fun _ _ _ h => h) (Or.inl ⟨by rfl, ?_⟩) hH ?_
          rotate_left
          · intro w hSw
            clear hSw
            go_simp
            try with_reducible rfl
          simp only [Act.put, List.setIfInBounds_toArray, List.set_cons_zero, List.set_cons_succ]
          refine wpAnyH_take (i := 8) (oi := { dst := some 27, op := .extract (.tmp 19) 1, type := _, pos := _, after := _, guard := _ }) (v := ?_) rfl (by kernel_rfl) (by kernel_rfl) (by kernel_rfl) (fun _ _ _ h => h) (Or.inl ⟨by rfl, ?_⟩) hH ?_
          rotate_left
          · intro w hSw
            clear hSw
            go_simp
            try with_reducible rfl
          simp only [Act.put, List.setIfInBounds_toArray, List.set_cons_zero, List.set_cons_succ]
          refine wpAnyH_take (i := 9) (oi := { dst := some 28, op := .extract (.tmp 19) 2, type := _, pos := _, after := _, guard := _ }) (v := ?_) rfl (by kernel_rfl) (by kernel_rfl) (by kernel_rfl) (fun _ _ _ h => h) (Or.inl ⟨by rfl, ?_⟩) hH ?_
          rotate_left
          · intro w hSw
            clear hSw
            go_simp
            try with_reducible rfl
          simp only [Act.put, List.setIfInBounds_toArray, List.set_cons_zero, List.set_cons_succ]
          refine wpAnyH_ready (rs := [10]) (by kernel_rfl) (by simp) ?_
          refine AllReadyH.cons (o := { dst := some 7, op := .alloc _, type := _, pos := _, after := _, guard := _ }) rfl (fun K hK => ?_) AllReadyH.nil
          have l134q : n ≤ u130q.heap.size := h131q.out.le
          have l135q : n < u130q.heap.size := h132q.out.lt
          have l136q : u19q.heap.size < u130q.heap.size := h133q.out.lt
          go_simp
          have h137q : Hid (Gd n w (u130q.alloc (.cells #[.int .u64 0, .int .u64 0, .int .u64 0, .int .u64 0, .int .u64 0, .int .u64 0, .int .u64 0, .int .u64 0, .int .u64 0, .int .u64 0, .int .u64 0, .int .u64 0, .int .u64 0, .int .u64 0, .int .u64 0, .int .u64 0, .int .u64 0] 29))) := h131q.out.new (.cells #[.int .u64 0, .int .u64 0, .int .u64 0, .int .u64 0, .int .u64 0, .int .u64 0, .int .u64 0, .int .u64 0, .int .u64 0, .int .u64 0, .int .u64 0, .int .u64 0, .int .u64 0, .int .u64 0, .int .u64 0, .int .u64 0, .int .u64 0] 29)
          have h138q : Hid (Bo (u130q.alloc (.cells #[.int .u64 0, .int .u64 0, .int .u64 0, .int .u64 0, .int .u64 0, .int .u64 0, .int .u64 0, .int .u64 0, .int .u64 0, .int .u64 0, .int .u64 0, .int .u64 0, .int .u64 0, .int .u64 0, .int .u64 0, .int .u64 0, .int .u64 0] 29)) n [.int .i64 o, .int .i64 k, .int .i64 x]) := h132q.out.new (.cells #[.int .u64 0, .int .u64 0, .int .u64 0, .int .u64 0, .int .u64 0, .int .u64 0, .int .u64 0, .int .u64 0, .int .u64 0, .int .u64 0, .int .u64 0, .int .u64 0, .int .u64 0, .int .u64 0, .int .u64 0, .int .u64 0, .int .u64 0] 29)
          have h139q : Hid (Bo (u130q.alloc (.cells #[.int .u64 0, .int .u64 0, .int .u64 0, .int .u64 0, .int .u64 0, .int .u64 0, .int .u64 0, .int .u64 0, .int .u64 0, .int .u64 0, .int .u64 0, .int .u64 0, .int .u64 0, .int .u64 0, .int .u64 0, .int .u64 0, .int .u64 0] 29)) u19q.heap.size [.int .i64 0, .int .i64 0]) := h133q.out.new (.cells #[.int .u64 0, .int .u64 0, .int .u64 0, .int .u64 0, .int .u64 0, .int .u64 0, .int .u64 0, .int .u64 0, .int .u64 0, .int .u64 0, .int .u64 0, .int .u64 0, .int .u64 0, .int .u64 0, .int .u64 0, .int .u64 0, .int .u64 0] 29)
          clear h131q h132q h133q
          have h140q : Hid (Bo (u130q.alloc (.cells #[.int .u64 0, .int .u64 0, .int .u64 0, .int .u64 0, .int .u64 0, .int .u64 0, .int .u64 0, .int .u64 0, .int .u64 0, .int .u64 0, .int .u64 0, .int .u64 0, .int .u64 0, .int .u64 0, .int .u64 0, .int .u64 0, .int .u64 0] 29)) u130q.heap.size (wl wz)) := Bo.born u130q (wl wz) 29 (by simp)
          refine hK.out _ _ h138q.out (fun hH => ?_)
          clear hK K
          generalize (u130q.alloc (.cells #[.int .u64 0, .int .u64 0, .int .u64 0, .int .u64 0, .int .u64 0, .int .u64 0, .int .u64 0, .int .u64 0, .int .u64 0, .int .u64 0, .int .u64 0, .int .u64 0, .int .u64 0, .int .u64 0, .int .u64 0, .int .u64 0, .int .u64 0] 29)) = u141q at h137q h138q h139q h140q hH ⊢
          try simp only [Act.put, List.setIfInBounds_toArray, List.set_cons_zero, List.set_cons_succ]
          refine wpAnyH_ready (rs := [12]) (by kernel_rfl) (by simp) ?_
          refine AllReadyH.cons (o := { dst := none, op := .store _ (.tmp 7) (.tmp 26), type := _, pos := _, after := _, guard := _ }) rfl (fun K hK => ?_) AllReadyH.nil
          rw [if_pos (by rfl)]
          refine wp_store_mid _ _ _ rfl u130q.heap.size _ (wl u).toArray rfl rfl (h140q.out.thereW u) (HCZ.out u) (wl_all u) ?_
          simp only [Act.put]
          have h142q : Hid (Gd n w (u141q.setCells u130q.heap.size 0 (wl u))) := h137q.out.asideL (by omega) 0 (wl u)
          have h143q : Hid (Bo (u141q.setCells u130q.heap.size 0 (wl u)) n [.int .i64 o, .int .i64 k, .int .i64 x]) := h138q.out.asideL (by omega) 0 (wl u)
          have h144q : Hid (Bo (u141q.setCells u130q.heap.size 0 (wl u)) u19q.heap.size [.int .i64 0, .int .i64 0]) := h139q.out.asideL (by omega) 0 (wl u)
          have h145q : Hid (Bo (u141q.setCells u130q.heap.size 0 (wl u)) u130q.heap.size (wl u)) := h140q.out.setW u
          clear h137q h138q h139q h140q
          refine hK.out _ _ h143q.out (fun hH => ?_)
          clear hK K
          generalize (u141q.setCells u130q.heap.size 0 (wl u)) = u146q at h142q h143q h144q h145q hH ⊢
          try simp only [Act.put, List.setIfInBounds_toArray, List.set_cons_zero, List.set_cons_succ]
          refine wpAnyH_ready (rs := [13]) (by kernel_rfl) (by simp) ?_
          refine AllReadyH.cons (o := { dst := none, op := .store _ (.tmp 8) (.tmp 27), type := _, pos := _, after := _, guard := _ }) rfl (fun K hK => ?_) AllReadyH.nil
          rw [if_pos (by rfl)]
          refine wp_store_mid _ _ _ rfl u19q.heap.size _ #[.int .i64 (cc), .int .i64 (yy)] rfl rfl h144q.out.there2 HA.out (two_one _ _) ?_
          simp only [Act.put]
          have h147q : Hid (Gd n w (u146q.setCells u19q.heap.size 0 [.int .i64 (cc), .int .i64 (yy)])) := h142q.out.asideL (by omega) 0 [.int .i64 (cc), .int .i64 (yy)]
          have h148q : Hid (Bo (u146q.setCells u19q.heap.size 0 [.int .i64 (cc), .int .i64 (yy)]) n [.int .i64 o, .int .i64 k, .int .i64 x]) := h143q.out.asideL (by omega) 0 [.int .i64 (cc), .int .i64 (yy)]
          have h149q : Hid (Bo (u146q.setCells u19q.heap.size 0 [.int .i64 (cc), .int .i64 (yy)]) u19q.heap.size [.int .i64 (cc), .int .i64 (yy)]) := h144q.out.set2 (.int .i64 (cc)) (.int .i64 (yy))
          have h150q : Hid (Bo (u146q.setCells u19q.heap.size 0 [.int .i64 (cc), .int .i64 (yy)]) u130q.heap.size (wl u)) := h145q.out.asideL (by omega) 0 [.int .i64 (cc), .int .i64 (yy)]
          clear h142q h143q h144q h145q
          refine hK.out _ _ h148q.out (fun hH => ?_)
          clear hK K
          generalize (u146q.setCells u19q.heap.size 0 [.int .i64 (cc), .int .i64 (yy)]) = u151q at h147q h148q h149q h150q hH ⊢
          try simp only [Act.put, List.setIfInBounds_toArray, List.set_cons_zero, List.set_cons_succ]
          refine wpAnyH_take (i := 14) (oi := { dst := some 9, op := .assign (.tmp 28), type := _, pos := _, after := _, guard := _ }) (v := ?_) rfl (by kernel_rfl) (by kernel_rfl) (by kernel_rfl) (fun _ _ _ h => h) (Or.inl ⟨by rfl, ?_⟩) hH ?_
          rotate_left
          · intro w hSw
            clear hSw
            go_simp
            try with_reducible rfl
          simp only [Act.put, List.setIfInBounds_toArray, List.set_cons_zero, List.set_cons_succ]
          refine wpAnyH_done (by kernel_rfl) ?_ _
          go_wp2_with fail
          go_meet
          case rel => exact ⟨u130q.heap.size, u19q.heap.size, cc, yy, rfl, rfl, rfl, h147q, h148q, h149q, WR⟩
        refine AllReadyH.cons (o := { dst := some 7, op := .alloc _, type := _, pos := _, after := _, guard := _ }) rfl (fun K hK => ?_) AllReadyH.nil
        have l152q : n ≤ u129q.heap.size := h126q.out.le
        have l153q : n < u129q.heap.size := h127q.out.lt
        have l154q : u19q.heap.size < u129q.heap.size := h128q.out.lt
        go_simp
        have h155q : Hid (Gd n w (u129q.alloc (.cells #[.int .u64 0, .int .u64 0, .int .u64 0, .int .u64 0, .int .u64 0, .int .u64 0, .int .u64 0, .int .u64 0, .int .u64 0, .int .u64 0, .int .u64 0, .int .u64 0, .int .u64 0, .int .u64 0, .int .u64 0, .int .u64 0, .int .u64 0] 29))) := h126q.out.new (.cells #[.int .u64 0, .int .u64 0, .int .u64 0, .int .u64 0, .int .u64 0, .int .u64 0, .int .u64 0, .int .u64 0, .int .u64 0, .int .u64 0, .int .u64 0, .int .u64 0, .int .u64 0, .int .u64 0, .int .u64 0, .int .u64 0, .int .u64 0] 29)
        have h156q : Hid (Bo (u129q.alloc (.cells #[.int .u64 0, .int .u64 0, .int .u64 0, .int .u64 0, .int .u64 0, .int .u64 0, .int .u64 0, .int .u64 0, .int .u64 0, .int .u64 0, .int .u64 0, .int .u64 0, .int .u64 0, .int .u64 0, .int .u64 0, .int .u64 0, .int .u64 0] 29)) n [.int .i64 o, .int .i64 k, .int .i64 x]) := h127q.out.new (.cells #[.int .u64 0, .int .u64 0, .int .u64 0, .int .u64 0, .int .u64 0, .int .u64 0, .int .u64 0, .int .u64 0, .int .u64 0, .int .u64 0, .int .u64 0, .int .u64 0, .int .u64 0, .int .u64 0, .int .u64 0, .int .u64 0, .int .u64 0] 29)
        have h157q : Hid (Bo (u129q.alloc (.cells #[.int .u64 0, .int .u64 0, .int .u64 0, .int .u64 0, .int .u64 0, .int .u64 0, .int .u64 0, .int .u64 0, .int .u64 0, .int .u64 0, .int .u64 0, .int .u64 0, .int .u64 0, .int .u64 0, .int .u64 0, .int .u64 0, .int .u64 0] 29)) u19q.heap.size [.int .i64 0, .int .i64 0]) := h128q.out.new (.cells #[.int .u64 0, .int .u64 0, .int .u64 0, .int .u64 0, .int .u64 0, .int .u64 0, .int .u64 0, .int .u64 0, .int .u64 0, .int .u64 0, .int .u64 0, .int .u64 0, .int .u64 0, .int .u64 0, .int .u64 0, .int .u64 0, .int .u64 0] 29)
        clear h126q h127q h128q
        have h158q : Hid (Bo (u129q.alloc (.cells #[.int .u64 0, .int .u64 0, .int .u64 0, .int .u64 0, .int .u64 0, .int .u64 0, .int .u64 0, .int .u64 0, .int .u64 0, .int .u64 0, .int .u64 0, .int .u64 0, .int .u64 0, .int .u64 0, .int .u64 0, .int .u64 0, .int .u64 0] 29)) u129q.heap.size (wl wz)) := Bo.born u129q (wl wz) 29 (by simp)
        refine hK.out _ _ h156q.out (fun hH => ?_)
        clear hK K
        generalize (u129q.alloc (.cells #[.int .u64 0, .int .u64 0, .int .u64 0, .int .u64 0, .int .u64 0, .int .u64 0, .int .u64 0, .int .u64 0, .int .u64 0, .int .u64 0, .int .u64 0, .int .u64 0, .int .u64 0, .int .u64 0, .int .u64 0, .int .u64 0, .int .u64 0] 29)) = u159q at h155q h156q h157q h158q hH ⊢
        try simp only [Act.put, List.setIfInBounds_toArray, List.set_cons_zero, List.set_cons_succ]
        refine wpAnyH_ready (rs := [5]) (by kernel_rfl) (by simp) ?_
        refine AllReadyH.cons (o := { dst := some 25, op := _, type := _, pos := _, after := _, guard := _ }) rfl (fun K hK => ?_) AllReadyH.nil
        go_simp
        refine (DO.out _).mono ?_
        rintro e u160q ⟨rfl, hb⟩
        have h161q : Hid (Gd n w u160q) := h155q.out.later hb
        have h162q : Hid (Bo u160q n [.int .i64 o, .int .i64 k, .int .i64 x]) := h156q.out.later hb
        have h163q : Hid (Bo u160q u19q.heap.size [.int .i64 0, .int .i64 0]) := h157q.out.later hb
        have h164q : Hid (Bo u160q u129q.heap.size (wl wz)) := h158q.out.later hb
        clear h155q h156q h157q h158q
        clear hb
        go_wp2_with fail
        refine hK.out _ _ h162q.out (fun hH => ?_)
        clear hK K
        try simp only [Act.put, List.setIfInBounds_toArray, List.set_cons_zero, List.set_cons_succ]
        refine wpAnyH_take (i := 6) (oi := { dst := some 19, op := .move (.tmp 25), type := _, pos := _, after := _, guard := _ }) (v := ?_) rfl (by kernel_rfl) (by kernel_rfl) (by kernel_rfl) (fun _ _ _ h => h) (Or.inl ⟨by rfl, ?_⟩) hH ?_
        rotate_left
        · intro w hSw
          clear hSw
          go_simp
          try with_reducible rfl
        simp only [Act.put, List.setIfInBounds_toArray, List.set_cons_zero, List.set_cons_succ]
        refine wpAnyH_take (i := 7) (oi := { dst := some 26, op := .extract (.tmp 19) 0, type := _, pos := _, after := _, guard := _ }) (v := ?_) rfl (by kernel_rfl) (by kernel_rfl) (by kernel_rfl) (fun _ _ _ h => h) (Or.inl ⟨by rfl, ?_⟩) hH ?_
        rotate_left
        · intro w hSw
          clear hSw
          go_simp
          try with_reducible rfl
        simp only [Act.put, List.setIfInBounds_toArray, List.set_cons_zero, List.set_cons_succ]
        refine wpAnyH_take (i := 8) (oi := { dst := some 27, op := .extract (.tmp 19) 1, type := _, pos := _, after := _, guard := _ }) (v := ?_) rfl (by kernel_rfl) (by kernel_rfl) (by kernel_rfl) (fun _ _ _ h => h) (Or.inl ⟨by rfl, ?_⟩) hH ?_
        rotate_left
        · intro w hSw
          clear hSw
          go_simp
          try with_reducible rfl
        simp only [Act.put, List.setIfInBounds_toArray, List.set_cons_zero, List.set_cons_succ]
        refine wpAnyH_take (i := 9) (oi := { dst := some 28, op := .extract (.tmp 19) 2, type := _, pos := _, after := _, guard := _ }) (v := ?_) rfl (by kernel_rfl) (by kernel_rfl) (by kernel_rfl) (fun _ _ _ h => h) (Or.inl ⟨by rfl, ?_⟩) hH ?_
        rotate_left
        · intro w hSw
          clear hSw
          go_simp
          try with_reducible rfl
        simp only [Act.put, List.setIfInBounds_toArray, List.set_cons_zero, List.set_cons_succ]
        refine wpAnyH_ready (rs := [12]) (by kernel_rfl) (by simp) ?_
        refine AllReadyH.cons (o := { dst := none, op := .store _ (.tmp 7) (.tmp 26), type := _, pos := _, after := _, guard := _ }) rfl (fun K hK => ?_) AllReadyH.nil
        rw [if_pos (by rfl)]
        refine wp_store_mid _ _ _ rfl u129q.heap.size _ (wl u).toArray rfl rfl (h164q.out.thereW u) (HCZ.out u) (wl_all u) ?_
        simp only [Act.put]
        have h165q : Hid (Gd n w (u160q.setCells u129q.heap.size 0 (wl u))) := h161q.out.asideL (by omega) 0 (wl u)
        have h166q : Hid (Bo (u160q.setCells u129q.heap.size 0 (wl u)) n [.int .i64 o, .int .i64 k, .int .i64 x]) := h162q.out.asideL (by omega) 0 (wl u)
        have h167q : Hid (Bo (u160q.setCells u129q.heap.size 0 (wl u)) u19q.heap.size [.int .i64 0, .int .i64 0]) := h163q.out.asideL (by omega) 0 (wl u)
        have h168q : Hid (Bo (u160q.setCells u129q.heap.size 0 (wl u)) u129q.heap.size (wl u)) := h164q.out.setW u
        clear h161q h162q h163q h164q
        refine hK.out _ _ h166q.out (fun hH => ?_)
        clear hK K
        generalize (u160q.setCells u129q.heap.size 0 (wl u)) = u169q at h165q h166q h167q h168q hH ⊢
        try simp only [Act.put, List.setIfInBounds_toArray, List.set_cons_zero, List.set_cons_succ]
        refine wpAnyH_ready (rs := [13]) (by kernel_rfl) (by simp) ?_
        refine AllReadyH.cons (o := { dst := none, op := .store _ (.tmp 8) (.tmp 27), type := _, pos := _, after := _, guard := _ }) rfl (fun K hK => ?_) AllReadyH.nil
        rw [if_pos (by rfl)]
        refine wp_store_mid _ _ _ rfl u19q.heap.size _ #[.int .i64 (cc), .int .i64 (yy)] rfl rfl h167q.out.there2 HA.out (two_one _ _) ?_
        simp only [Act.put]
        have h170q : Hid (Gd n w (u169q.setCells u19q.heap.size 0 [.int .i64 (cc), .int .i64 (yy)])) := h165q.out.asideL (by omega) 0 [.int .i64 (cc), .int .i64 (yy)]
        have h171q : Hid (Bo (u169q.setCells u19q.heap.size 0 [.int .i64 (cc), .int .i64 (yy)]) n [.int .i64 o, .int .i64 k, .int .i64 x]) := h166q.out.asideL (by omega) 0 [.int .i64 (cc), .int .i64 (yy)]
        have h172q : Hid (Bo (u169q.setCells u19q.heap.size 0 [.int .i64 (cc), .int .i64 (yy)]) u19q.heap.size [.int .i64 (cc), .int .i64 (yy)]) := h167q.out.set2 (.int .i64 (cc)) (.int .i64 (yy))
        have h173q : Hid (Bo (u169q.setCells u19q.heap.size 0 [.int .i64 (cc), .int .i64 (yy)]) u129q.heap.size (wl u)) := h168q.out.asideL (by omega) 0 [.int .i64 (cc), .int .i64 (yy)]
        clear h165q h166q h167q h168q
        refine hK.out _ _ h171q.out (fun hH => ?_)
        clear hK K
        generalize (u169q.setCells u19q.heap.size 0 [.int .i64 (cc), .int .i64 (yy)]) = u174q at h170q h171q h172q h173q hH ⊢
        try simp only [Act.put, List.setIfInBounds_toArray, List.set_cons_zero, List.set_cons_succ]
        refine wpAnyH_take (i := 14) (oi := { dst := some 9, op := .assign (.tmp 28), type := _, pos := _, after := _, guard := _ }) (v := ?_) rfl (by kernel_rfl) (by kernel_rfl) (by kernel_rfl) (fun _ _ _ h => h) (Or.inl ⟨by rfl, ?_⟩) hH ?_
        rotate_left
        · intro w hSw
          clear hSw
          go_simp
          try with_reducible rfl
        simp only [Act.put, List.setIfInBounds_toArray, List.set_cons_zero, List.set_cons_succ]
        refine wpAnyH_done (by kernel_rfl) ?_ _
        go_wp2_with fail
        go_meet
        case rel => exact ⟨u129q.heap.size, u19q.heap.size, cc, yy, rfl, rfl, rfl, h170q, h171q, h172q, WR⟩
      refine AllReadyH.cons (o := { dst := some 7, op := .alloc _, type := _, pos := _, after := _, guard := _ }) rfl (fun K hK => ?_) ?_
      · have l175q : n ≤ u15q.heap.size := h13q.out.le
        have l176q : n < u15q.heap.size := h14q.out.lt
        go_simp
        have h177q : Hid (Gd n w (u15q.alloc (.cells #[.int .u64 0, .int .u64 0, .int .u64 0, .int .u64 0, .int .u64 0, .int .u64 0, .int .u64 0, .int .u64 0, .int .u64 0, .int .u64 0, .int .u64 0, .int .u64 0, .int .u64 0, .int .u64 0, .int .u64 0, .int .u64 0, .int .u64 0] 29))) := h13q.out.new (.cells #[.int .u64 0, .int .u64 0, .int .u64 0, .int .u64 0, .int .u64 0, .int .u64 0, .int .u64 0, .int .u64 0, .int .u64 0, .int .u64 0, .int .u64 0, .int .u64 0, .int .u64 0, .int .u64 0, .int .u64 0, .int .u64 0, .int .u64 0] 29)
        have h178q : Hid (Bo (u15q.alloc (.cells #[.int .u64 0, .int .u64 0, .int .u64 0, .int .u64 0, .int .u64 0, .int .u64 0, .int .u64 0, .int .u64 0, .int .u64 0, .int .u64 0, .int .u64 0, .int .u64 0, .int .u64 0, .int .u64 0, .int .u64 0, .int .u64 0, .int .u64 0] 29)) n [.int .i64 o, .int .i64 k, .int .i64 x]) := h14q.out.new (.cells #[.int .u64 0, .int .u64 0, .int .u64 0, .int .u64 0, .int .u64 0, .int .u64 0, .int .u64 0, .int .u64 0, .int .u64 0, .int .u64 0, .int .u64 0, .int .u64 0, .int .u64 0, .int .u64 0, .int .u64 0, .int .u64 0, .int .u64 0] 29)
        clear h13q h14q
        have h179q : Hid (Bo (u15q.alloc (.cells #[.int .u64 0, .int .u64 0, .int .u64 0, .int .u64 0, .int .u64 0, .int .u64 0, .int .u64 0, .int .u64 0, .int .u64 0, .int .u64 0, .int .u64 0, .int .u64 0, .int .u64 0, .int .u64 0, .int .u64 0, .int .u64 0, .int .u64 0] 29)) u15q.heap.size (wl wz)) := Bo.born u15q (wl wz) 29 (by simp)
        refine hK.out _ _ h178q.out (fun hH => ?_)
        clear hK K
        generalize (u15q.alloc (.cells #[.int .u64 0, .int .u64 0, .int .u64 0, .int .u64 0, .int .u64 0, .int .u64 0, .int .u64 0, .int .u64 0, .int .u64 0, .int .u64 0, .int .u64 0, .int .u64 0, .int .u64 0, .int .u64 0, .int .u64 0, .int .u64 0, .int .u64 0] 29)) = u180q at h177q h178q h179q hH ⊢
        try simp only [Act.put, List.setIfInBounds_toArray, List.set_cons_zero, List.set_cons_succ]
        refine wpAnyH_ready (rs := [3, 11]) (by kernel_rfl) (by simp) ?_
        refine AllReadyH.cons (o := { dst := some 23, op := _, type := _, pos := _, after := _, guard := _ }) rfl (fun K hK => ?_) ?_
        · go_simp
          refine (made_is (kind := (r : Nat)) (by omega) (by omega) (Ops.later (v := v1) (n := n1) D1.out h177q.out.2)).mono ?_
          rintro e u181q ⟨c, hO, rfl, hb⟩
          have h182q : Hid (Gd n w u181q) := h177q.out.later hb
          have h183q : Hid (Bo u181q n [.int .i64 o, .int .i64 k, .int .i64 x]) := h178q.out.later hb
          have h184q : Hid (Bo u181q u15q.heap.size (wl wz)) := h179q.out.later hb
          clear h177q h178q h179q
          have HO : Hid _ := hO
          clear hO
          obtain ⟨⟨u, cc, yy⟩, hu⟩ : ∃ r9, odo (r : Nat) c o k x = r9 := ⟨_, rfl⟩
          have DO : Hid (∀ w, Calls Try.prog 10 #[.int .i64 (r : Nat), .agg (wl c).toArray, .agg #[.int .i64 o, .int .i64 k, .int .i64 x]] w (DidD w u cc yy)) := fun w => by have := obDo_is HO.out HR.out w; rw [hu] at this; exact this
          have f : OF (r : Nat) c o k x (u, cc, yy) := by have := odo_facts HO.out HR.out.w1 HR.out.w6 HR.out.k0 HR.out.k1 HR.out.v0 HR.out.v1; rw [hu] at this; exact this
          clear hu
          have WR : Hid (cc = 5 ↔ (((o = 3 ∨ o = 4) ∧ ((r : Nat) : Int) ≠ 3) ∨ (((r : Nat) : Int) = 5 ∧ o ≠ 6 ∧ (o = 3 ∨ o = 4 ∨ k = 0)))) := f.wrong
          clear f
          clear hb
          go_wp2_with fail
          refine hK.out _ _ h183q.out (fun hH => ?_)
          clear hK K
          try simp only [Act.put, List.setIfInBounds_toArray, List.set_cons_zero, List.set_cons_succ]
          refine wpAnyH_ready (rs := [5, 11]) (by kernel_rfl) (by simp) ?_
          refine AllReadyH.cons (o := { dst := some 25, op := _, type := _, pos := _, after := _, guard := _ }) rfl (fun K hK => ?_) ?_
          · go_simp
            refine (DO.out _).mono ?_
            rintro e u185q ⟨rfl, hb⟩
            have h186q : Hid (Gd n w u185q) := h182q.out.later hb
            have h187q : Hid (Bo u185q n [.int .i64 o, .int .i64 k, .int .i64 x]) := h183q.out.later hb
            have h188q : Hid (Bo u185q u15q.heap.size (wl wz)) := h184q.out.later hb
            clear h182q h183q h184q
            clear hb
            go_wp2_with fail
            refine hK.out _ _ h187q.out (fun hH => ?_)
            clear hK K
            try simp only [Act.put, List.setIfInBounds_toArray, List.set_cons_zero, List.set_cons_succ]
            refine wpAnyH_take (i := 6) (oi := { dst := some 19, op := .move (.tmp 25), type := _, pos := _, after := _, guard := _ }) (v := ?_) rfl (by kernel_rfl) (by kernel_rfl) (by kernel_rfl) (fun _ _ _ h => h) (Or.inl ⟨by rfl, ?_⟩) hH ?_
            rotate_left
            · intro w hSw
              clear hSw
              go_simp
              try with_reducible rfl
            simp only [Act.put, List.setIfInBounds_toArray, List.set_cons_zero, List.set_cons_succ]
            refine wpAnyH_take (i := 7) (oi := { dst := some 26, op := .extract (.tmp 19) 0, type := _, pos := _, after := _, guard := _ }) (v := ?_) rfl (by kernel_rfl) (by kernel_rfl) (by kernel_rfl) (fun _ _ _ h => h) (Or.inl ⟨by rfl, ?_⟩) hH ?_
            rotate_left
            · intro w hSw
              clear hSw
              go_simp
              try with_reducible rfl
            simp only [Act.put, List.setIfInBounds_toArray, List.set_cons_zero, List.set_cons_succ]
            refine wpAnyH_take (i := 8) (oi := { dst := some 27, op := .extract (.tmp 19) 1, type := _, pos := _, after := _, guard := _ }) (v := ?_) rfl (by kernel_rfl) (by kernel_rfl) (by kernel_rfl) (fun _ _ _ h => h) (Or.inl ⟨by rfl, ?_⟩) hH ?_
            rotate_left
            · intro w hSw
              clear hSw
              go_simp
              try with_reducible rfl
            simp only [Act.put, List.setIfInBounds_toArray, List.set_cons_zero, List.set_cons_succ]
            refine wpAnyH_take (i := 9) (oi := { dst := some 28, op := .extract (.tmp 19) 2, type := _, pos := _, after := _, guard := _ }) (v := ?_) rfl (by kernel_rfl) (by kernel_rfl) (by kernel_rfl) (fun _ _ _ h => h) (Or.inl ⟨by rfl, ?_⟩) hH ?_
            rotate_left
            · intro w hSw
              clear hSw
              go_simp
              try with_reducible rfl
            simp only [Act.put, List.setIfInBounds_toArray, List.set_cons_zero, List.set_cons_succ]
            refine wpAnyH_ready (rs := [11]) (by kernel_rfl) (by simp) ?_
            refine AllReadyH.cons (o := { dst := some 8, op := .alloc _, type := _, pos := _, after := _, guard := _ }) rfl (fun K hK => ?_) AllReadyH.nil
            have l189q : n ≤ u185q.heap.size := h186q.out.le
            have l190q : n < u185q.heap.size := h187q.out.lt
            have l191q : u15q.heap.size < u185q.heap.size := h188q.out.lt
            go_simp
            have h192q : Hid (Gd n w (u185q.alloc (.cells #[.int .i64 0, .int .i64 0] 32))) := h186q.out.new (.cells #[.int .i64 0, .int .i64 0] 32)
            have h193q : Hid (Bo (u185q.alloc (.cells #[.int .i64 0, .int .i64 0] 32)) n [.int .i64 o, .int .i64 k, .int .i64 x]) := h187q.out.new (.cells #[.int .i64 0, .int .i64 0] 32)
            have h194q : Hid (Bo (u185q.alloc (.cells #[.int .i64 0, .int .i64 0] 32)) u15q.heap.size (wl wz)) := h188q.out.new (.cells #[.int .i64 0, .int .i64 0] 32)
            clear h186q h187q h188q
            have h195q : Hid (Bo (u185q.alloc (.cells #[.int .i64 0, .int .i64 0] 32)) u185q.heap.size [.int .i64 0, .int .i64 0]) := Bo.born u185q [.int .i64 0, .int .i64 0] 32 (by simp)
            refine hK.out _ _ h193q.out (fun hH => ?_)
            clear hK K
            generalize (u185q.alloc (.cells #[.int .i64 0, .int .i64 0] 32)) = u196q at h192q h193q h194q h195q hH ⊢
            try simp only [Act.put, List.setIfInBounds_toArray, List.set_cons_zero, List.set_cons_succ]
            refine wpAnyH_ready (rs := [12]) (by kernel_rfl) (by simp) ?_
            refine AllReadyH.cons (o := { dst := none, op := .store _ (.tmp 7) (.tmp 26), type := _, pos := _, after := _, guard := _ }) rfl (fun K hK => ?_) AllReadyH.nil
            rw [if_pos (by rfl)]
            refine wp_store_mid _ _ _ rfl u15q.heap.size _ (wl u).toArray rfl rfl (h194q.out.thereW u) (HCZ.out u) (wl_all u) ?_
            simp only [Act.put]
            have h197q : Hid (Gd n w (u196q.setCells u15q.heap.size 0 (wl u))) := h192q.out.asideL (by omega) 0 (wl u)
            have h198q : Hid (Bo (u196q.setCells u15q.heap.size 0 (wl u)) n [.int .i64 o, .int .i64 k, .int .i64 x]) := h193q.out.asideL (by omega) 0 (wl u)
            have h199q : Hid (Bo (u196q.setCells u15q.heap.size 0 (wl u)) u15q.heap.size (wl u)) := h194q.out.setW u
            have h200q : Hid (Bo (u196q.setCells u15q.heap.size 0 (wl u)) u185q.heap.size [.int .i64 0, .int .i64 0]) := h195q.out.asideL (by omega) 0 (wl u)
            clear h192q h193q h194q h195q
            refine hK.out _ _ h198q.out (fun hH => ?_)
            clear hK K
            generalize (u196q.setCells u15q.heap.size 0 (wl u)) = u201q at h197q h198q h199q h200q hH ⊢
            try simp only [Act.put, List.setIfInBounds_toArray, List.set_cons_zero, List.set_cons_succ]
            refine wpAnyH_ready (rs := [13]) (by kernel_rfl) (by simp) ?_
            refine AllReadyH.cons (o := { dst := none, op := .store _ (.tmp 8) (.tmp 27), type := _, pos := _, after := _, guard := _ }) rfl (fun K hK => ?_) AllReadyH.nil
            rw [if_pos (by rfl)]
            refine wp_store_mid _ _ _ rfl u185q.heap.size _ #[.int .i64 (cc), .int .i64 (yy)] rfl rfl h200q.out.there2 HA.out (two_one _ _) ?_
            simp only [Act.put]
            have h202q : Hid (Gd n w (u201q.setCells u185q.heap.size 0 [.int .i64 (cc), .int .i64 (yy)])) := h197q.out.asideL (by omega) 0 [.int .i64 (cc), .int .i64 (yy)]
            have h203q : Hid (Bo (u201q.setCells u185q.heap.size 0 [.int .i64 (cc), .int .i64 (yy)]) n [.int .i64 o, .int .i64 k, .int .i64 x]) := h198q.out.asideL (by omega) 0 [.int .i64 (cc), .int .i64 (yy)]
            have h204q : Hid (Bo (u201q.setCells u185q.heap.size 0 [.int .i64 (cc), .int .i64 (yy)]) u15q.heap.size (wl u)) := h199q.out.asideL (by omega) 0 [.int .i64 (cc), .int .i64 (yy)]
            have h205q : Hid (Bo (u201q.setCells u185q.heap.size 0 [.int .i64 (cc), .int .i64 (yy)]) u185q.heap.size [.int .i64 (cc), .int .i64 (yy)]) := h200q.out.set2 (.int .i64 (cc)) (.int .i64 (yy))
            clear h197q h198q h199q h200q
            refine hK.out _ _ h203q.out (fun hH => ?_)
            clear hK K
            generalize (u201q.setCells u185q.heap.size 0 [.int .i64 (cc), .int .i64 (yy)]) = u206q at h202q h203q h204q h205q hH ⊢
            try simp only [Act.put, List.setIfInBounds_toArray, List.set_cons_zero, List.set_cons_succ]
            refine wpAnyH_take (i := 14) (oi := { dst := some 9, op := .assign (.tmp 28), type := _, pos := _, after := _, guard := _ }) (v := ?_) rfl (by kernel_rfl) (by kernel_rfl) (by kernel_rfl) (fun _ _ _ h => h) (Or.inl ⟨by rfl, ?_⟩) hH ?_
            rotate_left
            · intro w hSw
              clear hSw
              go_simp
              try with_reducible rfl
            simp only [Act.put, List.setIfInBounds_toArray, List.set_cons_zero, List.set_cons_succ]
            refine wpAnyH_done (by kernel_rfl) ?_ _
            go_wp2_with fail
            go_meet
            case rel => exact ⟨u15q.heap.size, u185q.heap.size, cc, yy, rfl, rfl, rfl, h202q, h203q, h205q, WR⟩
          refine AllReadyH.cons (o := { dst := some 8, op := .alloc _, type := _, pos := _, after := _, guard := _ }) rfl (fun K hK => ?_) AllReadyH.nil
          have l207q : n ≤ u181q.heap.size := h182q.out.le
          have l208q : n < u181q.heap.size := h183q.out.lt
          have l209q : u15q.heap.size < u181q.heap.size := h184q.out.lt
          go_simp
          have h210q : Hid (Gd n w (u181q.alloc (.cells #[.int .i64 0, .int .i64 0] 32))) := h182q.out.new (.cells #[.int .i64 0, .int .i64 0] 32)
          have h211q : Hid (Bo (u181q.alloc (.cells #[.int .i64 0, .int .i64 0] 32)) n [.int .i64 o, .int .i64 k, .int .i64 x]) := h183q.out.new (.cells #[.int .i64 0, .int .i64 0] 32)
          have h212q : Hid (Bo (u181q.alloc (.cells #[.int .i64 0, .int .i64 0] 32)) u15q.heap.size (wl wz)) := h184q.out.new (.cells #[.int .i64 0, .int .i64 0] 32)
          clear h182q h183q h184q
          have h213q : Hid (Bo (u181q.alloc (.cells #[.int .i64 0, .int .i64 0] 32)) u181q.heap.size [.int .i64 0, .int .i64 0]) := Bo.born u181q [.int .i64 0, .int .i64 0] 32 (by simp)
          refine hK.out _ _ h211q.out (fun hH => ?_)
          clear hK K
          generalize (u181q.alloc (.cells #[.int .i64 0, .int .i64 0] 32)) = u214q at h210q h211q h212q h213q hH ⊢
          try simp only [Act.put, List.setIfInBounds_toArray, List.set_cons_zero, List.set_cons_succ]
          refine wpAnyH_ready (rs := [5]) (by kernel_rfl) (by simp) ?_
          refine AllReadyH.cons (o := { dst := some 25, op := _, type := _, pos := _, after := _, guard := _ }) rfl (fun K hK => ?_) AllReadyH.nil
          go_simp
          refine (DO.out _).mono ?_
          rintro e u215q ⟨rfl, hb⟩
          have h216q : Hid (Gd n w u215q) := h210q.out.later hb
          have h217q : Hid (Bo u215q n [.int .i64 o, .int .i64 k, .int .i64 x]) := h211q.out.later hb
          have h218q : Hid (Bo u215q u15q.heap.size (wl wz)) := h212q.out.later hb
          have h219q : Hid (Bo u215q u181q.heap.size [.int .i64 0, .int .i64 0]) := h213q.out.later hb
          clear h210q h211q h212q h213q
          clear hb
          go_wp2_with fail
          refine hK.out _ _ h217q.out (fun hH => ?_)
          clear hK K
          try simp only [Act.put, List.setIfInBounds_toArray, List.set_cons_zero, List.set_cons_succ]
          refine wpAnyH_take (i := 6) (oi := { dst := some 19, op := .move (.tmp 25), type := _, pos := _, after := _, guard := _ }) (v := ?_) rfl (by kernel_rfl) (by kernel_rfl) (by kernel_rfl) (fun _ _ _ h => h) (Or.inl ⟨by rfl, ?_⟩) hH ?_
          rotate_left
          · intro w hSw
            clear hSw
            go_simp
            try with_reducible rfl
          simp only [Act.put, List.setIfInBounds_toArray, List.set_cons_zero, List.set_cons_succ]
          refine wpAnyH_take (i := 7) (oi := { dst := some 26, op := .extract (.tmp 19) 0, type := _, pos := _, after := _, guard := _ }) (v := ?_) rfl (by kernel_rfl) (by kernel_rfl) (by kernel_rfl) (fun _ _ _ h => h) (Or.inl ⟨by rfl, ?_⟩) hH ?_
          rotate_left
          · intro w hSw
            clear hSw
            go_simp
            try with_reducible rfl
          simp only [Act.put, List.setIfInBounds_toArray, List.set_cons_zero, List.set_cons_succ]
          refine wpAnyH_take (i := 8) (oi := { dst := some 27, op := .extract (.tmp 19) 1, type := _, pos := _, after := _, guard := _ }) (v := ?_) rfl (by kernel_rfl) (by kernel_rfl) (by kernel_rfl) (fun _ _ _ h => h) (Or.inl ⟨by rfl, ?_⟩) hH ?_
          rotate_left
          · intro w hSw
            clear hSw
            go_simp
            try with_reducible rfl
          simp only [Act.put, List.setIfInBounds_toArray, List.set_cons_zero, List.set_cons_succ]
          refine wpAnyH_take (i := 9) (oi := { dst := some 28, op := .extract (.tmp 19) 2, type := _, pos := _, after := _, guard := _ }) (v := ?_) rfl (by kernel_rfl) (by kernel_rfl) (by kernel_rfl) (fun _ _ _ h => h) (Or.inl ⟨by rfl, ?_⟩) hH ?_
          rotate_left
          · intro w hSw
            clear hSw
            go_simp
            try with_reducible rfl
          simp only [Act.put, List.setIfInBounds_toArray, List.set_cons_zero, List.set_cons_succ]
          refine wpAnyH_ready (rs := [12]) (by kernel_rfl) (by simp) ?_
          refine AllReadyH.cons (o := { dst := none, op := .store _ (.tmp 7) (.tmp 26), type := _, pos := _, after := _, guard := _ }) rfl (fun K hK => ?_) AllReadyH.nil
          rw [if_pos (by rfl)]
          refine wp_store_mid _ _ _ rfl u15q.heap.size _ (wl u).toArray rfl rfl (h218q.out.thereW u) (HCZ.out u) (wl_all u) ?_
          simp only [Act.put]
          have h220q : Hid (Gd n w (u215q.setCells u15q.heap.size 0 (wl u))) := h216q.out.asideL (by omega) 0 (wl u)
          have h221q : Hid (Bo (u215q.setCells u15q.heap.size 0 (wl u)) n [.int .i64 o, .int .i64 k, .int .i64 x]) := h217q.out.asideL (by omega) 0 (wl u)
          have h222q : Hid (Bo (u215q.setCells u15q.heap.size 0 (wl u)) u15q.heap.size (wl u)) := h218q.out.setW u
          have h223q : Hid (Bo (u215q.setCells u15q.heap.size 0 (wl u)) u181q.heap.size [.int .i64 0, .int .i64 0]) := h219q.out.asideL (by omega) 0 (wl u)
          clear h216q h217q h218q h219q
          refine hK.out _ _ h221q.out (fun hH => ?_)
          clear hK K
          generalize (u215q.setCells u15q.heap.size 0 (wl u)) = u224q at h220q h221q h222q h223q hH ⊢
          try simp only [Act.put, List.setIfInBounds_toArray, List.set_cons_zero, List.set_cons_succ]
          refine wpAnyH_ready (rs := [13]) (by kernel_rfl) (by simp) ?_
          refine AllReadyH.cons (o := { dst := none, op := .store _ (.tmp 8) (.tmp 27), type := _, pos := _, after := _, guard := _ }) rfl (fun K hK => ?_) AllReadyH.nil
          rw [if_pos (by rfl)]
          refine wp_store_mid _ _ _ rfl u181q.heap.size _ #[.int .i64 (cc), .int .i64 (yy)] rfl rfl h223q.out.there2 HA.out (two_one _ _) ?_
          simp only [Act.put]
          have h225q : Hid (Gd n w (u224q.setCells u181q.heap.size 0 [.int .i64 (cc), .int .i64 (yy)])) := h220q.out.asideL (by omega) 0 [.int .i64 (cc), .int .i64 (yy)]
          have h226q : Hid (Bo (u224q.setCells u181q.heap.size 0 [.int .i64 (cc), .int .i64 (yy)]) n [.int .i64 o, .int .i64 k, .int .i64 x]) := h221q.out.asideL (by omega) 0 [.int .i64 (cc), .int .i64 (yy)]
          have h227q : Hid (Bo (u224q.setCells u181q.heap.size 0 [.int .i64 (cc), .int .i64 (yy)]) u15q.heap.size (wl u)) := h222q.out.asideL (by omega) 0 [.int .i64 (cc), .int .i64 (yy)]
          have h228q : Hid (Bo (u224q.setCells u181q.heap.size 0 [.int .i64 (cc), .int .i64 (yy)]) u181q.heap.size [.int .i64 (cc), .int .i64 (yy)]) := h223q.out.set2 (.int .i64 (cc)) (.int .i64 (yy))
          clear h220q h221q h222q h223q
          refine hK.out _ _ h226q.out (fun hH => ?_)
          clear hK K
          generalize (u224q.setCells u181q.heap.size 0 [.int .i64 (cc), .int .i64 (yy)]) = u229q at h225q h226q h227q h228q hH ⊢
          try simp only [Act.put, List.setIfInBounds_toArray, List.set_cons_zero, List.set_cons_succ]
          refine wpAnyH_take (i := 14) (oi := { dst := some 9, op := .assign (.tmp 28), type := _, pos := _, after := _, guard := _ }) (v := ?_) rfl (by kernel_rfl) (by kernel_rfl) (by kernel_rfl) (fun _ _ _ h => h) (Or.inl ⟨by rfl, ?_⟩) hH ?_
          rotate_left
          · intro w hSw
            clear hSw
            go_simp
            try with_reducible rfl
          simp only [Act.put, List.setIfInBounds_toArray, List.set_cons_zero, List.set_cons_succ]
          refine wpAnyH_done (by kernel_rfl) ?_ _
          go_wp2_with fail
          go_meet
          case rel => exact ⟨u15q.heap.size, u181q.heap.size, cc, yy, rfl, rfl, rfl, h225q, h226q, h228q, WR⟩
        refine AllReadyH.cons (o := { dst := some 8, op := .alloc _, type := _, pos := _, after := _, guard := _ }) rfl (fun K hK => ?_) AllReadyH.nil
        have l230q : n ≤ u180q.heap.size := h177q.out.le
        have l231q : n < u180q.heap.size := h178q.out.lt
        have l232q : u15q.heap.size < u180q.heap.size := h179q.out.lt
        go_simp
        have h233q : Hid (Gd n w (u180q.alloc (.cells #[.int .i64 0, .int .i64 0] 32))) := h177q.out.new (.cells #[.int .i64 0, .int .i64 0] 32)
        have h234q : Hid (Bo (u180q.alloc (.cells #[.int .i64 0, .int .i64 0] 32)) n [.int .i64 o, .int .i64 k, .int .i64 x]) := h178q.out.new (.cells #[.int .i64 0, .int .i64 0] 32)
        have h235q : Hid (Bo (u180q.alloc (.cells #[.int .i64 0, .int .i64 0] 32)) u15q.heap.size (wl wz)) := h179q.out.new (.cells #[.int .i64 0, .int .i64 0] 32)
        clear h177q h178q h179q
        have h236q : Hid (Bo (u180q.alloc (.cells #[.int .i64 0, .int .i64 0] 32)) u180q.heap.size [.int .i64 0, .int .i64 0]) := Bo.born u180q [.int .i64 0, .int .i64 0] 32 (by simp)
        refine hK.out _ _ h234q.out (fun hH => ?_)
        clear hK K
        generalize (u180q.alloc (.cells #[.int .i64 0, .int .i64 0] 32)) = u237q at h233q h234q h235q h236q hH ⊢
        try simp only [Act.put, List.setIfInBounds_toArray, List.set_cons_zero, List.set_cons_succ]
        refine wpAnyH_ready (rs := [3]) (by kernel_rfl) (by simp) ?_
        refine AllReadyH.cons (o := { dst := some 23, op := _, type := _, pos := _, after := _, guard := _ }) rfl (fun K hK => ?_) AllReadyH.nil
        go_simp
        refine (made_is (kind := (r : Nat)) (by omega) (by omega) (Ops.later (v := v1) (n := n1) D1.out h233q.out.2)).mono ?_
        rintro e u238q ⟨c, hO, rfl, hb⟩
        have h239q : Hid (Gd n w u238q) := h233q.out.later hb
        have h240q : Hid (Bo u238q n [.int .i64 o, .int .i64 k, .int .i64 x]) := h234q.out.later hb
        have h241q : Hid (Bo u238q u15q.heap.size (wl wz)) := h235q.out.later hb
        have h242q : Hid (Bo u238q u180q.heap.size [.int .i64 0, .int .i64 0]) := h236q.out.later hb
        clear h233q h234q h235q h236q
        have HO : Hid _ := hO
        clear hO
        obtain ⟨⟨u, cc, yy⟩, hu⟩ : ∃ r9, odo (r : Nat) c o k x = r9 := ⟨_, rfl⟩
        have DO : Hid (∀ w, Calls Try.prog 10 #[.int .i64 (r : Nat), .agg (wl c).toArray, .agg #[.int .i64 o, .int .i64 k, .int .i64 x]] w (DidD w u cc yy)) := fun w => by have := obDo_is HO.out HR.out w; rw [hu] at this; exact this
        have f : OF (r : Nat) c o k x (u, cc, yy) := by have := odo_facts HO.out HR.out.w1 HR.out.w6 HR.out.k0 HR.out.k1 HR.out.v0 HR.out.v1; rw [hu] at this; exact this
        clear hu
        have WR : Hid (cc = 5 ↔ (((o = 3 ∨ o = 4) ∧ ((r : Nat) : Int) ≠ 3) ∨ (((r : Nat) : Int) = 5 ∧ o ≠ 6 ∧ (o = 3 ∨ o = 4 ∨ k = 0)))) := f.wrong
        clear f
        clear hb
        go_wp2_with fail
        refine hK.out _ _ h240q.out (fun hH => ?_)
        clear hK K
        try simp only [Act.put, List.setIfInBounds_toArray, List.set_cons_zero, List.set_cons_succ]
        refine wpAnyH_ready (rs := [5]) (by kernel_rfl) (by simp) ?_
        refine AllReadyH.cons (o := { dst := some 25, op := _, type := _, pos := _, after := _, guard := _ }) rfl (fun K hK => ?_) AllReadyH.nil
        go_simp
        refine (DO.out _).mono ?_
        rintro e u243q ⟨rfl, hb⟩
        have h244q : Hid (Gd n w u243q) := h239q.out.later hb
        have h245q : Hid (Bo u243q n [.int .i64 o, .int .i64 k, .int .i64 x]) := h240q.out.later hb
        have h246q : Hid (Bo u243q u15q.heap.size (wl wz)) := h241q.out.later hb
        have h247q : Hid (Bo u243q u180q.heap.size [.int .i64 0, .int .i64 0]) := h242q.out.later hb
        clear h239q h240q h241q h242q
        clear hb
        go_wp2_with fail
        refine hK.out _ _ h245q.out (fun hH => ?_)
        clear hK K
        try simp only [Act.put, List.setIfInBounds_toArray, List.set_cons_zero, List.set_cons_succ]
        refine wpAnyH_take (i := 6) (oi := { dst := some 19, op := .move (.tmp 25), type := _, pos := _, after := _, guard := _ }) (v := ?_) rfl (by kernel_rfl) (by kernel_rfl) (by kernel_rfl) (fun _ _ _ h => h) (Or.inl ⟨by rfl, ?_⟩) hH ?_
        rotate_left
        · intro w hSw
          clear hSw
          go_simp
          try with_reducible rfl
        simp only [Act.put, List.setIfInBounds_toArray, List.set_cons_zero, List.set_cons_succ]
        refine wpAnyH_take (i := 7) (oi := { dst := some 26, op := .extract (.tmp 19) 0, type := _, pos := _, after := _, guard := _ }) (v := ?_) rfl (by kernel_rfl) (by kernel_rfl) (by kernel_rfl) (fun _ _ _ h => h) (Or.inl ⟨by rfl, ?_⟩) hH ?_
        rotate_left
        · intro w hSw
          clear hSw
          go_simp
          try with_reducible rfl
        simp only [Act.put, List.setIfInBounds_toArray, List.set_cons_zero, List.set_cons_succ]
        refine wpAnyH_take (i := 8) (oi := { dst := some 27, op := .extract (.tmp 19) 1, type := _, pos := _, after := _, guard := _ }) (v := ?_) rfl (by kernel_rfl) (by kernel_rfl) (by kernel_rfl) (fun _ _ _ h => h) (Or.inl ⟨by rfl, ?_⟩) hH ?_
        rotate_left
        · intro w hSw
          clear hSw
          go_simp
          try with_reducible rfl
        simp only [Act.put, List.setIfInBounds_toArray, List.set_cons_zero, List.set_cons_succ]
        refine wpAnyH_take (i := 9) (oi := { dst := some 28, op := .extract (.tmp 19) 2, type := _, pos := _, after := _, guard := _ }) (v := ?_) rfl (by kernel_rfl) (by kernel_rfl) (by kernel_rfl) (fun _ _ _ h => h) (Or.inl ⟨by rfl, ?_⟩) hH ?_
        rotate_left
        · intro w hSw
          clear hSw
          go_simp
          try with_reducible rfl
        simp only [Act.put, List.setIfInBounds_toArray, List.set_cons_zero, List.set_cons_succ]
        refine wpAnyH_ready (rs := [12]) (by kernel_rfl) (by simp) ?_
        refine AllReadyH.cons (o := { dst := none, op := .store _ (.tmp 7) (.tmp 26), type := _, pos := _, after := _, guard := _ }) rfl (fun K hK => ?_) AllReadyH.nil
        rw [if_pos (by rfl)]
        refine wp_store_mid _ _ _ rfl u15q.heap.size _ (wl u).toArray rfl rfl (h246q.out.thereW u) (HCZ.out u) (wl_all u) ?_
        simp only [Act.put]
        have h248q : Hid (Gd n w (u243q.setCells u15q.heap.size 0 (wl u))) := h244q.out.asideL (by omega) 0 (wl u)
        have h249q : Hid (Bo (u243q.setCells u15q.heap.size 0 (wl u)) n [.int .i64 o, .int .i64 k, .int .i64 x]) := h245q.out.asideL (by omega) 0 (wl u)
        have h250q : Hid (Bo (u243q.setCells u15q.heap.size 0 (wl u)) u15q.heap.size (wl u)) := h246q.out.setW u
        have h251q : Hid (Bo (u243q.setCells u15q.heap.size 0 (wl u)) u180q.heap.size [.int .i64 0, .int .i64 0]) := h247q.out.asideL (by omega) 0 (wl u)
        clear h244q h245q h246q h247q
        refine hK.out _ _ h249q.out (fun hH => ?_)
        clear hK K
        generalize (u243q.setCells u15q.heap.size 0 (wl u)) = u252q at h248q h249q h250q h251q hH ⊢
        try simp only [Act.put, List.setIfInBounds_toArray, List.set_cons_zero, List.set_cons_succ]
        refine wpAnyH_ready (rs := [13]) (by kernel_rfl) (by simp) ?_
        refine AllReadyH.cons (o := { dst := none, op := .store _ (.tmp 8) (.tmp 27), type := _, pos := _, after := _, guard := _ }) rfl (fun K hK => ?_) AllReadyH.nil
        rw [if_pos (by rfl)]
        refine wp_store_mid _ _ _ rfl u180q.heap.size _ #[.int .i64 (cc), .int .i64 (yy)] rfl rfl h251q.out.there2 HA.out (two_one _ _) ?_
        simp only [Act.put]
        have h253q : Hid (Gd n w (u252q.setCells u180q.heap.size 0 [.int .i64 (cc), .int .i64 (yy)])) := h248q.out.asideL (by omega) 0 [.int .i64 (cc), .int .i64 (yy)]
        have h254q : Hid (Bo (u252q.setCells u180q.heap.size 0 [.int .i64 (cc), .int .i64 (yy)]) n [.int .i64 o, .int .i64 k, .int .i64 x]) := h249q.out.asideL (by omega) 0 [.int .i64 (cc), .int .i64 (yy)]
        have h255q : Hid (Bo (u252q.setCells u180q.heap.size 0 [.int .i64 (cc), .int .i64 (yy)]) u15q.heap.size (wl u)) := h250q.out.asideL (by omega) 0 [.int .i64 (cc), .int .i64 (yy)]
        have h256q : Hid (Bo (u252q.setCells u180q.heap.size 0 [.int .i64 (cc), .int .i64 (yy)]) u180q.heap.size [.int .i64 (cc), .int .i64 (yy)]) := h251q.out.set2 (.int .i64 (cc)) (.int .i64 (yy))
        clear h248q h249q h250q h251q
        refine hK.out _ _ h254q.out (fun hH => ?_)
        clear hK K
        generalize (u252q.setCells u180q.heap.size 0 [.int .i64 (cc), .int .i64 (yy)]) = u257q at h253q h254q h255q h256q hH ⊢
        try simp only [Act.put, List.setIfInBounds_toArray, List.set_cons_zero, List.set_cons_succ]
        refine wpAnyH_take (i := 14) (oi := { dst := some 9, op := .assign (.tmp 28), type := _, pos := _, after := _, guard := _ }) (v := ?_) rfl (by kernel_rfl) (by kernel_rfl) (by kernel_rfl) (fun _ _ _ h => h) (Or.inl ⟨by rfl, ?_⟩) hH ?_
        rotate_left
        · intro w hSw
          clear hSw
          go_simp
          try with_reducible rfl
        simp only [Act.put, List.setIfInBounds_toArray, List.set_cons_zero, List.set_cons_succ]
        refine wpAnyH_done (by kernel_rfl) ?_ _
        go_wp2_with fail
        go_meet
        case rel => exact ⟨u15q.heap.size, u180q.heap.size, cc, yy, rfl, rfl, rfl, h253q, h254q, h256q, WR⟩
      refine AllReadyH.cons (o := { dst := some 8, op := .alloc _, type := _, pos := _, after := _, guard := _ }) rfl (fun K hK => ?_) AllReadyH.nil
      have l258q : n ≤ u15q.heap.size := h13q.out.le
      have l259q : n < u15q.heap.size := h14q.out.lt
      go_simp
      have h260q : Hid (Gd n w (u15q.alloc (.cells #[.int .i64 0, .int .i64 0] 32))) := h13q.out.new (.cells #[.int .i64 0, .int .i64 0] 32)
      have h261q : Hid (Bo (u15q.alloc (.cells #[.int .i64 0, .int .i64 0] 32)) n [.int .i64 o, .int .i64 k, .int .i64 x]) := h14q.out.new (.cells #[.int .i64 0, .int .i64 0] 32)
      clear h13q h14q
      have h262q : Hid (Bo (u15q.alloc (.cells #[.int .i64 0, .int .i64 0] 32)) u15q.heap.size [.int .i64 0, .int .i64 0]) := Bo.born u15q [.int .i64 0, .int .i64 0] 32 (by simp)
      refine hK.out _ _ h261q.out (fun hH => ?_)
      clear hK K
      generalize (u15q.alloc (.cells #[.int .i64 0, .int .i64 0] 32)) = u263q at h260q h261q h262q hH ⊢
      try simp only [Act.put, List.setIfInBounds_toArray, List.set_cons_zero, List.set_cons_succ]
      refine wpAnyH_ready (rs := [3, 10]) (by kernel_rfl) (by simp) ?_
      refine AllReadyH.cons (o := { dst := some 23, op := _, type := _, pos := _, after := _, guard := _ }) rfl (fun K hK => ?_) ?_
      · go_simp
        refine (made_is (kind := (r : Nat)) (by omega) (by omega) (Ops.later (v := v1) (n := n1) D1.out h260q.out.2)).mono ?_
        rintro e u264q ⟨c, hO, rfl, hb⟩
        have h265q : Hid (Gd n w u264q) := h260q.out.later hb
        have h266q : Hid (Bo u264q n [.int .i64 o, .int .i64 k, .int .i64 x]) := h261q.out.later hb
        have h267q : Hid (Bo u264q u15q.heap.size [.int .i64 0, .int .i64 0]) := h262q.out.later hb
        clear h260q h261q h262q
        have HO : Hid _ := hO
        clear hO
        obtain ⟨⟨u, cc, yy⟩, hu⟩ : ∃ r9, odo (r : Nat) c o k x = r9 := ⟨_, rfl⟩
        have DO : Hid (∀ w, Calls Try.prog 10 #[.int .i64 (r : Nat), .agg (wl c).toArray, .agg #[.int .i64 o, .int .i64 k, .int .i64 x]] w (DidD w u cc yy)) := fun w => by have := obDo_is HO.out HR.out w; rw [hu] at this; exact this
        have f : OF (r : Nat) c o k x (u, cc, yy) := by have := odo_facts HO.out HR.out.w1 HR.out.w6 HR.out.k0 HR.out.k1 HR.out.v0 HR.out.v1; rw [hu] at this; exact this
        clear hu
        have WR : Hid (cc = 5 ↔ (((o = 3 ∨ o = 4) ∧ ((r : Nat) : Int) ≠ 3) ∨ (((r : Nat) : Int) = 5 ∧ o ≠ 6 ∧ (o = 3 ∨ o = 4 ∨ k = 0)))) := f.wrong
        clear f
        clear hb
        go_wp2_with fail
        refine hK.out _ _ h266q.out (fun hH => ?_)
        clear hK K
        try simp only [Act.put, List.setIfInBounds_toArray, List.set_cons_zero, List.set_cons_succ]
        refine wpAnyH_ready (rs := [5, 10]) (by kernel_rfl) (by simp) ?_
        refine AllReadyH.cons (o := { dst := some 25, op := _, type := _, pos := _, after := _, guard := _ }) rfl (fun K hK => ?_) ?_
        · go_simp
          refine (DO.out _).mono ?_
          rintro e u268q ⟨rfl, hb⟩
          have h269q : Hid (Gd n w u268q) := h265q.out.later hb
          have h270q : Hid (Bo u268q n [.int .i64 o, .int .i64 k, .int .i64 x]) := h266q.out.later hb
          have h271q : Hid (Bo u268q u15q.heap.size [.int .i64 0, .int .i64 0]) := h267q.out.later hb
          clear h265q h266q h267q
          clear hb
          go_wp2_with fail
          refine hK.out _ _ h270q.out (fun hH => ?_)
          clear hK K
          try simp only [Act.put, List.setIfInBounds_toArray, List.set_cons_zero, List.set_cons_succ]
          refine wpAnyH_take (i := 6) (oi := { dst := some 19, op := .move (.tmp 25), type := _, pos := _, after := _, guard := _ }) (v := ?_) rfl (by kernel_rfl) (by kernel_rfl) (by kernel_rfl) (fun _ _ _ h => h) (Or.inl ⟨by rfl, ?_⟩) hH ?_
          rotate_left
          · intro w hSw
            clear hSw
            go_simp
            try with_reducible rfl
          simp only [Act.put, List.setIfInBounds_toArray, List.set_cons_zero, List.set_cons_succ]
          refine wpAnyH_take (i := 7) (oi := { dst := some 26, op := .extract (.tmp 19) 0, type := _, pos := _, after := _, guard := _ }) (v := ?_) rfl (by kernel_rfl) (by kernel_rfl) (by kernel_rfl) (fun _ _ _ h => h) (Or.inl ⟨by rfl, ?_⟩) hH ?_
          rotate_left
          · intro w hSw
            clear hSw
            go_simp
            try with_reducible rfl
          simp only [Act.put, List.setIfInBounds_toArray, List.set_cons_zero, List.set_cons_succ]
          refine wpAnyH_take (i := 8) (oi := { dst := some 27, op := .extract (.tmp 19) 1, type := _, pos := _, after := _, guard := _ }) (v := ?_) rfl (by kernel_rfl) (by kernel_rfl) (by kernel_rfl) (fun _ _ _ h => h) (Or.inl ⟨by rfl, ?_⟩) hH ?_
          rotate_left
          · intro w hSw
            clear hSw
            go_simp
            try with_reducible rfl
          simp only [Act.put, List.setIfInBounds_toArray, List.set_cons_zero, List.set_cons_succ]
          refine wpAnyH_take (i := 9) (oi := { dst := some 28, op := .extract (.tmp 19) 2, type := _, pos := _, after := _, guard := _ }) (v := ?_) rfl (by kernel_rfl) (by kernel_rfl) (by kernel_rfl) (fun _ _ _ h => h) (Or.inl ⟨by rfl, ?_⟩) hH ?_
          rotate_left
          · intro w hSw
            clear hSw
            go_simp
            try with_reducible rfl
          simp only [Act.put, List.setIfInBounds_toArray, List.set_cons_zero, List.set_cons_succ]
          refine wpAnyH_ready (rs := [10]) (by kernel_rfl) (by simp) ?_
          refine AllReadyH.cons (o := { dst := some 7, op := .alloc _, type := _, pos := _, after := _, guard := _ }) rfl (fun K hK => ?_) AllReadyH.nil
          have l272q : n ≤ u268q.heap.size := h269q.out.le
          have l273q : n < u268q.heap.size := h270q.out.lt
          have l274q : u15q.heap.size < u268q.heap.size := h271q.out.lt
          go_simp
          have h275q : Hid (Gd n w (u268q.alloc (.cells #[.int .u64 0, .int .u64 0, .int .u64 0, .int .u64 0, .int .u64 0, .int .u64 0, .int .u64 0, .int .u64 0, .int .u64 0, .int .u64 0, .int .u64 0, .int .u64 0, .int .u64 0, .int .u64 0, .int .u64 0, .int .u64 0, .int .u64 0] 29))) := h269q.out.new (.cells #[.int .u64 0, .int .u64 0, .int .u64 0, .int .u64 0, .int .u64 0, .int .u64 0, .int .u64 0, .int .u64 0, .int .u64 0, .int .u64 0, .int .u64 0, .int .u64 0, .int .u64 0, .int .u64 0, .int .u64 0, .int .u64 0, .int .u64 0] 29)
          have h276q : Hid (Bo (u268q.alloc (.cells #[.int .u64 0, .int .u64 0, .int .u64 0, .int .u64 0, .int .u64 0, .int .u64 0, .int .u64 0, .int .u64 0, .int .u64 0, .int .u64 0, .int .u64 0, .int .u64 0, .int .u64 0, .int .u64 0, .int .u64 0, .int .u64 0, .int .u64 0] 29)) n [.int .i64 o, .int .i64 k, .int .i64 x]) := h270q.out.new (.cells #[.int .u64 0, .int .u64 0, .int .u64 0, .int .u64 0, .int .u64 0, .int .u64 0, .int .u64 0, .int .u64 0, .int .u64 0, .int .u64 0, .int .u64 0, .int .u64 0, .int .u64 0, .int .u64 0, .int .u64 0, .int .u64 0, .int .u64 0] 29)
          have h277q : Hid (Bo (u268q.alloc (.cells #[.int .u64 0, .int .u64 0, .int .u64 0, .int .u64 0, .int .u64 0, .int .u64 0, .int .u64 0, .int .u64 0, .int .u64 0, .int .u64 0, .int .u64 0, .int .u64 0, .int .u64 0, .int .u64 0, .int .u64 0, .int .u64 0, .int .u64 0] 29)) u15q.heap.size [.int .i64 0, .int .i64 0]) := h271q.out.new (.cells #[.int .u64 0, .int .u64 0, .int .u64 0, .int .u64 0, .int .u64 0, .int .u64 0, .int .u64 0, .int .u64 0, .int .u64 0, .int .u64 0, .int .u64 0, .int .u64 0, .int .u64 0, .int .u64 0, .int .u64 0, .int .u64 0, .int .u64 0] 29)
          clear h269q h270q h271q
          have h278q : Hid (Bo (u268q.alloc (.cells #[.int .u64 0, .int .u64 0, .int .u64 0, .int .u64 0, .int .u64 0, .int .u64 0, .int .u64 0, .int .u64 0, .int .u64 0, .int .u64 0, .int .u64 0, .int .u64 0, .int .u64 0, .int .u64 0, .int .u64 0, .int .u64 0, .int .u64 0] 29)) u268q.heap.size (wl wz)) := Bo.born u268q (wl wz) 29 (by simp)
          refine hK.out _ _ h276q.out (fun hH => ?_)
          clear hK K
          generalize (u268q.alloc (.cells #[.int .u64 0, .int .u64 0, .int .u64 0, .int .u64 0, .int .u64 0, .int .u64 0, .int .u64 0, .int .u64 0, .int .u64 0, .int .u64 0, .int .u64 0, .int .u64 0, .int .u64 0, .int .u64 0, .int .u64 0, .int .u64 0, .int .u64 0] 29)) = u279q at h275q h276q h277q h278q hH ⊢
          try simp only [Act.put, List.setIfInBounds_toArray, List.set_cons_zero, List.set_cons_succ]
          refine wpAnyH_ready (rs := [12]) (by kernel_rfl) (by simp) ?_
          refine AllReadyH.cons (o := { dst := none, op := .store _ (.tmp 7) (.tmp 26), type := _, pos := _, after := _, guard := _ }) rfl (fun K hK => ?_) AllReadyH.nil
          rw [if_pos (by rfl)]
          refine wp_store_mid _ _ _ rfl u268q.heap.size _ (wl u).toArray rfl rfl (h278q.out.thereW u) (HCZ.out u) (wl_all u) ?_
          simp only [Act.put]
          have h280q : Hid (Gd n w (u279q.setCells u268q.heap.size 0 (wl u))) := h275q.out.asideL (by omega) 0 (wl u)
          have h281q : Hid (Bo (u279q.setCells u268q.heap.size 0 (wl u)) n [.int .i64 o, .int .i64 k, .int .i64 x]) := h276q.out.asideL (by omega) 0 (wl u)
          have h282q : Hid (Bo (u279q.setCells u268q.heap.size 0 (wl u)) u15q.heap.size [.int .i64 0, .int .i64 0]) := h277q.out.asideL (by omega) 0 (wl u)
          have h283q : Hid (Bo (u279q.setCells u268q.heap.size 0 (wl u)) u268q.heap.size (wl u)) := h278q.out.setW u
          clear h275q h276q h277q h278q
          refine hK.out _ _ h281q.out (fun hH => ?_)
          clear hK K
          generalize (u279q.setCells u268q.heap.size 0 (wl u)) = u284q at h280q h281q h282q h283q hH ⊢
          try simp only [Act.put, List.setIfInBounds_toArray, List.set_cons_zero, List.set_cons_succ]
          refine wpAnyH_ready (rs := [13]) (by kernel_rfl) (by simp) ?_
          refine AllReadyH.cons (o := { dst := none, op := .store _ (.tmp 8) (.tmp 27), type := _, pos := _, after := _, guard := _ }) rfl (fun K hK => ?_) AllReadyH.nil
          rw [if_pos (by rfl)]
          refine wp_store_mid _ _ _ rfl u15q.heap.size _ #[.int .i64 (cc), .int .i64 (yy)] rfl rfl h282q.out.there2 HA.out (two_one _ _) ?_
          simp only [Act.put]
          have h285q : Hid (Gd n w (u284q.setCells u15q.heap.size 0 [.int .i64 (cc), .int .i64 (yy)])) := h280q.out.asideL (by omega) 0 [.int .i64 (cc), .int .i64 (yy)]
          have h286q : Hid (Bo (u284q.setCells u15q.heap.size 0 [.int .i64 (cc), .int .i64 (yy)]) n [.int .i64 o, .int .i64 k, .int .i64 x]) := h281q.out.asideL (by omega) 0 [.int .i64 (cc), .int .i64 (yy)]
          have h287q : Hid (Bo (u284q.setCells u15q.heap.size 0 [.int .i64 (cc), .int .i64 (yy)]) u15q.heap.size [.int .i64 (cc), .int .i64 (yy)]) := h282q.out.set2 (.int .i64 (cc)) (.int .i64 (yy))
          have h288q : Hid (Bo (u284q.setCells u15q.heap.size 0 [.int .i64 (cc), .int .i64 (yy)]) u268q.heap.size (wl u)) := h283q.out.asideL (by omega) 0 [.int .i64 (cc), .int .i64 (yy)]
          clear h280q h281q h282q h283q
          refine hK.out _ _ h286q.out (fun hH => ?_)
          clear hK K
          generalize (u284q.setCells u15q.heap.size 0 [.int .i64 (cc), .int .i64 (yy)]) = u289q at h285q h286q h287q h288q hH ⊢
          try simp only [Act.put, List.setIfInBounds_toArray, List.set_cons_zero, List.set_cons_succ]
          refine wpAnyH_take (i := 14) (oi := { dst := some 9, op := .assign (.tmp 28), type := _, pos := _, after := _, guard := _ }) (v := ?_) rfl (by kernel_rfl) (by kernel_rfl) (by kernel_rfl) (fun _ _ _ h => h) (Or.inl ⟨by rfl, ?_⟩) hH ?_
          rotate_left
          · intro w hSw
            clear hSw
            go_simp
            try with_reducible rfl
          simp only [Act.put, List.setIfInBounds_toArray, List.set_cons_zero, List.set_cons_succ]
          refine wpAnyH_done (by kernel_rfl) ?_ _
          go_wp2_with fail
          go_meet
          case rel => exact ⟨u268q.heap.size, u15q.heap.size, cc, yy, rfl, rfl, rfl, h285q, h286q, h287q, WR⟩
        refine AllReadyH.cons (o := { dst := some 7, op := .alloc _, type := _, pos := _, after := _, guard := _ }) rfl (fun K hK => ?_) AllReadyH.nil
        have l290q : n ≤ u264q.heap.size := h265q.out.le
        have l291q : n < u264q.heap.size := h266q.out.lt
        have l292q : u15q.heap.size < u264q.heap.size := h267q.out.lt
        go_simp
        have h293q : Hid (Gd n w (u264q.alloc (.cells #[.int .u64 0, .int .u64 0, .int .u64 0, .int .u64 0, .int .u64 0, .int .u64 0, .int .u64 0, .int .u64 0, .int .u64 0, .int .u64 0, .int .u64 0, .int .u64 0, .int .u64 0, .int .u64 0, .int .u64 0, .int .u64 0, .int .u64 0] 29))) := h265q.out.new (.cells #[.int .u64 0, .int .u64 0, .int .u64 0, .int .u64 0, .int .u64 0, .int .u64 0, .int .u64 0, .int .u64 0, .int .u64 0, .int .u64 0, .int .u64 0, .int .u64 0, .int .u64 0, .int .u64 0, .int .u64 0, .int .u64 0, .int .u64 0] 29)
        have h294q : Hid (Bo (u264q.alloc (.cells #[.int .u64 0, .int .u64 0, .int .u64 0, .int .u64 0, .int .u64 0, .int .u64 0, .int .u64 0, .int .u64 0, .int .u64 0, .int .u64 0, .int .u64 0, .int .u64 0, .int .u64 0, .int .u64 0, .int .u64 0, .int .u64 0, .int .u64 0] 29)) n [.int .i64 o, .int .i64 k, .int .i64 x]) := h266q.out.new (.cells #[.int .u64 0, .int .u64 0, .int .u64 0, .int .u64 0, .int .u64 0, .int .u64 0, .int .u64 0, .int .u64 0, .int .u64 0, .int .u64 0, .int .u64 0, .int .u64 0, .int .u64 0, .int .u64 0, .int .u64 0, .int .u64 0, .int .u64 0] 29)
        have h295q : Hid (Bo (u264q.alloc (.cells #[.int .u64 0, .int .u64 0, .int .u64 0, .int .u64 0, .int .u64 0, .int .u64 0, .int .u64 0, .int .u64 0, .int .u64 0, .int .u64 0, .int .u64 0, .int .u64 0, .int .u64 0, .int .u64 0, .int .u64 0, .int .u64 0, .int .u64 0] 29)) u15q.heap.size [.int .i64 0, .int .i64 0]) := h267q.out.new (.cells #[.int .u64 0, .int .u64 0, .int .u64 0, .int .u64 0, .int .u64 0, .int .u64 0, .int .u64 0, .int .u64 0, .int .u64 0, .int .u64 0, .int .u64 0, .int .u64 0, .int .u64 0, .int .u64 0, .int .u64 0, .int .u64 0, .int .u64 0] 29)
        clear h265q h266q h267q
        have h296q : Hid (Bo (u264q.alloc (.cells #[.int .u64 0, .int .u64 0, .int .u64 0, .int .u64 0, .int .u64 0, .int .u64 0, .int .u64 0, .int .u64 0, .int .u64 0, .int .u64 0, .int .u64 0, .int .u64 0, .int .u64 0, .int .u64 0, .int .u64 0, .int .u64 0, .int .u64 0] 29)) u264q.heap.size (wl wz)) := Bo.born u264q (wl wz) 29 (by simp)
        refine hK.out _ _ h294q.out (fun hH => ?_)
        clear hK K
        generalize (u264q.alloc (.cells #[.int .u64 0, .int .u64 0, .int .u64 0, .int .u64 0, .int .u64 0, .int .u64 0, .int .u64 0, .int .u64 0, .int .u64 0, .int .u64 0, .int .u64 0, .int .u64 0, .int .u64 0, .int .u64 0, .int .u64 0, .int .u64 0, .int .u64 0] 29)) = u297q at h293q h294q h295q h296q hH ⊢
        try simp only [Act.put, List.setIfInBounds_toArray, List.set_cons_zero, List.set_cons_succ]
        refine wpAnyH_ready (rs := [5]) (by kernel_rfl) (by simp) ?_
        refine AllReadyH.cons (o := { dst := some 25, op := _, type := _, pos := _, after := _, guard := _ }) rfl (fun K hK => ?_) AllReadyH.nil
        go_simp
        refine (DO.out _).mono ?_
        rintro e u298q ⟨rfl, hb⟩
        have h299q : Hid (Gd n w u298q) := h293q.out.later hb
        have h300q : Hid (Bo u298q n [.int .i64 o, .int .i64 k, .int .i64 x]) := h294q.out.later hb
        have h301q : Hid (Bo u298q u15q.heap.size [.int .i64 0, .int .i64 0]) := h295q.out.later hb
        have h302q : Hid (Bo u298q u264q.heap.size (wl wz)) := h296q.out.later hb
        clear h293q h294q h295q h296q
        clear hb
        go_wp2_with fail
        refine hK.out _ _ h300q.out (fun hH => ?_)
        clear hK K
        try simp only [Act.put, List.setIfInBounds_toArray, List.set_cons_zero, List.set_cons_succ]
        refine wpAnyH_take (i := 6) (oi := { dst := some 19, op := .move (.tmp 25), type := _, pos := _, after := _, guard := _ }) (v := ?_) rfl (by kernel_rfl) (by kernel_rfl) (by kernel_rfl) (fun _ _ _ h => h) (Or.inl ⟨by rfl, ?_⟩) hH ?_
        rotate_left
        · intro w hSw
          clear hSw
          go_simp
          try with_reducible rfl
        simp only [Act.put, List.setIfInBounds_toArray, List.set_cons_zero, List.set_cons_succ]
        refine wpAnyH_take (i := 7) (oi := { dst := some 26, op := .extract (.tmp 19) 0, type := _, pos := _, after := _, guard := _ }) (v := ?_) rfl (by kernel_rfl) (by kernel_rfl) (by kernel_rfl) (fun _ _ _ h => h) (Or.inl ⟨by rfl, ?_⟩) hH ?_
        rotate_left
        · intro w hSw
          clear hSw
          go_simp
          try with_reducible rfl
        simp only [Act.put, List.setIfInBounds_toArray, List.set_cons_zero, List.set_cons_succ]
        refine wpAnyH_take (i := 8) (oi := { dst := some 27, op := .extract (.tmp 19) 1, type := _, pos := _, after := _, guard := _ }) (v := ?_) rfl (by kernel_rfl) (by kernel_rfl) (by kernel_rfl) (fun _ _ _ h => h) (Or.inl ⟨by rfl, ?_⟩) hH ?_
        rotate_left
        · intro w hSw
          clear hSw
          go_simp
          try with_reducible rfl
        simp only [Act.put, List.setIfInBounds_toArray, List.set_cons_zero, List.set_cons_succ]
        refine wpAnyH_take (i := 9) (oi := { dst := some 28, op := .extract (.tmp 19) 2, type := _, pos := _, after := _, guard := _ }) (v := ?_) rfl (by kernel_rfl) (by kernel_rfl) (by kernel_rfl) (fun _ _ _ h => h) (Or.inl ⟨by rfl, ?_⟩) hH ?_
        rotate_left
        · intro w hSw
          clear hSw
          go_simp
          try with_reducible rfl
        simp only [Act.put, List.setIfInBounds_toArray, List.set_cons_zero, List.set_cons_succ]
        refine wpAnyH_ready (rs := [12]) (by kernel_rfl) (by simp) ?_
        refine AllReadyH.cons (o := { dst := none, op := .store _ (.tmp 7) (.tmp 26), type := _, pos := _, after := _, guard := _ }) rfl (fun K hK => ?_) AllReadyH.nil
        rw [if_pos (by rfl)]
        refine wp_store_mid _ _ _ rfl u264q.heap.size _ (wl u).toArray rfl rfl (h302q.out.thereW u) (HCZ.out u) (wl_all u) ?_
        simp only [Act.put]
        have h303q : Hid (Gd n w (u298q.setCells u264q.heap.size 0 (wl u))) := h299q.out.asideL (by omega) 0 (wl u)
        have h304q : Hid (Bo (u298q.setCells u264q.heap.size 0 (wl u)) n [.int .i64 o, .int .i64 k, .int .i64 x]) := h300q.out.asideL (by omega) 0 (wl u)
        have h305q : Hid (Bo (u298q.setCells u264q.heap.size 0 (wl u)) u15q.heap.size [.int .i64 0, .int .i64 0]) := h301q.out.asideL (by omega) 0 (wl u)
        have h306q : Hid (Bo (u298q.setCells u264q.heap.size 0 (wl u)) u264q.heap.size (wl u)) := h302q.out.setW u
        clear h299q h300q h301q h302q
        refine hK.out _ _ h304q.out (fun hH => ?_)
        clear hK K
        generalize (u298q.setCells u264q.heap.size 0 (wl u)) = u307q at h303q h304q h305q h306q hH ⊢
        try simp only [Act.put, List.setIfInBounds_toArray, List.set_cons_zero, List.set_cons_succ]
        refine wpAnyH_ready (rs := [13]) (by kernel_rfl) (by simp) ?_
        refine AllReadyH.cons (o := { dst := none, op := .store _ (.tmp 8) (.tmp 27), type := _, pos := _, after := _, guard := _ }) rfl (fun K hK => ?_) AllReadyH.nil
        rw [if_pos (by rfl)]
        refine wp_store_mid _ _ _ rfl u15q.heap.size _ #[.int .i64 (cc), .int .i64 (yy)] rfl rfl h305q.out.there2 HA.out (two_one _ _) ?_
        simp only [Act.put]
        have h308q : Hid (Gd n w (u307q.setCells u15q.heap.size 0 [.int .i64 (cc), .int .i64 (yy)])) := h303q.out.asideL (by omega) 0 [.int .i64 (cc), .int .i64 (yy)]
        have h309q : Hid (Bo (u307q.setCells u15q.heap.size 0 [.int .i64 (cc), .int .i64 (yy)]) n [.int .i64 o, .int .i64 k, .int .i64 x]) := h304q.out.asideL (by omega) 0 [.int .i64 (cc), .int .i64 (yy)]
        have h310q : Hid (Bo (u307q.setCells u15q.heap.size 0 [.int .i64 (cc), .int .i64 (yy)]) u15q.heap.size [.int .i64 (cc), .int .i64 (yy)]) := h305q.out.set2 (.int .i64 (cc)) (.int .i64 (yy))
        have h311q : Hid (Bo (u307q.setCells u15q.heap.size 0 [.int .i64 (cc), .int .i64 (yy)]) u264q.heap.size (wl u)) := h306q.out.asideL (by omega) 0 [.int .i64 (cc), .int .i64 (yy)]
        clear h303q h304q h305q h306q
        refine hK.out _ _ h309q.out (fun hH => ?_)
        clear hK K
        generalize (u307q.setCells u15q.heap.size 0 [.int .i64 (cc), .int .i64 (yy)]) = u312q at h308q h309q h310q h311q hH ⊢
        try simp only [Act.put, List.setIfInBounds_toArray, List.set_cons_zero, List.set_cons_succ]
        refine wpAnyH_take (i := 14) (oi := { dst := some 9, op := .assign (.tmp 28), type := _, pos := _, after := _, guard := _ }) (v := ?_) rfl (by kernel_rfl) (by kernel_rfl) (by kernel_rfl) (fun _ _ _ h => h) (Or.inl ⟨by rfl, ?_⟩) hH ?_
        rotate_left
        · intro w hSw
          clear hSw
          go_simp
          try with_reducible rfl
        simp only [Act.put, List.setIfInBounds_toArray, List.set_cons_zero, List.set_cons_succ]
        refine wpAnyH_done (by kernel_rfl) ?_ _
        go_wp2_with fail
        go_meet
        case rel => exact ⟨u264q.heap.size, u15q.heap.size, cc, yy, rfl, rfl, rfl, h308q, h309q, h310q, WR⟩
      refine AllReadyH.cons (o := { dst := some 7, op := .alloc _, type := _, pos := _, after := _, guard := _ }) rfl (fun K hK => ?_) AllReadyH.nil
      have l313q : n ≤ u263q.heap.size := h260q.out.le
      have l314q : n < u263q.heap.size := h261q.out.lt
      have l315q : u15q.heap.size < u263q.heap.size := h262q.out.lt
      go_simp
      have h316q : Hid (Gd n w (u263q.alloc (.cells #[.int .u64 0, .int .u64 0, .int .u64 0, .int .u64 0, .int .u64 0, .int .u64 0, .int .u64 0, .int .u64 0, .int .u64 0, .int .u64 0, .int .u64 0, .int .u64 0, .int .u64 0, .int .u64 0, .int .u64 0, .int .u64 0, .int .u64 0] 29))) := h260q.out.new (.cells #[.int .u64 0, .int .u64 0, .int .u64 0, .int .u64 0, .int .u64 0, .int .u64 0, .int .u64 0, .int .u64 0, .int .u64 0, .int .u64 0, .int .u64 0, .int .u64 0, .int .u64 0, .int .u64 0, .int .u64 0, .int .u64 0, .int .u64 0] 29)
      have h317q : Hid (Bo (u263q.alloc (.cells #[.int .u64 0, .int .u64 0, .int .u64 0, .int .u64 0, .int .u64 0, .int .u64 0, .int .u64 0, .int .u64 0, .int .u64 0, .int .u64 0, .int .u64 0, .int .u64 0, .int .u64 0, .int .u64 0, .int .u64 0, .int .u64 0, .int .u64 0] 29)) n [.int .i64 o, .int .i64 k, .int .i64 x]) := h261q.out.new (.cells #[.int .u64 0, .int .u64 0, .int .u64 0, .int .u64 0, .int .u64 0, .int .u64 0, .int .u64 0, .int .u64 0, .int .u64 0, .int .u64 0, .int .u64 0, .int .u64 0, .int .u64 0, .int .u64 0, .int .u64 0, .int .u64 0, .int .u64 0] 29)
      have h318q : Hid (Bo (u263q.alloc (.cells #[.int .u64 0, .int .u64 0, .int .u64 0, .int .u64 0, .int .u64 0, .int .u64 0, .int .u64 0, .int .u64 0, .int .u64 0, .int .u64 0, .int .u64 0, .int .u64 0, .int .u64 0, .int .u64 0, .int .u64 0, .int .u64 0, .int .u64 0] 29)) u15q.heap.size [.int .i64 0, .int .i64 0]) := h262q.out.new (.cells #[.int .u64 0, .int .u64 0, .int .u64 0, .int .u64 0, .int .u64 0, .int .u64 0, .int .u64 0, .int .u64 0, .int .u64 0, .int .u64 0, .int .u64 0, .int .u64 0, .int .u64 0, .int .u64 0, .int .u64 0, .int .u64 0, .int .u64 0] 29)
      clear h260q h261q h262q
      have h319q : Hid (Bo (u263q.alloc (.cells #[.int .u64 0, .int .u64 0, .int .u64 0, .int .u64 0, .int .u64 0, .int .u64 0, .int .u64 0, .int .u64 0, .int .u64 0, .int .u64 0, .int .u64 0, .int .u64 0, .int .u64 0, .int .u64 0, .int .u64 0, .int .u64 0, .int .u64 0] 29)) u263q.heap.size (wl wz)) := Bo.born u263q (wl wz) 29 (by simp)
      refine hK.out _ _ h317q.out (fun hH => ?_)
      clear hK K
      generalize (u263q.alloc (.cells #[.int .u64 0, .int .u64 0, .int .u64 0, .int .u64 0, .int .u64 0, .int .u64 0, .int .u64 0, .int .u64 0, .int .u64 0, .int .u64 0, .int .u64 0, .int .u64 0, .int .u64 0, .int .u64 0, .int .u64 0, .int .u64 0, .int .u64 0] 29)) = u320q at h316q h317q h318q h319q hH ⊢
      try simp only [Act.put, List.setIfInBounds_toArray, List.set_cons_zero, List.set_cons_succ]
      refine wpAnyH_ready (rs := [3]) (by kernel_rfl) (by simp) ?_
      refine AllReadyH.cons (o := { dst := some 23, op := _, type := _, pos := _, after := _, guard := _ }) rfl (fun K hK => ?_) AllReadyH.nil
      go_simp
      refine (made_is (kind := (r : Nat)) (by omega) (by omega) (Ops.later (v := v1) (n := n1) D1.out h316q.out.2)).mono ?_
      rintro e u321q ⟨c, hO, rfl, hb⟩
      have h322q : Hid (Gd n w u321q) := h316q.out.later hb
      have h323q : Hid (Bo u321q n [.int .i64 o, .int .i64 k, .int .i64 x]) := h317q.out.later hb
      have h324q : Hid (Bo u321q u15q.heap.size [.int .i64 0, .int .i64 0]) := h318q.out.later hb
      have h325q : Hid (Bo u321q u263q.heap.size (wl wz)) := h319q.out.later hb
      clear h316q h317q h318q h319q
      have HO : Hid _ := hO
      clear hO
      obtain ⟨⟨u, cc, yy⟩, hu⟩ : ∃ r9, odo (r : Nat) c o k x = r9 := ⟨_, rfl⟩
      have DO : Hid (∀ w, Calls Try.prog 10 #[.int .i64 (r : Nat), .agg (wl c).toArray, .agg #[.int .i64 o, .int .i64 k, .int .i64 x]] w (DidD w u cc yy)) := fun w => by have := obDo_is HO.out HR.out w; rw [hu] at this; exact this
      have f : OF (r : Nat) c o k x (u, cc, yy) := by have := odo_facts HO.out HR.out.w1 HR.out.w6 HR.out.k0 HR.out.k1 HR.out.v0 HR.out.v1; rw [hu] at this; exact this
      clear hu
      have WR : Hid (cc = 5 ↔ (((o = 3 ∨ o = 4) ∧ ((r : Nat) : Int) ≠ 3) ∨ (((r : Nat) : Int) = 5 ∧ o ≠ 6 ∧ (o = 3 ∨ o = 4 ∨ k = 0)))) := f.wrong
      clear f
      clear hb
      go_wp2_with fail
      refine hK.out _ _ h323q.out (fun hH => ?_)
      clear hK K
      try simp only [Act.put, List.setIfInBounds_toArray, List.set_cons_zero, List.set_cons_succ]
      refine wpAnyH_ready (rs := [5]) (by kernel_rfl) (by simp) ?_
      refine AllReadyH.cons (o := { dst := some 25, op := _, type := _, pos := _, after := _, guard := _ }) rfl (fun K hK => ?_) AllReadyH.nil
      go_simp
      refine (DO.out _).mono ?_
      rintro e u326q ⟨rfl, hb⟩
      have h327q : Hid (Gd n w u326q) := h322q.out.later hb
      have h328q : Hid (Bo u326q n [.int .i64 o, .int .i64 k, .int .i64 x]) := h323q.out.later hb
      have h329q : Hid (Bo u326q u15q.heap.size [.int .i64 0, .int .i64 0]) := h324q.out.later hb
      have h330q : Hid (Bo u326q u263q.heap.size (wl wz)) := h325q.out.later hb
      clear h322q h323q h324q h325q
      clear hb
      go_wp2_with fail
      refine hK.out _ _ h328q.out (fun hH => ?_)
      clear hK K
      try simp only [Act.put, List.setIfInBounds_toArray, List.set_cons_zero, List.set_cons_succ]
      refine wpAnyH_take (i := 6) (oi := { dst := some 19, op := .move (.tmp 25), type := _, pos := _, after := _, guard := _ }) (v := ?_) rfl (by kernel_rfl) (by kernel_rfl) (by kernel_rfl) (fun _ _ _ h => h) (Or.inl ⟨by rfl, ?_⟩) hH ?_
      rotate_left
      · intro w hSw
        clear hSw
        go_simp
        try with_reducible rfl
      simp only [Act.put, List.setIfInBounds_toArray, List.set_cons_zero, List.set_cons_succ]
      refine wpAnyH_take (i := 7) (oi := { dst := some 26, op := .extract (.tmp 19) 0, type := _, pos := _, after := _, guard := _ }) (v := ?_) rfl (by kernel_rfl) (by kernel_rfl) (by kernel_rfl) (fun _ _ _ h => h) (Or.inl ⟨by rfl, ?_⟩) hH ?_
      rotate_left
      · intro w hSw
        clear hSw
        go_simp
        try with_reducible rfl
      simp only [Act.put, List.setIfInBounds_toArray, List.set_cons_zero, List.set_cons_succ]
      refine wpAnyH_take (i := 8) (oi := { dst := some 27, op := .extract (.tmp 19) 1, type := _, pos := _, after := _, guard := _ }) (v := ?_) rfl (by kernel_rfl) (by kernel_rfl) (by kernel_rfl) (fun _ _ _ h => h) (Or.inl ⟨by rfl, ?_⟩) hH ?_
      rotate_left
      · intro w hSw
        clear hSw
        go_simp
        try with_reducible rfl
      simp only [Act.put, List.setIfInBounds_toArray, List.set_cons_zero, List.set_cons_succ]
      refine wpAnyH_take (i := 9) (oi := { dst := some 28, op := .extract (.tmp 19) 2, type := _, pos := _, after := _, guard := _ }) (v := ?_) rfl (by kernel_rfl) (by kernel_rfl) (by kernel_rfl) (fun _ _ _ h => h) (Or.inl ⟨by rfl, ?_⟩) hH ?_
      rotate_left
      · intro w hSw
        clear hSw
        go_simp
        try with_reducible rfl
      simp only [Act.put, List.setIfInBounds_toArray, List.set_cons_zero, List.set_cons_succ]
      refine wpAnyH_ready (rs := [12]) (by kernel_rfl) (by simp) ?_
      refine AllReadyH.cons (o := { dst := none, op := .store _ (.tmp 7) (.tmp 26), type := _, pos := _, after := _, guard := _ }) rfl (fun K hK => ?_) AllReadyH.nil
      rw [if_pos (by rfl)]
      refine wp_store_mid _ _ _ rfl u263q.heap.size _ (wl u).toArray rfl rfl (h330q.out.thereW u) (HCZ.out u) (wl_all u) ?_
      simp only [Act.put]
      have h331q : Hid (Gd n w (u326q.setCells u263q.heap.size 0 (wl u))) := h327q.out.asideL (by omega) 0 (wl u)
      have h332q : Hid (Bo (u326q.setCells u263q.heap.size 0 (wl u)) n [.int .i64 o, .int .i64 k, .int .i64 x]) := h328q.out.asideL (by omega) 0 (wl u)
      have h333q : Hid (Bo (u326q.setCells u263q.heap.size 0 (wl u)) u15q.heap.size [.int .i64 0, .int .i64 0]) := h329q.out.asideL (by omega) 0 (wl u)
      have h334q : Hid (Bo (u326q.setCells u263q.heap.size 0 (wl u)) u263q.heap.size (wl u)) := h330q.out.setW u
      clear h327q h328q h329q h330q
      refine hK.out _ _ h332q.out (fun hH => ?_)
      clear hK K
      generalize (u326q.setCells u263q.heap.size 0 (wl u)) = u335q at h331q h332q h333q h334q hH ⊢
      try simp only [Act.put, List.setIfInBounds_toArray, List.set_cons_zero, List.set_cons_succ]
      refine wpAnyH_ready (rs := [13]) (by kernel_rfl) (by simp) ?_
      refine AllReadyH.cons (o := { dst := none, op := .store _ (.tmp 8) (.tmp 27), type := _, pos := _, after := _, guard := _ }) rfl (fun K hK => ?_) AllReadyH.nil
      rw [if_pos (by rfl)]
      refine wp_store_mid _ _ _ rfl u15q.heap.size _ #[.int .i64 (cc), .int .i64 (yy)] rfl rfl h333q.out.there2 HA.out (two_one _ _) ?_
      simp only [Act.put]
      have h336q : Hid (Gd n w (u335q.setCells u15q.heap.size 0 [.int .i64 (cc), .int .i64 (yy)])) := h331q.out.asideL (by omega) 0 [.int .i64 (cc), .int .i64 (yy)]
      have h337q : Hid (Bo (u335q.setCells u15q.heap.size 0 [.int .i64 (cc), .int .i64 (yy)]) n [.int .i64 o, .int .i64 k, .int .i64 x]) := h332q.out.asideL (by omega) 0 [.int .i64 (cc), .int .i64 (yy)]
      have h338q : Hid (Bo (u335q.setCells u15q.heap.size 0 [.int .i64 (cc), .int .i64 (yy)]) u15q.heap.size [.int .i64 (cc), .int .i64 (yy)]) := h333q.out.set2 (.int .i64 (cc)) (.int .i64 (yy))
      have h339q : Hid (Bo (u335q.setCells u15q.heap.size 0 [.int .i64 (cc), .int .i64 (yy)]) u263q.heap.size (wl u)) := h334q.out.asideL (by omega) 0 [.int .i64 (cc), .int .i64 (yy)]
      clear h331q h332q h333q h334q
      refine hK.out _ _ h337q.out (fun hH => ?_)
      clear hK K
      generalize (u335q.setCells u15q.heap.size 0 [.int .i64 (cc), .int .i64 (yy)]) = u340q at h336q h337q h338q h339q hH ⊢
      try simp only [Act.put, List.setIfInBounds_toArray, List.set_cons_zero, List.set_cons_succ]
      refine wpAnyH_take (i := 14) (oi := { dst := some 9, op := .assign (.tmp 28), type := _, pos := _, after := _, guard := _ }) (v := ?_) rfl (by kernel_rfl) (by kernel_rfl) (by kernel_rfl) (fun _ _ _ h => h) (Or.inl ⟨by rfl, ?_⟩) hH ?_
      rotate_left
      · intro w hSw
        clear hSw
        go_simp
        try with_reducible rfl
      simp only [Act.put, List.setIfInBounds_toArray, List.set_cons_zero, List.set_cons_succ]
      refine wpAnyH_done (by kernel_rfl) ?_ _
      go_wp2_with fail
      go_meet
      case rel => exact ⟨u263q.heap.size, u15q.heap.size, cc, yy, rfl, rfl, rfl, h336q, h337q, h338q, WR⟩
    case rest =>
      obtain ⟨b_d, b_a, cc, yy, rfl, rfl, rfl, h341q, h342q, h343q, hmore⟩ := hcut
      have HW : Hid _ := hmore
      clear hmore
      by_cases e3 : o = 3
      · subst e3
        by_cases q3 : ((r : Nat) : Int) = 3
        · have n3 : (((r : Nat) : Int) == 3) = true := by simp [q3]
          have n5 : (((r : Nat) : Int) == 5) = false := by simp; omega
          have mc : (cc == 5) = false := by have := HW.out; simp; omega
          clear HW
          have c344q := h342q.out.at 0 rfl
          have c345q := h342q.out.at 1 rfl
          have c346q := h343q.out.at 0 rfl
          have c347q := h343q.out.at 1 rfl
          go_wp2
          go_ret
          exact ⟨rfl, by first | exact h341q.out.low | exact h341q.out.2⟩
        · have n3 : (((r : Nat) : Int) == 3) = false := by simp [q3]
          obtain rfl : cc = 5 := HW.out.2 (by omega)
          clear HW
          have c348q := h342q.out.at 0 rfl
          have c349q := h342q.out.at 1 rfl
          have c350q := h343q.out.at 0 rfl
          have c351q := h343q.out.at 1 rfl
          go_wp2
          go_ret
          exact ⟨rfl, by first | exact h341q.out.low | exact h341q.out.2⟩
      · by_cases e4 : o = 4
        · subst e4
          by_cases q3 : ((r : Nat) : Int) = 3
          · have n3 : (((r : Nat) : Int) == 3) = true := by simp [q3]
            have n5 : (((r : Nat) : Int) == 5) = false := by simp; omega
            have mc : (cc == 5) = false := by have := HW.out; simp; omega
            clear HW
            have c352q := h342q.out.at 0 rfl
            have c353q := h342q.out.at 1 rfl
            have c354q := h343q.out.at 0 rfl
            have c355q := h343q.out.at 1 rfl
            go_wp2
            go_ret
            exact ⟨rfl, by first | exact h341q.out.low | exact h341q.out.2⟩
          · have n3 : (((r : Nat) : Int) == 3) = false := by simp [q3]
            obtain rfl : cc = 5 := HW.out.2 (by omega)
            clear HW
            have c356q := h342q.out.at 0 rfl
            have c357q := h342q.out.at 1 rfl
            have c358q := h343q.out.at 0 rfl
            have c359q := h343q.out.at 1 rfl
            go_wp2
            go_ret
            exact ⟨rfl, by first | exact h341q.out.low | exact h341q.out.2⟩
        · have m3 : (o == 3) = false := by simp [e3]
          have m4 : (o == 4) = false := by simp [e4]
          by_cases q5 : ((r : Nat) : Int) = 5
          · have n5 : (((r : Nat) : Int) == 5) = true := by simp [q5]
            by_cases e6 : o = 6
            · have m6 : (o == 6) = true := by simp [e6]
              have m6b : (o != 6) = false := by simp [e6]
              have mc : (cc == 5) = false := by have := HW.out; simp; omega
              clear HW
              have c360q := h342q.out.at 0 rfl
              have c361q := h342q.out.at 1 rfl
              have c362q := h343q.out.at 0 rfl
              have c363q := h343q.out.at 1 rfl
              go_wp2
              go_ret
              exact ⟨rfl, by first | exact h341q.out.low | exact h341q.out.2⟩
            · have m6 : (o == 6) = false := by simp [e6]
              have m6b : (o != 6) = true := by simp [e6]
              by_cases k0 : k = 0
              · have mk : (k == 0) = true := by simp [k0]
                obtain rfl : cc = 5 := HW.out.2 (by omega)
                clear HW
                have c364q := h342q.out.at 0 rfl
                have c365q := h342q.out.at 1 rfl
                have c366q := h343q.out.at 0 rfl
                have c367q := h343q.out.at 1 rfl
                go_wp2
                go_ret
                exact ⟨rfl, by first | exact h341q.out.low | exact h341q.out.2⟩
              · have mk : (k == 0) = false := by simp [k0]
                have mc : (cc == 5) = false := by have := HW.out; simp; omega
                clear HW
                have c368q := h342q.out.at 0 rfl
                have c369q := h342q.out.at 1 rfl
                have c370q := h343q.out.at 0 rfl
                have c371q := h343q.out.at 1 rfl
                go_wp2
                go_ret
                exact ⟨rfl, by first | exact h341q.out.low | exact h341q.out.2⟩
          · have n5 : (((r : Nat) : Int) == 5) = false := by simp [q5]
            have mc : (cc == 5) = false := by have := HW.out; simp; omega
            clear HW
            have c372q := h342q.out.at 0 rfl
            have c373q := h342q.out.at 1 rfl
            have c374q := h343q.out.at 0 rfl
            have c375q := h343q.out.at 1 rfl
            go_wp2
            go_ret
            exact ⟨rfl, by first | exact h341q.out.low | exact h341q.out.2⟩
  · have OR : Hid (∀ w : World, _) := fun w => opR_no hR w
    clear hR
    go_enter Try.func6, Try.ntmps6
    go_wp2_with fail
    refine (TH.out _).mono ?_
    rintro e u376q ⟨rfl, hb⟩
    have h377q : Hid (Gd w.heap.size w u376q) := h1q.out.later hb
    have h378q : Hid (Bo u376q w.heap.size [.int .i64 o, .int .i64 k, .int .i64 x]) := h2q.out.later hb
    clear h1q h2q
    clear hb
    have c379q := h378q.out.at 0 rfl
    have c380q := h378q.out.at 1 rfl
    have c381q := h378q.out.at 2 rfl
    go_wp2_with fail
    refine (OR.out _).mono ?_
    rintro e u382q ⟨rfl, hb⟩
    have h383q : Hid (Gd w.heap.size w u382q) := h377q.out.later hb
    have h384q : Hid (Bo u382q w.heap.size [.int .i64 o, .int .i64 k, .int .i64 x]) := h378q.out.later hb
    clear h377q h378q
    clear hb
    go_wp2
    go_ret
    exact ⟨rfl, by first | exact h383q.out.low | exact h383q.out.2⟩


set_option maxRecDepth 100000 in
theorem lifted (os : Os) (started : os.Started) (H : Type) (enc : TypeId × Value → H) :
    ReturnsInHanded {} Try.checked os 6 .any (Rows.objectWrongSpec.pre6 enc Try.prog Try.f6 Rows.objectWrongRow.domain false) (Rows.objectWrongSpec.post enc Try.prog Try.f6 false true false false) := by
  refine returnsInHanded_of_change (C := Try.checked) own started (by kernel_rfl) Try.func6
    (ChangeSpec.witness6 (enc := enc) (C := Try.checked) false ⟨#[], #[.int .i64 0, .slice none 0 0, .agg #[.int .i64 0, .int .i64 0, .int .i64 0]], []⟩ 8 (by kernel_rfl) (by kernel_rfl) (by kernel_rfl) (by kernel_rfl)) ?_
  intro W base args ds gs before hval0 hW hcnd _
  have hval : ∀ (j : Nat) t v, Try.f6.params[j]? = some t → args[j]? = some v → Value.okWide Try.prog W .any base t v := hval0
  have hW' := hW
  obtain ⟨p, q, hA0, hV, rfl, hfz, hnd⟩ := hW
  have hA : DataW.TrodAll enc Try.prog W 0 (fun _ => true) true Try.f6.params.toList args.toList ds p := hA0
  rw [Try.params6] at hA hval
  obtain ⟨v0, vs0, d0, ds0, p0, q0, hargs, rfl, rfl, h0, r0⟩ := trodAll_cons hA
  obtain ⟨v1, vs1, d1, ds1, p1, q1, rfl, rfl, rfl, h1, r1⟩ := trodAll_cons r0
  obtain ⟨v2, vs2, d2, ds2, p2, q2, rfl, rfl, rfl, h2, r2⟩ := trodAll_cons r1
  obtain ⟨rfl, rfl, rfl⟩ := trodAll_nil r2
  obtain rfl : args = #[v0, v1, v2] := by cases args; simp_all
  obtain ⟨rfl, rfl⟩ := trodVars_none hV
  obtain ⟨a0, rfl, rfl, rfl, w0⟩ := open_int Try.underlying3 (hval 0 3 v0 rfl rfl) h0
  obtain ⟨n1, D1⟩ := ops_of_trod (hval 1 22 v1 rfl rfl) h1
  obtain ⟨a2, b2, c2, rfl, wa2, wb2, wc2⟩ := op_of_trod (hval 2 24 v2 rfl rfl) h2
  have hlt := hW'.lt
  clear hA0 hval0
  refine (walk a0 v1 n1 a2 b2 c2 w0 wa2 wb2 wc2 W  D1).mono fun e W' ⟨he, hg⟩ => ?_
  subst he
  exact ⟨_, rfl, post_below (pv := []) hW' (fun _ _ _ => (trodAll_cons_mk (shut_bool Try.underlying4 _) trodAll_mk0)) (fun sp hsp => (trodAll_cons_mk (shut_int Try.underlying3 w0) (trodAll_cons_mk (ops_stay h1 hg (fun x hx => hlt x (by simp [hx])) (fun x hx => hsp x (by simp [hx]))) (trodAll_cons_mk (op_stay h2 hg (fun x hx => hlt x (by simp [hx])) (fun x hx => hsp x (by simp [hx]))) trodAll_mk0)))) (fun _ _ => rfl) (by simp) (hg.frame _)⟩

theorem over : Rows.objectWrongRow.holds Try.pinned (OpenSpec.ofChange Rows.objectWrongSpec) :=
  OpenClaim.holds_of_wide 6 Try.f6 rfl rfl rfl rfl rfl rfl rfl ⟨rfl, rfl, rfl, rfl, rfl⟩ rfl rfl rfl rfl rfl (by kernel_rfl) Try.func6 (by kernel_rfl)
    (of_decide_eq_true (by kernel_rfl)) (by unfold Func.isWrapper; first | (rw [if_pos (by decide +kernel)]; kernel_rfl) | (rw [if_neg (by decide +kernel)]; exact ⟨rfl, rfl⟩))
    (fun os started H enc _ => lifted os started H enc)

theorem proved : Rows.ObjectWrongSaid :=
  over
#print axioms proved
end Go.Proofs.Ytbmgjpdfmgcigab.Tab.objectWrong
