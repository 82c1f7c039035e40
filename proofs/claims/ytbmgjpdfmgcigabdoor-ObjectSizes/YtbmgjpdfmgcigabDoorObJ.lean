/- Package object: withList, by its contract: queues and stacks. -/
import Derived.Test.YtbmgjpdfmgcigabDoorObB
import Derived.Test.YtbmgjpdfmgcigabDoorObC
import Derived.Test.YtbmgjpdfmgcigabDoorObF
import Derived.Test.YtbmgjpdfmgcigabDoorLi
import Derived.Test.YtbmgjpdfmgcigabDoorPk
import Derived.Deep.DeepCutAuto
import Derived.Deep.RegionHeld3
namespace Go.Proofs.YtbmgjpdfmgcigabDoor.Tab
set_option maxRecDepth 20000
open Go.RowKit
set_option linter.unusedVariables false

set_option maxHeartbeats 4000000 in
theorem wlist_q {c : Nat → Nat} {b : Nat} {ys : List Int} {o k x cc y : Int} (hW : WList c) (hD : ∀ B W v, IsL B W v (lst c) → Calls Tryd.prog 36 #[v, .agg #[.int .i64 o, .int .i64 k, .int .i64 x]] W (Made W ys cc y)) (hl : ys.length ≤ 6) (hv : ∀ z ∈ ys, 0 ≤ z ∧ z ≤ 4294967295) (w : World) (hb : Bo w b [fv 36]) :
    Calls Tryd.prog 50 #[.agg (wl c).toArray, .agg #[.int .i64 o, .int .i64 k, .int .i64 x], .pointer (some ⟨b, 0, none⟩)] w (fun e w' => e = .returned (.tuple #[.agg (wl (lw ys)).toArray, .agg #[.int .i64 cc, .int .i64 y]]) ∧ Below w.heap.size w w') := by
  have HA : Hid ((Tryd.prog.info? 38).map (·.size) = some 2) := answer_sz
  obtain ⟨fs, ha⟩ := answer_st
  have HDA : Hid _ := ha
  clear ha
  obtain ⟨nb, eb, hd⟩ := cells_array
  have HC : Hid _ := hd
  clear hd
  have HCS : Hid _ := cells_size
  have HCZ : Hid _ := cells_size2
  have g0 : Hid (Gd w.heap.size w w) := Gd.refl w
  have LI : Hid (∀ w : World, _) := fun w => list_is hW w
  have DD : Hid _ := hD
  have LW : Hid (∀ B W v, IsL B W v ys → _) := fun B W v h => listWords_is (B := B) (w := W) (v := v) h hl hv
  generalize lst c = xs at *
  clear hW hD hl hv
  have hlt := hb.lt
  have h605q : Hid (Bo w b [.func (.func 36) #[] #[]]) := hb
  clear hb
  have h606q : Hid (Gd w.heap.size w (w.alloc (.cells (wl c).toArray 24))) := g0.out.new (.cells (wl c).toArray 24)
  have h607q : Hid (Bo (w.alloc (.cells (wl c).toArray 24)) b [.func (.func 36) #[] #[]]) := h605q.out.new (.cells (wl c).toArray 24)
  clear g0 h605q
  have h608q : Hid (Bo (w.alloc (.cells (wl c).toArray 24)) w.heap.size (wl c)) := Bo.born w (wl c) 24 (by simp)
  have h609q : Hid (Gd w.heap.size w ((w.alloc (.cells (wl c).toArray 24)).alloc (.cells #[.int .i64 o, .int .i64 k, .int .i64 x] 26))) := h606q.out.new (.cells #[.int .i64 o, .int .i64 k, .int .i64 x] 26)
  have h610q : Hid (Bo ((w.alloc (.cells (wl c).toArray 24)).alloc (.cells #[.int .i64 o, .int .i64 k, .int .i64 x] 26)) b [.func (.func 36) #[] #[]]) := h607q.out.new (.cells #[.int .i64 o, .int .i64 k, .int .i64 x] 26)
  have h611q : Hid (Bo ((w.alloc (.cells (wl c).toArray 24)).alloc (.cells #[.int .i64 o, .int .i64 k, .int .i64 x] 26)) w.heap.size (wl c)) := h608q.out.new (.cells #[.int .i64 o, .int .i64 k, .int .i64 x] 26)
  clear h606q h607q h608q
  have h612q : Hid (Bo ((w.alloc (.cells (wl c).toArray 24)).alloc (.cells #[.int .i64 o, .int .i64 k, .int .i64 x] 26)) (w.heap.size + 1) [.int .i64 o, .int .i64 k, .int .i64 x]) := Bo.born (w.alloc (.cells (wl c).toArray 24)) [.int .i64 o, .int .i64 k, .int .i64 x] 26 (by simp)
  have h613q : Hid (Gd w.heap.size w (((w.alloc (.cells (wl c).toArray 24)).alloc (.cells #[.int .i64 o, .int .i64 k, .int .i64 x] 26)).alloc (.cells #[.int .u64 0, .int .u64 0, .int .u64 0, .int .u64 0, .int .u64 0, .int .u64 0, .int .u64 0, .int .u64 0, .int .u64 0, .int .u64 0, .int .u64 0, .int .u64 0, .int .u64 0, .int .u64 0, .int .u64 0, .int .u64 0, .int .u64 0] 24))) := h609q.out.new (.cells #[.int .u64 0, .int .u64 0, .int .u64 0, .int .u64 0, .int .u64 0, .int .u64 0, .int .u64 0, .int .u64 0, .int .u64 0, .int .u64 0, .int .u64 0, .int .u64 0, .int .u64 0, .int .u64 0, .int .u64 0, .int .u64 0, .int .u64 0] 24)
  have h614q : Hid (Bo (((w.alloc (.cells (wl c).toArray 24)).alloc (.cells #[.int .i64 o, .int .i64 k, .int .i64 x] 26)).alloc (.cells #[.int .u64 0, .int .u64 0, .int .u64 0, .int .u64 0, .int .u64 0, .int .u64 0, .int .u64 0, .int .u64 0, .int .u64 0, .int .u64 0, .int .u64 0, .int .u64 0, .int .u64 0, .int .u64 0, .int .u64 0, .int .u64 0, .int .u64 0] 24)) b [.func (.func 36) #[] #[]]) := h610q.out.new (.cells #[.int .u64 0, .int .u64 0, .int .u64 0, .int .u64 0, .int .u64 0, .int .u64 0, .int .u64 0, .int .u64 0, .int .u64 0, .int .u64 0, .int .u64 0, .int .u64 0, .int .u64 0, .int .u64 0, .int .u64 0, .int .u64 0, .int .u64 0] 24)
  have h615q : Hid (Bo (((w.alloc (.cells (wl c).toArray 24)).alloc (.cells #[.int .i64 o, .int .i64 k, .int .i64 x] 26)).alloc (.cells #[.int .u64 0, .int .u64 0, .int .u64 0, .int .u64 0, .int .u64 0, .int .u64 0, .int .u64 0, .int .u64 0, .int .u64 0, .int .u64 0, .int .u64 0, .int .u64 0, .int .u64 0, .int .u64 0, .int .u64 0, .int .u64 0, .int .u64 0] 24)) w.heap.size (wl c)) := h611q.out.new (.cells #[.int .u64 0, .int .u64 0, .int .u64 0, .int .u64 0, .int .u64 0, .int .u64 0, .int .u64 0, .int .u64 0, .int .u64 0, .int .u64 0, .int .u64 0, .int .u64 0, .int .u64 0, .int .u64 0, .int .u64 0, .int .u64 0, .int .u64 0] 24)
  have h616q : Hid (Bo (((w.alloc (.cells (wl c).toArray 24)).alloc (.cells #[.int .i64 o, .int .i64 k, .int .i64 x] 26)).alloc (.cells #[.int .u64 0, .int .u64 0, .int .u64 0, .int .u64 0, .int .u64 0, .int .u64 0, .int .u64 0, .int .u64 0, .int .u64 0, .int .u64 0, .int .u64 0, .int .u64 0, .int .u64 0, .int .u64 0, .int .u64 0, .int .u64 0, .int .u64 0] 24)) (w.heap.size + 1) [.int .i64 o, .int .i64 k, .int .i64 x]) := h612q.out.new (.cells #[.int .u64 0, .int .u64 0, .int .u64 0, .int .u64 0, .int .u64 0, .int .u64 0, .int .u64 0, .int .u64 0, .int .u64 0, .int .u64 0, .int .u64 0, .int .u64 0, .int .u64 0, .int .u64 0, .int .u64 0, .int .u64 0, .int .u64 0] 24)
  clear h609q h610q h611q h612q
  have h617q : Hid (Bo (((w.alloc (.cells (wl c).toArray 24)).alloc (.cells #[.int .i64 o, .int .i64 k, .int .i64 x] 26)).alloc (.cells #[.int .u64 0, .int .u64 0, .int .u64 0, .int .u64 0, .int .u64 0, .int .u64 0, .int .u64 0, .int .u64 0, .int .u64 0, .int .u64 0, .int .u64 0, .int .u64 0, .int .u64 0, .int .u64 0, .int .u64 0, .int .u64 0, .int .u64 0] 24)) (w.heap.size + 2) (wl wz)) := Bo.born ((w.alloc (.cells (wl c).toArray 24)).alloc (.cells #[.int .i64 o, .int .i64 k, .int .i64 x] 26)) (wl wz) 24 (by simp)
  have h618q : Hid (Gd w.heap.size w ((((w.alloc (.cells (wl c).toArray 24)).alloc (.cells #[.int .i64 o, .int .i64 k, .int .i64 x] 26)).alloc (.cells #[.int .u64 0, .int .u64 0, .int .u64 0, .int .u64 0, .int .u64 0, .int .u64 0, .int .u64 0, .int .u64 0, .int .u64 0, .int .u64 0, .int .u64 0, .int .u64 0, .int .u64 0, .int .u64 0, .int .u64 0, .int .u64 0, .int .u64 0] 24)).alloc (.cells #[.int .i64 0, .int .i64 0] 38))) := h613q.out.new (.cells #[.int .i64 0, .int .i64 0] 38)
  have h619q : Hid (Bo ((((w.alloc (.cells (wl c).toArray 24)).alloc (.cells #[.int .i64 o, .int .i64 k, .int .i64 x] 26)).alloc (.cells #[.int .u64 0, .int .u64 0, .int .u64 0, .int .u64 0, .int .u64 0, .int .u64 0, .int .u64 0, .int .u64 0, .int .u64 0, .int .u64 0, .int .u64 0, .int .u64 0, .int .u64 0, .int .u64 0, .int .u64 0, .int .u64 0, .int .u64 0] 24)).alloc (.cells #[.int .i64 0, .int .i64 0] 38)) b [.func (.func 36) #[] #[]]) := h614q.out.new (.cells #[.int .i64 0, .int .i64 0] 38)
  have h620q : Hid (Bo ((((w.alloc (.cells (wl c).toArray 24)).alloc (.cells #[.int .i64 o, .int .i64 k, .int .i64 x] 26)).alloc (.cells #[.int .u64 0, .int .u64 0, .int .u64 0, .int .u64 0, .int .u64 0, .int .u64 0, .int .u64 0, .int .u64 0, .int .u64 0, .int .u64 0, .int .u64 0, .int .u64 0, .int .u64 0, .int .u64 0, .int .u64 0, .int .u64 0, .int .u64 0] 24)).alloc (.cells #[.int .i64 0, .int .i64 0] 38)) w.heap.size (wl c)) := h615q.out.new (.cells #[.int .i64 0, .int .i64 0] 38)
  have h621q : Hid (Bo ((((w.alloc (.cells (wl c).toArray 24)).alloc (.cells #[.int .i64 o, .int .i64 k, .int .i64 x] 26)).alloc (.cells #[.int .u64 0, .int .u64 0, .int .u64 0, .int .u64 0, .int .u64 0, .int .u64 0, .int .u64 0, .int .u64 0, .int .u64 0, .int .u64 0, .int .u64 0, .int .u64 0, .int .u64 0, .int .u64 0, .int .u64 0, .int .u64 0, .int .u64 0] 24)).alloc (.cells #[.int .i64 0, .int .i64 0] 38)) (w.heap.size + 1) [.int .i64 o, .int .i64 k, .int .i64 x]) := h616q.out.new (.cells #[.int .i64 0, .int .i64 0] 38)
  have h622q : Hid (Bo ((((w.alloc (.cells (wl c).toArray 24)).alloc (.cells #[.int .i64 o, .int .i64 k, .int .i64 x] 26)).alloc (.cells #[.int .u64 0, .int .u64 0, .int .u64 0, .int .u64 0, .int .u64 0, .int .u64 0, .int .u64 0, .int .u64 0, .int .u64 0, .int .u64 0, .int .u64 0, .int .u64 0, .int .u64 0, .int .u64 0, .int .u64 0, .int .u64 0, .int .u64 0] 24)).alloc (.cells #[.int .i64 0, .int .i64 0] 38)) (w.heap.size + 2) (wl wz)) := h617q.out.new (.cells #[.int .i64 0, .int .i64 0] 38)
  clear h613q h614q h615q h616q h617q
  have h623q : Hid (Bo ((((w.alloc (.cells (wl c).toArray 24)).alloc (.cells #[.int .i64 o, .int .i64 k, .int .i64 x] 26)).alloc (.cells #[.int .u64 0, .int .u64 0, .int .u64 0, .int .u64 0, .int .u64 0, .int .u64 0, .int .u64 0, .int .u64 0, .int .u64 0, .int .u64 0, .int .u64 0, .int .u64 0, .int .u64 0, .int .u64 0, .int .u64 0, .int .u64 0, .int .u64 0] 24)).alloc (.cells #[.int .i64 0, .int .i64 0] 38)) (w.heap.size + 3) [.int .i64 0, .int .i64 0]) := Bo.born (((w.alloc (.cells (wl c).toArray 24)).alloc (.cells #[.int .i64 o, .int .i64 k, .int .i64 x] 26)).alloc (.cells #[.int .u64 0, .int .u64 0, .int .u64 0, .int .u64 0, .int .u64 0, .int .u64 0, .int .u64 0, .int .u64 0, .int .u64 0, .int .u64 0, .int .u64 0, .int .u64 0, .int .u64 0, .int .u64 0, .int .u64 0, .int .u64 0, .int .u64 0] 24)) [.int .i64 0, .int .i64 0] 38 (by simp)
  go_enter Tryd.func50, Tryd.ntmps50
  go_wp2_with fail
  generalize ((((w.alloc (.cells (wl c).toArray 24)).alloc (.cells #[.int .i64 o, .int .i64 k, .int .i64 x] 26)).alloc (.cells #[.int .u64 0, .int .u64 0, .int .u64 0, .int .u64 0, .int .u64 0, .int .u64 0, .int .u64 0, .int .u64 0, .int .u64 0, .int .u64 0, .int .u64 0, .int .u64 0, .int .u64 0, .int .u64 0, .int .u64 0, .int .u64 0, .int .u64 0] 24)).alloc (.cells #[.int .i64 0, .int .i64 0] 38)) = W at h618q h619q h620q h621q h622q h623q ⊢
  generalize hsz : w.heap.size = n at h618q h619q h620q h621q h622q h623q hlt ⊢
  have HSZ : Hid (w.heap.size = n) := hsz
  clear hsz
  go_cut [7, 8] (fun s7 s8 wx => ∃ b_b : Nat, ∃ v_l2 : Value, ∃ B_l2 E_l2 : Nat, s8 = .pointer (some ⟨b_b, 0, none⟩) ∧ v_l2 = s7 ∧ Hid (Gd n w wx) ∧ Hid (Bo wx (n + 2) (wl wz)) ∧ Hid (Bo wx (n + 3) [.int .i64 0, .int .i64 0]) ∧ Hid (Bo wx b_b [.int .i64 (cc), .int .i64 (y)]) ∧ Hid (Li B_l2 E_l2 wx v_l2 ys) ∧ (n + 3 < b_b))
  case first =>
    have h624q : Hid (Gd n w W.drew) := h618q.out.drew
    have h625q : Hid (Bo W.drew b [.func (.func 36) #[] #[]]) := h619q.out.drew
    have h626q : Hid (Bo W.drew n (wl c)) := h620q.out.drew
    have h627q : Hid (Bo W.drew (n + 1) [.int .i64 o, .int .i64 k, .int .i64 x]) := h621q.out.drew
    have h628q : Hid (Bo W.drew (n + 2) (wl wz)) := h622q.out.drew
    have h629q : Hid (Bo W.drew (n + 3) [.int .i64 0, .int .i64 0]) := h623q.out.drew
    clear h618q h619q h620q h621q h622q h623q
    refine wp_region_held_drew (S := fun w' => Bo w' b [.func (.func 36) #[] #[]] ∧ Bo w' n (wl c) ∧ Bo w' (n + 1) [.int .i64 o, .int .i64 k, .int .i64 x]) (by kernel_rfl) ⟨h625q.out, h626q.out, h627q.out⟩ (fun hH => ?_)
    generalize W.drew = u630q at h624q h625q h626q h627q h628q h629q hH ⊢
    refine wpAnyH_take (i := 0) (oi := { dst := some 10, op := .load _ (.tmp 2), type := _, pos := _, after := _, guard := _ }) (v := ?_) rfl (by kernel_rfl) (by kernel_rfl) (by kernel_rfl) (fun _ _ _ h => h) (Or.inl ⟨by rfl, ?_⟩) hH ?_
    rotate_left
    · intro w hSw
      have c631q := (hSw.1).at 0 rfl
      clear hSw
      go_simp
      try with_reducible rfl
    simp only [Act.put, List.setIfInBounds_toArray, List.set_cons_zero, List.set_cons_succ]
    refine wpAnyH_take (i := 1) (oi := { dst := some 11, op := .load _ (.tmp 3), type := _, pos := _, after := _, guard := _ }) (v := _) rfl (by kernel_rfl) (by kernel_rfl) (by kernel_rfl) (fun _ _ _ h => h) (yieldsIf_load_mid (by rfl) _ _ rfl n _ rfl (wl c) _ (fun _ h => (h.2.1).range) HC.out rfl (HCS.out c)) hH ?_
    simp only [Act.put, List.setIfInBounds_toArray, List.set_cons_zero, List.set_cons_succ]
    refine wpAnyH_take (i := 3) (oi := { dst := some 13, op := .load _ (.tmp 4), type := _, pos := _, after := _, guard := _ }) (v := ?_) rfl (by kernel_rfl) (by kernel_rfl) (by kernel_rfl) (fun _ _ _ h => h) (Or.inl ⟨by rfl, ?_⟩) hH ?_
    rotate_left
    · intro w hSw
      have c632q := (hSw.2.2).at 0 rfl
      have c633q := (hSw.2.2).at 1 rfl
      have c634q := (hSw.2.2).at 2 rfl
      clear hSw
      go_simp
      try with_reducible rfl
    simp only [Act.put, List.setIfInBounds_toArray, List.set_cons_zero, List.set_cons_succ]
    refine wpAnyH_ready (rs := [2, 8]) (by kernel_rfl) (by simp) ?_
    refine AllReadyH.cons (o := { dst := some 12, op := _, type := _, pos := _, after := _, guard := _ }) rfl (fun K hK => ?_) ?_
    · go_simp
      refine (LI.out _).mono ?_
      rintro e u635q ⟨v1, rfl, I, hb⟩
      have h636q : Hid (Gd n w u635q) := h624q.out.later hb
      have h637q : Hid (Bo u635q b [.func (.func 36) #[] #[]]) := h625q.out.later hb
      have h638q : Hid (Bo u635q n (wl c)) := h626q.out.later hb
      have h639q : Hid (Bo u635q (n + 1) [.int .i64 o, .int .i64 k, .int .i64 x]) := h627q.out.later hb
      have h640q : Hid (Bo u635q (n + 2) (wl wz)) := h628q.out.later hb
      have h641q : Hid (Bo u635q (n + 3) [.int .i64 0, .int .i64 0]) := h629q.out.later hb
      clear h624q h625q h626q h627q h628q h629q
      have hi : Hid _ := I
      have h642q : Hid (Li u630q.heap.size u635q.heap.size u635q v1 xs) := Li.of hi.out
      clear I hi
      clear hb
      go_wp2_with fail
      refine hK.out _ _ ⟨h637q.out, h638q.out, h639q.out⟩ (fun hH => ?_)
      clear hK K
      try simp only [Act.put, List.setIfInBounds_toArray, List.set_cons_zero, List.set_cons_succ]
      refine wpAnyH_ready (rs := [4, 8]) (by kernel_rfl) (by simp) ?_
      refine AllReadyH.cons (o := { dst := some 14, op := _, type := _, pos := _, after := _, guard := _ }) rfl (fun K hK => ?_) ?_
      · have l643q : n ≤ u635q.heap.size := h636q.out.le
        have l644q : b < u635q.heap.size := h637q.out.lt
        have l645q : n < u635q.heap.size := h638q.out.lt
        have l646q : (n + 1) < u635q.heap.size := h639q.out.lt
        have l647q : (n + 2) < u635q.heap.size := h640q.out.lt
        have l648q : (n + 3) < u635q.heap.size := h641q.out.lt
        have l649q : u635q.heap.size ≤ u635q.heap.size := h642q.out.le
        go_simp
        refine (DD.out _ _ _ h642q.out.isL).mono ?_
        rintro e u650q ⟨v2, rfl, I, hb⟩
        have h651q : Hid (Gd n w u650q) := h636q.out.later hb
        have h652q : Hid (Bo u650q b [.func (.func 36) #[] #[]]) := h637q.out.later hb
        have h653q : Hid (Bo u650q n (wl c)) := h638q.out.later hb
        have h654q : Hid (Bo u650q (n + 1) [.int .i64 o, .int .i64 k, .int .i64 x]) := h639q.out.later hb
        have h655q : Hid (Bo u650q (n + 2) (wl wz)) := h640q.out.later hb
        have h656q : Hid (Bo u650q (n + 3) [.int .i64 0, .int .i64 0]) := h641q.out.later hb
        have h657q : Hid (Li u630q.heap.size u635q.heap.size u650q v1 xs) := h642q.out.later hb
        clear h636q h637q h638q h639q h640q h641q h642q
        have hi : Hid _ := I
        clear h657q
        have h658q : Hid (Li u635q.heap.size u650q.heap.size u650q v2 ys) := Li.of hi.out
        clear I hi
        clear hb
        go_wp2_with fail
        refine hK.out _ _ ⟨h652q.out, h653q.out, h654q.out⟩ (fun hH => ?_)
        clear hK K
        try simp only [Act.put, List.setIfInBounds_toArray, List.set_cons_zero, List.set_cons_succ]
        refine wpAnyH_take (i := 5) (oi := { dst := some 9, op := .move (.tmp 14), type := _, pos := _, after := _, guard := _ }) (v := ?_) rfl (by kernel_rfl) (by kernel_rfl) (by kernel_rfl) (fun _ _ _ h => h) (Or.inl ⟨by rfl, ?_⟩) hH ?_
        rotate_left
        · intro w hSw
          clear hSw
          go_simp
          try with_reducible rfl
        simp only [Act.put, List.setIfInBounds_toArray, List.set_cons_zero, List.set_cons_succ]
        refine wpAnyH_take (i := 6) (oi := { dst := some 15, op := .extract (.tmp 9) 0, type := _, pos := _, after := _, guard := _ }) (v := ?_) rfl (by kernel_rfl) (by kernel_rfl) (by kernel_rfl) (fun _ _ _ h => h) (Or.inl ⟨by rfl, ?_⟩) hH ?_
        rotate_left
        · intro w hSw
          clear hSw
          go_simp
          try with_reducible rfl
        simp only [Act.put, List.setIfInBounds_toArray, List.set_cons_zero, List.set_cons_succ]
        refine wpAnyH_take (i := 7) (oi := { dst := some 16, op := .extract (.tmp 9) 1, type := _, pos := _, after := _, guard := _ }) (v := ?_) rfl (by kernel_rfl) (by kernel_rfl) (by kernel_rfl) (fun _ _ _ h => h) (Or.inl ⟨by rfl, ?_⟩) hH ?_
        rotate_left
        · intro w hSw
          clear hSw
          go_simp
          try with_reducible rfl
        simp only [Act.put, List.setIfInBounds_toArray, List.set_cons_zero, List.set_cons_succ]
        refine wpAnyH_ready (rs := [8]) (by kernel_rfl) (by simp) ?_
        refine AllReadyH.cons (o := { dst := some 8, op := .alloc _, type := _, pos := _, after := _, guard := _ }) rfl (fun K hK => ?_) AllReadyH.nil
        have l659q : n ≤ u650q.heap.size := h651q.out.le
        have l660q : b < u650q.heap.size := h652q.out.lt
        have l661q : n < u650q.heap.size := h653q.out.lt
        have l662q : (n + 1) < u650q.heap.size := h654q.out.lt
        have l663q : (n + 2) < u650q.heap.size := h655q.out.lt
        have l664q : (n + 3) < u650q.heap.size := h656q.out.lt
        have l665q : u650q.heap.size ≤ u650q.heap.size := h658q.out.le
        go_simp
        have h666q : Hid (Gd n w (u650q.alloc (.cells #[.int .i64 0, .int .i64 0] 38))) := h651q.out.new (.cells #[.int .i64 0, .int .i64 0] 38)
        have h667q : Hid (Bo (u650q.alloc (.cells #[.int .i64 0, .int .i64 0] 38)) b [.func (.func 36) #[] #[]]) := h652q.out.new (.cells #[.int .i64 0, .int .i64 0] 38)
        have h668q : Hid (Bo (u650q.alloc (.cells #[.int .i64 0, .int .i64 0] 38)) n (wl c)) := h653q.out.new (.cells #[.int .i64 0, .int .i64 0] 38)
        have h669q : Hid (Bo (u650q.alloc (.cells #[.int .i64 0, .int .i64 0] 38)) (n + 1) [.int .i64 o, .int .i64 k, .int .i64 x]) := h654q.out.new (.cells #[.int .i64 0, .int .i64 0] 38)
        have h670q : Hid (Bo (u650q.alloc (.cells #[.int .i64 0, .int .i64 0] 38)) (n + 2) (wl wz)) := h655q.out.new (.cells #[.int .i64 0, .int .i64 0] 38)
        have h671q : Hid (Bo (u650q.alloc (.cells #[.int .i64 0, .int .i64 0] 38)) (n + 3) [.int .i64 0, .int .i64 0]) := h656q.out.new (.cells #[.int .i64 0, .int .i64 0] 38)
        have h672q : Hid (Li u635q.heap.size u650q.heap.size (u650q.alloc (.cells #[.int .i64 0, .int .i64 0] 38)) v2 ys) := h658q.out.new (.cells #[.int .i64 0, .int .i64 0] 38)
        clear h651q h652q h653q h654q h655q h656q h658q
        have h673q : Hid (Bo (u650q.alloc (.cells #[.int .i64 0, .int .i64 0] 38)) u650q.heap.size [.int .i64 0, .int .i64 0]) := Bo.born u650q [.int .i64 0, .int .i64 0] 38 (by simp)
        refine hK.out _ _ ⟨h667q.out, h668q.out, h669q.out⟩ (fun hH => ?_)
        clear hK K
        generalize (u650q.alloc (.cells #[.int .i64 0, .int .i64 0] 38)) = u674q at h666q h667q h668q h669q h670q h671q h672q h673q hH ⊢
        try simp only [Act.put, List.setIfInBounds_toArray, List.set_cons_zero, List.set_cons_succ]
        refine wpAnyH_take (i := 9) (oi := { dst := some 7, op := .assign (.tmp 15), type := _, pos := _, after := _, guard := _ }) (v := ?_) rfl (by kernel_rfl) (by kernel_rfl) (by kernel_rfl) (fun _ _ _ h => h) (Or.inl ⟨by rfl, ?_⟩) hH ?_
        rotate_left
        · intro w hSw
          clear hSw
          go_simp
          try with_reducible rfl
        simp only [Act.put, List.setIfInBounds_toArray, List.set_cons_zero, List.set_cons_succ]
        refine wpAnyH_ready (rs := [10]) (by kernel_rfl) (by simp) ?_
        refine AllReadyH.cons (o := { dst := none, op := .store _ (.tmp 8) (.tmp 16), type := _, pos := _, after := _, guard := _ }) rfl (fun K hK => ?_) AllReadyH.nil
        rw [if_pos (by rfl)]
        refine wp_store_mid _ _ _ rfl u650q.heap.size _ #[.int .i64 (cc), .int .i64 (y)] rfl rfl h673q.out.there2 HA.out (two_one _ _) ?_
        simp only [Act.put]
        have h675q : Hid (Gd n w (u674q.setCells u650q.heap.size 0 [.int .i64 (cc), .int .i64 (y)])) := h666q.out.asideL (by omega) 0 [.int .i64 (cc), .int .i64 (y)]
        have h676q : Hid (Bo (u674q.setCells u650q.heap.size 0 [.int .i64 (cc), .int .i64 (y)]) b [.func (.func 36) #[] #[]]) := h667q.out.asideL (by omega) 0 [.int .i64 (cc), .int .i64 (y)]
        have h677q : Hid (Bo (u674q.setCells u650q.heap.size 0 [.int .i64 (cc), .int .i64 (y)]) n (wl c)) := h668q.out.asideL (by omega) 0 [.int .i64 (cc), .int .i64 (y)]
        have h678q : Hid (Bo (u674q.setCells u650q.heap.size 0 [.int .i64 (cc), .int .i64 (y)]) (n + 1) [.int .i64 o, .int .i64 k, .int .i64 x]) := h669q.out.asideL (by omega) 0 [.int .i64 (cc), .int .i64 (y)]
        have h679q : Hid (Bo (u674q.setCells u650q.heap.size 0 [.int .i64 (cc), .int .i64 (y)]) (n + 2) (wl wz)) := h670q.out.asideL (by omega) 0 [.int .i64 (cc), .int .i64 (y)]
        have h680q : Hid (Bo (u674q.setCells u650q.heap.size 0 [.int .i64 (cc), .int .i64 (y)]) (n + 3) [.int .i64 0, .int .i64 0]) := h671q.out.asideL (by omega) 0 [.int .i64 (cc), .int .i64 (y)]
        have h681q : Hid (Li u635q.heap.size u650q.heap.size (u674q.setCells u650q.heap.size 0 [.int .i64 (cc), .int .i64 (y)]) v2 ys) := h672q.out.asideL (by omega) 0 [.int .i64 (cc), .int .i64 (y)]
        have h682q : Hid (Bo (u674q.setCells u650q.heap.size 0 [.int .i64 (cc), .int .i64 (y)]) u650q.heap.size [.int .i64 (cc), .int .i64 (y)]) := h673q.out.set2 (.int .i64 (cc)) (.int .i64 (y))
        clear h666q h667q h668q h669q h670q h671q h672q h673q
        refine hK.out _ _ ⟨h676q.out, h677q.out, h678q.out⟩ (fun hH => ?_)
        clear hK K
        generalize (u674q.setCells u650q.heap.size 0 [.int .i64 (cc), .int .i64 (y)]) = u683q at h675q h676q h677q h678q h679q h680q h681q h682q hH ⊢
        try simp only [Act.put, List.setIfInBounds_toArray, List.set_cons_zero, List.set_cons_succ]
        refine wpAnyH_done (by kernel_rfl) ?_ _
        go_wp2_with fail
        go_meet
        case rel => exact ⟨u650q.heap.size, v2, u635q.heap.size, u650q.heap.size, rfl, rfl, h675q, h679q, h680q, h682q, h681q, (by omega)⟩
      refine AllReadyH.cons (o := { dst := some 8, op := .alloc _, type := _, pos := _, after := _, guard := _ }) rfl (fun K hK => ?_) AllReadyH.nil
      have l684q : n ≤ u635q.heap.size := h636q.out.le
      have l685q : b < u635q.heap.size := h637q.out.lt
      have l686q : n < u635q.heap.size := h638q.out.lt
      have l687q : (n + 1) < u635q.heap.size := h639q.out.lt
      have l688q : (n + 2) < u635q.heap.size := h640q.out.lt
      have l689q : (n + 3) < u635q.heap.size := h641q.out.lt
      have l690q : u635q.heap.size ≤ u635q.heap.size := h642q.out.le
      go_simp
      have h691q : Hid (Gd n w (u635q.alloc (.cells #[.int .i64 0, .int .i64 0] 38))) := h636q.out.new (.cells #[.int .i64 0, .int .i64 0] 38)
      have h692q : Hid (Bo (u635q.alloc (.cells #[.int .i64 0, .int .i64 0] 38)) b [.func (.func 36) #[] #[]]) := h637q.out.new (.cells #[.int .i64 0, .int .i64 0] 38)
      have h693q : Hid (Bo (u635q.alloc (.cells #[.int .i64 0, .int .i64 0] 38)) n (wl c)) := h638q.out.new (.cells #[.int .i64 0, .int .i64 0] 38)
      have h694q : Hid (Bo (u635q.alloc (.cells #[.int .i64 0, .int .i64 0] 38)) (n + 1) [.int .i64 o, .int .i64 k, .int .i64 x]) := h639q.out.new (.cells #[.int .i64 0, .int .i64 0] 38)
      have h695q : Hid (Bo (u635q.alloc (.cells #[.int .i64 0, .int .i64 0] 38)) (n + 2) (wl wz)) := h640q.out.new (.cells #[.int .i64 0, .int .i64 0] 38)
      have h696q : Hid (Bo (u635q.alloc (.cells #[.int .i64 0, .int .i64 0] 38)) (n + 3) [.int .i64 0, .int .i64 0]) := h641q.out.new (.cells #[.int .i64 0, .int .i64 0] 38)
      have h697q : Hid (Li u630q.heap.size u635q.heap.size (u635q.alloc (.cells #[.int .i64 0, .int .i64 0] 38)) v1 xs) := h642q.out.new (.cells #[.int .i64 0, .int .i64 0] 38)
      clear h636q h637q h638q h639q h640q h641q h642q
      have h698q : Hid (Bo (u635q.alloc (.cells #[.int .i64 0, .int .i64 0] 38)) u635q.heap.size [.int .i64 0, .int .i64 0]) := Bo.born u635q [.int .i64 0, .int .i64 0] 38 (by simp)
      refine hK.out _ _ ⟨h692q.out, h693q.out, h694q.out⟩ (fun hH => ?_)
      clear hK K
      generalize (u635q.alloc (.cells #[.int .i64 0, .int .i64 0] 38)) = u699q at h691q h692q h693q h694q h695q h696q h697q h698q hH ⊢
      try simp only [Act.put, List.setIfInBounds_toArray, List.set_cons_zero, List.set_cons_succ]
      refine wpAnyH_ready (rs := [4]) (by kernel_rfl) (by simp) ?_
      refine AllReadyH.cons (o := { dst := some 14, op := _, type := _, pos := _, after := _, guard := _ }) rfl (fun K hK => ?_) AllReadyH.nil
      have l700q : n ≤ u699q.heap.size := h691q.out.le
      have l701q : b < u699q.heap.size := h692q.out.lt
      have l702q : n < u699q.heap.size := h693q.out.lt
      have l703q : (n + 1) < u699q.heap.size := h694q.out.lt
      have l704q : (n + 2) < u699q.heap.size := h695q.out.lt
      have l705q : (n + 3) < u699q.heap.size := h696q.out.lt
      have l706q : u635q.heap.size ≤ u699q.heap.size := h697q.out.le
      have l707q : u635q.heap.size < u699q.heap.size := h698q.out.lt
      go_simp
      refine (DD.out _ _ _ h697q.out.isL).mono ?_
      rintro e u708q ⟨v2, rfl, I, hb⟩
      have h709q : Hid (Gd n w u708q) := h691q.out.later hb
      have h710q : Hid (Bo u708q b [.func (.func 36) #[] #[]]) := h692q.out.later hb
      have h711q : Hid (Bo u708q n (wl c)) := h693q.out.later hb
      have h712q : Hid (Bo u708q (n + 1) [.int .i64 o, .int .i64 k, .int .i64 x]) := h694q.out.later hb
      have h713q : Hid (Bo u708q (n + 2) (wl wz)) := h695q.out.later hb
      have h714q : Hid (Bo u708q (n + 3) [.int .i64 0, .int .i64 0]) := h696q.out.later hb
      have h715q : Hid (Li u630q.heap.size u635q.heap.size u708q v1 xs) := h697q.out.later hb
      have h716q : Hid (Bo u708q u635q.heap.size [.int .i64 0, .int .i64 0]) := h698q.out.later hb
      clear h691q h692q h693q h694q h695q h696q h697q h698q
      have hi : Hid _ := I
      clear h715q
      have h717q : Hid (Li u699q.heap.size u708q.heap.size u708q v2 ys) := Li.of hi.out
      clear I hi
      clear hb
      go_wp2_with fail
      refine hK.out _ _ ⟨h710q.out, h711q.out, h712q.out⟩ (fun hH => ?_)
      clear hK K
      try simp only [Act.put, List.setIfInBounds_toArray, List.set_cons_zero, List.set_cons_succ]
      refine wpAnyH_take (i := 5) (oi := { dst := some 9, op := .move (.tmp 14), type := _, pos := _, after := _, guard := _ }) (v := ?_) rfl (by kernel_rfl) (by kernel_rfl) (by kernel_rfl) (fun _ _ _ h => h) (Or.inl ⟨by rfl, ?_⟩) hH ?_
      rotate_left
      · intro w hSw
        clear hSw
        go_simp
        try with_reducible rfl
      simp only [Act.put, List.setIfInBounds_toArray, List.set_cons_zero, List.set_cons_succ]
      refine wpAnyH_take (i := 6) (oi := { dst := some 15, op := .extract (.tmp 9) 0, type := _, pos := _, after := _, guard := _ }) (v := ?_) rfl (by kernel_rfl) (by kernel_rfl) (by kernel_rfl) (fun _ _ _ h => h) (Or.inl ⟨by rfl, ?_⟩) hH ?_
      rotate_left
      · intro w hSw
        clear hSw
        go_simp
        try with_reducible rfl
      simp only [Act.put, List.setIfInBounds_toArray, List.set_cons_zero, List.set_cons_succ]
      refine wpAnyH_take (i := 7) (oi := { dst := some 16, op := .extract (.tmp 9) 1, type := _, pos := _, after := _, guard := _ }) (v := ?_) rfl (by kernel_rfl) (by kernel_rfl) (by kernel_rfl) (fun _ _ _ h => h) (Or.inl ⟨by rfl, ?_⟩) hH ?_
      rotate_left
      · intro w hSw
        clear hSw
        go_simp
        try with_reducible rfl
      simp only [Act.put, List.setIfInBounds_toArray, List.set_cons_zero, List.set_cons_succ]
      refine wpAnyH_take (i := 9) (oi := { dst := some 7, op := .assign (.tmp 15), type := _, pos := _, after := _, guard := _ }) (v := ?_) rfl (by kernel_rfl) (by kernel_rfl) (by kernel_rfl) (fun _ _ _ h => h) (Or.inl ⟨by rfl, ?_⟩) hH ?_
      rotate_left
      · intro w hSw
        clear hSw
        go_simp
        try with_reducible rfl
      simp only [Act.put, List.setIfInBounds_toArray, List.set_cons_zero, List.set_cons_succ]
      refine wpAnyH_ready (rs := [10]) (by kernel_rfl) (by simp) ?_
      refine AllReadyH.cons (o := { dst := none, op := .store _ (.tmp 8) (.tmp 16), type := _, pos := _, after := _, guard := _ }) rfl (fun K hK => ?_) AllReadyH.nil
      rw [if_pos (by rfl)]
      refine wp_store_mid _ _ _ rfl u635q.heap.size _ #[.int .i64 (cc), .int .i64 (y)] rfl rfl h716q.out.there2 HA.out (two_one _ _) ?_
      simp only [Act.put]
      have h718q : Hid (Gd n w (u708q.setCells u635q.heap.size 0 [.int .i64 (cc), .int .i64 (y)])) := h709q.out.asideL (by omega) 0 [.int .i64 (cc), .int .i64 (y)]
      have h719q : Hid (Bo (u708q.setCells u635q.heap.size 0 [.int .i64 (cc), .int .i64 (y)]) b [.func (.func 36) #[] #[]]) := h710q.out.asideL (by omega) 0 [.int .i64 (cc), .int .i64 (y)]
      have h720q : Hid (Bo (u708q.setCells u635q.heap.size 0 [.int .i64 (cc), .int .i64 (y)]) n (wl c)) := h711q.out.asideL (by omega) 0 [.int .i64 (cc), .int .i64 (y)]
      have h721q : Hid (Bo (u708q.setCells u635q.heap.size 0 [.int .i64 (cc), .int .i64 (y)]) (n + 1) [.int .i64 o, .int .i64 k, .int .i64 x]) := h712q.out.asideL (by omega) 0 [.int .i64 (cc), .int .i64 (y)]
      have h722q : Hid (Bo (u708q.setCells u635q.heap.size 0 [.int .i64 (cc), .int .i64 (y)]) (n + 2) (wl wz)) := h713q.out.asideL (by omega) 0 [.int .i64 (cc), .int .i64 (y)]
      have h723q : Hid (Bo (u708q.setCells u635q.heap.size 0 [.int .i64 (cc), .int .i64 (y)]) (n + 3) [.int .i64 0, .int .i64 0]) := h714q.out.asideL (by omega) 0 [.int .i64 (cc), .int .i64 (y)]
      have h724q : Hid (Bo (u708q.setCells u635q.heap.size 0 [.int .i64 (cc), .int .i64 (y)]) u635q.heap.size [.int .i64 (cc), .int .i64 (y)]) := h716q.out.set2 (.int .i64 (cc)) (.int .i64 (y))
      have h725q : Hid (Li u699q.heap.size u708q.heap.size (u708q.setCells u635q.heap.size 0 [.int .i64 (cc), .int .i64 (y)]) v2 ys) := h717q.out.asideL (by omega) 0 [.int .i64 (cc), .int .i64 (y)]
      clear h709q h710q h711q h712q h713q h714q h716q h717q
      refine hK.out _ _ ⟨h719q.out, h720q.out, h721q.out⟩ (fun hH => ?_)
      clear hK K
      generalize (u708q.setCells u635q.heap.size 0 [.int .i64 (cc), .int .i64 (y)]) = u726q at h718q h719q h720q h721q h722q h723q h724q h725q hH ⊢
      try simp only [Act.put, List.setIfInBounds_toArray, List.set_cons_zero, List.set_cons_succ]
      refine wpAnyH_done (by kernel_rfl) ?_ _
      go_wp2_with fail
      go_meet
      case rel => exact ⟨u635q.heap.size, v2, u699q.heap.size, u708q.heap.size, rfl, rfl, h718q, h722q, h723q, h724q, h725q, (by omega)⟩
    refine AllReadyH.cons (o := { dst := some 8, op := .alloc _, type := _, pos := _, after := _, guard := _ }) rfl (fun K hK => ?_) AllReadyH.nil
    have l727q : n ≤ u630q.heap.size := h624q.out.le
    have l728q : b < u630q.heap.size := h625q.out.lt
    have l729q : n < u630q.heap.size := h626q.out.lt
    have l730q : (n + 1) < u630q.heap.size := h627q.out.lt
    have l731q : (n + 2) < u630q.heap.size := h628q.out.lt
    have l732q : (n + 3) < u630q.heap.size := h629q.out.lt
    go_simp
    have h733q : Hid (Gd n w (u630q.alloc (.cells #[.int .i64 0, .int .i64 0] 38))) := h624q.out.new (.cells #[.int .i64 0, .int .i64 0] 38)
    have h734q : Hid (Bo (u630q.alloc (.cells #[.int .i64 0, .int .i64 0] 38)) b [.func (.func 36) #[] #[]]) := h625q.out.new (.cells #[.int .i64 0, .int .i64 0] 38)
    have h735q : Hid (Bo (u630q.alloc (.cells #[.int .i64 0, .int .i64 0] 38)) n (wl c)) := h626q.out.new (.cells #[.int .i64 0, .int .i64 0] 38)
    have h736q : Hid (Bo (u630q.alloc (.cells #[.int .i64 0, .int .i64 0] 38)) (n + 1) [.int .i64 o, .int .i64 k, .int .i64 x]) := h627q.out.new (.cells #[.int .i64 0, .int .i64 0] 38)
    have h737q : Hid (Bo (u630q.alloc (.cells #[.int .i64 0, .int .i64 0] 38)) (n + 2) (wl wz)) := h628q.out.new (.cells #[.int .i64 0, .int .i64 0] 38)
    have h738q : Hid (Bo (u630q.alloc (.cells #[.int .i64 0, .int .i64 0] 38)) (n + 3) [.int .i64 0, .int .i64 0]) := h629q.out.new (.cells #[.int .i64 0, .int .i64 0] 38)
    clear h624q h625q h626q h627q h628q h629q
    have h739q : Hid (Bo (u630q.alloc (.cells #[.int .i64 0, .int .i64 0] 38)) u630q.heap.size [.int .i64 0, .int .i64 0]) := Bo.born u630q [.int .i64 0, .int .i64 0] 38 (by simp)
    refine hK.out _ _ ⟨h734q.out, h735q.out, h736q.out⟩ (fun hH => ?_)
    clear hK K
    generalize (u630q.alloc (.cells #[.int .i64 0, .int .i64 0] 38)) = u740q at h733q h734q h735q h736q h737q h738q h739q hH ⊢
    try simp only [Act.put, List.setIfInBounds_toArray, List.set_cons_zero, List.set_cons_succ]
    refine wpAnyH_ready (rs := [2]) (by kernel_rfl) (by simp) ?_
    refine AllReadyH.cons (o := { dst := some 12, op := _, type := _, pos := _, after := _, guard := _ }) rfl (fun K hK => ?_) AllReadyH.nil
    go_simp
    refine (LI.out _).mono ?_
    rintro e u741q ⟨v1, rfl, I, hb⟩
    have h742q : Hid (Gd n w u741q) := h733q.out.later hb
    have h743q : Hid (Bo u741q b [.func (.func 36) #[] #[]]) := h734q.out.later hb
    have h744q : Hid (Bo u741q n (wl c)) := h735q.out.later hb
    have h745q : Hid (Bo u741q (n + 1) [.int .i64 o, .int .i64 k, .int .i64 x]) := h736q.out.later hb
    have h746q : Hid (Bo u741q (n + 2) (wl wz)) := h737q.out.later hb
    have h747q : Hid (Bo u741q (n + 3) [.int .i64 0, .int .i64 0]) := h738q.out.later hb
    have h748q : Hid (Bo u741q u630q.heap.size [.int .i64 0, .int .i64 0]) := h739q.out.later hb
    clear h733q h734q h735q h736q h737q h738q h739q
    have hi : Hid _ := I
    have h749q : Hid (Li u740q.heap.size u741q.heap.size u741q v1 xs) := Li.of hi.out
    clear I hi
    clear hb
    go_wp2_with fail
    refine hK.out _ _ ⟨h743q.out, h744q.out, h745q.out⟩ (fun hH => ?_)
    clear hK K
    try simp only [Act.put, List.setIfInBounds_toArray, List.set_cons_zero, List.set_cons_succ]
    refine wpAnyH_ready (rs := [4]) (by kernel_rfl) (by simp) ?_
    refine AllReadyH.cons (o := { dst := some 14, op := _, type := _, pos := _, after := _, guard := _ }) rfl (fun K hK => ?_) AllReadyH.nil
    have l750q : n ≤ u741q.heap.size := h742q.out.le
    have l751q : b < u741q.heap.size := h743q.out.lt
    have l752q : n < u741q.heap.size := h744q.out.lt
    have l753q : (n + 1) < u741q.heap.size := h745q.out.lt
    have l754q : (n + 2) < u741q.heap.size := h746q.out.lt
    have l755q : (n + 3) < u741q.heap.size := h747q.out.lt
    have l756q : u630q.heap.size < u741q.heap.size := h748q.out.lt
    have l757q : u741q.heap.size ≤ u741q.heap.size := h749q.out.le
    go_simp
    refine (DD.out _ _ _ h749q.out.isL).mono ?_
    rintro e u758q ⟨v2, rfl, I, hb⟩
    have h759q : Hid (Gd n w u758q) := h742q.out.later hb
    have h760q : Hid (Bo u758q b [.func (.func 36) #[] #[]]) := h743q.out.later hb
    have h761q : Hid (Bo u758q n (wl c)) := h744q.out.later hb
    have h762q : Hid (Bo u758q (n + 1) [.int .i64 o, .int .i64 k, .int .i64 x]) := h745q.out.later hb
    have h763q : Hid (Bo u758q (n + 2) (wl wz)) := h746q.out.later hb
    have h764q : Hid (Bo u758q (n + 3) [.int .i64 0, .int .i64 0]) := h747q.out.later hb
    have h765q : Hid (Bo u758q u630q.heap.size [.int .i64 0, .int .i64 0]) := h748q.out.later hb
    have h766q : Hid (Li u740q.heap.size u741q.heap.size u758q v1 xs) := h749q.out.later hb
    clear h742q h743q h744q h745q h746q h747q h748q h749q
    have hi : Hid _ := I
    clear h766q
    have h767q : Hid (Li u741q.heap.size u758q.heap.size u758q v2 ys) := Li.of hi.out
    clear I hi
    clear hb
    go_wp2_with fail
    refine hK.out _ _ ⟨h760q.out, h761q.out, h762q.out⟩ (fun hH => ?_)
    clear hK K
    try simp only [Act.put, List.setIfInBounds_toArray, List.set_cons_zero, List.set_cons_succ]
    refine wpAnyH_take (i := 5) (oi := { dst := some 9, op := .move (.tmp 14), type := _, pos := _, after := _, guard := _ }) (v := ?_) rfl (by kernel_rfl) (by kernel_rfl) (by kernel_rfl) (fun _ _ _ h => h) (Or.inl ⟨by rfl, ?_⟩) hH ?_
    rotate_left
    · intro w hSw
      clear hSw
      go_simp
      try with_reducible rfl
    simp only [Act.put, List.setIfInBounds_toArray, List.set_cons_zero, List.set_cons_succ]
    refine wpAnyH_take (i := 6) (oi := { dst := some 15, op := .extract (.tmp 9) 0, type := _, pos := _, after := _, guard := _ }) (v := ?_) rfl (by kernel_rfl) (by kernel_rfl) (by kernel_rfl) (fun _ _ _ h => h) (Or.inl ⟨by rfl, ?_⟩) hH ?_
    rotate_left
    · intro w hSw
      clear hSw
      go_simp
      try with_reducible rfl
    simp only [Act.put, List.setIfInBounds_toArray, List.set_cons_zero, List.set_cons_succ]
    refine wpAnyH_take (i := 7) (oi := { dst := some 16, op := .extract (.tmp 9) 1, type := _, pos := _, after := _, guard := _ }) (v := ?_) rfl (by kernel_rfl) (by kernel_rfl) (by kernel_rfl) (fun _ _ _ h => h) (Or.inl ⟨by rfl, ?_⟩) hH ?_
    rotate_left
    · intro w hSw
      clear hSw
      go_simp
      try with_reducible rfl
    simp only [Act.put, List.setIfInBounds_toArray, List.set_cons_zero, List.set_cons_succ]
    refine wpAnyH_take (i := 9) (oi := { dst := some 7, op := .assign (.tmp 15), type := _, pos := _, after := _, guard := _ }) (v := ?_) rfl (by kernel_rfl) (by kernel_rfl) (by kernel_rfl) (fun _ _ _ h => h) (Or.inl ⟨by rfl, ?_⟩) hH ?_
    rotate_left
    · intro w hSw
      clear hSw
      go_simp
      try with_reducible rfl
    simp only [Act.put, List.setIfInBounds_toArray, List.set_cons_zero, List.set_cons_succ]
    refine wpAnyH_ready (rs := [10]) (by kernel_rfl) (by simp) ?_
    refine AllReadyH.cons (o := { dst := none, op := .store _ (.tmp 8) (.tmp 16), type := _, pos := _, after := _, guard := _ }) rfl (fun K hK => ?_) AllReadyH.nil
    rw [if_pos (by rfl)]
    refine wp_store_mid _ _ _ rfl u630q.heap.size _ #[.int .i64 (cc), .int .i64 (y)] rfl rfl h765q.out.there2 HA.out (two_one _ _) ?_
    simp only [Act.put]
    have h768q : Hid (Gd n w (u758q.setCells u630q.heap.size 0 [.int .i64 (cc), .int .i64 (y)])) := h759q.out.asideL (by omega) 0 [.int .i64 (cc), .int .i64 (y)]
    have h769q : Hid (Bo (u758q.setCells u630q.heap.size 0 [.int .i64 (cc), .int .i64 (y)]) b [.func (.func 36) #[] #[]]) := h760q.out.asideL (by omega) 0 [.int .i64 (cc), .int .i64 (y)]
    have h770q : Hid (Bo (u758q.setCells u630q.heap.size 0 [.int .i64 (cc), .int .i64 (y)]) n (wl c)) := h761q.out.asideL (by omega) 0 [.int .i64 (cc), .int .i64 (y)]
    have h771q : Hid (Bo (u758q.setCells u630q.heap.size 0 [.int .i64 (cc), .int .i64 (y)]) (n + 1) [.int .i64 o, .int .i64 k, .int .i64 x]) := h762q.out.asideL (by omega) 0 [.int .i64 (cc), .int .i64 (y)]
    have h772q : Hid (Bo (u758q.setCells u630q.heap.size 0 [.int .i64 (cc), .int .i64 (y)]) (n + 2) (wl wz)) := h763q.out.asideL (by omega) 0 [.int .i64 (cc), .int .i64 (y)]
    have h773q : Hid (Bo (u758q.setCells u630q.heap.size 0 [.int .i64 (cc), .int .i64 (y)]) (n + 3) [.int .i64 0, .int .i64 0]) := h764q.out.asideL (by omega) 0 [.int .i64 (cc), .int .i64 (y)]
    have h774q : Hid (Bo (u758q.setCells u630q.heap.size 0 [.int .i64 (cc), .int .i64 (y)]) u630q.heap.size [.int .i64 (cc), .int .i64 (y)]) := h765q.out.set2 (.int .i64 (cc)) (.int .i64 (y))
    have h775q : Hid (Li u741q.heap.size u758q.heap.size (u758q.setCells u630q.heap.size 0 [.int .i64 (cc), .int .i64 (y)]) v2 ys) := h767q.out.asideL (by omega) 0 [.int .i64 (cc), .int .i64 (y)]
    clear h759q h760q h761q h762q h763q h764q h765q h767q
    refine hK.out _ _ ⟨h769q.out, h770q.out, h771q.out⟩ (fun hH => ?_)
    clear hK K
    generalize (u758q.setCells u630q.heap.size 0 [.int .i64 (cc), .int .i64 (y)]) = u776q at h768q h769q h770q h771q h772q h773q h774q h775q hH ⊢
    try simp only [Act.put, List.setIfInBounds_toArray, List.set_cons_zero, List.set_cons_succ]
    refine wpAnyH_done (by kernel_rfl) ?_ _
    go_wp2_with fail
    go_meet
    case rel => exact ⟨u630q.heap.size, v2, u741q.heap.size, u758q.heap.size, rfl, rfl, h768q, h772q, h773q, h774q, h775q, (by omega)⟩
  case rest =>
    obtain ⟨b_b, v_l2, B_l2, E_l2, rfl, rfl, h777q, h778q, h779q, h780q, h781q, hmore⟩ := hcut
    go_wp2_with fail
    have h782q : Hid (Gd n w wc.drew) := h777q.out.drew
    have h783q : Hid (Bo wc.drew (n + 2) (wl wz)) := h778q.out.drew
    have h784q : Hid (Bo wc.drew (n + 3) [.int .i64 0, .int .i64 0]) := h779q.out.drew
    have h785q : Hid (Bo wc.drew b_b [.int .i64 (cc), .int .i64 (y)]) := h780q.out.drew
    have h786q : Hid (Li B_l2 E_l2 wc.drew v_l2 ys) := h781q.out.drew
    clear h777q h778q h779q h780q h781q
    refine wp_region_held_drew (S := fun w' => Bo w' b_b [.int .i64 (cc), .int .i64 (y)]) (by kernel_rfl) h785q.out (fun hH => ?_)
    generalize wc.drew = u787q at h782q h783q h784q h785q h786q hH ⊢
    refine wpAnyH_take (i := 0) (oi := { dst := some 17, op := .move (.tmp 7), type := _, pos := _, after := _, guard := _ }) (v := ?_) rfl (by kernel_rfl) (by kernel_rfl) (by kernel_rfl) (fun _ _ _ h => h) (Or.inl ⟨by rfl, ?_⟩) hH ?_
    rotate_left
    · intro w hSw
      clear hSw
      go_simp
      try with_reducible rfl
    simp only [Act.put, List.setIfInBounds_toArray, List.set_cons_zero, List.set_cons_succ]
    refine wpAnyH_take (i := 2) (oi := { dst := some 19, op := .load _ (.tmp 8), type := _, pos := _, after := _, guard := _ }) (v := ?_) rfl (by kernel_rfl) (by kernel_rfl) (by kernel_rfl) (fun _ _ _ h => h) (Or.inl ⟨by rfl, ?_⟩) hH ?_
    rotate_left
    · intro w hSw
      have c788q := (hSw).at 0 rfl
      have c789q := (hSw).at 1 rfl
      clear hSw
      go_simp
      try with_reducible rfl
    simp only [Act.put, List.setIfInBounds_toArray, List.set_cons_zero, List.set_cons_succ]
    refine wpAnyH_ready (rs := [1]) (by kernel_rfl) (by simp) ?_
    refine AllReadyH.cons (o := { dst := some 18, op := _, type := _, pos := _, after := _, guard := _ }) rfl (fun K hK => ?_) AllReadyH.nil
    go_simp
    refine (LW.out _ _ _ h786q.out.isL).mono ?_
    rintro e u790q ⟨rfl, hb⟩
    have h791q : Hid (Gd n w u790q) := h782q.out.later hb
    have h792q : Hid (Bo u790q (n + 2) (wl wz)) := h783q.out.later hb
    have h793q : Hid (Bo u790q (n + 3) [.int .i64 0, .int .i64 0]) := h784q.out.later hb
    have h794q : Hid (Bo u790q b_b [.int .i64 (cc), .int .i64 (y)]) := h785q.out.later hb
    have h795q : Hid (Li B_l2 E_l2 u790q v_l2 ys) := h786q.out.later hb
    clear h782q h783q h784q h785q h786q
    clear h795q
    clear hb
    go_wp2_with fail
    refine hK.out _ _ h794q.out (fun hH => ?_)
    clear hK K
    try simp only [Act.put, List.setIfInBounds_toArray, List.set_cons_zero, List.set_cons_succ]
    refine wpAnyH_ready (rs := [3]) (by kernel_rfl) (by simp) ?_
    refine AllReadyH.cons (o := { dst := none, op := .store _ (.tmp 5) (.tmp 18), type := _, pos := _, after := _, guard := _ }) rfl (fun K hK => ?_) AllReadyH.nil
    rw [if_pos (by rfl)]
    refine wp_store_mid _ _ _ rfl (n + 2) _ (wl (lw ys)).toArray rfl rfl (h792q.out.thereW (lw ys)) (HCZ.out (lw ys)) (wl_all (lw ys)) ?_
    simp only [Act.put]
    have h796q : Hid (Gd n w (u790q.setCells (n + 2) 0 (wl (lw ys)))) := h791q.out.asideL (by omega) 0 (wl (lw ys))
    have h797q : Hid (Bo (u790q.setCells (n + 2) 0 (wl (lw ys))) (n + 2) (wl (lw ys))) := h792q.out.setW (lw ys)
    have h798q : Hid (Bo (u790q.setCells (n + 2) 0 (wl (lw ys))) (n + 3) [.int .i64 0, .int .i64 0]) := h793q.out.asideL (by omega) 0 (wl (lw ys))
    have h799q : Hid (Bo (u790q.setCells (n + 2) 0 (wl (lw ys))) b_b [.int .i64 (cc), .int .i64 (y)]) := h794q.out.asideL (by omega) 0 (wl (lw ys))
    clear h791q h792q h793q h794q
    refine hK.out _ _ h799q.out (fun hH => ?_)
    clear hK K
    generalize (u790q.setCells (n + 2) 0 (wl (lw ys))) = u800q at h796q h797q h798q h799q hH ⊢
    try simp only [Act.put, List.setIfInBounds_toArray, List.set_cons_zero, List.set_cons_succ]
    refine wpAnyH_ready (rs := [4]) (by kernel_rfl) (by simp) ?_
    refine AllReadyH.cons (o := { dst := none, op := .store _ (.tmp 6) (.tmp 19), type := _, pos := _, after := _, guard := _ }) rfl (fun K hK => ?_) AllReadyH.nil
    rw [if_pos (by rfl)]
    refine wp_store_mid _ _ _ rfl (n + 3) _ #[.int .i64 (cc), .int .i64 (y)] rfl rfl h798q.out.there2 HA.out (two_one _ _) ?_
    simp only [Act.put]
    have h801q : Hid (Gd n w (u800q.setCells (n + 3) 0 [.int .i64 (cc), .int .i64 (y)])) := h796q.out.asideL (by omega) 0 [.int .i64 (cc), .int .i64 (y)]
    have h802q : Hid (Bo (u800q.setCells (n + 3) 0 [.int .i64 (cc), .int .i64 (y)]) (n + 2) (wl (lw ys))) := h797q.out.asideL (by omega) 0 [.int .i64 (cc), .int .i64 (y)]
    have h803q : Hid (Bo (u800q.setCells (n + 3) 0 [.int .i64 (cc), .int .i64 (y)]) (n + 3) [.int .i64 (cc), .int .i64 (y)]) := h798q.out.set2 (.int .i64 (cc)) (.int .i64 (y))
    have h804q : Hid (Bo (u800q.setCells (n + 3) 0 [.int .i64 (cc), .int .i64 (y)]) b_b [.int .i64 (cc), .int .i64 (y)]) := h799q.out.asideL (by omega) 0 [.int .i64 (cc), .int .i64 (y)]
    clear h796q h797q h798q h799q
    refine hK.out _ _ h804q.out (fun hH => ?_)
    clear hK K
    generalize (u800q.setCells (n + 3) 0 [.int .i64 (cc), .int .i64 (y)]) = u805q at h801q h802q h803q h804q hH ⊢
    try simp only [Act.put, List.setIfInBounds_toArray, List.set_cons_zero, List.set_cons_succ]
    refine wpAnyH_done (by kernel_rfl) ?_ _
    go_wp2
    exact bodyPost_ret (results_row2 Tryd.results50 _ _ (n + 2) (n + 3) (wl (lw ys)) [.int .i64 (cc), .int .i64 (y)] _ _ rfl rfl h802q.out.range HC.out rfl (HCS.out (lw ys)) h803q.out.range HDA.out rfl HA.out) rfl ⟨rfl, by first | exact h801q.out.low | exact h801q.out.2⟩
set_option maxHeartbeats 4000000 in
theorem wlist_s {c : Nat → Nat} {b : Nat} {ys : List Int} {o k x cc y : Int} (hW : WList c) (hD : ∀ B W v, IsL B W v (lst c) → Calls Tryd.prog 37 #[v, .agg #[.int .i64 o, .int .i64 k, .int .i64 x]] W (Made W ys cc y)) (hl : ys.length ≤ 6) (hv : ∀ z ∈ ys, 0 ≤ z ∧ z ≤ 4294967295) (w : World) (hb : Bo w b [fv 37]) :
    Calls Tryd.prog 50 #[.agg (wl c).toArray, .agg #[.int .i64 o, .int .i64 k, .int .i64 x], .pointer (some ⟨b, 0, none⟩)] w (fun e w' => e = .returned (.tuple #[.agg (wl (lw ys)).toArray, .agg #[.int .i64 cc, .int .i64 y]]) ∧ Below w.heap.size w w') := by
  have HA : Hid ((Tryd.prog.info? 38).map (·.size) = some 2) := answer_sz
  obtain ⟨fs, ha⟩ := answer_st
  have HDA : Hid _ := ha
  clear ha
  obtain ⟨nb, eb, hd⟩ := cells_array
  have HC : Hid _ := hd
  clear hd
  have HCS : Hid _ := cells_size
  have HCZ : Hid _ := cells_size2
  have g0 : Hid (Gd w.heap.size w w) := Gd.refl w
  have LI : Hid (∀ w : World, _) := fun w => list_is hW w
  have DD : Hid _ := hD
  have LW : Hid (∀ B W v, IsL B W v ys → _) := fun B W v h => listWords_is (B := B) (w := W) (v := v) h hl hv
  generalize lst c = xs at *
  clear hW hD hl hv
  have hlt := hb.lt
  have h806q : Hid (Bo w b [.func (.func 37) #[] #[]]) := hb
  clear hb
  have h807q : Hid (Gd w.heap.size w (w.alloc (.cells (wl c).toArray 24))) := g0.out.new (.cells (wl c).toArray 24)
  have h808q : Hid (Bo (w.alloc (.cells (wl c).toArray 24)) b [.func (.func 37) #[] #[]]) := h806q.out.new (.cells (wl c).toArray 24)
  clear g0 h806q
  have h809q : Hid (Bo (w.alloc (.cells (wl c).toArray 24)) w.heap.size (wl c)) := Bo.born w (wl c) 24 (by simp)
  have h810q : Hid (Gd w.heap.size w ((w.alloc (.cells (wl c).toArray 24)).alloc (.cells #[.int .i64 o, .int .i64 k, .int .i64 x] 26))) := h807q.out.new (.cells #[.int .i64 o, .int .i64 k, .int .i64 x] 26)
  have h811q : Hid (Bo ((w.alloc (.cells (wl c).toArray 24)).alloc (.cells #[.int .i64 o, .int .i64 k, .int .i64 x] 26)) b [.func (.func 37) #[] #[]]) := h808q.out.new (.cells #[.int .i64 o, .int .i64 k, .int .i64 x] 26)
  have h812q : Hid (Bo ((w.alloc (.cells (wl c).toArray 24)).alloc (.cells #[.int .i64 o, .int .i64 k, .int .i64 x] 26)) w.heap.size (wl c)) := h809q.out.new (.cells #[.int .i64 o, .int .i64 k, .int .i64 x] 26)
  clear h807q h808q h809q
  have h813q : Hid (Bo ((w.alloc (.cells (wl c).toArray 24)).alloc (.cells #[.int .i64 o, .int .i64 k, .int .i64 x] 26)) (w.heap.size + 1) [.int .i64 o, .int .i64 k, .int .i64 x]) := Bo.born (w.alloc (.cells (wl c).toArray 24)) [.int .i64 o, .int .i64 k, .int .i64 x] 26 (by simp)
  have h814q : Hid (Gd w.heap.size w (((w.alloc (.cells (wl c).toArray 24)).alloc (.cells #[.int .i64 o, .int .i64 k, .int .i64 x] 26)).alloc (.cells #[.int .u64 0, .int .u64 0, .int .u64 0, .int .u64 0, .int .u64 0, .int .u64 0, .int .u64 0, .int .u64 0, .int .u64 0, .int .u64 0, .int .u64 0, .int .u64 0, .int .u64 0, .int .u64 0, .int .u64 0, .int .u64 0, .int .u64 0] 24))) := h810q.out.new (.cells #[.int .u64 0, .int .u64 0, .int .u64 0, .int .u64 0, .int .u64 0, .int .u64 0, .int .u64 0, .int .u64 0, .int .u64 0, .int .u64 0, .int .u64 0, .int .u64 0, .int .u64 0, .int .u64 0, .int .u64 0, .int .u64 0, .int .u64 0] 24)
  have h815q : Hid (Bo (((w.alloc (.cells (wl c).toArray 24)).alloc (.cells #[.int .i64 o, .int .i64 k, .int .i64 x] 26)).alloc (.cells #[.int .u64 0, .int .u64 0, .int .u64 0, .int .u64 0, .int .u64 0, .int .u64 0, .int .u64 0, .int .u64 0, .int .u64 0, .int .u64 0, .int .u64 0, .int .u64 0, .int .u64 0, .int .u64 0, .int .u64 0, .int .u64 0, .int .u64 0] 24)) b [.func (.func 37) #[] #[]]) := h811q.out.new (.cells #[.int .u64 0, .int .u64 0, .int .u64 0, .int .u64 0, .int .u64 0, .int .u64 0, .int .u64 0, .int .u64 0, .int .u64 0, .int .u64 0, .int .u64 0, .int .u64 0, .int .u64 0, .int .u64 0, .int .u64 0, .int .u64 0, .int .u64 0] 24)
  have h816q : Hid (Bo (((w.alloc (.cells (wl c).toArray 24)).alloc (.cells #[.int .i64 o, .int .i64 k, .int .i64 x] 26)).alloc (.cells #[.int .u64 0, .int .u64 0, .int .u64 0, .int .u64 0, .int .u64 0, .int .u64 0, .int .u64 0, .int .u64 0, .int .u64 0, .int .u64 0, .int .u64 0, .int .u64 0, .int .u64 0, .int .u64 0, .int .u64 0, .int .u64 0, .int .u64 0] 24)) w.heap.size (wl c)) := h812q.out.new (.cells #[.int .u64 0, .int .u64 0, .int .u64 0, .int .u64 0, .int .u64 0, .int .u64 0, .int .u64 0, .int .u64 0, .int .u64 0, .int .u64 0, .int .u64 0, .int .u64 0, .int .u64 0, .int .u64 0, .int .u64 0, .int .u64 0, .int .u64 0] 24)
  have h817q : Hid (Bo (((w.alloc (.cells (wl c).toArray 24)).alloc (.cells #[.int .i64 o, .int .i64 k, .int .i64 x] 26)).alloc (.cells #[.int .u64 0, .int .u64 0, .int .u64 0, .int .u64 0, .int .u64 0, .int .u64 0, .int .u64 0, .int .u64 0, .int .u64 0, .int .u64 0, .int .u64 0, .int .u64 0, .int .u64 0, .int .u64 0, .int .u64 0, .int .u64 0, .int .u64 0] 24)) (w.heap.size + 1) [.int .i64 o, .int .i64 k, .int .i64 x]) := h813q.out.new (.cells #[.int .u64 0, .int .u64 0, .int .u64 0, .int .u64 0, .int .u64 0, .int .u64 0, .int .u64 0, .int .u64 0, .int .u64 0, .int .u64 0, .int .u64 0, .int .u64 0, .int .u64 0, .int .u64 0, .int .u64 0, .int .u64 0, .int .u64 0] 24)
  clear h810q h811q h812q h813q
  have h818q : Hid (Bo (((w.alloc (.cells (wl c).toArray 24)).alloc (.cells #[.int .i64 o, .int .i64 k, .int .i64 x] 26)).alloc (.cells #[.int .u64 0, .int .u64 0, .int .u64 0, .int .u64 0, .int .u64 0, .int .u64 0, .int .u64 0, .int .u64 0, .int .u64 0, .int .u64 0, .int .u64 0, .int .u64 0, .int .u64 0, .int .u64 0, .int .u64 0, .int .u64 0, .int .u64 0] 24)) (w.heap.size + 2) (wl wz)) := Bo.born ((w.alloc (.cells (wl c).toArray 24)).alloc (.cells #[.int .i64 o, .int .i64 k, .int .i64 x] 26)) (wl wz) 24 (by simp)
  have h819q : Hid (Gd w.heap.size w ((((w.alloc (.cells (wl c).toArray 24)).alloc (.cells #[.int .i64 o, .int .i64 k, .int .i64 x] 26)).alloc (.cells #[.int .u64 0, .int .u64 0, .int .u64 0, .int .u64 0, .int .u64 0, .int .u64 0, .int .u64 0, .int .u64 0, .int .u64 0, .int .u64 0, .int .u64 0, .int .u64 0, .int .u64 0, .int .u64 0, .int .u64 0, .int .u64 0, .int .u64 0] 24)).alloc (.cells #[.int .i64 0, .int .i64 0] 38))) := h814q.out.new (.cells #[.int .i64 0, .int .i64 0] 38)
  have h820q : Hid (Bo ((((w.alloc (.cells (wl c).toArray 24)).alloc (.cells #[.int .i64 o, .int .i64 k, .int .i64 x] 26)).alloc (.cells #[.int .u64 0, .int .u64 0, .int .u64 0, .int .u64 0, .int .u64 0, .int .u64 0, .int .u64 0, .int .u64 0, .int .u64 0, .int .u64 0, .int .u64 0, .int .u64 0, .int .u64 0, .int .u64 0, .int .u64 0, .int .u64 0, .int .u64 0] 24)).alloc (.cells #[.int .i64 0, .int .i64 0] 38)) b [.func (.func 37) #[] #[]]) := h815q.out.new (.cells #[.int .i64 0, .int .i64 0] 38)
  have h821q : Hid (Bo ((((w.alloc (.cells (wl c).toArray 24)).alloc (.cells #[.int .i64 o, .int .i64 k, .int .i64 x] 26)).alloc (.cells #[.int .u64 0, .int .u64 0, .int .u64 0, .int .u64 0, .int .u64 0, .int .u64 0, .int .u64 0, .int .u64 0, .int .u64 0, .int .u64 0, .int .u64 0, .int .u64 0, .int .u64 0, .int .u64 0, .int .u64 0, .int .u64 0, .int .u64 0] 24)).alloc (.cells #[.int .i64 0, .int .i64 0] 38)) w.heap.size (wl c)) := h816q.out.new (.cells #[.int .i64 0, .int .i64 0] 38)
  have h822q : Hid (Bo ((((w.alloc (.cells (wl c).toArray 24)).alloc (.cells #[.int .i64 o, .int .i64 k, .int .i64 x] 26)).alloc (.cells #[.int .u64 0, .int .u64 0, .int .u64 0, .int .u64 0, .int .u64 0, .int .u64 0, .int .u64 0, .int .u64 0, .int .u64 0, .int .u64 0, .int .u64 0, .int .u64 0, .int .u64 0, .int .u64 0, .int .u64 0, .int .u64 0, .int .u64 0] 24)).alloc (.cells #[.int .i64 0, .int .i64 0] 38)) (w.heap.size + 1) [.int .i64 o, .int .i64 k, .int .i64 x]) := h817q.out.new (.cells #[.int .i64 0, .int .i64 0] 38)
  have h823q : Hid (Bo ((((w.alloc (.cells (wl c).toArray 24)).alloc (.cells #[.int .i64 o, .int .i64 k, .int .i64 x] 26)).alloc (.cells #[.int .u64 0, .int .u64 0, .int .u64 0, .int .u64 0, .int .u64 0, .int .u64 0, .int .u64 0, .int .u64 0, .int .u64 0, .int .u64 0, .int .u64 0, .int .u64 0, .int .u64 0, .int .u64 0, .int .u64 0, .int .u64 0, .int .u64 0] 24)).alloc (.cells #[.int .i64 0, .int .i64 0] 38)) (w.heap.size + 2) (wl wz)) := h818q.out.new (.cells #[.int .i64 0, .int .i64 0] 38)
  clear h814q h815q h816q h817q h818q
  have h824q : Hid (Bo ((((w.alloc (.cells (wl c).toArray 24)).alloc (.cells #[.int .i64 o, .int .i64 k, .int .i64 x] 26)).alloc (.cells #[.int .u64 0, .int .u64 0, .int .u64 0, .int .u64 0, .int .u64 0, .int .u64 0, .int .u64 0, .int .u64 0, .int .u64 0, .int .u64 0, .int .u64 0, .int .u64 0, .int .u64 0, .int .u64 0, .int .u64 0, .int .u64 0, .int .u64 0] 24)).alloc (.cells #[.int .i64 0, .int .i64 0] 38)) (w.heap.size + 3) [.int .i64 0, .int .i64 0]) := Bo.born (((w.alloc (.cells (wl c).toArray 24)).alloc (.cells #[.int .i64 o, .int .i64 k, .int .i64 x] 26)).alloc (.cells #[.int .u64 0, .int .u64 0, .int .u64 0, .int .u64 0, .int .u64 0, .int .u64 0, .int .u64 0, .int .u64 0, .int .u64 0, .int .u64 0, .int .u64 0, .int .u64 0, .int .u64 0, .int .u64 0, .int .u64 0, .int .u64 0, .int .u64 0] 24)) [.int .i64 0, .int .i64 0] 38 (by simp)
  go_enter Tryd.func50, Tryd.ntmps50
  go_wp2_with fail
  generalize ((((w.alloc (.cells (wl c).toArray 24)).alloc (.cells #[.int .i64 o, .int .i64 k, .int .i64 x] 26)).alloc (.cells #[.int .u64 0, .int .u64 0, .int .u64 0, .int .u64 0, .int .u64 0, .int .u64 0, .int .u64 0, .int .u64 0, .int .u64 0, .int .u64 0, .int .u64 0, .int .u64 0, .int .u64 0, .int .u64 0, .int .u64 0, .int .u64 0, .int .u64 0] 24)).alloc (.cells #[.int .i64 0, .int .i64 0] 38)) = W at h819q h820q h821q h822q h823q h824q ⊢
  generalize hsz : w.heap.size = n at h819q h820q h821q h822q h823q h824q hlt ⊢
  have HSZ : Hid (w.heap.size = n) := hsz
  clear hsz
  go_cut [7, 8] (fun s7 s8 wx => ∃ b_b : Nat, ∃ v_l2 : Value, ∃ B_l2 E_l2 : Nat, s8 = .pointer (some ⟨b_b, 0, none⟩) ∧ v_l2 = s7 ∧ Hid (Gd n w wx) ∧ Hid (Bo wx (n + 2) (wl wz)) ∧ Hid (Bo wx (n + 3) [.int .i64 0, .int .i64 0]) ∧ Hid (Bo wx b_b [.int .i64 (cc), .int .i64 (y)]) ∧ Hid (Li B_l2 E_l2 wx v_l2 ys) ∧ (n + 3 < b_b))
  case first =>
    have h825q : Hid (Gd n w W.drew) := h819q.out.drew
    have h826q : Hid (Bo W.drew b [.func (.func 37) #[] #[]]) := h820q.out.drew
    have h827q : Hid (Bo W.drew n (wl c)) := h821q.out.drew
    have h828q : Hid (Bo W.drew (n + 1) [.int .i64 o, .int .i64 k, .int .i64 x]) := h822q.out.drew
    have h829q : Hid (Bo W.drew (n + 2) (wl wz)) := h823q.out.drew
    have h830q : Hid (Bo W.drew (n + 3) [.int .i64 0, .int .i64 0]) := h824q.out.drew
    clear h819q h820q h821q h822q h823q h824q
    refine wp_region_held_drew (S := fun w' => Bo w' b [.func (.func 37) #[] #[]] ∧ Bo w' n (wl c) ∧ Bo w' (n + 1) [.int .i64 o, .int .i64 k, .int .i64 x]) (by kernel_rfl) ⟨h826q.out, h827q.out, h828q.out⟩ (fun hH => ?_)
    generalize W.drew = u831q at h825q h826q h827q h828q h829q h830q hH ⊢
    refine wpAnyH_take (i := 0) (oi := { dst := some 10, op := .load _ (.tmp 2), type := _, pos := _, after := _, guard := _ }) (v := ?_) rfl (by kernel_rfl) (by kernel_rfl) (by kernel_rfl) (fun _ _ _ h => h) (Or.inl ⟨by rfl, ?_⟩) hH ?_
    rotate_left
    · intro w hSw
      have c832q := (hSw.1).at 0 rfl
      clear hSw
      go_simp
      try with_reducible rfl
    simp only [Act.put, List.setIfInBounds_toArray, List.set_cons_zero, List.set_cons_succ]
    refine wpAnyH_take (i := 1) (oi := { dst := some 11, op := .load _ (.tmp 3), type := _, pos := _, after := _, guard := _ }) (v := _) rfl (by kernel_rfl) (by kernel_rfl) (by kernel_rfl) (fun _ _ _ h => h) (yieldsIf_load_mid (by rfl) _ _ rfl n _ rfl (wl c) _ (fun _ h => (h.2.1).range) HC.out rfl (HCS.out c)) hH ?_
    simp only [Act.put, List.setIfInBounds_toArray, List.set_cons_zero, List.set_cons_succ]
    refine wpAnyH_take (i := 3) (oi := { dst := some 13, op := .load _ (.tmp 4), type := _, pos := _, after := _, guard := _ }) (v := ?_) rfl (by kernel_rfl) (by kernel_rfl) (by kernel_rfl) (fun _ _ _ h => h) (Or.inl ⟨by rfl, ?_⟩) hH ?_
    rotate_left
    · intro w hSw
      have c833q := (hSw.2.2).at 0 rfl
      have c834q := (hSw.2.2).at 1 rfl
      have c835q := (hSw.2.2).at 2 rfl
      clear hSw
      go_simp
      try with_reducible rfl
    simp only [Act.put, List.setIfInBounds_toArray, List.set_cons_zero, List.set_cons_succ]
    refine wpAnyH_ready (rs := [2, 8]) (by kernel_rfl) (by simp) ?_
    refine AllReadyH.cons (o := { dst := some 12, op := _, type := _, pos := _, after := _, guard := _ }) rfl (fun K hK => ?_) ?_
    · go_simp
      refine (LI.out _).mono ?_
      rintro e u836q ⟨v1, rfl, I, hb⟩
      have h837q : Hid (Gd n w u836q) := h825q.out.later hb
      have h838q : Hid (Bo u836q b [.func (.func 37) #[] #[]]) := h826q.out.later hb
      have h839q : Hid (Bo u836q n (wl c)) := h827q.out.later hb
      have h840q : Hid (Bo u836q (n + 1) [.int .i64 o, .int .i64 k, .int .i64 x]) := h828q.out.later hb
      have h841q : Hid (Bo u836q (n + 2) (wl wz)) := h829q.out.later hb
      have h842q : Hid (Bo u836q (n + 3) [.int .i64 0, .int .i64 0]) := h830q.out.later hb
      clear h825q h826q h827q h828q h829q h830q
      have hi : Hid _ := I
      have h843q : Hid (Li u831q.heap.size u836q.heap.size u836q v1 xs) := Li.of hi.out
      clear I hi
      clear hb
      go_wp2_with fail
      refine hK.out _ _ ⟨h838q.out, h839q.out, h840q.out⟩ (fun hH => ?_)
      clear hK K
      try simp only [Act.put, List.setIfInBounds_toArray, List.set_cons_zero, List.set_cons_succ]
      refine wpAnyH_ready (rs := [4, 8]) (by kernel_rfl) (by simp) ?_
      refine AllReadyH.cons (o := { dst := some 14, op := _, type := _, pos := _, after := _, guard := _ }) rfl (fun K hK => ?_) ?_
      · have l844q : n ≤ u836q.heap.size := h837q.out.le
        have l845q : b < u836q.heap.size := h838q.out.lt
        have l846q : n < u836q.heap.size := h839q.out.lt
        have l847q : (n + 1) < u836q.heap.size := h840q.out.lt
        have l848q : (n + 2) < u836q.heap.size := h841q.out.lt
        have l849q : (n + 3) < u836q.heap.size := h842q.out.lt
        have l850q : u836q.heap.size ≤ u836q.heap.size := h843q.out.le
        go_simp
        refine (DD.out _ _ _ h843q.out.isL).mono ?_
        rintro e u851q ⟨v2, rfl, I, hb⟩
        have h852q : Hid (Gd n w u851q) := h837q.out.later hb
        have h853q : Hid (Bo u851q b [.func (.func 37) #[] #[]]) := h838q.out.later hb
        have h854q : Hid (Bo u851q n (wl c)) := h839q.out.later hb
        have h855q : Hid (Bo u851q (n + 1) [.int .i64 o, .int .i64 k, .int .i64 x]) := h840q.out.later hb
        have h856q : Hid (Bo u851q (n + 2) (wl wz)) := h841q.out.later hb
        have h857q : Hid (Bo u851q (n + 3) [.int .i64 0, .int .i64 0]) := h842q.out.later hb
        have h858q : Hid (Li u831q.heap.size u836q.heap.size u851q v1 xs) := h843q.out.later hb
        clear h837q h838q h839q h840q h841q h842q h843q
        have hi : Hid _ := I
        clear h858q
        have h859q : Hid (Li u836q.heap.size u851q.heap.size u851q v2 ys) := Li.of hi.out
        clear I hi
        clear hb
        go_wp2_with fail
        refine hK.out _ _ ⟨h853q.out, h854q.out, h855q.out⟩ (fun hH => ?_)
        clear hK K
        try simp only [Act.put, List.setIfInBounds_toArray, List.set_cons_zero, List.set_cons_succ]
        refine wpAnyH_take (i := 5) (oi := { dst := some 9, op := .move (.tmp 14), type := _, pos := _, after := _, guard := _ }) (v := ?_) rfl (by kernel_rfl) (by kernel_rfl) (by kernel_rfl) (fun _ _ _ h => h) (Or.inl ⟨by rfl, ?_⟩) hH ?_
        rotate_left
        · intro w hSw
          clear hSw
          go_simp
          try with_reducible rfl
        simp only [Act.put, List.setIfInBounds_toArray, List.set_cons_zero, List.set_cons_succ]
        refine wpAnyH_take (i := 6) (oi := { dst := some 15, op := .extract (.tmp 9) 0, type := _, pos := _, after := _, guard := _ }) (v := ?_) rfl (by kernel_rfl) (by kernel_rfl) (by kernel_rfl) (fun _ _ _ h => h) (Or.inl ⟨by rfl, ?_⟩) hH ?_
        rotate_left
        · intro w hSw
          clear hSw
          go_simp
          try with_reducible rfl
        simp only [Act.put, List.setIfInBounds_toArray, List.set_cons_zero, List.set_cons_succ]
        refine wpAnyH_take (i := 7) (oi := { dst := some 16, op := .extract (.tmp 9) 1, type := _, pos := _, after := _, guard := _ }) (v := ?_) rfl (by kernel_rfl) (by kernel_rfl) (by kernel_rfl) (fun _ _ _ h => h) (Or.inl ⟨by rfl, ?_⟩) hH ?_
        rotate_left
        · intro w hSw
          clear hSw
          go_simp
          try with_reducible rfl
        simp only [Act.put, List.setIfInBounds_toArray, List.set_cons_zero, List.set_cons_succ]
        refine wpAnyH_ready (rs := [8]) (by kernel_rfl) (by simp) ?_
        refine AllReadyH.cons (o := { dst := some 8, op := .alloc _, type := _, pos := _, after := _, guard := _ }) rfl (fun K hK => ?_) AllReadyH.nil
        have l860q : n ≤ u851q.heap.size := h852q.out.le
        have l861q : b < u851q.heap.size := h853q.out.lt
        have l862q : n < u851q.heap.size := h854q.out.lt
        have l863q : (n + 1) < u851q.heap.size := h855q.out.lt
        have l864q : (n + 2) < u851q.heap.size := h856q.out.lt
        have l865q : (n + 3) < u851q.heap.size := h857q.out.lt
        have l866q : u851q.heap.size ≤ u851q.heap.size := h859q.out.le
        go_simp
        have h867q : Hid (Gd n w (u851q.alloc (.cells #[.int .i64 0, .int .i64 0] 38))) := h852q.out.new (.cells #[.int .i64 0, .int .i64 0] 38)
        have h868q : Hid (Bo (u851q.alloc (.cells #[.int .i64 0, .int .i64 0] 38)) b [.func (.func 37) #[] #[]]) := h853q.out.new (.cells #[.int .i64 0, .int .i64 0] 38)
        have h869q : Hid (Bo (u851q.alloc (.cells #[.int .i64 0, .int .i64 0] 38)) n (wl c)) := h854q.out.new (.cells #[.int .i64 0, .int .i64 0] 38)
        have h870q : Hid (Bo (u851q.alloc (.cells #[.int .i64 0, .int .i64 0] 38)) (n + 1) [.int .i64 o, .int .i64 k, .int .i64 x]) := h855q.out.new (.cells #[.int .i64 0, .int .i64 0] 38)
        have h871q : Hid (Bo (u851q.alloc (.cells #[.int .i64 0, .int .i64 0] 38)) (n + 2) (wl wz)) := h856q.out.new (.cells #[.int .i64 0, .int .i64 0] 38)
        have h872q : Hid (Bo (u851q.alloc (.cells #[.int .i64 0, .int .i64 0] 38)) (n + 3) [.int .i64 0, .int .i64 0]) := h857q.out.new (.cells #[.int .i64 0, .int .i64 0] 38)
        have h873q : Hid (Li u836q.heap.size u851q.heap.size (u851q.alloc (.cells #[.int .i64 0, .int .i64 0] 38)) v2 ys) := h859q.out.new (.cells #[.int .i64 0, .int .i64 0] 38)
        clear h852q h853q h854q h855q h856q h857q h859q
        have h874q : Hid (Bo (u851q.alloc (.cells #[.int .i64 0, .int .i64 0] 38)) u851q.heap.size [.int .i64 0, .int .i64 0]) := Bo.born u851q [.int .i64 0, .int .i64 0] 38 (by simp)
        refine hK.out _ _ ⟨h868q.out, h869q.out, h870q.out⟩ (fun hH => ?_)
        clear hK K
        generalize (u851q.alloc (.cells #[.int .i64 0, .int .i64 0] 38)) = u875q at h867q h868q h869q h870q h871q h872q h873q h874q hH ⊢
        try simp only [Act.put, List.setIfInBounds_toArray, List.set_cons_zero, List.set_cons_succ]
        refine wpAnyH_take (i := 9) (oi := { dst := some 7, op := .assign (.tmp 15), type := _, pos := _, after := _, guard := _ }) (v := ?_) rfl (by kernel_rfl) (by kernel_rfl) (by kernel_rfl) (fun _ _ _ h => h) (Or.inl ⟨by rfl, ?_⟩) hH ?_
        rotate_left
        · intro w hSw
          clear hSw
          go_simp
          try with_reducible rfl
        simp only [Act.put, List.setIfInBounds_toArray, List.set_cons_zero, List.set_cons_succ]
        refine wpAnyH_ready (rs := [10]) (by kernel_rfl) (by simp) ?_
        refine AllReadyH.cons (o := { dst := none, op := .store _ (.tmp 8) (.tmp 16), type := _, pos := _, after := _, guard := _ }) rfl (fun K hK => ?_) AllReadyH.nil
        rw [if_pos (by rfl)]
        refine wp_store_mid _ _ _ rfl u851q.heap.size _ #[.int .i64 (cc), .int .i64 (y)] rfl rfl h874q.out.there2 HA.out (two_one _ _) ?_
        simp only [Act.put]
        have h876q : Hid (Gd n w (u875q.setCells u851q.heap.size 0 [.int .i64 (cc), .int .i64 (y)])) := h867q.out.asideL (by omega) 0 [.int .i64 (cc), .int .i64 (y)]
        have h877q : Hid (Bo (u875q.setCells u851q.heap.size 0 [.int .i64 (cc), .int .i64 (y)]) b [.func (.func 37) #[] #[]]) := h868q.out.asideL (by omega) 0 [.int .i64 (cc), .int .i64 (y)]
        have h878q : Hid (Bo (u875q.setCells u851q.heap.size 0 [.int .i64 (cc), .int .i64 (y)]) n (wl c)) := h869q.out.asideL (by omega) 0 [.int .i64 (cc), .int .i64 (y)]
        have h879q : Hid (Bo (u875q.setCells u851q.heap.size 0 [.int .i64 (cc), .int .i64 (y)]) (n + 1) [.int .i64 o, .int .i64 k, .int .i64 x]) := h870q.out.asideL (by omega) 0 [.int .i64 (cc), .int .i64 (y)]
        have h880q : Hid (Bo (u875q.setCells u851q.heap.size 0 [.int .i64 (cc), .int .i64 (y)]) (n + 2) (wl wz)) := h871q.out.asideL (by omega) 0 [.int .i64 (cc), .int .i64 (y)]
        have h881q : Hid (Bo (u875q.setCells u851q.heap.size 0 [.int .i64 (cc), .int .i64 (y)]) (n + 3) [.int .i64 0, .int .i64 0]) := h872q.out.asideL (by omega) 0 [.int .i64 (cc), .int .i64 (y)]
        have h882q : Hid (Li u836q.heap.size u851q.heap.size (u875q.setCells u851q.heap.size 0 [.int .i64 (cc), .int .i64 (y)]) v2 ys) := h873q.out.asideL (by omega) 0 [.int .i64 (cc), .int .i64 (y)]
        have h883q : Hid (Bo (u875q.setCells u851q.heap.size 0 [.int .i64 (cc), .int .i64 (y)]) u851q.heap.size [.int .i64 (cc), .int .i64 (y)]) := h874q.out.set2 (.int .i64 (cc)) (.int .i64 (y))
        clear h867q h868q h869q h870q h871q h872q h873q h874q
        refine hK.out _ _ ⟨h877q.out, h878q.out, h879q.out⟩ (fun hH => ?_)
        clear hK K
        generalize (u875q.setCells u851q.heap.size 0 [.int .i64 (cc), .int .i64 (y)]) = u884q at h876q h877q h878q h879q h880q h881q h882q h883q hH ⊢
        try simp only [Act.put, List.setIfInBounds_toArray, List.set_cons_zero, List.set_cons_succ]
        refine wpAnyH_done (by kernel_rfl) ?_ _
        go_wp2_with fail
        go_meet
        case rel => exact ⟨u851q.heap.size, v2, u836q.heap.size, u851q.heap.size, rfl, rfl, h876q, h880q, h881q, h883q, h882q, (by omega)⟩
      refine AllReadyH.cons (o := { dst := some 8, op := .alloc _, type := _, pos := _, after := _, guard := _ }) rfl (fun K hK => ?_) AllReadyH.nil
      have l885q : n ≤ u836q.heap.size := h837q.out.le
      have l886q : b < u836q.heap.size := h838q.out.lt
      have l887q : n < u836q.heap.size := h839q.out.lt
      have l888q : (n + 1) < u836q.heap.size := h840q.out.lt
      have l889q : (n + 2) < u836q.heap.size := h841q.out.lt
      have l890q : (n + 3) < u836q.heap.size := h842q.out.lt
      have l891q : u836q.heap.size ≤ u836q.heap.size := h843q.out.le
      go_simp
      have h892q : Hid (Gd n w (u836q.alloc (.cells #[.int .i64 0, .int .i64 0] 38))) := h837q.out.new (.cells #[.int .i64 0, .int .i64 0] 38)
      have h893q : Hid (Bo (u836q.alloc (.cells #[.int .i64 0, .int .i64 0] 38)) b [.func (.func 37) #[] #[]]) := h838q.out.new (.cells #[.int .i64 0, .int .i64 0] 38)
      have h894q : Hid (Bo (u836q.alloc (.cells #[.int .i64 0, .int .i64 0] 38)) n (wl c)) := h839q.out.new (.cells #[.int .i64 0, .int .i64 0] 38)
      have h895q : Hid (Bo (u836q.alloc (.cells #[.int .i64 0, .int .i64 0] 38)) (n + 1) [.int .i64 o, .int .i64 k, .int .i64 x]) := h840q.out.new (.cells #[.int .i64 0, .int .i64 0] 38)
      have h896q : Hid (Bo (u836q.alloc (.cells #[.int .i64 0, .int .i64 0] 38)) (n + 2) (wl wz)) := h841q.out.new (.cells #[.int .i64 0, .int .i64 0] 38)
      have h897q : Hid (Bo (u836q.alloc (.cells #[.int .i64 0, .int .i64 0] 38)) (n + 3) [.int .i64 0, .int .i64 0]) := h842q.out.new (.cells #[.int .i64 0, .int .i64 0] 38)
      have h898q : Hid (Li u831q.heap.size u836q.heap.size (u836q.alloc (.cells #[.int .i64 0, .int .i64 0] 38)) v1 xs) := h843q.out.new (.cells #[.int .i64 0, .int .i64 0] 38)
      clear h837q h838q h839q h840q h841q h842q h843q
      have h899q : Hid (Bo (u836q.alloc (.cells #[.int .i64 0, .int .i64 0] 38)) u836q.heap.size [.int .i64 0, .int .i64 0]) := Bo.born u836q [.int .i64 0, .int .i64 0] 38 (by simp)
      refine hK.out _ _ ⟨h893q.out, h894q.out, h895q.out⟩ (fun hH => ?_)
      clear hK K
      generalize (u836q.alloc (.cells #[.int .i64 0, .int .i64 0] 38)) = u900q at h892q h893q h894q h895q h896q h897q h898q h899q hH ⊢
      try simp only [Act.put, List.setIfInBounds_toArray, List.set_cons_zero, List.set_cons_succ]
      refine wpAnyH_ready (rs := [4]) (by kernel_rfl) (by simp) ?_
      refine AllReadyH.cons (o := { dst := some 14, op := _, type := _, pos := _, after := _, guard := _ }) rfl (fun K hK => ?_) AllReadyH.nil
      have l901q : n ≤ u900q.heap.size := h892q.out.le
      have l902q : b < u900q.heap.size := h893q.out.lt
      have l903q : n < u900q.heap.size := h894q.out.lt
      have l904q : (n + 1) < u900q.heap.size := h895q.out.lt
      have l905q : (n + 2) < u900q.heap.size := h896q.out.lt
      have l906q : (n + 3) < u900q.heap.size := h897q.out.lt
      have l907q : u836q.heap.size ≤ u900q.heap.size := h898q.out.le
      have l908q : u836q.heap.size < u900q.heap.size := h899q.out.lt
      go_simp
      refine (DD.out _ _ _ h898q.out.isL).mono ?_
      rintro e u909q ⟨v2, rfl, I, hb⟩
      have h910q : Hid (Gd n w u909q) := h892q.out.later hb
      have h911q : Hid (Bo u909q b [.func (.func 37) #[] #[]]) := h893q.out.later hb
      have h912q : Hid (Bo u909q n (wl c)) := h894q.out.later hb
      have h913q : Hid (Bo u909q (n + 1) [.int .i64 o, .int .i64 k, .int .i64 x]) := h895q.out.later hb
      have h914q : Hid (Bo u909q (n + 2) (wl wz)) := h896q.out.later hb
      have h915q : Hid (Bo u909q (n + 3) [.int .i64 0, .int .i64 0]) := h897q.out.later hb
      have h916q : Hid (Li u831q.heap.size u836q.heap.size u909q v1 xs) := h898q.out.later hb
      have h917q : Hid (Bo u909q u836q.heap.size [.int .i64 0, .int .i64 0]) := h899q.out.later hb
      clear h892q h893q h894q h895q h896q h897q h898q h899q
      have hi : Hid _ := I
      clear h916q
      have h918q : Hid (Li u900q.heap.size u909q.heap.size u909q v2 ys) := Li.of hi.out
      clear I hi
      clear hb
      go_wp2_with fail
      refine hK.out _ _ ⟨h911q.out, h912q.out, h913q.out⟩ (fun hH => ?_)
      clear hK K
      try simp only [Act.put, List.setIfInBounds_toArray, List.set_cons_zero, List.set_cons_succ]
      refine wpAnyH_take (i := 5) (oi := { dst := some 9, op := .move (.tmp 14), type := _, pos := _, after := _, guard := _ }) (v := ?_) rfl (by kernel_rfl) (by kernel_rfl) (by kernel_rfl) (fun _ _ _ h => h) (Or.inl ⟨by rfl, ?_⟩) hH ?_
      rotate_left
      · intro w hSw
        clear hSw
        go_simp
        try with_reducible rfl
      simp only [Act.put, List.setIfInBounds_toArray, List.set_cons_zero, List.set_cons_succ]
      refine wpAnyH_take (i := 6) (oi := { dst := some 15, op := .extract (.tmp 9) 0, type := _, pos := _, after := _, guard := _ }) (v := ?_) rfl (by kernel_rfl) (by kernel_rfl) (by kernel_rfl) (fun _ _ _ h => h) (Or.inl ⟨by rfl, ?_⟩) hH ?_
      rotate_left
      · intro w hSw
        clear hSw
        go_simp
        try with_reducible rfl
      simp only [Act.put, List.setIfInBounds_toArray, List.set_cons_zero, List.set_cons_succ]
      refine wpAnyH_take (i := 7) (oi := { dst := some 16, op := .extract (.tmp 9) 1, type := _, pos := _, after := _, guard := _ }) (v := ?_) rfl (by kernel_rfl) (by kernel_rfl) (by kernel_rfl) (fun _ _ _ h => h) (Or.inl ⟨by rfl, ?_⟩) hH ?_
      rotate_left
      · intro w hSw
        clear hSw
        go_simp
        try with_reducible rfl
      simp only [Act.put, List.setIfInBounds_toArray, List.set_cons_zero, List.set_cons_succ]
      refine wpAnyH_take (i := 9) (oi := { dst := some 7, op := .assign (.tmp 15), type := _, pos := _, after := _, guard := _ }) (v := ?_) rfl (by kernel_rfl) (by kernel_rfl) (by kernel_rfl) (fun _ _ _ h => h) (Or.inl ⟨by rfl, ?_⟩) hH ?_
      rotate_left
      · intro w hSw
        clear hSw
        go_simp
        try with_reducible rfl
      simp only [Act.put, List.setIfInBounds_toArray, List.set_cons_zero, List.set_cons_succ]
      refine wpAnyH_ready (rs := [10]) (by kernel_rfl) (by simp) ?_
      refine AllReadyH.cons (o := { dst := none, op := .store _ (.tmp 8) (.tmp 16), type := _, pos := _, after := _, guard := _ }) rfl (fun K hK => ?_) AllReadyH.nil
      rw [if_pos (by rfl)]
      refine wp_store_mid _ _ _ rfl u836q.heap.size _ #[.int .i64 (cc), .int .i64 (y)] rfl rfl h917q.out.there2 HA.out (two_one _ _) ?_
      simp only [Act.put]
      have h919q : Hid (Gd n w (u909q.setCells u836q.heap.size 0 [.int .i64 (cc), .int .i64 (y)])) := h910q.out.asideL (by omega) 0 [.int .i64 (cc), .int .i64 (y)]
      have h920q : Hid (Bo (u909q.setCells u836q.heap.size 0 [.int .i64 (cc), .int .i64 (y)]) b [.func (.func 37) #[] #[]]) := h911q.out.asideL (by omega) 0 [.int .i64 (cc), .int .i64 (y)]
      have h921q : Hid (Bo (u909q.setCells u836q.heap.size 0 [.int .i64 (cc), .int .i64 (y)]) n (wl c)) := h912q.out.asideL (by omega) 0 [.int .i64 (cc), .int .i64 (y)]
      have h922q : Hid (Bo (u909q.setCells u836q.heap.size 0 [.int .i64 (cc), .int .i64 (y)]) (n + 1) [.int .i64 o, .int .i64 k, .int .i64 x]) := h913q.out.asideL (by omega) 0 [.int .i64 (cc), .int .i64 (y)]
      have h923q : Hid (Bo (u909q.setCells u836q.heap.size 0 [.int .i64 (cc), .int .i64 (y)]) (n + 2) (wl wz)) := h914q.out.asideL (by omega) 0 [.int .i64 (cc), .int .i64 (y)]
      have h924q : Hid (Bo (u909q.setCells u836q.heap.size 0 [.int .i64 (cc), .int .i64 (y)]) (n + 3) [.int .i64 0, .int .i64 0]) := h915q.out.asideL (by omega) 0 [.int .i64 (cc), .int .i64 (y)]
      have h925q : Hid (Bo (u909q.setCells u836q.heap.size 0 [.int .i64 (cc), .int .i64 (y)]) u836q.heap.size [.int .i64 (cc), .int .i64 (y)]) := h917q.out.set2 (.int .i64 (cc)) (.int .i64 (y))
      have h926q : Hid (Li u900q.heap.size u909q.heap.size (u909q.setCells u836q.heap.size 0 [.int .i64 (cc), .int .i64 (y)]) v2 ys) := h918q.out.asideL (by omega) 0 [.int .i64 (cc), .int .i64 (y)]
      clear h910q h911q h912q h913q h914q h915q h917q h918q
      refine hK.out _ _ ⟨h920q.out, h921q.out, h922q.out⟩ (fun hH => ?_)
      clear hK K
      generalize (u909q.setCells u836q.heap.size 0 [.int .i64 (cc), .int .i64 (y)]) = u927q at h919q h920q h921q h922q h923q h924q h925q h926q hH ⊢
      try simp only [Act.put, List.setIfInBounds_toArray, List.set_cons_zero, List.set_cons_succ]
      refine wpAnyH_done (by kernel_rfl) ?_ _
      go_wp2_with fail
      go_meet
      case rel => exact ⟨u836q.heap.size, v2, u900q.heap.size, u909q.heap.size, rfl, rfl, h919q, h923q, h924q, h925q, h926q, (by omega)⟩
    refine AllReadyH.cons (o := { dst := some 8, op := .alloc _, type := _, pos := _, after := _, guard := _ }) rfl (fun K hK => ?_) AllReadyH.nil
    have l928q : n ≤ u831q.heap.size := h825q.out.le
    have l929q : b < u831q.heap.size := h826q.out.lt
    have l930q : n < u831q.heap.size := h827q.out.lt
    have l931q : (n + 1) < u831q.heap.size := h828q.out.lt
    have l932q : (n + 2) < u831q.heap.size := h829q.out.lt
    have l933q : (n + 3) < u831q.heap.size := h830q.out.lt
    go_simp
    have h934q : Hid (Gd n w (u831q.alloc (.cells #[.int .i64 0, .int .i64 0] 38))) := h825q.out.new (.cells #[.int .i64 0, .int .i64 0] 38)
    have h935q : Hid (Bo (u831q.alloc (.cells #[.int .i64 0, .int .i64 0] 38)) b [.func (.func 37) #[] #[]]) := h826q.out.new (.cells #[.int .i64 0, .int .i64 0] 38)
    have h936q : Hid (Bo (u831q.alloc (.cells #[.int .i64 0, .int .i64 0] 38)) n (wl c)) := h827q.out.new (.cells #[.int .i64 0, .int .i64 0] 38)
    have h937q : Hid (Bo (u831q.alloc (.cells #[.int .i64 0, .int .i64 0] 38)) (n + 1) [.int .i64 o, .int .i64 k, .int .i64 x]) := h828q.out.new (.cells #[.int .i64 0, .int .i64 0] 38)
    have h938q : Hid (Bo (u831q.alloc (.cells #[.int .i64 0, .int .i64 0] 38)) (n + 2) (wl wz)) := h829q.out.new (.cells #[.int .i64 0, .int .i64 0] 38)
    have h939q : Hid (Bo (u831q.alloc (.cells #[.int .i64 0, .int .i64 0] 38)) (n + 3) [.int .i64 0, .int .i64 0]) := h830q.out.new (.cells #[.int .i64 0, .int .i64 0] 38)
    clear h825q h826q h827q h828q h829q h830q
    have h940q : Hid (Bo (u831q.alloc (.cells #[.int .i64 0, .int .i64 0] 38)) u831q.heap.size [.int .i64 0, .int .i64 0]) := Bo.born u831q [.int .i64 0, .int .i64 0] 38 (by simp)
    refine hK.out _ _ ⟨h935q.out, h936q.out, h937q.out⟩ (fun hH => ?_)
    clear hK K
    generalize (u831q.alloc (.cells #[.int .i64 0, .int .i64 0] 38)) = u941q at h934q h935q h936q h937q h938q h939q h940q hH ⊢
    try simp only [Act.put, List.setIfInBounds_toArray, List.set_cons_zero, List.set_cons_succ]
    refine wpAnyH_ready (rs := [2]) (by kernel_rfl) (by simp) ?_
    refine AllReadyH.cons (o := { dst := some 12, op := _, type := _, pos := _, after := _, guard := _ }) rfl (fun K hK => ?_) AllReadyH.nil
    go_simp
    refine (LI.out _).mono ?_
    rintro e u942q ⟨v1, rfl, I, hb⟩
    have h943q : Hid (Gd n w u942q) := h934q.out.later hb
    have h944q : Hid (Bo u942q b [.func (.func 37) #[] #[]]) := h935q.out.later hb
    have h945q : Hid (Bo u942q n (wl c)) := h936q.out.later hb
    have h946q : Hid (Bo u942q (n + 1) [.int .i64 o, .int .i64 k, .int .i64 x]) := h937q.out.later hb
    have h947q : Hid (Bo u942q (n + 2) (wl wz)) := h938q.out.later hb
    have h948q : Hid (Bo u942q (n + 3) [.int .i64 0, .int .i64 0]) := h939q.out.later hb
    have h949q : Hid (Bo u942q u831q.heap.size [.int .i64 0, .int .i64 0]) := h940q.out.later hb
    clear h934q h935q h936q h937q h938q h939q h940q
    have hi : Hid _ := I
    have h950q : Hid (Li u941q.heap.size u942q.heap.size u942q v1 xs) := Li.of hi.out
    clear I hi
    clear hb
    go_wp2_with fail
    refine hK.out _ _ ⟨h944q.out, h945q.out, h946q.out⟩ (fun hH => ?_)
    clear hK K
    try simp only [Act.put, List.setIfInBounds_toArray, List.set_cons_zero, List.set_cons_succ]
    refine wpAnyH_ready (rs := [4]) (by kernel_rfl) (by simp) ?_
    refine AllReadyH.cons (o := { dst := some 14, op := _, type := _, pos := _, after := _, guard := _ }) rfl (fun K hK => ?_) AllReadyH.nil
    have l951q : n ≤ u942q.heap.size := h943q.out.le
    have l952q : b < u942q.heap.size := h944q.out.lt
    have l953q : n < u942q.heap.size := h945q.out.lt
    have l954q : (n + 1) < u942q.heap.size := h946q.out.lt
    have l955q : (n + 2) < u942q.heap.size := h947q.out.lt
    have l956q : (n + 3) < u942q.heap.size := h948q.out.lt
    have l957q : u831q.heap.size < u942q.heap.size := h949q.out.lt
    have l958q : u942q.heap.size ≤ u942q.heap.size := h950q.out.le
    go_simp
    refine (DD.out _ _ _ h950q.out.isL).mono ?_
    rintro e u959q ⟨v2, rfl, I, hb⟩
    have h960q : Hid (Gd n w u959q) := h943q.out.later hb
    have h961q : Hid (Bo u959q b [.func (.func 37) #[] #[]]) := h944q.out.later hb
    have h962q : Hid (Bo u959q n (wl c)) := h945q.out.later hb
    have h963q : Hid (Bo u959q (n + 1) [.int .i64 o, .int .i64 k, .int .i64 x]) := h946q.out.later hb
    have h964q : Hid (Bo u959q (n + 2) (wl wz)) := h947q.out.later hb
    have h965q : Hid (Bo u959q (n + 3) [.int .i64 0, .int .i64 0]) := h948q.out.later hb
    have h966q : Hid (Bo u959q u831q.heap.size [.int .i64 0, .int .i64 0]) := h949q.out.later hb
    have h967q : Hid (Li u941q.heap.size u942q.heap.size u959q v1 xs) := h950q.out.later hb
    clear h943q h944q h945q h946q h947q h948q h949q h950q
    have hi : Hid _ := I
    clear h967q
    have h968q : Hid (Li u942q.heap.size u959q.heap.size u959q v2 ys) := Li.of hi.out
    clear I hi
    clear hb
    go_wp2_with fail
    refine hK.out _ _ ⟨h961q.out, h962q.out, h963q.out⟩ (fun hH => ?_)
    clear hK K
    try simp only [Act.put, List.setIfInBounds_toArray, List.set_cons_zero, List.set_cons_succ]
    refine wpAnyH_take (i := 5) (oi := { dst := some 9, op := .move (.tmp 14), type := _, pos := _, after := _, guard := _ }) (v := ?_) rfl (by kernel_rfl) (by kernel_rfl) (by kernel_rfl) (fun _ _ _ h => h) (Or.inl ⟨by rfl, ?_⟩) hH ?_
    rotate_left
    · intro w hSw
      clear hSw
      go_simp
      try with_reducible rfl
    simp only [Act.put, List.setIfInBounds_toArray, List.set_cons_zero, List.set_cons_succ]
    refine wpAnyH_take (i := 6) (oi := { dst := some 15, op := .extract (.tmp 9) 0, type := _, pos := _, after := _, guard := _ }) (v := ?_) rfl (by kernel_rfl) (by kernel_rfl) (by kernel_rfl) (fun _ _ _ h => h) (Or.inl ⟨by rfl, ?_⟩) hH ?_
    rotate_left
    · intro w hSw
      clear hSw
      go_simp
      try with_reducible rfl
    simp only [Act.put, List.setIfInBounds_toArray, List.set_cons_zero, List.set_cons_succ]
    refine wpAnyH_take (i := 7) (oi := { dst := some 16, op := .extract (.tmp 9) 1, type := _, pos := _, after := _, guard := _ }) (v := ?_) rfl (by kernel_rfl) (by kernel_rfl) (by kernel_rfl) (fun _ _ _ h => h) (Or.inl ⟨by rfl, ?_⟩) hH ?_
    rotate_left
    · intro w hSw
      clear hSw
      go_simp
      try with_reducible rfl
    simp only [Act.put, List.setIfInBounds_toArray, List.set_cons_zero, List.set_cons_succ]
    refine wpAnyH_take (i := 9) (oi := { dst := some 7, op := .assign (.tmp 15), type := _, pos := _, after := _, guard := _ }) (v := ?_) rfl (by kernel_rfl) (by kernel_rfl) (by kernel_rfl) (fun _ _ _ h => h) (Or.inl ⟨by rfl, ?_⟩) hH ?_
    rotate_left
    · intro w hSw
      clear hSw
      go_simp
      try with_reducible rfl
    simp only [Act.put, List.setIfInBounds_toArray, List.set_cons_zero, List.set_cons_succ]
    refine wpAnyH_ready (rs := [10]) (by kernel_rfl) (by simp) ?_
    refine AllReadyH.cons (o := { dst := none, op := .store _ (.tmp 8) (.tmp 16), type := _, pos := _, after := _, guard := _ }) rfl (fun K hK => ?_) AllReadyH.nil
    rw [if_pos (by rfl)]
    refine wp_store_mid _ _ _ rfl u831q.heap.size _ #[.int .i64 (cc), .int .i64 (y)] rfl rfl h966q.out.there2 HA.out (two_one _ _) ?_
    simp only [Act.put]
    have h969q : Hid (Gd n w (u959q.setCells u831q.heap.size 0 [.int .i64 (cc), .int .i64 (y)])) := h960q.out.asideL (by omega) 0 [.int .i64 (cc), .int .i64 (y)]
    have h970q : Hid (Bo (u959q.setCells u831q.heap.size 0 [.int .i64 (cc), .int .i64 (y)]) b [.func (.func 37) #[] #[]]) := h961q.out.asideL (by omega) 0 [.int .i64 (cc), .int .i64 (y)]
    have h971q : Hid (Bo (u959q.setCells u831q.heap.size 0 [.int .i64 (cc), .int .i64 (y)]) n (wl c)) := h962q.out.asideL (by omega) 0 [.int .i64 (cc), .int .i64 (y)]
    have h972q : Hid (Bo (u959q.setCells u831q.heap.size 0 [.int .i64 (cc), .int .i64 (y)]) (n + 1) [.int .i64 o, .int .i64 k, .int .i64 x]) := h963q.out.asideL (by omega) 0 [.int .i64 (cc), .int .i64 (y)]
    have h973q : Hid (Bo (u959q.setCells u831q.heap.size 0 [.int .i64 (cc), .int .i64 (y)]) (n + 2) (wl wz)) := h964q.out.asideL (by omega) 0 [.int .i64 (cc), .int .i64 (y)]
    have h974q : Hid (Bo (u959q.setCells u831q.heap.size 0 [.int .i64 (cc), .int .i64 (y)]) (n + 3) [.int .i64 0, .int .i64 0]) := h965q.out.asideL (by omega) 0 [.int .i64 (cc), .int .i64 (y)]
    have h975q : Hid (Bo (u959q.setCells u831q.heap.size 0 [.int .i64 (cc), .int .i64 (y)]) u831q.heap.size [.int .i64 (cc), .int .i64 (y)]) := h966q.out.set2 (.int .i64 (cc)) (.int .i64 (y))
    have h976q : Hid (Li u942q.heap.size u959q.heap.size (u959q.setCells u831q.heap.size 0 [.int .i64 (cc), .int .i64 (y)]) v2 ys) := h968q.out.asideL (by omega) 0 [.int .i64 (cc), .int .i64 (y)]
    clear h960q h961q h962q h963q h964q h965q h966q h968q
    refine hK.out _ _ ⟨h970q.out, h971q.out, h972q.out⟩ (fun hH => ?_)
    clear hK K
    generalize (u959q.setCells u831q.heap.size 0 [.int .i64 (cc), .int .i64 (y)]) = u977q at h969q h970q h971q h972q h973q h974q h975q h976q hH ⊢
    try simp only [Act.put, List.setIfInBounds_toArray, List.set_cons_zero, List.set_cons_succ]
    refine wpAnyH_done (by kernel_rfl) ?_ _
    go_wp2_with fail
    go_meet
    case rel => exact ⟨u831q.heap.size, v2, u942q.heap.size, u959q.heap.size, rfl, rfl, h969q, h973q, h974q, h975q, h976q, (by omega)⟩
  case rest =>
    obtain ⟨b_b, v_l2, B_l2, E_l2, rfl, rfl, h978q, h979q, h980q, h981q, h982q, hmore⟩ := hcut
    go_wp2_with fail
    have h983q : Hid (Gd n w wc.drew) := h978q.out.drew
    have h984q : Hid (Bo wc.drew (n + 2) (wl wz)) := h979q.out.drew
    have h985q : Hid (Bo wc.drew (n + 3) [.int .i64 0, .int .i64 0]) := h980q.out.drew
    have h986q : Hid (Bo wc.drew b_b [.int .i64 (cc), .int .i64 (y)]) := h981q.out.drew
    have h987q : Hid (Li B_l2 E_l2 wc.drew v_l2 ys) := h982q.out.drew
    clear h978q h979q h980q h981q h982q
    refine wp_region_held_drew (S := fun w' => Bo w' b_b [.int .i64 (cc), .int .i64 (y)]) (by kernel_rfl) h986q.out (fun hH => ?_)
    generalize wc.drew = u988q at h983q h984q h985q h986q h987q hH ⊢
    refine wpAnyH_take (i := 0) (oi := { dst := some 17, op := .move (.tmp 7), type := _, pos := _, after := _, guard := _ }) (v := ?_) rfl (by kernel_rfl) (by kernel_rfl) (by kernel_rfl) (fun _ _ _ h => h) (Or.inl ⟨by rfl, ?_⟩) hH ?_
    rotate_left
    · intro w hSw
      clear hSw
      go_simp
      try with_reducible rfl
    simp only [Act.put, List.setIfInBounds_toArray, List.set_cons_zero, List.set_cons_succ]
    refine wpAnyH_take (i := 2) (oi := { dst := some 19, op := .load _ (.tmp 8), type := _, pos := _, after := _, guard := _ }) (v := ?_) rfl (by kernel_rfl) (by kernel_rfl) (by kernel_rfl) (fun _ _ _ h => h) (Or.inl ⟨by rfl, ?_⟩) hH ?_
    rotate_left
    · intro w hSw
      have c989q := (hSw).at 0 rfl
      have c990q := (hSw).at 1 rfl
      clear hSw
      go_simp
      try with_reducible rfl
    simp only [Act.put, List.setIfInBounds_toArray, List.set_cons_zero, List.set_cons_succ]
    refine wpAnyH_ready (rs := [1]) (by kernel_rfl) (by simp) ?_
    refine AllReadyH.cons (o := { dst := some 18, op := _, type := _, pos := _, after := _, guard := _ }) rfl (fun K hK => ?_) AllReadyH.nil
    go_simp
    refine (LW.out _ _ _ h987q.out.isL).mono ?_
    rintro e u991q ⟨rfl, hb⟩
    have h992q : Hid (Gd n w u991q) := h983q.out.later hb
    have h993q : Hid (Bo u991q (n + 2) (wl wz)) := h984q.out.later hb
    have h994q : Hid (Bo u991q (n + 3) [.int .i64 0, .int .i64 0]) := h985q.out.later hb
    have h995q : Hid (Bo u991q b_b [.int .i64 (cc), .int .i64 (y)]) := h986q.out.later hb
    have h996q : Hid (Li B_l2 E_l2 u991q v_l2 ys) := h987q.out.later hb
    clear h983q h984q h985q h986q h987q
    clear h996q
    clear hb
    go_wp2_with fail
    refine hK.out _ _ h995q.out (fun hH => ?_)
    clear hK K
    try simp only [Act.put, List.setIfInBounds_toArray, List.set_cons_zero, List.set_cons_succ]
    refine wpAnyH_ready (rs := [3]) (by kernel_rfl) (by simp) ?_
    refine AllReadyH.cons (o := { dst := none, op := .store _ (.tmp 5) (.tmp 18), type := _, pos := _, after := _, guard := _ }) rfl (fun K hK => ?_) AllReadyH.nil
    rw [if_pos (by rfl)]
    refine wp_store_mid _ _ _ rfl (n + 2) _ (wl (lw ys)).toArray rfl rfl (h993q.out.thereW (lw ys)) (HCZ.out (lw ys)) (wl_all (lw ys)) ?_
    simp only [Act.put]
    have h997q : Hid (Gd n w (u991q.setCells (n + 2) 0 (wl (lw ys)))) := h992q.out.asideL (by omega) 0 (wl (lw ys))
    have h998q : Hid (Bo (u991q.setCells (n + 2) 0 (wl (lw ys))) (n + 2) (wl (lw ys))) := h993q.out.setW (lw ys)
    have h999q : Hid (Bo (u991q.setCells (n + 2) 0 (wl (lw ys))) (n + 3) [.int .i64 0, .int .i64 0]) := h994q.out.asideL (by omega) 0 (wl (lw ys))
    have h1000q : Hid (Bo (u991q.setCells (n + 2) 0 (wl (lw ys))) b_b [.int .i64 (cc), .int .i64 (y)]) := h995q.out.asideL (by omega) 0 (wl (lw ys))
    clear h992q h993q h994q h995q
    refine hK.out _ _ h1000q.out (fun hH => ?_)
    clear hK K
    generalize (u991q.setCells (n + 2) 0 (wl (lw ys))) = u1001q at h997q h998q h999q h1000q hH ⊢
    try simp only [Act.put, List.setIfInBounds_toArray, List.set_cons_zero, List.set_cons_succ]
    refine wpAnyH_ready (rs := [4]) (by kernel_rfl) (by simp) ?_
    refine AllReadyH.cons (o := { dst := none, op := .store _ (.tmp 6) (.tmp 19), type := _, pos := _, after := _, guard := _ }) rfl (fun K hK => ?_) AllReadyH.nil
    rw [if_pos (by rfl)]
    refine wp_store_mid _ _ _ rfl (n + 3) _ #[.int .i64 (cc), .int .i64 (y)] rfl rfl h999q.out.there2 HA.out (two_one _ _) ?_
    simp only [Act.put]
    have h1002q : Hid (Gd n w (u1001q.setCells (n + 3) 0 [.int .i64 (cc), .int .i64 (y)])) := h997q.out.asideL (by omega) 0 [.int .i64 (cc), .int .i64 (y)]
    have h1003q : Hid (Bo (u1001q.setCells (n + 3) 0 [.int .i64 (cc), .int .i64 (y)]) (n + 2) (wl (lw ys))) := h998q.out.asideL (by omega) 0 [.int .i64 (cc), .int .i64 (y)]
    have h1004q : Hid (Bo (u1001q.setCells (n + 3) 0 [.int .i64 (cc), .int .i64 (y)]) (n + 3) [.int .i64 (cc), .int .i64 (y)]) := h999q.out.set2 (.int .i64 (cc)) (.int .i64 (y))
    have h1005q : Hid (Bo (u1001q.setCells (n + 3) 0 [.int .i64 (cc), .int .i64 (y)]) b_b [.int .i64 (cc), .int .i64 (y)]) := h1000q.out.asideL (by omega) 0 [.int .i64 (cc), .int .i64 (y)]
    clear h997q h998q h999q h1000q
    refine hK.out _ _ h1005q.out (fun hH => ?_)
    clear hK K
    generalize (u1001q.setCells (n + 3) 0 [.int .i64 (cc), .int .i64 (y)]) = u1006q at h1002q h1003q h1004q h1005q hH ⊢
    try simp only [Act.put, List.setIfInBounds_toArray, List.set_cons_zero, List.set_cons_succ]
    refine wpAnyH_done (by kernel_rfl) ?_ _
    go_wp2
    exact bodyPost_ret (results_row2 Tryd.results50 _ _ (n + 2) (n + 3) (wl (lw ys)) [.int .i64 (cc), .int .i64 (y)] _ _ rfl rfl h1003q.out.range HC.out rfl (HCS.out (lw ys)) h1004q.out.range HDA.out rfl HA.out) rfl ⟨rfl, by first | exact h1002q.out.low | exact h1002q.out.2⟩
end Go.Proofs.YtbmgjpdfmgcigabDoor.Tab
