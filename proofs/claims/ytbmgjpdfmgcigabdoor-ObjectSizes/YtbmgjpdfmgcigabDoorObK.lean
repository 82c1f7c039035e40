/- Package object: withList, by its contract: deques and heaps. -/
import Derived.Test.YtbmgjpdfmgcigabDoorObB
import Derived.Test.YtbmgjpdfmgcigabDoorObC
import Derived.Test.YtbmgjpdfmgcigabDoorObF
import Derived.Test.YtbmgjpdfmgcigabDoorLi
import Derived.Test.YtbmgjpdfmgcigabDoorPk
import Derived.Deep.DeepCutAuto
import Derived.Deep.RegionHeld3
namespace Go.Proofs.YtbmgjpdfmgcigabDoor.Tab
set_option maxRecDepth 20000
open Go.RowKit
set_option linter.unusedVariables false

set_option maxHeartbeats 4000000 in
theorem wlist_d {c : Nat → Nat} {b : Nat} {ys : List Int} {o k x cc y : Int} (hW : WList c) (hD : ∀ B W v, IsL B W v (lst c) → Calls Tryd.prog 38 #[v, .agg #[.int .i64 o, .int .i64 k, .int .i64 x]] W (Made W ys cc y)) (hl : ys.length ≤ 6) (hv : ∀ z ∈ ys, 0 ≤ z ∧ z ≤ 4294967295) (w : World) (hb : Bo w b [fv 38]) :
    Calls Tryd.prog 50 #[.agg (wl c).toArray, .agg #[.int .i64 o, .int .i64 k, .int .i64 x], .pointer (some ⟨b, 0, none⟩)] w (fun e w' => e = .returned (.tuple #[.agg (wl (lw ys)).toArray, .agg #[.int .i64 cc, .int .i64 y]]) ∧ Below w.heap.size w w') := by
  have HA : Hid ((Tryd.prog.info? 38).map (·.size) = some 2) := answer_sz
  obtain ⟨fs, ha⟩ := answer_st
  have HDA : Hid _ := ha
  clear ha
  obtain ⟨nb, eb, hd⟩ := cells_array
  have HC : Hid _ := hd
  clear hd
  have HCS : Hid _ := cells_size
  have HCZ : Hid _ := cells_size2
  have g0 : Hid (Gd w.heap.size w w) := Gd.refl w
  have LI : Hid (∀ w : World, _) := fun w => list_is hW w
  have DD : Hid _ := hD
  have LW : Hid (∀ B W v, IsL B W v ys → _) := fun B W v h => listWords_is (B := B) (w := W) (v := v) h hl hv
  generalize lst c = xs at *
  clear hW hD hl hv
  have hlt := hb.lt
  have h1007q : Hid (Bo w b [.func (.func 38) #[] #[]]) := hb
  clear hb
  have h1008q : Hid (Gd w.heap.size w (w.alloc (.cells (wl c).toArray 24))) := g0.out.new (.cells (wl c).toArray 24)
  have h1009q : Hid (Bo (w.alloc (.cells (wl c).toArray 24)) b [.func (.func 38) #[] #[]]) := h1007q.out.new (.cells (wl c).toArray 24)
  clear g0 h1007q
  have h1010q : Hid (Bo (w.alloc (.cells (wl c).toArray 24)) w.heap.size (wl c)) := Bo.born w (wl c) 24 (by simp)
  have h1011q : Hid (Gd w.heap.size w ((w.alloc (.cells (wl c).toArray 24)).alloc (.cells #[.int .i64 o, .int .i64 k, .int .i64 x] 26))) := h1008q.out.new (.cells #[.int .i64 o, .int .i64 k, .int .i64 x] 26)
  have h1012q : Hid (Bo ((w.alloc (.cells (wl c).toArray 24)).alloc (.cells #[.int .i64 o, .int .i64 k, .int .i64 x] 26)) b [.func (.func 38) #[] #[]]) := h1009q.out.new (.cells #[.int .i64 o, .int .i64 k, .int .i64 x] 26)
  have h1013q : Hid (Bo ((w.alloc (.cells (wl c).toArray 24)).alloc (.cells #[.int .i64 o, .int .i64 k, .int .i64 x] 26)) w.heap.size (wl c)) := h1010q.out.new (.cells #[.int .i64 o, .int .i64 k, .int .i64 x] 26)
  clear h1008q h1009q h1010q
  have h1014q : Hid (Bo ((w.alloc (.cells (wl c).toArray 24)).alloc (.cells #[.int .i64 o, .int .i64 k, .int .i64 x] 26)) (w.heap.size + 1) [.int .i64 o, .int .i64 k, .int .i64 x]) := Bo.born (w.alloc (.cells (wl c).toArray 24)) [.int .i64 o, .int .i64 k, .int .i64 x] 26 (by simp)
  have h1015q : Hid (Gd w.heap.size w (((w.alloc (.cells (wl c).toArray 24)).alloc (.cells #[.int .i64 o, .int .i64 k, .int .i64 x] 26)).alloc (.cells #[.int .u64 0, .int .u64 0, .int .u64 0, .int .u64 0, .int .u64 0, .int .u64 0, .int .u64 0, .int .u64 0, .int .u64 0, .int .u64 0, .int .u64 0, .int .u64 0, .int .u64 0, .int .u64 0, .int .u64 0, .int .u64 0, .int .u64 0] 24))) := h1011q.out.new (.cells #[.int .u64 0, .int .u64 0, .int .u64 0, .int .u64 0, .int .u64 0, .int .u64 0, .int .u64 0, .int .u64 0, .int .u64 0, .int .u64 0, .int .u64 0, .int .u64 0, .int .u64 0, .int .u64 0, .int .u64 0, .int .u64 0, .int .u64 0] 24)
  have h1016q : Hid (Bo (((w.alloc (.cells (wl c).toArray 24)).alloc (.cells #[.int .i64 o, .int .i64 k, .int .i64 x] 26)).alloc (.cells #[.int .u64 0, .int .u64 0, .int .u64 0, .int .u64 0, .int .u64 0, .int .u64 0, .int .u64 0, .int .u64 0, .int .u64 0, .int .u64 0, .int .u64 0, .int .u64 0, .int .u64 0, .int .u64 0, .int .u64 0, .int .u64 0, .int .u64 0] 24)) b [.func (.func 38) #[] #[]]) := h1012q.out.new (.cells #[.int .u64 0, .int .u64 0, .int .u64 0, .int .u64 0, .int .u64 0, .int .u64 0, .int .u64 0, .int .u64 0, .int .u64 0, .int .u64 0, .int .u64 0, .int .u64 0, .int .u64 0, .int .u64 0, .int .u64 0, .int .u64 0, .int .u64 0] 24)
  have h1017q : Hid (Bo (((w.alloc (.cells (wl c).toArray 24)).alloc (.cells #[.int .i64 o, .int .i64 k, .int .i64 x] 26)).alloc (.cells #[.int .u64 0, .int .u64 0, .int .u64 0, .int .u64 0, .int .u64 0, .int .u64 0, .int .u64 0, .int .u64 0, .int .u64 0, .int .u64 0, .int .u64 0, .int .u64 0, .int .u64 0, .int .u64 0, .int .u64 0, .int .u64 0, .int .u64 0] 24)) w.heap.size (wl c)) := h1013q.out.new (.cells #[.int .u64 0, .int .u64 0, .int .u64 0, .int .u64 0, .int .u64 0, .int .u64 0, .int .u64 0, .int .u64 0, .int .u64 0, .int .u64 0, .int .u64 0, .int .u64 0, .int .u64 0, .int .u64 0, .int .u64 0, .int .u64 0, .int .u64 0] 24)
  have h1018q : Hid (Bo (((w.alloc (.cells (wl c).toArray 24)).alloc (.cells #[.int .i64 o, .int .i64 k, .int .i64 x] 26)).alloc (.cells #[.int .u64 0, .int .u64 0, .int .u64 0, .int .u64 0, .int .u64 0, .int .u64 0, .int .u64 0, .int .u64 0, .int .u64 0, .int .u64 0, .int .u64 0, .int .u64 0, .int .u64 0, .int .u64 0, .int .u64 0, .int .u64 0, .int .u64 0] 24)) (w.heap.size + 1) [.int .i64 o, .int .i64 k, .int .i64 x]) := h1014q.out.new (.cells #[.int .u64 0, .int .u64 0, .int .u64 0, .int .u64 0, .int .u64 0, .int .u64 0, .int .u64 0, .int .u64 0, .int .u64 0, .int .u64 0, .int .u64 0, .int .u64 0, .int .u64 0, .int .u64 0, .int .u64 0, .int .u64 0, .int .u64 0] 24)
  clear h1011q h1012q h1013q h1014q
  have h1019q : Hid (Bo (((w.alloc (.cells (wl c).toArray 24)).alloc (.cells #[.int .i64 o, .int .i64 k, .int .i64 x] 26)).alloc (.cells #[.int .u64 0, .int .u64 0, .int .u64 0, .int .u64 0, .int .u64 0, .int .u64 0, .int .u64 0, .int .u64 0, .int .u64 0, .int .u64 0, .int .u64 0, .int .u64 0, .int .u64 0, .int .u64 0, .int .u64 0, .int .u64 0, .int .u64 0] 24)) (w.heap.size + 2) (wl wz)) := Bo.born ((w.alloc (.cells (wl c).toArray 24)).alloc (.cells #[.int .i64 o, .int .i64 k, .int .i64 x] 26)) (wl wz) 24 (by simp)
  have h1020q : Hid (Gd w.heap.size w ((((w.alloc (.cells (wl c).toArray 24)).alloc (.cells #[.int .i64 o, .int .i64 k, .int .i64 x] 26)).alloc (.cells #[.int .u64 0, .int .u64 0, .int .u64 0, .int .u64 0, .int .u64 0, .int .u64 0, .int .u64 0, .int .u64 0, .int .u64 0, .int .u64 0, .int .u64 0, .int .u64 0, .int .u64 0, .int .u64 0, .int .u64 0, .int .u64 0, .int .u64 0] 24)).alloc (.cells #[.int .i64 0, .int .i64 0] 38))) := h1015q.out.new (.cells #[.int .i64 0, .int .i64 0] 38)
  have h1021q : Hid (Bo ((((w.alloc (.cells (wl c).toArray 24)).alloc (.cells #[.int .i64 o, .int .i64 k, .int .i64 x] 26)).alloc (.cells #[.int .u64 0, .int .u64 0, .int .u64 0, .int .u64 0, .int .u64 0, .int .u64 0, .int .u64 0, .int .u64 0, .int .u64 0, .int .u64 0, .int .u64 0, .int .u64 0, .int .u64 0, .int .u64 0, .int .u64 0, .int .u64 0, .int .u64 0] 24)).alloc (.cells #[.int .i64 0, .int .i64 0] 38)) b [.func (.func 38) #[] #[]]) := h1016q.out.new (.cells #[.int .i64 0, .int .i64 0] 38)
  have h1022q : Hid (Bo ((((w.alloc (.cells (wl c).toArray 24)).alloc (.cells #[.int .i64 o, .int .i64 k, .int .i64 x] 26)).alloc (.cells #[.int .u64 0, .int .u64 0, .int .u64 0, .int .u64 0, .int .u64 0, .int .u64 0, .int .u64 0, .int .u64 0, .int .u64 0, .int .u64 0, .int .u64 0, .int .u64 0, .int .u64 0, .int .u64 0, .int .u64 0, .int .u64 0, .int .u64 0] 24)).alloc (.cells #[.int .i64 0, .int .i64 0] 38)) w.heap.size (wl c)) := h1017q.out.new (.cells #[.int .i64 0, .int .i64 0] 38)
  have h1023q : Hid (Bo ((((w.alloc (.cells (wl c).toArray 24)).alloc (.cells #[.int .i64 o, .int .i64 k, .int .i64 x] 26)).alloc (.cells #[.int .u64 0, .int .u64 0, .int .u64 0, .int .u64 0, .int .u64 0, .int .u64 0, .int .u64 0, .int .u64 0, .int .u64 0, .int .u64 0, .int .u64 0, .int .u64 0, .int .u64 0, .int .u64 0, .int .u64 0, .int .u64 0, .int .u64 0] 24)).alloc (.cells #[.int .i64 0, .int .i64 0] 38)) (w.heap.size + 1) [.int .i64 o, .int .i64 k, .int .i64 x]) := h1018q.out.new (.cells #[.int .i64 0, .int .i64 0] 38)
  have h1024q : Hid (Bo ((((w.alloc (.cells (wl c).toArray 24)).alloc (.cells #[.int .i64 o, .int .i64 k, .int .i64 x] 26)).alloc (.cells #[.int .u64 0, .int .u64 0, .int .u64 0, .int .u64 0, .int .u64 0, .int .u64 0, .int .u64 0, .int .u64 0, .int .u64 0, .int .u64 0, .int .u64 0, .int .u64 0, .int .u64 0, .int .u64 0, .int .u64 0, .int .u64 0, .int .u64 0] 24)).alloc (.cells #[.int .i64 0, .int .i64 0] 38)) (w.heap.size + 2) (wl wz)) := h1019q.out.new (.cells #[.int .i64 0, .int .i64 0] 38)
  clear h1015q h1016q h1017q h1018q h1019q
  have h1025q : Hid (Bo ((((w.alloc (.cells (wl c).toArray 24)).alloc (.cells #[.int .i64 o, .int .i64 k, .int .i64 x] 26)).alloc (.cells #[.int .u64 0, .int .u64 0, .int .u64 0, .int .u64 0, .int .u64 0, .int .u64 0, .int .u64 0, .int .u64 0, .int .u64 0, .int .u64 0, .int .u64 0, .int .u64 0, .int .u64 0, .int .u64 0, .int .u64 0, .int .u64 0, .int .u64 0] 24)).alloc (.cells #[.int .i64 0, .int .i64 0] 38)) (w.heap.size + 3) [.int .i64 0, .int .i64 0]) := Bo.born (((w.alloc (.cells (wl c).toArray 24)).alloc (.cells #[.int .i64 o, .int .i64 k, .int .i64 x] 26)).alloc (.cells #[.int .u64 0, .int .u64 0, .int .u64 0, .int .u64 0, .int .u64 0, .int .u64 0, .int .u64 0, .int .u64 0, .int .u64 0, .int .u64 0, .int .u64 0, .int .u64 0, .int .u64 0, .int .u64 0, .int .u64 0, .int .u64 0, .int .u64 0] 24)) [.int .i64 0, .int .i64 0] 38 (by simp)
  go_enter Tryd.func50, Tryd.ntmps50
  go_wp2_with fail
  generalize ((((w.alloc (.cells (wl c).toArray 24)).alloc (.cells #[.int .i64 o, .int .i64 k, .int .i64 x] 26)).alloc (.cells #[.int .u64 0, .int .u64 0, .int .u64 0, .int .u64 0, .int .u64 0, .int .u64 0, .int .u64 0, .int .u64 0, .int .u64 0, .int .u64 0, .int .u64 0, .int .u64 0, .int .u64 0, .int .u64 0, .int .u64 0, .int .u64 0, .int .u64 0] 24)).alloc (.cells #[.int .i64 0, .int .i64 0] 38)) = W at h1020q h1021q h1022q h1023q h1024q h1025q ⊢
  generalize hsz : w.heap.size = n at h1020q h1021q h1022q h1023q h1024q h1025q hlt ⊢
  have HSZ : Hid (w.heap.size = n) := hsz
  clear hsz
  go_cut [7, 8] (fun s7 s8 wx => ∃ b_b : Nat, ∃ v_l2 : Value, ∃ B_l2 E_l2 : Nat, s8 = .pointer (some ⟨b_b, 0, none⟩) ∧ v_l2 = s7 ∧ Hid (Gd n w wx) ∧ Hid (Bo wx (n + 2) (wl wz)) ∧ Hid (Bo wx (n + 3) [.int .i64 0, .int .i64 0]) ∧ Hid (Bo wx b_b [.int .i64 (cc), .int .i64 (y)]) ∧ Hid (Li B_l2 E_l2 wx v_l2 ys) ∧ (n + 3 < b_b))
  case first =>
    have h1026q : Hid (Gd n w W.drew) := h1020q.out.drew
    have h1027q : Hid (Bo W.drew b [.func (.func 38) #[] #[]]) := h1021q.out.drew
    have h1028q : Hid (Bo W.drew n (wl c)) := h1022q.out.drew
    have h1029q : Hid (Bo W.drew (n + 1) [.int .i64 o, .int .i64 k, .int .i64 x]) := h1023q.out.drew
    have h1030q : Hid (Bo W.drew (n + 2) (wl wz)) := h1024q.out.drew
    have h1031q : Hid (Bo W.drew (n + 3) [.int .i64 0, .int .i64 0]) := h1025q.out.drew
    clear h1020q h1021q h1022q h1023q h1024q h1025q
    refine wp_region_held_drew (S := fun w' => Bo w' b [.func (.func 38) #[] #[]] ∧ Bo w' n (wl c) ∧ Bo w' (n + 1) [.int .i64 o, .int .i64 k, .int .i64 x]) (by kernel_rfl) ⟨h1027q.out, h1028q.out, h1029q.out⟩ (fun hH => ?_)
    generalize W.drew = u1032q at h1026q h1027q h1028q h1029q h1030q h1031q hH ⊢
    refine wpAnyH_take (i := 0) (oi := { dst := some 10, op := .load _ (.tmp 2), type := _, pos := _, after := _, guard := _ }) (v := ?_) rfl (by kernel_rfl) (by kernel_rfl) (by kernel_rfl) (fun _ _ _ h => h) (Or.inl ⟨by rfl, ?_⟩) hH ?_
    rotate_left
    · intro w hSw
      have c1033q := (hSw.1).at 0 rfl
      clear hSw
      go_simp
      try with_reducible rfl
    simp only [Act.put, List.setIfInBounds_toArray, List.set_cons_zero, List.set_cons_succ]
    refine wpAnyH_take (i := 1) (oi := { dst := some 11, op := .load _ (.tmp 3), type := _, pos := _, after := _, guard := _ }) (v := _) rfl (by kernel_rfl) (by kernel_rfl) (by kernel_rfl) (fun _ _ _ h => h) (yieldsIf_load_mid (by rfl) _ _ rfl n _ rfl (wl c) _ (fun _ h => (h.2.1).range) HC.out rfl (HCS.out c)) hH ?_
    simp only [Act.put, List.setIfInBounds_toArray, List.set_cons_zero, List.set_cons_succ]
    refine wpAnyH_take (i := 3) (oi := { dst := some 13, op := .load _ (.tmp 4), type := _, pos := _, after := _, guard := _ }) (v := ?_) rfl (by kernel_rfl) (by kernel_rfl) (by kernel_rfl) (fun _ _ _ h => h) (Or.inl ⟨by rfl, ?_⟩) hH ?_
    rotate_left
    · intro w hSw
      have c1034q := (hSw.2.2).at 0 rfl
      have c1035q := (hSw.2.2).at 1 rfl
      have c1036q := (hSw.2.2).at 2 rfl
      clear hSw
      go_simp
      try with_reducible rfl
    simp only [Act.put, List.setIfInBounds_toArray, List.set_cons_zero, List.set_cons_succ]
    refine wpAnyH_ready (rs := [2, 8]) (by kernel_rfl) (by simp) ?_
    refine AllReadyH.cons (o := { dst := some 12, op := _, type := _, pos := _, after := _, guard := _ }) rfl (fun K hK => ?_) ?_
    · go_simp
      refine (LI.out _).mono ?_
      rintro e u1037q ⟨v1, rfl, I, hb⟩
      have h1038q : Hid (Gd n w u1037q) := h1026q.out.later hb
      have h1039q : Hid (Bo u1037q b [.func (.func 38) #[] #[]]) := h1027q.out.later hb
      have h1040q : Hid (Bo u1037q n (wl c)) := h1028q.out.later hb
      have h1041q : Hid (Bo u1037q (n + 1) [.int .i64 o, .int .i64 k, .int .i64 x]) := h1029q.out.later hb
      have h1042q : Hid (Bo u1037q (n + 2) (wl wz)) := h1030q.out.later hb
      have h1043q : Hid (Bo u1037q (n + 3) [.int .i64 0, .int .i64 0]) := h1031q.out.later hb
      clear h1026q h1027q h1028q h1029q h1030q h1031q
      have hi : Hid _ := I
      have h1044q : Hid (Li u1032q.heap.size u1037q.heap.size u1037q v1 xs) := Li.of hi.out
      clear I hi
      clear hb
      go_wp2_with fail
      refine hK.out _ _ ⟨h1039q.out, h1040q.out, h1041q.out⟩ (fun hH => ?_)
      clear hK K
      try simp only [Act.put, List.setIfInBounds_toArray, List.set_cons_zero, List.set_cons_succ]
      refine wpAnyH_ready (rs := [4, 8]) (by kernel_rfl) (by simp) ?_
      refine AllReadyH.cons (o := { dst := some 14, op := _, type := _, pos := _, after := _, guard := _ }) rfl (fun K hK => ?_) ?_
      · have l1045q : n ≤ u1037q.heap.size := h1038q.out.le
        have l1046q : b < u1037q.heap.size := h1039q.out.lt
        have l1047q : n < u1037q.heap.size := h1040q.out.lt
        have l1048q : (n + 1) < u1037q.heap.size := h1041q.out.lt
        have l1049q : (n + 2) < u1037q.heap.size := h1042q.out.lt
        have l1050q : (n + 3) < u1037q.heap.size := h1043q.out.lt
        have l1051q : u1037q.heap.size ≤ u1037q.heap.size := h1044q.out.le
        go_simp
        refine (DD.out _ _ _ h1044q.out.isL).mono ?_
        rintro e u1052q ⟨v2, rfl, I, hb⟩
        have h1053q : Hid (Gd n w u1052q) := h1038q.out.later hb
        have h1054q : Hid (Bo u1052q b [.func (.func 38) #[] #[]]) := h1039q.out.later hb
        have h1055q : Hid (Bo u1052q n (wl c)) := h1040q.out.later hb
        have h1056q : Hid (Bo u1052q (n + 1) [.int .i64 o, .int .i64 k, .int .i64 x]) := h1041q.out.later hb
        have h1057q : Hid (Bo u1052q (n + 2) (wl wz)) := h1042q.out.later hb
        have h1058q : Hid (Bo u1052q (n + 3) [.int .i64 0, .int .i64 0]) := h1043q.out.later hb
        have h1059q : Hid (Li u1032q.heap.size u1037q.heap.size u1052q v1 xs) := h1044q.out.later hb
        clear h1038q h1039q h1040q h1041q h1042q h1043q h1044q
        have hi : Hid _ := I
        clear h1059q
        have h1060q : Hid (Li u1037q.heap.size u1052q.heap.size u1052q v2 ys) := Li.of hi.out
        clear I hi
        clear hb
        go_wp2_with fail
        refine hK.out _ _ ⟨h1054q.out, h1055q.out, h1056q.out⟩ (fun hH => ?_)
        clear hK K
        try simp only [Act.put, List.setIfInBounds_toArray, List.set_cons_zero, List.set_cons_succ]
        refine wpAnyH_take (i := 5) (oi := { dst := some 9, op := .move (.tmp 14), type := _, pos := _, after := _, guard := _ }) (v := ?_) rfl (by kernel_rfl) (by kernel_rfl) (by kernel_rfl) (fun _ _ _ h => h) (Or.inl ⟨by rfl, ?_⟩) hH ?_
        rotate_left
        · intro w hSw
          clear hSw
          go_simp
          try with_reducible rfl
        simp only [Act.put, List.setIfInBounds_toArray, List.set_cons_zero, List.set_cons_succ]
        refine wpAnyH_take (i := 6) (oi := { dst := some 15, op := .extract (.tmp 9) 0, type := _, pos := _, after := _, guard := _ }) (v := ?_) rfl (by kernel_rfl) (by kernel_rfl) (by kernel_rfl) (fun _ _ _ h => h) (Or.inl ⟨by rfl, ?_⟩) hH ?_
        rotate_left
        · intro w hSw
          clear hSw
          go_simp
          try with_reducible rfl
        simp only [Act.put, List.setIfInBounds_toArray, List.set_cons_zero, List.set_cons_succ]
        refine wpAnyH_take (i := 7) (oi := { dst := some 16, op := .extract (.tmp 9) 1, type := _, pos := _, after := _, guard := _ }) (v := ?_) rfl (by kernel_rfl) (by kernel_rfl) (by kernel_rfl) (fun _ _ _ h => h) (Or.inl ⟨by rfl, ?_⟩) hH ?_
        rotate_left
        · intro w hSw
          clear hSw
          go_simp
          try with_reducible rfl
        simp only [Act.put, List.setIfInBounds_toArray, List.set_cons_zero, List.set_cons_succ]
        refine wpAnyH_ready (rs := [8]) (by kernel_rfl) (by simp) ?_
        refine AllReadyH.cons (o := { dst := some 8, op := .alloc _, type := _, pos := _, after := _, guard := _ }) rfl (fun K hK => ?_) AllReadyH.nil
        have l1061q : n ≤ u1052q.heap.size := h1053q.out.le
        have l1062q : b < u1052q.heap.size := h1054q.out.lt
        have l1063q : n < u1052q.heap.size := h1055q.out.lt
        have l1064q : (n + 1) < u1052q.heap.size := h1056q.out.lt
        have l1065q : (n + 2) < u1052q.heap.size := h1057q.out.lt
        have l1066q : (n + 3) < u1052q.heap.size := h1058q.out.lt
        have l1067q : u1052q.heap.size ≤ u1052q.heap.size := h1060q.out.le
        go_simp
        have h1068q : Hid (Gd n w (u1052q.alloc (.cells #[.int .i64 0, .int .i64 0] 38))) := h1053q.out.new (.cells #[.int .i64 0, .int .i64 0] 38)
        have h1069q : Hid (Bo (u1052q.alloc (.cells #[.int .i64 0, .int .i64 0] 38)) b [.func (.func 38) #[] #[]]) := h1054q.out.new (.cells #[.int .i64 0, .int .i64 0] 38)
        have h1070q : Hid (Bo (u1052q.alloc (.cells #[.int .i64 0, .int .i64 0] 38)) n (wl c)) := h1055q.out.new (.cells #[.int .i64 0, .int .i64 0] 38)
        have h1071q : Hid (Bo (u1052q.alloc (.cells #[.int .i64 0, .int .i64 0] 38)) (n + 1) [.int .i64 o, .int .i64 k, .int .i64 x]) := h1056q.out.new (.cells #[.int .i64 0, .int .i64 0] 38)
        have h1072q : Hid (Bo (u1052q.alloc (.cells #[.int .i64 0, .int .i64 0] 38)) (n + 2) (wl wz)) := h1057q.out.new (.cells #[.int .i64 0, .int .i64 0] 38)
        have h1073q : Hid (Bo (u1052q.alloc (.cells #[.int .i64 0, .int .i64 0] 38)) (n + 3) [.int .i64 0, .int .i64 0]) := h1058q.out.new (.cells #[.int .i64 0, .int .i64 0] 38)
        have h1074q : Hid (Li u1037q.heap.size u1052q.heap.size (u1052q.alloc (.cells #[.int .i64 0, .int .i64 0] 38)) v2 ys) := h1060q.out.new (.cells #[.int .i64 0, .int .i64 0] 38)
        clear h1053q h1054q h1055q h1056q h1057q h1058q h1060q
        have h1075q : Hid (Bo (u1052q.alloc (.cells #[.int .i64 0, .int .i64 0] 38)) u1052q.heap.size [.int .i64 0, .int .i64 0]) := Bo.born u1052q [.int .i64 0, .int .i64 0] 38 (by simp)
        refine hK.out _ _ ⟨h1069q.out, h1070q.out, h1071q.out⟩ (fun hH => ?_)
        clear hK K
        generalize (u1052q.alloc (.cells #[.int .i64 0, .int .i64 0] 38)) = u1076q at h1068q h1069q h1070q h1071q h1072q h1073q h1074q h1075q hH ⊢
        try simp only [Act.put, List.setIfInBounds_toArray, List.set_cons_zero, List.set_cons_succ]
        refine wpAnyH_take (i := 9) (oi := { dst := some 7, op := .assign (.tmp 15), type := _, pos := _, after := _, guard := _ }) (v := ?_) rfl (by kernel_rfl) (by kernel_rfl) (by kernel_rfl) (fun _ _ _ h => h) (Or.inl ⟨by rfl, ?_⟩) hH ?_
        rotate_left
        · intro w hSw
          clear hSw
          go_simp
          try with_reducible rfl
        simp only [Act.put, List.setIfInBounds_toArray, List.set_cons_zero, List.set_cons_succ]
        refine wpAnyH_ready (rs := [10]) (by kernel_rfl) (by simp) ?_
        refine AllReadyH.cons (o := { dst := none, op := .store _ (.tmp 8) (.tmp 16), type := _, pos := _, after := _, guard := _ }) rfl (fun K hK => ?_) AllReadyH.nil
        rw [if_pos (by rfl)]
        refine wp_store_mid _ _ _ rfl u1052q.heap.size _ #[.int .i64 (cc), .int .i64 (y)] rfl rfl h1075q.out.there2 HA.out (two_one _ _) ?_
        simp only [Act.put]
        have h1077q : Hid (Gd n w (u1076q.setCells u1052q.heap.size 0 [.int .i64 (cc), .int .i64 (y)])) := h1068q.out.asideL (by omega) 0 [.int .i64 (cc), .int .i64 (y)]
        have h1078q : Hid (Bo (u1076q.setCells u1052q.heap.size 0 [.int .i64 (cc), .int .i64 (y)]) b [.func (.func 38) #[] #[]]) := h1069q.out.asideL (by omega) 0 [.int .i64 (cc), .int .i64 (y)]
        have h1079q : Hid (Bo (u1076q.setCells u1052q.heap.size 0 [.int .i64 (cc), .int .i64 (y)]) n (wl c)) := h1070q.out.asideL (by omega) 0 [.int .i64 (cc), .int .i64 (y)]
        have h1080q : Hid (Bo (u1076q.setCells u1052q.heap.size 0 [.int .i64 (cc), .int .i64 (y)]) (n + 1) [.int .i64 o, .int .i64 k, .int .i64 x]) := h1071q.out.asideL (by omega) 0 [.int .i64 (cc), .int .i64 (y)]
        have h1081q : Hid (Bo (u1076q.setCells u1052q.heap.size 0 [.int .i64 (cc), .int .i64 (y)]) (n + 2) (wl wz)) := h1072q.out.asideL (by omega) 0 [.int .i64 (cc), .int .i64 (y)]
        have h1082q : Hid (Bo (u1076q.setCells u1052q.heap.size 0 [.int .i64 (cc), .int .i64 (y)]) (n + 3) [.int .i64 0, .int .i64 0]) := h1073q.out.asideL (by omega) 0 [.int .i64 (cc), .int .i64 (y)]
        have h1083q : Hid (Li u1037q.heap.size u1052q.heap.size (u1076q.setCells u1052q.heap.size 0 [.int .i64 (cc), .int .i64 (y)]) v2 ys) := h1074q.out.asideL (by omega) 0 [.int .i64 (cc), .int .i64 (y)]
        have h1084q : Hid (Bo (u1076q.setCells u1052q.heap.size 0 [.int .i64 (cc), .int .i64 (y)]) u1052q.heap.size [.int .i64 (cc), .int .i64 (y)]) := h1075q.out.set2 (.int .i64 (cc)) (.int .i64 (y))
        clear h1068q h1069q h1070q h1071q h1072q h1073q h1074q h1075q
        refine hK.out _ _ ⟨h1078q.out, h1079q.out, h1080q.out⟩ (fun hH => ?_)
        clear hK K
        generalize (u1076q.setCells u1052q.heap.size 0 [.int .i64 (cc), .int .i64 (y)]) = u1085q at h1077q h1078q h1079q h1080q h1081q h1082q h1083q h1084q hH ⊢
        try simp only [Act.put, List.setIfInBounds_toArray, List.set_cons_zero, List.set_cons_succ]
        refine wpAnyH_done (by kernel_rfl) ?_ _
        go_wp2_with fail
        go_meet
        case rel => exact ⟨u1052q.heap.size, v2, u1037q.heap.size, u1052q.heap.size, rfl, rfl, h1077q, h1081q, h1082q, h1084q, h1083q, (by omega)⟩
      refine AllReadyH.cons (o := { dst := some 8, op := .alloc _, type := _, pos := _, after := _, guard := _ }) rfl (fun K hK => ?_) AllReadyH.nil
      have l1086q : n ≤ u1037q.heap.size := h1038q.out.le
      have l1087q : b < u1037q.heap.size := h1039q.out.lt
      have l1088q : n < u1037q.heap.size := h1040q.out.lt
      have l1089q : (n + 1) < u1037q.heap.size := h1041q.out.lt
      have l1090q : (n + 2) < u1037q.heap.size := h1042q.out.lt
      have l1091q : (n + 3) < u1037q.heap.size := h1043q.out.lt
      have l1092q : u1037q.heap.size ≤ u1037q.heap.size := h1044q.out.le
      go_simp
      have h1093q : Hid (Gd n w (u1037q.alloc (.cells #[.int .i64 0, .int .i64 0] 38))) := h1038q.out.new (.cells #[.int .i64 0, .int .i64 0] 38)
      have h1094q : Hid (Bo (u1037q.alloc (.cells #[.int .i64 0, .int .i64 0] 38)) b [.func (.func 38) #[] #[]]) := h1039q.out.new (.cells #[.int .i64 0, .int .i64 0] 38)
      have h1095q : Hid (Bo (u1037q.alloc (.cells #[.int .i64 0, .int .i64 0] 38)) n (wl c)) := h1040q.out.new (.cells #[.int .i64 0, .int .i64 0] 38)
      have h1096q : Hid (Bo (u1037q.alloc (.cells #[.int .i64 0, .int .i64 0] 38)) (n + 1) [.int .i64 o, .int .i64 k, .int .i64 x]) := h1041q.out.new (.cells #[.int .i64 0, .int .i64 0] 38)
      have h1097q : Hid (Bo (u1037q.alloc (.cells #[.int .i64 0, .int .i64 0] 38)) (n + 2) (wl wz)) := h1042q.out.new (.cells #[.int .i64 0, .int .i64 0] 38)
      have h1098q : Hid (Bo (u1037q.alloc (.cells #[.int .i64 0, .int .i64 0] 38)) (n + 3) [.int .i64 0, .int .i64 0]) := h1043q.out.new (.cells #[.int .i64 0, .int .i64 0] 38)
      have h1099q : Hid (Li u1032q.heap.size u1037q.heap.size (u1037q.alloc (.cells #[.int .i64 0, .int .i64 0] 38)) v1 xs) := h1044q.out.new (.cells #[.int .i64 0, .int .i64 0] 38)
      clear h1038q h1039q h1040q h1041q h1042q h1043q h1044q
      have h1100q : Hid (Bo (u1037q.alloc (.cells #[.int .i64 0, .int .i64 0] 38)) u1037q.heap.size [.int .i64 0, .int .i64 0]) := Bo.born u1037q [.int .i64 0, .int .i64 0] 38 (by simp)
      refine hK.out _ _ ⟨h1094q.out, h1095q.out, h1096q.out⟩ (fun hH => ?_)
      clear hK K
      generalize (u1037q.alloc (.cells #[.int .i64 0, .int .i64 0] 38)) = u1101q at h1093q h1094q h1095q h1096q h1097q h1098q h1099q h1100q hH ⊢
      try simp only [Act.put, List.setIfInBounds_toArray, List.set_cons_zero, List.set_cons_succ]
      refine wpAnyH_ready (rs := [4]) (by kernel_rfl) (by simp) ?_
      refine AllReadyH.cons (o := { dst := some 14, op := _, type := _, pos := _, after := _, guard := _ }) rfl (fun K hK => ?_) AllReadyH.nil
      have l1102q : n ≤ u1101q.heap.size := h1093q.out.le
      have l1103q : b < u1101q.heap.size := h1094q.out.lt
      have l1104q : n < u1101q.heap.size := h1095q.out.lt
      have l1105q : (n + 1) < u1101q.heap.size := h1096q.out.lt
      have l1106q : (n + 2) < u1101q.heap.size := h1097q.out.lt
      have l1107q : (n + 3) < u1101q.heap.size := h1098q.out.lt
      have l1108q : u1037q.heap.size ≤ u1101q.heap.size := h1099q.out.le
      have l1109q : u1037q.heap.size < u1101q.heap.size := h1100q.out.lt
      go_simp
      refine (DD.out _ _ _ h1099q.out.isL).mono ?_
      rintro e u1110q ⟨v2, rfl, I, hb⟩
      have h1111q : Hid (Gd n w u1110q) := h1093q.out.later hb
      have h1112q : Hid (Bo u1110q b [.func (.func 38) #[] #[]]) := h1094q.out.later hb
      have h1113q : Hid (Bo u1110q n (wl c)) := h1095q.out.later hb
      have h1114q : Hid (Bo u1110q (n + 1) [.int .i64 o, .int .i64 k, .int .i64 x]) := h1096q.out.later hb
      have h1115q : Hid (Bo u1110q (n + 2) (wl wz)) := h1097q.out.later hb
      have h1116q : Hid (Bo u1110q (n + 3) [.int .i64 0, .int .i64 0]) := h1098q.out.later hb
      have h1117q : Hid (Li u1032q.heap.size u1037q.heap.size u1110q v1 xs) := h1099q.out.later hb
      have h1118q : Hid (Bo u1110q u1037q.heap.size [.int .i64 0, .int .i64 0]) := h1100q.out.later hb
      clear h1093q h1094q h1095q h1096q h1097q h1098q h1099q h1100q
      have hi : Hid _ := I
      clear h1117q
      have h1119q : Hid (Li u1101q.heap.size u1110q.heap.size u1110q v2 ys) := Li.of hi.out
      clear I hi
      clear hb
      go_wp2_with fail
      refine hK.out _ _ ⟨h1112q.out, h1113q.out, h1114q.out⟩ (fun hH => ?_)
      clear hK K
      try simp only [Act.put, List.setIfInBounds_toArray, List.set_cons_zero, List.set_cons_succ]
      refine wpAnyH_take (i := 5) (oi := { dst := some 9, op := .move (.tmp 14), type := _, pos := _, after := _, guard := _ }) (v := ?_) rfl (by kernel_rfl) (by kernel_rfl) (by kernel_rfl) (fun _ _ _ h => h) (Or.inl ⟨by rfl, ?_⟩) hH ?_
      rotate_left
      · intro w hSw
        clear hSw
        go_simp
        try with_reducible rfl
      simp only [Act.put, List.setIfInBounds_toArray, List.set_cons_zero, List.set_cons_succ]
      refine wpAnyH_take (i := 6) (oi := { dst := some 15, op := .extract (.tmp 9) 0, type := _, pos := _, after := _, guard := _ }) (v := ?_) rfl (by kernel_rfl) (by kernel_rfl) (by kernel_rfl) (fun _ _ _ h => h) (Or.inl ⟨by rfl, ?_⟩) hH ?_
      rotate_left
      · intro w hSw
        clear hSw
        go_simp
        try with_reducible rfl
      simp only [Act.put, List.setIfInBounds_toArray, List.set_cons_zero, List.set_cons_succ]
      refine wpAnyH_take (i := 7) (oi := { dst := some 16, op := .extract (.tmp 9) 1, type := _, pos := _, after := _, guard := _ }) (v := ?_) rfl (by kernel_rfl) (by kernel_rfl) (by kernel_rfl) (fun _ _ _ h => h) (Or.inl ⟨by rfl, ?_⟩) hH ?_
      rotate_left
      · intro w hSw
        clear hSw
        go_simp
        try with_reducible rfl
      simp only [Act.put, List.setIfInBounds_toArray, List.set_cons_zero, List.set_cons_succ]
      refine wpAnyH_take (i := 9) (oi := { dst := some 7, op := .assign (.tmp 15), type := _, pos := _, after := _, guard := _ }) (v := ?_) rfl (by kernel_rfl) (by kernel_rfl) (by kernel_rfl) (fun _ _ _ h => h) (Or.inl ⟨by rfl, ?_⟩) hH ?_
      rotate_left
      · intro w hSw
        clear hSw
        go_simp
        try with_reducible rfl
      simp only [Act.put, List.setIfInBounds_toArray, List.set_cons_zero, List.set_cons_succ]
      refine wpAnyH_ready (rs := [10]) (by kernel_rfl) (by simp) ?_
      refine AllReadyH.cons (o := { dst := none, op := .store _ (.tmp 8) (.tmp 16), type := _, pos := _, after := _, guard := _ }) rfl (fun K hK => ?_) AllReadyH.nil
      rw [if_pos (by rfl)]
      refine wp_store_mid _ _ _ rfl u1037q.heap.size _ #[.int .i64 (cc), .int .i64 (y)] rfl rfl h1118q.out.there2 HA.out (two_one _ _) ?_
      simp only [Act.put]
      have h1120q : Hid (Gd n w (u1110q.setCells u1037q.heap.size 0 [.int .i64 (cc), .int .i64 (y)])) := h1111q.out.asideL (by omega) 0 [.int .i64 (cc), .int .i64 (y)]
      have h1121q : Hid (Bo (u1110q.setCells u1037q.heap.size 0 [.int .i64 (cc), .int .i64 (y)]) b [.func (.func 38) #[] #[]]) := h1112q.out.asideL (by omega) 0 [.int .i64 (cc), .int .i64 (y)]
      have h1122q : Hid (Bo (u1110q.setCells u1037q.heap.size 0 [.int .i64 (cc), .int .i64 (y)]) n (wl c)) := h1113q.out.asideL (by omega) 0 [.int .i64 (cc), .int .i64 (y)]
      have h1123q : Hid (Bo (u1110q.setCells u1037q.heap.size 0 [.int .i64 (cc), .int .i64 (y)]) (n + 1) [.int .i64 o, .int .i64 k, .int .i64 x]) := h1114q.out.asideL (by omega) 0 [.int .i64 (cc), .int .i64 (y)]
      have h1124q : Hid (Bo (u1110q.setCells u1037q.heap.size 0 [.int .i64 (cc), .int .i64 (y)]) (n + 2) (wl wz)) := h1115q.out.asideL (by omega) 0 [.int .i64 (cc), .int .i64 (y)]
      have h1125q : Hid (Bo (u1110q.setCells u1037q.heap.size 0 [.int .i64 (cc), .int .i64 (y)]) (n + 3) [.int .i64 0, .int .i64 0]) := h1116q.out.asideL (by omega) 0 [.int .i64 (cc), .int .i64 (y)]
      have h1126q : Hid (Bo (u1110q.setCells u1037q.heap.size 0 [.int .i64 (cc), .int .i64 (y)]) u1037q.heap.size [.int .i64 (cc), .int .i64 (y)]) := h1118q.out.set2 (.int .i64 (cc)) (.int .i64 (y))
      have h1127q : Hid (Li u1101q.heap.size u1110q.heap.size (u1110q.setCells u1037q.heap.size 0 [.int .i64 (cc), .int .i64 (y)]) v2 ys) := h1119q.out.asideL (by omega) 0 [.int .i64 (cc), .int .i64 (y)]
      clear h1111q h1112q h1113q h1114q h1115q h1116q h1118q h1119q
      refine hK.out _ _ ⟨h1121q.out, h1122q.out, h1123q.out⟩ (fun hH => ?_)
      clear hK K
      generalize (u1110q.setCells u1037q.heap.size 0 [.int .i64 (cc), .int .i64 (y)]) = u1128q at h1120q h1121q h1122q h1123q h1124q h1125q h1126q h1127q hH ⊢
      try simp only [Act.put, List.setIfInBounds_toArray, List.set_cons_zero, List.set_cons_succ]
      refine wpAnyH_done (by kernel_rfl) ?_ _
      go_wp2_with fail
      go_meet
      case rel => exact ⟨u1037q.heap.size, v2, u1101q.heap.size, u1110q.heap.size, rfl, rfl, h1120q, h1124q, h1125q, h1126q, h1127q, (by omega)⟩
    refine AllReadyH.cons (o := { dst := some 8, op := .alloc _, type := _, pos := _, after := _, guard := _ }) rfl (fun K hK => ?_) AllReadyH.nil
    have l1129q : n ≤ u1032q.heap.size := h1026q.out.le
    have l1130q : b < u1032q.heap.size := h1027q.out.lt
    have l1131q : n < u1032q.heap.size := h1028q.out.lt
    have l1132q : (n + 1) < u1032q.heap.size := h1029q.out.lt
    have l1133q : (n + 2) < u1032q.heap.size := h1030q.out.lt
    have l1134q : (n + 3) < u1032q.heap.size := h1031q.out.lt
    go_simp
    have h1135q : Hid (Gd n w (u1032q.alloc (.cells #[.int .i64 0, .int .i64 0] 38))) := h1026q.out.new (.cells #[.int .i64 0, .int .i64 0] 38)
    have h1136q : Hid (Bo (u1032q.alloc (.cells #[.int .i64 0, .int .i64 0] 38)) b [.func (.func 38) #[] #[]]) := h1027q.out.new (.cells #[.int .i64 0, .int .i64 0] 38)
    have h1137q : Hid (Bo (u1032q.alloc (.cells #[.int .i64 0, .int .i64 0] 38)) n (wl c)) := h1028q.out.new (.cells #[.int .i64 0, .int .i64 0] 38)
    have h1138q : Hid (Bo (u1032q.alloc (.cells #[.int .i64 0, .int .i64 0] 38)) (n + 1) [.int .i64 o, .int .i64 k, .int .i64 x]) := h1029q.out.new (.cells #[.int .i64 0, .int .i64 0] 38)
    have h1139q : Hid (Bo (u1032q.alloc (.cells #[.int .i64 0, .int .i64 0] 38)) (n + 2) (wl wz)) := h1030q.out.new (.cells #[.int .i64 0, .int .i64 0] 38)
    have h1140q : Hid (Bo (u1032q.alloc (.cells #[.int .i64 0, .int .i64 0] 38)) (n + 3) [.int .i64 0, .int .i64 0]) := h1031q.out.new (.cells #[.int .i64 0, .int .i64 0] 38)
    clear h1026q h1027q h1028q h1029q h1030q h1031q
    have h1141q : Hid (Bo (u1032q.alloc (.cells #[.int .i64 0, .int .i64 0] 38)) u1032q.heap.size [.int .i64 0, .int .i64 0]) := Bo.born u1032q [.int .i64 0, .int .i64 0] 38 (by simp)
    refine hK.out _ _ ⟨h1136q.out, h1137q.out, h1138q.out⟩ (fun hH => ?_)
    clear hK K
    generalize (u1032q.alloc (.cells #[.int .i64 0, .int .i64 0] 38)) = u1142q at h1135q h1136q h1137q h1138q h1139q h1140q h1141q hH ⊢
    try simp only [Act.put, List.setIfInBounds_toArray, List.set_cons_zero, List.set_cons_succ]
    refine wpAnyH_ready (rs := [2]) (by kernel_rfl) (by simp) ?_
    refine AllReadyH.cons (o := { dst := some 12, op := _, type := _, pos := _, after := _, guard := _ }) rfl (fun K hK => ?_) AllReadyH.nil
    go_simp
    refine (LI.out _).mono ?_
    rintro e u1143q ⟨v1, rfl, I, hb⟩
    have h1144q : Hid (Gd n w u1143q) := h1135q.out.later hb
    have h1145q : Hid (Bo u1143q b [.func (.func 38) #[] #[]]) := h1136q.out.later hb
    have h1146q : Hid (Bo u1143q n (wl c)) := h1137q.out.later hb
    have h1147q : Hid (Bo u1143q (n + 1) [.int .i64 o, .int .i64 k, .int .i64 x]) := h1138q.out.later hb
    have h1148q : Hid (Bo u1143q (n + 2) (wl wz)) := h1139q.out.later hb
    have h1149q : Hid (Bo u1143q (n + 3) [.int .i64 0, .int .i64 0]) := h1140q.out.later hb
    have h1150q : Hid (Bo u1143q u1032q.heap.size [.int .i64 0, .int .i64 0]) := h1141q.out.later hb
    clear h1135q h1136q h1137q h1138q h1139q h1140q h1141q
    have hi : Hid _ := I
    have h1151q : Hid (Li u1142q.heap.size u1143q.heap.size u1143q v1 xs) := Li.of hi.out
    clear I hi
    clear hb
    go_wp2_with fail
    refine hK.out _ _ ⟨h1145q.out, h1146q.out, h1147q.out⟩ (fun hH => ?_)
    clear hK K
    try simp only [Act.put, List.setIfInBounds_toArray, List.set_cons_zero, List.set_cons_succ]
    refine wpAnyH_ready (rs := [4]) (by kernel_rfl) (by simp) ?_
    refine AllReadyH.cons (o := { dst := some 14, op := _, type := _, pos := _, after := _, guard := _ }) rfl (fun K hK => ?_) AllReadyH.nil
    have l1152q : n ≤ u1143q.heap.size := h1144q.out.le
    have l1153q : b < u1143q.heap.size := h1145q.out.lt
    have l1154q : n < u1143q.heap.size := h1146q.out.lt
    have l1155q : (n + 1) < u1143q.heap.size := h1147q.out.lt
    have l1156q : (n + 2) < u1143q.heap.size := h1148q.out.lt
    have l1157q : (n + 3) < u1143q.heap.size := h1149q.out.lt
    have l1158q : u1032q.heap.size < u1143q.heap.size := h1150q.out.lt
    have l1159q : u1143q.heap.size ≤ u1143q.heap.size := h1151q.out.le
    go_simp
    refine (DD.out _ _ _ h1151q.out.isL).mono ?_
    rintro e u1160q ⟨v2, rfl, I, hb⟩
    have h1161q : Hid (Gd n w u1160q) := h1144q.out.later hb
    have h1162q : Hid (Bo u1160q b [.func (.func 38) #[] #[]]) := h1145q.out.later hb
    have h1163q : Hid (Bo u1160q n (wl c)) := h1146q.out.later hb
    have h1164q : Hid (Bo u1160q (n + 1) [.int .i64 o, .int .i64 k, .int .i64 x]) := h1147q.out.later hb
    have h1165q : Hid (Bo u1160q (n + 2) (wl wz)) := h1148q.out.later hb
    have h1166q : Hid (Bo u1160q (n + 3) [.int .i64 0, .int .i64 0]) := h1149q.out.later hb
    have h1167q : Hid (Bo u1160q u1032q.heap.size [.int .i64 0, .int .i64 0]) := h1150q.out.later hb
    have h1168q : Hid (Li u1142q.heap.size u1143q.heap.size u1160q v1 xs) := h1151q.out.later hb
    clear h1144q h1145q h1146q h1147q h1148q h1149q h1150q h1151q
    have hi : Hid _ := I
    clear h1168q
    have h1169q : Hid (Li u1143q.heap.size u1160q.heap.size u1160q v2 ys) := Li.of hi.out
    clear I hi
    clear hb
    go_wp2_with fail
    refine hK.out _ _ ⟨h1162q.out, h1163q.out, h1164q.out⟩ (fun hH => ?_)
    clear hK K
    try simp only [Act.put, List.setIfInBounds_toArray, List.set_cons_zero, List.set_cons_succ]
    refine wpAnyH_take (i := 5) (oi := { dst := some 9, op := .move (.tmp 14), type := _, pos := _, after := _, guard := _ }) (v := ?_) rfl (by kernel_rfl) (by kernel_rfl) (by kernel_rfl) (fun _ _ _ h => h) (Or.inl ⟨by rfl, ?_⟩) hH ?_
    rotate_left
    · intro w hSw
      clear hSw
      go_simp
      try with_reducible rfl
    simp only [Act.put, List.setIfInBounds_toArray, List.set_cons_zero, List.set_cons_succ]
    refine wpAnyH_take (i := 6) (oi := { dst := some 15, op := .extract (.tmp 9) 0, type := _, pos := _, after := _, guard := _ }) (v := ?_) rfl (by kernel_rfl) (by kernel_rfl) (by kernel_rfl) (fun _ _ _ h => h) (Or.inl ⟨by rfl, ?_⟩) hH ?_
    rotate_left
    · intro w hSw
      clear hSw
      go_simp
      try with_reducible rfl
    simp only [Act.put, List.setIfInBounds_toArray, List.set_cons_zero, List.set_cons_succ]
    refine wpAnyH_take (i := 7) (oi := { dst := some 16, op := .extract (.tmp 9) 1, type := _, pos := _, after := _, guard := _ }) (v := ?_) rfl (by kernel_rfl) (by kernel_rfl) (by kernel_rfl) (fun _ _ _ h => h) (Or.inl ⟨by rfl, ?_⟩) hH ?_
    rotate_left
    · intro w hSw
      clear hSw
      go_simp
      try with_reducible rfl
    simp only [Act.put, List.setIfInBounds_toArray, List.set_cons_zero, List.set_cons_succ]
    refine wpAnyH_take (i := 9) (oi := { dst := some 7, op := .assign (.tmp 15), type := _, pos := _, after := _, guard := _ }) (v := ?_) rfl (by kernel_rfl) (by kernel_rfl) (by kernel_rfl) (fun _ _ _ h => h) (Or.inl ⟨by rfl, ?_⟩) hH ?_
    rotate_left
    · intro w hSw
      clear hSw
      go_simp
      try with_reducible rfl
    simp only [Act.put, List.setIfInBounds_toArray, List.set_cons_zero, List.set_cons_succ]
    refine wpAnyH_ready (rs := [10]) (by kernel_rfl) (by simp) ?_
    refine AllReadyH.cons (o := { dst := none, op := .store _ (.tmp 8) (.tmp 16), type := _, pos := _, after := _, guard := _ }) rfl (fun K hK => ?_) AllReadyH.nil
    rw [if_pos (by rfl)]
    refine wp_store_mid _ _ _ rfl u1032q.heap.size _ #[.int .i64 (cc), .int .i64 (y)] rfl rfl h1167q.out.there2 HA.out (two_one _ _) ?_
    simp only [Act.put]
    have h1170q : Hid (Gd n w (u1160q.setCells u1032q.heap.size 0 [.int .i64 (cc), .int .i64 (y)])) := h1161q.out.asideL (by omega) 0 [.int .i64 (cc), .int .i64 (y)]
    have h1171q : Hid (Bo (u1160q.setCells u1032q.heap.size 0 [.int .i64 (cc), .int .i64 (y)]) b [.func (.func 38) #[] #[]]) := h1162q.out.asideL (by omega) 0 [.int .i64 (cc), .int .i64 (y)]
    have h1172q : Hid (Bo (u1160q.setCells u1032q.heap.size 0 [.int .i64 (cc), .int .i64 (y)]) n (wl c)) := h1163q.out.asideL (by omega) 0 [.int .i64 (cc), .int .i64 (y)]
    have h1173q : Hid (Bo (u1160q.setCells u1032q.heap.size 0 [.int .i64 (cc), .int .i64 (y)]) (n + 1) [.int .i64 o, .int .i64 k, .int .i64 x]) := h1164q.out.asideL (by omega) 0 [.int .i64 (cc), .int .i64 (y)]
    have h1174q : Hid (Bo (u1160q.setCells u1032q.heap.size 0 [.int .i64 (cc), .int .i64 (y)]) (n + 2) (wl wz)) := h1165q.out.asideL (by omega) 0 [.int .i64 (cc), .int .i64 (y)]
    have h1175q : Hid (Bo (u1160q.setCells u1032q.heap.size 0 [.int .i64 (cc), .int .i64 (y)]) (n + 3) [.int .i64 0, .int .i64 0]) := h1166q.out.asideL (by omega) 0 [.int .i64 (cc), .int .i64 (y)]
    have h1176q : Hid (Bo (u1160q.setCells u1032q.heap.size 0 [.int .i64 (cc), .int .i64 (y)]) u1032q.heap.size [.int .i64 (cc), .int .i64 (y)]) := h1167q.out.set2 (.int .i64 (cc)) (.int .i64 (y))
    have h1177q : Hid (Li u1143q.heap.size u1160q.heap.size (u1160q.setCells u1032q.heap.size 0 [.int .i64 (cc), .int .i64 (y)]) v2 ys) := h1169q.out.asideL (by omega) 0 [.int .i64 (cc), .int .i64 (y)]
    clear h1161q h1162q h1163q h1164q h1165q h1166q h1167q h1169q
    refine hK.out _ _ ⟨h1171q.out, h1172q.out, h1173q.out⟩ (fun hH => ?_)
    clear hK K
    generalize (u1160q.setCells u1032q.heap.size 0 [.int .i64 (cc), .int .i64 (y)]) = u1178q at h1170q h1171q h1172q h1173q h1174q h1175q h1176q h1177q hH ⊢
    try simp only [Act.put, List.setIfInBounds_toArray, List.set_cons_zero, List.set_cons_succ]
    refine wpAnyH_done (by kernel_rfl) ?_ _
    go_wp2_with fail
    go_meet
    case rel => exact ⟨u1032q.heap.size, v2, u1143q.heap.size, u1160q.heap.size, rfl, rfl, h1170q, h1174q, h1175q, h1176q, h1177q, (by omega)⟩
  case rest =>
    obtain ⟨b_b, v_l2, B_l2, E_l2, rfl, rfl, h1179q, h1180q, h1181q, h1182q, h1183q, hmore⟩ := hcut
    go_wp2_with fail
    have h1184q : Hid (Gd n w wc.drew) := h1179q.out.drew
    have h1185q : Hid (Bo wc.drew (n + 2) (wl wz)) := h1180q.out.drew
    have h1186q : Hid (Bo wc.drew (n + 3) [.int .i64 0, .int .i64 0]) := h1181q.out.drew
    have h1187q : Hid (Bo wc.drew b_b [.int .i64 (cc), .int .i64 (y)]) := h1182q.out.drew
    have h1188q : Hid (Li B_l2 E_l2 wc.drew v_l2 ys) := h1183q.out.drew
    clear h1179q h1180q h1181q h1182q h1183q
    refine wp_region_held_drew (S := fun w' => Bo w' b_b [.int .i64 (cc), .int .i64 (y)]) (by kernel_rfl) h1187q.out (fun hH => ?_)
    generalize wc.drew = u1189q at h1184q h1185q h1186q h1187q h1188q hH ⊢
    refine wpAnyH_take (i := 0) (oi := { dst := some 17, op := .move (.tmp 7), type := _, pos := _, after := _, guard := _ }) (v := ?_) rfl (by kernel_rfl) (by kernel_rfl) (by kernel_rfl) (fun _ _ _ h => h) (Or.inl ⟨by rfl, ?_⟩) hH ?_
    rotate_left
    · intro w hSw
      clear hSw
      go_simp
      try with_reducible rfl
    simp only [Act.put, List.setIfInBounds_toArray, List.set_cons_zero, List.set_cons_succ]
    refine wpAnyH_take (i := 2) (oi := { dst := some 19, op := .load _ (.tmp 8), type := _, pos := _, after := _, guard := _ }) (v := ?_) rfl (by kernel_rfl) (by kernel_rfl) (by kernel_rfl) (fun _ _ _ h => h) (Or.inl ⟨by rfl, ?_⟩) hH ?_
    rotate_left
    · intro w hSw
      have c1190q := (hSw).at 0 rfl
      have c1191q := (hSw).at 1 rfl
      clear hSw
      go_simp
      try with_reducible rfl
    simp only [Act.put, List.setIfInBounds_toArray, List.set_cons_zero, List.set_cons_succ]
    refine wpAnyH_ready (rs := [1]) (by kernel_rfl) (by simp) ?_
    refine AllReadyH.cons (o := { dst := some 18, op := _, type := _, pos := _, after := _, guard := _ }) rfl (fun K hK => ?_) AllReadyH.nil
    go_simp
    refine (LW.out _ _ _ h1188q.out.isL).mono ?_
    rintro e u1192q ⟨rfl, hb⟩
    have h1193q : Hid (Gd n w u1192q) := h1184q.out.later hb
    have h1194q : Hid (Bo u1192q (n + 2) (wl wz)) := h1185q.out.later hb
    have h1195q : Hid (Bo u1192q (n + 3) [.int .i64 0, .int .i64 0]) := h1186q.out.later hb
    have h1196q : Hid (Bo u1192q b_b [.int .i64 (cc), .int .i64 (y)]) := h1187q.out.later hb
    have h1197q : Hid (Li B_l2 E_l2 u1192q v_l2 ys) := h1188q.out.later hb
    clear h1184q h1185q h1186q h1187q h1188q
    clear h1197q
    clear hb
    go_wp2_with fail
    refine hK.out _ _ h1196q.out (fun hH => ?_)
    clear hK K
    try simp only [Act.put, List.setIfInBounds_toArray, List.set_cons_zero, List.set_cons_succ]
    refine wpAnyH_ready (rs := [3]) (by kernel_rfl) (by simp) ?_
    refine AllReadyH.cons (o := { dst := none, op := .store _ (.tmp 5) (.tmp 18), type := _, pos := _, after := _, guard := _ }) rfl (fun K hK => ?_) AllReadyH.nil
    rw [if_pos (by rfl)]
    refine wp_store_mid _ _ _ rfl (n + 2) _ (wl (lw ys)).toArray rfl rfl (h1194q.out.thereW (lw ys)) (HCZ.out (lw ys)) (wl_all (lw ys)) ?_
    simp only [Act.put]
    have h1198q : Hid (Gd n w (u1192q.setCells (n + 2) 0 (wl (lw ys)))) := h1193q.out.asideL (by omega) 0 (wl (lw ys))
    have h1199q : Hid (Bo (u1192q.setCells (n + 2) 0 (wl (lw ys))) (n + 2) (wl (lw ys))) := h1194q.out.setW (lw ys)
    have h1200q : Hid (Bo (u1192q.setCells (n + 2) 0 (wl (lw ys))) (n + 3) [.int .i64 0, .int .i64 0]) := h1195q.out.asideL (by omega) 0 (wl (lw ys))
    have h1201q : Hid (Bo (u1192q.setCells (n + 2) 0 (wl (lw ys))) b_b [.int .i64 (cc), .int .i64 (y)]) := h1196q.out.asideL (by omega) 0 (wl (lw ys))
    clear h1193q h1194q h1195q h1196q
    refine hK.out _ _ h1201q.out (fun hH => ?_)
    clear hK K
    generalize (u1192q.setCells (n + 2) 0 (wl (lw ys))) = u1202q at h1198q h1199q h1200q h1201q hH ⊢
    try simp only [Act.put, List.setIfInBounds_toArray, List.set_cons_zero, List.set_cons_succ]
    refine wpAnyH_ready (rs := [4]) (by kernel_rfl) (by simp) ?_
    refine AllReadyH.cons (o := { dst := none, op := .store _ (.tmp 6) (.tmp 19), type := _, pos := _, after := _, guard := _ }) rfl (fun K hK => ?_) AllReadyH.nil
    rw [if_pos (by rfl)]
    refine wp_store_mid _ _ _ rfl (n + 3) _ #[.int .i64 (cc), .int .i64 (y)] rfl rfl h1200q.out.there2 HA.out (two_one _ _) ?_
    simp only [Act.put]
    have h1203q : Hid (Gd n w (u1202q.setCells (n + 3) 0 [.int .i64 (cc), .int .i64 (y)])) := h1198q.out.asideL (by omega) 0 [.int .i64 (cc), .int .i64 (y)]
    have h1204q : Hid (Bo (u1202q.setCells (n + 3) 0 [.int .i64 (cc), .int .i64 (y)]) (n + 2) (wl (lw ys))) := h1199q.out.asideL (by omega) 0 [.int .i64 (cc), .int .i64 (y)]
    have h1205q : Hid (Bo (u1202q.setCells (n + 3) 0 [.int .i64 (cc), .int .i64 (y)]) (n + 3) [.int .i64 (cc), .int .i64 (y)]) := h1200q.out.set2 (.int .i64 (cc)) (.int .i64 (y))
    have h1206q : Hid (Bo (u1202q.setCells (n + 3) 0 [.int .i64 (cc), .int .i64 (y)]) b_b [.int .i64 (cc), .int .i64 (y)]) := h1201q.out.asideL (by omega) 0 [.int .i64 (cc), .int .i64 (y)]
    clear h1198q h1199q h1200q h1201q
    refine hK.out _ _ h1206q.out (fun hH => ?_)
    clear hK K
    generalize (u1202q.setCells (n + 3) 0 [.int .i64 (cc), .int .i64 (y)]) = u1207q at h1203q h1204q h1205q h1206q hH ⊢
    try simp only [Act.put, List.setIfInBounds_toArray, List.set_cons_zero, List.set_cons_succ]
    refine wpAnyH_done (by kernel_rfl) ?_ _
    go_wp2
    exact bodyPost_ret (results_row2 Tryd.results50 _ _ (n + 2) (n + 3) (wl (lw ys)) [.int .i64 (cc), .int .i64 (y)] _ _ rfl rfl h1204q.out.range HC.out rfl (HCS.out (lw ys)) h1205q.out.range HDA.out rfl HA.out) rfl ⟨rfl, by first | exact h1203q.out.low | exact h1203q.out.2⟩
set_option maxHeartbeats 4000000 in
theorem wlist_h {c : Nat → Nat} {b : Nat} {ys : List Int} {o k x cc y : Int} (hW : WList c) (hD : ∀ B W v, IsL B W v (lst c) → Calls Tryd.prog 39 #[v, .agg #[.int .i64 o, .int .i64 k, .int .i64 x]] W (Made W ys cc y)) (hl : ys.length ≤ 6) (hv : ∀ z ∈ ys, 0 ≤ z ∧ z ≤ 4294967295) (w : World) (hb : Bo w b [fv 39]) :
    Calls Tryd.prog 50 #[.agg (wl c).toArray, .agg #[.int .i64 o, .int .i64 k, .int .i64 x], .pointer (some ⟨b, 0, none⟩)] w (fun e w' => e = .returned (.tuple #[.agg (wl (lw ys)).toArray, .agg #[.int .i64 cc, .int .i64 y]]) ∧ Below w.heap.size w w') := by
  have HA : Hid ((Tryd.prog.info? 38).map (·.size) = some 2) := answer_sz
  obtain ⟨fs, ha⟩ := answer_st
  have HDA : Hid _ := ha
  clear ha
  obtain ⟨nb, eb, hd⟩ := cells_array
  have HC : Hid _ := hd
  clear hd
  have HCS : Hid _ := cells_size
  have HCZ : Hid _ := cells_size2
  have g0 : Hid (Gd w.heap.size w w) := Gd.refl w
  have LI : Hid (∀ w : World, _) := fun w => list_is hW w
  have DD : Hid _ := hD
  have LW : Hid (∀ B W v, IsL B W v ys → _) := fun B W v h => listWords_is (B := B) (w := W) (v := v) h hl hv
  generalize lst c = xs at *
  clear hW hD hl hv
  have hlt := hb.lt
  have h1208q : Hid (Bo w b [.func (.func 39) #[] #[]]) := hb
  clear hb
  have h1209q : Hid (Gd w.heap.size w (w.alloc (.cells (wl c).toArray 24))) := g0.out.new (.cells (wl c).toArray 24)
  have h1210q : Hid (Bo (w.alloc (.cells (wl c).toArray 24)) b [.func (.func 39) #[] #[]]) := h1208q.out.new (.cells (wl c).toArray 24)
  clear g0 h1208q
  have h1211q : Hid (Bo (w.alloc (.cells (wl c).toArray 24)) w.heap.size (wl c)) := Bo.born w (wl c) 24 (by simp)
  have h1212q : Hid (Gd w.heap.size w ((w.alloc (.cells (wl c).toArray 24)).alloc (.cells #[.int .i64 o, .int .i64 k, .int .i64 x] 26))) := h1209q.out.new (.cells #[.int .i64 o, .int .i64 k, .int .i64 x] 26)
  have h1213q : Hid (Bo ((w.alloc (.cells (wl c).toArray 24)).alloc (.cells #[.int .i64 o, .int .i64 k, .int .i64 x] 26)) b [.func (.func 39) #[] #[]]) := h1210q.out.new (.cells #[.int .i64 o, .int .i64 k, .int .i64 x] 26)
  have h1214q : Hid (Bo ((w.alloc (.cells (wl c).toArray 24)).alloc (.cells #[.int .i64 o, .int .i64 k, .int .i64 x] 26)) w.heap.size (wl c)) := h1211q.out.new (.cells #[.int .i64 o, .int .i64 k, .int .i64 x] 26)
  clear h1209q h1210q h1211q
  have h1215q : Hid (Bo ((w.alloc (.cells (wl c).toArray 24)).alloc (.cells #[.int .i64 o, .int .i64 k, .int .i64 x] 26)) (w.heap.size + 1) [.int .i64 o, .int .i64 k, .int .i64 x]) := Bo.born (w.alloc (.cells (wl c).toArray 24)) [.int .i64 o, .int .i64 k, .int .i64 x] 26 (by simp)
  have h1216q : Hid (Gd w.heap.size w (((w.alloc (.cells (wl c).toArray 24)).alloc (.cells #[.int .i64 o, .int .i64 k, .int .i64 x] 26)).alloc (.cells #[.int .u64 0, .int .u64 0, .int .u64 0, .int .u64 0, .int .u64 0, .int .u64 0, .int .u64 0, .int .u64 0, .int .u64 0, .int .u64 0, .int .u64 0, .int .u64 0, .int .u64 0, .int .u64 0, .int .u64 0, .int .u64 0, .int .u64 0] 24))) := h1212q.out.new (.cells #[.int .u64 0, .int .u64 0, .int .u64 0, .int .u64 0, .int .u64 0, .int .u64 0, .int .u64 0, .int .u64 0, .int .u64 0, .int .u64 0, .int .u64 0, .int .u64 0, .int .u64 0, .int .u64 0, .int .u64 0, .int .u64 0, .int .u64 0] 24)
  have h1217q : Hid (Bo (((w.alloc (.cells (wl c).toArray 24)).alloc (.cells #[.int .i64 o, .int .i64 k, .int .i64 x] 26)).alloc (.cells #[.int .u64 0, .int .u64 0, .int .u64 0, .int .u64 0, .int .u64 0, .int .u64 0, .int .u64 0, .int .u64 0, .int .u64 0, .int .u64 0, .int .u64 0, .int .u64 0, .int .u64 0, .int .u64 0, .int .u64 0, .int .u64 0, .int .u64 0] 24)) b [.func (.func 39) #[] #[]]) := h1213q.out.new (.cells #[.int .u64 0, .int .u64 0, .int .u64 0, .int .u64 0, .int .u64 0, .int .u64 0, .int .u64 0, .int .u64 0, .int .u64 0, .int .u64 0, .int .u64 0, .int .u64 0, .int .u64 0, .int .u64 0, .int .u64 0, .int .u64 0, .int .u64 0] 24)
  have h1218q : Hid (Bo (((w.alloc (.cells (wl c).toArray 24)).alloc (.cells #[.int .i64 o, .int .i64 k, .int .i64 x] 26)).alloc (.cells #[.int .u64 0, .int .u64 0, .int .u64 0, .int .u64 0, .int .u64 0, .int .u64 0, .int .u64 0, .int .u64 0, .int .u64 0, .int .u64 0, .int .u64 0, .int .u64 0, .int .u64 0, .int .u64 0, .int .u64 0, .int .u64 0, .int .u64 0] 24)) w.heap.size (wl c)) := h1214q.out.new (.cells #[.int .u64 0, .int .u64 0, .int .u64 0, .int .u64 0, .int .u64 0, .int .u64 0, .int .u64 0, .int .u64 0, .int .u64 0, .int .u64 0, .int .u64 0, .int .u64 0, .int .u64 0, .int .u64 0, .int .u64 0, .int .u64 0, .int .u64 0] 24)
  have h1219q : Hid (Bo (((w.alloc (.cells (wl c).toArray 24)).alloc (.cells #[.int .i64 o, .int .i64 k, .int .i64 x] 26)).alloc (.cells #[.int .u64 0, .int .u64 0, .int .u64 0, .int .u64 0, .int .u64 0, .int .u64 0, .int .u64 0, .int .u64 0, .int .u64 0, .int .u64 0, .int .u64 0, .int .u64 0, .int .u64 0, .int .u64 0, .int .u64 0, .int .u64 0, .int .u64 0] 24)) (w.heap.size + 1) [.int .i64 o, .int .i64 k, .int .i64 x]) := h1215q.out.new (.cells #[.int .u64 0, .int .u64 0, .int .u64 0, .int .u64 0, .int .u64 0, .int .u64 0, .int .u64 0, .int .u64 0, .int .u64 0, .int .u64 0, .int .u64 0, .int .u64 0, .int .u64 0, .int .u64 0, .int .u64 0, .int .u64 0, .int .u64 0] 24)
  clear h1212q h1213q h1214q h1215q
  have h1220q : Hid (Bo (((w.alloc (.cells (wl c).toArray 24)).alloc (.cells #[.int .i64 o, .int .i64 k, .int .i64 x] 26)).alloc (.cells #[.int .u64 0, .int .u64 0, .int .u64 0, .int .u64 0, .int .u64 0, .int .u64 0, .int .u64 0, .int .u64 0, .int .u64 0, .int .u64 0, .int .u64 0, .int .u64 0, .int .u64 0, .int .u64 0, .int .u64 0, .int .u64 0, .int .u64 0] 24)) (w.heap.size + 2) (wl wz)) := Bo.born ((w.alloc (.cells (wl c).toArray 24)).alloc (.cells #[.int .i64 o, .int .i64 k, .int .i64 x] 26)) (wl wz) 24 (by simp)
  have h1221q : Hid (Gd w.heap.size w ((((w.alloc (.cells (wl c).toArray 24)).alloc (.cells #[.int .i64 o, .int .i64 k, .int .i64 x] 26)).alloc (.cells #[.int .u64 0, .int .u64 0, .int .u64 0, .int .u64 0, .int .u64 0, .int .u64 0, .int .u64 0, .int .u64 0, .int .u64 0, .int .u64 0, .int .u64 0, .int .u64 0, .int .u64 0, .int .u64 0, .int .u64 0, .int .u64 0, .int .u64 0] 24)).alloc (.cells #[.int .i64 0, .int .i64 0] 38))) := h1216q.out.new (.cells #[.int .i64 0, .int .i64 0] 38)
  have h1222q : Hid (Bo ((((w.alloc (.cells (wl c).toArray 24)).alloc (.cells #[.int .i64 o, .int .i64 k, .int .i64 x] 26)).alloc (.cells #[.int .u64 0, .int .u64 0, .int .u64 0, .int .u64 0, .int .u64 0, .int .u64 0, .int .u64 0, .int .u64 0, .int .u64 0, .int .u64 0, .int .u64 0, .int .u64 0, .int .u64 0, .int .u64 0, .int .u64 0, .int .u64 0, .int .u64 0] 24)).alloc (.cells #[.int .i64 0, .int .i64 0] 38)) b [.func (.func 39) #[] #[]]) := h1217q.out.new (.cells #[.int .i64 0, .int .i64 0] 38)
  have h1223q : Hid (Bo ((((w.alloc (.cells (wl c).toArray 24)).alloc (.cells #[.int .i64 o, .int .i64 k, .int .i64 x] 26)).alloc (.cells #[.int .u64 0, .int .u64 0, .int .u64 0, .int .u64 0, .int .u64 0, .int .u64 0, .int .u64 0, .int .u64 0, .int .u64 0, .int .u64 0, .int .u64 0, .int .u64 0, .int .u64 0, .int .u64 0, .int .u64 0, .int .u64 0, .int .u64 0] 24)).alloc (.cells #[.int .i64 0, .int .i64 0] 38)) w.heap.size (wl c)) := h1218q.out.new (.cells #[.int .i64 0, .int .i64 0] 38)
  have h1224q : Hid (Bo ((((w.alloc (.cells (wl c).toArray 24)).alloc (.cells #[.int .i64 o, .int .i64 k, .int .i64 x] 26)).alloc (.cells #[.int .u64 0, .int .u64 0, .int .u64 0, .int .u64 0, .int .u64 0, .int .u64 0, .int .u64 0, .int .u64 0, .int .u64 0, .int .u64 0, .int .u64 0, .int .u64 0, .int .u64 0, .int .u64 0, .int .u64 0, .int .u64 0, .int .u64 0] 24)).alloc (.cells #[.int .i64 0, .int .i64 0] 38)) (w.heap.size + 1) [.int .i64 o, .int .i64 k, .int .i64 x]) := h1219q.out.new (.cells #[.int .i64 0, .int .i64 0] 38)
  have h1225q : Hid (Bo ((((w.alloc (.cells (wl c).toArray 24)).alloc (.cells #[.int .i64 o, .int .i64 k, .int .i64 x] 26)).alloc (.cells #[.int .u64 0, .int .u64 0, .int .u64 0, .int .u64 0, .int .u64 0, .int .u64 0, .int .u64 0, .int .u64 0, .int .u64 0, .int .u64 0, .int .u64 0, .int .u64 0, .int .u64 0, .int .u64 0, .int .u64 0, .int .u64 0, .int .u64 0] 24)).alloc (.cells #[.int .i64 0, .int .i64 0] 38)) (w.heap.size + 2) (wl wz)) := h1220q.out.new (.cells #[.int .i64 0, .int .i64 0] 38)
  clear h1216q h1217q h1218q h1219q h1220q
  have h1226q : Hid (Bo ((((w.alloc (.cells (wl c).toArray 24)).alloc (.cells #[.int .i64 o, .int .i64 k, .int .i64 x] 26)).alloc (.cells #[.int .u64 0, .int .u64 0, .int .u64 0, .int .u64 0, .int .u64 0, .int .u64 0, .int .u64 0, .int .u64 0, .int .u64 0, .int .u64 0, .int .u64 0, .int .u64 0, .int .u64 0, .int .u64 0, .int .u64 0, .int .u64 0, .int .u64 0] 24)).alloc (.cells #[.int .i64 0, .int .i64 0] 38)) (w.heap.size + 3) [.int .i64 0, .int .i64 0]) := Bo.born (((w.alloc (.cells (wl c).toArray 24)).alloc (.cells #[.int .i64 o, .int .i64 k, .int .i64 x] 26)).alloc (.cells #[.int .u64 0, .int .u64 0, .int .u64 0, .int .u64 0, .int .u64 0, .int .u64 0, .int .u64 0, .int .u64 0, .int .u64 0, .int .u64 0, .int .u64 0, .int .u64 0, .int .u64 0, .int .u64 0, .int .u64 0, .int .u64 0, .int .u64 0] 24)) [.int .i64 0, .int .i64 0] 38 (by simp)
  go_enter Tryd.func50, Tryd.ntmps50
  go_wp2_with fail
  generalize ((((w.alloc (.cells (wl c).toArray 24)).alloc (.cells #[.int .i64 o, .int .i64 k, .int .i64 x] 26)).alloc (.cells #[.int .u64 0, .int .u64 0, .int .u64 0, .int .u64 0, .int .u64 0, .int .u64 0, .int .u64 0, .int .u64 0, .int .u64 0, .int .u64 0, .int .u64 0, .int .u64 0, .int .u64 0, .int .u64 0, .int .u64 0, .int .u64 0, .int .u64 0] 24)).alloc (.cells #[.int .i64 0, .int .i64 0] 38)) = W at h1221q h1222q h1223q h1224q h1225q h1226q ⊢
  generalize hsz : w.heap.size = n at h1221q h1222q h1223q h1224q h1225q h1226q hlt ⊢
  have HSZ : Hid (w.heap.size = n) := hsz
  clear hsz
  go_cut [7, 8] (fun s7 s8 wx => ∃ b_b : Nat, ∃ v_l2 : Value, ∃ B_l2 E_l2 : Nat, s8 = .pointer (some ⟨b_b, 0, none⟩) ∧ v_l2 = s7 ∧ Hid (Gd n w wx) ∧ Hid (Bo wx (n + 2) (wl wz)) ∧ Hid (Bo wx (n + 3) [.int .i64 0, .int .i64 0]) ∧ Hid (Bo wx b_b [.int .i64 (cc), .int .i64 (y)]) ∧ Hid (Li B_l2 E_l2 wx v_l2 ys) ∧ (n + 3 < b_b))
  case first =>
    have h1227q : Hid (Gd n w W.drew) := h1221q.out.drew
    have h1228q : Hid (Bo W.drew b [.func (.func 39) #[] #[]]) := h1222q.out.drew
    have h1229q : Hid (Bo W.drew n (wl c)) := h1223q.out.drew
    have h1230q : Hid (Bo W.drew (n + 1) [.int .i64 o, .int .i64 k, .int .i64 x]) := h1224q.out.drew
    have h1231q : Hid (Bo W.drew (n + 2) (wl wz)) := h1225q.out.drew
    have h1232q : Hid (Bo W.drew (n + 3) [.int .i64 0, .int .i64 0]) := h1226q.out.drew
    clear h1221q h1222q h1223q h1224q h1225q h1226q
    refine wp_region_held_drew (S := fun w' => Bo w' b [.func (.func 39) #[] #[]] ∧ Bo w' n (wl c) ∧ Bo w' (n + 1) [.int .i64 o, .int .i64 k, .int .i64 x]) (by kernel_rfl) ⟨h1228q.out, h1229q.out, h1230q.out⟩ (fun hH => ?_)
    generalize W.drew = u1233q at h1227q h1228q h1229q h1230q h1231q h1232q hH ⊢
    refine wpAnyH_take (i := 0) (oi := { dst := some 10, op := .load _ (.tmp 2), type := _, pos := _, after := _, guard := _ }) (v := ?_) rfl (by kernel_rfl) (by kernel_rfl) (by kernel_rfl) (fun _ _ _ h => h) (Or.inl ⟨by rfl, ?_⟩) hH ?_
    rotate_left
    · intro w hSw
      have c1234q := (hSw.1).at 0 rfl
      clear hSw
      go_simp
      try with_reducible rfl
    simp only [Act.put, List.setIfInBounds_toArray, List.set_cons_zero, List.set_cons_succ]
    refine wpAnyH_take (i := 1) (oi := { dst := some 11, op := .load _ (.tmp 3), type := _, pos := _, after := _, guard := _ }) (v := _) rfl (by kernel_rfl) (by kernel_rfl) (by kernel_rfl) (fun _ _ _ h => h) (yieldsIf_load_mid (by rfl) _ _ rfl n _ rfl (wl c) _ (fun _ h => (h.2.1).range) HC.out rfl (HCS.out c)) hH ?_
    simp only [Act.put, List.setIfInBounds_toArray, List.set_cons_zero, List.set_cons_succ]
    refine wpAnyH_take (i := 3) (oi := { dst := some 13, op := .load _ (.tmp 4), type := _, pos := _, after := _, guard := _ }) (v := ?_) rfl (by kernel_rfl) (by kernel_rfl) (by kernel_rfl) (fun _ _ _ h => h) (Or.inl ⟨by rfl, ?_⟩) hH ?_
    rotate_left
    · intro w hSw
      have c1235q := (hSw.2.2).at 0 rfl
      have c1236q := (hSw.2.2).at 1 rfl
      have c1237q := (hSw.2.2).at 2 rfl
      clear hSw
      go_simp
      try with_reducible rfl
    simp only [Act.put, List.setIfInBounds_toArray, List.set_cons_zero, List.set_cons_succ]
    refine wpAnyH_ready (rs := [2, 8]) (by kernel_rfl) (by simp) ?_
    refine AllReadyH.cons (o := { dst := some 12, op := _, type := _, pos := _, after := _, guard := _ }) rfl (fun K hK => ?_) ?_
    · go_simp
      refine (LI.out _).mono ?_
      rintro e u1238q ⟨v1, rfl, I, hb⟩
      have h1239q : Hid (Gd n w u1238q) := h1227q.out.later hb
      have h1240q : Hid (Bo u1238q b [.func (.func 39) #[] #[]]) := h1228q.out.later hb
      have h1241q : Hid (Bo u1238q n (wl c)) := h1229q.out.later hb
      have h1242q : Hid (Bo u1238q (n + 1) [.int .i64 o, .int .i64 k, .int .i64 x]) := h1230q.out.later hb
      have h1243q : Hid (Bo u1238q (n + 2) (wl wz)) := h1231q.out.later hb
      have h1244q : Hid (Bo u1238q (n + 3) [.int .i64 0, .int .i64 0]) := h1232q.out.later hb
      clear h1227q h1228q h1229q h1230q h1231q h1232q
      have hi : Hid _ := I
      have h1245q : Hid (Li u1233q.heap.size u1238q.heap.size u1238q v1 xs) := Li.of hi.out
      clear I hi
      clear hb
      go_wp2_with fail
      refine hK.out _ _ ⟨h1240q.out, h1241q.out, h1242q.out⟩ (fun hH => ?_)
      clear hK K
      try simp only [Act.put, List.setIfInBounds_toArray, List.set_cons_zero, List.set_cons_succ]
      refine wpAnyH_ready (rs := [4, 8]) (by kernel_rfl) (by simp) ?_
      refine AllReadyH.cons (o := { dst := some 14, op := _, type := _, pos := _, after := _, guard := _ }) rfl (fun K hK => ?_) ?_
      · have l1246q : n ≤ u1238q.heap.size := h1239q.out.le
        have l1247q : b < u1238q.heap.size := h1240q.out.lt
        have l1248q : n < u1238q.heap.size := h1241q.out.lt
        have l1249q : (n + 1) < u1238q.heap.size := h1242q.out.lt
        have l1250q : (n + 2) < u1238q.heap.size := h1243q.out.lt
        have l1251q : (n + 3) < u1238q.heap.size := h1244q.out.lt
        have l1252q : u1238q.heap.size ≤ u1238q.heap.size := h1245q.out.le
        go_simp
        refine (DD.out _ _ _ h1245q.out.isL).mono ?_
        rintro e u1253q ⟨v2, rfl, I, hb⟩
        have h1254q : Hid (Gd n w u1253q) := h1239q.out.later hb
        have h1255q : Hid (Bo u1253q b [.func (.func 39) #[] #[]]) := h1240q.out.later hb
        have h1256q : Hid (Bo u1253q n (wl c)) := h1241q.out.later hb
        have h1257q : Hid (Bo u1253q (n + 1) [.int .i64 o, .int .i64 k, .int .i64 x]) := h1242q.out.later hb
        have h1258q : Hid (Bo u1253q (n + 2) (wl wz)) := h1243q.out.later hb
        have h1259q : Hid (Bo u1253q (n + 3) [.int .i64 0, .int .i64 0]) := h1244q.out.later hb
        have h1260q : Hid (Li u1233q.heap.size u1238q.heap.size u1253q v1 xs) := h1245q.out.later hb
        clear h1239q h1240q h1241q h1242q h1243q h1244q h1245q
        have hi : Hid _ := I
        clear h1260q
        have h1261q : Hid (Li u1238q.heap.size u1253q.heap.size u1253q v2 ys) := Li.of hi.out
        clear I hi
        clear hb
        go_wp2_with fail
        refine hK.out _ _ ⟨h1255q.out, h1256q.out, h1257q.out⟩ (fun hH => ?_)
        clear hK K
        try simp only [Act.put, List.setIfInBounds_toArray, List.set_cons_zero, List.set_cons_succ]
        refine wpAnyH_take (i := 5) (oi := { dst := some 9, op := .move (.tmp 14), type := _, pos := _, after := _, guard := _ }) (v := ?_) rfl (by kernel_rfl) (by kernel_rfl) (by kernel_rfl) (fun _ _ _ h => h) (Or.inl ⟨by rfl, ?_⟩) hH ?_
        rotate_left
        · intro w hSw
          clear hSw
          go_simp
          try with_reducible rfl
        simp only [Act.put, List.setIfInBounds_toArray, List.set_cons_zero, List.set_cons_succ]
        refine wpAnyH_take (i := 6) (oi := { dst := some 15, op := .extract (.tmp 9) 0, type := _, pos := _, after := _, guard := _ }) (v := ?_) rfl (by kernel_rfl) (by kernel_rfl) (by kernel_rfl) (fun _ _ _ h => h) (Or.inl ⟨by rfl, ?_⟩) hH ?_
        rotate_left
        · intro w hSw
          clear hSw
          go_simp
          try with_reducible rfl
        simp only [Act.put, List.setIfInBounds_toArray, List.set_cons_zero, List.set_cons_succ]
        refine wpAnyH_take (i := 7) (oi := { dst := some 16, op := .extract (.tmp 9) 1, type := _, pos := _, after := _, guard := _ }) (v := ?_) rfl (by kernel_rfl) (by kernel_rfl) (by kernel_rfl) (fun _ _ _ h => h) (Or.inl ⟨by rfl, ?_⟩) hH ?_
        rotate_left
        · intro w hSw
          clear hSw
          go_simp
          try with_reducible rfl
        simp only [Act.put, List.setIfInBounds_toArray, List.set_cons_zero, List.set_cons_succ]
        refine wpAnyH_ready (rs := [8]) (by kernel_rfl) (by simp) ?_
        refine AllReadyH.cons (o := { dst := some 8, op := .alloc _, type := _, pos := _, after := _, guard := _ }) rfl (fun K hK => ?_) AllReadyH.nil
        have l1262q : n ≤ u1253q.heap.size := h1254q.out.le
        have l1263q : b < u1253q.heap.size := h1255q.out.lt
        have l1264q : n < u1253q.heap.size := h1256q.out.lt
        have l1265q : (n + 1) < u1253q.heap.size := h1257q.out.lt
        have l1266q : (n + 2) < u1253q.heap.size := h1258q.out.lt
        have l1267q : (n + 3) < u1253q.heap.size := h1259q.out.lt
        have l1268q : u1253q.heap.size ≤ u1253q.heap.size := h1261q.out.le
        go_simp
        have h1269q : Hid (Gd n w (u1253q.alloc (.cells #[.int .i64 0, .int .i64 0] 38))) := h1254q.out.new (.cells #[.int .i64 0, .int .i64 0] 38)
        have h1270q : Hid (Bo (u1253q.alloc (.cells #[.int .i64 0, .int .i64 0] 38)) b [.func (.func 39) #[] #[]]) := h1255q.out.new (.cells #[.int .i64 0, .int .i64 0] 38)
        have h1271q : Hid (Bo (u1253q.alloc (.cells #[.int .i64 0, .int .i64 0] 38)) n (wl c)) := h1256q.out.new (.cells #[.int .i64 0, .int .i64 0] 38)
        have h1272q : Hid (Bo (u1253q.alloc (.cells #[.int .i64 0, .int .i64 0] 38)) (n + 1) [.int .i64 o, .int .i64 k, .int .i64 x]) := h1257q.out.new (.cells #[.int .i64 0, .int .i64 0] 38)
        have h1273q : Hid (Bo (u1253q.alloc (.cells #[.int .i64 0, .int .i64 0] 38)) (n + 2) (wl wz)) := h1258q.out.new (.cells #[.int .i64 0, .int .i64 0] 38)
        have h1274q : Hid (Bo (u1253q.alloc (.cells #[.int .i64 0, .int .i64 0] 38)) (n + 3) [.int .i64 0, .int .i64 0]) := h1259q.out.new (.cells #[.int .i64 0, .int .i64 0] 38)
        have h1275q : Hid (Li u1238q.heap.size u1253q.heap.size (u1253q.alloc (.cells #[.int .i64 0, .int .i64 0] 38)) v2 ys) := h1261q.out.new (.cells #[.int .i64 0, .int .i64 0] 38)
        clear h1254q h1255q h1256q h1257q h1258q h1259q h1261q
        have h1276q : Hid (Bo (u1253q.alloc (.cells #[.int .i64 0, .int .i64 0] 38)) u1253q.heap.size [.int .i64 0, .int .i64 0]) := Bo.born u1253q [.int .i64 0, .int .i64 0] 38 (by simp)
        refine hK.out _ _ ⟨h1270q.out, h1271q.out, h1272q.out⟩ (fun hH => ?_)
        clear hK K
        generalize (u1253q.alloc (.cells #[.int .i64 0, .int .i64 0] 38)) = u1277q at h1269q h1270q h1271q h1272q h1273q h1274q h1275q h1276q hH ⊢
        try simp only [Act.put, List.setIfInBounds_toArray, List.set_cons_zero, List.set_cons_succ]
        refine wpAnyH_take (i := 9) (oi := { dst := some 7, op := .assign (.tmp 15), type := _, pos := _, after := _, guard := _ }) (v := ?_) rfl (by kernel_rfl) (by kernel_rfl) (by kernel_rfl) (fun _ _ _ h => h) (Or.inl ⟨by rfl, ?_⟩) hH ?_
        rotate_left
        · intro w hSw
          clear hSw
          go_simp
          try with_reducible rfl
        simp only [Act.put, List.setIfInBounds_toArray, List.set_cons_zero, List.set_cons_succ]
        refine wpAnyH_ready (rs := [10]) (by kernel_rfl) (by simp) ?_
        refine AllReadyH.cons (o := { dst := none, op := .store _ (.tmp 8) (.tmp 16), type := _, pos := _, after := _, guard := _ }) rfl (fun K hK => ?_) AllReadyH.nil
        rw [if_pos (by rfl)]
        refine wp_store_mid _ _ _ rfl u1253q.heap.size _ #[.int .i64 (cc), .int .i64 (y)] rfl rfl h1276q.out.there2 HA.out (two_one _ _) ?_
        simp only [Act.put]
        have h1278q : Hid (Gd n w (u1277q.setCells u1253q.heap.size 0 [.int .i64 (cc), .int .i64 (y)])) := h1269q.out.asideL (by omega) 0 [.int .i64 (cc), .int .i64 (y)]
        have h1279q : Hid (Bo (u1277q.setCells u1253q.heap.size 0 [.int .i64 (cc), .int .i64 (y)]) b [.func (.func 39) #[] #[]]) := h1270q.out.asideL (by omega) 0 [.int .i64 (cc), .int .i64 (y)]
        have h1280q : Hid (Bo (u1277q.setCells u1253q.heap.size 0 [.int .i64 (cc), .int .i64 (y)]) n (wl c)) := h1271q.out.asideL (by omega) 0 [.int .i64 (cc), .int .i64 (y)]
        have h1281q : Hid (Bo (u1277q.setCells u1253q.heap.size 0 [.int .i64 (cc), .int .i64 (y)]) (n + 1) [.int .i64 o, .int .i64 k, .int .i64 x]) := h1272q.out.asideL (by omega) 0 [.int .i64 (cc), .int .i64 (y)]
        have h1282q : Hid (Bo (u1277q.setCells u1253q.heap.size 0 [.int .i64 (cc), .int .i64 (y)]) (n + 2) (wl wz)) := h1273q.out.asideL (by omega) 0 [.int .i64 (cc), .int .i64 (y)]
        have h1283q : Hid (Bo (u1277q.setCells u1253q.heap.size 0 [.int .i64 (cc), .int .i64 (y)]) (n + 3) [.int .i64 0, .int .i64 0]) := h1274q.out.asideL (by omega) 0 [.int .i64 (cc), .int .i64 (y)]
        have h1284q : Hid (Li u1238q.heap.size u1253q.heap.size (u1277q.setCells u1253q.heap.size 0 [.int .i64 (cc), .int .i64 (y)]) v2 ys) := h1275q.out.asideL (by omega) 0 [.int .i64 (cc), .int .i64 (y)]
        have h1285q : Hid (Bo (u1277q.setCells u1253q.heap.size 0 [.int .i64 (cc), .int .i64 (y)]) u1253q.heap.size [.int .i64 (cc), .int .i64 (y)]) := h1276q.out.set2 (.int .i64 (cc)) (.int .i64 (y))
        clear h1269q h1270q h1271q h1272q h1273q h1274q h1275q h1276q
        refine hK.out _ _ ⟨h1279q.out, h1280q.out, h1281q.out⟩ (fun hH => ?_)
        clear hK K
        generalize (u1277q.setCells u1253q.heap.size 0 [.int .i64 (cc), .int .i64 (y)]) = u1286q at h1278q h1279q h1280q h1281q h1282q h1283q h1284q h1285q hH ⊢
        try simp only [Act.put, List.setIfInBounds_toArray, List.set_cons_zero, List.set_cons_succ]
        refine wpAnyH_done (by kernel_rfl) ?_ _
        go_wp2_with fail
        go_meet
        case rel => exact ⟨u1253q.heap.size, v2, u1238q.heap.size, u1253q.heap.size, rfl, rfl, h1278q, h1282q, h1283q, h1285q, h1284q, (by omega)⟩
      refine AllReadyH.cons (o := { dst := some 8, op := .alloc _, type := _, pos := _, after := _, guard := _ }) rfl (fun K hK => ?_) AllReadyH.nil
      have l1287q : n ≤ u1238q.heap.size := h1239q.out.le
      have l1288q : b < u1238q.heap.size := h1240q.out.lt
      have l1289q : n < u1238q.heap.size := h1241q.out.lt
      have l1290q : (n + 1) < u1238q.heap.size := h1242q.out.lt
      have l1291q : (n + 2) < u1238q.heap.size := h1243q.out.lt
      have l1292q : (n + 3) < u1238q.heap.size := h1244q.out.lt
      have l1293q : u1238q.heap.size ≤ u1238q.heap.size := h1245q.out.le
      go_simp
      have h1294q : Hid (Gd n w (u1238q.alloc (.cells #[.int .i64 0, .int .i64 0] 38))) := h1239q.out.new (.cells #[.int .i64 0, .int .i64 0] 38)
      have h1295q : Hid (Bo (u1238q.alloc (.cells #[.int .i64 0, .int .i64 0] 38)) b [.func (.func 39) #[] #[]]) := h1240q.out.new (.cells #[.int .i64 0, .int .i64 0] 38)
      have h1296q : Hid (Bo (u1238q.alloc (.cells #[.int .i64 0, .int .i64 0] 38)) n (wl c)) := h1241q.out.new (.cells #[.int .i64 0, .int .i64 0] 38)
      have h1297q : Hid (Bo (u1238q.alloc (.cells #[.int .i64 0, .int .i64 0] 38)) (n + 1) [.int .i64 o, .int .i64 k, .int .i64 x]) := h1242q.out.new (.cells #[.int .i64 0, .int .i64 0] 38)
      have h1298q : Hid (Bo (u1238q.alloc (.cells #[.int .i64 0, .int .i64 0] 38)) (n + 2) (wl wz)) := h1243q.out.new (.cells #[.int .i64 0, .int .i64 0] 38)
      have h1299q : Hid (Bo (u1238q.alloc (.cells #[.int .i64 0, .int .i64 0] 38)) (n + 3) [.int .i64 0, .int .i64 0]) := h1244q.out.new (.cells #[.int .i64 0, .int .i64 0] 38)
      have h1300q : Hid (Li u1233q.heap.size u1238q.heap.size (u1238q.alloc (.cells #[.int .i64 0, .int .i64 0] 38)) v1 xs) := h1245q.out.new (.cells #[.int .i64 0, .int .i64 0] 38)
      clear h1239q h1240q h1241q h1242q h1243q h1244q h1245q
      have h1301q : Hid (Bo (u1238q.alloc (.cells #[.int .i64 0, .int .i64 0] 38)) u1238q.heap.size [.int .i64 0, .int .i64 0]) := Bo.born u1238q [.int .i64 0, .int .i64 0] 38 (by simp)
      refine hK.out _ _ ⟨h1295q.out, h1296q.out, h1297q.out⟩ (fun hH => ?_)
      clear hK K
      generalize (u1238q.alloc (.cells #[.int .i64 0, .int .i64 0] 38)) = u1302q at h1294q h1295q h1296q h1297q h1298q h1299q h1300q h1301q hH ⊢
      try simp only [Act.put, List.setIfInBounds_toArray, List.set_cons_zero, List.set_cons_succ]
      refine wpAnyH_ready (rs := [4]) (by kernel_rfl) (by simp) ?_
      refine AllReadyH.cons (o := { dst := some 14, op := _, type := _, pos := _, after := _, guard := _ }) rfl (fun K hK => ?_) AllReadyH.nil
      have l1303q : n ≤ u1302q.heap.size := h1294q.out.le
      have l1304q : b < u1302q.heap.size := h1295q.out.lt
      have l1305q : n < u1302q.heap.size := h1296q.out.lt
      have l1306q : (n + 1) < u1302q.heap.size := h1297q.out.lt
      have l1307q : (n + 2) < u1302q.heap.size := h1298q.out.lt
      have l1308q : (n + 3) < u1302q.heap.size := h1299q.out.lt
      have l1309q : u1238q.heap.size ≤ u1302q.heap.size := h1300q.out.le
      have l1310q : u1238q.heap.size < u1302q.heap.size := h1301q.out.lt
      go_simp
      refine (DD.out _ _ _ h1300q.out.isL).mono ?_
      rintro e u1311q ⟨v2, rfl, I, hb⟩
      have h1312q : Hid (Gd n w u1311q) := h1294q.out.later hb
      have h1313q : Hid (Bo u1311q b [.func (.func 39) #[] #[]]) := h1295q.out.later hb
      have h1314q : Hid (Bo u1311q n (wl c)) := h1296q.out.later hb
      have h1315q : Hid (Bo u1311q (n + 1) [.int .i64 o, .int .i64 k, .int .i64 x]) := h1297q.out.later hb
      have h1316q : Hid (Bo u1311q (n + 2) (wl wz)) := h1298q.out.later hb
      have h1317q : Hid (Bo u1311q (n + 3) [.int .i64 0, .int .i64 0]) := h1299q.out.later hb
      have h1318q : Hid (Li u1233q.heap.size u1238q.heap.size u1311q v1 xs) := h1300q.out.later hb
      have h1319q : Hid (Bo u1311q u1238q.heap.size [.int .i64 0, .int .i64 0]) := h1301q.out.later hb
      clear h1294q h1295q h1296q h1297q h1298q h1299q h1300q h1301q
      have hi : Hid _ := I
      clear h1318q
      have h1320q : Hid (Li u1302q.heap.size u1311q.heap.size u1311q v2 ys) := Li.of hi.out
      clear I hi
      clear hb
      go_wp2_with fail
      refine hK.out _ _ ⟨h1313q.out, h1314q.out, h1315q.out⟩ (fun hH => ?_)
      clear hK K
      try simp only [Act.put, List.setIfInBounds_toArray, List.set_cons_zero, List.set_cons_succ]
      refine wpAnyH_take (i := 5) (oi := { dst := some 9, op := .move (.tmp 14), type := _, pos := _, after := _, guard := _ }) (v := ?_) rfl (by kernel_rfl) (by kernel_rfl) (by kernel_rfl) (fun _ _ _ h => h) (Or.inl ⟨by rfl, ?_⟩) hH ?_
      rotate_left
      · intro w hSw
        clear hSw
        go_simp
        try with_reducible rfl
      simp only [Act.put, List.setIfInBounds_toArray, List.set_cons_zero, List.set_cons_succ]
      refine wpAnyH_take (i := 6) (oi := { dst := some 15, op := .extract (.tmp 9) 0, type := _, pos := _, after := _, guard := _ }) (v := ?_) rfl (by kernel_rfl) (by kernel_rfl) (by kernel_rfl) (fun _ _ _ h => h) (Or.inl ⟨by rfl, ?_⟩) hH ?_
      rotate_left
      · intro w hSw
        clear hSw
        go_simp
        try with_reducible rfl
      simp only [Act.put, List.setIfInBounds_toArray, List.set_cons_zero, List.set_cons_succ]
      refine wpAnyH_take (i := 7) (oi := { dst := some 16, op := .extract (.tmp 9) 1, type := _, pos := _, after := _, guard := _ }) (v := ?_) rfl (by kernel_rfl) (by kernel_rfl) (by kernel_rfl) (fun _ _ _ h => h) (Or.inl ⟨by rfl, ?_⟩) hH ?_
      rotate_left
      · intro w hSw
        clear hSw
        go_simp
        try with_reducible rfl
      simp only [Act.put, List.setIfInBounds_toArray, List.set_cons_zero, List.set_cons_succ]
      refine wpAnyH_take (i := 9) (oi := { dst := some 7, op := .assign (.tmp 15), type := _, pos := _, after := _, guard := _ }) (v := ?_) rfl (by kernel_rfl) (by kernel_rfl) (by kernel_rfl) (fun _ _ _ h => h) (Or.inl ⟨by rfl, ?_⟩) hH ?_
      rotate_left
      · intro w hSw
        clear hSw
        go_simp
        try with_reducible rfl
      simp only [Act.put, List.setIfInBounds_toArray, List.set_cons_zero, List.set_cons_succ]
      refine wpAnyH_ready (rs := [10]) (by kernel_rfl) (by simp) ?_
      refine AllReadyH.cons (o := { dst := none, op := .store _ (.tmp 8) (.tmp 16), type := _, pos := _, after := _, guard := _ }) rfl (fun K hK => ?_) AllReadyH.nil
      rw [if_pos (by rfl)]
      refine wp_store_mid _ _ _ rfl u1238q.heap.size _ #[.int .i64 (cc), .int .i64 (y)] rfl rfl h1319q.out.there2 HA.out (two_one _ _) ?_
      simp only [Act.put]
      have h1321q : Hid (Gd n w (u1311q.setCells u1238q.heap.size 0 [.int .i64 (cc), .int .i64 (y)])) := h1312q.out.asideL (by omega) 0 [.int .i64 (cc), .int .i64 (y)]
      have h1322q : Hid (Bo (u1311q.setCells u1238q.heap.size 0 [.int .i64 (cc), .int .i64 (y)]) b [.func (.func 39) #[] #[]]) := h1313q.out.asideL (by omega) 0 [.int .i64 (cc), .int .i64 (y)]
      have h1323q : Hid (Bo (u1311q.setCells u1238q.heap.size 0 [.int .i64 (cc), .int .i64 (y)]) n (wl c)) := h1314q.out.asideL (by omega) 0 [.int .i64 (cc), .int .i64 (y)]
      have h1324q : Hid (Bo (u1311q.setCells u1238q.heap.size 0 [.int .i64 (cc), .int .i64 (y)]) (n + 1) [.int .i64 o, .int .i64 k, .int .i64 x]) := h1315q.out.asideL (by omega) 0 [.int .i64 (cc), .int .i64 (y)]
      have h1325q : Hid (Bo (u1311q.setCells u1238q.heap.size 0 [.int .i64 (cc), .int .i64 (y)]) (n + 2) (wl wz)) := h1316q.out.asideL (by omega) 0 [.int .i64 (cc), .int .i64 (y)]
      have h1326q : Hid (Bo (u1311q.setCells u1238q.heap.size 0 [.int .i64 (cc), .int .i64 (y)]) (n + 3) [.int .i64 0, .int .i64 0]) := h1317q.out.asideL (by omega) 0 [.int .i64 (cc), .int .i64 (y)]
      have h1327q : Hid (Bo (u1311q.setCells u1238q.heap.size 0 [.int .i64 (cc), .int .i64 (y)]) u1238q.heap.size [.int .i64 (cc), .int .i64 (y)]) := h1319q.out.set2 (.int .i64 (cc)) (.int .i64 (y))
      have h1328q : Hid (Li u1302q.heap.size u1311q.heap.size (u1311q.setCells u1238q.heap.size 0 [.int .i64 (cc), .int .i64 (y)]) v2 ys) := h1320q.out.asideL (by omega) 0 [.int .i64 (cc), .int .i64 (y)]
      clear h1312q h1313q h1314q h1315q h1316q h1317q h1319q h1320q
      refine hK.out _ _ ⟨h1322q.out, h1323q.out, h1324q.out⟩ (fun hH => ?_)
      clear hK K
      generalize (u1311q.setCells u1238q.heap.size 0 [.int .i64 (cc), .int .i64 (y)]) = u1329q at h1321q h1322q h1323q h1324q h1325q h1326q h1327q h1328q hH ⊢
      try simp only [Act.put, List.setIfInBounds_toArray, List.set_cons_zero, List.set_cons_succ]
      refine wpAnyH_done (by kernel_rfl) ?_ _
      go_wp2_with fail
      go_meet
      case rel => exact ⟨u1238q.heap.size, v2, u1302q.heap.size, u1311q.heap.size, rfl, rfl, h1321q, h1325q, h1326q, h1327q, h1328q, (by omega)⟩
    refine AllReadyH.cons (o := { dst := some 8, op := .alloc _, type := _, pos := _, after := _, guard := _ }) rfl (fun K hK => ?_) AllReadyH.nil
    have l1330q : n ≤ u1233q.heap.size := h1227q.out.le
    have l1331q : b < u1233q.heap.size := h1228q.out.lt
    have l1332q : n < u1233q.heap.size := h1229q.out.lt
    have l1333q : (n + 1) < u1233q.heap.size := h1230q.out.lt
    have l1334q : (n + 2) < u1233q.heap.size := h1231q.out.lt
    have l1335q : (n + 3) < u1233q.heap.size := h1232q.out.lt
    go_simp
    have h1336q : Hid (Gd n w (u1233q.alloc (.cells #[.int .i64 0, .int .i64 0] 38))) := h1227q.out.new (.cells #[.int .i64 0, .int .i64 0] 38)
    have h1337q : Hid (Bo (u1233q.alloc (.cells #[.int .i64 0, .int .i64 0] 38)) b [.func (.func 39) #[] #[]]) := h1228q.out.new (.cells #[.int .i64 0, .int .i64 0] 38)
    have h1338q : Hid (Bo (u1233q.alloc (.cells #[.int .i64 0, .int .i64 0] 38)) n (wl c)) := h1229q.out.new (.cells #[.int .i64 0, .int .i64 0] 38)
    have h1339q : Hid (Bo (u1233q.alloc (.cells #[.int .i64 0, .int .i64 0] 38)) (n + 1) [.int .i64 o, .int .i64 k, .int .i64 x]) := h1230q.out.new (.cells #[.int .i64 0, .int .i64 0] 38)
    have h1340q : Hid (Bo (u1233q.alloc (.cells #[.int .i64 0, .int .i64 0] 38)) (n + 2) (wl wz)) := h1231q.out.new (.cells #[.int .i64 0, .int .i64 0] 38)
    have h1341q : Hid (Bo (u1233q.alloc (.cells #[.int .i64 0, .int .i64 0] 38)) (n + 3) [.int .i64 0, .int .i64 0]) := h1232q.out.new (.cells #[.int .i64 0, .int .i64 0] 38)
    clear h1227q h1228q h1229q h1230q h1231q h1232q
    have h1342q : Hid (Bo (u1233q.alloc (.cells #[.int .i64 0, .int .i64 0] 38)) u1233q.heap.size [.int .i64 0, .int .i64 0]) := Bo.born u1233q [.int .i64 0, .int .i64 0] 38 (by simp)
    refine hK.out _ _ ⟨h1337q.out, h1338q.out, h1339q.out⟩ (fun hH => ?_)
    clear hK K
    generalize (u1233q.alloc (.cells #[.int .i64 0, .int .i64 0] 38)) = u1343q at h1336q h1337q h1338q h1339q h1340q h1341q h1342q hH ⊢
    try simp only [Act.put, List.setIfInBounds_toArray, List.set_cons_zero, List.set_cons_succ]
    refine wpAnyH_ready (rs := [2]) (by kernel_rfl) (by simp) ?_
    refine AllReadyH.cons (o := { dst := some 12, op := _, type := _, pos := _, after := _, guard := _ }) rfl (fun K hK => ?_) AllReadyH.nil
    go_simp
    refine (LI.out _).mono ?_
    rintro e u1344q ⟨v1, rfl, I, hb⟩
    have h1345q : Hid (Gd n w u1344q) := h1336q.out.later hb
    have h1346q : Hid (Bo u1344q b [.func (.func 39) #[] #[]]) := h1337q.out.later hb
    have h1347q : Hid (Bo u1344q n (wl c)) := h1338q.out.later hb
    have h1348q : Hid (Bo u1344q (n + 1) [.int .i64 o, .int .i64 k, .int .i64 x]) := h1339q.out.later hb
    have h1349q : Hid (Bo u1344q (n + 2) (wl wz)) := h1340q.out.later hb
    have h1350q : Hid (Bo u1344q (n + 3) [.int .i64 0, .int .i64 0]) := h1341q.out.later hb
    have h1351q : Hid (Bo u1344q u1233q.heap.size [.int .i64 0, .int .i64 0]) := h1342q.out.later hb
    clear h1336q h1337q h1338q h1339q h1340q h1341q h1342q
    have hi : Hid _ := I
    have h1352q : Hid (Li u1343q.heap.size u1344q.heap.size u1344q v1 xs) := Li.of hi.out
    clear I hi
    clear hb
    go_wp2_with fail
    refine hK.out _ _ ⟨h1346q.out, h1347q.out, h1348q.out⟩ (fun hH => ?_)
    clear hK K
    try simp only [Act.put, List.setIfInBounds_toArray, List.set_cons_zero, List.set_cons_succ]
    refine wpAnyH_ready (rs := [4]) (by kernel_rfl) (by simp) ?_
    refine AllReadyH.cons (o := { dst := some 14, op := _, type := _, pos := _, after := _, guard := _ }) rfl (fun K hK => ?_) AllReadyH.nil
    have l1353q : n ≤ u1344q.heap.size := h1345q.out.le
    have l1354q : b < u1344q.heap.size := h1346q.out.lt
    have l1355q : n < u1344q.heap.size := h1347q.out.lt
    have l1356q : (n + 1) < u1344q.heap.size := h1348q.out.lt
    have l1357q : (n + 2) < u1344q.heap.size := h1349q.out.lt
    have l1358q : (n + 3) < u1344q.heap.size := h1350q.out.lt
    have l1359q : u1233q.heap.size < u1344q.heap.size := h1351q.out.lt
    have l1360q : u1344q.heap.size ≤ u1344q.heap.size := h1352q.out.le
    go_simp
    refine (DD.out _ _ _ h1352q.out.isL).mono ?_
    rintro e u1361q ⟨v2, rfl, I, hb⟩
    have h1362q : Hid (Gd n w u1361q) := h1345q.out.later hb
    have h1363q : Hid (Bo u1361q b [.func (.func 39) #[] #[]]) := h1346q.out.later hb
    have h1364q : Hid (Bo u1361q n (wl c)) := h1347q.out.later hb
    have h1365q : Hid (Bo u1361q (n + 1) [.int .i64 o, .int .i64 k, .int .i64 x]) := h1348q.out.later hb
    have h1366q : Hid (Bo u1361q (n + 2) (wl wz)) := h1349q.out.later hb
    have h1367q : Hid (Bo u1361q (n + 3) [.int .i64 0, .int .i64 0]) := h1350q.out.later hb
    have h1368q : Hid (Bo u1361q u1233q.heap.size [.int .i64 0, .int .i64 0]) := h1351q.out.later hb
    have h1369q : Hid (Li u1343q.heap.size u1344q.heap.size u1361q v1 xs) := h1352q.out.later hb
    clear h1345q h1346q h1347q h1348q h1349q h1350q h1351q h1352q
    have hi : Hid _ := I
    clear h1369q
    have h1370q : Hid (Li u1344q.heap.size u1361q.heap.size u1361q v2 ys) := Li.of hi.out
    clear I hi
    clear hb
    go_wp2_with fail
    refine hK.out _ _ ⟨h1363q.out, h1364q.out, h1365q.out⟩ (fun hH => ?_)
    clear hK K
    try simp only [Act.put, List.setIfInBounds_toArray, List.set_cons_zero, List.set_cons_succ]
    refine wpAnyH_take (i := 5) (oi := { dst := some 9, op := .move (.tmp 14), type := _, pos := _, after := _, guard := _ }) (v := ?_) rfl (by kernel_rfl) (by kernel_rfl) (by kernel_rfl) (fun _ _ _ h => h) (Or.inl ⟨by rfl, ?_⟩) hH ?_
    rotate_left
    · intro w hSw
      clear hSw
      go_simp
      try with_reducible rfl
    simp only [Act.put, List.setIfInBounds_toArray, List.set_cons_zero, List.set_cons_succ]
    refine wpAnyH_take (i := 6) (oi := { dst := some 15, op := .extract (.tmp 9) 0, type := _, pos := _, after := _, guard := _ }) (v := ?_) rfl (by kernel_rfl) (by kernel_rfl) (by kernel_rfl) (fun _ _ _ h => h) (Or.inl ⟨by rfl, ?_⟩) hH ?_
    rotate_left
    · intro w hSw
      clear hSw
      go_simp
      try with_reducible rfl
    simp only [Act.put, List.setIfInBounds_toArray, List.set_cons_zero, List.set_cons_succ]
    refine wpAnyH_take (i := 7) (oi := { dst := some 16, op := .extract (.tmp 9) 1, type := _, pos := _, after := _, guard := _ }) (v := ?_) rfl (by kernel_rfl) (by kernel_rfl) (by kernel_rfl) (fun _ _ _ h => h) (Or.inl ⟨by rfl, ?_⟩) hH ?_
    rotate_left
    · intro w hSw
      clear hSw
      go_simp
      try with_reducible rfl
    simp only [Act.put, List.setIfInBounds_toArray, List.set_cons_zero, List.set_cons_succ]
    refine wpAnyH_take (i := 9) (oi := { dst := some 7, op := .assign (.tmp 15), type := _, pos := _, after := _, guard := _ }) (v := ?_) rfl (by kernel_rfl) (by kernel_rfl) (by kernel_rfl) (fun _ _ _ h => h) (Or.inl ⟨by rfl, ?_⟩) hH ?_
    rotate_left
    · intro w hSw
      clear hSw
      go_simp
      try with_reducible rfl
    simp only [Act.put, List.setIfInBounds_toArray, List.set_cons_zero, List.set_cons_succ]
    refine wpAnyH_ready (rs := [10]) (by kernel_rfl) (by simp) ?_
    refine AllReadyH.cons (o := { dst := none, op := .store _ (.tmp 8) (.tmp 16), type := _, pos := _, after := _, guard := _ }) rfl (fun K hK => ?_) AllReadyH.nil
    rw [if_pos (by rfl)]
    refine wp_store_mid _ _ _ rfl u1233q.heap.size _ #[.int .i64 (cc), .int .i64 (y)] rfl rfl h1368q.out.there2 HA.out (two_one _ _) ?_
    simp only [Act.put]
    have h1371q : Hid (Gd n w (u1361q.setCells u1233q.heap.size 0 [.int .i64 (cc), .int .i64 (y)])) := h1362q.out.asideL (by omega) 0 [.int .i64 (cc), .int .i64 (y)]
    have h1372q : Hid (Bo (u1361q.setCells u1233q.heap.size 0 [.int .i64 (cc), .int .i64 (y)]) b [.func (.func 39) #[] #[]]) := h1363q.out.asideL (by omega) 0 [.int .i64 (cc), .int .i64 (y)]
    have h1373q : Hid (Bo (u1361q.setCells u1233q.heap.size 0 [.int .i64 (cc), .int .i64 (y)]) n (wl c)) := h1364q.out.asideL (by omega) 0 [.int .i64 (cc), .int .i64 (y)]
    have h1374q : Hid (Bo (u1361q.setCells u1233q.heap.size 0 [.int .i64 (cc), .int .i64 (y)]) (n + 1) [.int .i64 o, .int .i64 k, .int .i64 x]) := h1365q.out.asideL (by omega) 0 [.int .i64 (cc), .int .i64 (y)]
    have h1375q : Hid (Bo (u1361q.setCells u1233q.heap.size 0 [.int .i64 (cc), .int .i64 (y)]) (n + 2) (wl wz)) := h1366q.out.asideL (by omega) 0 [.int .i64 (cc), .int .i64 (y)]
    have h1376q : Hid (Bo (u1361q.setCells u1233q.heap.size 0 [.int .i64 (cc), .int .i64 (y)]) (n + 3) [.int .i64 0, .int .i64 0]) := h1367q.out.asideL (by omega) 0 [.int .i64 (cc), .int .i64 (y)]
    have h1377q : Hid (Bo (u1361q.setCells u1233q.heap.size 0 [.int .i64 (cc), .int .i64 (y)]) u1233q.heap.size [.int .i64 (cc), .int .i64 (y)]) := h1368q.out.set2 (.int .i64 (cc)) (.int .i64 (y))
    have h1378q : Hid (Li u1344q.heap.size u1361q.heap.size (u1361q.setCells u1233q.heap.size 0 [.int .i64 (cc), .int .i64 (y)]) v2 ys) := h1370q.out.asideL (by omega) 0 [.int .i64 (cc), .int .i64 (y)]
    clear h1362q h1363q h1364q h1365q h1366q h1367q h1368q h1370q
    refine hK.out _ _ ⟨h1372q.out, h1373q.out, h1374q.out⟩ (fun hH => ?_)
    clear hK K
    generalize (u1361q.setCells u1233q.heap.size 0 [.int .i64 (cc), .int .i64 (y)]) = u1379q at h1371q h1372q h1373q h1374q h1375q h1376q h1377q h1378q hH ⊢
    try simp only [Act.put, List.setIfInBounds_toArray, List.set_cons_zero, List.set_cons_succ]
    refine wpAnyH_done (by kernel_rfl) ?_ _
    go_wp2_with fail
    go_meet
    case rel => exact ⟨u1233q.heap.size, v2, u1344q.heap.size, u1361q.heap.size, rfl, rfl, h1371q, h1375q, h1376q, h1377q, h1378q, (by omega)⟩
  case rest =>
    obtain ⟨b_b, v_l2, B_l2, E_l2, rfl, rfl, h1380q, h1381q, h1382q, h1383q, h1384q, hmore⟩ := hcut
    go_wp2_with fail
    have h1385q : Hid (Gd n w wc.drew) := h1380q.out.drew
    have h1386q : Hid (Bo wc.drew (n + 2) (wl wz)) := h1381q.out.drew
    have h1387q : Hid (Bo wc.drew (n + 3) [.int .i64 0, .int .i64 0]) := h1382q.out.drew
    have h1388q : Hid (Bo wc.drew b_b [.int .i64 (cc), .int .i64 (y)]) := h1383q.out.drew
    have h1389q : Hid (Li B_l2 E_l2 wc.drew v_l2 ys) := h1384q.out.drew
    clear h1380q h1381q h1382q h1383q h1384q
    refine wp_region_held_drew (S := fun w' => Bo w' b_b [.int .i64 (cc), .int .i64 (y)]) (by kernel_rfl) h1388q.out (fun hH => ?_)
    generalize wc.drew = u1390q at h1385q h1386q h1387q h1388q h1389q hH ⊢
    refine wpAnyH_take (i := 0) (oi := { dst := some 17, op := .move (.tmp 7), type := _, pos := _, after := _, guard := _ }) (v := ?_) rfl (by kernel_rfl) (by kernel_rfl) (by kernel_rfl) (fun _ _ _ h => h) (Or.inl ⟨by rfl, ?_⟩) hH ?_
    rotate_left
    · intro w hSw
      clear hSw
      go_simp
      try with_reducible rfl
    simp only [Act.put, List.setIfInBounds_toArray, List.set_cons_zero, List.set_cons_succ]
    refine wpAnyH_take (i := 2) (oi := { dst := some 19, op := .load _ (.tmp 8), type := _, pos := _, after := _, guard := _ }) (v := ?_) rfl (by kernel_rfl) (by kernel_rfl) (by kernel_rfl) (fun _ _ _ h => h) (Or.inl ⟨by rfl, ?_⟩) hH ?_
    rotate_left
    · intro w hSw
      have c1391q := (hSw).at 0 rfl
      have c1392q := (hSw).at 1 rfl
      clear hSw
      go_simp
      try with_reducible rfl
    simp only [Act.put, List.setIfInBounds_toArray, List.set_cons_zero, List.set_cons_succ]
    refine wpAnyH_ready (rs := [1]) (by kernel_rfl) (by simp) ?_
    refine AllReadyH.cons (o := { dst := some 18, op := _, type := _, pos := _, after := _, guard := _ }) rfl (fun K hK => ?_) AllReadyH.nil
    go_simp
    refine (LW.out _ _ _ h1389q.out.isL).mono ?_
    rintro e u1393q ⟨rfl, hb⟩
    have h1394q : Hid (Gd n w u1393q) := h1385q.out.later hb
    have h1395q : Hid (Bo u1393q (n + 2) (wl wz)) := h1386q.out.later hb
    have h1396q : Hid (Bo u1393q (n + 3) [.int .i64 0, .int .i64 0]) := h1387q.out.later hb
    have h1397q : Hid (Bo u1393q b_b [.int .i64 (cc), .int .i64 (y)]) := h1388q.out.later hb
    have h1398q : Hid (Li B_l2 E_l2 u1393q v_l2 ys) := h1389q.out.later hb
    clear h1385q h1386q h1387q h1388q h1389q
    clear h1398q
    clear hb
    go_wp2_with fail
    refine hK.out _ _ h1397q.out (fun hH => ?_)
    clear hK K
    try simp only [Act.put, List.setIfInBounds_toArray, List.set_cons_zero, List.set_cons_succ]
    refine wpAnyH_ready (rs := [3]) (by kernel_rfl) (by simp) ?_
    refine AllReadyH.cons (o := { dst := none, op := .store _ (.tmp 5) (.tmp 18), type := _, pos := _, after := _, guard := _ }) rfl (fun K hK => ?_) AllReadyH.nil
    rw [if_pos (by rfl)]
    refine wp_store_mid _ _ _ rfl (n + 2) _ (wl (lw ys)).toArray rfl rfl (h1395q.out.thereW (lw ys)) (HCZ.out (lw ys)) (wl_all (lw ys)) ?_
    simp only [Act.put]
    have h1399q : Hid (Gd n w (u1393q.setCells (n + 2) 0 (wl (lw ys)))) := h1394q.out.asideL (by omega) 0 (wl (lw ys))
    have h1400q : Hid (Bo (u1393q.setCells (n + 2) 0 (wl (lw ys))) (n + 2) (wl (lw ys))) := h1395q.out.setW (lw ys)
    have h1401q : Hid (Bo (u1393q.setCells (n + 2) 0 (wl (lw ys))) (n + 3) [.int .i64 0, .int .i64 0]) := h1396q.out.asideL (by omega) 0 (wl (lw ys))
    have h1402q : Hid (Bo (u1393q.setCells (n + 2) 0 (wl (lw ys))) b_b [.int .i64 (cc), .int .i64 (y)]) := h1397q.out.asideL (by omega) 0 (wl (lw ys))
    clear h1394q h1395q h1396q h1397q
    refine hK.out _ _ h1402q.out (fun hH => ?_)
    clear hK K
    generalize (u1393q.setCells (n + 2) 0 (wl (lw ys))) = u1403q at h1399q h1400q h1401q h1402q hH ⊢
    try simp only [Act.put, List.setIfInBounds_toArray, List.set_cons_zero, List.set_cons_succ]
    refine wpAnyH_ready (rs := [4]) (by kernel_rfl) (by simp) ?_
    refine AllReadyH.cons (o := { dst := none, op := .store _ (.tmp 6) (.tmp 19), type := _, pos := _, after := _, guard := _ }) rfl (fun K hK => ?_) AllReadyH.nil
    rw [if_pos (by rfl)]
    refine wp_store_mid _ _ _ rfl (n + 3) _ #[.int .i64 (cc), .int .i64 (y)] rfl rfl h1401q.out.there2 HA.out (two_one _ _) ?_
    simp only [Act.put]
    have h1404q : Hid (Gd n w (u1403q.setCells (n + 3) 0 [.int .i64 (cc), .int .i64 (y)])) := h1399q.out.asideL (by omega) 0 [.int .i64 (cc), .int .i64 (y)]
    have h1405q : Hid (Bo (u1403q.setCells (n + 3) 0 [.int .i64 (cc), .int .i64 (y)]) (n + 2) (wl (lw ys))) := h1400q.out.asideL (by omega) 0 [.int .i64 (cc), .int .i64 (y)]
    have h1406q : Hid (Bo (u1403q.setCells (n + 3) 0 [.int .i64 (cc), .int .i64 (y)]) (n + 3) [.int .i64 (cc), .int .i64 (y)]) := h1401q.out.set2 (.int .i64 (cc)) (.int .i64 (y))
    have h1407q : Hid (Bo (u1403q.setCells (n + 3) 0 [.int .i64 (cc), .int .i64 (y)]) b_b [.int .i64 (cc), .int .i64 (y)]) := h1402q.out.asideL (by omega) 0 [.int .i64 (cc), .int .i64 (y)]
    clear h1399q h1400q h1401q h1402q
    refine hK.out _ _ h1407q.out (fun hH => ?_)
    clear hK K
    generalize (u1403q.setCells (n + 3) 0 [.int .i64 (cc), .int .i64 (y)]) = u1408q at h1404q h1405q h1406q h1407q hH ⊢
    try simp only [Act.put, List.setIfInBounds_toArray, List.set_cons_zero, List.set_cons_succ]
    refine wpAnyH_done (by kernel_rfl) ?_ _
    go_wp2
    exact bodyPost_ret (results_row2 Tryd.results50 _ _ (n + 2) (n + 3) (wl (lw ys)) [.int .i64 (cc), .int .i64 (y)] _ _ rfl rfl h1405q.out.range HC.out rfl (HCS.out (lw ys)) h1406q.out.range HDA.out rfl HA.out) rfl ⟨rfl, by first | exact h1404q.out.low | exact h1404q.out.2⟩
end Go.Proofs.YtbmgjpdfmgcigabDoor.Tab
