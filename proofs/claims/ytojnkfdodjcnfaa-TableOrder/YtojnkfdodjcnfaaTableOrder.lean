/- TableOrder is proved: for every list of operations, keys and values the call returns true (two keys that are put in the one ahead of the other, or behind, are both there all the same; all keys have the same either way, and there are as many). -/
import Derived.Test.YtojnkfdodjcnfaaRows
import Derived.Test.YtojnkfdodjcnfaaKf
import Derived.Test.YtojnkfdodjcnfaaTl
import Derived.Test.YtojnkfdodjcnfaaArgOps
import Derived.Deep.DeepCutAuto
import Derived.Deep.RegionHeld3

namespace Go.Proofs.Ytojnkfdodjcnfaa.tableOrder
open Go.ChangeShapes Go.WideShapes Go.ChangeAt Go.RowKit
set_option linter.unusedVariables false

theorem own : ownKnob Try.prog.godebug = none := by kernel_rfl

set_option maxHeartbeats 4000000 in
theorem walk (v0 : Value) (n0 : Nat) (a1 a2 a3 a4 a5 : Int) (w1 : (Lit.int .i64 a1).wf = true) (w2 : (Lit.int .i64 a2).wf = true) (w3 : (Lit.int .i64 a3).wf = true) (w4 : (Lit.int .i64 a4).wf = true) (w5 : (Lit.int .i64 a5).wf = true) (w : World) (D0 : Ops w v0 n0) :
    Calls Try.prog 8 #[v0, .int .i64 a1, .int .i64 a2, .int .i64 a3, .int .i64 a4, .int .i64 a5] w fun e w' => e = .returned (.bool true) ∧ Below w.heap.size w w' := by
  obtain ⟨na, ea, hd⟩ := slots_array
  have HD : Hid _ := hd
  clear hd
  have HS : Hid (∀ t : Tb, (Try.prog.info? 29).map (·.size) = some t.all.length) := slots_size
  have HZ : Hid (∀ t : Tb, (Try.prog.info? 29).map (·.size) = some t.all.toArray.size) := slots_size2
  have HT : Hid ((Try.prog.info? 27).map (·.size) = some 2) := slot_size
  have HA : Hid ((Try.prog.info? 37).map (·.size) = some 2) := answer_size
  obtain ⟨fs, ha⟩ := answer_struct
  have HDA : Hid _ := ha
  clear ha
  have EQ := slots_equal
  have FD0 := field0
  have FD1 := field1
  have g0 : Hid (Gd w.heap.size w w) := Gd.refl w
  have HD0 : Hid (Ops w v0 n0) := D0
  clear D0
  clear w1 w2 w3 w4 w5
  obtain ⟨r1, hr1, pr1⟩ := key_fun a1
  have Pr1 : Hid _ := pr1
  clear pr1
  obtain ⟨r2, hr2, pr2⟩ := key_fun a2
  have Pr2 : Hid _ := pr2
  clear pr2
  obtain ⟨r5, hr5, pr5⟩ := key_fun a5
  have Pr5 : Hid _ := pr5
  clear pr5
  obtain ⟨r3, hr3, pr3⟩ := pick_100 a3
  have Pr3 : Hid _ := pr3
  clear pr3
  obtain ⟨r4, hr4, pr4⟩ := pick_100 a4
  have Pr4 : Hid _ := pr4
  clear pr4
  obtain ⟨a, ea⟩ : ∃ a : Int, 1 + (r1 : Int) = a := ⟨_, rfl⟩
  have ha1 : 1 ≤ a := by omega
  have ha2 : a ≤ 1000 := by omega
  obtain ⟨b, eb⟩ : ∃ b : Int, 1 + (r2 : Int) = b := ⟨_, rfl⟩
  have hb1 : 1 ≤ b := by omega
  have hb2 : b ≤ 1000 := by omega
  obtain ⟨q, eq⟩ : ∃ q : Int, 1 + (r5 : Int) = q := ⟨_, rfl⟩
  have hq1 : 1 ≤ q := by omega
  have hq2 : q ≤ 1000 := by omega
  rw [ea] at Pr1
  rw [eb] at Pr2
  rw [eq] at Pr5
  obtain ⟨v, ev⟩ : ∃ v : Int, (r3 : Int) = v := ⟨_, rfl⟩
  have hv0 : 0 ≤ v := by omega
  have hv1 : v ≤ 4294967295 := by omega
  obtain ⟨x, ex⟩ : ∃ x : Int, (r4 : Int) = x := ⟨_, rfl⟩
  have hxv0 : 0 ≤ x := by omega
  have hxv1 : x ≤ 4294967295 := by omega
  rw [ev] at Pr3
  rw [ex] at Pr4
  clear ea eb eq ev ex hr1 hr2 hr3 hr4 hr5
  go_enter Try.func8, Try.ntmps8
  go_wp2_with fail
  generalize w.heap.size = n at g0 ⊢
  refine (tabled_is _).mono ?_
  rintro e u636q ⟨rfl, hb⟩
  have h637q : Hid (Gd n w u636q) := g0.out.later hb
  clear g0
  clear hb
  go_wp2_with fail
  refine (filled_is (HD0.out.later h637q.out.2)).mono ?_
  rintro e u638q ⟨t, hR, rfl, hb⟩
  have h639q : Hid (Gd n w u638q) := h637q.out.later hb
  clear h637q
  clear hb
  have R : Hid (RT t) := hR
  clear hR HD0
  have l640q : n ≤ u638q.heap.size := h639q.out.le
  have h641q : Hid (Gd n w (u638q.alloc (.cells #[.int .i64 0, .int .i64 0, .int .i64 0, .int .i64 0, .int .i64 0, .int .i64 0, .int .i64 0, .int .i64 0, .int .i64 0, .int .i64 0, .int .i64 0, .int .i64 0, .int .i64 0, .int .i64 0, .int .i64 0, .int .i64 0] 29))) := h639q.out.new (.cells #[.int .i64 0, .int .i64 0, .int .i64 0, .int .i64 0, .int .i64 0, .int .i64 0, .int .i64 0, .int .i64 0, .int .i64 0, .int .i64 0, .int .i64 0, .int .i64 0, .int .i64 0, .int .i64 0, .int .i64 0, .int .i64 0] 29)
  clear h639q
  have h642q : Hid (TAt (u638q.alloc (.cells #[.int .i64 0, .int .i64 0, .int .i64 0, .int .i64 0, .int .i64 0, .int .i64 0, .int .i64 0, .int .i64 0, .int .i64 0, .int .i64 0, .int .i64 0, .int .i64 0, .int .i64 0, .int .i64 0, .int .i64 0, .int .i64 0] 29)) u638q.heap.size Tb.zero) := TAt.bornZero u638q 29 (by simp)
  have L := Len_is t
  obtain ⟨l, hl⟩ : ∃ l, len t = l := ⟨_, rfl⟩
  have hl8 : l ≤ 8 := hl ▸ len_le t
  rw [hl] at L
  have HL : Hid (len t = l) := hl
  clear hl
  go_wp2_with (first
    | (refine wpList_store_mid rfl 29 _ _ rfl u638q.heap.size _ t.all.toArray rfl rfl (h642q.out.thereOf t) (HZ.out t) (t.all_all) ?_
       have h643q : Hid (Gd n w ((u638q.alloc (.cells #[.int .i64 0, .int .i64 0, .int .i64 0, .int .i64 0, .int .i64 0, .int .i64 0, .int .i64 0, .int .i64 0, .int .i64 0, .int .i64 0, .int .i64 0, .int .i64 0, .int .i64 0, .int .i64 0, .int .i64 0, .int .i64 0] 29)).setCells u638q.heap.size 0 t.all)) := h641q.out.asideAll (by omega) t
       have h644q : Hid (TAt ((u638q.alloc (.cells #[.int .i64 0, .int .i64 0, .int .i64 0, .int .i64 0, .int .i64 0, .int .i64 0, .int .i64 0, .int .i64 0, .int .i64 0, .int .i64 0, .int .i64 0, .int .i64 0, .int .i64 0, .int .i64 0, .int .i64 0, .int .i64 0] 29)).setCells u638q.heap.size 0 t.all) u638q.heap.size t) := h642q.out.setAll t
       clear h641q h642q
       generalize ((u638q.alloc (.cells #[.int .i64 0, .int .i64 0, .int .i64 0, .int .i64 0, .int .i64 0, .int .i64 0, .int .i64 0, .int .i64 0, .int .i64 0, .int .i64 0, .int .i64 0, .int .i64 0, .int .i64 0, .int .i64 0, .int .i64 0, .int .i64 0] 29)).setCells u638q.heap.size 0 t.all) = u645q at h643q h644q  ⊢))
  refine (Pr1.out _).mono ?_
  rintro e u646q ⟨rfl, hw⟩
  rw [hw]; clear hw u646q
  go_wp2_with fail
  refine (Pr2.out _).mono ?_
  rintro e u647q ⟨rfl, hw⟩
  rw [hw]; clear hw u647q
  by_cases hab : a = b
  · have m : (a == b) = true := by simp [hab]
    clear hab
    go_wp2
    go_ret
    exact ⟨rfl, h643q.out.2⟩
  · have m : (a == b) = false := by simp [hab]
    have HAB : Hid (a ≠ b) := hab
    clear hab
    go_wp2_with (first
      | (refine wpList_load_wanted (by rfl) 29 _ rfl u638q.heap.size _ rfl t.all _ h644q.out.range HD.out rfl (HS.out t) ?_))
    refine (L _).mono ?_
    rintro e u648q ⟨rfl, hb⟩
    have h649q : Hid (Gd n w u648q) := h643q.out.later hb
    have h650q : Hid (TAt u648q u638q.heap.size t) := h644q.out.later hb
    clear h643q h644q
    clear hb
    clear L
    by_cases h4 : 4 < l
    · have h41 : (4 : Int) < (l : Int) := by omega
      go_wp2
      go_ret
      exact ⟨rfl, h649q.out.2⟩
    · have h41 : ¬ (4 : Int) < (l : Int) := by omega
      obtain ⟨x1, hx1, X1⟩ := puts_room R.out (k := a) (x := v) ha1 ha2 hv0 hv1 (by rw [HL.out]; omega)
      have l1 : len x1 < 6 := by have := X1.len; rw [HL.out] at this; split at this <;> omega
      obtain ⟨x2, hx2, X2⟩ := puts_room X1.rt (k := b) (x := x) hb1 hb2 hxv0 hxv1 l1
      obtain ⟨y1, hy1, Y1⟩ := puts_room R.out (k := b) (x := x) hb1 hb2 hxv0 hxv1 (by rw [HL.out]; omega)
      have l2 : len y1 < 6 := by have := Y1.len; rw [HL.out] at this; split at this <;> omega
      obtain ⟨y2, hy2, Y2⟩ := puts_room Y1.rt (k := a) (x := v) ha1 ha2 hv0 hv1 l2
      obtain ⟨hlen, hlook⟩ := order HAB.out (by omega) (by omega) X1 X2 Y1 Y2
      have D1 := tDo_eq t 1 a v
      rw [show tdo t 1 a v = (x1, 1, 0) from hx1] at D1
      unfold Told at D1
      dsimp only at D1
      have D2 := tDo_eq x1 1 b x
      rw [show tdo x1 1 b x = (x2, 1, 0) from hx2] at D2
      unfold Told at D2
      dsimp only at D2
      have D3 := tDo_eq t 1 b x
      rw [show tdo t 1 b x = (y1, 1, 0) from hy1] at D3
      unfold Told at D3
      dsimp only at D3
      have D4 := tDo_eq y1 1 a v
      rw [show tdo y1 1 a v = (y2, 1, 0) from hy2] at D4
      unfold Told at D4
      dsimp only at D4
      have LX := Len_is x2
      have LY := Len_is y2
      rw [hlen] at LX
      generalize len y2 = ly at LX LY
      obtain ⟨⟨cA, yA⟩, hA⟩ : ∃ r, look y2 a = r := ⟨_, rfl⟩
      have PXA := peek_is x2 a (by omega) (by omega)
      rw [show look x2 a = (cA, yA) from ((hlook a (by omega)).trans hA)] at PXA
      dsimp only at PXA
      have PYA := peek_is y2 a (by omega) (by omega)
      rw [show look y2 a = (cA, yA) from hA] at PYA
      dsimp only at PYA
      obtain ⟨⟨cB, yB⟩, hB⟩ : ∃ r, look y2 b = r := ⟨_, rfl⟩
      have PXB := peek_is x2 b (by omega) (by omega)
      rw [show look x2 b = (cB, yB) from ((hlook b (by omega)).trans hB)] at PXB
      dsimp only at PXB
      have PYB := peek_is y2 b (by omega) (by omega)
      rw [show look y2 b = (cB, yB) from hB] at PYB
      dsimp only at PYB
      obtain ⟨⟨cQ, yQ⟩, hQ⟩ : ∃ r, look y2 q = r := ⟨_, rfl⟩
      have PXQ := peek_is x2 q (by omega) (by omega)
      rw [show look x2 q = (cQ, yQ) from ((hlook q (by omega)).trans hQ)] at PXQ
      dsimp only at PXQ
      have PYQ := peek_is y2 q (by omega) (by omega)
      rw [show look y2 q = (cQ, yQ) from hQ] at PYQ
      dsimp only at PYQ
      clear hx1 X1 l1 hx2 X2 hy1 Y1 l2 hy2 Y2 hlen hlook hA hB hQ
      go_wp2_with fail
      refine (Pr3.out _).mono ?_
      rintro e u651q ⟨rfl, hw⟩
      rw [hw]; clear hw u651q
      go_wp2_with fail
      refine (Pr4.out _).mono ?_
      rintro e u652q ⟨rfl, hw⟩
      rw [hw]; clear hw u652q
      have l653q : n ≤ u648q.heap.size := h649q.out.le
      have l654q : u638q.heap.size < u648q.heap.size := h650q.out.lt
      have h655q : Hid (Gd n w (u648q.alloc (.cells #[.int .i64 1, .int .i64 a, .int .i64 v] 35))) := h649q.out.new (.cells #[.int .i64 1, .int .i64 a, .int .i64 v] 35)
      have h656q : Hid (TAt (u648q.alloc (.cells #[.int .i64 1, .int .i64 a, .int .i64 v] 35)) u638q.heap.size t) := h650q.out.new (.cells #[.int .i64 1, .int .i64 a, .int .i64 v] 35)
      clear h649q h650q
      have h657q : Hid (Bo (u648q.alloc (.cells #[.int .i64 1, .int .i64 a, .int .i64 v] 35)) u648q.heap.size [.int .i64 1, .int .i64 a, .int .i64 v]) := Bo.born u648q [.int .i64 1, .int .i64 a, .int .i64 v] 35 (by simp)
      have h658q : Hid (Gd n w ((u648q.alloc (.cells #[.int .i64 1, .int .i64 a, .int .i64 v] 35)).alloc (.cells #[.int .i64 1, .int .i64 b, .int .i64 x] 35))) := h655q.out.new (.cells #[.int .i64 1, .int .i64 b, .int .i64 x] 35)
      have h659q : Hid (TAt ((u648q.alloc (.cells #[.int .i64 1, .int .i64 a, .int .i64 v] 35)).alloc (.cells #[.int .i64 1, .int .i64 b, .int .i64 x] 35)) u638q.heap.size t) := h656q.out.new (.cells #[.int .i64 1, .int .i64 b, .int .i64 x] 35)
      have h660q : Hid (Bo ((u648q.alloc (.cells #[.int .i64 1, .int .i64 a, .int .i64 v] 35)).alloc (.cells #[.int .i64 1, .int .i64 b, .int .i64 x] 35)) u648q.heap.size [.int .i64 1, .int .i64 a, .int .i64 v]) := h657q.out.new (.cells #[.int .i64 1, .int .i64 b, .int .i64 x] 35)
      clear h655q h656q h657q
      have h661q : Hid (Bo ((u648q.alloc (.cells #[.int .i64 1, .int .i64 a, .int .i64 v] 35)).alloc (.cells #[.int .i64 1, .int .i64 b, .int .i64 x] 35)) (u648q.heap.size + 1) [.int .i64 1, .int .i64 b, .int .i64 x]) := Bo.born (u648q.alloc (.cells #[.int .i64 1, .int .i64 a, .int .i64 v] 35)) [.int .i64 1, .int .i64 b, .int .i64 x] 35 (by simp)
      have c662q := h660q.out.at 0 rfl
      have c663q := h660q.out.at 1 rfl
      have c664q := h660q.out.at 2 rfl
      go_wp2_with (first
        | (refine wpList_load_mid rfl 29 _ rfl u638q.heap.size _ rfl t.all _ h659q.out.range HD.out rfl (HS.out t) ?_))
      refine (D1 _).mono ?_
      rintro e u665q ⟨rfl, hb⟩
      have h666q : Hid (Gd n w u665q) := h658q.out.later hb
      have h667q : Hid (TAt u665q u638q.heap.size t) := h659q.out.later hb
      have h668q : Hid (Bo u665q u648q.heap.size [.int .i64 1, .int .i64 a, .int .i64 v]) := h660q.out.later hb
      have h669q : Hid (Bo u665q (u648q.heap.size + 1) [.int .i64 1, .int .i64 b, .int .i64 x]) := h661q.out.later hb
      clear h658q h659q h660q h661q
      clear hb
      clear D1
      have l670q : n ≤ u665q.heap.size := h666q.out.le
      have l671q : u638q.heap.size < u665q.heap.size := h667q.out.lt
      have l672q : u648q.heap.size < u665q.heap.size := h668q.out.lt
      have l673q : (u648q.heap.size + 1) < u665q.heap.size := h669q.out.lt
      have h674q : Hid (Gd n w (u665q.alloc (.cells #[.int .i64 0, .int .i64 0, .int .i64 0, .int .i64 0, .int .i64 0, .int .i64 0, .int .i64 0, .int .i64 0, .int .i64 0, .int .i64 0, .int .i64 0, .int .i64 0, .int .i64 0, .int .i64 0, .int .i64 0, .int .i64 0] 29))) := h666q.out.new (.cells #[.int .i64 0, .int .i64 0, .int .i64 0, .int .i64 0, .int .i64 0, .int .i64 0, .int .i64 0, .int .i64 0, .int .i64 0, .int .i64 0, .int .i64 0, .int .i64 0, .int .i64 0, .int .i64 0, .int .i64 0, .int .i64 0] 29)
      have h675q : Hid (TAt (u665q.alloc (.cells #[.int .i64 0, .int .i64 0, .int .i64 0, .int .i64 0, .int .i64 0, .int .i64 0, .int .i64 0, .int .i64 0, .int .i64 0, .int .i64 0, .int .i64 0, .int .i64 0, .int .i64 0, .int .i64 0, .int .i64 0, .int .i64 0] 29)) u638q.heap.size t) := h667q.out.new (.cells #[.int .i64 0, .int .i64 0, .int .i64 0, .int .i64 0, .int .i64 0, .int .i64 0, .int .i64 0, .int .i64 0, .int .i64 0, .int .i64 0, .int .i64 0, .int .i64 0, .int .i64 0, .int .i64 0, .int .i64 0, .int .i64 0] 29)
      have h676q : Hid (Bo (u665q.alloc (.cells #[.int .i64 0, .int .i64 0, .int .i64 0, .int .i64 0, .int .i64 0, .int .i64 0, .int .i64 0, .int .i64 0, .int .i64 0, .int .i64 0, .int .i64 0, .int .i64 0, .int .i64 0, .int .i64 0, .int .i64 0, .int .i64 0] 29)) u648q.heap.size [.int .i64 1, .int .i64 a, .int .i64 v]) := h668q.out.new (.cells #[.int .i64 0, .int .i64 0, .int .i64 0, .int .i64 0, .int .i64 0, .int .i64 0, .int .i64 0, .int .i64 0, .int .i64 0, .int .i64 0, .int .i64 0, .int .i64 0, .int .i64 0, .int .i64 0, .int .i64 0, .int .i64 0] 29)
      have h677q : Hid (Bo (u665q.alloc (.cells #[.int .i64 0, .int .i64 0, .int .i64 0, .int .i64 0, .int .i64 0, .int .i64 0, .int .i64 0, .int .i64 0, .int .i64 0, .int .i64 0, .int .i64 0, .int .i64 0, .int .i64 0, .int .i64 0, .int .i64 0, .int .i64 0] 29)) (u648q.heap.size + 1) [.int .i64 1, .int .i64 b, .int .i64 x]) := h669q.out.new (.cells #[.int .i64 0, .int .i64 0, .int .i64 0, .int .i64 0, .int .i64 0, .int .i64 0, .int .i64 0, .int .i64 0, .int .i64 0, .int .i64 0, .int .i64 0, .int .i64 0, .int .i64 0, .int .i64 0, .int .i64 0, .int .i64 0] 29)
      clear h666q h667q h668q h669q
      have h678q : Hid (TAt (u665q.alloc (.cells #[.int .i64 0, .int .i64 0, .int .i64 0, .int .i64 0, .int .i64 0, .int .i64 0, .int .i64 0, .int .i64 0, .int .i64 0, .int .i64 0, .int .i64 0, .int .i64 0, .int .i64 0, .int .i64 0, .int .i64 0, .int .i64 0] 29)) u665q.heap.size Tb.zero) := TAt.bornZero u665q 29 (by simp)
      have h679q : Hid (Gd n w ((u665q.alloc (.cells #[.int .i64 0, .int .i64 0, .int .i64 0, .int .i64 0, .int .i64 0, .int .i64 0, .int .i64 0, .int .i64 0, .int .i64 0, .int .i64 0, .int .i64 0, .int .i64 0, .int .i64 0, .int .i64 0, .int .i64 0, .int .i64 0] 29)).alloc (.cells #[.int .i64 0, .int .i64 0] 37))) := h674q.out.new (.cells #[.int .i64 0, .int .i64 0] 37)
      have h680q : Hid (TAt ((u665q.alloc (.cells #[.int .i64 0, .int .i64 0, .int .i64 0, .int .i64 0, .int .i64 0, .int .i64 0, .int .i64 0, .int .i64 0, .int .i64 0, .int .i64 0, .int .i64 0, .int .i64 0, .int .i64 0, .int .i64 0, .int .i64 0, .int .i64 0] 29)).alloc (.cells #[.int .i64 0, .int .i64 0] 37)) u638q.heap.size t) := h675q.out.new (.cells #[.int .i64 0, .int .i64 0] 37)
      have h681q : Hid (Bo ((u665q.alloc (.cells #[.int .i64 0, .int .i64 0, .int .i64 0, .int .i64 0, .int .i64 0, .int .i64 0, .int .i64 0, .int .i64 0, .int .i64 0, .int .i64 0, .int .i64 0, .int .i64 0, .int .i64 0, .int .i64 0, .int .i64 0, .int .i64 0] 29)).alloc (.cells #[.int .i64 0, .int .i64 0] 37)) u648q.heap.size [.int .i64 1, .int .i64 a, .int .i64 v]) := h676q.out.new (.cells #[.int .i64 0, .int .i64 0] 37)
      have h682q : Hid (Bo ((u665q.alloc (.cells #[.int .i64 0, .int .i64 0, .int .i64 0, .int .i64 0, .int .i64 0, .int .i64 0, .int .i64 0, .int .i64 0, .int .i64 0, .int .i64 0, .int .i64 0, .int .i64 0, .int .i64 0, .int .i64 0, .int .i64 0, .int .i64 0] 29)).alloc (.cells #[.int .i64 0, .int .i64 0] 37)) (u648q.heap.size + 1) [.int .i64 1, .int .i64 b, .int .i64 x]) := h677q.out.new (.cells #[.int .i64 0, .int .i64 0] 37)
      have h683q : Hid (TAt ((u665q.alloc (.cells #[.int .i64 0, .int .i64 0, .int .i64 0, .int .i64 0, .int .i64 0, .int .i64 0, .int .i64 0, .int .i64 0, .int .i64 0, .int .i64 0, .int .i64 0, .int .i64 0, .int .i64 0, .int .i64 0, .int .i64 0, .int .i64 0] 29)).alloc (.cells #[.int .i64 0, .int .i64 0] 37)) u665q.heap.size Tb.zero) := h678q.out.new (.cells #[.int .i64 0, .int .i64 0] 37)
      clear h674q h675q h676q h677q h678q
      have h684q : Hid (Bo ((u665q.alloc (.cells #[.int .i64 0, .int .i64 0, .int .i64 0, .int .i64 0, .int .i64 0, .int .i64 0, .int .i64 0, .int .i64 0, .int .i64 0, .int .i64 0, .int .i64 0, .int .i64 0, .int .i64 0, .int .i64 0, .int .i64 0, .int .i64 0] 29)).alloc (.cells #[.int .i64 0, .int .i64 0] 37)) (u665q.heap.size + 1) [.int .i64 0, .int .i64 0]) := Bo.born (u665q.alloc (.cells #[.int .i64 0, .int .i64 0, .int .i64 0, .int .i64 0, .int .i64 0, .int .i64 0, .int .i64 0, .int .i64 0, .int .i64 0, .int .i64 0, .int .i64 0, .int .i64 0, .int .i64 0, .int .i64 0, .int .i64 0, .int .i64 0] 29)) [.int .i64 0, .int .i64 0] 37 (by simp)
      go_wp2_with (first
        | (refine wpList_store_mid rfl 29 _ _ rfl u665q.heap.size _ x1.all.toArray rfl rfl (h683q.out.thereOf x1) (HZ.out x1) (x1.all_all) ?_
           have h685q : Hid (Gd n w (((u665q.alloc (.cells #[.int .i64 0, .int .i64 0, .int .i64 0, .int .i64 0, .int .i64 0, .int .i64 0, .int .i64 0, .int .i64 0, .int .i64 0, .int .i64 0, .int .i64 0, .int .i64 0, .int .i64 0, .int .i64 0, .int .i64 0, .int .i64 0] 29)).alloc (.cells #[.int .i64 0, .int .i64 0] 37)).setCells u665q.heap.size 0 x1.all)) := h679q.out.asideAll (by omega) x1
           have h686q : Hid (TAt (((u665q.alloc (.cells #[.int .i64 0, .int .i64 0, .int .i64 0, .int .i64 0, .int .i64 0, .int .i64 0, .int .i64 0, .int .i64 0, .int .i64 0, .int .i64 0, .int .i64 0, .int .i64 0, .int .i64 0, .int .i64 0, .int .i64 0, .int .i64 0] 29)).alloc (.cells #[.int .i64 0, .int .i64 0] 37)).setCells u665q.heap.size 0 x1.all) u638q.heap.size t) := h680q.out.asideAll (by omega) x1
           have h687q : Hid (Bo (((u665q.alloc (.cells #[.int .i64 0, .int .i64 0, .int .i64 0, .int .i64 0, .int .i64 0, .int .i64 0, .int .i64 0, .int .i64 0, .int .i64 0, .int .i64 0, .int .i64 0, .int .i64 0, .int .i64 0, .int .i64 0, .int .i64 0, .int .i64 0] 29)).alloc (.cells #[.int .i64 0, .int .i64 0] 37)).setCells u665q.heap.size 0 x1.all) u648q.heap.size [.int .i64 1, .int .i64 a, .int .i64 v]) := h681q.out.asideAll (by omega) x1
           have h688q : Hid (Bo (((u665q.alloc (.cells #[.int .i64 0, .int .i64 0, .int .i64 0, .int .i64 0, .int .i64 0, .int .i64 0, .int .i64 0, .int .i64 0, .int .i64 0, .int .i64 0, .int .i64 0, .int .i64 0, .int .i64 0, .int .i64 0, .int .i64 0, .int .i64 0] 29)).alloc (.cells #[.int .i64 0, .int .i64 0] 37)).setCells u665q.heap.size 0 x1.all) (u648q.heap.size + 1) [.int .i64 1, .int .i64 b, .int .i64 x]) := h682q.out.asideAll (by omega) x1
           have h689q : Hid (TAt (((u665q.alloc (.cells #[.int .i64 0, .int .i64 0, .int .i64 0, .int .i64 0, .int .i64 0, .int .i64 0, .int .i64 0, .int .i64 0, .int .i64 0, .int .i64 0, .int .i64 0, .int .i64 0, .int .i64 0, .int .i64 0, .int .i64 0, .int .i64 0] 29)).alloc (.cells #[.int .i64 0, .int .i64 0] 37)).setCells u665q.heap.size 0 x1.all) u665q.heap.size x1) := h683q.out.setAll x1
           have h690q : Hid (Bo (((u665q.alloc (.cells #[.int .i64 0, .int .i64 0, .int .i64 0, .int .i64 0, .int .i64 0, .int .i64 0, .int .i64 0, .int .i64 0, .int .i64 0, .int .i64 0, .int .i64 0, .int .i64 0, .int .i64 0, .int .i64 0, .int .i64 0, .int .i64 0] 29)).alloc (.cells #[.int .i64 0, .int .i64 0] 37)).setCells u665q.heap.size 0 x1.all) (u665q.heap.size + 1) [.int .i64 0, .int .i64 0]) := h684q.out.asideAll (by omega) x1
           clear h679q h680q h681q h682q h683q h684q
           generalize (((u665q.alloc (.cells #[.int .i64 0, .int .i64 0, .int .i64 0, .int .i64 0, .int .i64 0, .int .i64 0, .int .i64 0, .int .i64 0, .int .i64 0, .int .i64 0, .int .i64 0, .int .i64 0, .int .i64 0, .int .i64 0, .int .i64 0, .int .i64 0] 29)).alloc (.cells #[.int .i64 0, .int .i64 0] 37)).setCells u665q.heap.size 0 x1.all) = u691q at h685q h686q h687q h688q h689q h690q  ⊢)
        | (refine wpList_store_mid rfl 37 _ _ rfl (u665q.heap.size + 1) _ #[.int .i64 (1), .int .i64 (0)] rfl rfl h690q.out.there2 HA.out (two_one _ _) ?_
           have h692q : Hid (Gd n w (u691q.setCells (u665q.heap.size + 1) 0 [.int .i64 (1), .int .i64 (0)])) := h685q.out.asideL (by omega) 0 [.int .i64 (1), .int .i64 (0)]
           have h693q : Hid (TAt (u691q.setCells (u665q.heap.size + 1) 0 [.int .i64 (1), .int .i64 (0)]) u638q.heap.size t) := h686q.out.asideL (by omega) 0 [.int .i64 (1), .int .i64 (0)]
           have h694q : Hid (Bo (u691q.setCells (u665q.heap.size + 1) 0 [.int .i64 (1), .int .i64 (0)]) u648q.heap.size [.int .i64 1, .int .i64 a, .int .i64 v]) := h687q.out.asideL (by omega) 0 [.int .i64 (1), .int .i64 (0)]
           have h695q : Hid (Bo (u691q.setCells (u665q.heap.size + 1) 0 [.int .i64 (1), .int .i64 (0)]) (u648q.heap.size + 1) [.int .i64 1, .int .i64 b, .int .i64 x]) := h688q.out.asideL (by omega) 0 [.int .i64 (1), .int .i64 (0)]
           have h696q : Hid (TAt (u691q.setCells (u665q.heap.size + 1) 0 [.int .i64 (1), .int .i64 (0)]) u665q.heap.size x1) := h689q.out.asideL (by omega) 0 [.int .i64 (1), .int .i64 (0)]
           have h697q : Hid (Bo (u691q.setCells (u665q.heap.size + 1) 0 [.int .i64 (1), .int .i64 (0)]) (u665q.heap.size + 1) [.int .i64 (1), .int .i64 (0)]) := h690q.out.set2 (.int .i64 (1)) (.int .i64 (0))
           clear h685q h686q h687q h688q h689q h690q
           generalize (u691q.setCells (u665q.heap.size + 1) 0 [.int .i64 (1), .int .i64 (0)]) = u698q at h692q h693q h694q h695q h696q h697q  ⊢
           have c699q := h695q.out.at 0 rfl
           have c700q := h695q.out.at 1 rfl
           have c701q := h695q.out.at 2 rfl)
        | (refine wpList_load_mid rfl 29 _ rfl u665q.heap.size _ rfl x1.all _ h696q.out.range HD.out rfl (HS.out x1) ?_))
      refine (D2 _).mono ?_
      rintro e u702q ⟨rfl, hb⟩
      have h703q : Hid (Gd n w u702q) := h692q.out.later hb
      have h704q : Hid (TAt u702q u638q.heap.size t) := h693q.out.later hb
      have h705q : Hid (Bo u702q u648q.heap.size [.int .i64 1, .int .i64 a, .int .i64 v]) := h694q.out.later hb
      have h706q : Hid (Bo u702q (u648q.heap.size + 1) [.int .i64 1, .int .i64 b, .int .i64 x]) := h695q.out.later hb
      have h707q : Hid (TAt u702q u665q.heap.size x1) := h696q.out.later hb
      have h708q : Hid (Bo u702q (u665q.heap.size + 1) [.int .i64 (1), .int .i64 (0)]) := h697q.out.later hb
      clear h692q h693q h694q h695q h696q h697q
      clear hb
      clear D2
      go_wp2_with (first
        | (refine wpList_store_mid rfl 29 _ _ rfl u665q.heap.size _ x2.all.toArray rfl rfl (h707q.out.thereOf x2) (HZ.out x2) (x2.all_all) ?_
           have h709q : Hid (Gd n w (u702q.setCells u665q.heap.size 0 x2.all)) := h703q.out.asideAll (by omega) x2
           have h710q : Hid (TAt (u702q.setCells u665q.heap.size 0 x2.all) u638q.heap.size t) := h704q.out.asideAll (by omega) x2
           have h711q : Hid (Bo (u702q.setCells u665q.heap.size 0 x2.all) u648q.heap.size [.int .i64 1, .int .i64 a, .int .i64 v]) := h705q.out.asideAll (by omega) x2
           have h712q : Hid (Bo (u702q.setCells u665q.heap.size 0 x2.all) (u648q.heap.size + 1) [.int .i64 1, .int .i64 b, .int .i64 x]) := h706q.out.asideAll (by omega) x2
           have h713q : Hid (TAt (u702q.setCells u665q.heap.size 0 x2.all) u665q.heap.size x2) := h707q.out.setAll x2
           have h714q : Hid (Bo (u702q.setCells u665q.heap.size 0 x2.all) (u665q.heap.size + 1) [.int .i64 (1), .int .i64 (0)]) := h708q.out.asideAll (by omega) x2
           clear h703q h704q h705q h706q h707q h708q
           generalize (u702q.setCells u665q.heap.size 0 x2.all) = u715q at h709q h710q h711q h712q h713q h714q  ⊢
           have c716q := h712q.out.at 0 rfl
           have c717q := h712q.out.at 1 rfl
           have c718q := h712q.out.at 2 rfl)
        | (refine wpList_load_mid rfl 29 _ rfl u638q.heap.size _ rfl t.all _ h710q.out.range HD.out rfl (HS.out t) ?_))
      refine (D3 _).mono ?_
      rintro e u719q ⟨rfl, hb⟩
      have h720q : Hid (Gd n w u719q) := h709q.out.later hb
      have h721q : Hid (TAt u719q u638q.heap.size t) := h710q.out.later hb
      have h722q : Hid (Bo u719q u648q.heap.size [.int .i64 1, .int .i64 a, .int .i64 v]) := h711q.out.later hb
      have h723q : Hid (Bo u719q (u648q.heap.size + 1) [.int .i64 1, .int .i64 b, .int .i64 x]) := h712q.out.later hb
      have h724q : Hid (TAt u719q u665q.heap.size x2) := h713q.out.later hb
      have h725q : Hid (Bo u719q (u665q.heap.size + 1) [.int .i64 (1), .int .i64 (0)]) := h714q.out.later hb
      clear h709q h710q h711q h712q h713q h714q
      clear hb
      clear D3
      have l726q : n ≤ u719q.heap.size := h720q.out.le
      have l727q : u638q.heap.size < u719q.heap.size := h721q.out.lt
      have l728q : u648q.heap.size < u719q.heap.size := h722q.out.lt
      have l729q : (u648q.heap.size + 1) < u719q.heap.size := h723q.out.lt
      have l730q : u665q.heap.size < u719q.heap.size := h724q.out.lt
      have l731q : (u665q.heap.size + 1) < u719q.heap.size := h725q.out.lt
      have h732q : Hid (Gd n w (u719q.alloc (.cells #[.int .i64 0, .int .i64 0, .int .i64 0, .int .i64 0, .int .i64 0, .int .i64 0, .int .i64 0, .int .i64 0, .int .i64 0, .int .i64 0, .int .i64 0, .int .i64 0, .int .i64 0, .int .i64 0, .int .i64 0, .int .i64 0] 29))) := h720q.out.new (.cells #[.int .i64 0, .int .i64 0, .int .i64 0, .int .i64 0, .int .i64 0, .int .i64 0, .int .i64 0, .int .i64 0, .int .i64 0, .int .i64 0, .int .i64 0, .int .i64 0, .int .i64 0, .int .i64 0, .int .i64 0, .int .i64 0] 29)
      have h733q : Hid (TAt (u719q.alloc (.cells #[.int .i64 0, .int .i64 0, .int .i64 0, .int .i64 0, .int .i64 0, .int .i64 0, .int .i64 0, .int .i64 0, .int .i64 0, .int .i64 0, .int .i64 0, .int .i64 0, .int .i64 0, .int .i64 0, .int .i64 0, .int .i64 0] 29)) u638q.heap.size t) := h721q.out.new (.cells #[.int .i64 0, .int .i64 0, .int .i64 0, .int .i64 0, .int .i64 0, .int .i64 0, .int .i64 0, .int .i64 0, .int .i64 0, .int .i64 0, .int .i64 0, .int .i64 0, .int .i64 0, .int .i64 0, .int .i64 0, .int .i64 0] 29)
      have h734q : Hid (Bo (u719q.alloc (.cells #[.int .i64 0, .int .i64 0, .int .i64 0, .int .i64 0, .int .i64 0, .int .i64 0, .int .i64 0, .int .i64 0, .int .i64 0, .int .i64 0, .int .i64 0, .int .i64 0, .int .i64 0, .int .i64 0, .int .i64 0, .int .i64 0] 29)) u648q.heap.size [.int .i64 1, .int .i64 a, .int .i64 v]) := h722q.out.new (.cells #[.int .i64 0, .int .i64 0, .int .i64 0, .int .i64 0, .int .i64 0, .int .i64 0, .int .i64 0, .int .i64 0, .int .i64 0, .int .i64 0, .int .i64 0, .int .i64 0, .int .i64 0, .int .i64 0, .int .i64 0, .int .i64 0] 29)
      have h735q : Hid (Bo (u719q.alloc (.cells #[.int .i64 0, .int .i64 0, .int .i64 0, .int .i64 0, .int .i64 0, .int .i64 0, .int .i64 0, .int .i64 0, .int .i64 0, .int .i64 0, .int .i64 0, .int .i64 0, .int .i64 0, .int .i64 0, .int .i64 0, .int .i64 0] 29)) (u648q.heap.size + 1) [.int .i64 1, .int .i64 b, .int .i64 x]) := h723q.out.new (.cells #[.int .i64 0, .int .i64 0, .int .i64 0, .int .i64 0, .int .i64 0, .int .i64 0, .int .i64 0, .int .i64 0, .int .i64 0, .int .i64 0, .int .i64 0, .int .i64 0, .int .i64 0, .int .i64 0, .int .i64 0, .int .i64 0] 29)
      have h736q : Hid (TAt (u719q.alloc (.cells #[.int .i64 0, .int .i64 0, .int .i64 0, .int .i64 0, .int .i64 0, .int .i64 0, .int .i64 0, .int .i64 0, .int .i64 0, .int .i64 0, .int .i64 0, .int .i64 0, .int .i64 0, .int .i64 0, .int .i64 0, .int .i64 0] 29)) u665q.heap.size x2) := h724q.out.new (.cells #[.int .i64 0, .int .i64 0, .int .i64 0, .int .i64 0, .int .i64 0, .int .i64 0, .int .i64 0, .int .i64 0, .int .i64 0, .int .i64 0, .int .i64 0, .int .i64 0, .int .i64 0, .int .i64 0, .int .i64 0, .int .i64 0] 29)
      have h737q : Hid (Bo (u719q.alloc (.cells #[.int .i64 0, .int .i64 0, .int .i64 0, .int .i64 0, .int .i64 0, .int .i64 0, .int .i64 0, .int .i64 0, .int .i64 0, .int .i64 0, .int .i64 0, .int .i64 0, .int .i64 0, .int .i64 0, .int .i64 0, .int .i64 0] 29)) (u665q.heap.size + 1) [.int .i64 (1), .int .i64 (0)]) := h725q.out.new (.cells #[.int .i64 0, .int .i64 0, .int .i64 0, .int .i64 0, .int .i64 0, .int .i64 0, .int .i64 0, .int .i64 0, .int .i64 0, .int .i64 0, .int .i64 0, .int .i64 0, .int .i64 0, .int .i64 0, .int .i64 0, .int .i64 0] 29)
      clear h720q h721q h722q h723q h724q h725q
      have h738q : Hid (TAt (u719q.alloc (.cells #[.int .i64 0, .int .i64 0, .int .i64 0, .int .i64 0, .int .i64 0, .int .i64 0, .int .i64 0, .int .i64 0, .int .i64 0, .int .i64 0, .int .i64 0, .int .i64 0, .int .i64 0, .int .i64 0, .int .i64 0, .int .i64 0] 29)) u719q.heap.size Tb.zero) := TAt.bornZero u719q 29 (by simp)
      have h739q : Hid (Gd n w ((u719q.alloc (.cells #[.int .i64 0, .int .i64 0, .int .i64 0, .int .i64 0, .int .i64 0, .int .i64 0, .int .i64 0, .int .i64 0, .int .i64 0, .int .i64 0, .int .i64 0, .int .i64 0, .int .i64 0, .int .i64 0, .int .i64 0, .int .i64 0] 29)).alloc (.cells #[.int .i64 0, .int .i64 0] 37))) := h732q.out.new (.cells #[.int .i64 0, .int .i64 0] 37)
      have h740q : Hid (TAt ((u719q.alloc (.cells #[.int .i64 0, .int .i64 0, .int .i64 0, .int .i64 0, .int .i64 0, .int .i64 0, .int .i64 0, .int .i64 0, .int .i64 0, .int .i64 0, .int .i64 0, .int .i64 0, .int .i64 0, .int .i64 0, .int .i64 0, .int .i64 0] 29)).alloc (.cells #[.int .i64 0, .int .i64 0] 37)) u638q.heap.size t) := h733q.out.new (.cells #[.int .i64 0, .int .i64 0] 37)
      have h741q : Hid (Bo ((u719q.alloc (.cells #[.int .i64 0, .int .i64 0, .int .i64 0, .int .i64 0, .int .i64 0, .int .i64 0, .int .i64 0, .int .i64 0, .int .i64 0, .int .i64 0, .int .i64 0, .int .i64 0, .int .i64 0, .int .i64 0, .int .i64 0, .int .i64 0] 29)).alloc (.cells #[.int .i64 0, .int .i64 0] 37)) u648q.heap.size [.int .i64 1, .int .i64 a, .int .i64 v]) := h734q.out.new (.cells #[.int .i64 0, .int .i64 0] 37)
      have h742q : Hid (Bo ((u719q.alloc (.cells #[.int .i64 0, .int .i64 0, .int .i64 0, .int .i64 0, .int .i64 0, .int .i64 0, .int .i64 0, .int .i64 0, .int .i64 0, .int .i64 0, .int .i64 0, .int .i64 0, .int .i64 0, .int .i64 0, .int .i64 0, .int .i64 0] 29)).alloc (.cells #[.int .i64 0, .int .i64 0] 37)) (u648q.heap.size + 1) [.int .i64 1, .int .i64 b, .int .i64 x]) := h735q.out.new (.cells #[.int .i64 0, .int .i64 0] 37)
      have h743q : Hid (TAt ((u719q.alloc (.cells #[.int .i64 0, .int .i64 0, .int .i64 0, .int .i64 0, .int .i64 0, .int .i64 0, .int .i64 0, .int .i64 0, .int .i64 0, .int .i64 0, .int .i64 0, .int .i64 0, .int .i64 0, .int .i64 0, .int .i64 0, .int .i64 0] 29)).alloc (.cells #[.int .i64 0, .int .i64 0] 37)) u665q.heap.size x2) := h736q.out.new (.cells #[.int .i64 0, .int .i64 0] 37)
      have h744q : Hid (Bo ((u719q.alloc (.cells #[.int .i64 0, .int .i64 0, .int .i64 0, .int .i64 0, .int .i64 0, .int .i64 0, .int .i64 0, .int .i64 0, .int .i64 0, .int .i64 0, .int .i64 0, .int .i64 0, .int .i64 0, .int .i64 0, .int .i64 0, .int .i64 0] 29)).alloc (.cells #[.int .i64 0, .int .i64 0] 37)) (u665q.heap.size + 1) [.int .i64 (1), .int .i64 (0)]) := h737q.out.new (.cells #[.int .i64 0, .int .i64 0] 37)
      have h745q : Hid (TAt ((u719q.alloc (.cells #[.int .i64 0, .int .i64 0, .int .i64 0, .int .i64 0, .int .i64 0, .int .i64 0, .int .i64 0, .int .i64 0, .int .i64 0, .int .i64 0, .int .i64 0, .int .i64 0, .int .i64 0, .int .i64 0, .int .i64 0, .int .i64 0] 29)).alloc (.cells #[.int .i64 0, .int .i64 0] 37)) u719q.heap.size Tb.zero) := h738q.out.new (.cells #[.int .i64 0, .int .i64 0] 37)
      clear h732q h733q h734q h735q h736q h737q h738q
      have h746q : Hid (Bo ((u719q.alloc (.cells #[.int .i64 0, .int .i64 0, .int .i64 0, .int .i64 0, .int .i64 0, .int .i64 0, .int .i64 0, .int .i64 0, .int .i64 0, .int .i64 0, .int .i64 0, .int .i64 0, .int .i64 0, .int .i64 0, .int .i64 0, .int .i64 0] 29)).alloc (.cells #[.int .i64 0, .int .i64 0] 37)) (u719q.heap.size + 1) [.int .i64 0, .int .i64 0]) := Bo.born (u719q.alloc (.cells #[.int .i64 0, .int .i64 0, .int .i64 0, .int .i64 0, .int .i64 0, .int .i64 0, .int .i64 0, .int .i64 0, .int .i64 0, .int .i64 0, .int .i64 0, .int .i64 0, .int .i64 0, .int .i64 0, .int .i64 0, .int .i64 0] 29)) [.int .i64 0, .int .i64 0] 37 (by simp)
      go_wp2_with (first
        | (refine wpList_store_mid rfl 29 _ _ rfl u719q.heap.size _ y1.all.toArray rfl rfl (h745q.out.thereOf y1) (HZ.out y1) (y1.all_all) ?_
           have h747q : Hid (Gd n w (((u719q.alloc (.cells #[.int .i64 0, .int .i64 0, .int .i64 0, .int .i64 0, .int .i64 0, .int .i64 0, .int .i64 0, .int .i64 0, .int .i64 0, .int .i64 0, .int .i64 0, .int .i64 0, .int .i64 0, .int .i64 0, .int .i64 0, .int .i64 0] 29)).alloc (.cells #[.int .i64 0, .int .i64 0] 37)).setCells u719q.heap.size 0 y1.all)) := h739q.out.asideAll (by omega) y1
           have h748q : Hid (TAt (((u719q.alloc (.cells #[.int .i64 0, .int .i64 0, .int .i64 0, .int .i64 0, .int .i64 0, .int .i64 0, .int .i64 0, .int .i64 0, .int .i64 0, .int .i64 0, .int .i64 0, .int .i64 0, .int .i64 0, .int .i64 0, .int .i64 0, .int .i64 0] 29)).alloc (.cells #[.int .i64 0, .int .i64 0] 37)).setCells u719q.heap.size 0 y1.all) u638q.heap.size t) := h740q.out.asideAll (by omega) y1
           have h749q : Hid (Bo (((u719q.alloc (.cells #[.int .i64 0, .int .i64 0, .int .i64 0, .int .i64 0, .int .i64 0, .int .i64 0, .int .i64 0, .int .i64 0, .int .i64 0, .int .i64 0, .int .i64 0, .int .i64 0, .int .i64 0, .int .i64 0, .int .i64 0, .int .i64 0] 29)).alloc (.cells #[.int .i64 0, .int .i64 0] 37)).setCells u719q.heap.size 0 y1.all) u648q.heap.size [.int .i64 1, .int .i64 a, .int .i64 v]) := h741q.out.asideAll (by omega) y1
           have h750q : Hid (Bo (((u719q.alloc (.cells #[.int .i64 0, .int .i64 0, .int .i64 0, .int .i64 0, .int .i64 0, .int .i64 0, .int .i64 0, .int .i64 0, .int .i64 0, .int .i64 0, .int .i64 0, .int .i64 0, .int .i64 0, .int .i64 0, .int .i64 0, .int .i64 0] 29)).alloc (.cells #[.int .i64 0, .int .i64 0] 37)).setCells u719q.heap.size 0 y1.all) (u648q.heap.size + 1) [.int .i64 1, .int .i64 b, .int .i64 x]) := h742q.out.asideAll (by omega) y1
           have h751q : Hid (TAt (((u719q.alloc (.cells #[.int .i64 0, .int .i64 0, .int .i64 0, .int .i64 0, .int .i64 0, .int .i64 0, .int .i64 0, .int .i64 0, .int .i64 0, .int .i64 0, .int .i64 0, .int .i64 0, .int .i64 0, .int .i64 0, .int .i64 0, .int .i64 0] 29)).alloc (.cells #[.int .i64 0, .int .i64 0] 37)).setCells u719q.heap.size 0 y1.all) u665q.heap.size x2) := h743q.out.asideAll (by omega) y1
           have h752q : Hid (Bo (((u719q.alloc (.cells #[.int .i64 0, .int .i64 0, .int .i64 0, .int .i64 0, .int .i64 0, .int .i64 0, .int .i64 0, .int .i64 0, .int .i64 0, .int .i64 0, .int .i64 0, .int .i64 0, .int .i64 0, .int .i64 0, .int .i64 0, .int .i64 0] 29)).alloc (.cells #[.int .i64 0, .int .i64 0] 37)).setCells u719q.heap.size 0 y1.all) (u665q.heap.size + 1) [.int .i64 (1), .int .i64 (0)]) := h744q.out.asideAll (by omega) y1
           have h753q : Hid (TAt (((u719q.alloc (.cells #[.int .i64 0, .int .i64 0, .int .i64 0, .int .i64 0, .int .i64 0, .int .i64 0, .int .i64 0, .int .i64 0, .int .i64 0, .int .i64 0, .int .i64 0, .int .i64 0, .int .i64 0, .int .i64 0, .int .i64 0, .int .i64 0] 29)).alloc (.cells #[.int .i64 0, .int .i64 0] 37)).setCells u719q.heap.size 0 y1.all) u719q.heap.size y1) := h745q.out.setAll y1
           have h754q : Hid (Bo (((u719q.alloc (.cells #[.int .i64 0, .int .i64 0, .int .i64 0, .int .i64 0, .int .i64 0, .int .i64 0, .int .i64 0, .int .i64 0, .int .i64 0, .int .i64 0, .int .i64 0, .int .i64 0, .int .i64 0, .int .i64 0, .int .i64 0, .int .i64 0] 29)).alloc (.cells #[.int .i64 0, .int .i64 0] 37)).setCells u719q.heap.size 0 y1.all) (u719q.heap.size + 1) [.int .i64 0, .int .i64 0]) := h746q.out.asideAll (by omega) y1
           clear h739q h740q h741q h742q h743q h744q h745q h746q
           generalize (((u719q.alloc (.cells #[.int .i64 0, .int .i64 0, .int .i64 0, .int .i64 0, .int .i64 0, .int .i64 0, .int .i64 0, .int .i64 0, .int .i64 0, .int .i64 0, .int .i64 0, .int .i64 0, .int .i64 0, .int .i64 0, .int .i64 0, .int .i64 0] 29)).alloc (.cells #[.int .i64 0, .int .i64 0] 37)).setCells u719q.heap.size 0 y1.all) = u755q at h747q h748q h749q h750q h751q h752q h753q h754q  ⊢)
        | (refine wpList_store_mid rfl 37 _ _ rfl (u719q.heap.size + 1) _ #[.int .i64 (1), .int .i64 (0)] rfl rfl h754q.out.there2 HA.out (two_one _ _) ?_
           have h756q : Hid (Gd n w (u755q.setCells (u719q.heap.size + 1) 0 [.int .i64 (1), .int .i64 (0)])) := h747q.out.asideL (by omega) 0 [.int .i64 (1), .int .i64 (0)]
           have h757q : Hid (TAt (u755q.setCells (u719q.heap.size + 1) 0 [.int .i64 (1), .int .i64 (0)]) u638q.heap.size t) := h748q.out.asideL (by omega) 0 [.int .i64 (1), .int .i64 (0)]
           have h758q : Hid (Bo (u755q.setCells (u719q.heap.size + 1) 0 [.int .i64 (1), .int .i64 (0)]) u648q.heap.size [.int .i64 1, .int .i64 a, .int .i64 v]) := h749q.out.asideL (by omega) 0 [.int .i64 (1), .int .i64 (0)]
           have h759q : Hid (Bo (u755q.setCells (u719q.heap.size + 1) 0 [.int .i64 (1), .int .i64 (0)]) (u648q.heap.size + 1) [.int .i64 1, .int .i64 b, .int .i64 x]) := h750q.out.asideL (by omega) 0 [.int .i64 (1), .int .i64 (0)]
           have h760q : Hid (TAt (u755q.setCells (u719q.heap.size + 1) 0 [.int .i64 (1), .int .i64 (0)]) u665q.heap.size x2) := h751q.out.asideL (by omega) 0 [.int .i64 (1), .int .i64 (0)]
           have h761q : Hid (Bo (u755q.setCells (u719q.heap.size + 1) 0 [.int .i64 (1), .int .i64 (0)]) (u665q.heap.size + 1) [.int .i64 (1), .int .i64 (0)]) := h752q.out.asideL (by omega) 0 [.int .i64 (1), .int .i64 (0)]
           have h762q : Hid (TAt (u755q.setCells (u719q.heap.size + 1) 0 [.int .i64 (1), .int .i64 (0)]) u719q.heap.size y1) := h753q.out.asideL (by omega) 0 [.int .i64 (1), .int .i64 (0)]
           have h763q : Hid (Bo (u755q.setCells (u719q.heap.size + 1) 0 [.int .i64 (1), .int .i64 (0)]) (u719q.heap.size + 1) [.int .i64 (1), .int .i64 (0)]) := h754q.out.set2 (.int .i64 (1)) (.int .i64 (0))
           clear h747q h748q h749q h750q h751q h752q h753q h754q
           generalize (u755q.setCells (u719q.heap.size + 1) 0 [.int .i64 (1), .int .i64 (0)]) = u764q at h756q h757q h758q h759q h760q h761q h762q h763q  ⊢
           have c765q := h758q.out.at 0 rfl
           have c766q := h758q.out.at 1 rfl
           have c767q := h758q.out.at 2 rfl)
        | (refine wpList_load_mid rfl 29 _ rfl u719q.heap.size _ rfl y1.all _ h762q.out.range HD.out rfl (HS.out y1) ?_))
      refine (D4 _).mono ?_
      rintro e u768q ⟨rfl, hb⟩
      have h769q : Hid (Gd n w u768q) := h756q.out.later hb
      have h770q : Hid (TAt u768q u638q.heap.size t) := h757q.out.later hb
      have h771q : Hid (Bo u768q u648q.heap.size [.int .i64 1, .int .i64 a, .int .i64 v]) := h758q.out.later hb
      have h772q : Hid (Bo u768q (u648q.heap.size + 1) [.int .i64 1, .int .i64 b, .int .i64 x]) := h759q.out.later hb
      have h773q : Hid (TAt u768q u665q.heap.size x2) := h760q.out.later hb
      have h774q : Hid (Bo u768q (u665q.heap.size + 1) [.int .i64 (1), .int .i64 (0)]) := h761q.out.later hb
      have h775q : Hid (TAt u768q u719q.heap.size y1) := h762q.out.later hb
      have h776q : Hid (Bo u768q (u719q.heap.size + 1) [.int .i64 (1), .int .i64 (0)]) := h763q.out.later hb
      clear h756q h757q h758q h759q h760q h761q h762q h763q
      clear hb
      clear D4
      go_wp2_with (first
        | (refine wpList_store_mid rfl 29 _ _ rfl u719q.heap.size _ y2.all.toArray rfl rfl (h775q.out.thereOf y2) (HZ.out y2) (y2.all_all) ?_
           have h777q : Hid (Gd n w (u768q.setCells u719q.heap.size 0 y2.all)) := h769q.out.asideAll (by omega) y2
           have h778q : Hid (TAt (u768q.setCells u719q.heap.size 0 y2.all) u638q.heap.size t) := h770q.out.asideAll (by omega) y2
           have h779q : Hid (Bo (u768q.setCells u719q.heap.size 0 y2.all) u648q.heap.size [.int .i64 1, .int .i64 a, .int .i64 v]) := h771q.out.asideAll (by omega) y2
           have h780q : Hid (Bo (u768q.setCells u719q.heap.size 0 y2.all) (u648q.heap.size + 1) [.int .i64 1, .int .i64 b, .int .i64 x]) := h772q.out.asideAll (by omega) y2
           have h781q : Hid (TAt (u768q.setCells u719q.heap.size 0 y2.all) u665q.heap.size x2) := h773q.out.asideAll (by omega) y2
           have h782q : Hid (Bo (u768q.setCells u719q.heap.size 0 y2.all) (u665q.heap.size + 1) [.int .i64 (1), .int .i64 (0)]) := h774q.out.asideAll (by omega) y2
           have h783q : Hid (TAt (u768q.setCells u719q.heap.size 0 y2.all) u719q.heap.size y2) := h775q.out.setAll y2
           have h784q : Hid (Bo (u768q.setCells u719q.heap.size 0 y2.all) (u719q.heap.size + 1) [.int .i64 (1), .int .i64 (0)]) := h776q.out.asideAll (by omega) y2
           clear h769q h770q h771q h772q h773q h774q h775q h776q
           generalize (u768q.setCells u719q.heap.size 0 y2.all) = u785q at h777q h778q h779q h780q h781q h782q h783q h784q  ⊢))
      have h786q : Hid (Gd n w u785q.drew) := h777q.out.drew
      have h787q : Hid (TAt u785q.drew u638q.heap.size t) := h778q.out.drew
      have h788q : Hid (Bo u785q.drew u648q.heap.size [.int .i64 1, .int .i64 a, .int .i64 v]) := h779q.out.drew
      have h789q : Hid (Bo u785q.drew (u648q.heap.size + 1) [.int .i64 1, .int .i64 b, .int .i64 x]) := h780q.out.drew
      have h790q : Hid (TAt u785q.drew u665q.heap.size x2) := h781q.out.drew
      have h791q : Hid (Bo u785q.drew (u665q.heap.size + 1) [.int .i64 (1), .int .i64 (0)]) := h782q.out.drew
      have h792q : Hid (TAt u785q.drew u719q.heap.size y2) := h783q.out.drew
      have h793q : Hid (Bo u785q.drew (u719q.heap.size + 1) [.int .i64 (1), .int .i64 (0)]) := h784q.out.drew
      clear h777q h778q h779q h780q h781q h782q h783q h784q
      refine wp_region_held_drew (S := fun w' => TAt w' u665q.heap.size x2 ∧ TAt w' u719q.heap.size y2) (by kernel_rfl) ⟨h790q.out, h792q.out⟩ (fun hH => ?_)
      generalize u785q.drew = u794q at h786q h787q h788q h789q h790q h791q h792q h793q hH ⊢
      refine wpAnyH_take (i := 0) (oi := { dst := some 68, op := .load _ (.tmp 16), type := _, pos := _, after := _, guard := _ }) (v := _) rfl (by kernel_rfl) (by kernel_rfl) (by kernel_rfl) (fun _ _ _ h => h) (yieldsIf_load_mid (by rfl) _ _ rfl u665q.heap.size _ rfl x2.all _ (fun _ h => (h.1).range) HD.out rfl (HS.out x2)) hH ?_
      simp only [Act.put, List.setIfInBounds_toArray, List.set_cons_zero, List.set_cons_succ]
      refine wpAnyH_take (i := 2) (oi := { dst := some 70, op := .load _ (.tmp 18), type := _, pos := _, after := _, guard := _ }) (v := _) rfl (by kernel_rfl) (by kernel_rfl) (by kernel_rfl) (fun _ _ _ h => h) (yieldsIf_load_mid (by rfl) _ _ rfl u719q.heap.size _ rfl y2.all _ (fun _ h => (h.2).range) HD.out rfl (HS.out y2)) hH ?_
      simp only [Act.put, List.setIfInBounds_toArray, List.set_cons_zero, List.set_cons_succ]
      refine wpAnyH_ready (rs := [1]) (by kernel_rfl) (by simp) ?_
      refine AllReadyH.cons (o := { dst := some 69, op := _, type := _, pos := _, after := _, guard := _ }) rfl (fun K hK => ?_) AllReadyH.nil
      go_simp
      refine (LX _).mono ?_
      rintro e u795q ⟨rfl, hb⟩
      have h796q : Hid (Gd n w u795q) := h786q.out.later hb
      have h797q : Hid (TAt u795q u638q.heap.size t) := h787q.out.later hb
      have h798q : Hid (Bo u795q u648q.heap.size [.int .i64 1, .int .i64 a, .int .i64 v]) := h788q.out.later hb
      have h799q : Hid (Bo u795q (u648q.heap.size + 1) [.int .i64 1, .int .i64 b, .int .i64 x]) := h789q.out.later hb
      have h800q : Hid (TAt u795q u665q.heap.size x2) := h790q.out.later hb
      have h801q : Hid (Bo u795q (u665q.heap.size + 1) [.int .i64 (1), .int .i64 (0)]) := h791q.out.later hb
      have h802q : Hid (TAt u795q u719q.heap.size y2) := h792q.out.later hb
      have h803q : Hid (Bo u795q (u719q.heap.size + 1) [.int .i64 (1), .int .i64 (0)]) := h793q.out.later hb
      clear h786q h787q h788q h789q h790q h791q h792q h793q
      clear hb
      go_wp2_with fail
      refine hK.out _ _ ⟨h800q.out, h802q.out⟩ (fun hH => ?_)
      clear hK K
      try simp only [Act.put, List.setIfInBounds_toArray, List.set_cons_zero, List.set_cons_succ]
      refine wpAnyH_ready (rs := [3]) (by kernel_rfl) (by simp) ?_
      refine AllReadyH.cons (o := { dst := some 71, op := _, type := _, pos := _, after := _, guard := _ }) rfl (fun K hK => ?_) AllReadyH.nil
      go_simp
      refine (LY _).mono ?_
      rintro e u804q ⟨rfl, hb⟩
      have h805q : Hid (Gd n w u804q) := h796q.out.later hb
      have h806q : Hid (TAt u804q u638q.heap.size t) := h797q.out.later hb
      have h807q : Hid (Bo u804q u648q.heap.size [.int .i64 1, .int .i64 a, .int .i64 v]) := h798q.out.later hb
      have h808q : Hid (Bo u804q (u648q.heap.size + 1) [.int .i64 1, .int .i64 b, .int .i64 x]) := h799q.out.later hb
      have h809q : Hid (TAt u804q u665q.heap.size x2) := h800q.out.later hb
      have h810q : Hid (Bo u804q (u665q.heap.size + 1) [.int .i64 (1), .int .i64 (0)]) := h801q.out.later hb
      have h811q : Hid (TAt u804q u719q.heap.size y2) := h802q.out.later hb
      have h812q : Hid (Bo u804q (u719q.heap.size + 1) [.int .i64 (1), .int .i64 (0)]) := h803q.out.later hb
      clear h796q h797q h798q h799q h800q h801q h802q h803q
      clear hb
      go_wp2_with fail
      refine hK.out _ _ ⟨h809q.out, h811q.out⟩ (fun hH => ?_)
      clear hK K
      try simp only [Act.put, List.setIfInBounds_toArray, List.set_cons_zero, List.set_cons_succ]
      refine wpAnyH_take (i := 4) (oi := { dst := some 72, op := .binOp .eql _ (.tmp 69) (.tmp 71) _, type := _, pos := _, after := _, guard := _ }) (v := ?_) rfl (by kernel_rfl) (by kernel_rfl) (by kernel_rfl) (fun _ _ _ h => h) (Or.inl ⟨by rfl, ?_⟩) hH ?_
      rotate_left
      · intro w hSw
        clear hSw
        go_simp
        try with_reducible rfl
      simp only [Act.put, List.setIfInBounds_toArray, List.set_cons_zero, List.set_cons_succ]
      refine wpAnyH_take (i := 5) (oi := { dst := some 73, op := .move (.tmp 72), type := _, pos := _, after := _, guard := _ }) (v := ?_) rfl (by kernel_rfl) (by kernel_rfl) (by kernel_rfl) (fun _ _ _ h => h) (Or.inl ⟨by rfl, ?_⟩) hH ?_
      rotate_left
      · intro w hSw
        clear hSw
        go_simp
        try with_reducible rfl
      simp only [Act.put, List.setIfInBounds_toArray, List.set_cons_zero, List.set_cons_succ]
      refine wpAnyH_take (i := 6) (oi := { dst := some 74, op := .load _ (.tmp 16), type := _, pos := _, after := _, guard := _ }) (v := _) rfl (by kernel_rfl) (by kernel_rfl) (by kernel_rfl) (fun _ _ _ h => h) (yieldsIf_load_mid (by rfl) _ _ rfl u665q.heap.size _ rfl x2.all _ (fun _ h => (h.1).range) HD.out rfl (HS.out x2)) hH ?_
      simp only [Act.put, List.setIfInBounds_toArray, List.set_cons_zero, List.set_cons_succ]
      refine wpAnyH_take (i := 7) (oi := { dst := some 75, op := .move (.tmp 1), type := _, pos := _, after := _, guard := _ }) (v := ?_) rfl (by kernel_rfl) (by kernel_rfl) (by kernel_rfl) (fun _ _ _ h => h) (Or.inl ⟨by rfl, ?_⟩) hH ?_
      rotate_left
      · intro w hSw
        clear hSw
        go_simp
        try with_reducible rfl
      simp only [Act.put, List.setIfInBounds_toArray, List.set_cons_zero, List.set_cons_succ]
      refine wpAnyH_take (i := 9) (oi := { dst := some 77, op := .load _ (.tmp 18), type := _, pos := _, after := _, guard := _ }) (v := _) rfl (by kernel_rfl) (by kernel_rfl) (by kernel_rfl) (fun _ _ _ h => h) (yieldsIf_load_mid (by rfl) _ _ rfl u719q.heap.size _ rfl y2.all _ (fun _ h => (h.2).range) HD.out rfl (HS.out y2)) hH ?_
      simp only [Act.put, List.setIfInBounds_toArray, List.set_cons_zero, List.set_cons_succ]
      refine wpAnyH_take (i := 10) (oi := { dst := some 78, op := .move (.tmp 1), type := _, pos := _, after := _, guard := _ }) (v := ?_) rfl (by kernel_rfl) (by kernel_rfl) (by kernel_rfl) (fun _ _ _ h => h) (Or.inl ⟨by rfl, ?_⟩) hH ?_
      rotate_left
      · intro w hSw
        clear hSw
        go_simp
        try with_reducible rfl
      simp only [Act.put, List.setIfInBounds_toArray, List.set_cons_zero, List.set_cons_succ]
      refine wpAnyH_ready (rs := [8]) (by kernel_rfl) (by simp) ?_
      refine AllReadyH.cons (o := { dst := some 76, op := _, type := _, pos := _, after := _, guard := _ }) rfl (fun K hK => ?_) AllReadyH.nil
      go_simp
      refine (PXA _).mono ?_
      rintro e u813q ⟨rfl, hb⟩
      have h814q : Hid (Gd n w u813q) := h805q.out.later hb
      have h815q : Hid (TAt u813q u638q.heap.size t) := h806q.out.later hb
      have h816q : Hid (Bo u813q u648q.heap.size [.int .i64 1, .int .i64 a, .int .i64 v]) := h807q.out.later hb
      have h817q : Hid (Bo u813q (u648q.heap.size + 1) [.int .i64 1, .int .i64 b, .int .i64 x]) := h808q.out.later hb
      have h818q : Hid (TAt u813q u665q.heap.size x2) := h809q.out.later hb
      have h819q : Hid (Bo u813q (u665q.heap.size + 1) [.int .i64 (1), .int .i64 (0)]) := h810q.out.later hb
      have h820q : Hid (TAt u813q u719q.heap.size y2) := h811q.out.later hb
      have h821q : Hid (Bo u813q (u719q.heap.size + 1) [.int .i64 (1), .int .i64 (0)]) := h812q.out.later hb
      clear h805q h806q h807q h808q h809q h810q h811q h812q
      clear hb
      go_wp2_with fail
      refine hK.out _ _ ⟨h818q.out, h820q.out⟩ (fun hH => ?_)
      clear hK K
      try simp only [Act.put, List.setIfInBounds_toArray, List.set_cons_zero, List.set_cons_succ]
      refine wpAnyH_ready (rs := [11]) (by kernel_rfl) (by simp) ?_
      refine AllReadyH.cons (o := { dst := some 79, op := _, type := _, pos := _, after := _, guard := _ }) rfl (fun K hK => ?_) AllReadyH.nil
      go_simp
      refine (PYA _).mono ?_
      rintro e u822q ⟨rfl, hb⟩
      have h823q : Hid (Gd n w u822q) := h814q.out.later hb
      have h824q : Hid (TAt u822q u638q.heap.size t) := h815q.out.later hb
      have h825q : Hid (Bo u822q u648q.heap.size [.int .i64 1, .int .i64 a, .int .i64 v]) := h816q.out.later hb
      have h826q : Hid (Bo u822q (u648q.heap.size + 1) [.int .i64 1, .int .i64 b, .int .i64 x]) := h817q.out.later hb
      have h827q : Hid (TAt u822q u665q.heap.size x2) := h818q.out.later hb
      have h828q : Hid (Bo u822q (u665q.heap.size + 1) [.int .i64 (1), .int .i64 (0)]) := h819q.out.later hb
      have h829q : Hid (TAt u822q u719q.heap.size y2) := h820q.out.later hb
      have h830q : Hid (Bo u822q (u719q.heap.size + 1) [.int .i64 (1), .int .i64 (0)]) := h821q.out.later hb
      clear h814q h815q h816q h817q h818q h819q h820q h821q
      clear hb
      go_wp2_with fail
      refine hK.out _ _ ⟨h827q.out, h829q.out⟩ (fun hH => ?_)
      clear hK K
      try simp only [Act.put, List.setIfInBounds_toArray, List.set_cons_zero, List.set_cons_succ]
      refine wpAnyH_take (i := 12) (oi := { dst := some 80, op := .binOp .eql _ (.tmp 76) (.tmp 79) _, type := _, pos := _, after := _, guard := _ }) (v := ?_) rfl (by kernel_rfl) (by kernel_rfl) (by kernel_rfl) (fun _ _ _ h => h) (Or.inl ⟨by rfl, ?_⟩) hH ?_
      rotate_left
      · intro w hSw
        clear hSw
        go_simp
        try with_reducible rfl
      simp only [Act.put, List.setIfInBounds_toArray, List.set_cons_zero, List.set_cons_succ]
      refine wpAnyH_take (i := 13) (oi := { dst := some 81, op := .pick (.tmp 73) (.tmp 80) (.const (.bool false)), type := _, pos := _, after := _, guard := _ }) (v := ?_) rfl (by kernel_rfl) (by kernel_rfl) (by kernel_rfl) (fun _ _ _ h => h) (Or.inl ⟨by rfl, ?_⟩) hH ?_
      rotate_left
      · intro w hSw
        clear hSw
        go_simp
        try with_reducible rfl
      simp only [Act.put, List.setIfInBounds_toArray, List.set_cons_zero, List.set_cons_succ]
      refine wpAnyH_take (i := 14) (oi := { dst := some 82, op := .move (.tmp 81), type := _, pos := _, after := _, guard := _ }) (v := ?_) rfl (by kernel_rfl) (by kernel_rfl) (by kernel_rfl) (fun _ _ _ h => h) (Or.inl ⟨by rfl, ?_⟩) hH ?_
      rotate_left
      · intro w hSw
        clear hSw
        go_simp
        try with_reducible rfl
      simp only [Act.put, List.setIfInBounds_toArray, List.set_cons_zero, List.set_cons_succ]
      refine wpAnyH_take (i := 15) (oi := { dst := some 83, op := .load _ (.tmp 16), type := _, pos := _, after := _, guard := _ }) (v := _) rfl (by kernel_rfl) (by kernel_rfl) (by kernel_rfl) (fun _ _ _ h => h) (yieldsIf_load_mid (by rfl) _ _ rfl u665q.heap.size _ rfl x2.all _ (fun _ h => (h.1).range) HD.out rfl (HS.out x2)) hH ?_
      simp only [Act.put, List.setIfInBounds_toArray, List.set_cons_zero, List.set_cons_succ]
      refine wpAnyH_take (i := 16) (oi := { dst := some 84, op := .move (.tmp 2), type := _, pos := _, after := _, guard := _ }) (v := ?_) rfl (by kernel_rfl) (by kernel_rfl) (by kernel_rfl) (fun _ _ _ h => h) (Or.inl ⟨by rfl, ?_⟩) hH ?_
      rotate_left
      · intro w hSw
        clear hSw
        go_simp
        try with_reducible rfl
      simp only [Act.put, List.setIfInBounds_toArray, List.set_cons_zero, List.set_cons_succ]
      refine wpAnyH_take (i := 18) (oi := { dst := some 86, op := .load _ (.tmp 18), type := _, pos := _, after := _, guard := _ }) (v := _) rfl (by kernel_rfl) (by kernel_rfl) (by kernel_rfl) (fun _ _ _ h => h) (yieldsIf_load_mid (by rfl) _ _ rfl u719q.heap.size _ rfl y2.all _ (fun _ h => (h.2).range) HD.out rfl (HS.out y2)) hH ?_
      simp only [Act.put, List.setIfInBounds_toArray, List.set_cons_zero, List.set_cons_succ]
      refine wpAnyH_take (i := 19) (oi := { dst := some 87, op := .move (.tmp 2), type := _, pos := _, after := _, guard := _ }) (v := ?_) rfl (by kernel_rfl) (by kernel_rfl) (by kernel_rfl) (fun _ _ _ h => h) (Or.inl ⟨by rfl, ?_⟩) hH ?_
      rotate_left
      · intro w hSw
        clear hSw
        go_simp
        try with_reducible rfl
      simp only [Act.put, List.setIfInBounds_toArray, List.set_cons_zero, List.set_cons_succ]
      refine wpAnyH_ready (rs := [17]) (by kernel_rfl) (by simp) ?_
      refine AllReadyH.cons (o := { dst := some 85, op := _, type := _, pos := _, after := _, guard := _ }) rfl (fun K hK => ?_) AllReadyH.nil
      go_simp
      refine (PXB _).mono ?_
      rintro e u831q ⟨rfl, hb⟩
      have h832q : Hid (Gd n w u831q) := h823q.out.later hb
      have h833q : Hid (TAt u831q u638q.heap.size t) := h824q.out.later hb
      have h834q : Hid (Bo u831q u648q.heap.size [.int .i64 1, .int .i64 a, .int .i64 v]) := h825q.out.later hb
      have h835q : Hid (Bo u831q (u648q.heap.size + 1) [.int .i64 1, .int .i64 b, .int .i64 x]) := h826q.out.later hb
      have h836q : Hid (TAt u831q u665q.heap.size x2) := h827q.out.later hb
      have h837q : Hid (Bo u831q (u665q.heap.size + 1) [.int .i64 (1), .int .i64 (0)]) := h828q.out.later hb
      have h838q : Hid (TAt u831q u719q.heap.size y2) := h829q.out.later hb
      have h839q : Hid (Bo u831q (u719q.heap.size + 1) [.int .i64 (1), .int .i64 (0)]) := h830q.out.later hb
      clear h823q h824q h825q h826q h827q h828q h829q h830q
      clear hb
      go_wp2_with fail
      refine hK.out _ _ ⟨h836q.out, h838q.out⟩ (fun hH => ?_)
      clear hK K
      try simp only [Act.put, List.setIfInBounds_toArray, List.set_cons_zero, List.set_cons_succ]
      refine wpAnyH_ready (rs := [20]) (by kernel_rfl) (by simp) ?_
      refine AllReadyH.cons (o := { dst := some 88, op := _, type := _, pos := _, after := _, guard := _ }) rfl (fun K hK => ?_) AllReadyH.nil
      go_simp
      refine (PYB _).mono ?_
      rintro e u840q ⟨rfl, hb⟩
      have h841q : Hid (Gd n w u840q) := h832q.out.later hb
      have h842q : Hid (TAt u840q u638q.heap.size t) := h833q.out.later hb
      have h843q : Hid (Bo u840q u648q.heap.size [.int .i64 1, .int .i64 a, .int .i64 v]) := h834q.out.later hb
      have h844q : Hid (Bo u840q (u648q.heap.size + 1) [.int .i64 1, .int .i64 b, .int .i64 x]) := h835q.out.later hb
      have h845q : Hid (TAt u840q u665q.heap.size x2) := h836q.out.later hb
      have h846q : Hid (Bo u840q (u665q.heap.size + 1) [.int .i64 (1), .int .i64 (0)]) := h837q.out.later hb
      have h847q : Hid (TAt u840q u719q.heap.size y2) := h838q.out.later hb
      have h848q : Hid (Bo u840q (u719q.heap.size + 1) [.int .i64 (1), .int .i64 (0)]) := h839q.out.later hb
      clear h832q h833q h834q h835q h836q h837q h838q h839q
      clear hb
      go_wp2_with fail
      refine hK.out _ _ ⟨h845q.out, h847q.out⟩ (fun hH => ?_)
      clear hK K
      try simp only [Act.put, List.setIfInBounds_toArray, List.set_cons_zero, List.set_cons_succ]
      refine wpAnyH_take (i := 21) (oi := { dst := some 89, op := .binOp .eql _ (.tmp 85) (.tmp 88) _, type := _, pos := _, after := _, guard := _ }) (v := ?_) rfl (by kernel_rfl) (by kernel_rfl) (by kernel_rfl) (fun _ _ _ h => h) (Or.inl ⟨by rfl, ?_⟩) hH ?_
      rotate_left
      · intro w hSw
        clear hSw
        go_simp
        try with_reducible rfl
      simp only [Act.put, List.setIfInBounds_toArray, List.set_cons_zero, List.set_cons_succ]
      refine wpAnyH_take (i := 22) (oi := { dst := some 90, op := .pick (.tmp 82) (.tmp 89) (.const (.bool false)), type := _, pos := _, after := _, guard := _ }) (v := ?_) rfl (by kernel_rfl) (by kernel_rfl) (by kernel_rfl) (fun _ _ _ h => h) (Or.inl ⟨by rfl, ?_⟩) hH ?_
      rotate_left
      · intro w hSw
        clear hSw
        go_simp
        try with_reducible rfl
      simp only [Act.put, List.setIfInBounds_toArray, List.set_cons_zero, List.set_cons_succ]
      refine wpAnyH_take (i := 23) (oi := { dst := some 91, op := .move (.tmp 90), type := _, pos := _, after := _, guard := _ }) (v := ?_) rfl (by kernel_rfl) (by kernel_rfl) (by kernel_rfl) (fun _ _ _ h => h) (Or.inl ⟨by rfl, ?_⟩) hH ?_
      rotate_left
      · intro w hSw
        clear hSw
        go_simp
        try with_reducible rfl
      simp only [Act.put, List.setIfInBounds_toArray, List.set_cons_zero, List.set_cons_succ]
      refine wpAnyH_take (i := 24) (oi := { dst := some 92, op := .load _ (.tmp 16), type := _, pos := _, after := _, guard := _ }) (v := _) rfl (by kernel_rfl) (by kernel_rfl) (by kernel_rfl) (fun _ _ _ h => h) (yieldsIf_load_mid (by rfl) _ _ rfl u665q.heap.size _ rfl x2.all _ (fun _ h => (h.1).range) HD.out rfl (HS.out x2)) hH ?_
      simp only [Act.put, List.setIfInBounds_toArray, List.set_cons_zero, List.set_cons_succ]
      refine wpAnyH_take (i := 25) (oi := { dst := some 93, op := .move (.tmp 5), type := _, pos := _, after := _, guard := _ }) (v := ?_) rfl (by kernel_rfl) (by kernel_rfl) (by kernel_rfl) (fun _ _ _ h => h) (Or.inl ⟨by rfl, ?_⟩) hH ?_
      rotate_left
      · intro w hSw
        clear hSw
        go_simp
        try with_reducible rfl
      simp only [Act.put, List.setIfInBounds_toArray, List.set_cons_zero, List.set_cons_succ]
      refine wpAnyH_take (i := 28) (oi := { dst := some 96, op := .load _ (.tmp 18), type := _, pos := _, after := _, guard := _ }) (v := _) rfl (by kernel_rfl) (by kernel_rfl) (by kernel_rfl) (fun _ _ _ h => h) (yieldsIf_load_mid (by rfl) _ _ rfl u719q.heap.size _ rfl y2.all _ (fun _ h => (h.2).range) HD.out rfl (HS.out y2)) hH ?_
      simp only [Act.put, List.setIfInBounds_toArray, List.set_cons_zero, List.set_cons_succ]
      refine wpAnyH_take (i := 29) (oi := { dst := some 97, op := .move (.tmp 5), type := _, pos := _, after := _, guard := _ }) (v := ?_) rfl (by kernel_rfl) (by kernel_rfl) (by kernel_rfl) (fun _ _ _ h => h) (Or.inl ⟨by rfl, ?_⟩) hH ?_
      rotate_left
      · intro w hSw
        clear hSw
        go_simp
        try with_reducible rfl
      simp only [Act.put, List.setIfInBounds_toArray, List.set_cons_zero, List.set_cons_succ]
      refine wpAnyH_ready (rs := [26]) (by kernel_rfl) (by simp) ?_
      refine AllReadyH.cons (o := { dst := some 94, op := _, type := _, pos := _, after := _, guard := _ }) rfl (fun K hK => ?_) AllReadyH.nil
      go_simp
      refine (Pr5.out _).mono ?_
      rintro e u849q ⟨rfl, hw⟩
      rw [hw]; clear hw u849q
      go_wp2_with fail
      refine hK.out _ _ ⟨h845q.out, h847q.out⟩ (fun hH => ?_)
      clear hK K
      try simp only [Act.put, List.setIfInBounds_toArray, List.set_cons_zero, List.set_cons_succ]
      refine wpAnyH_ready (rs := [27]) (by kernel_rfl) (by simp) ?_
      refine AllReadyH.cons (o := { dst := some 95, op := _, type := _, pos := _, after := _, guard := _ }) rfl (fun K hK => ?_) AllReadyH.nil
      go_simp
      refine (PXQ _).mono ?_
      rintro e u850q ⟨rfl, hb⟩
      have h851q : Hid (Gd n w u850q) := h841q.out.later hb
      have h852q : Hid (TAt u850q u638q.heap.size t) := h842q.out.later hb
      have h853q : Hid (Bo u850q u648q.heap.size [.int .i64 1, .int .i64 a, .int .i64 v]) := h843q.out.later hb
      have h854q : Hid (Bo u850q (u648q.heap.size + 1) [.int .i64 1, .int .i64 b, .int .i64 x]) := h844q.out.later hb
      have h855q : Hid (TAt u850q u665q.heap.size x2) := h845q.out.later hb
      have h856q : Hid (Bo u850q (u665q.heap.size + 1) [.int .i64 (1), .int .i64 (0)]) := h846q.out.later hb
      have h857q : Hid (TAt u850q u719q.heap.size y2) := h847q.out.later hb
      have h858q : Hid (Bo u850q (u719q.heap.size + 1) [.int .i64 (1), .int .i64 (0)]) := h848q.out.later hb
      clear h841q h842q h843q h844q h845q h846q h847q h848q
      clear hb
      go_wp2_with fail
      refine hK.out _ _ ⟨h855q.out, h857q.out⟩ (fun hH => ?_)
      clear hK K
      try simp only [Act.put, List.setIfInBounds_toArray, List.set_cons_zero, List.set_cons_succ]
      refine wpAnyH_ready (rs := [30]) (by kernel_rfl) (by simp) ?_
      refine AllReadyH.cons (o := { dst := some 98, op := _, type := _, pos := _, after := _, guard := _ }) rfl (fun K hK => ?_) AllReadyH.nil
      go_simp
      refine (Pr5.out _).mono ?_
      rintro e u859q ⟨rfl, hw⟩
      rw [hw]; clear hw u859q
      go_wp2_with fail
      refine hK.out _ _ ⟨h855q.out, h857q.out⟩ (fun hH => ?_)
      clear hK K
      try simp only [Act.put, List.setIfInBounds_toArray, List.set_cons_zero, List.set_cons_succ]
      refine wpAnyH_ready (rs := [31]) (by kernel_rfl) (by simp) ?_
      refine AllReadyH.cons (o := { dst := some 99, op := _, type := _, pos := _, after := _, guard := _ }) rfl (fun K hK => ?_) AllReadyH.nil
      go_simp
      refine (PYQ _).mono ?_
      rintro e u860q ⟨rfl, hb⟩
      have h861q : Hid (Gd n w u860q) := h851q.out.later hb
      have h862q : Hid (TAt u860q u638q.heap.size t) := h852q.out.later hb
      have h863q : Hid (Bo u860q u648q.heap.size [.int .i64 1, .int .i64 a, .int .i64 v]) := h853q.out.later hb
      have h864q : Hid (Bo u860q (u648q.heap.size + 1) [.int .i64 1, .int .i64 b, .int .i64 x]) := h854q.out.later hb
      have h865q : Hid (TAt u860q u665q.heap.size x2) := h855q.out.later hb
      have h866q : Hid (Bo u860q (u665q.heap.size + 1) [.int .i64 (1), .int .i64 (0)]) := h856q.out.later hb
      have h867q : Hid (TAt u860q u719q.heap.size y2) := h857q.out.later hb
      have h868q : Hid (Bo u860q (u719q.heap.size + 1) [.int .i64 (1), .int .i64 (0)]) := h858q.out.later hb
      clear h851q h852q h853q h854q h855q h856q h857q h858q
      clear hb
      go_wp2_with fail
      refine hK.out _ _ ⟨h865q.out, h867q.out⟩ (fun hH => ?_)
      clear hK K
      try simp only [Act.put, List.setIfInBounds_toArray, List.set_cons_zero, List.set_cons_succ]
      refine wpAnyH_take (i := 32) (oi := { dst := some 100, op := .binOp .eql _ (.tmp 95) (.tmp 99) _, type := _, pos := _, after := _, guard := _ }) (v := ?_) rfl (by kernel_rfl) (by kernel_rfl) (by kernel_rfl) (fun _ _ _ h => h) (Or.inl ⟨by rfl, ?_⟩) hH ?_
      rotate_left
      · intro w hSw
        clear hSw
        go_simp
        try with_reducible rfl
      simp only [Act.put, List.setIfInBounds_toArray, List.set_cons_zero, List.set_cons_succ]
      refine wpAnyH_take (i := 33) (oi := { dst := some 101, op := .pick (.tmp 91) (.tmp 100) (.const (.bool false)), type := _, pos := _, after := _, guard := _ }) (v := ?_) rfl (by kernel_rfl) (by kernel_rfl) (by kernel_rfl) (fun _ _ _ h => h) (Or.inl ⟨by rfl, ?_⟩) hH ?_
      rotate_left
      · intro w hSw
        clear hSw
        go_simp
        try with_reducible rfl
      simp only [Act.put, List.setIfInBounds_toArray, List.set_cons_zero, List.set_cons_succ]
      refine wpAnyH_take (i := 34) (oi := { dst := some 12, op := .assign (.tmp 101), type := _, pos := _, after := _, guard := _ }) (v := ?_) rfl (by kernel_rfl) (by kernel_rfl) (by kernel_rfl) (fun _ _ _ h => h) (Or.inl ⟨by rfl, ?_⟩) hH ?_
      rotate_left
      · intro w hSw
        clear hSw
        go_simp
        try with_reducible rfl
      simp only [Act.put, List.setIfInBounds_toArray, List.set_cons_zero, List.set_cons_succ]
      refine wpAnyH_done (by kernel_rfl) ?_ _
      go_wp2
      go_ret
      exact ⟨rfl, h861q.out.2⟩


set_option maxRecDepth 100000 in
theorem lifted (os : Os) (started : os.Started) (H : Type) (enc : TypeId × Value → H) :
    ReturnsInHanded {} Try.checked os 8 .any (Rows.tableOrderSpec.pre6 enc Try.prog Try.f8 Rows.tableOrderRow.domain false) (Rows.tableOrderSpec.post enc Try.prog Try.f8 false true false false) := by
  refine returnsInHanded_of_change (C := Try.checked) own started (by kernel_rfl) Try.func8
    (ChangeSpec.witness6 (enc := enc) (C := Try.checked) false ⟨#[], #[.slice none 0 0, .int .i64 0, .int .i64 0, .int .i64 0, .int .i64 0, .int .i64 0], []⟩ 8 (by kernel_rfl) (by kernel_rfl) (by kernel_rfl) (by kernel_rfl)) ?_
  intro W base args ds gs before hval0 hW hcnd _
  have hval : ∀ (j : Nat) t v, Try.f8.params[j]? = some t → args[j]? = some v → Value.okWide Try.prog W .any base t v := hval0
  have hW' := hW
  obtain ⟨p, q, hA0, hV, rfl, hfz, hnd⟩ := hW
  have hA : DataW.TrodAll enc Try.prog W 0 (fun _ => true) true Try.f8.params.toList args.toList ds p := hA0
  rw [Try.params8] at hA hval
  obtain ⟨v0, vs0, d0, ds0, p0, q0, hargs, rfl, rfl, h0, r0⟩ := trodAll_cons hA
  obtain ⟨v1, vs1, d1, ds1, p1, q1, rfl, rfl, rfl, h1, r1⟩ := trodAll_cons r0
  obtain ⟨v2, vs2, d2, ds2, p2, q2, rfl, rfl, rfl, h2, r2⟩ := trodAll_cons r1
  obtain ⟨v3, vs3, d3, ds3, p3, q3, rfl, rfl, rfl, h3, r3⟩ := trodAll_cons r2
  obtain ⟨v4, vs4, d4, ds4, p4, q4, rfl, rfl, rfl, h4, r4⟩ := trodAll_cons r3
  obtain ⟨v5, vs5, d5, ds5, p5, q5, rfl, rfl, rfl, h5, r5⟩ := trodAll_cons r4
  obtain ⟨rfl, rfl, rfl⟩ := trodAll_nil r5
  obtain rfl : args = #[v0, v1, v2, v3, v4, v5] := by cases args; simp_all
  obtain ⟨rfl, rfl⟩ := trodVars_none hV
  obtain ⟨n0, D0⟩ := ops_of_trod (hval 0 43 v0 rfl rfl) h0
  obtain ⟨a1, rfl, rfl, rfl, w1⟩ := open_int Try.underlying3 (hval 1 3 v1 rfl rfl) h1
  obtain ⟨a2, rfl, rfl, rfl, w2⟩ := open_int Try.underlying3 (hval 2 3 v2 rfl rfl) h2
  obtain ⟨a3, rfl, rfl, rfl, w3⟩ := open_int Try.underlying3 (hval 3 3 v3 rfl rfl) h3
  obtain ⟨a4, rfl, rfl, rfl, w4⟩ := open_int Try.underlying3 (hval 4 3 v4 rfl rfl) h4
  obtain ⟨a5, rfl, rfl, rfl, w5⟩ := open_int Try.underlying3 (hval 5 3 v5 rfl rfl) h5
  have hlt := hW'.lt
  clear hA0 hval0
  refine (walk v0 n0 a1 a2 a3 a4 a5 w1 w2 w3 w4 w5 W  D0).mono fun e W' ⟨he, hg⟩ => ?_
  subst he
  exact ⟨_, rfl, post_below (pv := []) hW' (fun _ _ _ => (trodAll_cons_mk (shut_bool Try.underlying4 _) trodAll_mk0)) (fun sp hsp => (trodAll_cons_mk (ops_stay h0 hg (fun x hx => hlt x (by simp [hx])) (fun x hx => hsp x (by simp [hx]))) (trodAll_cons_mk (shut_int Try.underlying3 w1) (trodAll_cons_mk (shut_int Try.underlying3 w2) (trodAll_cons_mk (shut_int Try.underlying3 w3) (trodAll_cons_mk (shut_int Try.underlying3 w4) (trodAll_cons_mk (shut_int Try.underlying3 w5) trodAll_mk0))))))) (fun _ _ => rfl) (by simp) (hg.frame _)⟩

theorem over : Rows.tableOrderRow.holds Try.pinned (OpenSpec.ofChange Rows.tableOrderSpec) :=
  OpenClaim.holds_of_wide 8 Try.f8 rfl rfl rfl rfl rfl rfl rfl ⟨rfl, rfl, rfl, rfl, rfl⟩ rfl rfl rfl rfl rfl (by kernel_rfl) Try.func8 (by kernel_rfl)
    (of_decide_eq_true (by kernel_rfl)) (by unfold Func.isWrapper; first | (rw [if_pos (by decide +kernel)]; kernel_rfl) | (rw [if_neg (by decide +kernel)]; exact ⟨rfl, rfl⟩))
    (fun os started H enc _ => lifted os started H enc)

theorem proved : Rows.TableOrderSaid :=
  over
#print axioms proved
end Go.Proofs.Ytojnkfdodjcnfaa.tableOrder
