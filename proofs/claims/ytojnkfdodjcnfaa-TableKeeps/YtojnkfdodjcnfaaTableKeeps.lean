/- TableKeeps is proved: for every list of operations, keys and value the call returns true (what is put in is there, and all other keys have what they had; where there is no room it is refused, and nothing changes). -/
import Derived.Test.YtojnkfdodjcnfaaRows
import Derived.Test.YtojnkfdodjcnfaaKf
import Derived.Test.YtojnkfdodjcnfaaTl
import Derived.Test.YtojnkfdodjcnfaaArgOps
import Derived.Deep.DeepCutAuto
import Derived.Deep.RegionHeld3

namespace Go.Proofs.Ytojnkfdodjcnfaa.tableKeeps
open Go.ChangeShapes Go.WideShapes Go.ChangeAt Go.RowKit
set_option linter.unusedVariables false

theorem own : ownKnob Try.prog.godebug = none := by kernel_rfl

set_option maxHeartbeats 4000000 in
theorem walk (v0 : Value) (n0 : Nat) (a1 a2 a3 : Int) (w1 : (Lit.int .i64 a1).wf = true) (w2 : (Lit.int .i64 a2).wf = true) (w3 : (Lit.int .i64 a3).wf = true) (w : World) (D0 : Ops w v0 n0) :
    Calls Try.prog 6 #[v0, .int .i64 a1, .int .i64 a2, .int .i64 a3] w fun e w' => e = .returned (.bool true) ∧ Below w.heap.size w w' := by
  obtain ⟨na, ea, hd⟩ := slots_array
  have HD : Hid _ := hd
  clear hd
  have HS : Hid (∀ t : Tb, (Try.prog.info? 29).map (·.size) = some t.all.length) := slots_size
  have HZ : Hid (∀ t : Tb, (Try.prog.info? 29).map (·.size) = some t.all.toArray.size) := slots_size2
  have HT : Hid ((Try.prog.info? 27).map (·.size) = some 2) := slot_size
  have HA : Hid ((Try.prog.info? 37).map (·.size) = some 2) := answer_size
  obtain ⟨fs, ha⟩ := answer_struct
  have HDA : Hid _ := ha
  clear ha
  have EQ := slots_equal
  have FD0 := field0
  have FD1 := field1
  have g0 : Hid (Gd w.heap.size w w) := Gd.refl w
  have HD0 : Hid (Ops w v0 n0) := D0
  clear D0
  clear w1 w2 w3
  obtain ⟨r1, hr1, pr1⟩ := pick_12 a1
  have Pr1 : Hid _ := pr1
  clear pr1
  obtain ⟨r2, hr2, pr2⟩ := pick_12 a2
  have Pr2 : Hid _ := pr2
  clear pr2
  obtain ⟨r3, hr3, pr3⟩ := pick_4294967296 a3
  have Pr3 : Hid _ := pr3
  clear pr3
  obtain ⟨k, ek⟩ : ∃ k : Int, 1 + (r1 : Int) = k := ⟨_, rfl⟩
  have hk1 : 1 ≤ k := by omega
  have hk2 : k ≤ 12 := by omega
  obtain ⟨q, eq⟩ : ∃ q : Int, 1 + (r2 : Int) = q := ⟨_, rfl⟩
  have hq1 : 1 ≤ q := by omega
  have hq2 : q ≤ 12 := by omega
  obtain ⟨v, ev⟩ : ∃ v : Int, (r3 : Int) = v := ⟨_, rfl⟩
  have hv0 : 0 ≤ v := by omega
  have hv1 : v ≤ 4294967295 := by omega
  go_enter Try.func6, Try.ntmps6
  go_wp2_with fail
  generalize w.heap.size = n at g0 ⊢
  refine (tabled_is _).mono ?_
  rintro e u89q ⟨rfl, hb⟩
  have h90q : Hid (Gd n w u89q) := g0.out.later hb
  clear g0
  clear hb
  go_wp2_with fail
  refine (filled_is (HD0.out.later h90q.out.2)).mono ?_
  rintro e u91q ⟨t, hR, rfl, hb⟩
  have h92q : Hid (Gd n w u91q) := h90q.out.later hb
  clear h90q
  clear hb
  have R : Hid (RT t) := hR
  clear hR HD0
  have l93q : n ≤ u91q.heap.size := h92q.out.le
  have h94q : Hid (Gd n w (u91q.alloc (.cells #[.int .i64 0, .int .i64 0, .int .i64 0, .int .i64 0, .int .i64 0, .int .i64 0, .int .i64 0, .int .i64 0, .int .i64 0, .int .i64 0, .int .i64 0, .int .i64 0, .int .i64 0, .int .i64 0, .int .i64 0, .int .i64 0] 29))) := h92q.out.new (.cells #[.int .i64 0, .int .i64 0, .int .i64 0, .int .i64 0, .int .i64 0, .int .i64 0, .int .i64 0, .int .i64 0, .int .i64 0, .int .i64 0, .int .i64 0, .int .i64 0, .int .i64 0, .int .i64 0, .int .i64 0, .int .i64 0] 29)
  clear h92q
  have h95q : Hid (TAt (u91q.alloc (.cells #[.int .i64 0, .int .i64 0, .int .i64 0, .int .i64 0, .int .i64 0, .int .i64 0, .int .i64 0, .int .i64 0, .int .i64 0, .int .i64 0, .int .i64 0, .int .i64 0, .int .i64 0, .int .i64 0, .int .i64 0, .int .i64 0] 29)) u91q.heap.size Tb.zero) := TAt.bornZero u91q 29 (by simp)
  obtain ⟨⟨xc, xy⟩, hLQ⟩ : ∃ r, look t q = r := ⟨_, rfl⟩
  have PQ := peek_is t q (by omega) (by omega)
  rw [hLQ] at PQ
  dsimp only at PQ
  have LQ : Hid (look t q = (xc, xy)) := hLQ
  clear hLQ
  go_wp2_with (first
    | (refine wpList_store_mid rfl 29 _ _ rfl u91q.heap.size _ t.all.toArray rfl rfl (h95q.out.thereOf t) (HZ.out t) (t.all_all) ?_
       have h96q : Hid (Gd n w ((u91q.alloc (.cells #[.int .i64 0, .int .i64 0, .int .i64 0, .int .i64 0, .int .i64 0, .int .i64 0, .int .i64 0, .int .i64 0, .int .i64 0, .int .i64 0, .int .i64 0, .int .i64 0, .int .i64 0, .int .i64 0, .int .i64 0, .int .i64 0] 29)).setCells u91q.heap.size 0 t.all)) := h94q.out.asideAll (by omega) t
       have h97q : Hid (TAt ((u91q.alloc (.cells #[.int .i64 0, .int .i64 0, .int .i64 0, .int .i64 0, .int .i64 0, .int .i64 0, .int .i64 0, .int .i64 0, .int .i64 0, .int .i64 0, .int .i64 0, .int .i64 0, .int .i64 0, .int .i64 0, .int .i64 0, .int .i64 0] 29)).setCells u91q.heap.size 0 t.all) u91q.heap.size t) := h95q.out.setAll t
       clear h94q h95q
       generalize ((u91q.alloc (.cells #[.int .i64 0, .int .i64 0, .int .i64 0, .int .i64 0, .int .i64 0, .int .i64 0, .int .i64 0, .int .i64 0, .int .i64 0, .int .i64 0, .int .i64 0, .int .i64 0, .int .i64 0, .int .i64 0, .int .i64 0, .int .i64 0] 29)).setCells u91q.heap.size 0 t.all) = u98q at h96q h97q  ⊢))
  refine (Pr1.out _).mono ?_
  rintro e u99q ⟨rfl, hw⟩
  rw [hw]; clear hw u99q
  go_wp2_with fail
  refine (Pr2.out _).mono ?_
  rintro e u100q ⟨rfl, hw⟩
  rw [hw]; clear hw u100q
  go_wp2_with fail
  refine (Pr3.out _).mono ?_
  rintro e u101q ⟨rfl, hw⟩
  rw [hw]; clear hw u101q
  go_wp2_with (first
    | (refine wpList_load_mid rfl 29 _ rfl u91q.heap.size _ rfl t.all _ h97q.out.range HD.out rfl (HS.out t) ?_))
  clear ek eq ev hr1 hr2 hr3 Pr1 Pr2 Pr3
  refine (PQ _).mono ?_
  rintro e u102q ⟨rfl, hb⟩
  have h103q : Hid (Gd n w u102q) := h96q.out.later hb
  have h104q : Hid (TAt u102q u91q.heap.size t) := h97q.out.later hb
  clear h96q h97q
  clear hb
  clear PQ
  have l105q : n ≤ u102q.heap.size := h103q.out.le
  have l106q : u91q.heap.size < u102q.heap.size := h104q.out.lt
  have h107q : Hid (Gd n w (u102q.alloc (.cells #[.int .i64 xc, .int .i64 xy] 37))) := h103q.out.new (.cells #[.int .i64 xc, .int .i64 xy] 37)
  have h108q : Hid (TAt (u102q.alloc (.cells #[.int .i64 xc, .int .i64 xy] 37)) u91q.heap.size t) := h104q.out.new (.cells #[.int .i64 xc, .int .i64 xy] 37)
  clear h103q h104q
  have h109q : Hid (Bo (u102q.alloc (.cells #[.int .i64 xc, .int .i64 xy] 37)) u102q.heap.size [.int .i64 xc, .int .i64 xy]) := Bo.born u102q [.int .i64 xc, .int .i64 xy] 37 (by simp)
  rcases puts R.out (k := k) (x := v) hk1 (by omega) hv0 hv1 with ⟨hu, hl6, hlk⟩ | ⟨u, hu, hF⟩
  · have DO := tDo_eq t 1 k v
    rw [show tdo t 1 k v = (t, 3, 0) from hu] at DO
    unfold Told at DO
    dsimp only at DO
    have L := Len_is t
    rw [hl6] at L
    have PK := peek_is t k (by omega) (by omega)
    rw [show look t k = (4, 0) from hlk] at PK
    dsimp only at PK
    clear hu hl6 hlk
    go_wp2_with (first
      | (refine wpList_load_mid rfl 29 _ rfl u91q.heap.size _ rfl t.all _ h108q.out.range HD.out rfl (HS.out t) ?_))
    refine (DO _).mono ?_
    rintro e u110q ⟨rfl, hb⟩
    have h111q : Hid (Gd n w u110q) := h107q.out.later hb
    have h112q : Hid (TAt u110q u91q.heap.size t) := h108q.out.later hb
    have h113q : Hid (Bo u110q u102q.heap.size [.int .i64 xc, .int .i64 xy]) := h109q.out.later hb
    clear h107q h108q h109q
    clear hb
    clear DO
    have l114q : n ≤ u110q.heap.size := h111q.out.le
    have l115q : u91q.heap.size < u110q.heap.size := h112q.out.lt
    have l116q : u102q.heap.size < u110q.heap.size := h113q.out.lt
    have h117q : Hid (Gd n w (u110q.alloc (.cells #[.int .i64 0, .int .i64 0, .int .i64 0, .int .i64 0, .int .i64 0, .int .i64 0, .int .i64 0, .int .i64 0, .int .i64 0, .int .i64 0, .int .i64 0, .int .i64 0, .int .i64 0, .int .i64 0, .int .i64 0, .int .i64 0] 29))) := h111q.out.new (.cells #[.int .i64 0, .int .i64 0, .int .i64 0, .int .i64 0, .int .i64 0, .int .i64 0, .int .i64 0, .int .i64 0, .int .i64 0, .int .i64 0, .int .i64 0, .int .i64 0, .int .i64 0, .int .i64 0, .int .i64 0, .int .i64 0] 29)
    have h118q : Hid (TAt (u110q.alloc (.cells #[.int .i64 0, .int .i64 0, .int .i64 0, .int .i64 0, .int .i64 0, .int .i64 0, .int .i64 0, .int .i64 0, .int .i64 0, .int .i64 0, .int .i64 0, .int .i64 0, .int .i64 0, .int .i64 0, .int .i64 0, .int .i64 0] 29)) u91q.heap.size t) := h112q.out.new (.cells #[.int .i64 0, .int .i64 0, .int .i64 0, .int .i64 0, .int .i64 0, .int .i64 0, .int .i64 0, .int .i64 0, .int .i64 0, .int .i64 0, .int .i64 0, .int .i64 0, .int .i64 0, .int .i64 0, .int .i64 0, .int .i64 0] 29)
    have h119q : Hid (Bo (u110q.alloc (.cells #[.int .i64 0, .int .i64 0, .int .i64 0, .int .i64 0, .int .i64 0, .int .i64 0, .int .i64 0, .int .i64 0, .int .i64 0, .int .i64 0, .int .i64 0, .int .i64 0, .int .i64 0, .int .i64 0, .int .i64 0, .int .i64 0] 29)) u102q.heap.size [.int .i64 xc, .int .i64 xy]) := h113q.out.new (.cells #[.int .i64 0, .int .i64 0, .int .i64 0, .int .i64 0, .int .i64 0, .int .i64 0, .int .i64 0, .int .i64 0, .int .i64 0, .int .i64 0, .int .i64 0, .int .i64 0, .int .i64 0, .int .i64 0, .int .i64 0, .int .i64 0] 29)
    clear h111q h112q h113q
    have h120q : Hid (TAt (u110q.alloc (.cells #[.int .i64 0, .int .i64 0, .int .i64 0, .int .i64 0, .int .i64 0, .int .i64 0, .int .i64 0, .int .i64 0, .int .i64 0, .int .i64 0, .int .i64 0, .int .i64 0, .int .i64 0, .int .i64 0, .int .i64 0, .int .i64 0] 29)) u110q.heap.size Tb.zero) := TAt.bornZero u110q 29 (by simp)
    have h121q : Hid (Gd n w ((u110q.alloc (.cells #[.int .i64 0, .int .i64 0, .int .i64 0, .int .i64 0, .int .i64 0, .int .i64 0, .int .i64 0, .int .i64 0, .int .i64 0, .int .i64 0, .int .i64 0, .int .i64 0, .int .i64 0, .int .i64 0, .int .i64 0, .int .i64 0] 29)).alloc (.cells #[.int .i64 0, .int .i64 0] 37))) := h117q.out.new (.cells #[.int .i64 0, .int .i64 0] 37)
    have h122q : Hid (TAt ((u110q.alloc (.cells #[.int .i64 0, .int .i64 0, .int .i64 0, .int .i64 0, .int .i64 0, .int .i64 0, .int .i64 0, .int .i64 0, .int .i64 0, .int .i64 0, .int .i64 0, .int .i64 0, .int .i64 0, .int .i64 0, .int .i64 0, .int .i64 0] 29)).alloc (.cells #[.int .i64 0, .int .i64 0] 37)) u91q.heap.size t) := h118q.out.new (.cells #[.int .i64 0, .int .i64 0] 37)
    have h123q : Hid (Bo ((u110q.alloc (.cells #[.int .i64 0, .int .i64 0, .int .i64 0, .int .i64 0, .int .i64 0, .int .i64 0, .int .i64 0, .int .i64 0, .int .i64 0, .int .i64 0, .int .i64 0, .int .i64 0, .int .i64 0, .int .i64 0, .int .i64 0, .int .i64 0] 29)).alloc (.cells #[.int .i64 0, .int .i64 0] 37)) u102q.heap.size [.int .i64 xc, .int .i64 xy]) := h119q.out.new (.cells #[.int .i64 0, .int .i64 0] 37)
    have h124q : Hid (TAt ((u110q.alloc (.cells #[.int .i64 0, .int .i64 0, .int .i64 0, .int .i64 0, .int .i64 0, .int .i64 0, .int .i64 0, .int .i64 0, .int .i64 0, .int .i64 0, .int .i64 0, .int .i64 0, .int .i64 0, .int .i64 0, .int .i64 0, .int .i64 0] 29)).alloc (.cells #[.int .i64 0, .int .i64 0] 37)) u110q.heap.size Tb.zero) := h120q.out.new (.cells #[.int .i64 0, .int .i64 0] 37)
    clear h117q h118q h119q h120q
    have h125q : Hid (Bo ((u110q.alloc (.cells #[.int .i64 0, .int .i64 0, .int .i64 0, .int .i64 0, .int .i64 0, .int .i64 0, .int .i64 0, .int .i64 0, .int .i64 0, .int .i64 0, .int .i64 0, .int .i64 0, .int .i64 0, .int .i64 0, .int .i64 0, .int .i64 0] 29)).alloc (.cells #[.int .i64 0, .int .i64 0] 37)) (u110q.heap.size + 1) [.int .i64 0, .int .i64 0]) := Bo.born (u110q.alloc (.cells #[.int .i64 0, .int .i64 0, .int .i64 0, .int .i64 0, .int .i64 0, .int .i64 0, .int .i64 0, .int .i64 0, .int .i64 0, .int .i64 0, .int .i64 0, .int .i64 0, .int .i64 0, .int .i64 0, .int .i64 0, .int .i64 0] 29)) [.int .i64 0, .int .i64 0] 37 (by simp)
    go_wp2_with (first
      | (refine wpList_store_mid rfl 29 _ _ rfl u110q.heap.size _ t.all.toArray rfl rfl (h124q.out.thereOf t) (HZ.out t) (t.all_all) ?_
         have h126q : Hid (Gd n w (((u110q.alloc (.cells #[.int .i64 0, .int .i64 0, .int .i64 0, .int .i64 0, .int .i64 0, .int .i64 0, .int .i64 0, .int .i64 0, .int .i64 0, .int .i64 0, .int .i64 0, .int .i64 0, .int .i64 0, .int .i64 0, .int .i64 0, .int .i64 0] 29)).alloc (.cells #[.int .i64 0, .int .i64 0] 37)).setCells u110q.heap.size 0 t.all)) := h121q.out.asideAll (by omega) t
         have h127q : Hid (TAt (((u110q.alloc (.cells #[.int .i64 0, .int .i64 0, .int .i64 0, .int .i64 0, .int .i64 0, .int .i64 0, .int .i64 0, .int .i64 0, .int .i64 0, .int .i64 0, .int .i64 0, .int .i64 0, .int .i64 0, .int .i64 0, .int .i64 0, .int .i64 0] 29)).alloc (.cells #[.int .i64 0, .int .i64 0] 37)).setCells u110q.heap.size 0 t.all) u91q.heap.size t) := h122q.out.asideAll (by omega) t
         have h128q : Hid (Bo (((u110q.alloc (.cells #[.int .i64 0, .int .i64 0, .int .i64 0, .int .i64 0, .int .i64 0, .int .i64 0, .int .i64 0, .int .i64 0, .int .i64 0, .int .i64 0, .int .i64 0, .int .i64 0, .int .i64 0, .int .i64 0, .int .i64 0, .int .i64 0] 29)).alloc (.cells #[.int .i64 0, .int .i64 0] 37)).setCells u110q.heap.size 0 t.all) u102q.heap.size [.int .i64 xc, .int .i64 xy]) := h123q.out.asideAll (by omega) t
         have h129q : Hid (TAt (((u110q.alloc (.cells #[.int .i64 0, .int .i64 0, .int .i64 0, .int .i64 0, .int .i64 0, .int .i64 0, .int .i64 0, .int .i64 0, .int .i64 0, .int .i64 0, .int .i64 0, .int .i64 0, .int .i64 0, .int .i64 0, .int .i64 0, .int .i64 0] 29)).alloc (.cells #[.int .i64 0, .int .i64 0] 37)).setCells u110q.heap.size 0 t.all) u110q.heap.size t) := h124q.out.setAll t
         have h130q : Hid (Bo (((u110q.alloc (.cells #[.int .i64 0, .int .i64 0, .int .i64 0, .int .i64 0, .int .i64 0, .int .i64 0, .int .i64 0, .int .i64 0, .int .i64 0, .int .i64 0, .int .i64 0, .int .i64 0, .int .i64 0, .int .i64 0, .int .i64 0, .int .i64 0] 29)).alloc (.cells #[.int .i64 0, .int .i64 0] 37)).setCells u110q.heap.size 0 t.all) (u110q.heap.size + 1) [.int .i64 0, .int .i64 0]) := h125q.out.asideAll (by omega) t
         clear h121q h122q h123q h124q h125q
         generalize (((u110q.alloc (.cells #[.int .i64 0, .int .i64 0, .int .i64 0, .int .i64 0, .int .i64 0, .int .i64 0, .int .i64 0, .int .i64 0, .int .i64 0, .int .i64 0, .int .i64 0, .int .i64 0, .int .i64 0, .int .i64 0, .int .i64 0, .int .i64 0] 29)).alloc (.cells #[.int .i64 0, .int .i64 0] 37)).setCells u110q.heap.size 0 t.all) = u131q at h126q h127q h128q h129q h130q  ⊢)
      | (refine wpList_store_mid rfl 37 _ _ rfl (u110q.heap.size + 1) _ #[.int .i64 (3), .int .i64 (0)] rfl rfl h130q.out.there2 HA.out (two_one _ _) ?_
         have h132q : Hid (Gd n w (u131q.setCells (u110q.heap.size + 1) 0 [.int .i64 (3), .int .i64 (0)])) := h126q.out.asideL (by omega) 0 [.int .i64 (3), .int .i64 (0)]
         have h133q : Hid (TAt (u131q.setCells (u110q.heap.size + 1) 0 [.int .i64 (3), .int .i64 (0)]) u91q.heap.size t) := h127q.out.asideL (by omega) 0 [.int .i64 (3), .int .i64 (0)]
         have h134q : Hid (Bo (u131q.setCells (u110q.heap.size + 1) 0 [.int .i64 (3), .int .i64 (0)]) u102q.heap.size [.int .i64 xc, .int .i64 xy]) := h128q.out.asideL (by omega) 0 [.int .i64 (3), .int .i64 (0)]
         have h135q : Hid (TAt (u131q.setCells (u110q.heap.size + 1) 0 [.int .i64 (3), .int .i64 (0)]) u110q.heap.size t) := h129q.out.asideL (by omega) 0 [.int .i64 (3), .int .i64 (0)]
         have h136q : Hid (Bo (u131q.setCells (u110q.heap.size + 1) 0 [.int .i64 (3), .int .i64 (0)]) (u110q.heap.size + 1) [.int .i64 (3), .int .i64 (0)]) := h130q.out.set2 (.int .i64 (3)) (.int .i64 (0))
         clear h126q h127q h128q h129q h130q
         generalize (u131q.setCells (u110q.heap.size + 1) 0 [.int .i64 (3), .int .i64 (0)]) = u137q at h132q h133q h134q h135q h136q  ⊢
         have c138q := h136q.out.at 0 rfl)
      | (refine wpList_load_mid rfl 29 _ rfl u91q.heap.size _ rfl t.all _ h133q.out.range HD.out rfl (HS.out t) ?_))
    refine (L _).mono ?_
    rintro e u139q ⟨rfl, hb⟩
    have h140q : Hid (Gd n w u139q) := h132q.out.later hb
    have h141q : Hid (TAt u139q u91q.heap.size t) := h133q.out.later hb
    have h142q : Hid (Bo u139q u102q.heap.size [.int .i64 xc, .int .i64 xy]) := h134q.out.later hb
    have h143q : Hid (TAt u139q u110q.heap.size t) := h135q.out.later hb
    have h144q : Hid (Bo u139q (u110q.heap.size + 1) [.int .i64 (3), .int .i64 (0)]) := h136q.out.later hb
    clear h132q h133q h134q h135q h136q
    clear hb
    clear L
    go_wp2_with (first
      | (refine wpList_load_wanted (by rfl) 29 _ rfl u110q.heap.size _ rfl t.all _ h143q.out.range HD.out rfl (HS.out t) ?_)
      | (refine wpList_load_wanted (by rfl) 29 _ rfl u91q.heap.size _ rfl t.all _ h141q.out.range HD.out rfl (HS.out t) ?_))
    refine (PK _).mono ?_
    rintro e u145q ⟨rfl, hb⟩
    have h146q : Hid (Gd n w u145q) := h140q.out.later hb
    have h147q : Hid (TAt u145q u91q.heap.size t) := h141q.out.later hb
    have h148q : Hid (Bo u145q u102q.heap.size [.int .i64 xc, .int .i64 xy]) := h142q.out.later hb
    have h149q : Hid (TAt u145q u110q.heap.size t) := h143q.out.later hb
    have h150q : Hid (Bo u145q (u110q.heap.size + 1) [.int .i64 (3), .int .i64 (0)]) := h144q.out.later hb
    clear h140q h141q h142q h143q h144q
    clear hb
    go_wp2
    go_ret
    exact ⟨rfl, h146q.out.2⟩
  · have DO := tDo_eq t 1 k v
    rw [show tdo t 1 k v = (u, 1, 0) from hu] at DO
    unfold Told at DO
    dsimp only at DO
    have PK := peek_is u k (by omega) (by omega)
    rw [show look u k = (1, v) from hF.has] at PK
    dsimp only at PK
    have F : Hid _ := hF
    clear hu hF
    go_wp2_with (first
      | (refine wpList_load_mid rfl 29 _ rfl u91q.heap.size _ rfl t.all _ h108q.out.range HD.out rfl (HS.out t) ?_))
    refine (DO _).mono ?_
    rintro e u151q ⟨rfl, hb⟩
    have h152q : Hid (Gd n w u151q) := h107q.out.later hb
    have h153q : Hid (TAt u151q u91q.heap.size t) := h108q.out.later hb
    have h154q : Hid (Bo u151q u102q.heap.size [.int .i64 xc, .int .i64 xy]) := h109q.out.later hb
    clear h107q h108q h109q
    clear hb
    clear DO
    have l155q : n ≤ u151q.heap.size := h152q.out.le
    have l156q : u91q.heap.size < u151q.heap.size := h153q.out.lt
    have l157q : u102q.heap.size < u151q.heap.size := h154q.out.lt
    have h158q : Hid (Gd n w (u151q.alloc (.cells #[.int .i64 0, .int .i64 0, .int .i64 0, .int .i64 0, .int .i64 0, .int .i64 0, .int .i64 0, .int .i64 0, .int .i64 0, .int .i64 0, .int .i64 0, .int .i64 0, .int .i64 0, .int .i64 0, .int .i64 0, .int .i64 0] 29))) := h152q.out.new (.cells #[.int .i64 0, .int .i64 0, .int .i64 0, .int .i64 0, .int .i64 0, .int .i64 0, .int .i64 0, .int .i64 0, .int .i64 0, .int .i64 0, .int .i64 0, .int .i64 0, .int .i64 0, .int .i64 0, .int .i64 0, .int .i64 0] 29)
    have h159q : Hid (TAt (u151q.alloc (.cells #[.int .i64 0, .int .i64 0, .int .i64 0, .int .i64 0, .int .i64 0, .int .i64 0, .int .i64 0, .int .i64 0, .int .i64 0, .int .i64 0, .int .i64 0, .int .i64 0, .int .i64 0, .int .i64 0, .int .i64 0, .int .i64 0] 29)) u91q.heap.size t) := h153q.out.new (.cells #[.int .i64 0, .int .i64 0, .int .i64 0, .int .i64 0, .int .i64 0, .int .i64 0, .int .i64 0, .int .i64 0, .int .i64 0, .int .i64 0, .int .i64 0, .int .i64 0, .int .i64 0, .int .i64 0, .int .i64 0, .int .i64 0] 29)
    have h160q : Hid (Bo (u151q.alloc (.cells #[.int .i64 0, .int .i64 0, .int .i64 0, .int .i64 0, .int .i64 0, .int .i64 0, .int .i64 0, .int .i64 0, .int .i64 0, .int .i64 0, .int .i64 0, .int .i64 0, .int .i64 0, .int .i64 0, .int .i64 0, .int .i64 0] 29)) u102q.heap.size [.int .i64 xc, .int .i64 xy]) := h154q.out.new (.cells #[.int .i64 0, .int .i64 0, .int .i64 0, .int .i64 0, .int .i64 0, .int .i64 0, .int .i64 0, .int .i64 0, .int .i64 0, .int .i64 0, .int .i64 0, .int .i64 0, .int .i64 0, .int .i64 0, .int .i64 0, .int .i64 0] 29)
    clear h152q h153q h154q
    have h161q : Hid (TAt (u151q.alloc (.cells #[.int .i64 0, .int .i64 0, .int .i64 0, .int .i64 0, .int .i64 0, .int .i64 0, .int .i64 0, .int .i64 0, .int .i64 0, .int .i64 0, .int .i64 0, .int .i64 0, .int .i64 0, .int .i64 0, .int .i64 0, .int .i64 0] 29)) u151q.heap.size Tb.zero) := TAt.bornZero u151q 29 (by simp)
    have h162q : Hid (Gd n w ((u151q.alloc (.cells #[.int .i64 0, .int .i64 0, .int .i64 0, .int .i64 0, .int .i64 0, .int .i64 0, .int .i64 0, .int .i64 0, .int .i64 0, .int .i64 0, .int .i64 0, .int .i64 0, .int .i64 0, .int .i64 0, .int .i64 0, .int .i64 0] 29)).alloc (.cells #[.int .i64 0, .int .i64 0] 37))) := h158q.out.new (.cells #[.int .i64 0, .int .i64 0] 37)
    have h163q : Hid (TAt ((u151q.alloc (.cells #[.int .i64 0, .int .i64 0, .int .i64 0, .int .i64 0, .int .i64 0, .int .i64 0, .int .i64 0, .int .i64 0, .int .i64 0, .int .i64 0, .int .i64 0, .int .i64 0, .int .i64 0, .int .i64 0, .int .i64 0, .int .i64 0] 29)).alloc (.cells #[.int .i64 0, .int .i64 0] 37)) u91q.heap.size t) := h159q.out.new (.cells #[.int .i64 0, .int .i64 0] 37)
    have h164q : Hid (Bo ((u151q.alloc (.cells #[.int .i64 0, .int .i64 0, .int .i64 0, .int .i64 0, .int .i64 0, .int .i64 0, .int .i64 0, .int .i64 0, .int .i64 0, .int .i64 0, .int .i64 0, .int .i64 0, .int .i64 0, .int .i64 0, .int .i64 0, .int .i64 0] 29)).alloc (.cells #[.int .i64 0, .int .i64 0] 37)) u102q.heap.size [.int .i64 xc, .int .i64 xy]) := h160q.out.new (.cells #[.int .i64 0, .int .i64 0] 37)
    have h165q : Hid (TAt ((u151q.alloc (.cells #[.int .i64 0, .int .i64 0, .int .i64 0, .int .i64 0, .int .i64 0, .int .i64 0, .int .i64 0, .int .i64 0, .int .i64 0, .int .i64 0, .int .i64 0, .int .i64 0, .int .i64 0, .int .i64 0, .int .i64 0, .int .i64 0] 29)).alloc (.cells #[.int .i64 0, .int .i64 0] 37)) u151q.heap.size Tb.zero) := h161q.out.new (.cells #[.int .i64 0, .int .i64 0] 37)
    clear h158q h159q h160q h161q
    have h166q : Hid (Bo ((u151q.alloc (.cells #[.int .i64 0, .int .i64 0, .int .i64 0, .int .i64 0, .int .i64 0, .int .i64 0, .int .i64 0, .int .i64 0, .int .i64 0, .int .i64 0, .int .i64 0, .int .i64 0, .int .i64 0, .int .i64 0, .int .i64 0, .int .i64 0] 29)).alloc (.cells #[.int .i64 0, .int .i64 0] 37)) (u151q.heap.size + 1) [.int .i64 0, .int .i64 0]) := Bo.born (u151q.alloc (.cells #[.int .i64 0, .int .i64 0, .int .i64 0, .int .i64 0, .int .i64 0, .int .i64 0, .int .i64 0, .int .i64 0, .int .i64 0, .int .i64 0, .int .i64 0, .int .i64 0, .int .i64 0, .int .i64 0, .int .i64 0, .int .i64 0] 29)) [.int .i64 0, .int .i64 0] 37 (by simp)
    go_wp2_with (first
      | (refine wpList_store_mid rfl 29 _ _ rfl u151q.heap.size _ u.all.toArray rfl rfl (h165q.out.thereOf u) (HZ.out u) (u.all_all) ?_
         have h167q : Hid (Gd n w (((u151q.alloc (.cells #[.int .i64 0, .int .i64 0, .int .i64 0, .int .i64 0, .int .i64 0, .int .i64 0, .int .i64 0, .int .i64 0, .int .i64 0, .int .i64 0, .int .i64 0, .int .i64 0, .int .i64 0, .int .i64 0, .int .i64 0, .int .i64 0] 29)).alloc (.cells #[.int .i64 0, .int .i64 0] 37)).setCells u151q.heap.size 0 u.all)) := h162q.out.asideAll (by omega) u
         have h168q : Hid (TAt (((u151q.alloc (.cells #[.int .i64 0, .int .i64 0, .int .i64 0, .int .i64 0, .int .i64 0, .int .i64 0, .int .i64 0, .int .i64 0, .int .i64 0, .int .i64 0, .int .i64 0, .int .i64 0, .int .i64 0, .int .i64 0, .int .i64 0, .int .i64 0] 29)).alloc (.cells #[.int .i64 0, .int .i64 0] 37)).setCells u151q.heap.size 0 u.all) u91q.heap.size t) := h163q.out.asideAll (by omega) u
         have h169q : Hid (Bo (((u151q.alloc (.cells #[.int .i64 0, .int .i64 0, .int .i64 0, .int .i64 0, .int .i64 0, .int .i64 0, .int .i64 0, .int .i64 0, .int .i64 0, .int .i64 0, .int .i64 0, .int .i64 0, .int .i64 0, .int .i64 0, .int .i64 0, .int .i64 0] 29)).alloc (.cells #[.int .i64 0, .int .i64 0] 37)).setCells u151q.heap.size 0 u.all) u102q.heap.size [.int .i64 xc, .int .i64 xy]) := h164q.out.asideAll (by omega) u
         have h170q : Hid (TAt (((u151q.alloc (.cells #[.int .i64 0, .int .i64 0, .int .i64 0, .int .i64 0, .int .i64 0, .int .i64 0, .int .i64 0, .int .i64 0, .int .i64 0, .int .i64 0, .int .i64 0, .int .i64 0, .int .i64 0, .int .i64 0, .int .i64 0, .int .i64 0] 29)).alloc (.cells #[.int .i64 0, .int .i64 0] 37)).setCells u151q.heap.size 0 u.all) u151q.heap.size u) := h165q.out.setAll u
         have h171q : Hid (Bo (((u151q.alloc (.cells #[.int .i64 0, .int .i64 0, .int .i64 0, .int .i64 0, .int .i64 0, .int .i64 0, .int .i64 0, .int .i64 0, .int .i64 0, .int .i64 0, .int .i64 0, .int .i64 0, .int .i64 0, .int .i64 0, .int .i64 0, .int .i64 0] 29)).alloc (.cells #[.int .i64 0, .int .i64 0] 37)).setCells u151q.heap.size 0 u.all) (u151q.heap.size + 1) [.int .i64 0, .int .i64 0]) := h166q.out.asideAll (by omega) u
         clear h162q h163q h164q h165q h166q
         generalize (((u151q.alloc (.cells #[.int .i64 0, .int .i64 0, .int .i64 0, .int .i64 0, .int .i64 0, .int .i64 0, .int .i64 0, .int .i64 0, .int .i64 0, .int .i64 0, .int .i64 0, .int .i64 0, .int .i64 0, .int .i64 0, .int .i64 0, .int .i64 0] 29)).alloc (.cells #[.int .i64 0, .int .i64 0] 37)).setCells u151q.heap.size 0 u.all) = u172q at h167q h168q h169q h170q h171q  ⊢)
      | (refine wpList_store_mid rfl 37 _ _ rfl (u151q.heap.size + 1) _ #[.int .i64 (1), .int .i64 (0)] rfl rfl h171q.out.there2 HA.out (two_one _ _) ?_
         have h173q : Hid (Gd n w (u172q.setCells (u151q.heap.size + 1) 0 [.int .i64 (1), .int .i64 (0)])) := h167q.out.asideL (by omega) 0 [.int .i64 (1), .int .i64 (0)]
         have h174q : Hid (TAt (u172q.setCells (u151q.heap.size + 1) 0 [.int .i64 (1), .int .i64 (0)]) u91q.heap.size t) := h168q.out.asideL (by omega) 0 [.int .i64 (1), .int .i64 (0)]
         have h175q : Hid (Bo (u172q.setCells (u151q.heap.size + 1) 0 [.int .i64 (1), .int .i64 (0)]) u102q.heap.size [.int .i64 xc, .int .i64 xy]) := h169q.out.asideL (by omega) 0 [.int .i64 (1), .int .i64 (0)]
         have h176q : Hid (TAt (u172q.setCells (u151q.heap.size + 1) 0 [.int .i64 (1), .int .i64 (0)]) u151q.heap.size u) := h170q.out.asideL (by omega) 0 [.int .i64 (1), .int .i64 (0)]
         have h177q : Hid (Bo (u172q.setCells (u151q.heap.size + 1) 0 [.int .i64 (1), .int .i64 (0)]) (u151q.heap.size + 1) [.int .i64 (1), .int .i64 (0)]) := h171q.out.set2 (.int .i64 (1)) (.int .i64 (0))
         clear h167q h168q h169q h170q h171q
         generalize (u172q.setCells (u151q.heap.size + 1) 0 [.int .i64 (1), .int .i64 (0)]) = u178q at h173q h174q h175q h176q h177q  ⊢
         have c179q := h177q.out.at 0 rfl))
    by_cases hqk : q = k
    · have m : (q == k) = true := by simp [hqk]
      clear hqk
      have h180q : Hid (Gd n w u178q.drew) := h173q.out.drew
      have h181q : Hid (TAt u178q.drew u91q.heap.size t) := h174q.out.drew
      have h182q : Hid (Bo u178q.drew u102q.heap.size [.int .i64 xc, .int .i64 xy]) := h175q.out.drew
      have h183q : Hid (TAt u178q.drew u151q.heap.size u) := h176q.out.drew
      have h184q : Hid (Bo u178q.drew (u151q.heap.size + 1) [.int .i64 (1), .int .i64 (0)]) := h177q.out.drew
      clear h173q h174q h175q h176q h177q
      refine wp_region_held_drew (S := fun w' => Bo w' (u151q.heap.size + 1) [.int .i64 (1), .int .i64 (0)] ∧ TAt w' u151q.heap.size u ∧ Bo w' u102q.heap.size [.int .i64 xc, .int .i64 xy]) (by kernel_rfl) ⟨h184q.out, h183q.out, h182q.out⟩ (fun hH => ?_)
      generalize u178q.drew = u185q at h180q h181q h182q h183q h184q hH ⊢
      refine wpAnyH_take (i := 0) (oi := { dst := some 54, op := .load _ (.tmp 12), type := _, pos := _, after := _, guard := _ }) (v := ?_) rfl (by kernel_rfl) (by kernel_rfl) (by kernel_rfl) (fun _ _ _ h => h) (Or.inl ⟨by rfl, ?_⟩) hH ?_
      rotate_left
      · intro w hSw
        have c186q := (hSw.1).at 0 rfl
        have c187q := (hSw.1).at 1 rfl
        clear hSw
        go_simp
        try with_reducible rfl
      simp only [Act.put, List.setIfInBounds_toArray, List.set_cons_zero, List.set_cons_succ]
      refine wpAnyH_take (i := 1) (oi := { dst := some 55, op := .build _ #[(0, .const (.int .i64 1))], type := _, pos := _, after := _, guard := _ }) (v := ?_) rfl (by kernel_rfl) (by kernel_rfl) (by kernel_rfl) (fun _ _ _ h => h) (Or.inl ⟨by rfl, ?_⟩) hH ?_
      rotate_left
      · intro w hSw
        clear hSw
        go_simp
        try with_reducible rfl
      simp only [Act.put, List.setIfInBounds_toArray, List.set_cons_zero, List.set_cons_succ]
      refine wpAnyH_take (i := 2) (oi := { dst := some 56, op := .binOp .eql _ (.tmp 54) (.tmp 55) _, type := _, pos := _, after := _, guard := _ }) (v := ?_) rfl (by kernel_rfl) (by kernel_rfl) (by kernel_rfl) (fun _ _ _ h => h) (Or.inl ⟨by rfl, ?_⟩) hH ?_
      rotate_left
      · intro w hSw
        clear hSw
        go_simp
        try with_reducible rfl
      simp only [Act.put, List.setIfInBounds_toArray, List.set_cons_zero, List.set_cons_succ]
      refine wpAnyH_take (i := 3) (oi := { dst := some 57, op := .move (.tmp 56), type := _, pos := _, after := _, guard := _ }) (v := ?_) rfl (by kernel_rfl) (by kernel_rfl) (by kernel_rfl) (fun _ _ _ h => h) (Or.inl ⟨by rfl, ?_⟩) hH ?_
      rotate_left
      · intro w hSw
        clear hSw
        go_simp
        try with_reducible rfl
      simp only [Act.put, List.setIfInBounds_toArray, List.set_cons_zero, List.set_cons_succ]
      refine wpAnyH_take (i := 4) (oi := { dst := some 58, op := .load _ (.tmp 11), type := _, pos := _, after := _, guard := _ }) (v := _) rfl (by kernel_rfl) (by kernel_rfl) (by kernel_rfl) (fun _ _ _ h => h) (yieldsIf_load_mid (by rfl) _ _ rfl u151q.heap.size _ rfl u.all _ (fun _ h => (h.2.1).range) HD.out rfl (HS.out u)) hH ?_
      simp only [Act.put, List.setIfInBounds_toArray, List.set_cons_zero, List.set_cons_succ]
      refine wpAnyH_take (i := 5) (oi := { dst := some 59, op := .move (.tmp 1), type := _, pos := _, after := _, guard := _ }) (v := ?_) rfl (by kernel_rfl) (by kernel_rfl) (by kernel_rfl) (fun _ _ _ h => h) (Or.inl ⟨by rfl, ?_⟩) hH ?_
      rotate_left
      · intro w hSw
        clear hSw
        go_simp
        try with_reducible rfl
      simp only [Act.put, List.setIfInBounds_toArray, List.set_cons_zero, List.set_cons_succ]
      refine wpAnyH_take (i := 7) (oi := { dst := some 61, op := .move (.tmp 3), type := _, pos := _, after := _, guard := _ }) (v := ?_) rfl (by kernel_rfl) (by kernel_rfl) (by kernel_rfl) (fun _ _ _ h => h) (Or.inl ⟨by rfl, ?_⟩) hH ?_
      rotate_left
      · intro w hSw
        clear hSw
        go_simp
        try with_reducible rfl
      simp only [Act.put, List.setIfInBounds_toArray, List.set_cons_zero, List.set_cons_succ]
      refine wpAnyH_take (i := 8) (oi := { dst := some 62, op := .build _ #[(0, .const (.int .i64 1)), (1, .tmp 61)], type := _, pos := _, after := _, guard := _ }) (v := ?_) rfl (by kernel_rfl) (by kernel_rfl) (by kernel_rfl) (fun _ _ _ h => h) (Or.inl ⟨by rfl, ?_⟩) hH ?_
      rotate_left
      · intro w hSw
        clear hSw
        go_simp
        try with_reducible rfl
      simp only [Act.put, List.setIfInBounds_toArray, List.set_cons_zero, List.set_cons_succ]
      refine wpAnyH_ready (rs := [6]) (by kernel_rfl) (by simp) ?_
      refine AllReadyH.cons (o := { dst := some 60, op := _, type := _, pos := _, after := _, guard := _ }) rfl (fun K hK => ?_) AllReadyH.nil
      go_simp
      refine (PK _).mono ?_
      rintro e u188q ⟨rfl, hb⟩
      have h189q : Hid (Gd n w u188q) := h180q.out.later hb
      have h190q : Hid (TAt u188q u91q.heap.size t) := h181q.out.later hb
      have h191q : Hid (Bo u188q u102q.heap.size [.int .i64 xc, .int .i64 xy]) := h182q.out.later hb
      have h192q : Hid (TAt u188q u151q.heap.size u) := h183q.out.later hb
      have h193q : Hid (Bo u188q (u151q.heap.size + 1) [.int .i64 (1), .int .i64 (0)]) := h184q.out.later hb
      clear h180q h181q h182q h183q h184q
      clear hb
      go_wp2_with fail
      refine hK.out _ _ ⟨h193q.out, h192q.out, h191q.out⟩ (fun hH => ?_)
      clear hK K
      try simp only [Act.put, List.setIfInBounds_toArray, List.set_cons_zero, List.set_cons_succ]
      refine wpAnyH_take (i := 9) (oi := { dst := some 63, op := .binOp .eql _ (.tmp 60) (.tmp 62) _, type := _, pos := _, after := _, guard := _ }) (v := ?_) rfl (by kernel_rfl) (by kernel_rfl) (by kernel_rfl) (fun _ _ _ h => h) (Or.inl ⟨by rfl, ?_⟩) hH ?_
      rotate_left
      · intro w hSw
        clear hSw
        go_simp
        try with_reducible rfl
      simp only [Act.put, List.setIfInBounds_toArray, List.set_cons_zero, List.set_cons_succ]
      refine wpAnyH_take (i := 10) (oi := { dst := some 64, op := .pick (.tmp 57) (.tmp 63) (.const (.bool false)), type := _, pos := _, after := _, guard := _ }) (v := ?_) rfl (by kernel_rfl) (by kernel_rfl) (by kernel_rfl) (fun _ _ _ h => h) (Or.inl ⟨by rfl, ?_⟩) hH ?_
      rotate_left
      · intro w hSw
        clear hSw
        go_simp
        try with_reducible rfl
      simp only [Act.put, List.setIfInBounds_toArray, List.set_cons_zero, List.set_cons_succ]
      refine wpAnyH_take (i := 11) (oi := { dst := some 65, op := .move (.tmp 64), type := _, pos := _, after := _, guard := _ }) (v := ?_) rfl (by kernel_rfl) (by kernel_rfl) (by kernel_rfl) (fun _ _ _ h => h) (Or.inl ⟨by rfl, ?_⟩) hH ?_
      rotate_left
      · intro w hSw
        clear hSw
        go_simp
        try with_reducible rfl
      simp only [Act.put, List.setIfInBounds_toArray, List.set_cons_zero, List.set_cons_succ]
      refine wpAnyH_take (i := 12) (oi := { dst := some 66, op := .move (.tmp 2), type := _, pos := _, after := _, guard := _ }) (v := ?_) rfl (by kernel_rfl) (by kernel_rfl) (by kernel_rfl) (fun _ _ _ h => h) (Or.inl ⟨by rfl, ?_⟩) hH ?_
      rotate_left
      · intro w hSw
        clear hSw
        go_simp
        try with_reducible rfl
      simp only [Act.put, List.setIfInBounds_toArray, List.set_cons_zero, List.set_cons_succ]
      refine wpAnyH_take (i := 13) (oi := { dst := some 67, op := .move (.tmp 1), type := _, pos := _, after := _, guard := _ }) (v := ?_) rfl (by kernel_rfl) (by kernel_rfl) (by kernel_rfl) (fun _ _ _ h => h) (Or.inl ⟨by rfl, ?_⟩) hH ?_
      rotate_left
      · intro w hSw
        clear hSw
        go_simp
        try with_reducible rfl
      simp only [Act.put, List.setIfInBounds_toArray, List.set_cons_zero, List.set_cons_succ]
      refine wpAnyH_take (i := 14) (oi := { dst := some 68, op := .binOp .eql _ (.tmp 66) (.tmp 67) _, type := _, pos := _, after := _, guard := _ }) (v := ?_) rfl (by kernel_rfl) (by kernel_rfl) (by kernel_rfl) (fun _ _ _ h => h) (Or.inl ⟨by rfl, ?_⟩) hH ?_
      rotate_left
      · intro w hSw
        clear hSw
        go_simp
        try with_reducible rfl
      simp only [Act.put, List.setIfInBounds_toArray, List.set_cons_zero, List.set_cons_succ]
      refine wpAnyH_take (i := 15) (oi := { dst := some 69, op := .move (.tmp 68), type := _, pos := _, after := _, guard := _ }) (v := ?_) rfl (by kernel_rfl) (by kernel_rfl) (by kernel_rfl) (fun _ _ _ h => h) (Or.inl ⟨by rfl, ?_⟩) hH ?_
      rotate_left
      · intro w hSw
        clear hSw
        go_simp
        try with_reducible rfl
      simp only [Act.put, List.setIfInBounds_toArray, List.set_cons_zero, List.set_cons_succ]
      refine wpAnyH_take (i := 16) (oi := { dst := some 70, op := .load _ (.tmp 11), type := _, pos := _, after := _, guard := _ }) (v := _) rfl (by kernel_rfl) (by kernel_rfl) (by kernel_rfl) (fun _ _ _ h => h) (Or.inr ⟨by rfl, rfl⟩) hH ?_
      simp only [Act.put, List.setIfInBounds_toArray, List.set_cons_zero, List.set_cons_succ]
      refine wpAnyH_take (i := 17) (oi := { dst := some 71, op := .move (.tmp 2), type := _, pos := _, after := _, guard := _ }) (v := _) rfl (by kernel_rfl) (by kernel_rfl) (by kernel_rfl) (fun _ _ _ h => h) (Or.inr ⟨by rfl, rfl⟩) hH ?_
      simp only [Act.put, List.setIfInBounds_toArray, List.set_cons_zero, List.set_cons_succ]
      refine wpAnyH_take (i := 18) (oi := { dst := some 72, op := .call { callee := Callee.value (.func 20), args := #[.tmp 70, .tmp 71], argTypes := #[29, 3] }, type := _, pos := _, after := _, guard := _ }) (v := _) rfl (by kernel_rfl) (by kernel_rfl) (by kernel_rfl) (fun _ _ _ h => h) (Or.inr ⟨by rfl, rfl⟩) hH ?_
      simp only [Act.put, List.setIfInBounds_toArray, List.set_cons_zero, List.set_cons_succ]
      refine wpAnyH_take (i := 19) (oi := { dst := some 73, op := .load _ (.tmp 10), type := _, pos := _, after := _, guard := _ }) (v := _) rfl (by kernel_rfl) (by kernel_rfl) (by kernel_rfl) (fun _ _ _ h => h) (Or.inr ⟨by rfl, rfl⟩) hH ?_
      simp only [Act.put, List.setIfInBounds_toArray, List.set_cons_zero, List.set_cons_succ]
      refine wpAnyH_take (i := 20) (oi := { dst := some 74, op := .binOp .eql _ (.tmp 72) (.tmp 73) _, type := _, pos := _, after := _, guard := _ }) (v := _) rfl (by kernel_rfl) (by kernel_rfl) (by kernel_rfl) (fun _ _ _ h => h) (Or.inr ⟨by rfl, rfl⟩) hH ?_
      simp only [Act.put, List.setIfInBounds_toArray, List.set_cons_zero, List.set_cons_succ]
      refine wpAnyH_take (i := 21) (oi := { dst := some 75, op := .pick (.tmp 69) (.const (.bool true)) (.tmp 74), type := _, pos := _, after := _, guard := _ }) (v := ?_) rfl (by kernel_rfl) (by kernel_rfl) (by kernel_rfl) (fun _ _ _ h => h) (Or.inl ⟨by rfl, ?_⟩) hH ?_
      rotate_left
      · intro w hSw
        clear hSw
        go_simp
        try with_reducible rfl
      simp only [Act.put, List.setIfInBounds_toArray, List.set_cons_zero, List.set_cons_succ]
      refine wpAnyH_take (i := 22) (oi := { dst := some 76, op := .pick (.tmp 65) (.tmp 75) (.const (.bool false)), type := _, pos := _, after := _, guard := _ }) (v := ?_) rfl (by kernel_rfl) (by kernel_rfl) (by kernel_rfl) (fun _ _ _ h => h) (Or.inl ⟨by rfl, ?_⟩) hH ?_
      rotate_left
      · intro w hSw
        clear hSw
        go_simp
        try with_reducible rfl
      simp only [Act.put, List.setIfInBounds_toArray, List.set_cons_zero, List.set_cons_succ]
      refine wpAnyH_take (i := 23) (oi := { dst := some 8, op := .assign (.tmp 76), type := _, pos := _, after := _, guard := _ }) (v := ?_) rfl (by kernel_rfl) (by kernel_rfl) (by kernel_rfl) (fun _ _ _ h => h) (Or.inl ⟨by rfl, ?_⟩) hH ?_
      rotate_left
      · intro w hSw
        clear hSw
        go_simp
        try with_reducible rfl
      simp only [Act.put, List.setIfInBounds_toArray, List.set_cons_zero, List.set_cons_succ]
      refine wpAnyH_done (by kernel_rfl) ?_ _
      go_wp2
      go_ret
      exact ⟨rfl, h189q.out.2⟩
    · have m : (q == k) = false := by simp [hqk]
      have PQ := peek_is u q (by omega) (by omega)
      rw [show look u q = (xc, xy) from ((F.out.other q (by omega) hqk).trans LQ.out)] at PQ
      dsimp only at PQ
      clear hqk
      have h194q : Hid (Gd n w u178q.drew) := h173q.out.drew
      have h195q : Hid (TAt u178q.drew u91q.heap.size t) := h174q.out.drew
      have h196q : Hid (Bo u178q.drew u102q.heap.size [.int .i64 xc, .int .i64 xy]) := h175q.out.drew
      have h197q : Hid (TAt u178q.drew u151q.heap.size u) := h176q.out.drew
      have h198q : Hid (Bo u178q.drew (u151q.heap.size + 1) [.int .i64 (1), .int .i64 (0)]) := h177q.out.drew
      clear h173q h174q h175q h176q h177q
      refine wp_region_held_drew (S := fun w' => Bo w' (u151q.heap.size + 1) [.int .i64 (1), .int .i64 (0)] ∧ TAt w' u151q.heap.size u ∧ Bo w' u102q.heap.size [.int .i64 xc, .int .i64 xy]) (by kernel_rfl) ⟨h198q.out, h197q.out, h196q.out⟩ (fun hH => ?_)
      generalize u178q.drew = u199q at h194q h195q h196q h197q h198q hH ⊢
      refine wpAnyH_take (i := 0) (oi := { dst := some 54, op := .load _ (.tmp 12), type := _, pos := _, after := _, guard := _ }) (v := ?_) rfl (by kernel_rfl) (by kernel_rfl) (by kernel_rfl) (fun _ _ _ h => h) (Or.inl ⟨by rfl, ?_⟩) hH ?_
      rotate_left
      · intro w hSw
        have c200q := (hSw.1).at 0 rfl
        have c201q := (hSw.1).at 1 rfl
        clear hSw
        go_simp
        try with_reducible rfl
      simp only [Act.put, List.setIfInBounds_toArray, List.set_cons_zero, List.set_cons_succ]
      refine wpAnyH_take (i := 1) (oi := { dst := some 55, op := .build _ #[(0, .const (.int .i64 1))], type := _, pos := _, after := _, guard := _ }) (v := ?_) rfl (by kernel_rfl) (by kernel_rfl) (by kernel_rfl) (fun _ _ _ h => h) (Or.inl ⟨by rfl, ?_⟩) hH ?_
      rotate_left
      · intro w hSw
        clear hSw
        go_simp
        try with_reducible rfl
      simp only [Act.put, List.setIfInBounds_toArray, List.set_cons_zero, List.set_cons_succ]
      refine wpAnyH_take (i := 2) (oi := { dst := some 56, op := .binOp .eql _ (.tmp 54) (.tmp 55) _, type := _, pos := _, after := _, guard := _ }) (v := ?_) rfl (by kernel_rfl) (by kernel_rfl) (by kernel_rfl) (fun _ _ _ h => h) (Or.inl ⟨by rfl, ?_⟩) hH ?_
      rotate_left
      · intro w hSw
        clear hSw
        go_simp
        try with_reducible rfl
      simp only [Act.put, List.setIfInBounds_toArray, List.set_cons_zero, List.set_cons_succ]
      refine wpAnyH_take (i := 3) (oi := { dst := some 57, op := .move (.tmp 56), type := _, pos := _, after := _, guard := _ }) (v := ?_) rfl (by kernel_rfl) (by kernel_rfl) (by kernel_rfl) (fun _ _ _ h => h) (Or.inl ⟨by rfl, ?_⟩) hH ?_
      rotate_left
      · intro w hSw
        clear hSw
        go_simp
        try with_reducible rfl
      simp only [Act.put, List.setIfInBounds_toArray, List.set_cons_zero, List.set_cons_succ]
      refine wpAnyH_take (i := 4) (oi := { dst := some 58, op := .load _ (.tmp 11), type := _, pos := _, after := _, guard := _ }) (v := _) rfl (by kernel_rfl) (by kernel_rfl) (by kernel_rfl) (fun _ _ _ h => h) (yieldsIf_load_mid (by rfl) _ _ rfl u151q.heap.size _ rfl u.all _ (fun _ h => (h.2.1).range) HD.out rfl (HS.out u)) hH ?_
      simp only [Act.put, List.setIfInBounds_toArray, List.set_cons_zero, List.set_cons_succ]
      refine wpAnyH_take (i := 5) (oi := { dst := some 59, op := .move (.tmp 1), type := _, pos := _, after := _, guard := _ }) (v := ?_) rfl (by kernel_rfl) (by kernel_rfl) (by kernel_rfl) (fun _ _ _ h => h) (Or.inl ⟨by rfl, ?_⟩) hH ?_
      rotate_left
      · intro w hSw
        clear hSw
        go_simp
        try with_reducible rfl
      simp only [Act.put, List.setIfInBounds_toArray, List.set_cons_zero, List.set_cons_succ]
      refine wpAnyH_take (i := 7) (oi := { dst := some 61, op := .move (.tmp 3), type := _, pos := _, after := _, guard := _ }) (v := ?_) rfl (by kernel_rfl) (by kernel_rfl) (by kernel_rfl) (fun _ _ _ h => h) (Or.inl ⟨by rfl, ?_⟩) hH ?_
      rotate_left
      · intro w hSw
        clear hSw
        go_simp
        try with_reducible rfl
      simp only [Act.put, List.setIfInBounds_toArray, List.set_cons_zero, List.set_cons_succ]
      refine wpAnyH_take (i := 8) (oi := { dst := some 62, op := .build _ #[(0, .const (.int .i64 1)), (1, .tmp 61)], type := _, pos := _, after := _, guard := _ }) (v := ?_) rfl (by kernel_rfl) (by kernel_rfl) (by kernel_rfl) (fun _ _ _ h => h) (Or.inl ⟨by rfl, ?_⟩) hH ?_
      rotate_left
      · intro w hSw
        clear hSw
        go_simp
        try with_reducible rfl
      simp only [Act.put, List.setIfInBounds_toArray, List.set_cons_zero, List.set_cons_succ]
      refine wpAnyH_ready (rs := [6]) (by kernel_rfl) (by simp) ?_
      refine AllReadyH.cons (o := { dst := some 60, op := _, type := _, pos := _, after := _, guard := _ }) rfl (fun K hK => ?_) AllReadyH.nil
      go_simp
      refine (PK _).mono ?_
      rintro e u202q ⟨rfl, hb⟩
      have h203q : Hid (Gd n w u202q) := h194q.out.later hb
      have h204q : Hid (TAt u202q u91q.heap.size t) := h195q.out.later hb
      have h205q : Hid (Bo u202q u102q.heap.size [.int .i64 xc, .int .i64 xy]) := h196q.out.later hb
      have h206q : Hid (TAt u202q u151q.heap.size u) := h197q.out.later hb
      have h207q : Hid (Bo u202q (u151q.heap.size + 1) [.int .i64 (1), .int .i64 (0)]) := h198q.out.later hb
      clear h194q h195q h196q h197q h198q
      clear hb
      go_wp2_with fail
      refine hK.out _ _ ⟨h207q.out, h206q.out, h205q.out⟩ (fun hH => ?_)
      clear hK K
      try simp only [Act.put, List.setIfInBounds_toArray, List.set_cons_zero, List.set_cons_succ]
      refine wpAnyH_take (i := 9) (oi := { dst := some 63, op := .binOp .eql _ (.tmp 60) (.tmp 62) _, type := _, pos := _, after := _, guard := _ }) (v := ?_) rfl (by kernel_rfl) (by kernel_rfl) (by kernel_rfl) (fun _ _ _ h => h) (Or.inl ⟨by rfl, ?_⟩) hH ?_
      rotate_left
      · intro w hSw
        clear hSw
        go_simp
        try with_reducible rfl
      simp only [Act.put, List.setIfInBounds_toArray, List.set_cons_zero, List.set_cons_succ]
      refine wpAnyH_take (i := 10) (oi := { dst := some 64, op := .pick (.tmp 57) (.tmp 63) (.const (.bool false)), type := _, pos := _, after := _, guard := _ }) (v := ?_) rfl (by kernel_rfl) (by kernel_rfl) (by kernel_rfl) (fun _ _ _ h => h) (Or.inl ⟨by rfl, ?_⟩) hH ?_
      rotate_left
      · intro w hSw
        clear hSw
        go_simp
        try with_reducible rfl
      simp only [Act.put, List.setIfInBounds_toArray, List.set_cons_zero, List.set_cons_succ]
      refine wpAnyH_take (i := 11) (oi := { dst := some 65, op := .move (.tmp 64), type := _, pos := _, after := _, guard := _ }) (v := ?_) rfl (by kernel_rfl) (by kernel_rfl) (by kernel_rfl) (fun _ _ _ h => h) (Or.inl ⟨by rfl, ?_⟩) hH ?_
      rotate_left
      · intro w hSw
        clear hSw
        go_simp
        try with_reducible rfl
      simp only [Act.put, List.setIfInBounds_toArray, List.set_cons_zero, List.set_cons_succ]
      refine wpAnyH_take (i := 12) (oi := { dst := some 66, op := .move (.tmp 2), type := _, pos := _, after := _, guard := _ }) (v := ?_) rfl (by kernel_rfl) (by kernel_rfl) (by kernel_rfl) (fun _ _ _ h => h) (Or.inl ⟨by rfl, ?_⟩) hH ?_
      rotate_left
      · intro w hSw
        clear hSw
        go_simp
        try with_reducible rfl
      simp only [Act.put, List.setIfInBounds_toArray, List.set_cons_zero, List.set_cons_succ]
      refine wpAnyH_take (i := 13) (oi := { dst := some 67, op := .move (.tmp 1), type := _, pos := _, after := _, guard := _ }) (v := ?_) rfl (by kernel_rfl) (by kernel_rfl) (by kernel_rfl) (fun _ _ _ h => h) (Or.inl ⟨by rfl, ?_⟩) hH ?_
      rotate_left
      · intro w hSw
        clear hSw
        go_simp
        try with_reducible rfl
      simp only [Act.put, List.setIfInBounds_toArray, List.set_cons_zero, List.set_cons_succ]
      refine wpAnyH_take (i := 14) (oi := { dst := some 68, op := .binOp .eql _ (.tmp 66) (.tmp 67) _, type := _, pos := _, after := _, guard := _ }) (v := ?_) rfl (by kernel_rfl) (by kernel_rfl) (by kernel_rfl) (fun _ _ _ h => h) (Or.inl ⟨by rfl, ?_⟩) hH ?_
      rotate_left
      · intro w hSw
        clear hSw
        go_simp
        try with_reducible rfl
      simp only [Act.put, List.setIfInBounds_toArray, List.set_cons_zero, List.set_cons_succ]
      refine wpAnyH_take (i := 15) (oi := { dst := some 69, op := .move (.tmp 68), type := _, pos := _, after := _, guard := _ }) (v := ?_) rfl (by kernel_rfl) (by kernel_rfl) (by kernel_rfl) (fun _ _ _ h => h) (Or.inl ⟨by rfl, ?_⟩) hH ?_
      rotate_left
      · intro w hSw
        clear hSw
        go_simp
        try with_reducible rfl
      simp only [Act.put, List.setIfInBounds_toArray, List.set_cons_zero, List.set_cons_succ]
      refine wpAnyH_take (i := 16) (oi := { dst := some 70, op := .load _ (.tmp 11), type := _, pos := _, after := _, guard := _ }) (v := _) rfl (by kernel_rfl) (by kernel_rfl) (by kernel_rfl) (fun _ _ _ h => h) (yieldsIf_load_mid (by rfl) _ _ rfl u151q.heap.size _ rfl u.all _ (fun _ h => (h.2.1).range) HD.out rfl (HS.out u)) hH ?_
      simp only [Act.put, List.setIfInBounds_toArray, List.set_cons_zero, List.set_cons_succ]
      refine wpAnyH_take (i := 17) (oi := { dst := some 71, op := .move (.tmp 2), type := _, pos := _, after := _, guard := _ }) (v := ?_) rfl (by kernel_rfl) (by kernel_rfl) (by kernel_rfl) (fun _ _ _ h => h) (Or.inl ⟨by rfl, ?_⟩) hH ?_
      rotate_left
      · intro w hSw
        clear hSw
        go_simp
        try with_reducible rfl
      simp only [Act.put, List.setIfInBounds_toArray, List.set_cons_zero, List.set_cons_succ]
      refine wpAnyH_take (i := 19) (oi := { dst := some 73, op := .load _ (.tmp 10), type := _, pos := _, after := _, guard := _ }) (v := ?_) rfl (by kernel_rfl) (by kernel_rfl) (by kernel_rfl) (fun _ _ _ h => h) (Or.inl ⟨by rfl, ?_⟩) hH ?_
      rotate_left
      · intro w hSw
        have c208q := (hSw.2.2).at 0 rfl
        have c209q := (hSw.2.2).at 1 rfl
        clear hSw
        go_simp
        try with_reducible rfl
      simp only [Act.put, List.setIfInBounds_toArray, List.set_cons_zero, List.set_cons_succ]
      refine wpAnyH_ready (rs := [18]) (by kernel_rfl) (by simp) ?_
      refine AllReadyH.cons (o := { dst := some 72, op := _, type := _, pos := _, after := _, guard := _ }) rfl (fun K hK => ?_) AllReadyH.nil
      go_simp
      refine (PQ _).mono ?_
      rintro e u210q ⟨rfl, hb⟩
      have h211q : Hid (Gd n w u210q) := h203q.out.later hb
      have h212q : Hid (TAt u210q u91q.heap.size t) := h204q.out.later hb
      have h213q : Hid (Bo u210q u102q.heap.size [.int .i64 xc, .int .i64 xy]) := h205q.out.later hb
      have h214q : Hid (TAt u210q u151q.heap.size u) := h206q.out.later hb
      have h215q : Hid (Bo u210q (u151q.heap.size + 1) [.int .i64 (1), .int .i64 (0)]) := h207q.out.later hb
      clear h203q h204q h205q h206q h207q
      clear hb
      go_wp2_with fail
      refine hK.out _ _ ⟨h215q.out, h214q.out, h213q.out⟩ (fun hH => ?_)
      clear hK K
      try simp only [Act.put, List.setIfInBounds_toArray, List.set_cons_zero, List.set_cons_succ]
      refine wpAnyH_take (i := 20) (oi := { dst := some 74, op := .binOp .eql _ (.tmp 72) (.tmp 73) _, type := _, pos := _, after := _, guard := _ }) (v := ?_) rfl (by kernel_rfl) (by kernel_rfl) (by kernel_rfl) (fun _ _ _ h => h) (Or.inl ⟨by rfl, ?_⟩) hH ?_
      rotate_left
      · intro w hSw
        clear hSw
        go_simp
        try with_reducible rfl
      simp only [Act.put, List.setIfInBounds_toArray, List.set_cons_zero, List.set_cons_succ]
      refine wpAnyH_take (i := 21) (oi := { dst := some 75, op := .pick (.tmp 69) (.const (.bool true)) (.tmp 74), type := _, pos := _, after := _, guard := _ }) (v := ?_) rfl (by kernel_rfl) (by kernel_rfl) (by kernel_rfl) (fun _ _ _ h => h) (Or.inl ⟨by rfl, ?_⟩) hH ?_
      rotate_left
      · intro w hSw
        clear hSw
        go_simp
        try with_reducible rfl
      simp only [Act.put, List.setIfInBounds_toArray, List.set_cons_zero, List.set_cons_succ]
      refine wpAnyH_take (i := 22) (oi := { dst := some 76, op := .pick (.tmp 65) (.tmp 75) (.const (.bool false)), type := _, pos := _, after := _, guard := _ }) (v := ?_) rfl (by kernel_rfl) (by kernel_rfl) (by kernel_rfl) (fun _ _ _ h => h) (Or.inl ⟨by rfl, ?_⟩) hH ?_
      rotate_left
      · intro w hSw
        clear hSw
        go_simp
        try with_reducible rfl
      simp only [Act.put, List.setIfInBounds_toArray, List.set_cons_zero, List.set_cons_succ]
      refine wpAnyH_take (i := 23) (oi := { dst := some 8, op := .assign (.tmp 76), type := _, pos := _, after := _, guard := _ }) (v := ?_) rfl (by kernel_rfl) (by kernel_rfl) (by kernel_rfl) (fun _ _ _ h => h) (Or.inl ⟨by rfl, ?_⟩) hH ?_
      rotate_left
      · intro w hSw
        clear hSw
        go_simp
        try with_reducible rfl
      simp only [Act.put, List.setIfInBounds_toArray, List.set_cons_zero, List.set_cons_succ]
      refine wpAnyH_done (by kernel_rfl) ?_ _
      go_wp2
      go_ret
      exact ⟨rfl, h211q.out.2⟩


set_option maxRecDepth 100000 in
theorem lifted (os : Os) (started : os.Started) (H : Type) (enc : TypeId × Value → H) :
    ReturnsInHanded {} Try.checked os 6 .any (Rows.tableKeepsSpec.pre6 enc Try.prog Try.f6 Rows.tableKeepsRow.domain false) (Rows.tableKeepsSpec.post enc Try.prog Try.f6 false true false false) := by
  refine returnsInHanded_of_change (C := Try.checked) own started (by kernel_rfl) Try.func6
    (ChangeSpec.witness6 (enc := enc) (C := Try.checked) false ⟨#[], #[.slice none 0 0, .int .i64 0, .int .i64 0, .int .i64 0], []⟩ 8 (by kernel_rfl) (by kernel_rfl) (by kernel_rfl) (by kernel_rfl)) ?_
  intro W base args ds gs before hval0 hW hcnd _
  have hval : ∀ (j : Nat) t v, Try.f6.params[j]? = some t → args[j]? = some v → Value.okWide Try.prog W .any base t v := hval0
  have hW' := hW
  obtain ⟨p, q, hA0, hV, rfl, hfz, hnd⟩ := hW
  have hA : DataW.TrodAll enc Try.prog W 0 (fun _ => true) true Try.f6.params.toList args.toList ds p := hA0
  rw [Try.params6] at hA hval
  obtain ⟨v0, vs0, d0, ds0, p0, q0, hargs, rfl, rfl, h0, r0⟩ := trodAll_cons hA
  obtain ⟨v1, vs1, d1, ds1, p1, q1, rfl, rfl, rfl, h1, r1⟩ := trodAll_cons r0
  obtain ⟨v2, vs2, d2, ds2, p2, q2, rfl, rfl, rfl, h2, r2⟩ := trodAll_cons r1
  obtain ⟨v3, vs3, d3, ds3, p3, q3, rfl, rfl, rfl, h3, r3⟩ := trodAll_cons r2
  obtain ⟨rfl, rfl, rfl⟩ := trodAll_nil r3
  obtain rfl : args = #[v0, v1, v2, v3] := by cases args; simp_all
  obtain ⟨rfl, rfl⟩ := trodVars_none hV
  obtain ⟨n0, D0⟩ := ops_of_trod (hval 0 43 v0 rfl rfl) h0
  obtain ⟨a1, rfl, rfl, rfl, w1⟩ := open_int Try.underlying3 (hval 1 3 v1 rfl rfl) h1
  obtain ⟨a2, rfl, rfl, rfl, w2⟩ := open_int Try.underlying3 (hval 2 3 v2 rfl rfl) h2
  obtain ⟨a3, rfl, rfl, rfl, w3⟩ := open_int Try.underlying3 (hval 3 3 v3 rfl rfl) h3
  have hlt := hW'.lt
  clear hA0 hval0
  refine (walk v0 n0 a1 a2 a3 w1 w2 w3 W  D0).mono fun e W' ⟨he, hg⟩ => ?_
  subst he
  exact ⟨_, rfl, post_below (pv := []) hW' (fun _ _ _ => (trodAll_cons_mk (shut_bool Try.underlying4 _) trodAll_mk0)) (fun sp hsp => (trodAll_cons_mk (ops_stay h0 hg (fun x hx => hlt x (by simp [hx])) (fun x hx => hsp x (by simp [hx]))) (trodAll_cons_mk (shut_int Try.underlying3 w1) (trodAll_cons_mk (shut_int Try.underlying3 w2) (trodAll_cons_mk (shut_int Try.underlying3 w3) trodAll_mk0))))) (fun _ _ => rfl) (by simp) (hg.frame _)⟩

theorem over : Rows.tableKeepsRow.holds Try.pinned (OpenSpec.ofChange Rows.tableKeepsSpec) :=
  OpenClaim.holds_of_wide 6 Try.f6 rfl rfl rfl rfl rfl rfl rfl ⟨rfl, rfl, rfl, rfl, rfl⟩ rfl rfl rfl rfl rfl (by kernel_rfl) Try.func6 (by kernel_rfl)
    (of_decide_eq_true (by kernel_rfl)) (by unfold Func.isWrapper; first | (rw [if_pos (by decide +kernel)]; kernel_rfl) | (rw [if_neg (by decide +kernel)]; exact ⟨rfl, rfl⟩))
    (fun os started H enc _ => lifted os started H enc)

theorem proved : Rows.TableKeepsSaid :=
  over
#print axioms proved
end Go.Proofs.Ytojnkfdodjcnfaa.tableKeeps
