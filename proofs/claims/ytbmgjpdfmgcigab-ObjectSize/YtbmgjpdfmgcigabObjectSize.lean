/- ObjectSize is proved: for every number of a kind, every list of operations and every operation the call returns true (one thing more, one less, or as many; a tally aside). -/
import Derived.Test.YtbmgjpdfmgcigabRows
import Derived.Test.YtbmgjpdfmgcigabKm
import Derived.Test.YtbmgjpdfmgcigabKs
import Derived.Test.YtbmgjpdfmgcigabFt
import Derived.Test.YtbmgjpdfmgcigabArgOps
import Derived.Test.YtbmgjpdfmgcigabArgOp
import Derived.Deep.DeepCutAuto
import Derived.Deep.RegionHeld3

namespace Go.Proofs.Ytbmgjpdfmgcigab.Tab.objectSize
open Go.ChangeShapes Go.WideShapes Go.ChangeAt Go.RowKit
set_option linter.unusedVariables false

theorem own : ownKnob Try.prog.godebug = none := by kernel_rfl

set_option maxHeartbeats 4000000 in
set_option maxRecDepth 20000 in
theorem walk (a0 : Int) (v1 : Value) (n1 : Nat) (o k x : Int) (w0 : (Lit.int .i64 a0).wf = true) (wa2 : (Lit.int .i64 o).wf = true) (wb2 : (Lit.int .i64 k).wf = true) (wc2 : (Lit.int .i64 x).wf = true) (w : World) (D : Ops w v1 n1) :
    Calls Try.prog 4 #[.int .i64 a0, v1, .agg #[.int .i64 o, .int .i64 k, .int .i64 x]] w (fun e w' => e = .returned (.bool true) ∧ Below w.heap.size w w') := by
  have HA : Hid ((Try.prog.info? 32).map (·.size) = some 2) := answer_sz
  obtain ⟨fs, ha⟩ := answer_st
  have HDA : Hid _ := ha
  clear ha
  obtain ⟨nb, eb, hd⟩ := cells_array
  have HC : Hid _ := hd
  clear hd
  have HCS : Hid _ := cells_size
  have HCZ : Hid _ := cells_size2
  have g0 : Hid (Gd w.heap.size w w) := Gd.refl w
  have h1q : Hid (Gd w.heap.size w (w.alloc (.cells #[.int .i64 o, .int .i64 k, .int .i64 x] 24))) := g0.out.new (.cells #[.int .i64 o, .int .i64 k, .int .i64 x] 24)
  clear g0
  have h2q : Hid (Bo (w.alloc (.cells #[.int .i64 o, .int .i64 k, .int .i64 x] 24)) w.heap.size [.int .i64 o, .int .i64 k, .int .i64 x]) := Bo.born w [.int .i64 o, .int .i64 k, .int .i64 x] 24 (by simp)
  have D1 : Hid (Ops w v1 n1) := D
  clear D
  clear w0 wa2 wb2 wc2
  have TH : Hid (∀ w : World, _) := fun w => things_is w
  obtain ⟨r0, hr0, hko⟩ := pick_5 a0
  have ew : IntKind.i64.wrap (1 + (r0 : Int)) = 1 + (r0 : Int) := by rw [IntKind.wrap_i64]; omega
  obtain ⟨r, hr⟩ : ∃ r : Nat, 1 + (r0 : Int) = (r : Nat) := ⟨r0 + 1, by omega⟩
  rw [hr] at ew
  have hr1 : 1 ≤ r := by omega
  have hr6 : r ≤ 5 := by omega
  have hr7 : r ≤ 6 := by omega
  have KO : Hid _ := hko
  clear hko
  by_cases hR : Rt o k x
  · go_enter Try.func4, Try.ntmps4
    go_wp2_with fail
    refine (TH.out _).mono ?_
    rintro e u3q ⟨rfl, hb⟩
    have h4q : Hid (Gd w.heap.size w u3q) := h1q.out.later hb
    have h5q : Hid (Bo u3q w.heap.size [.int .i64 o, .int .i64 k, .int .i64 x]) := h2q.out.later hb
    clear h1q h2q
    clear hb
    go_wp2_with fail
    refine (KO.out _).mono ?_
    rintro e u6q ⟨rfl, hw⟩
    rw [hw]; clear hw u6q
    go_wp2_with fail
    refine (made_is (kind := (r : Nat)) (by omega) (by omega) (Ops.later (v := v1) (n := n1) D1.out h4q.out.2)).mono ?_
    rintro e u7q ⟨c, hO, rfl, hb⟩
    have h8q : Hid (Gd w.heap.size w u7q) := h4q.out.later hb
    have h9q : Hid (Bo u7q w.heap.size [.int .i64 o, .int .i64 k, .int .i64 x]) := h5q.out.later hb
    clear h4q h5q
    clear hb
    have HO : Hid _ := hO
    clear hO
    generalize hsz : w.heap.size = n at h8q h9q  ⊢
    have HSZ : Hid (w.heap.size = n) := hsz
    clear hsz
    have l10q : n ≤ u7q.heap.size := h8q.out.le
    have l11q : n < u7q.heap.size := h9q.out.lt
    have h12q : Hid (Gd n w (u7q.alloc (.cells #[.int .u64 0, .int .u64 0, .int .u64 0, .int .u64 0, .int .u64 0, .int .u64 0, .int .u64 0, .int .u64 0, .int .u64 0, .int .u64 0, .int .u64 0, .int .u64 0, .int .u64 0, .int .u64 0, .int .u64 0, .int .u64 0, .int .u64 0] 29))) := h8q.out.new (.cells #[.int .u64 0, .int .u64 0, .int .u64 0, .int .u64 0, .int .u64 0, .int .u64 0, .int .u64 0, .int .u64 0, .int .u64 0, .int .u64 0, .int .u64 0, .int .u64 0, .int .u64 0, .int .u64 0, .int .u64 0, .int .u64 0, .int .u64 0] 29)
    have h13q : Hid (Bo (u7q.alloc (.cells #[.int .u64 0, .int .u64 0, .int .u64 0, .int .u64 0, .int .u64 0, .int .u64 0, .int .u64 0, .int .u64 0, .int .u64 0, .int .u64 0, .int .u64 0, .int .u64 0, .int .u64 0, .int .u64 0, .int .u64 0, .int .u64 0, .int .u64 0] 29)) n [.int .i64 o, .int .i64 k, .int .i64 x]) := h9q.out.new (.cells #[.int .u64 0, .int .u64 0, .int .u64 0, .int .u64 0, .int .u64 0, .int .u64 0, .int .u64 0, .int .u64 0, .int .u64 0, .int .u64 0, .int .u64 0, .int .u64 0, .int .u64 0, .int .u64 0, .int .u64 0, .int .u64 0, .int .u64 0] 29)
    clear h8q h9q
    have h14q : Hid (Bo (u7q.alloc (.cells #[.int .u64 0, .int .u64 0, .int .u64 0, .int .u64 0, .int .u64 0, .int .u64 0, .int .u64 0, .int .u64 0, .int .u64 0, .int .u64 0, .int .u64 0, .int .u64 0, .int .u64 0, .int .u64 0, .int .u64 0, .int .u64 0, .int .u64 0] 29)) u7q.heap.size (wl wz)) := Bo.born u7q (wl wz) 29 (by simp)
    have SZ : Hid (∀ w : World, _) := fun w => obSize_is HO.out w
    have B1 := osz_in HO.out
    obtain ⟨z1, hz1⟩ : ∃ z, osz (r : Nat) c = z := ⟨_, rfl⟩
    obtain ⟨⟨u, cc, yy⟩, hu⟩ : ∃ r9, odo (r : Nat) c o k x = r9 := ⟨_, rfl⟩
    have DO : Hid (∀ w, Calls Try.prog 10 #[.int .i64 (r : Nat), .agg (wl c).toArray, .agg #[.int .i64 o, .int .i64 k, .int .i64 x]] w (DidD w u cc yy)) := fun w => by have := obDo_is HO.out hR w; rw [hu] at this; exact this
    have f : OF (r : Nat) c o k x (u, cc, yy) := by have := odo_facts HO.out hR.w1 hR.w6 hR.k0 hR.k1 hR.v0 hR.v1; rw [hu] at this; exact this
    clear hu
    have SU : Hid (∀ w : World, _) := fun w => obSize_is f.ob w
    have B2 := osz_in f.ob
    have SM : Hid _ := f.same
    have LS : Hid _ := f.less (by omega)
    have MR : Hid _ := f.more (by omega)
    dsimp only at SM LS MR SU B2
    obtain ⟨z2, hz2⟩ : ∃ z, osz (r : Nat) u = z := ⟨_, rfl⟩
    rw [hz1] at SZ B1 LS MR
    rw [hz2] at SU B2 LS MR
    have b1 : 0 ≤ z1 ∧ z1 ≤ 6 := ⟨B1.1, B1.2.1 (by omega)⟩
    have b2 : 0 ≤ z2 ∧ z2 ≤ 6 := ⟨B2.1, B2.2.1 (by omega)⟩
    have hW := hR
    clear B1 B2 f hR
    by_cases hcc : cc = 1
    · subst hcc
      have : o = 1 ∨ o = 2 ∨ o = 3 ∨ o = 4 ∨ o = 5 ∨ o = 6 := by have := hW.w1; have := hW.w6; omega
      clear hW
      rcases this with e1 | e2 | e3 | e4 | e5 | e6
      · subst e1
        have hm := MR.out rfl (by omega)
        clear SM LS MR hz2
        rcases hm with hm | ⟨h5, hm⟩
        · have ww : IntKind.i64.wrap (z1 + 1) = z2 := by rw [IntKind.wrap_i64]; omega
          clear hm
          have d1 : decide (z1 < 0) = false := by simp; omega
          have d2 : decide (6 < z1) = false := by simp; omega
          have d3 : decide (z2 < 0) = false := by simp; omega
          have d4 : decide (6 < z2) = false := by simp; omega
          clear hz1 b1 b2
          go_wp2_with (first
            | (refine wpList_store_mid rfl 29 _ _ rfl u7q.heap.size _ (wl c).toArray rfl rfl (h14q.out.thereW c) (HCZ.out c) (wl_all c) ?_
               have h15q : Hid (Gd n w ((u7q.alloc (.cells #[.int .u64 0, .int .u64 0, .int .u64 0, .int .u64 0, .int .u64 0, .int .u64 0, .int .u64 0, .int .u64 0, .int .u64 0, .int .u64 0, .int .u64 0, .int .u64 0, .int .u64 0, .int .u64 0, .int .u64 0, .int .u64 0, .int .u64 0] 29)).setCells u7q.heap.size 0 (wl c))) := h12q.out.asideL (by omega) 0 (wl c)
               have h16q : Hid (Bo ((u7q.alloc (.cells #[.int .u64 0, .int .u64 0, .int .u64 0, .int .u64 0, .int .u64 0, .int .u64 0, .int .u64 0, .int .u64 0, .int .u64 0, .int .u64 0, .int .u64 0, .int .u64 0, .int .u64 0, .int .u64 0, .int .u64 0, .int .u64 0, .int .u64 0] 29)).setCells u7q.heap.size 0 (wl c)) n [.int .i64 1, .int .i64 k, .int .i64 x]) := h13q.out.asideL (by omega) 0 (wl c)
               have h17q : Hid (Bo ((u7q.alloc (.cells #[.int .u64 0, .int .u64 0, .int .u64 0, .int .u64 0, .int .u64 0, .int .u64 0, .int .u64 0, .int .u64 0, .int .u64 0, .int .u64 0, .int .u64 0, .int .u64 0, .int .u64 0, .int .u64 0, .int .u64 0, .int .u64 0, .int .u64 0] 29)).setCells u7q.heap.size 0 (wl c)) u7q.heap.size (wl c)) := h14q.out.setW c
               clear h12q h13q h14q
               generalize ((u7q.alloc (.cells #[.int .u64 0, .int .u64 0, .int .u64 0, .int .u64 0, .int .u64 0, .int .u64 0, .int .u64 0, .int .u64 0, .int .u64 0, .int .u64 0, .int .u64 0, .int .u64 0, .int .u64 0, .int .u64 0, .int .u64 0, .int .u64 0, .int .u64 0] 29)).setCells u7q.heap.size 0 (wl c)) = u18q at h15q h16q h17q  ⊢
               have c19q := h16q.out.at 0 rfl
               have c20q := h16q.out.at 1 rfl
               have c21q := h16q.out.at 2 rfl)
            | (refine wpList_load_mid rfl 29 _ rfl u7q.heap.size _ rfl (wl c) _ h17q.out.range HC.out rfl (HCS.out c) ?_))
          refine (SZ.out _).mono ?_
          rintro e u22q ⟨rfl, hb⟩
          have h23q : Hid (Gd n w u22q) := h15q.out.later hb
          have h24q : Hid (Bo u22q n [.int .i64 1, .int .i64 k, .int .i64 x]) := h16q.out.later hb
          have h25q : Hid (Bo u22q u7q.heap.size (wl c)) := h17q.out.later hb
          clear h15q h16q h17q
          clear hb
          have c26q := h24q.out.at 0 rfl
          have c27q := h24q.out.at 1 rfl
          have c28q := h24q.out.at 2 rfl
          go_wp2_with (first
            | (refine wpList_load_mid rfl 29 _ rfl u7q.heap.size _ rfl (wl c) _ h25q.out.range HC.out rfl (HCS.out c) ?_))
          refine (DO.out _).mono ?_
          rintro e u29q ⟨rfl, hb⟩
          have h30q : Hid (Gd n w u29q) := h23q.out.later hb
          have h31q : Hid (Bo u29q n [.int .i64 1, .int .i64 k, .int .i64 x]) := h24q.out.later hb
          have h32q : Hid (Bo u29q u7q.heap.size (wl c)) := h25q.out.later hb
          clear h23q h24q h25q
          clear hb
          have l33q : n ≤ u29q.heap.size := h30q.out.le
          have l34q : n < u29q.heap.size := h31q.out.lt
          have l35q : u7q.heap.size < u29q.heap.size := h32q.out.lt
          have h36q : Hid (Gd n w (u29q.alloc (.cells #[.int .u64 0, .int .u64 0, .int .u64 0, .int .u64 0, .int .u64 0, .int .u64 0, .int .u64 0, .int .u64 0, .int .u64 0, .int .u64 0, .int .u64 0, .int .u64 0, .int .u64 0, .int .u64 0, .int .u64 0, .int .u64 0, .int .u64 0] 29))) := h30q.out.new (.cells #[.int .u64 0, .int .u64 0, .int .u64 0, .int .u64 0, .int .u64 0, .int .u64 0, .int .u64 0, .int .u64 0, .int .u64 0, .int .u64 0, .int .u64 0, .int .u64 0, .int .u64 0, .int .u64 0, .int .u64 0, .int .u64 0, .int .u64 0] 29)
          have h37q : Hid (Bo (u29q.alloc (.cells #[.int .u64 0, .int .u64 0, .int .u64 0, .int .u64 0, .int .u64 0, .int .u64 0, .int .u64 0, .int .u64 0, .int .u64 0, .int .u64 0, .int .u64 0, .int .u64 0, .int .u64 0, .int .u64 0, .int .u64 0, .int .u64 0, .int .u64 0] 29)) n [.int .i64 1, .int .i64 k, .int .i64 x]) := h31q.out.new (.cells #[.int .u64 0, .int .u64 0, .int .u64 0, .int .u64 0, .int .u64 0, .int .u64 0, .int .u64 0, .int .u64 0, .int .u64 0, .int .u64 0, .int .u64 0, .int .u64 0, .int .u64 0, .int .u64 0, .int .u64 0, .int .u64 0, .int .u64 0] 29)
          have h38q : Hid (Bo (u29q.alloc (.cells #[.int .u64 0, .int .u64 0, .int .u64 0, .int .u64 0, .int .u64 0, .int .u64 0, .int .u64 0, .int .u64 0, .int .u64 0, .int .u64 0, .int .u64 0, .int .u64 0, .int .u64 0, .int .u64 0, .int .u64 0, .int .u64 0, .int .u64 0] 29)) u7q.heap.size (wl c)) := h32q.out.new (.cells #[.int .u64 0, .int .u64 0, .int .u64 0, .int .u64 0, .int .u64 0, .int .u64 0, .int .u64 0, .int .u64 0, .int .u64 0, .int .u64 0, .int .u64 0, .int .u64 0, .int .u64 0, .int .u64 0, .int .u64 0, .int .u64 0, .int .u64 0] 29)
          clear h30q h31q h32q
          have h39q : Hid (Bo (u29q.alloc (.cells #[.int .u64 0, .int .u64 0, .int .u64 0, .int .u64 0, .int .u64 0, .int .u64 0, .int .u64 0, .int .u64 0, .int .u64 0, .int .u64 0, .int .u64 0, .int .u64 0, .int .u64 0, .int .u64 0, .int .u64 0, .int .u64 0, .int .u64 0] 29)) u29q.heap.size (wl wz)) := Bo.born u29q (wl wz) 29 (by simp)
          have h40q : Hid (Gd n w ((u29q.alloc (.cells #[.int .u64 0, .int .u64 0, .int .u64 0, .int .u64 0, .int .u64 0, .int .u64 0, .int .u64 0, .int .u64 0, .int .u64 0, .int .u64 0, .int .u64 0, .int .u64 0, .int .u64 0, .int .u64 0, .int .u64 0, .int .u64 0, .int .u64 0] 29)).alloc (.cells #[.int .i64 0, .int .i64 0] 32))) := h36q.out.new (.cells #[.int .i64 0, .int .i64 0] 32)
          have h41q : Hid (Bo ((u29q.alloc (.cells #[.int .u64 0, .int .u64 0, .int .u64 0, .int .u64 0, .int .u64 0, .int .u64 0, .int .u64 0, .int .u64 0, .int .u64 0, .int .u64 0, .int .u64 0, .int .u64 0, .int .u64 0, .int .u64 0, .int .u64 0, .int .u64 0, .int .u64 0] 29)).alloc (.cells #[.int .i64 0, .int .i64 0] 32)) n [.int .i64 1, .int .i64 k, .int .i64 x]) := h37q.out.new (.cells #[.int .i64 0, .int .i64 0] 32)
          have h42q : Hid (Bo ((u29q.alloc (.cells #[.int .u64 0, .int .u64 0, .int .u64 0, .int .u64 0, .int .u64 0, .int .u64 0, .int .u64 0, .int .u64 0, .int .u64 0, .int .u64 0, .int .u64 0, .int .u64 0, .int .u64 0, .int .u64 0, .int .u64 0, .int .u64 0, .int .u64 0] 29)).alloc (.cells #[.int .i64 0, .int .i64 0] 32)) u7q.heap.size (wl c)) := h38q.out.new (.cells #[.int .i64 0, .int .i64 0] 32)
          have h43q : Hid (Bo ((u29q.alloc (.cells #[.int .u64 0, .int .u64 0, .int .u64 0, .int .u64 0, .int .u64 0, .int .u64 0, .int .u64 0, .int .u64 0, .int .u64 0, .int .u64 0, .int .u64 0, .int .u64 0, .int .u64 0, .int .u64 0, .int .u64 0, .int .u64 0, .int .u64 0] 29)).alloc (.cells #[.int .i64 0, .int .i64 0] 32)) u29q.heap.size (wl wz)) := h39q.out.new (.cells #[.int .i64 0, .int .i64 0] 32)
          clear h36q h37q h38q h39q
          have h44q : Hid (Bo ((u29q.alloc (.cells #[.int .u64 0, .int .u64 0, .int .u64 0, .int .u64 0, .int .u64 0, .int .u64 0, .int .u64 0, .int .u64 0, .int .u64 0, .int .u64 0, .int .u64 0, .int .u64 0, .int .u64 0, .int .u64 0, .int .u64 0, .int .u64 0, .int .u64 0] 29)).alloc (.cells #[.int .i64 0, .int .i64 0] 32)) (u29q.heap.size + 1) [.int .i64 0, .int .i64 0]) := Bo.born (u29q.alloc (.cells #[.int .u64 0, .int .u64 0, .int .u64 0, .int .u64 0, .int .u64 0, .int .u64 0, .int .u64 0, .int .u64 0, .int .u64 0, .int .u64 0, .int .u64 0, .int .u64 0, .int .u64 0, .int .u64 0, .int .u64 0, .int .u64 0, .int .u64 0] 29)) [.int .i64 0, .int .i64 0] 32 (by simp)
          go_wp2_with (first
            | (refine wpList_store_mid rfl 29 _ _ rfl u29q.heap.size _ (wl u).toArray rfl rfl (h43q.out.thereW u) (HCZ.out u) (wl_all u) ?_
               have h45q : Hid (Gd n w (((u29q.alloc (.cells #[.int .u64 0, .int .u64 0, .int .u64 0, .int .u64 0, .int .u64 0, .int .u64 0, .int .u64 0, .int .u64 0, .int .u64 0, .int .u64 0, .int .u64 0, .int .u64 0, .int .u64 0, .int .u64 0, .int .u64 0, .int .u64 0, .int .u64 0] 29)).alloc (.cells #[.int .i64 0, .int .i64 0] 32)).setCells u29q.heap.size 0 (wl u))) := h40q.out.asideL (by omega) 0 (wl u)
               have h46q : Hid (Bo (((u29q.alloc (.cells #[.int .u64 0, .int .u64 0, .int .u64 0, .int .u64 0, .int .u64 0, .int .u64 0, .int .u64 0, .int .u64 0, .int .u64 0, .int .u64 0, .int .u64 0, .int .u64 0, .int .u64 0, .int .u64 0, .int .u64 0, .int .u64 0, .int .u64 0] 29)).alloc (.cells #[.int .i64 0, .int .i64 0] 32)).setCells u29q.heap.size 0 (wl u)) n [.int .i64 1, .int .i64 k, .int .i64 x]) := h41q.out.asideL (by omega) 0 (wl u)
               have h47q : Hid (Bo (((u29q.alloc (.cells #[.int .u64 0, .int .u64 0, .int .u64 0, .int .u64 0, .int .u64 0, .int .u64 0, .int .u64 0, .int .u64 0, .int .u64 0, .int .u64 0, .int .u64 0, .int .u64 0, .int .u64 0, .int .u64 0, .int .u64 0, .int .u64 0, .int .u64 0] 29)).alloc (.cells #[.int .i64 0, .int .i64 0] 32)).setCells u29q.heap.size 0 (wl u)) u7q.heap.size (wl c)) := h42q.out.asideL (by omega) 0 (wl u)
               have h48q : Hid (Bo (((u29q.alloc (.cells #[.int .u64 0, .int .u64 0, .int .u64 0, .int .u64 0, .int .u64 0, .int .u64 0, .int .u64 0, .int .u64 0, .int .u64 0, .int .u64 0, .int .u64 0, .int .u64 0, .int .u64 0, .int .u64 0, .int .u64 0, .int .u64 0, .int .u64 0] 29)).alloc (.cells #[.int .i64 0, .int .i64 0] 32)).setCells u29q.heap.size 0 (wl u)) u29q.heap.size (wl u)) := h43q.out.setW u
               have h49q : Hid (Bo (((u29q.alloc (.cells #[.int .u64 0, .int .u64 0, .int .u64 0, .int .u64 0, .int .u64 0, .int .u64 0, .int .u64 0, .int .u64 0, .int .u64 0, .int .u64 0, .int .u64 0, .int .u64 0, .int .u64 0, .int .u64 0, .int .u64 0, .int .u64 0, .int .u64 0] 29)).alloc (.cells #[.int .i64 0, .int .i64 0] 32)).setCells u29q.heap.size 0 (wl u)) (u29q.heap.size + 1) [.int .i64 0, .int .i64 0]) := h44q.out.asideL (by omega) 0 (wl u)
               clear h40q h41q h42q h43q h44q
               generalize (((u29q.alloc (.cells #[.int .u64 0, .int .u64 0, .int .u64 0, .int .u64 0, .int .u64 0, .int .u64 0, .int .u64 0, .int .u64 0, .int .u64 0, .int .u64 0, .int .u64 0, .int .u64 0, .int .u64 0, .int .u64 0, .int .u64 0, .int .u64 0, .int .u64 0] 29)).alloc (.cells #[.int .i64 0, .int .i64 0] 32)).setCells u29q.heap.size 0 (wl u)) = u50q at h45q h46q h47q h48q h49q  ⊢)
            | (refine wpList_store_mid rfl 32 _ _ rfl (u29q.heap.size + 1) _ #[.int .i64 (1), .int .i64 (yy)] rfl rfl h49q.out.there2 HA.out (two_one _ _) ?_
               have h51q : Hid (Gd n w (u50q.setCells (u29q.heap.size + 1) 0 [.int .i64 (1), .int .i64 (yy)])) := h45q.out.asideL (by omega) 0 [.int .i64 (1), .int .i64 (yy)]
               have h52q : Hid (Bo (u50q.setCells (u29q.heap.size + 1) 0 [.int .i64 (1), .int .i64 (yy)]) n [.int .i64 1, .int .i64 k, .int .i64 x]) := h46q.out.asideL (by omega) 0 [.int .i64 (1), .int .i64 (yy)]
               have h53q : Hid (Bo (u50q.setCells (u29q.heap.size + 1) 0 [.int .i64 (1), .int .i64 (yy)]) u7q.heap.size (wl c)) := h47q.out.asideL (by omega) 0 [.int .i64 (1), .int .i64 (yy)]
               have h54q : Hid (Bo (u50q.setCells (u29q.heap.size + 1) 0 [.int .i64 (1), .int .i64 (yy)]) u29q.heap.size (wl u)) := h48q.out.asideL (by omega) 0 [.int .i64 (1), .int .i64 (yy)]
               have h55q : Hid (Bo (u50q.setCells (u29q.heap.size + 1) 0 [.int .i64 (1), .int .i64 (yy)]) (u29q.heap.size + 1) [.int .i64 (1), .int .i64 (yy)]) := h49q.out.set2 (.int .i64 (1)) (.int .i64 (yy))
               clear h45q h46q h47q h48q h49q
               generalize (u50q.setCells (u29q.heap.size + 1) 0 [.int .i64 (1), .int .i64 (yy)]) = u56q at h51q h52q h53q h54q h55q  ⊢)
            | (refine wpList_load_mid rfl 29 _ rfl u29q.heap.size _ rfl (wl u) _ h54q.out.range HC.out rfl (HCS.out u) ?_))
          refine (SU.out _).mono ?_
          rintro e u57q ⟨rfl, hb⟩
          have h58q : Hid (Gd n w u57q) := h51q.out.later hb
          have h59q : Hid (Bo u57q n [.int .i64 1, .int .i64 k, .int .i64 x]) := h52q.out.later hb
          have h60q : Hid (Bo u57q u7q.heap.size (wl c)) := h53q.out.later hb
          have h61q : Hid (Bo u57q u29q.heap.size (wl u)) := h54q.out.later hb
          have h62q : Hid (Bo u57q (u29q.heap.size + 1) [.int .i64 (1), .int .i64 (yy)]) := h55q.out.later hb
          clear h51q h52q h53q h54q h55q
          clear hb
          have c63q := h59q.out.at 0 rfl
          have c64q := h62q.out.at 0 rfl
          have c65q := h62q.out.at 1 rfl
          go_wp2
          go_ret
          exact ⟨rfl, by first | exact h58q.out.low | exact h58q.out.2⟩
        · obtain ⟨z3, hz3⟩ : ∃ z3, z3 = z1 + 1 := ⟨_, rfl⟩
          have ww : IntKind.i64.wrap (z1 + 1) = z3 := by rw [IntKind.wrap_i64]; omega
          have wn : (z1 == z3) = false := by simp; omega
          clear hz3
          have n5 : (((r : Nat) : Int) == 5) = true := by simp [h5]
          clear h5
          have hm := hm.symm
          subst hm
          have d1 : decide (z1 < 0) = false := by simp; omega
          have d2 : decide (6 < z1) = false := by simp; omega
          clear hz1 b1 b2
          go_wp2_with (first
            | (refine wpList_store_mid rfl 29 _ _ rfl u7q.heap.size _ (wl c).toArray rfl rfl (h14q.out.thereW c) (HCZ.out c) (wl_all c) ?_
               have h66q : Hid (Gd n w ((u7q.alloc (.cells #[.int .u64 0, .int .u64 0, .int .u64 0, .int .u64 0, .int .u64 0, .int .u64 0, .int .u64 0, .int .u64 0, .int .u64 0, .int .u64 0, .int .u64 0, .int .u64 0, .int .u64 0, .int .u64 0, .int .u64 0, .int .u64 0, .int .u64 0] 29)).setCells u7q.heap.size 0 (wl c))) := h12q.out.asideL (by omega) 0 (wl c)
               have h67q : Hid (Bo ((u7q.alloc (.cells #[.int .u64 0, .int .u64 0, .int .u64 0, .int .u64 0, .int .u64 0, .int .u64 0, .int .u64 0, .int .u64 0, .int .u64 0, .int .u64 0, .int .u64 0, .int .u64 0, .int .u64 0, .int .u64 0, .int .u64 0, .int .u64 0, .int .u64 0] 29)).setCells u7q.heap.size 0 (wl c)) n [.int .i64 1, .int .i64 k, .int .i64 x]) := h13q.out.asideL (by omega) 0 (wl c)
               have h68q : Hid (Bo ((u7q.alloc (.cells #[.int .u64 0, .int .u64 0, .int .u64 0, .int .u64 0, .int .u64 0, .int .u64 0, .int .u64 0, .int .u64 0, .int .u64 0, .int .u64 0, .int .u64 0, .int .u64 0, .int .u64 0, .int .u64 0, .int .u64 0, .int .u64 0, .int .u64 0] 29)).setCells u7q.heap.size 0 (wl c)) u7q.heap.size (wl c)) := h14q.out.setW c
               clear h12q h13q h14q
               generalize ((u7q.alloc (.cells #[.int .u64 0, .int .u64 0, .int .u64 0, .int .u64 0, .int .u64 0, .int .u64 0, .int .u64 0, .int .u64 0, .int .u64 0, .int .u64 0, .int .u64 0, .int .u64 0, .int .u64 0, .int .u64 0, .int .u64 0, .int .u64 0, .int .u64 0] 29)).setCells u7q.heap.size 0 (wl c)) = u69q at h66q h67q h68q  ⊢
               have c70q := h67q.out.at 0 rfl
               have c71q := h67q.out.at 1 rfl
               have c72q := h67q.out.at 2 rfl)
            | (refine wpList_load_mid rfl 29 _ rfl u7q.heap.size _ rfl (wl c) _ h68q.out.range HC.out rfl (HCS.out c) ?_))
          refine (SZ.out _).mono ?_
          rintro e u73q ⟨rfl, hb⟩
          have h74q : Hid (Gd n w u73q) := h66q.out.later hb
          have h75q : Hid (Bo u73q n [.int .i64 1, .int .i64 k, .int .i64 x]) := h67q.out.later hb
          have h76q : Hid (Bo u73q u7q.heap.size (wl c)) := h68q.out.later hb
          clear h66q h67q h68q
          clear hb
          have c77q := h75q.out.at 0 rfl
          have c78q := h75q.out.at 1 rfl
          have c79q := h75q.out.at 2 rfl
          go_wp2_with (first
            | (refine wpList_load_mid rfl 29 _ rfl u7q.heap.size _ rfl (wl c) _ h76q.out.range HC.out rfl (HCS.out c) ?_))
          refine (DO.out _).mono ?_
          rintro e u80q ⟨rfl, hb⟩
          have h81q : Hid (Gd n w u80q) := h74q.out.later hb
          have h82q : Hid (Bo u80q n [.int .i64 1, .int .i64 k, .int .i64 x]) := h75q.out.later hb
          have h83q : Hid (Bo u80q u7q.heap.size (wl c)) := h76q.out.later hb
          clear h74q h75q h76q
          clear hb
          have l84q : n ≤ u80q.heap.size := h81q.out.le
          have l85q : n < u80q.heap.size := h82q.out.lt
          have l86q : u7q.heap.size < u80q.heap.size := h83q.out.lt
          have h87q : Hid (Gd n w (u80q.alloc (.cells #[.int .u64 0, .int .u64 0, .int .u64 0, .int .u64 0, .int .u64 0, .int .u64 0, .int .u64 0, .int .u64 0, .int .u64 0, .int .u64 0, .int .u64 0, .int .u64 0, .int .u64 0, .int .u64 0, .int .u64 0, .int .u64 0, .int .u64 0] 29))) := h81q.out.new (.cells #[.int .u64 0, .int .u64 0, .int .u64 0, .int .u64 0, .int .u64 0, .int .u64 0, .int .u64 0, .int .u64 0, .int .u64 0, .int .u64 0, .int .u64 0, .int .u64 0, .int .u64 0, .int .u64 0, .int .u64 0, .int .u64 0, .int .u64 0] 29)
          have h88q : Hid (Bo (u80q.alloc (.cells #[.int .u64 0, .int .u64 0, .int .u64 0, .int .u64 0, .int .u64 0, .int .u64 0, .int .u64 0, .int .u64 0, .int .u64 0, .int .u64 0, .int .u64 0, .int .u64 0, .int .u64 0, .int .u64 0, .int .u64 0, .int .u64 0, .int .u64 0] 29)) n [.int .i64 1, .int .i64 k, .int .i64 x]) := h82q.out.new (.cells #[.int .u64 0, .int .u64 0, .int .u64 0, .int .u64 0, .int .u64 0, .int .u64 0, .int .u64 0, .int .u64 0, .int .u64 0, .int .u64 0, .int .u64 0, .int .u64 0, .int .u64 0, .int .u64 0, .int .u64 0, .int .u64 0, .int .u64 0] 29)
          have h89q : Hid (Bo (u80q.alloc (.cells #[.int .u64 0, .int .u64 0, .int .u64 0, .int .u64 0, .int .u64 0, .int .u64 0, .int .u64 0, .int .u64 0, .int .u64 0, .int .u64 0, .int .u64 0, .int .u64 0, .int .u64 0, .int .u64 0, .int .u64 0, .int .u64 0, .int .u64 0] 29)) u7q.heap.size (wl c)) := h83q.out.new (.cells #[.int .u64 0, .int .u64 0, .int .u64 0, .int .u64 0, .int .u64 0, .int .u64 0, .int .u64 0, .int .u64 0, .int .u64 0, .int .u64 0, .int .u64 0, .int .u64 0, .int .u64 0, .int .u64 0, .int .u64 0, .int .u64 0, .int .u64 0] 29)
          clear h81q h82q h83q
          have h90q : Hid (Bo (u80q.alloc (.cells #[.int .u64 0, .int .u64 0, .int .u64 0, .int .u64 0, .int .u64 0, .int .u64 0, .int .u64 0, .int .u64 0, .int .u64 0, .int .u64 0, .int .u64 0, .int .u64 0, .int .u64 0, .int .u64 0, .int .u64 0, .int .u64 0, .int .u64 0] 29)) u80q.heap.size (wl wz)) := Bo.born u80q (wl wz) 29 (by simp)
          have h91q : Hid (Gd n w ((u80q.alloc (.cells #[.int .u64 0, .int .u64 0, .int .u64 0, .int .u64 0, .int .u64 0, .int .u64 0, .int .u64 0, .int .u64 0, .int .u64 0, .int .u64 0, .int .u64 0, .int .u64 0, .int .u64 0, .int .u64 0, .int .u64 0, .int .u64 0, .int .u64 0] 29)).alloc (.cells #[.int .i64 0, .int .i64 0] 32))) := h87q.out.new (.cells #[.int .i64 0, .int .i64 0] 32)
          have h92q : Hid (Bo ((u80q.alloc (.cells #[.int .u64 0, .int .u64 0, .int .u64 0, .int .u64 0, .int .u64 0, .int .u64 0, .int .u64 0, .int .u64 0, .int .u64 0, .int .u64 0, .int .u64 0, .int .u64 0, .int .u64 0, .int .u64 0, .int .u64 0, .int .u64 0, .int .u64 0] 29)).alloc (.cells #[.int .i64 0, .int .i64 0] 32)) n [.int .i64 1, .int .i64 k, .int .i64 x]) := h88q.out.new (.cells #[.int .i64 0, .int .i64 0] 32)
          have h93q : Hid (Bo ((u80q.alloc (.cells #[.int .u64 0, .int .u64 0, .int .u64 0, .int .u64 0, .int .u64 0, .int .u64 0, .int .u64 0, .int .u64 0, .int .u64 0, .int .u64 0, .int .u64 0, .int .u64 0, .int .u64 0, .int .u64 0, .int .u64 0, .int .u64 0, .int .u64 0] 29)).alloc (.cells #[.int .i64 0, .int .i64 0] 32)) u7q.heap.size (wl c)) := h89q.out.new (.cells #[.int .i64 0, .int .i64 0] 32)
          have h94q : Hid (Bo ((u80q.alloc (.cells #[.int .u64 0, .int .u64 0, .int .u64 0, .int .u64 0, .int .u64 0, .int .u64 0, .int .u64 0, .int .u64 0, .int .u64 0, .int .u64 0, .int .u64 0, .int .u64 0, .int .u64 0, .int .u64 0, .int .u64 0, .int .u64 0, .int .u64 0] 29)).alloc (.cells #[.int .i64 0, .int .i64 0] 32)) u80q.heap.size (wl wz)) := h90q.out.new (.cells #[.int .i64 0, .int .i64 0] 32)
          clear h87q h88q h89q h90q
          have h95q : Hid (Bo ((u80q.alloc (.cells #[.int .u64 0, .int .u64 0, .int .u64 0, .int .u64 0, .int .u64 0, .int .u64 0, .int .u64 0, .int .u64 0, .int .u64 0, .int .u64 0, .int .u64 0, .int .u64 0, .int .u64 0, .int .u64 0, .int .u64 0, .int .u64 0, .int .u64 0] 29)).alloc (.cells #[.int .i64 0, .int .i64 0] 32)) (u80q.heap.size + 1) [.int .i64 0, .int .i64 0]) := Bo.born (u80q.alloc (.cells #[.int .u64 0, .int .u64 0, .int .u64 0, .int .u64 0, .int .u64 0, .int .u64 0, .int .u64 0, .int .u64 0, .int .u64 0, .int .u64 0, .int .u64 0, .int .u64 0, .int .u64 0, .int .u64 0, .int .u64 0, .int .u64 0, .int .u64 0] 29)) [.int .i64 0, .int .i64 0] 32 (by simp)
          go_wp2_with (first
            | (refine wpList_store_mid rfl 29 _ _ rfl u80q.heap.size _ (wl u).toArray rfl rfl (h94q.out.thereW u) (HCZ.out u) (wl_all u) ?_
               have h96q : Hid (Gd n w (((u80q.alloc (.cells #[.int .u64 0, .int .u64 0, .int .u64 0, .int .u64 0, .int .u64 0, .int .u64 0, .int .u64 0, .int .u64 0, .int .u64 0, .int .u64 0, .int .u64 0, .int .u64 0, .int .u64 0, .int .u64 0, .int .u64 0, .int .u64 0, .int .u64 0] 29)).alloc (.cells #[.int .i64 0, .int .i64 0] 32)).setCells u80q.heap.size 0 (wl u))) := h91q.out.asideL (by omega) 0 (wl u)
               have h97q : Hid (Bo (((u80q.alloc (.cells #[.int .u64 0, .int .u64 0, .int .u64 0, .int .u64 0, .int .u64 0, .int .u64 0, .int .u64 0, .int .u64 0, .int .u64 0, .int .u64 0, .int .u64 0, .int .u64 0, .int .u64 0, .int .u64 0, .int .u64 0, .int .u64 0, .int .u64 0] 29)).alloc (.cells #[.int .i64 0, .int .i64 0] 32)).setCells u80q.heap.size 0 (wl u)) n [.int .i64 1, .int .i64 k, .int .i64 x]) := h92q.out.asideL (by omega) 0 (wl u)
               have h98q : Hid (Bo (((u80q.alloc (.cells #[.int .u64 0, .int .u64 0, .int .u64 0, .int .u64 0, .int .u64 0, .int .u64 0, .int .u64 0, .int .u64 0, .int .u64 0, .int .u64 0, .int .u64 0, .int .u64 0, .int .u64 0, .int .u64 0, .int .u64 0, .int .u64 0, .int .u64 0] 29)).alloc (.cells #[.int .i64 0, .int .i64 0] 32)).setCells u80q.heap.size 0 (wl u)) u7q.heap.size (wl c)) := h93q.out.asideL (by omega) 0 (wl u)
               have h99q : Hid (Bo (((u80q.alloc (.cells #[.int .u64 0, .int .u64 0, .int .u64 0, .int .u64 0, .int .u64 0, .int .u64 0, .int .u64 0, .int .u64 0, .int .u64 0, .int .u64 0, .int .u64 0, .int .u64 0, .int .u64 0, .int .u64 0, .int .u64 0, .int .u64 0, .int .u64 0] 29)).alloc (.cells #[.int .i64 0, .int .i64 0] 32)).setCells u80q.heap.size 0 (wl u)) u80q.heap.size (wl u)) := h94q.out.setW u
               have h100q : Hid (Bo (((u80q.alloc (.cells #[.int .u64 0, .int .u64 0, .int .u64 0, .int .u64 0, .int .u64 0, .int .u64 0, .int .u64 0, .int .u64 0, .int .u64 0, .int .u64 0, .int .u64 0, .int .u64 0, .int .u64 0, .int .u64 0, .int .u64 0, .int .u64 0, .int .u64 0] 29)).alloc (.cells #[.int .i64 0, .int .i64 0] 32)).setCells u80q.heap.size 0 (wl u)) (u80q.heap.size + 1) [.int .i64 0, .int .i64 0]) := h95q.out.asideL (by omega) 0 (wl u)
               clear h91q h92q h93q h94q h95q
               generalize (((u80q.alloc (.cells #[.int .u64 0, .int .u64 0, .int .u64 0, .int .u64 0, .int .u64 0, .int .u64 0, .int .u64 0, .int .u64 0, .int .u64 0, .int .u64 0, .int .u64 0, .int .u64 0, .int .u64 0, .int .u64 0, .int .u64 0, .int .u64 0, .int .u64 0] 29)).alloc (.cells #[.int .i64 0, .int .i64 0] 32)).setCells u80q.heap.size 0 (wl u)) = u101q at h96q h97q h98q h99q h100q  ⊢)
            | (refine wpList_store_mid rfl 32 _ _ rfl (u80q.heap.size + 1) _ #[.int .i64 (1), .int .i64 (yy)] rfl rfl h100q.out.there2 HA.out (two_one _ _) ?_
               have h102q : Hid (Gd n w (u101q.setCells (u80q.heap.size + 1) 0 [.int .i64 (1), .int .i64 (yy)])) := h96q.out.asideL (by omega) 0 [.int .i64 (1), .int .i64 (yy)]
               have h103q : Hid (Bo (u101q.setCells (u80q.heap.size + 1) 0 [.int .i64 (1), .int .i64 (yy)]) n [.int .i64 1, .int .i64 k, .int .i64 x]) := h97q.out.asideL (by omega) 0 [.int .i64 (1), .int .i64 (yy)]
               have h104q : Hid (Bo (u101q.setCells (u80q.heap.size + 1) 0 [.int .i64 (1), .int .i64 (yy)]) u7q.heap.size (wl c)) := h98q.out.asideL (by omega) 0 [.int .i64 (1), .int .i64 (yy)]
               have h105q : Hid (Bo (u101q.setCells (u80q.heap.size + 1) 0 [.int .i64 (1), .int .i64 (yy)]) u80q.heap.size (wl u)) := h99q.out.asideL (by omega) 0 [.int .i64 (1), .int .i64 (yy)]
               have h106q : Hid (Bo (u101q.setCells (u80q.heap.size + 1) 0 [.int .i64 (1), .int .i64 (yy)]) (u80q.heap.size + 1) [.int .i64 (1), .int .i64 (yy)]) := h100q.out.set2 (.int .i64 (1)) (.int .i64 (yy))
               clear h96q h97q h98q h99q h100q
               generalize (u101q.setCells (u80q.heap.size + 1) 0 [.int .i64 (1), .int .i64 (yy)]) = u107q at h102q h103q h104q h105q h106q  ⊢)
            | (refine wpList_load_mid rfl 29 _ rfl u80q.heap.size _ rfl (wl u) _ h105q.out.range HC.out rfl (HCS.out u) ?_))
          refine (SU.out _).mono ?_
          rintro e u108q ⟨rfl, hb⟩
          have h109q : Hid (Gd n w u108q) := h102q.out.later hb
          have h110q : Hid (Bo u108q n [.int .i64 1, .int .i64 k, .int .i64 x]) := h103q.out.later hb
          have h111q : Hid (Bo u108q u7q.heap.size (wl c)) := h104q.out.later hb
          have h112q : Hid (Bo u108q u80q.heap.size (wl u)) := h105q.out.later hb
          have h113q : Hid (Bo u108q (u80q.heap.size + 1) [.int .i64 (1), .int .i64 (yy)]) := h106q.out.later hb
          clear h102q h103q h104q h105q h106q
          clear hb
          have c114q := h110q.out.at 0 rfl
          have c115q := h113q.out.at 0 rfl
          have c116q := h113q.out.at 1 rfl
          go_wp2
          go_ret
          exact ⟨rfl, by first | exact h109q.out.low | exact h109q.out.2⟩
      · subst e2
        have hm := LS.out rfl (by omega)
        clear SM LS MR hz2
        have ww : IntKind.i64.wrap (z1 - 1) = z2 := by rw [IntKind.wrap_i64]; omega
        clear hm
        have d1 : decide (z1 < 0) = false := by simp; omega
        have d2 : decide (6 < z1) = false := by simp; omega
        have d3 : decide (z2 < 0) = false := by simp; omega
        have d4 : decide (6 < z2) = false := by simp; omega
        clear hz1 b1 b2
        go_wp2_with (first
          | (refine wpList_store_mid rfl 29 _ _ rfl u7q.heap.size _ (wl c).toArray rfl rfl (h14q.out.thereW c) (HCZ.out c) (wl_all c) ?_
             have h117q : Hid (Gd n w ((u7q.alloc (.cells #[.int .u64 0, .int .u64 0, .int .u64 0, .int .u64 0, .int .u64 0, .int .u64 0, .int .u64 0, .int .u64 0, .int .u64 0, .int .u64 0, .int .u64 0, .int .u64 0, .int .u64 0, .int .u64 0, .int .u64 0, .int .u64 0, .int .u64 0] 29)).setCells u7q.heap.size 0 (wl c))) := h12q.out.asideL (by omega) 0 (wl c)
             have h118q : Hid (Bo ((u7q.alloc (.cells #[.int .u64 0, .int .u64 0, .int .u64 0, .int .u64 0, .int .u64 0, .int .u64 0, .int .u64 0, .int .u64 0, .int .u64 0, .int .u64 0, .int .u64 0, .int .u64 0, .int .u64 0, .int .u64 0, .int .u64 0, .int .u64 0, .int .u64 0] 29)).setCells u7q.heap.size 0 (wl c)) n [.int .i64 2, .int .i64 k, .int .i64 x]) := h13q.out.asideL (by omega) 0 (wl c)
             have h119q : Hid (Bo ((u7q.alloc (.cells #[.int .u64 0, .int .u64 0, .int .u64 0, .int .u64 0, .int .u64 0, .int .u64 0, .int .u64 0, .int .u64 0, .int .u64 0, .int .u64 0, .int .u64 0, .int .u64 0, .int .u64 0, .int .u64 0, .int .u64 0, .int .u64 0, .int .u64 0] 29)).setCells u7q.heap.size 0 (wl c)) u7q.heap.size (wl c)) := h14q.out.setW c
             clear h12q h13q h14q
             generalize ((u7q.alloc (.cells #[.int .u64 0, .int .u64 0, .int .u64 0, .int .u64 0, .int .u64 0, .int .u64 0, .int .u64 0, .int .u64 0, .int .u64 0, .int .u64 0, .int .u64 0, .int .u64 0, .int .u64 0, .int .u64 0, .int .u64 0, .int .u64 0, .int .u64 0] 29)).setCells u7q.heap.size 0 (wl c)) = u120q at h117q h118q h119q  ⊢
             have c121q := h118q.out.at 0 rfl
             have c122q := h118q.out.at 1 rfl
             have c123q := h118q.out.at 2 rfl)
          | (refine wpList_load_mid rfl 29 _ rfl u7q.heap.size _ rfl (wl c) _ h119q.out.range HC.out rfl (HCS.out c) ?_))
        refine (SZ.out _).mono ?_
        rintro e u124q ⟨rfl, hb⟩
        have h125q : Hid (Gd n w u124q) := h117q.out.later hb
        have h126q : Hid (Bo u124q n [.int .i64 2, .int .i64 k, .int .i64 x]) := h118q.out.later hb
        have h127q : Hid (Bo u124q u7q.heap.size (wl c)) := h119q.out.later hb
        clear h117q h118q h119q
        clear hb
        have c128q := h126q.out.at 0 rfl
        have c129q := h126q.out.at 1 rfl
        have c130q := h126q.out.at 2 rfl
        go_wp2_with (first
          | (refine wpList_load_mid rfl 29 _ rfl u7q.heap.size _ rfl (wl c) _ h127q.out.range HC.out rfl (HCS.out c) ?_))
        refine (DO.out _).mono ?_
        rintro e u131q ⟨rfl, hb⟩
        have h132q : Hid (Gd n w u131q) := h125q.out.later hb
        have h133q : Hid (Bo u131q n [.int .i64 2, .int .i64 k, .int .i64 x]) := h126q.out.later hb
        have h134q : Hid (Bo u131q u7q.heap.size (wl c)) := h127q.out.later hb
        clear h125q h126q h127q
        clear hb
        have l135q : n ≤ u131q.heap.size := h132q.out.le
        have l136q : n < u131q.heap.size := h133q.out.lt
        have l137q : u7q.heap.size < u131q.heap.size := h134q.out.lt
        have h138q : Hid (Gd n w (u131q.alloc (.cells #[.int .u64 0, .int .u64 0, .int .u64 0, .int .u64 0, .int .u64 0, .int .u64 0, .int .u64 0, .int .u64 0, .int .u64 0, .int .u64 0, .int .u64 0, .int .u64 0, .int .u64 0, .int .u64 0, .int .u64 0, .int .u64 0, .int .u64 0] 29))) := h132q.out.new (.cells #[.int .u64 0, .int .u64 0, .int .u64 0, .int .u64 0, .int .u64 0, .int .u64 0, .int .u64 0, .int .u64 0, .int .u64 0, .int .u64 0, .int .u64 0, .int .u64 0, .int .u64 0, .int .u64 0, .int .u64 0, .int .u64 0, .int .u64 0] 29)
        have h139q : Hid (Bo (u131q.alloc (.cells #[.int .u64 0, .int .u64 0, .int .u64 0, .int .u64 0, .int .u64 0, .int .u64 0, .int .u64 0, .int .u64 0, .int .u64 0, .int .u64 0, .int .u64 0, .int .u64 0, .int .u64 0, .int .u64 0, .int .u64 0, .int .u64 0, .int .u64 0] 29)) n [.int .i64 2, .int .i64 k, .int .i64 x]) := h133q.out.new (.cells #[.int .u64 0, .int .u64 0, .int .u64 0, .int .u64 0, .int .u64 0, .int .u64 0, .int .u64 0, .int .u64 0, .int .u64 0, .int .u64 0, .int .u64 0, .int .u64 0, .int .u64 0, .int .u64 0, .int .u64 0, .int .u64 0, .int .u64 0] 29)
        have h140q : Hid (Bo (u131q.alloc (.cells #[.int .u64 0, .int .u64 0, .int .u64 0, .int .u64 0, .int .u64 0, .int .u64 0, .int .u64 0, .int .u64 0, .int .u64 0, .int .u64 0, .int .u64 0, .int .u64 0, .int .u64 0, .int .u64 0, .int .u64 0, .int .u64 0, .int .u64 0] 29)) u7q.heap.size (wl c)) := h134q.out.new (.cells #[.int .u64 0, .int .u64 0, .int .u64 0, .int .u64 0, .int .u64 0, .int .u64 0, .int .u64 0, .int .u64 0, .int .u64 0, .int .u64 0, .int .u64 0, .int .u64 0, .int .u64 0, .int .u64 0, .int .u64 0, .int .u64 0, .int .u64 0] 29)
        clear h132q h133q h134q
        have h141q : Hid (Bo (u131q.alloc (.cells #[.int .u64 0, .int .u64 0, .int .u64 0, .int .u64 0, .int .u64 0, .int .u64 0, .int .u64 0, .int .u64 0, .int .u64 0, .int .u64 0, .int .u64 0, .int .u64 0, .int .u64 0, .int .u64 0, .int .u64 0, .int .u64 0, .int .u64 0] 29)) u131q.heap.size (wl wz)) := Bo.born u131q (wl wz) 29 (by simp)
        have h142q : Hid (Gd n w ((u131q.alloc (.cells #[.int .u64 0, .int .u64 0, .int .u64 0, .int .u64 0, .int .u64 0, .int .u64 0, .int .u64 0, .int .u64 0, .int .u64 0, .int .u64 0, .int .u64 0, .int .u64 0, .int .u64 0, .int .u64 0, .int .u64 0, .int .u64 0, .int .u64 0] 29)).alloc (.cells #[.int .i64 0, .int .i64 0] 32))) := h138q.out.new (.cells #[.int .i64 0, .int .i64 0] 32)
        have h143q : Hid (Bo ((u131q.alloc (.cells #[.int .u64 0, .int .u64 0, .int .u64 0, .int .u64 0, .int .u64 0, .int .u64 0, .int .u64 0, .int .u64 0, .int .u64 0, .int .u64 0, .int .u64 0, .int .u64 0, .int .u64 0, .int .u64 0, .int .u64 0, .int .u64 0, .int .u64 0] 29)).alloc (.cells #[.int .i64 0, .int .i64 0] 32)) n [.int .i64 2, .int .i64 k, .int .i64 x]) := h139q.out.new (.cells #[.int .i64 0, .int .i64 0] 32)
        have h144q : Hid (Bo ((u131q.alloc (.cells #[.int .u64 0, .int .u64 0, .int .u64 0, .int .u64 0, .int .u64 0, .int .u64 0, .int .u64 0, .int .u64 0, .int .u64 0, .int .u64 0, .int .u64 0, .int .u64 0, .int .u64 0, .int .u64 0, .int .u64 0, .int .u64 0, .int .u64 0] 29)).alloc (.cells #[.int .i64 0, .int .i64 0] 32)) u7q.heap.size (wl c)) := h140q.out.new (.cells #[.int .i64 0, .int .i64 0] 32)
        have h145q : Hid (Bo ((u131q.alloc (.cells #[.int .u64 0, .int .u64 0, .int .u64 0, .int .u64 0, .int .u64 0, .int .u64 0, .int .u64 0, .int .u64 0, .int .u64 0, .int .u64 0, .int .u64 0, .int .u64 0, .int .u64 0, .int .u64 0, .int .u64 0, .int .u64 0, .int .u64 0] 29)).alloc (.cells #[.int .i64 0, .int .i64 0] 32)) u131q.heap.size (wl wz)) := h141q.out.new (.cells #[.int .i64 0, .int .i64 0] 32)
        clear h138q h139q h140q h141q
        have h146q : Hid (Bo ((u131q.alloc (.cells #[.int .u64 0, .int .u64 0, .int .u64 0, .int .u64 0, .int .u64 0, .int .u64 0, .int .u64 0, .int .u64 0, .int .u64 0, .int .u64 0, .int .u64 0, .int .u64 0, .int .u64 0, .int .u64 0, .int .u64 0, .int .u64 0, .int .u64 0] 29)).alloc (.cells #[.int .i64 0, .int .i64 0] 32)) (u131q.heap.size + 1) [.int .i64 0, .int .i64 0]) := Bo.born (u131q.alloc (.cells #[.int .u64 0, .int .u64 0, .int .u64 0, .int .u64 0, .int .u64 0, .int .u64 0, .int .u64 0, .int .u64 0, .int .u64 0, .int .u64 0, .int .u64 0, .int .u64 0, .int .u64 0, .int .u64 0, .int .u64 0, .int .u64 0, .int .u64 0] 29)) [.int .i64 0, .int .i64 0] 32 (by simp)
        go_wp2_with (first
          | (refine wpList_store_mid rfl 29 _ _ rfl u131q.heap.size _ (wl u).toArray rfl rfl (h145q.out.thereW u) (HCZ.out u) (wl_all u) ?_
             have h147q : Hid (Gd n w (((u131q.alloc (.cells #[.int .u64 0, .int .u64 0, .int .u64 0, .int .u64 0, .int .u64 0, .int .u64 0, .int .u64 0, .int .u64 0, .int .u64 0, .int .u64 0, .int .u64 0, .int .u64 0, .int .u64 0, .int .u64 0, .int .u64 0, .int .u64 0, .int .u64 0] 29)).alloc (.cells #[.int .i64 0, .int .i64 0] 32)).setCells u131q.heap.size 0 (wl u))) := h142q.out.asideL (by omega) 0 (wl u)
             have h148q : Hid (Bo (((u131q.alloc (.cells #[.int .u64 0, .int .u64 0, .int .u64 0, .int .u64 0, .int .u64 0, .int .u64 0, .int .u64 0, .int .u64 0, .int .u64 0, .int .u64 0, .int .u64 0, .int .u64 0, .int .u64 0, .int .u64 0, .int .u64 0, .int .u64 0, .int .u64 0] 29)).alloc (.cells #[.int .i64 0, .int .i64 0] 32)).setCells u131q.heap.size 0 (wl u)) n [.int .i64 2, .int .i64 k, .int .i64 x]) := h143q.out.asideL (by omega) 0 (wl u)
             have h149q : Hid (Bo (((u131q.alloc (.cells #[.int .u64 0, .int .u64 0, .int .u64 0, .int .u64 0, .int .u64 0, .int .u64 0, .int .u64 0, .int .u64 0, .int .u64 0, .int .u64 0, .int .u64 0, .int .u64 0, .int .u64 0, .int .u64 0, .int .u64 0, .int .u64 0, .int .u64 0] 29)).alloc (.cells #[.int .i64 0, .int .i64 0] 32)).setCells u131q.heap.size 0 (wl u)) u7q.heap.size (wl c)) := h144q.out.asideL (by omega) 0 (wl u)
             have h150q : Hid (Bo (((u131q.alloc (.cells #[.int .u64 0, .int .u64 0, .int .u64 0, .int .u64 0, .int .u64 0, .int .u64 0, .int .u64 0, .int .u64 0, .int .u64 0, .int .u64 0, .int .u64 0, .int .u64 0, .int .u64 0, .int .u64 0, .int .u64 0, .int .u64 0, .int .u64 0] 29)).alloc (.cells #[.int .i64 0, .int .i64 0] 32)).setCells u131q.heap.size 0 (wl u)) u131q.heap.size (wl u)) := h145q.out.setW u
             have h151q : Hid (Bo (((u131q.alloc (.cells #[.int .u64 0, .int .u64 0, .int .u64 0, .int .u64 0, .int .u64 0, .int .u64 0, .int .u64 0, .int .u64 0, .int .u64 0, .int .u64 0, .int .u64 0, .int .u64 0, .int .u64 0, .int .u64 0, .int .u64 0, .int .u64 0, .int .u64 0] 29)).alloc (.cells #[.int .i64 0, .int .i64 0] 32)).setCells u131q.heap.size 0 (wl u)) (u131q.heap.size + 1) [.int .i64 0, .int .i64 0]) := h146q.out.asideL (by omega) 0 (wl u)
             clear h142q h143q h144q h145q h146q
             generalize (((u131q.alloc (.cells #[.int .u64 0, .int .u64 0, .int .u64 0, .int .u64 0, .int .u64 0, .int .u64 0, .int .u64 0, .int .u64 0, .int .u64 0, .int .u64 0, .int .u64 0, .int .u64 0, .int .u64 0, .int .u64 0, .int .u64 0, .int .u64 0, .int .u64 0] 29)).alloc (.cells #[.int .i64 0, .int .i64 0] 32)).setCells u131q.heap.size 0 (wl u)) = u152q at h147q h148q h149q h150q h151q  ⊢)
          | (refine wpList_store_mid rfl 32 _ _ rfl (u131q.heap.size + 1) _ #[.int .i64 (1), .int .i64 (yy)] rfl rfl h151q.out.there2 HA.out (two_one _ _) ?_
             have h153q : Hid (Gd n w (u152q.setCells (u131q.heap.size + 1) 0 [.int .i64 (1), .int .i64 (yy)])) := h147q.out.asideL (by omega) 0 [.int .i64 (1), .int .i64 (yy)]
             have h154q : Hid (Bo (u152q.setCells (u131q.heap.size + 1) 0 [.int .i64 (1), .int .i64 (yy)]) n [.int .i64 2, .int .i64 k, .int .i64 x]) := h148q.out.asideL (by omega) 0 [.int .i64 (1), .int .i64 (yy)]
             have h155q : Hid (Bo (u152q.setCells (u131q.heap.size + 1) 0 [.int .i64 (1), .int .i64 (yy)]) u7q.heap.size (wl c)) := h149q.out.asideL (by omega) 0 [.int .i64 (1), .int .i64 (yy)]
             have h156q : Hid (Bo (u152q.setCells (u131q.heap.size + 1) 0 [.int .i64 (1), .int .i64 (yy)]) u131q.heap.size (wl u)) := h150q.out.asideL (by omega) 0 [.int .i64 (1), .int .i64 (yy)]
             have h157q : Hid (Bo (u152q.setCells (u131q.heap.size + 1) 0 [.int .i64 (1), .int .i64 (yy)]) (u131q.heap.size + 1) [.int .i64 (1), .int .i64 (yy)]) := h151q.out.set2 (.int .i64 (1)) (.int .i64 (yy))
             clear h147q h148q h149q h150q h151q
             generalize (u152q.setCells (u131q.heap.size + 1) 0 [.int .i64 (1), .int .i64 (yy)]) = u158q at h153q h154q h155q h156q h157q  ⊢)
          | (refine wpList_load_mid rfl 29 _ rfl u131q.heap.size _ rfl (wl u) _ h156q.out.range HC.out rfl (HCS.out u) ?_))
        refine (SU.out _).mono ?_
        rintro e u159q ⟨rfl, hb⟩
        have h160q : Hid (Gd n w u159q) := h153q.out.later hb
        have h161q : Hid (Bo u159q n [.int .i64 2, .int .i64 k, .int .i64 x]) := h154q.out.later hb
        have h162q : Hid (Bo u159q u7q.heap.size (wl c)) := h155q.out.later hb
        have h163q : Hid (Bo u159q u131q.heap.size (wl u)) := h156q.out.later hb
        have h164q : Hid (Bo u159q (u131q.heap.size + 1) [.int .i64 (1), .int .i64 (yy)]) := h157q.out.later hb
        clear h153q h154q h155q h156q h157q
        clear hb
        have c165q := h161q.out.at 0 rfl
        have c166q := h164q.out.at 0 rfl
        have c167q := h164q.out.at 1 rfl
        go_wp2
        go_ret
        exact ⟨rfl, by first | exact h160q.out.low | exact h160q.out.2⟩
      · subst e3
        have hm := MR.out rfl (by omega)
        clear SM LS MR hz2
        rcases hm with hm | ⟨h5, hm⟩
        · have ww : IntKind.i64.wrap (z1 + 1) = z2 := by rw [IntKind.wrap_i64]; omega
          clear hm
          have d1 : decide (z1 < 0) = false := by simp; omega
          have d2 : decide (6 < z1) = false := by simp; omega
          have d3 : decide (z2 < 0) = false := by simp; omega
          have d4 : decide (6 < z2) = false := by simp; omega
          clear hz1 b1 b2
          go_wp2_with (first
            | (refine wpList_store_mid rfl 29 _ _ rfl u7q.heap.size _ (wl c).toArray rfl rfl (h14q.out.thereW c) (HCZ.out c) (wl_all c) ?_
               have h168q : Hid (Gd n w ((u7q.alloc (.cells #[.int .u64 0, .int .u64 0, .int .u64 0, .int .u64 0, .int .u64 0, .int .u64 0, .int .u64 0, .int .u64 0, .int .u64 0, .int .u64 0, .int .u64 0, .int .u64 0, .int .u64 0, .int .u64 0, .int .u64 0, .int .u64 0, .int .u64 0] 29)).setCells u7q.heap.size 0 (wl c))) := h12q.out.asideL (by omega) 0 (wl c)
               have h169q : Hid (Bo ((u7q.alloc (.cells #[.int .u64 0, .int .u64 0, .int .u64 0, .int .u64 0, .int .u64 0, .int .u64 0, .int .u64 0, .int .u64 0, .int .u64 0, .int .u64 0, .int .u64 0, .int .u64 0, .int .u64 0, .int .u64 0, .int .u64 0, .int .u64 0, .int .u64 0] 29)).setCells u7q.heap.size 0 (wl c)) n [.int .i64 3, .int .i64 k, .int .i64 x]) := h13q.out.asideL (by omega) 0 (wl c)
               have h170q : Hid (Bo ((u7q.alloc (.cells #[.int .u64 0, .int .u64 0, .int .u64 0, .int .u64 0, .int .u64 0, .int .u64 0, .int .u64 0, .int .u64 0, .int .u64 0, .int .u64 0, .int .u64 0, .int .u64 0, .int .u64 0, .int .u64 0, .int .u64 0, .int .u64 0, .int .u64 0] 29)).setCells u7q.heap.size 0 (wl c)) u7q.heap.size (wl c)) := h14q.out.setW c
               clear h12q h13q h14q
               generalize ((u7q.alloc (.cells #[.int .u64 0, .int .u64 0, .int .u64 0, .int .u64 0, .int .u64 0, .int .u64 0, .int .u64 0, .int .u64 0, .int .u64 0, .int .u64 0, .int .u64 0, .int .u64 0, .int .u64 0, .int .u64 0, .int .u64 0, .int .u64 0, .int .u64 0] 29)).setCells u7q.heap.size 0 (wl c)) = u171q at h168q h169q h170q  ⊢
               have c172q := h169q.out.at 0 rfl
               have c173q := h169q.out.at 1 rfl
               have c174q := h169q.out.at 2 rfl)
            | (refine wpList_load_mid rfl 29 _ rfl u7q.heap.size _ rfl (wl c) _ h170q.out.range HC.out rfl (HCS.out c) ?_))
          refine (SZ.out _).mono ?_
          rintro e u175q ⟨rfl, hb⟩
          have h176q : Hid (Gd n w u175q) := h168q.out.later hb
          have h177q : Hid (Bo u175q n [.int .i64 3, .int .i64 k, .int .i64 x]) := h169q.out.later hb
          have h178q : Hid (Bo u175q u7q.heap.size (wl c)) := h170q.out.later hb
          clear h168q h169q h170q
          clear hb
          have c179q := h177q.out.at 0 rfl
          have c180q := h177q.out.at 1 rfl
          have c181q := h177q.out.at 2 rfl
          go_wp2_with (first
            | (refine wpList_load_mid rfl 29 _ rfl u7q.heap.size _ rfl (wl c) _ h178q.out.range HC.out rfl (HCS.out c) ?_))
          refine (DO.out _).mono ?_
          rintro e u182q ⟨rfl, hb⟩
          have h183q : Hid (Gd n w u182q) := h176q.out.later hb
          have h184q : Hid (Bo u182q n [.int .i64 3, .int .i64 k, .int .i64 x]) := h177q.out.later hb
          have h185q : Hid (Bo u182q u7q.heap.size (wl c)) := h178q.out.later hb
          clear h176q h177q h178q
          clear hb
          have l186q : n ≤ u182q.heap.size := h183q.out.le
          have l187q : n < u182q.heap.size := h184q.out.lt
          have l188q : u7q.heap.size < u182q.heap.size := h185q.out.lt
          have h189q : Hid (Gd n w (u182q.alloc (.cells #[.int .u64 0, .int .u64 0, .int .u64 0, .int .u64 0, .int .u64 0, .int .u64 0, .int .u64 0, .int .u64 0, .int .u64 0, .int .u64 0, .int .u64 0, .int .u64 0, .int .u64 0, .int .u64 0, .int .u64 0, .int .u64 0, .int .u64 0] 29))) := h183q.out.new (.cells #[.int .u64 0, .int .u64 0, .int .u64 0, .int .u64 0, .int .u64 0, .int .u64 0, .int .u64 0, .int .u64 0, .int .u64 0, .int .u64 0, .int .u64 0, .int .u64 0, .int .u64 0, .int .u64 0, .int .u64 0, .int .u64 0, .int .u64 0] 29)
          have h190q : Hid (Bo (u182q.alloc (.cells #[.int .u64 0, .int .u64 0, .int .u64 0, .int .u64 0, .int .u64 0, .int .u64 0, .int .u64 0, .int .u64 0, .int .u64 0, .int .u64 0, .int .u64 0, .int .u64 0, .int .u64 0, .int .u64 0, .int .u64 0, .int .u64 0, .int .u64 0] 29)) n [.int .i64 3, .int .i64 k, .int .i64 x]) := h184q.out.new (.cells #[.int .u64 0, .int .u64 0, .int .u64 0, .int .u64 0, .int .u64 0, .int .u64 0, .int .u64 0, .int .u64 0, .int .u64 0, .int .u64 0, .int .u64 0, .int .u64 0, .int .u64 0, .int .u64 0, .int .u64 0, .int .u64 0, .int .u64 0] 29)
          have h191q : Hid (Bo (u182q.alloc (.cells #[.int .u64 0, .int .u64 0, .int .u64 0, .int .u64 0, .int .u64 0, .int .u64 0, .int .u64 0, .int .u64 0, .int .u64 0, .int .u64 0, .int .u64 0, .int .u64 0, .int .u64 0, .int .u64 0, .int .u64 0, .int .u64 0, .int .u64 0] 29)) u7q.heap.size (wl c)) := h185q.out.new (.cells #[.int .u64 0, .int .u64 0, .int .u64 0, .int .u64 0, .int .u64 0, .int .u64 0, .int .u64 0, .int .u64 0, .int .u64 0, .int .u64 0, .int .u64 0, .int .u64 0, .int .u64 0, .int .u64 0, .int .u64 0, .int .u64 0, .int .u64 0] 29)
          clear h183q h184q h185q
          have h192q : Hid (Bo (u182q.alloc (.cells #[.int .u64 0, .int .u64 0, .int .u64 0, .int .u64 0, .int .u64 0, .int .u64 0, .int .u64 0, .int .u64 0, .int .u64 0, .int .u64 0, .int .u64 0, .int .u64 0, .int .u64 0, .int .u64 0, .int .u64 0, .int .u64 0, .int .u64 0] 29)) u182q.heap.size (wl wz)) := Bo.born u182q (wl wz) 29 (by simp)
          have h193q : Hid (Gd n w ((u182q.alloc (.cells #[.int .u64 0, .int .u64 0, .int .u64 0, .int .u64 0, .int .u64 0, .int .u64 0, .int .u64 0, .int .u64 0, .int .u64 0, .int .u64 0, .int .u64 0, .int .u64 0, .int .u64 0, .int .u64 0, .int .u64 0, .int .u64 0, .int .u64 0] 29)).alloc (.cells #[.int .i64 0, .int .i64 0] 32))) := h189q.out.new (.cells #[.int .i64 0, .int .i64 0] 32)
          have h194q : Hid (Bo ((u182q.alloc (.cells #[.int .u64 0, .int .u64 0, .int .u64 0, .int .u64 0, .int .u64 0, .int .u64 0, .int .u64 0, .int .u64 0, .int .u64 0, .int .u64 0, .int .u64 0, .int .u64 0, .int .u64 0, .int .u64 0, .int .u64 0, .int .u64 0, .int .u64 0] 29)).alloc (.cells #[.int .i64 0, .int .i64 0] 32)) n [.int .i64 3, .int .i64 k, .int .i64 x]) := h190q.out.new (.cells #[.int .i64 0, .int .i64 0] 32)
          have h195q : Hid (Bo ((u182q.alloc (.cells #[.int .u64 0, .int .u64 0, .int .u64 0, .int .u64 0, .int .u64 0, .int .u64 0, .int .u64 0, .int .u64 0, .int .u64 0, .int .u64 0, .int .u64 0, .int .u64 0, .int .u64 0, .int .u64 0, .int .u64 0, .int .u64 0, .int .u64 0] 29)).alloc (.cells #[.int .i64 0, .int .i64 0] 32)) u7q.heap.size (wl c)) := h191q.out.new (.cells #[.int .i64 0, .int .i64 0] 32)
          have h196q : Hid (Bo ((u182q.alloc (.cells #[.int .u64 0, .int .u64 0, .int .u64 0, .int .u64 0, .int .u64 0, .int .u64 0, .int .u64 0, .int .u64 0, .int .u64 0, .int .u64 0, .int .u64 0, .int .u64 0, .int .u64 0, .int .u64 0, .int .u64 0, .int .u64 0, .int .u64 0] 29)).alloc (.cells #[.int .i64 0, .int .i64 0] 32)) u182q.heap.size (wl wz)) := h192q.out.new (.cells #[.int .i64 0, .int .i64 0] 32)
          clear h189q h190q h191q h192q
          have h197q : Hid (Bo ((u182q.alloc (.cells #[.int .u64 0, .int .u64 0, .int .u64 0, .int .u64 0, .int .u64 0, .int .u64 0, .int .u64 0, .int .u64 0, .int .u64 0, .int .u64 0, .int .u64 0, .int .u64 0, .int .u64 0, .int .u64 0, .int .u64 0, .int .u64 0, .int .u64 0] 29)).alloc (.cells #[.int .i64 0, .int .i64 0] 32)) (u182q.heap.size + 1) [.int .i64 0, .int .i64 0]) := Bo.born (u182q.alloc (.cells #[.int .u64 0, .int .u64 0, .int .u64 0, .int .u64 0, .int .u64 0, .int .u64 0, .int .u64 0, .int .u64 0, .int .u64 0, .int .u64 0, .int .u64 0, .int .u64 0, .int .u64 0, .int .u64 0, .int .u64 0, .int .u64 0, .int .u64 0] 29)) [.int .i64 0, .int .i64 0] 32 (by simp)
          go_wp2_with (first
            | (refine wpList_store_mid rfl 29 _ _ rfl u182q.heap.size _ (wl u).toArray rfl rfl (h196q.out.thereW u) (HCZ.out u) (wl_all u) ?_
               have h198q : Hid (Gd n w (((u182q.alloc (.cells #[.int .u64 0, .int .u64 0, .int .u64 0, .int .u64 0, .int .u64 0, .int .u64 0, .int .u64 0, .int .u64 0, .int .u64 0, .int .u64 0, .int .u64 0, .int .u64 0, .int .u64 0, .int .u64 0, .int .u64 0, .int .u64 0, .int .u64 0] 29)).alloc (.cells #[.int .i64 0, .int .i64 0] 32)).setCells u182q.heap.size 0 (wl u))) := h193q.out.asideL (by omega) 0 (wl u)
               have h199q : Hid (Bo (((u182q.alloc (.cells #[.int .u64 0, .int .u64 0, .int .u64 0, .int .u64 0, .int .u64 0, .int .u64 0, .int .u64 0, .int .u64 0, .int .u64 0, .int .u64 0, .int .u64 0, .int .u64 0, .int .u64 0, .int .u64 0, .int .u64 0, .int .u64 0, .int .u64 0] 29)).alloc (.cells #[.int .i64 0, .int .i64 0] 32)).setCells u182q.heap.size 0 (wl u)) n [.int .i64 3, .int .i64 k, .int .i64 x]) := h194q.out.asideL (by omega) 0 (wl u)
               have h200q : Hid (Bo (((u182q.alloc (.cells #[.int .u64 0, .int .u64 0, .int .u64 0, .int .u64 0, .int .u64 0, .int .u64 0, .int .u64 0, .int .u64 0, .int .u64 0, .int .u64 0, .int .u64 0, .int .u64 0, .int .u64 0, .int .u64 0, .int .u64 0, .int .u64 0, .int .u64 0] 29)).alloc (.cells #[.int .i64 0, .int .i64 0] 32)).setCells u182q.heap.size 0 (wl u)) u7q.heap.size (wl c)) := h195q.out.asideL (by omega) 0 (wl u)
               have h201q : Hid (Bo (((u182q.alloc (.cells #[.int .u64 0, .int .u64 0, .int .u64 0, .int .u64 0, .int .u64 0, .int .u64 0, .int .u64 0, .int .u64 0, .int .u64 0, .int .u64 0, .int .u64 0, .int .u64 0, .int .u64 0, .int .u64 0, .int .u64 0, .int .u64 0, .int .u64 0] 29)).alloc (.cells #[.int .i64 0, .int .i64 0] 32)).setCells u182q.heap.size 0 (wl u)) u182q.heap.size (wl u)) := h196q.out.setW u
               have h202q : Hid (Bo (((u182q.alloc (.cells #[.int .u64 0, .int .u64 0, .int .u64 0, .int .u64 0, .int .u64 0, .int .u64 0, .int .u64 0, .int .u64 0, .int .u64 0, .int .u64 0, .int .u64 0, .int .u64 0, .int .u64 0, .int .u64 0, .int .u64 0, .int .u64 0, .int .u64 0] 29)).alloc (.cells #[.int .i64 0, .int .i64 0] 32)).setCells u182q.heap.size 0 (wl u)) (u182q.heap.size + 1) [.int .i64 0, .int .i64 0]) := h197q.out.asideL (by omega) 0 (wl u)
               clear h193q h194q h195q h196q h197q
               generalize (((u182q.alloc (.cells #[.int .u64 0, .int .u64 0, .int .u64 0, .int .u64 0, .int .u64 0, .int .u64 0, .int .u64 0, .int .u64 0, .int .u64 0, .int .u64 0, .int .u64 0, .int .u64 0, .int .u64 0, .int .u64 0, .int .u64 0, .int .u64 0, .int .u64 0] 29)).alloc (.cells #[.int .i64 0, .int .i64 0] 32)).setCells u182q.heap.size 0 (wl u)) = u203q at h198q h199q h200q h201q h202q  ⊢)
            | (refine wpList_store_mid rfl 32 _ _ rfl (u182q.heap.size + 1) _ #[.int .i64 (1), .int .i64 (yy)] rfl rfl h202q.out.there2 HA.out (two_one _ _) ?_
               have h204q : Hid (Gd n w (u203q.setCells (u182q.heap.size + 1) 0 [.int .i64 (1), .int .i64 (yy)])) := h198q.out.asideL (by omega) 0 [.int .i64 (1), .int .i64 (yy)]
               have h205q : Hid (Bo (u203q.setCells (u182q.heap.size + 1) 0 [.int .i64 (1), .int .i64 (yy)]) n [.int .i64 3, .int .i64 k, .int .i64 x]) := h199q.out.asideL (by omega) 0 [.int .i64 (1), .int .i64 (yy)]
               have h206q : Hid (Bo (u203q.setCells (u182q.heap.size + 1) 0 [.int .i64 (1), .int .i64 (yy)]) u7q.heap.size (wl c)) := h200q.out.asideL (by omega) 0 [.int .i64 (1), .int .i64 (yy)]
               have h207q : Hid (Bo (u203q.setCells (u182q.heap.size + 1) 0 [.int .i64 (1), .int .i64 (yy)]) u182q.heap.size (wl u)) := h201q.out.asideL (by omega) 0 [.int .i64 (1), .int .i64 (yy)]
               have h208q : Hid (Bo (u203q.setCells (u182q.heap.size + 1) 0 [.int .i64 (1), .int .i64 (yy)]) (u182q.heap.size + 1) [.int .i64 (1), .int .i64 (yy)]) := h202q.out.set2 (.int .i64 (1)) (.int .i64 (yy))
               clear h198q h199q h200q h201q h202q
               generalize (u203q.setCells (u182q.heap.size + 1) 0 [.int .i64 (1), .int .i64 (yy)]) = u209q at h204q h205q h206q h207q h208q  ⊢)
            | (refine wpList_load_mid rfl 29 _ rfl u182q.heap.size _ rfl (wl u) _ h207q.out.range HC.out rfl (HCS.out u) ?_))
          refine (SU.out _).mono ?_
          rintro e u210q ⟨rfl, hb⟩
          have h211q : Hid (Gd n w u210q) := h204q.out.later hb
          have h212q : Hid (Bo u210q n [.int .i64 3, .int .i64 k, .int .i64 x]) := h205q.out.later hb
          have h213q : Hid (Bo u210q u7q.heap.size (wl c)) := h206q.out.later hb
          have h214q : Hid (Bo u210q u182q.heap.size (wl u)) := h207q.out.later hb
          have h215q : Hid (Bo u210q (u182q.heap.size + 1) [.int .i64 (1), .int .i64 (yy)]) := h208q.out.later hb
          clear h204q h205q h206q h207q h208q
          clear hb
          have c216q := h212q.out.at 0 rfl
          have c217q := h215q.out.at 0 rfl
          have c218q := h215q.out.at 1 rfl
          go_wp2
          go_ret
          exact ⟨rfl, by first | exact h211q.out.low | exact h211q.out.2⟩
        · obtain ⟨z3, hz3⟩ : ∃ z3, z3 = z1 + 1 := ⟨_, rfl⟩
          have ww : IntKind.i64.wrap (z1 + 1) = z3 := by rw [IntKind.wrap_i64]; omega
          have wn : (z1 == z3) = false := by simp; omega
          clear hz3
          have n5 : (((r : Nat) : Int) == 5) = true := by simp [h5]
          clear h5
          have hm := hm.symm
          subst hm
          have d1 : decide (z1 < 0) = false := by simp; omega
          have d2 : decide (6 < z1) = false := by simp; omega
          clear hz1 b1 b2
          go_wp2_with (first
            | (refine wpList_store_mid rfl 29 _ _ rfl u7q.heap.size _ (wl c).toArray rfl rfl (h14q.out.thereW c) (HCZ.out c) (wl_all c) ?_
               have h219q : Hid (Gd n w ((u7q.alloc (.cells #[.int .u64 0, .int .u64 0, .int .u64 0, .int .u64 0, .int .u64 0, .int .u64 0, .int .u64 0, .int .u64 0, .int .u64 0, .int .u64 0, .int .u64 0, .int .u64 0, .int .u64 0, .int .u64 0, .int .u64 0, .int .u64 0, .int .u64 0] 29)).setCells u7q.heap.size 0 (wl c))) := h12q.out.asideL (by omega) 0 (wl c)
               have h220q : Hid (Bo ((u7q.alloc (.cells #[.int .u64 0, .int .u64 0, .int .u64 0, .int .u64 0, .int .u64 0, .int .u64 0, .int .u64 0, .int .u64 0, .int .u64 0, .int .u64 0, .int .u64 0, .int .u64 0, .int .u64 0, .int .u64 0, .int .u64 0, .int .u64 0, .int .u64 0] 29)).setCells u7q.heap.size 0 (wl c)) n [.int .i64 3, .int .i64 k, .int .i64 x]) := h13q.out.asideL (by omega) 0 (wl c)
               have h221q : Hid (Bo ((u7q.alloc (.cells #[.int .u64 0, .int .u64 0, .int .u64 0, .int .u64 0, .int .u64 0, .int .u64 0, .int .u64 0, .int .u64 0, .int .u64 0, .int .u64 0, .int .u64 0, .int .u64 0, .int .u64 0, .int .u64 0, .int .u64 0, .int .u64 0, .int .u64 0] 29)).setCells u7q.heap.size 0 (wl c)) u7q.heap.size (wl c)) := h14q.out.setW c
               clear h12q h13q h14q
               generalize ((u7q.alloc (.cells #[.int .u64 0, .int .u64 0, .int .u64 0, .int .u64 0, .int .u64 0, .int .u64 0, .int .u64 0, .int .u64 0, .int .u64 0, .int .u64 0, .int .u64 0, .int .u64 0, .int .u64 0, .int .u64 0, .int .u64 0, .int .u64 0, .int .u64 0] 29)).setCells u7q.heap.size 0 (wl c)) = u222q at h219q h220q h221q  ⊢
               have c223q := h220q.out.at 0 rfl
               have c224q := h220q.out.at 1 rfl
               have c225q := h220q.out.at 2 rfl)
            | (refine wpList_load_mid rfl 29 _ rfl u7q.heap.size _ rfl (wl c) _ h221q.out.range HC.out rfl (HCS.out c) ?_))
          refine (SZ.out _).mono ?_
          rintro e u226q ⟨rfl, hb⟩
          have h227q : Hid (Gd n w u226q) := h219q.out.later hb
          have h228q : Hid (Bo u226q n [.int .i64 3, .int .i64 k, .int .i64 x]) := h220q.out.later hb
          have h229q : Hid (Bo u226q u7q.heap.size (wl c)) := h221q.out.later hb
          clear h219q h220q h221q
          clear hb
          have c230q := h228q.out.at 0 rfl
          have c231q := h228q.out.at 1 rfl
          have c232q := h228q.out.at 2 rfl
          go_wp2_with (first
            | (refine wpList_load_mid rfl 29 _ rfl u7q.heap.size _ rfl (wl c) _ h229q.out.range HC.out rfl (HCS.out c) ?_))
          refine (DO.out _).mono ?_
          rintro e u233q ⟨rfl, hb⟩
          have h234q : Hid (Gd n w u233q) := h227q.out.later hb
          have h235q : Hid (Bo u233q n [.int .i64 3, .int .i64 k, .int .i64 x]) := h228q.out.later hb
          have h236q : Hid (Bo u233q u7q.heap.size (wl c)) := h229q.out.later hb
          clear h227q h228q h229q
          clear hb
          have l237q : n ≤ u233q.heap.size := h234q.out.le
          have l238q : n < u233q.heap.size := h235q.out.lt
          have l239q : u7q.heap.size < u233q.heap.size := h236q.out.lt
          have h240q : Hid (Gd n w (u233q.alloc (.cells #[.int .u64 0, .int .u64 0, .int .u64 0, .int .u64 0, .int .u64 0, .int .u64 0, .int .u64 0, .int .u64 0, .int .u64 0, .int .u64 0, .int .u64 0, .int .u64 0, .int .u64 0, .int .u64 0, .int .u64 0, .int .u64 0, .int .u64 0] 29))) := h234q.out.new (.cells #[.int .u64 0, .int .u64 0, .int .u64 0, .int .u64 0, .int .u64 0, .int .u64 0, .int .u64 0, .int .u64 0, .int .u64 0, .int .u64 0, .int .u64 0, .int .u64 0, .int .u64 0, .int .u64 0, .int .u64 0, .int .u64 0, .int .u64 0] 29)
          have h241q : Hid (Bo (u233q.alloc (.cells #[.int .u64 0, .int .u64 0, .int .u64 0, .int .u64 0, .int .u64 0, .int .u64 0, .int .u64 0, .int .u64 0, .int .u64 0, .int .u64 0, .int .u64 0, .int .u64 0, .int .u64 0, .int .u64 0, .int .u64 0, .int .u64 0, .int .u64 0] 29)) n [.int .i64 3, .int .i64 k, .int .i64 x]) := h235q.out.new (.cells #[.int .u64 0, .int .u64 0, .int .u64 0, .int .u64 0, .int .u64 0, .int .u64 0, .int .u64 0, .int .u64 0, .int .u64 0, .int .u64 0, .int .u64 0, .int .u64 0, .int .u64 0, .int .u64 0, .int .u64 0, .int .u64 0, .int .u64 0] 29)
          have h242q : Hid (Bo (u233q.alloc (.cells #[.int .u64 0, .int .u64 0, .int .u64 0, .int .u64 0, .int .u64 0, .int .u64 0, .int .u64 0, .int .u64 0, .int .u64 0, .int .u64 0, .int .u64 0, .int .u64 0, .int .u64 0, .int .u64 0, .int .u64 0, .int .u64 0, .int .u64 0] 29)) u7q.heap.size (wl c)) := h236q.out.new (.cells #[.int .u64 0, .int .u64 0, .int .u64 0, .int .u64 0, .int .u64 0, .int .u64 0, .int .u64 0, .int .u64 0, .int .u64 0, .int .u64 0, .int .u64 0, .int .u64 0, .int .u64 0, .int .u64 0, .int .u64 0, .int .u64 0, .int .u64 0] 29)
          clear h234q h235q h236q
          have h243q : Hid (Bo (u233q.alloc (.cells #[.int .u64 0, .int .u64 0, .int .u64 0, .int .u64 0, .int .u64 0, .int .u64 0, .int .u64 0, .int .u64 0, .int .u64 0, .int .u64 0, .int .u64 0, .int .u64 0, .int .u64 0, .int .u64 0, .int .u64 0, .int .u64 0, .int .u64 0] 29)) u233q.heap.size (wl wz)) := Bo.born u233q (wl wz) 29 (by simp)
          have h244q : Hid (Gd n w ((u233q.alloc (.cells #[.int .u64 0, .int .u64 0, .int .u64 0, .int .u64 0, .int .u64 0, .int .u64 0, .int .u64 0, .int .u64 0, .int .u64 0, .int .u64 0, .int .u64 0, .int .u64 0, .int .u64 0, .int .u64 0, .int .u64 0, .int .u64 0, .int .u64 0] 29)).alloc (.cells #[.int .i64 0, .int .i64 0] 32))) := h240q.out.new (.cells #[.int .i64 0, .int .i64 0] 32)
          have h245q : Hid (Bo ((u233q.alloc (.cells #[.int .u64 0, .int .u64 0, .int .u64 0, .int .u64 0, .int .u64 0, .int .u64 0, .int .u64 0, .int .u64 0, .int .u64 0, .int .u64 0, .int .u64 0, .int .u64 0, .int .u64 0, .int .u64 0, .int .u64 0, .int .u64 0, .int .u64 0] 29)).alloc (.cells #[.int .i64 0, .int .i64 0] 32)) n [.int .i64 3, .int .i64 k, .int .i64 x]) := h241q.out.new (.cells #[.int .i64 0, .int .i64 0] 32)
          have h246q : Hid (Bo ((u233q.alloc (.cells #[.int .u64 0, .int .u64 0, .int .u64 0, .int .u64 0, .int .u64 0, .int .u64 0, .int .u64 0, .int .u64 0, .int .u64 0, .int .u64 0, .int .u64 0, .int .u64 0, .int .u64 0, .int .u64 0, .int .u64 0, .int .u64 0, .int .u64 0] 29)).alloc (.cells #[.int .i64 0, .int .i64 0] 32)) u7q.heap.size (wl c)) := h242q.out.new (.cells #[.int .i64 0, .int .i64 0] 32)
          have h247q : Hid (Bo ((u233q.alloc (.cells #[.int .u64 0, .int .u64 0, .int .u64 0, .int .u64 0, .int .u64 0, .int .u64 0, .int .u64 0, .int .u64 0, .int .u64 0, .int .u64 0, .int .u64 0, .int .u64 0, .int .u64 0, .int .u64 0, .int .u64 0, .int .u64 0, .int .u64 0] 29)).alloc (.cells #[.int .i64 0, .int .i64 0] 32)) u233q.heap.size (wl wz)) := h243q.out.new (.cells #[.int .i64 0, .int .i64 0] 32)
          clear h240q h241q h242q h243q
          have h248q : Hid (Bo ((u233q.alloc (.cells #[.int .u64 0, .int .u64 0, .int .u64 0, .int .u64 0, .int .u64 0, .int .u64 0, .int .u64 0, .int .u64 0, .int .u64 0, .int .u64 0, .int .u64 0, .int .u64 0, .int .u64 0, .int .u64 0, .int .u64 0, .int .u64 0, .int .u64 0] 29)).alloc (.cells #[.int .i64 0, .int .i64 0] 32)) (u233q.heap.size + 1) [.int .i64 0, .int .i64 0]) := Bo.born (u233q.alloc (.cells #[.int .u64 0, .int .u64 0, .int .u64 0, .int .u64 0, .int .u64 0, .int .u64 0, .int .u64 0, .int .u64 0, .int .u64 0, .int .u64 0, .int .u64 0, .int .u64 0, .int .u64 0, .int .u64 0, .int .u64 0, .int .u64 0, .int .u64 0] 29)) [.int .i64 0, .int .i64 0] 32 (by simp)
          go_wp2_with (first
            | (refine wpList_store_mid rfl 29 _ _ rfl u233q.heap.size _ (wl u).toArray rfl rfl (h247q.out.thereW u) (HCZ.out u) (wl_all u) ?_
               have h249q : Hid (Gd n w (((u233q.alloc (.cells #[.int .u64 0, .int .u64 0, .int .u64 0, .int .u64 0, .int .u64 0, .int .u64 0, .int .u64 0, .int .u64 0, .int .u64 0, .int .u64 0, .int .u64 0, .int .u64 0, .int .u64 0, .int .u64 0, .int .u64 0, .int .u64 0, .int .u64 0] 29)).alloc (.cells #[.int .i64 0, .int .i64 0] 32)).setCells u233q.heap.size 0 (wl u))) := h244q.out.asideL (by omega) 0 (wl u)
               have h250q : Hid (Bo (((u233q.alloc (.cells #[.int .u64 0, .int .u64 0, .int .u64 0, .int .u64 0, .int .u64 0, .int .u64 0, .int .u64 0, .int .u64 0, .int .u64 0, .int .u64 0, .int .u64 0, .int .u64 0, .int .u64 0, .int .u64 0, .int .u64 0, .int .u64 0, .int .u64 0] 29)).alloc (.cells #[.int .i64 0, .int .i64 0] 32)).setCells u233q.heap.size 0 (wl u)) n [.int .i64 3, .int .i64 k, .int .i64 x]) := h245q.out.asideL (by omega) 0 (wl u)
               have h251q : Hid (Bo (((u233q.alloc (.cells #[.int .u64 0, .int .u64 0, .int .u64 0, .int .u64 0, .int .u64 0, .int .u64 0, .int .u64 0, .int .u64 0, .int .u64 0, .int .u64 0, .int .u64 0, .int .u64 0, .int .u64 0, .int .u64 0, .int .u64 0, .int .u64 0, .int .u64 0] 29)).alloc (.cells #[.int .i64 0, .int .i64 0] 32)).setCells u233q.heap.size 0 (wl u)) u7q.heap.size (wl c)) := h246q.out.asideL (by omega) 0 (wl u)
               have h252q : Hid (Bo (((u233q.alloc (.cells #[.int .u64 0, .int .u64 0, .int .u64 0, .int .u64 0, .int .u64 0, .int .u64 0, .int .u64 0, .int .u64 0, .int .u64 0, .int .u64 0, .int .u64 0, .int .u64 0, .int .u64 0, .int .u64 0, .int .u64 0, .int .u64 0, .int .u64 0] 29)).alloc (.cells #[.int .i64 0, .int .i64 0] 32)).setCells u233q.heap.size 0 (wl u)) u233q.heap.size (wl u)) := h247q.out.setW u
               have h253q : Hid (Bo (((u233q.alloc (.cells #[.int .u64 0, .int .u64 0, .int .u64 0, .int .u64 0, .int .u64 0, .int .u64 0, .int .u64 0, .int .u64 0, .int .u64 0, .int .u64 0, .int .u64 0, .int .u64 0, .int .u64 0, .int .u64 0, .int .u64 0, .int .u64 0, .int .u64 0] 29)).alloc (.cells #[.int .i64 0, .int .i64 0] 32)).setCells u233q.heap.size 0 (wl u)) (u233q.heap.size + 1) [.int .i64 0, .int .i64 0]) := h248q.out.asideL (by omega) 0 (wl u)
               clear h244q h245q h246q h247q h248q
               generalize (((u233q.alloc (.cells #[.int .u64 0, .int .u64 0, .int .u64 0, .int .u64 0, .int .u64 0, .int .u64 0, .int .u64 0, .int .u64 0, .int .u64 0, .int .u64 0, .int .u64 0, .int .u64 0, .int .u64 0, .int .u64 0, .int .u64 0, .int .u64 0, .int .u64 0] 29)).alloc (.cells #[.int .i64 0, .int .i64 0] 32)).setCells u233q.heap.size 0 (wl u)) = u254q at h249q h250q h251q h252q h253q  ⊢)
            | (refine wpList_store_mid rfl 32 _ _ rfl (u233q.heap.size + 1) _ #[.int .i64 (1), .int .i64 (yy)] rfl rfl h253q.out.there2 HA.out (two_one _ _) ?_
               have h255q : Hid (Gd n w (u254q.setCells (u233q.heap.size + 1) 0 [.int .i64 (1), .int .i64 (yy)])) := h249q.out.asideL (by omega) 0 [.int .i64 (1), .int .i64 (yy)]
               have h256q : Hid (Bo (u254q.setCells (u233q.heap.size + 1) 0 [.int .i64 (1), .int .i64 (yy)]) n [.int .i64 3, .int .i64 k, .int .i64 x]) := h250q.out.asideL (by omega) 0 [.int .i64 (1), .int .i64 (yy)]
               have h257q : Hid (Bo (u254q.setCells (u233q.heap.size + 1) 0 [.int .i64 (1), .int .i64 (yy)]) u7q.heap.size (wl c)) := h251q.out.asideL (by omega) 0 [.int .i64 (1), .int .i64 (yy)]
               have h258q : Hid (Bo (u254q.setCells (u233q.heap.size + 1) 0 [.int .i64 (1), .int .i64 (yy)]) u233q.heap.size (wl u)) := h252q.out.asideL (by omega) 0 [.int .i64 (1), .int .i64 (yy)]
               have h259q : Hid (Bo (u254q.setCells (u233q.heap.size + 1) 0 [.int .i64 (1), .int .i64 (yy)]) (u233q.heap.size + 1) [.int .i64 (1), .int .i64 (yy)]) := h253q.out.set2 (.int .i64 (1)) (.int .i64 (yy))
               clear h249q h250q h251q h252q h253q
               generalize (u254q.setCells (u233q.heap.size + 1) 0 [.int .i64 (1), .int .i64 (yy)]) = u260q at h255q h256q h257q h258q h259q  ⊢)
            | (refine wpList_load_mid rfl 29 _ rfl u233q.heap.size _ rfl (wl u) _ h258q.out.range HC.out rfl (HCS.out u) ?_))
          refine (SU.out _).mono ?_
          rintro e u261q ⟨rfl, hb⟩
          have h262q : Hid (Gd n w u261q) := h255q.out.later hb
          have h263q : Hid (Bo u261q n [.int .i64 3, .int .i64 k, .int .i64 x]) := h256q.out.later hb
          have h264q : Hid (Bo u261q u7q.heap.size (wl c)) := h257q.out.later hb
          have h265q : Hid (Bo u261q u233q.heap.size (wl u)) := h258q.out.later hb
          have h266q : Hid (Bo u261q (u233q.heap.size + 1) [.int .i64 (1), .int .i64 (yy)]) := h259q.out.later hb
          clear h255q h256q h257q h258q h259q
          clear hb
          have c267q := h263q.out.at 0 rfl
          have c268q := h266q.out.at 0 rfl
          have c269q := h266q.out.at 1 rfl
          go_wp2
          go_ret
          exact ⟨rfl, by first | exact h262q.out.low | exact h262q.out.2⟩
      · subst e4
        have hm := LS.out rfl (by omega)
        clear SM LS MR hz2
        have ww : IntKind.i64.wrap (z1 - 1) = z2 := by rw [IntKind.wrap_i64]; omega
        clear hm
        have d1 : decide (z1 < 0) = false := by simp; omega
        have d2 : decide (6 < z1) = false := by simp; omega
        have d3 : decide (z2 < 0) = false := by simp; omega
        have d4 : decide (6 < z2) = false := by simp; omega
        clear hz1 b1 b2
        go_wp2_with (first
          | (refine wpList_store_mid rfl 29 _ _ rfl u7q.heap.size _ (wl c).toArray rfl rfl (h14q.out.thereW c) (HCZ.out c) (wl_all c) ?_
             have h270q : Hid (Gd n w ((u7q.alloc (.cells #[.int .u64 0, .int .u64 0, .int .u64 0, .int .u64 0, .int .u64 0, .int .u64 0, .int .u64 0, .int .u64 0, .int .u64 0, .int .u64 0, .int .u64 0, .int .u64 0, .int .u64 0, .int .u64 0, .int .u64 0, .int .u64 0, .int .u64 0] 29)).setCells u7q.heap.size 0 (wl c))) := h12q.out.asideL (by omega) 0 (wl c)
             have h271q : Hid (Bo ((u7q.alloc (.cells #[.int .u64 0, .int .u64 0, .int .u64 0, .int .u64 0, .int .u64 0, .int .u64 0, .int .u64 0, .int .u64 0, .int .u64 0, .int .u64 0, .int .u64 0, .int .u64 0, .int .u64 0, .int .u64 0, .int .u64 0, .int .u64 0, .int .u64 0] 29)).setCells u7q.heap.size 0 (wl c)) n [.int .i64 4, .int .i64 k, .int .i64 x]) := h13q.out.asideL (by omega) 0 (wl c)
             have h272q : Hid (Bo ((u7q.alloc (.cells #[.int .u64 0, .int .u64 0, .int .u64 0, .int .u64 0, .int .u64 0, .int .u64 0, .int .u64 0, .int .u64 0, .int .u64 0, .int .u64 0, .int .u64 0, .int .u64 0, .int .u64 0, .int .u64 0, .int .u64 0, .int .u64 0, .int .u64 0] 29)).setCells u7q.heap.size 0 (wl c)) u7q.heap.size (wl c)) := h14q.out.setW c
             clear h12q h13q h14q
             generalize ((u7q.alloc (.cells #[.int .u64 0, .int .u64 0, .int .u64 0, .int .u64 0, .int .u64 0, .int .u64 0, .int .u64 0, .int .u64 0, .int .u64 0, .int .u64 0, .int .u64 0, .int .u64 0, .int .u64 0, .int .u64 0, .int .u64 0, .int .u64 0, .int .u64 0] 29)).setCells u7q.heap.size 0 (wl c)) = u273q at h270q h271q h272q  ⊢
             have c274q := h271q.out.at 0 rfl
             have c275q := h271q.out.at 1 rfl
             have c276q := h271q.out.at 2 rfl)
          | (refine wpList_load_mid rfl 29 _ rfl u7q.heap.size _ rfl (wl c) _ h272q.out.range HC.out rfl (HCS.out c) ?_))
        refine (SZ.out _).mono ?_
        rintro e u277q ⟨rfl, hb⟩
        have h278q : Hid (Gd n w u277q) := h270q.out.later hb
        have h279q : Hid (Bo u277q n [.int .i64 4, .int .i64 k, .int .i64 x]) := h271q.out.later hb
        have h280q : Hid (Bo u277q u7q.heap.size (wl c)) := h272q.out.later hb
        clear h270q h271q h272q
        clear hb
        have c281q := h279q.out.at 0 rfl
        have c282q := h279q.out.at 1 rfl
        have c283q := h279q.out.at 2 rfl
        go_wp2_with (first
          | (refine wpList_load_mid rfl 29 _ rfl u7q.heap.size _ rfl (wl c) _ h280q.out.range HC.out rfl (HCS.out c) ?_))
        refine (DO.out _).mono ?_
        rintro e u284q ⟨rfl, hb⟩
        have h285q : Hid (Gd n w u284q) := h278q.out.later hb
        have h286q : Hid (Bo u284q n [.int .i64 4, .int .i64 k, .int .i64 x]) := h279q.out.later hb
        have h287q : Hid (Bo u284q u7q.heap.size (wl c)) := h280q.out.later hb
        clear h278q h279q h280q
        clear hb
        have l288q : n ≤ u284q.heap.size := h285q.out.le
        have l289q : n < u284q.heap.size := h286q.out.lt
        have l290q : u7q.heap.size < u284q.heap.size := h287q.out.lt
        have h291q : Hid (Gd n w (u284q.alloc (.cells #[.int .u64 0, .int .u64 0, .int .u64 0, .int .u64 0, .int .u64 0, .int .u64 0, .int .u64 0, .int .u64 0, .int .u64 0, .int .u64 0, .int .u64 0, .int .u64 0, .int .u64 0, .int .u64 0, .int .u64 0, .int .u64 0, .int .u64 0] 29))) := h285q.out.new (.cells #[.int .u64 0, .int .u64 0, .int .u64 0, .int .u64 0, .int .u64 0, .int .u64 0, .int .u64 0, .int .u64 0, .int .u64 0, .int .u64 0, .int .u64 0, .int .u64 0, .int .u64 0, .int .u64 0, .int .u64 0, .int .u64 0, .int .u64 0] 29)
        have h292q : Hid (Bo (u284q.alloc (.cells #[.int .u64 0, .int .u64 0, .int .u64 0, .int .u64 0, .int .u64 0, .int .u64 0, .int .u64 0, .int .u64 0, .int .u64 0, .int .u64 0, .int .u64 0, .int .u64 0, .int .u64 0, .int .u64 0, .int .u64 0, .int .u64 0, .int .u64 0] 29)) n [.int .i64 4, .int .i64 k, .int .i64 x]) := h286q.out.new (.cells #[.int .u64 0, .int .u64 0, .int .u64 0, .int .u64 0, .int .u64 0, .int .u64 0, .int .u64 0, .int .u64 0, .int .u64 0, .int .u64 0, .int .u64 0, .int .u64 0, .int .u64 0, .int .u64 0, .int .u64 0, .int .u64 0, .int .u64 0] 29)
        have h293q : Hid (Bo (u284q.alloc (.cells #[.int .u64 0, .int .u64 0, .int .u64 0, .int .u64 0, .int .u64 0, .int .u64 0, .int .u64 0, .int .u64 0, .int .u64 0, .int .u64 0, .int .u64 0, .int .u64 0, .int .u64 0, .int .u64 0, .int .u64 0, .int .u64 0, .int .u64 0] 29)) u7q.heap.size (wl c)) := h287q.out.new (.cells #[.int .u64 0, .int .u64 0, .int .u64 0, .int .u64 0, .int .u64 0, .int .u64 0, .int .u64 0, .int .u64 0, .int .u64 0, .int .u64 0, .int .u64 0, .int .u64 0, .int .u64 0, .int .u64 0, .int .u64 0, .int .u64 0, .int .u64 0] 29)
        clear h285q h286q h287q
        have h294q : Hid (Bo (u284q.alloc (.cells #[.int .u64 0, .int .u64 0, .int .u64 0, .int .u64 0, .int .u64 0, .int .u64 0, .int .u64 0, .int .u64 0, .int .u64 0, .int .u64 0, .int .u64 0, .int .u64 0, .int .u64 0, .int .u64 0, .int .u64 0, .int .u64 0, .int .u64 0] 29)) u284q.heap.size (wl wz)) := Bo.born u284q (wl wz) 29 (by simp)
        have h295q : Hid (Gd n w ((u284q.alloc (.cells #[.int .u64 0, .int .u64 0, .int .u64 0, .int .u64 0, .int .u64 0, .int .u64 0, .int .u64 0, .int .u64 0, .int .u64 0, .int .u64 0, .int .u64 0, .int .u64 0, .int .u64 0, .int .u64 0, .int .u64 0, .int .u64 0, .int .u64 0] 29)).alloc (.cells #[.int .i64 0, .int .i64 0] 32))) := h291q.out.new (.cells #[.int .i64 0, .int .i64 0] 32)
        have h296q : Hid (Bo ((u284q.alloc (.cells #[.int .u64 0, .int .u64 0, .int .u64 0, .int .u64 0, .int .u64 0, .int .u64 0, .int .u64 0, .int .u64 0, .int .u64 0, .int .u64 0, .int .u64 0, .int .u64 0, .int .u64 0, .int .u64 0, .int .u64 0, .int .u64 0, .int .u64 0] 29)).alloc (.cells #[.int .i64 0, .int .i64 0] 32)) n [.int .i64 4, .int .i64 k, .int .i64 x]) := h292q.out.new (.cells #[.int .i64 0, .int .i64 0] 32)
        have h297q : Hid (Bo ((u284q.alloc (.cells #[.int .u64 0, .int .u64 0, .int .u64 0, .int .u64 0, .int .u64 0, .int .u64 0, .int .u64 0, .int .u64 0, .int .u64 0, .int .u64 0, .int .u64 0, .int .u64 0, .int .u64 0, .int .u64 0, .int .u64 0, .int .u64 0, .int .u64 0] 29)).alloc (.cells #[.int .i64 0, .int .i64 0] 32)) u7q.heap.size (wl c)) := h293q.out.new (.cells #[.int .i64 0, .int .i64 0] 32)
        have h298q : Hid (Bo ((u284q.alloc (.cells #[.int .u64 0, .int .u64 0, .int .u64 0, .int .u64 0, .int .u64 0, .int .u64 0, .int .u64 0, .int .u64 0, .int .u64 0, .int .u64 0, .int .u64 0, .int .u64 0, .int .u64 0, .int .u64 0, .int .u64 0, .int .u64 0, .int .u64 0] 29)).alloc (.cells #[.int .i64 0, .int .i64 0] 32)) u284q.heap.size (wl wz)) := h294q.out.new (.cells #[.int .i64 0, .int .i64 0] 32)
        clear h291q h292q h293q h294q
        have h299q : Hid (Bo ((u284q.alloc (.cells #[.int .u64 0, .int .u64 0, .int .u64 0, .int .u64 0, .int .u64 0, .int .u64 0, .int .u64 0, .int .u64 0, .int .u64 0, .int .u64 0, .int .u64 0, .int .u64 0, .int .u64 0, .int .u64 0, .int .u64 0, .int .u64 0, .int .u64 0] 29)).alloc (.cells #[.int .i64 0, .int .i64 0] 32)) (u284q.heap.size + 1) [.int .i64 0, .int .i64 0]) := Bo.born (u284q.alloc (.cells #[.int .u64 0, .int .u64 0, .int .u64 0, .int .u64 0, .int .u64 0, .int .u64 0, .int .u64 0, .int .u64 0, .int .u64 0, .int .u64 0, .int .u64 0, .int .u64 0, .int .u64 0, .int .u64 0, .int .u64 0, .int .u64 0, .int .u64 0] 29)) [.int .i64 0, .int .i64 0] 32 (by simp)
        go_wp2_with (first
          | (refine wpList_store_mid rfl 29 _ _ rfl u284q.heap.size _ (wl u).toArray rfl rfl (h298q.out.thereW u) (HCZ.out u) (wl_all u) ?_
             have h300q : Hid (Gd n w (((u284q.alloc (.cells #[.int .u64 0, .int .u64 0, .int .u64 0, .int .u64 0, .int .u64 0, .int .u64 0, .int .u64 0, .int .u64 0, .int .u64 0, .int .u64 0, .int .u64 0, .int .u64 0, .int .u64 0, .int .u64 0, .int .u64 0, .int .u64 0, .int .u64 0] 29)).alloc (.cells #[.int .i64 0, .int .i64 0] 32)).setCells u284q.heap.size 0 (wl u))) := h295q.out.asideL (by omega) 0 (wl u)
             have h301q : Hid (Bo (((u284q.alloc (.cells #[.int .u64 0, .int .u64 0, .int .u64 0, .int .u64 0, .int .u64 0, .int .u64 0, .int .u64 0, .int .u64 0, .int .u64 0, .int .u64 0, .int .u64 0, .int .u64 0, .int .u64 0, .int .u64 0, .int .u64 0, .int .u64 0, .int .u64 0] 29)).alloc (.cells #[.int .i64 0, .int .i64 0] 32)).setCells u284q.heap.size 0 (wl u)) n [.int .i64 4, .int .i64 k, .int .i64 x]) := h296q.out.asideL (by omega) 0 (wl u)
             have h302q : Hid (Bo (((u284q.alloc (.cells #[.int .u64 0, .int .u64 0, .int .u64 0, .int .u64 0, .int .u64 0, .int .u64 0, .int .u64 0, .int .u64 0, .int .u64 0, .int .u64 0, .int .u64 0, .int .u64 0, .int .u64 0, .int .u64 0, .int .u64 0, .int .u64 0, .int .u64 0] 29)).alloc (.cells #[.int .i64 0, .int .i64 0] 32)).setCells u284q.heap.size 0 (wl u)) u7q.heap.size (wl c)) := h297q.out.asideL (by omega) 0 (wl u)
             have h303q : Hid (Bo (((u284q.alloc (.cells #[.int .u64 0, .int .u64 0, .int .u64 0, .int .u64 0, .int .u64 0, .int .u64 0, .int .u64 0, .int .u64 0, .int .u64 0, .int .u64 0, .int .u64 0, .int .u64 0, .int .u64 0, .int .u64 0, .int .u64 0, .int .u64 0, .int .u64 0] 29)).alloc (.cells #[.int .i64 0, .int .i64 0] 32)).setCells u284q.heap.size 0 (wl u)) u284q.heap.size (wl u)) := h298q.out.setW u
             have h304q : Hid (Bo (((u284q.alloc (.cells #[.int .u64 0, .int .u64 0, .int .u64 0, .int .u64 0, .int .u64 0, .int .u64 0, .int .u64 0, .int .u64 0, .int .u64 0, .int .u64 0, .int .u64 0, .int .u64 0, .int .u64 0, .int .u64 0, .int .u64 0, .int .u64 0, .int .u64 0] 29)).alloc (.cells #[.int .i64 0, .int .i64 0] 32)).setCells u284q.heap.size 0 (wl u)) (u284q.heap.size + 1) [.int .i64 0, .int .i64 0]) := h299q.out.asideL (by omega) 0 (wl u)
             clear h295q h296q h297q h298q h299q
             generalize (((u284q.alloc (.cells #[.int .u64 0, .int .u64 0, .int .u64 0, .int .u64 0, .int .u64 0, .int .u64 0, .int .u64 0, .int .u64 0, .int .u64 0, .int .u64 0, .int .u64 0, .int .u64 0, .int .u64 0, .int .u64 0, .int .u64 0, .int .u64 0, .int .u64 0] 29)).alloc (.cells #[.int .i64 0, .int .i64 0] 32)).setCells u284q.heap.size 0 (wl u)) = u305q at h300q h301q h302q h303q h304q  ⊢)
          | (refine wpList_store_mid rfl 32 _ _ rfl (u284q.heap.size + 1) _ #[.int .i64 (1), .int .i64 (yy)] rfl rfl h304q.out.there2 HA.out (two_one _ _) ?_
             have h306q : Hid (Gd n w (u305q.setCells (u284q.heap.size + 1) 0 [.int .i64 (1), .int .i64 (yy)])) := h300q.out.asideL (by omega) 0 [.int .i64 (1), .int .i64 (yy)]
             have h307q : Hid (Bo (u305q.setCells (u284q.heap.size + 1) 0 [.int .i64 (1), .int .i64 (yy)]) n [.int .i64 4, .int .i64 k, .int .i64 x]) := h301q.out.asideL (by omega) 0 [.int .i64 (1), .int .i64 (yy)]
             have h308q : Hid (Bo (u305q.setCells (u284q.heap.size + 1) 0 [.int .i64 (1), .int .i64 (yy)]) u7q.heap.size (wl c)) := h302q.out.asideL (by omega) 0 [.int .i64 (1), .int .i64 (yy)]
             have h309q : Hid (Bo (u305q.setCells (u284q.heap.size + 1) 0 [.int .i64 (1), .int .i64 (yy)]) u284q.heap.size (wl u)) := h303q.out.asideL (by omega) 0 [.int .i64 (1), .int .i64 (yy)]
             have h310q : Hid (Bo (u305q.setCells (u284q.heap.size + 1) 0 [.int .i64 (1), .int .i64 (yy)]) (u284q.heap.size + 1) [.int .i64 (1), .int .i64 (yy)]) := h304q.out.set2 (.int .i64 (1)) (.int .i64 (yy))
             clear h300q h301q h302q h303q h304q
             generalize (u305q.setCells (u284q.heap.size + 1) 0 [.int .i64 (1), .int .i64 (yy)]) = u311q at h306q h307q h308q h309q h310q  ⊢)
          | (refine wpList_load_mid rfl 29 _ rfl u284q.heap.size _ rfl (wl u) _ h309q.out.range HC.out rfl (HCS.out u) ?_))
        refine (SU.out _).mono ?_
        rintro e u312q ⟨rfl, hb⟩
        have h313q : Hid (Gd n w u312q) := h306q.out.later hb
        have h314q : Hid (Bo u312q n [.int .i64 4, .int .i64 k, .int .i64 x]) := h307q.out.later hb
        have h315q : Hid (Bo u312q u7q.heap.size (wl c)) := h308q.out.later hb
        have h316q : Hid (Bo u312q u284q.heap.size (wl u)) := h309q.out.later hb
        have h317q : Hid (Bo u312q (u284q.heap.size + 1) [.int .i64 (1), .int .i64 (yy)]) := h310q.out.later hb
        clear h306q h307q h308q h309q h310q
        clear hb
        have c318q := h314q.out.at 0 rfl
        have c319q := h317q.out.at 0 rfl
        have c320q := h317q.out.at 1 rfl
        go_wp2
        go_ret
        exact ⟨rfl, by first | exact h313q.out.low | exact h313q.out.2⟩
      · subst e5
        have hs : wl u = wl c := SM.out (Or.inr (Or.inl rfl))
        unfold DidD at DO
        rw [hs] at DO
        clear hs SU hz2 SM LS MR
        have d1 : decide (z1 < 0) = false := by simp; omega
        have d2 : decide (6 < z1) = false := by simp; omega
        clear hz1 b1 b2
        go_wp2_with (first
          | (refine wpList_store_mid rfl 29 _ _ rfl u7q.heap.size _ (wl c).toArray rfl rfl (h14q.out.thereW c) (HCZ.out c) (wl_all c) ?_
             have h321q : Hid (Gd n w ((u7q.alloc (.cells #[.int .u64 0, .int .u64 0, .int .u64 0, .int .u64 0, .int .u64 0, .int .u64 0, .int .u64 0, .int .u64 0, .int .u64 0, .int .u64 0, .int .u64 0, .int .u64 0, .int .u64 0, .int .u64 0, .int .u64 0, .int .u64 0, .int .u64 0] 29)).setCells u7q.heap.size 0 (wl c))) := h12q.out.asideL (by omega) 0 (wl c)
             have h322q : Hid (Bo ((u7q.alloc (.cells #[.int .u64 0, .int .u64 0, .int .u64 0, .int .u64 0, .int .u64 0, .int .u64 0, .int .u64 0, .int .u64 0, .int .u64 0, .int .u64 0, .int .u64 0, .int .u64 0, .int .u64 0, .int .u64 0, .int .u64 0, .int .u64 0, .int .u64 0] 29)).setCells u7q.heap.size 0 (wl c)) n [.int .i64 5, .int .i64 k, .int .i64 x]) := h13q.out.asideL (by omega) 0 (wl c)
             have h323q : Hid (Bo ((u7q.alloc (.cells #[.int .u64 0, .int .u64 0, .int .u64 0, .int .u64 0, .int .u64 0, .int .u64 0, .int .u64 0, .int .u64 0, .int .u64 0, .int .u64 0, .int .u64 0, .int .u64 0, .int .u64 0, .int .u64 0, .int .u64 0, .int .u64 0, .int .u64 0] 29)).setCells u7q.heap.size 0 (wl c)) u7q.heap.size (wl c)) := h14q.out.setW c
             clear h12q h13q h14q
             generalize ((u7q.alloc (.cells #[.int .u64 0, .int .u64 0, .int .u64 0, .int .u64 0, .int .u64 0, .int .u64 0, .int .u64 0, .int .u64 0, .int .u64 0, .int .u64 0, .int .u64 0, .int .u64 0, .int .u64 0, .int .u64 0, .int .u64 0, .int .u64 0, .int .u64 0] 29)).setCells u7q.heap.size 0 (wl c)) = u324q at h321q h322q h323q  ⊢
             have c325q := h322q.out.at 0 rfl
             have c326q := h322q.out.at 1 rfl
             have c327q := h322q.out.at 2 rfl)
          | (refine wpList_load_mid rfl 29 _ rfl u7q.heap.size _ rfl (wl c) _ h323q.out.range HC.out rfl (HCS.out c) ?_))
        refine (SZ.out _).mono ?_
        rintro e u328q ⟨rfl, hb⟩
        have h329q : Hid (Gd n w u328q) := h321q.out.later hb
        have h330q : Hid (Bo u328q n [.int .i64 5, .int .i64 k, .int .i64 x]) := h322q.out.later hb
        have h331q : Hid (Bo u328q u7q.heap.size (wl c)) := h323q.out.later hb
        clear h321q h322q h323q
        clear hb
        have c332q := h330q.out.at 0 rfl
        have c333q := h330q.out.at 1 rfl
        have c334q := h330q.out.at 2 rfl
        go_wp2_with (first
          | (refine wpList_load_mid rfl 29 _ rfl u7q.heap.size _ rfl (wl c) _ h331q.out.range HC.out rfl (HCS.out c) ?_))
        refine (DO.out _).mono ?_
        rintro e u335q ⟨rfl, hb⟩
        have h336q : Hid (Gd n w u335q) := h329q.out.later hb
        have h337q : Hid (Bo u335q n [.int .i64 5, .int .i64 k, .int .i64 x]) := h330q.out.later hb
        have h338q : Hid (Bo u335q u7q.heap.size (wl c)) := h331q.out.later hb
        clear h329q h330q h331q
        clear hb
        have l339q : n ≤ u335q.heap.size := h336q.out.le
        have l340q : n < u335q.heap.size := h337q.out.lt
        have l341q : u7q.heap.size < u335q.heap.size := h338q.out.lt
        have h342q : Hid (Gd n w (u335q.alloc (.cells #[.int .u64 0, .int .u64 0, .int .u64 0, .int .u64 0, .int .u64 0, .int .u64 0, .int .u64 0, .int .u64 0, .int .u64 0, .int .u64 0, .int .u64 0, .int .u64 0, .int .u64 0, .int .u64 0, .int .u64 0, .int .u64 0, .int .u64 0] 29))) := h336q.out.new (.cells #[.int .u64 0, .int .u64 0, .int .u64 0, .int .u64 0, .int .u64 0, .int .u64 0, .int .u64 0, .int .u64 0, .int .u64 0, .int .u64 0, .int .u64 0, .int .u64 0, .int .u64 0, .int .u64 0, .int .u64 0, .int .u64 0, .int .u64 0] 29)
        have h343q : Hid (Bo (u335q.alloc (.cells #[.int .u64 0, .int .u64 0, .int .u64 0, .int .u64 0, .int .u64 0, .int .u64 0, .int .u64 0, .int .u64 0, .int .u64 0, .int .u64 0, .int .u64 0, .int .u64 0, .int .u64 0, .int .u64 0, .int .u64 0, .int .u64 0, .int .u64 0] 29)) n [.int .i64 5, .int .i64 k, .int .i64 x]) := h337q.out.new (.cells #[.int .u64 0, .int .u64 0, .int .u64 0, .int .u64 0, .int .u64 0, .int .u64 0, .int .u64 0, .int .u64 0, .int .u64 0, .int .u64 0, .int .u64 0, .int .u64 0, .int .u64 0, .int .u64 0, .int .u64 0, .int .u64 0, .int .u64 0] 29)
        have h344q : Hid (Bo (u335q.alloc (.cells #[.int .u64 0, .int .u64 0, .int .u64 0, .int .u64 0, .int .u64 0, .int .u64 0, .int .u64 0, .int .u64 0, .int .u64 0, .int .u64 0, .int .u64 0, .int .u64 0, .int .u64 0, .int .u64 0, .int .u64 0, .int .u64 0, .int .u64 0] 29)) u7q.heap.size (wl c)) := h338q.out.new (.cells #[.int .u64 0, .int .u64 0, .int .u64 0, .int .u64 0, .int .u64 0, .int .u64 0, .int .u64 0, .int .u64 0, .int .u64 0, .int .u64 0, .int .u64 0, .int .u64 0, .int .u64 0, .int .u64 0, .int .u64 0, .int .u64 0, .int .u64 0] 29)
        clear h336q h337q h338q
        have h345q : Hid (Bo (u335q.alloc (.cells #[.int .u64 0, .int .u64 0, .int .u64 0, .int .u64 0, .int .u64 0, .int .u64 0, .int .u64 0, .int .u64 0, .int .u64 0, .int .u64 0, .int .u64 0, .int .u64 0, .int .u64 0, .int .u64 0, .int .u64 0, .int .u64 0, .int .u64 0] 29)) u335q.heap.size (wl wz)) := Bo.born u335q (wl wz) 29 (by simp)
        have h346q : Hid (Gd n w ((u335q.alloc (.cells #[.int .u64 0, .int .u64 0, .int .u64 0, .int .u64 0, .int .u64 0, .int .u64 0, .int .u64 0, .int .u64 0, .int .u64 0, .int .u64 0, .int .u64 0, .int .u64 0, .int .u64 0, .int .u64 0, .int .u64 0, .int .u64 0, .int .u64 0] 29)).alloc (.cells #[.int .i64 0, .int .i64 0] 32))) := h342q.out.new (.cells #[.int .i64 0, .int .i64 0] 32)
        have h347q : Hid (Bo ((u335q.alloc (.cells #[.int .u64 0, .int .u64 0, .int .u64 0, .int .u64 0, .int .u64 0, .int .u64 0, .int .u64 0, .int .u64 0, .int .u64 0, .int .u64 0, .int .u64 0, .int .u64 0, .int .u64 0, .int .u64 0, .int .u64 0, .int .u64 0, .int .u64 0] 29)).alloc (.cells #[.int .i64 0, .int .i64 0] 32)) n [.int .i64 5, .int .i64 k, .int .i64 x]) := h343q.out.new (.cells #[.int .i64 0, .int .i64 0] 32)
        have h348q : Hid (Bo ((u335q.alloc (.cells #[.int .u64 0, .int .u64 0, .int .u64 0, .int .u64 0, .int .u64 0, .int .u64 0, .int .u64 0, .int .u64 0, .int .u64 0, .int .u64 0, .int .u64 0, .int .u64 0, .int .u64 0, .int .u64 0, .int .u64 0, .int .u64 0, .int .u64 0] 29)).alloc (.cells #[.int .i64 0, .int .i64 0] 32)) u7q.heap.size (wl c)) := h344q.out.new (.cells #[.int .i64 0, .int .i64 0] 32)
        have h349q : Hid (Bo ((u335q.alloc (.cells #[.int .u64 0, .int .u64 0, .int .u64 0, .int .u64 0, .int .u64 0, .int .u64 0, .int .u64 0, .int .u64 0, .int .u64 0, .int .u64 0, .int .u64 0, .int .u64 0, .int .u64 0, .int .u64 0, .int .u64 0, .int .u64 0, .int .u64 0] 29)).alloc (.cells #[.int .i64 0, .int .i64 0] 32)) u335q.heap.size (wl wz)) := h345q.out.new (.cells #[.int .i64 0, .int .i64 0] 32)
        clear h342q h343q h344q h345q
        have h350q : Hid (Bo ((u335q.alloc (.cells #[.int .u64 0, .int .u64 0, .int .u64 0, .int .u64 0, .int .u64 0, .int .u64 0, .int .u64 0, .int .u64 0, .int .u64 0, .int .u64 0, .int .u64 0, .int .u64 0, .int .u64 0, .int .u64 0, .int .u64 0, .int .u64 0, .int .u64 0] 29)).alloc (.cells #[.int .i64 0, .int .i64 0] 32)) (u335q.heap.size + 1) [.int .i64 0, .int .i64 0]) := Bo.born (u335q.alloc (.cells #[.int .u64 0, .int .u64 0, .int .u64 0, .int .u64 0, .int .u64 0, .int .u64 0, .int .u64 0, .int .u64 0, .int .u64 0, .int .u64 0, .int .u64 0, .int .u64 0, .int .u64 0, .int .u64 0, .int .u64 0, .int .u64 0, .int .u64 0] 29)) [.int .i64 0, .int .i64 0] 32 (by simp)
        go_wp2_with (first
          | (refine wpList_store_mid rfl 29 _ _ rfl u335q.heap.size _ (wl c).toArray rfl rfl (h349q.out.thereW c) (HCZ.out c) (wl_all c) ?_
             have h351q : Hid (Gd n w (((u335q.alloc (.cells #[.int .u64 0, .int .u64 0, .int .u64 0, .int .u64 0, .int .u64 0, .int .u64 0, .int .u64 0, .int .u64 0, .int .u64 0, .int .u64 0, .int .u64 0, .int .u64 0, .int .u64 0, .int .u64 0, .int .u64 0, .int .u64 0, .int .u64 0] 29)).alloc (.cells #[.int .i64 0, .int .i64 0] 32)).setCells u335q.heap.size 0 (wl c))) := h346q.out.asideL (by omega) 0 (wl c)
             have h352q : Hid (Bo (((u335q.alloc (.cells #[.int .u64 0, .int .u64 0, .int .u64 0, .int .u64 0, .int .u64 0, .int .u64 0, .int .u64 0, .int .u64 0, .int .u64 0, .int .u64 0, .int .u64 0, .int .u64 0, .int .u64 0, .int .u64 0, .int .u64 0, .int .u64 0, .int .u64 0] 29)).alloc (.cells #[.int .i64 0, .int .i64 0] 32)).setCells u335q.heap.size 0 (wl c)) n [.int .i64 5, .int .i64 k, .int .i64 x]) := h347q.out.asideL (by omega) 0 (wl c)
             have h353q : Hid (Bo (((u335q.alloc (.cells #[.int .u64 0, .int .u64 0, .int .u64 0, .int .u64 0, .int .u64 0, .int .u64 0, .int .u64 0, .int .u64 0, .int .u64 0, .int .u64 0, .int .u64 0, .int .u64 0, .int .u64 0, .int .u64 0, .int .u64 0, .int .u64 0, .int .u64 0] 29)).alloc (.cells #[.int .i64 0, .int .i64 0] 32)).setCells u335q.heap.size 0 (wl c)) u7q.heap.size (wl c)) := h348q.out.asideL (by omega) 0 (wl c)
             have h354q : Hid (Bo (((u335q.alloc (.cells #[.int .u64 0, .int .u64 0, .int .u64 0, .int .u64 0, .int .u64 0, .int .u64 0, .int .u64 0, .int .u64 0, .int .u64 0, .int .u64 0, .int .u64 0, .int .u64 0, .int .u64 0, .int .u64 0, .int .u64 0, .int .u64 0, .int .u64 0] 29)).alloc (.cells #[.int .i64 0, .int .i64 0] 32)).setCells u335q.heap.size 0 (wl c)) u335q.heap.size (wl c)) := h349q.out.setW c
             have h355q : Hid (Bo (((u335q.alloc (.cells #[.int .u64 0, .int .u64 0, .int .u64 0, .int .u64 0, .int .u64 0, .int .u64 0, .int .u64 0, .int .u64 0, .int .u64 0, .int .u64 0, .int .u64 0, .int .u64 0, .int .u64 0, .int .u64 0, .int .u64 0, .int .u64 0, .int .u64 0] 29)).alloc (.cells #[.int .i64 0, .int .i64 0] 32)).setCells u335q.heap.size 0 (wl c)) (u335q.heap.size + 1) [.int .i64 0, .int .i64 0]) := h350q.out.asideL (by omega) 0 (wl c)
             clear h346q h347q h348q h349q h350q
             generalize (((u335q.alloc (.cells #[.int .u64 0, .int .u64 0, .int .u64 0, .int .u64 0, .int .u64 0, .int .u64 0, .int .u64 0, .int .u64 0, .int .u64 0, .int .u64 0, .int .u64 0, .int .u64 0, .int .u64 0, .int .u64 0, .int .u64 0, .int .u64 0, .int .u64 0] 29)).alloc (.cells #[.int .i64 0, .int .i64 0] 32)).setCells u335q.heap.size 0 (wl c)) = u356q at h351q h352q h353q h354q h355q  ⊢)
          | (refine wpList_store_mid rfl 32 _ _ rfl (u335q.heap.size + 1) _ #[.int .i64 (1), .int .i64 (yy)] rfl rfl h355q.out.there2 HA.out (two_one _ _) ?_
             have h357q : Hid (Gd n w (u356q.setCells (u335q.heap.size + 1) 0 [.int .i64 (1), .int .i64 (yy)])) := h351q.out.asideL (by omega) 0 [.int .i64 (1), .int .i64 (yy)]
             have h358q : Hid (Bo (u356q.setCells (u335q.heap.size + 1) 0 [.int .i64 (1), .int .i64 (yy)]) n [.int .i64 5, .int .i64 k, .int .i64 x]) := h352q.out.asideL (by omega) 0 [.int .i64 (1), .int .i64 (yy)]
             have h359q : Hid (Bo (u356q.setCells (u335q.heap.size + 1) 0 [.int .i64 (1), .int .i64 (yy)]) u7q.heap.size (wl c)) := h353q.out.asideL (by omega) 0 [.int .i64 (1), .int .i64 (yy)]
             have h360q : Hid (Bo (u356q.setCells (u335q.heap.size + 1) 0 [.int .i64 (1), .int .i64 (yy)]) u335q.heap.size (wl c)) := h354q.out.asideL (by omega) 0 [.int .i64 (1), .int .i64 (yy)]
             have h361q : Hid (Bo (u356q.setCells (u335q.heap.size + 1) 0 [.int .i64 (1), .int .i64 (yy)]) (u335q.heap.size + 1) [.int .i64 (1), .int .i64 (yy)]) := h355q.out.set2 (.int .i64 (1)) (.int .i64 (yy))
             clear h351q h352q h353q h354q h355q
             generalize (u356q.setCells (u335q.heap.size + 1) 0 [.int .i64 (1), .int .i64 (yy)]) = u362q at h357q h358q h359q h360q h361q  ⊢)
          | (refine wpList_load_mid rfl 29 _ rfl u335q.heap.size _ rfl (wl c) _ h360q.out.range HC.out rfl (HCS.out c) ?_))
        refine (SZ.out _).mono ?_
        rintro e u363q ⟨rfl, hb⟩
        have h364q : Hid (Gd n w u363q) := h357q.out.later hb
        have h365q : Hid (Bo u363q n [.int .i64 5, .int .i64 k, .int .i64 x]) := h358q.out.later hb
        have h366q : Hid (Bo u363q u7q.heap.size (wl c)) := h359q.out.later hb
        have h367q : Hid (Bo u363q u335q.heap.size (wl c)) := h360q.out.later hb
        have h368q : Hid (Bo u363q (u335q.heap.size + 1) [.int .i64 (1), .int .i64 (yy)]) := h361q.out.later hb
        clear h357q h358q h359q h360q h361q
        clear hb
        have c369q := h365q.out.at 0 rfl
        have c370q := h368q.out.at 0 rfl
        have c371q := h368q.out.at 1 rfl
        go_wp2
        go_ret
        exact ⟨rfl, by first | exact h364q.out.low | exact h364q.out.2⟩
      · subst e6
        have hs : wl u = wl c := SM.out (Or.inr (Or.inr rfl))
        unfold DidD at DO
        rw [hs] at DO
        clear hs SU hz2 SM LS MR
        have d1 : decide (z1 < 0) = false := by simp; omega
        have d2 : decide (6 < z1) = false := by simp; omega
        clear hz1 b1 b2
        go_wp2_with (first
          | (refine wpList_store_mid rfl 29 _ _ rfl u7q.heap.size _ (wl c).toArray rfl rfl (h14q.out.thereW c) (HCZ.out c) (wl_all c) ?_
             have h372q : Hid (Gd n w ((u7q.alloc (.cells #[.int .u64 0, .int .u64 0, .int .u64 0, .int .u64 0, .int .u64 0, .int .u64 0, .int .u64 0, .int .u64 0, .int .u64 0, .int .u64 0, .int .u64 0, .int .u64 0, .int .u64 0, .int .u64 0, .int .u64 0, .int .u64 0, .int .u64 0] 29)).setCells u7q.heap.size 0 (wl c))) := h12q.out.asideL (by omega) 0 (wl c)
             have h373q : Hid (Bo ((u7q.alloc (.cells #[.int .u64 0, .int .u64 0, .int .u64 0, .int .u64 0, .int .u64 0, .int .u64 0, .int .u64 0, .int .u64 0, .int .u64 0, .int .u64 0, .int .u64 0, .int .u64 0, .int .u64 0, .int .u64 0, .int .u64 0, .int .u64 0, .int .u64 0] 29)).setCells u7q.heap.size 0 (wl c)) n [.int .i64 6, .int .i64 k, .int .i64 x]) := h13q.out.asideL (by omega) 0 (wl c)
             have h374q : Hid (Bo ((u7q.alloc (.cells #[.int .u64 0, .int .u64 0, .int .u64 0, .int .u64 0, .int .u64 0, .int .u64 0, .int .u64 0, .int .u64 0, .int .u64 0, .int .u64 0, .int .u64 0, .int .u64 0, .int .u64 0, .int .u64 0, .int .u64 0, .int .u64 0, .int .u64 0] 29)).setCells u7q.heap.size 0 (wl c)) u7q.heap.size (wl c)) := h14q.out.setW c
             clear h12q h13q h14q
             generalize ((u7q.alloc (.cells #[.int .u64 0, .int .u64 0, .int .u64 0, .int .u64 0, .int .u64 0, .int .u64 0, .int .u64 0, .int .u64 0, .int .u64 0, .int .u64 0, .int .u64 0, .int .u64 0, .int .u64 0, .int .u64 0, .int .u64 0, .int .u64 0, .int .u64 0] 29)).setCells u7q.heap.size 0 (wl c)) = u375q at h372q h373q h374q  ⊢
             have c376q := h373q.out.at 0 rfl
             have c377q := h373q.out.at 1 rfl
             have c378q := h373q.out.at 2 rfl)
          | (refine wpList_load_mid rfl 29 _ rfl u7q.heap.size _ rfl (wl c) _ h374q.out.range HC.out rfl (HCS.out c) ?_))
        refine (SZ.out _).mono ?_
        rintro e u379q ⟨rfl, hb⟩
        have h380q : Hid (Gd n w u379q) := h372q.out.later hb
        have h381q : Hid (Bo u379q n [.int .i64 6, .int .i64 k, .int .i64 x]) := h373q.out.later hb
        have h382q : Hid (Bo u379q u7q.heap.size (wl c)) := h374q.out.later hb
        clear h372q h373q h374q
        clear hb
        have c383q := h381q.out.at 0 rfl
        have c384q := h381q.out.at 1 rfl
        have c385q := h381q.out.at 2 rfl
        go_wp2_with (first
          | (refine wpList_load_mid rfl 29 _ rfl u7q.heap.size _ rfl (wl c) _ h382q.out.range HC.out rfl (HCS.out c) ?_))
        refine (DO.out _).mono ?_
        rintro e u386q ⟨rfl, hb⟩
        have h387q : Hid (Gd n w u386q) := h380q.out.later hb
        have h388q : Hid (Bo u386q n [.int .i64 6, .int .i64 k, .int .i64 x]) := h381q.out.later hb
        have h389q : Hid (Bo u386q u7q.heap.size (wl c)) := h382q.out.later hb
        clear h380q h381q h382q
        clear hb
        have l390q : n ≤ u386q.heap.size := h387q.out.le
        have l391q : n < u386q.heap.size := h388q.out.lt
        have l392q : u7q.heap.size < u386q.heap.size := h389q.out.lt
        have h393q : Hid (Gd n w (u386q.alloc (.cells #[.int .u64 0, .int .u64 0, .int .u64 0, .int .u64 0, .int .u64 0, .int .u64 0, .int .u64 0, .int .u64 0, .int .u64 0, .int .u64 0, .int .u64 0, .int .u64 0, .int .u64 0, .int .u64 0, .int .u64 0, .int .u64 0, .int .u64 0] 29))) := h387q.out.new (.cells #[.int .u64 0, .int .u64 0, .int .u64 0, .int .u64 0, .int .u64 0, .int .u64 0, .int .u64 0, .int .u64 0, .int .u64 0, .int .u64 0, .int .u64 0, .int .u64 0, .int .u64 0, .int .u64 0, .int .u64 0, .int .u64 0, .int .u64 0] 29)
        have h394q : Hid (Bo (u386q.alloc (.cells #[.int .u64 0, .int .u64 0, .int .u64 0, .int .u64 0, .int .u64 0, .int .u64 0, .int .u64 0, .int .u64 0, .int .u64 0, .int .u64 0, .int .u64 0, .int .u64 0, .int .u64 0, .int .u64 0, .int .u64 0, .int .u64 0, .int .u64 0] 29)) n [.int .i64 6, .int .i64 k, .int .i64 x]) := h388q.out.new (.cells #[.int .u64 0, .int .u64 0, .int .u64 0, .int .u64 0, .int .u64 0, .int .u64 0, .int .u64 0, .int .u64 0, .int .u64 0, .int .u64 0, .int .u64 0, .int .u64 0, .int .u64 0, .int .u64 0, .int .u64 0, .int .u64 0, .int .u64 0] 29)
        have h395q : Hid (Bo (u386q.alloc (.cells #[.int .u64 0, .int .u64 0, .int .u64 0, .int .u64 0, .int .u64 0, .int .u64 0, .int .u64 0, .int .u64 0, .int .u64 0, .int .u64 0, .int .u64 0, .int .u64 0, .int .u64 0, .int .u64 0, .int .u64 0, .int .u64 0, .int .u64 0] 29)) u7q.heap.size (wl c)) := h389q.out.new (.cells #[.int .u64 0, .int .u64 0, .int .u64 0, .int .u64 0, .int .u64 0, .int .u64 0, .int .u64 0, .int .u64 0, .int .u64 0, .int .u64 0, .int .u64 0, .int .u64 0, .int .u64 0, .int .u64 0, .int .u64 0, .int .u64 0, .int .u64 0] 29)
        clear h387q h388q h389q
        have h396q : Hid (Bo (u386q.alloc (.cells #[.int .u64 0, .int .u64 0, .int .u64 0, .int .u64 0, .int .u64 0, .int .u64 0, .int .u64 0, .int .u64 0, .int .u64 0, .int .u64 0, .int .u64 0, .int .u64 0, .int .u64 0, .int .u64 0, .int .u64 0, .int .u64 0, .int .u64 0] 29)) u386q.heap.size (wl wz)) := Bo.born u386q (wl wz) 29 (by simp)
        have h397q : Hid (Gd n w ((u386q.alloc (.cells #[.int .u64 0, .int .u64 0, .int .u64 0, .int .u64 0, .int .u64 0, .int .u64 0, .int .u64 0, .int .u64 0, .int .u64 0, .int .u64 0, .int .u64 0, .int .u64 0, .int .u64 0, .int .u64 0, .int .u64 0, .int .u64 0, .int .u64 0] 29)).alloc (.cells #[.int .i64 0, .int .i64 0] 32))) := h393q.out.new (.cells #[.int .i64 0, .int .i64 0] 32)
        have h398q : Hid (Bo ((u386q.alloc (.cells #[.int .u64 0, .int .u64 0, .int .u64 0, .int .u64 0, .int .u64 0, .int .u64 0, .int .u64 0, .int .u64 0, .int .u64 0, .int .u64 0, .int .u64 0, .int .u64 0, .int .u64 0, .int .u64 0, .int .u64 0, .int .u64 0, .int .u64 0] 29)).alloc (.cells #[.int .i64 0, .int .i64 0] 32)) n [.int .i64 6, .int .i64 k, .int .i64 x]) := h394q.out.new (.cells #[.int .i64 0, .int .i64 0] 32)
        have h399q : Hid (Bo ((u386q.alloc (.cells #[.int .u64 0, .int .u64 0, .int .u64 0, .int .u64 0, .int .u64 0, .int .u64 0, .int .u64 0, .int .u64 0, .int .u64 0, .int .u64 0, .int .u64 0, .int .u64 0, .int .u64 0, .int .u64 0, .int .u64 0, .int .u64 0, .int .u64 0] 29)).alloc (.cells #[.int .i64 0, .int .i64 0] 32)) u7q.heap.size (wl c)) := h395q.out.new (.cells #[.int .i64 0, .int .i64 0] 32)
        have h400q : Hid (Bo ((u386q.alloc (.cells #[.int .u64 0, .int .u64 0, .int .u64 0, .int .u64 0, .int .u64 0, .int .u64 0, .int .u64 0, .int .u64 0, .int .u64 0, .int .u64 0, .int .u64 0, .int .u64 0, .int .u64 0, .int .u64 0, .int .u64 0, .int .u64 0, .int .u64 0] 29)).alloc (.cells #[.int .i64 0, .int .i64 0] 32)) u386q.heap.size (wl wz)) := h396q.out.new (.cells #[.int .i64 0, .int .i64 0] 32)
        clear h393q h394q h395q h396q
        have h401q : Hid (Bo ((u386q.alloc (.cells #[.int .u64 0, .int .u64 0, .int .u64 0, .int .u64 0, .int .u64 0, .int .u64 0, .int .u64 0, .int .u64 0, .int .u64 0, .int .u64 0, .int .u64 0, .int .u64 0, .int .u64 0, .int .u64 0, .int .u64 0, .int .u64 0, .int .u64 0] 29)).alloc (.cells #[.int .i64 0, .int .i64 0] 32)) (u386q.heap.size + 1) [.int .i64 0, .int .i64 0]) := Bo.born (u386q.alloc (.cells #[.int .u64 0, .int .u64 0, .int .u64 0, .int .u64 0, .int .u64 0, .int .u64 0, .int .u64 0, .int .u64 0, .int .u64 0, .int .u64 0, .int .u64 0, .int .u64 0, .int .u64 0, .int .u64 0, .int .u64 0, .int .u64 0, .int .u64 0] 29)) [.int .i64 0, .int .i64 0] 32 (by simp)
        go_wp2_with (first
          | (refine wpList_store_mid rfl 29 _ _ rfl u386q.heap.size _ (wl c).toArray rfl rfl (h400q.out.thereW c) (HCZ.out c) (wl_all c) ?_
             have h402q : Hid (Gd n w (((u386q.alloc (.cells #[.int .u64 0, .int .u64 0, .int .u64 0, .int .u64 0, .int .u64 0, .int .u64 0, .int .u64 0, .int .u64 0, .int .u64 0, .int .u64 0, .int .u64 0, .int .u64 0, .int .u64 0, .int .u64 0, .int .u64 0, .int .u64 0, .int .u64 0] 29)).alloc (.cells #[.int .i64 0, .int .i64 0] 32)).setCells u386q.heap.size 0 (wl c))) := h397q.out.asideL (by omega) 0 (wl c)
             have h403q : Hid (Bo (((u386q.alloc (.cells #[.int .u64 0, .int .u64 0, .int .u64 0, .int .u64 0, .int .u64 0, .int .u64 0, .int .u64 0, .int .u64 0, .int .u64 0, .int .u64 0, .int .u64 0, .int .u64 0, .int .u64 0, .int .u64 0, .int .u64 0, .int .u64 0, .int .u64 0] 29)).alloc (.cells #[.int .i64 0, .int .i64 0] 32)).setCells u386q.heap.size 0 (wl c)) n [.int .i64 6, .int .i64 k, .int .i64 x]) := h398q.out.asideL (by omega) 0 (wl c)
             have h404q : Hid (Bo (((u386q.alloc (.cells #[.int .u64 0, .int .u64 0, .int .u64 0, .int .u64 0, .int .u64 0, .int .u64 0, .int .u64 0, .int .u64 0, .int .u64 0, .int .u64 0, .int .u64 0, .int .u64 0, .int .u64 0, .int .u64 0, .int .u64 0, .int .u64 0, .int .u64 0] 29)).alloc (.cells #[.int .i64 0, .int .i64 0] 32)).setCells u386q.heap.size 0 (wl c)) u7q.heap.size (wl c)) := h399q.out.asideL (by omega) 0 (wl c)
             have h405q : Hid (Bo (((u386q.alloc (.cells #[.int .u64 0, .int .u64 0, .int .u64 0, .int .u64 0, .int .u64 0, .int .u64 0, .int .u64 0, .int .u64 0, .int .u64 0, .int .u64 0, .int .u64 0, .int .u64 0, .int .u64 0, .int .u64 0, .int .u64 0, .int .u64 0, .int .u64 0] 29)).alloc (.cells #[.int .i64 0, .int .i64 0] 32)).setCells u386q.heap.size 0 (wl c)) u386q.heap.size (wl c)) := h400q.out.setW c
             have h406q : Hid (Bo (((u386q.alloc (.cells #[.int .u64 0, .int .u64 0, .int .u64 0, .int .u64 0, .int .u64 0, .int .u64 0, .int .u64 0, .int .u64 0, .int .u64 0, .int .u64 0, .int .u64 0, .int .u64 0, .int .u64 0, .int .u64 0, .int .u64 0, .int .u64 0, .int .u64 0] 29)).alloc (.cells #[.int .i64 0, .int .i64 0] 32)).setCells u386q.heap.size 0 (wl c)) (u386q.heap.size + 1) [.int .i64 0, .int .i64 0]) := h401q.out.asideL (by omega) 0 (wl c)
             clear h397q h398q h399q h400q h401q
             generalize (((u386q.alloc (.cells #[.int .u64 0, .int .u64 0, .int .u64 0, .int .u64 0, .int .u64 0, .int .u64 0, .int .u64 0, .int .u64 0, .int .u64 0, .int .u64 0, .int .u64 0, .int .u64 0, .int .u64 0, .int .u64 0, .int .u64 0, .int .u64 0, .int .u64 0] 29)).alloc (.cells #[.int .i64 0, .int .i64 0] 32)).setCells u386q.heap.size 0 (wl c)) = u407q at h402q h403q h404q h405q h406q  ⊢)
          | (refine wpList_store_mid rfl 32 _ _ rfl (u386q.heap.size + 1) _ #[.int .i64 (1), .int .i64 (yy)] rfl rfl h406q.out.there2 HA.out (two_one _ _) ?_
             have h408q : Hid (Gd n w (u407q.setCells (u386q.heap.size + 1) 0 [.int .i64 (1), .int .i64 (yy)])) := h402q.out.asideL (by omega) 0 [.int .i64 (1), .int .i64 (yy)]
             have h409q : Hid (Bo (u407q.setCells (u386q.heap.size + 1) 0 [.int .i64 (1), .int .i64 (yy)]) n [.int .i64 6, .int .i64 k, .int .i64 x]) := h403q.out.asideL (by omega) 0 [.int .i64 (1), .int .i64 (yy)]
             have h410q : Hid (Bo (u407q.setCells (u386q.heap.size + 1) 0 [.int .i64 (1), .int .i64 (yy)]) u7q.heap.size (wl c)) := h404q.out.asideL (by omega) 0 [.int .i64 (1), .int .i64 (yy)]
             have h411q : Hid (Bo (u407q.setCells (u386q.heap.size + 1) 0 [.int .i64 (1), .int .i64 (yy)]) u386q.heap.size (wl c)) := h405q.out.asideL (by omega) 0 [.int .i64 (1), .int .i64 (yy)]
             have h412q : Hid (Bo (u407q.setCells (u386q.heap.size + 1) 0 [.int .i64 (1), .int .i64 (yy)]) (u386q.heap.size + 1) [.int .i64 (1), .int .i64 (yy)]) := h406q.out.set2 (.int .i64 (1)) (.int .i64 (yy))
             clear h402q h403q h404q h405q h406q
             generalize (u407q.setCells (u386q.heap.size + 1) 0 [.int .i64 (1), .int .i64 (yy)]) = u413q at h408q h409q h410q h411q h412q  ⊢)
          | (refine wpList_load_mid rfl 29 _ rfl u386q.heap.size _ rfl (wl c) _ h411q.out.range HC.out rfl (HCS.out c) ?_))
        refine (SZ.out _).mono ?_
        rintro e u414q ⟨rfl, hb⟩
        have h415q : Hid (Gd n w u414q) := h408q.out.later hb
        have h416q : Hid (Bo u414q n [.int .i64 6, .int .i64 k, .int .i64 x]) := h409q.out.later hb
        have h417q : Hid (Bo u414q u7q.heap.size (wl c)) := h410q.out.later hb
        have h418q : Hid (Bo u414q u386q.heap.size (wl c)) := h411q.out.later hb
        have h419q : Hid (Bo u414q (u386q.heap.size + 1) [.int .i64 (1), .int .i64 (yy)]) := h412q.out.later hb
        clear h408q h409q h410q h411q h412q
        clear hb
        have c420q := h416q.out.at 0 rfl
        have c421q := h419q.out.at 0 rfl
        have c422q := h419q.out.at 1 rfl
        go_wp2
        go_ret
        exact ⟨rfl, by first | exact h415q.out.low | exact h415q.out.2⟩
    · have hs : wl u = wl c := SM.out (Or.inl hcc)
      unfold DidD at DO
      rw [hs] at DO
      clear hs SU hz2 SM LS MR
      have mcc : (cc == 1) = false := by simp [hcc]
      have mcb : (cc != 1) = true := by simp [hcc]
      clear hcc hW
      have d1 : decide (z1 < 0) = false := by simp; omega
      have d2 : decide (6 < z1) = false := by simp; omega
      clear hz1 b1 b2
      go_wp2_with (first
        | (refine wpList_store_mid rfl 29 _ _ rfl u7q.heap.size _ (wl c).toArray rfl rfl (h14q.out.thereW c) (HCZ.out c) (wl_all c) ?_
           have h423q : Hid (Gd n w ((u7q.alloc (.cells #[.int .u64 0, .int .u64 0, .int .u64 0, .int .u64 0, .int .u64 0, .int .u64 0, .int .u64 0, .int .u64 0, .int .u64 0, .int .u64 0, .int .u64 0, .int .u64 0, .int .u64 0, .int .u64 0, .int .u64 0, .int .u64 0, .int .u64 0] 29)).setCells u7q.heap.size 0 (wl c))) := h12q.out.asideL (by omega) 0 (wl c)
           have h424q : Hid (Bo ((u7q.alloc (.cells #[.int .u64 0, .int .u64 0, .int .u64 0, .int .u64 0, .int .u64 0, .int .u64 0, .int .u64 0, .int .u64 0, .int .u64 0, .int .u64 0, .int .u64 0, .int .u64 0, .int .u64 0, .int .u64 0, .int .u64 0, .int .u64 0, .int .u64 0] 29)).setCells u7q.heap.size 0 (wl c)) n [.int .i64 o, .int .i64 k, .int .i64 x]) := h13q.out.asideL (by omega) 0 (wl c)
           have h425q : Hid (Bo ((u7q.alloc (.cells #[.int .u64 0, .int .u64 0, .int .u64 0, .int .u64 0, .int .u64 0, .int .u64 0, .int .u64 0, .int .u64 0, .int .u64 0, .int .u64 0, .int .u64 0, .int .u64 0, .int .u64 0, .int .u64 0, .int .u64 0, .int .u64 0, .int .u64 0] 29)).setCells u7q.heap.size 0 (wl c)) u7q.heap.size (wl c)) := h14q.out.setW c
           clear h12q h13q h14q
           generalize ((u7q.alloc (.cells #[.int .u64 0, .int .u64 0, .int .u64 0, .int .u64 0, .int .u64 0, .int .u64 0, .int .u64 0, .int .u64 0, .int .u64 0, .int .u64 0, .int .u64 0, .int .u64 0, .int .u64 0, .int .u64 0, .int .u64 0, .int .u64 0, .int .u64 0] 29)).setCells u7q.heap.size 0 (wl c)) = u426q at h423q h424q h425q  ⊢
           have c427q := h424q.out.at 0 rfl
           have c428q := h424q.out.at 1 rfl
           have c429q := h424q.out.at 2 rfl)
        | (refine wpList_load_mid rfl 29 _ rfl u7q.heap.size _ rfl (wl c) _ h425q.out.range HC.out rfl (HCS.out c) ?_))
      refine (SZ.out _).mono ?_
      rintro e u430q ⟨rfl, hb⟩
      have h431q : Hid (Gd n w u430q) := h423q.out.later hb
      have h432q : Hid (Bo u430q n [.int .i64 o, .int .i64 k, .int .i64 x]) := h424q.out.later hb
      have h433q : Hid (Bo u430q u7q.heap.size (wl c)) := h425q.out.later hb
      clear h423q h424q h425q
      clear hb
      have c434q := h432q.out.at 0 rfl
      have c435q := h432q.out.at 1 rfl
      have c436q := h432q.out.at 2 rfl
      go_wp2_with (first
        | (refine wpList_load_mid rfl 29 _ rfl u7q.heap.size _ rfl (wl c) _ h433q.out.range HC.out rfl (HCS.out c) ?_))
      refine (DO.out _).mono ?_
      rintro e u437q ⟨rfl, hb⟩
      have h438q : Hid (Gd n w u437q) := h431q.out.later hb
      have h439q : Hid (Bo u437q n [.int .i64 o, .int .i64 k, .int .i64 x]) := h432q.out.later hb
      have h440q : Hid (Bo u437q u7q.heap.size (wl c)) := h433q.out.later hb
      clear h431q h432q h433q
      clear hb
      have l441q : n ≤ u437q.heap.size := h438q.out.le
      have l442q : n < u437q.heap.size := h439q.out.lt
      have l443q : u7q.heap.size < u437q.heap.size := h440q.out.lt
      have h444q : Hid (Gd n w (u437q.alloc (.cells #[.int .u64 0, .int .u64 0, .int .u64 0, .int .u64 0, .int .u64 0, .int .u64 0, .int .u64 0, .int .u64 0, .int .u64 0, .int .u64 0, .int .u64 0, .int .u64 0, .int .u64 0, .int .u64 0, .int .u64 0, .int .u64 0, .int .u64 0] 29))) := h438q.out.new (.cells #[.int .u64 0, .int .u64 0, .int .u64 0, .int .u64 0, .int .u64 0, .int .u64 0, .int .u64 0, .int .u64 0, .int .u64 0, .int .u64 0, .int .u64 0, .int .u64 0, .int .u64 0, .int .u64 0, .int .u64 0, .int .u64 0, .int .u64 0] 29)
      have h445q : Hid (Bo (u437q.alloc (.cells #[.int .u64 0, .int .u64 0, .int .u64 0, .int .u64 0, .int .u64 0, .int .u64 0, .int .u64 0, .int .u64 0, .int .u64 0, .int .u64 0, .int .u64 0, .int .u64 0, .int .u64 0, .int .u64 0, .int .u64 0, .int .u64 0, .int .u64 0] 29)) n [.int .i64 o, .int .i64 k, .int .i64 x]) := h439q.out.new (.cells #[.int .u64 0, .int .u64 0, .int .u64 0, .int .u64 0, .int .u64 0, .int .u64 0, .int .u64 0, .int .u64 0, .int .u64 0, .int .u64 0, .int .u64 0, .int .u64 0, .int .u64 0, .int .u64 0, .int .u64 0, .int .u64 0, .int .u64 0] 29)
      have h446q : Hid (Bo (u437q.alloc (.cells #[.int .u64 0, .int .u64 0, .int .u64 0, .int .u64 0, .int .u64 0, .int .u64 0, .int .u64 0, .int .u64 0, .int .u64 0, .int .u64 0, .int .u64 0, .int .u64 0, .int .u64 0, .int .u64 0, .int .u64 0, .int .u64 0, .int .u64 0] 29)) u7q.heap.size (wl c)) := h440q.out.new (.cells #[.int .u64 0, .int .u64 0, .int .u64 0, .int .u64 0, .int .u64 0, .int .u64 0, .int .u64 0, .int .u64 0, .int .u64 0, .int .u64 0, .int .u64 0, .int .u64 0, .int .u64 0, .int .u64 0, .int .u64 0, .int .u64 0, .int .u64 0] 29)
      clear h438q h439q h440q
      have h447q : Hid (Bo (u437q.alloc (.cells #[.int .u64 0, .int .u64 0, .int .u64 0, .int .u64 0, .int .u64 0, .int .u64 0, .int .u64 0, .int .u64 0, .int .u64 0, .int .u64 0, .int .u64 0, .int .u64 0, .int .u64 0, .int .u64 0, .int .u64 0, .int .u64 0, .int .u64 0] 29)) u437q.heap.size (wl wz)) := Bo.born u437q (wl wz) 29 (by simp)
      have h448q : Hid (Gd n w ((u437q.alloc (.cells #[.int .u64 0, .int .u64 0, .int .u64 0, .int .u64 0, .int .u64 0, .int .u64 0, .int .u64 0, .int .u64 0, .int .u64 0, .int .u64 0, .int .u64 0, .int .u64 0, .int .u64 0, .int .u64 0, .int .u64 0, .int .u64 0, .int .u64 0] 29)).alloc (.cells #[.int .i64 0, .int .i64 0] 32))) := h444q.out.new (.cells #[.int .i64 0, .int .i64 0] 32)
      have h449q : Hid (Bo ((u437q.alloc (.cells #[.int .u64 0, .int .u64 0, .int .u64 0, .int .u64 0, .int .u64 0, .int .u64 0, .int .u64 0, .int .u64 0, .int .u64 0, .int .u64 0, .int .u64 0, .int .u64 0, .int .u64 0, .int .u64 0, .int .u64 0, .int .u64 0, .int .u64 0] 29)).alloc (.cells #[.int .i64 0, .int .i64 0] 32)) n [.int .i64 o, .int .i64 k, .int .i64 x]) := h445q.out.new (.cells #[.int .i64 0, .int .i64 0] 32)
      have h450q : Hid (Bo ((u437q.alloc (.cells #[.int .u64 0, .int .u64 0, .int .u64 0, .int .u64 0, .int .u64 0, .int .u64 0, .int .u64 0, .int .u64 0, .int .u64 0, .int .u64 0, .int .u64 0, .int .u64 0, .int .u64 0, .int .u64 0, .int .u64 0, .int .u64 0, .int .u64 0] 29)).alloc (.cells #[.int .i64 0, .int .i64 0] 32)) u7q.heap.size (wl c)) := h446q.out.new (.cells #[.int .i64 0, .int .i64 0] 32)
      have h451q : Hid (Bo ((u437q.alloc (.cells #[.int .u64 0, .int .u64 0, .int .u64 0, .int .u64 0, .int .u64 0, .int .u64 0, .int .u64 0, .int .u64 0, .int .u64 0, .int .u64 0, .int .u64 0, .int .u64 0, .int .u64 0, .int .u64 0, .int .u64 0, .int .u64 0, .int .u64 0] 29)).alloc (.cells #[.int .i64 0, .int .i64 0] 32)) u437q.heap.size (wl wz)) := h447q.out.new (.cells #[.int .i64 0, .int .i64 0] 32)
      clear h444q h445q h446q h447q
      have h452q : Hid (Bo ((u437q.alloc (.cells #[.int .u64 0, .int .u64 0, .int .u64 0, .int .u64 0, .int .u64 0, .int .u64 0, .int .u64 0, .int .u64 0, .int .u64 0, .int .u64 0, .int .u64 0, .int .u64 0, .int .u64 0, .int .u64 0, .int .u64 0, .int .u64 0, .int .u64 0] 29)).alloc (.cells #[.int .i64 0, .int .i64 0] 32)) (u437q.heap.size + 1) [.int .i64 0, .int .i64 0]) := Bo.born (u437q.alloc (.cells #[.int .u64 0, .int .u64 0, .int .u64 0, .int .u64 0, .int .u64 0, .int .u64 0, .int .u64 0, .int .u64 0, .int .u64 0, .int .u64 0, .int .u64 0, .int .u64 0, .int .u64 0, .int .u64 0, .int .u64 0, .int .u64 0, .int .u64 0] 29)) [.int .i64 0, .int .i64 0] 32 (by simp)
      go_wp2_with (first
        | (refine wpList_store_mid rfl 29 _ _ rfl u437q.heap.size _ (wl c).toArray rfl rfl (h451q.out.thereW c) (HCZ.out c) (wl_all c) ?_
           have h453q : Hid (Gd n w (((u437q.alloc (.cells #[.int .u64 0, .int .u64 0, .int .u64 0, .int .u64 0, .int .u64 0, .int .u64 0, .int .u64 0, .int .u64 0, .int .u64 0, .int .u64 0, .int .u64 0, .int .u64 0, .int .u64 0, .int .u64 0, .int .u64 0, .int .u64 0, .int .u64 0] 29)).alloc (.cells #[.int .i64 0, .int .i64 0] 32)).setCells u437q.heap.size 0 (wl c))) := h448q.out.asideL (by omega) 0 (wl c)
           have h454q : Hid (Bo (((u437q.alloc (.cells #[.int .u64 0, .int .u64 0, .int .u64 0, .int .u64 0, .int .u64 0, .int .u64 0, .int .u64 0, .int .u64 0, .int .u64 0, .int .u64 0, .int .u64 0, .int .u64 0, .int .u64 0, .int .u64 0, .int .u64 0, .int .u64 0, .int .u64 0] 29)).alloc (.cells #[.int .i64 0, .int .i64 0] 32)).setCells u437q.heap.size 0 (wl c)) n [.int .i64 o, .int .i64 k, .int .i64 x]) := h449q.out.asideL (by omega) 0 (wl c)
           have h455q : Hid (Bo (((u437q.alloc (.cells #[.int .u64 0, .int .u64 0, .int .u64 0, .int .u64 0, .int .u64 0, .int .u64 0, .int .u64 0, .int .u64 0, .int .u64 0, .int .u64 0, .int .u64 0, .int .u64 0, .int .u64 0, .int .u64 0, .int .u64 0, .int .u64 0, .int .u64 0] 29)).alloc (.cells #[.int .i64 0, .int .i64 0] 32)).setCells u437q.heap.size 0 (wl c)) u7q.heap.size (wl c)) := h450q.out.asideL (by omega) 0 (wl c)
           have h456q : Hid (Bo (((u437q.alloc (.cells #[.int .u64 0, .int .u64 0, .int .u64 0, .int .u64 0, .int .u64 0, .int .u64 0, .int .u64 0, .int .u64 0, .int .u64 0, .int .u64 0, .int .u64 0, .int .u64 0, .int .u64 0, .int .u64 0, .int .u64 0, .int .u64 0, .int .u64 0] 29)).alloc (.cells #[.int .i64 0, .int .i64 0] 32)).setCells u437q.heap.size 0 (wl c)) u437q.heap.size (wl c)) := h451q.out.setW c
           have h457q : Hid (Bo (((u437q.alloc (.cells #[.int .u64 0, .int .u64 0, .int .u64 0, .int .u64 0, .int .u64 0, .int .u64 0, .int .u64 0, .int .u64 0, .int .u64 0, .int .u64 0, .int .u64 0, .int .u64 0, .int .u64 0, .int .u64 0, .int .u64 0, .int .u64 0, .int .u64 0] 29)).alloc (.cells #[.int .i64 0, .int .i64 0] 32)).setCells u437q.heap.size 0 (wl c)) (u437q.heap.size + 1) [.int .i64 0, .int .i64 0]) := h452q.out.asideL (by omega) 0 (wl c)
           clear h448q h449q h450q h451q h452q
           generalize (((u437q.alloc (.cells #[.int .u64 0, .int .u64 0, .int .u64 0, .int .u64 0, .int .u64 0, .int .u64 0, .int .u64 0, .int .u64 0, .int .u64 0, .int .u64 0, .int .u64 0, .int .u64 0, .int .u64 0, .int .u64 0, .int .u64 0, .int .u64 0, .int .u64 0] 29)).alloc (.cells #[.int .i64 0, .int .i64 0] 32)).setCells u437q.heap.size 0 (wl c)) = u458q at h453q h454q h455q h456q h457q  ⊢)
        | (refine wpList_store_mid rfl 32 _ _ rfl (u437q.heap.size + 1) _ #[.int .i64 (cc), .int .i64 (yy)] rfl rfl h457q.out.there2 HA.out (two_one _ _) ?_
           have h459q : Hid (Gd n w (u458q.setCells (u437q.heap.size + 1) 0 [.int .i64 (cc), .int .i64 (yy)])) := h453q.out.asideL (by omega) 0 [.int .i64 (cc), .int .i64 (yy)]
           have h460q : Hid (Bo (u458q.setCells (u437q.heap.size + 1) 0 [.int .i64 (cc), .int .i64 (yy)]) n [.int .i64 o, .int .i64 k, .int .i64 x]) := h454q.out.asideL (by omega) 0 [.int .i64 (cc), .int .i64 (yy)]
           have h461q : Hid (Bo (u458q.setCells (u437q.heap.size + 1) 0 [.int .i64 (cc), .int .i64 (yy)]) u7q.heap.size (wl c)) := h455q.out.asideL (by omega) 0 [.int .i64 (cc), .int .i64 (yy)]
           have h462q : Hid (Bo (u458q.setCells (u437q.heap.size + 1) 0 [.int .i64 (cc), .int .i64 (yy)]) u437q.heap.size (wl c)) := h456q.out.asideL (by omega) 0 [.int .i64 (cc), .int .i64 (yy)]
           have h463q : Hid (Bo (u458q.setCells (u437q.heap.size + 1) 0 [.int .i64 (cc), .int .i64 (yy)]) (u437q.heap.size + 1) [.int .i64 (cc), .int .i64 (yy)]) := h457q.out.set2 (.int .i64 (cc)) (.int .i64 (yy))
           clear h453q h454q h455q h456q h457q
           generalize (u458q.setCells (u437q.heap.size + 1) 0 [.int .i64 (cc), .int .i64 (yy)]) = u464q at h459q h460q h461q h462q h463q  ⊢)
        | (refine wpList_load_mid rfl 29 _ rfl u437q.heap.size _ rfl (wl c) _ h462q.out.range HC.out rfl (HCS.out c) ?_))
      refine (SZ.out _).mono ?_
      rintro e u465q ⟨rfl, hb⟩
      have h466q : Hid (Gd n w u465q) := h459q.out.later hb
      have h467q : Hid (Bo u465q n [.int .i64 o, .int .i64 k, .int .i64 x]) := h460q.out.later hb
      have h468q : Hid (Bo u465q u7q.heap.size (wl c)) := h461q.out.later hb
      have h469q : Hid (Bo u465q u437q.heap.size (wl c)) := h462q.out.later hb
      have h470q : Hid (Bo u465q (u437q.heap.size + 1) [.int .i64 (cc), .int .i64 (yy)]) := h463q.out.later hb
      clear h459q h460q h461q h462q h463q
      clear hb
      have c471q := h467q.out.at 0 rfl
      have c472q := h470q.out.at 0 rfl
      have c473q := h470q.out.at 1 rfl
      go_wp2
      go_ret
      exact ⟨rfl, by first | exact h466q.out.low | exact h466q.out.2⟩
  · go_enter Try.func4, Try.ntmps4
    go_wp2_with fail
    refine (TH.out _).mono ?_
    rintro e u474q ⟨rfl, hb⟩
    have h475q : Hid (Gd w.heap.size w u474q) := h1q.out.later hb
    have h476q : Hid (Bo u474q w.heap.size [.int .i64 o, .int .i64 k, .int .i64 x]) := h2q.out.later hb
    clear h1q h2q
    clear hb
    go_wp2_with fail
    refine (KO.out _).mono ?_
    rintro e u477q ⟨rfl, hw⟩
    rw [hw]; clear hw u477q
    go_wp2_with fail
    refine (made_is (kind := (r : Nat)) (by omega) (by omega) (Ops.later (v := v1) (n := n1) D1.out h475q.out.2)).mono ?_
    rintro e u478q ⟨c, hO, rfl, hb⟩
    have h479q : Hid (Gd w.heap.size w u478q) := h475q.out.later hb
    have h480q : Hid (Bo u478q w.heap.size [.int .i64 o, .int .i64 k, .int .i64 x]) := h476q.out.later hb
    clear h475q h476q
    clear hb
    have HO : Hid _ := hO
    clear hO
    generalize hsz : w.heap.size = n at h479q h480q  ⊢
    have HSZ : Hid (w.heap.size = n) := hsz
    clear hsz
    have l481q : n ≤ u478q.heap.size := h479q.out.le
    have l482q : n < u478q.heap.size := h480q.out.lt
    have h483q : Hid (Gd n w (u478q.alloc (.cells #[.int .u64 0, .int .u64 0, .int .u64 0, .int .u64 0, .int .u64 0, .int .u64 0, .int .u64 0, .int .u64 0, .int .u64 0, .int .u64 0, .int .u64 0, .int .u64 0, .int .u64 0, .int .u64 0, .int .u64 0, .int .u64 0, .int .u64 0] 29))) := h479q.out.new (.cells #[.int .u64 0, .int .u64 0, .int .u64 0, .int .u64 0, .int .u64 0, .int .u64 0, .int .u64 0, .int .u64 0, .int .u64 0, .int .u64 0, .int .u64 0, .int .u64 0, .int .u64 0, .int .u64 0, .int .u64 0, .int .u64 0, .int .u64 0] 29)
    have h484q : Hid (Bo (u478q.alloc (.cells #[.int .u64 0, .int .u64 0, .int .u64 0, .int .u64 0, .int .u64 0, .int .u64 0, .int .u64 0, .int .u64 0, .int .u64 0, .int .u64 0, .int .u64 0, .int .u64 0, .int .u64 0, .int .u64 0, .int .u64 0, .int .u64 0, .int .u64 0] 29)) n [.int .i64 o, .int .i64 k, .int .i64 x]) := h480q.out.new (.cells #[.int .u64 0, .int .u64 0, .int .u64 0, .int .u64 0, .int .u64 0, .int .u64 0, .int .u64 0, .int .u64 0, .int .u64 0, .int .u64 0, .int .u64 0, .int .u64 0, .int .u64 0, .int .u64 0, .int .u64 0, .int .u64 0, .int .u64 0] 29)
    clear h479q h480q
    have h485q : Hid (Bo (u478q.alloc (.cells #[.int .u64 0, .int .u64 0, .int .u64 0, .int .u64 0, .int .u64 0, .int .u64 0, .int .u64 0, .int .u64 0, .int .u64 0, .int .u64 0, .int .u64 0, .int .u64 0, .int .u64 0, .int .u64 0, .int .u64 0, .int .u64 0, .int .u64 0] 29)) u478q.heap.size (wl wz)) := Bo.born u478q (wl wz) 29 (by simp)
    have SZ : Hid (∀ w : World, _) := fun w => obSize_is HO.out w
    have B1 := osz_in HO.out
    obtain ⟨z1, hz1⟩ : ∃ z, osz (r : Nat) c = z := ⟨_, rfl⟩
    clear B1
    rw [hz1] at SZ
    have DO : Hid (∀ w, Calls Try.prog 10 #[.int .i64 (r : Nat), .agg (wl c).toArray, .agg #[.int .i64 o, .int .i64 k, .int .i64 x]] w (Refd w)) := fun w => obDo_no (fun h => hR h.1) w
    have OR : Hid (∀ w : World, _) := fun w => opR_no hR w
    clear hR hz1
    go_wp2_with (first
      | (refine wpList_store_mid rfl 29 _ _ rfl u478q.heap.size _ (wl c).toArray rfl rfl (h485q.out.thereW c) (HCZ.out c) (wl_all c) ?_
         have h486q : Hid (Gd n w ((u478q.alloc (.cells #[.int .u64 0, .int .u64 0, .int .u64 0, .int .u64 0, .int .u64 0, .int .u64 0, .int .u64 0, .int .u64 0, .int .u64 0, .int .u64 0, .int .u64 0, .int .u64 0, .int .u64 0, .int .u64 0, .int .u64 0, .int .u64 0, .int .u64 0] 29)).setCells u478q.heap.size 0 (wl c))) := h483q.out.asideL (by omega) 0 (wl c)
         have h487q : Hid (Bo ((u478q.alloc (.cells #[.int .u64 0, .int .u64 0, .int .u64 0, .int .u64 0, .int .u64 0, .int .u64 0, .int .u64 0, .int .u64 0, .int .u64 0, .int .u64 0, .int .u64 0, .int .u64 0, .int .u64 0, .int .u64 0, .int .u64 0, .int .u64 0, .int .u64 0] 29)).setCells u478q.heap.size 0 (wl c)) n [.int .i64 o, .int .i64 k, .int .i64 x]) := h484q.out.asideL (by omega) 0 (wl c)
         have h488q : Hid (Bo ((u478q.alloc (.cells #[.int .u64 0, .int .u64 0, .int .u64 0, .int .u64 0, .int .u64 0, .int .u64 0, .int .u64 0, .int .u64 0, .int .u64 0, .int .u64 0, .int .u64 0, .int .u64 0, .int .u64 0, .int .u64 0, .int .u64 0, .int .u64 0, .int .u64 0] 29)).setCells u478q.heap.size 0 (wl c)) u478q.heap.size (wl c)) := h485q.out.setW c
         clear h483q h484q h485q
         generalize ((u478q.alloc (.cells #[.int .u64 0, .int .u64 0, .int .u64 0, .int .u64 0, .int .u64 0, .int .u64 0, .int .u64 0, .int .u64 0, .int .u64 0, .int .u64 0, .int .u64 0, .int .u64 0, .int .u64 0, .int .u64 0, .int .u64 0, .int .u64 0, .int .u64 0] 29)).setCells u478q.heap.size 0 (wl c)) = u489q at h486q h487q h488q  ⊢
         have c490q := h487q.out.at 0 rfl
         have c491q := h487q.out.at 1 rfl
         have c492q := h487q.out.at 2 rfl)
      | (refine wpList_load_mid rfl 29 _ rfl u478q.heap.size _ rfl (wl c) _ h488q.out.range HC.out rfl (HCS.out c) ?_))
    refine (SZ.out _).mono ?_
    rintro e u493q ⟨rfl, hb⟩
    have h494q : Hid (Gd n w u493q) := h486q.out.later hb
    have h495q : Hid (Bo u493q n [.int .i64 o, .int .i64 k, .int .i64 x]) := h487q.out.later hb
    have h496q : Hid (Bo u493q u478q.heap.size (wl c)) := h488q.out.later hb
    clear h486q h487q h488q
    clear hb
    have c497q := h495q.out.at 0 rfl
    have c498q := h495q.out.at 1 rfl
    have c499q := h495q.out.at 2 rfl
    go_wp2_with (first
      | (refine wpList_load_mid rfl 29 _ rfl u478q.heap.size _ rfl (wl c) _ h496q.out.range HC.out rfl (HCS.out c) ?_))
    refine (DO.out _).mono ?_
    rintro e u500q ⟨rfl, hb⟩
    have h501q : Hid (Gd n w u500q) := h494q.out.later hb
    have h502q : Hid (Bo u500q n [.int .i64 o, .int .i64 k, .int .i64 x]) := h495q.out.later hb
    have h503q : Hid (Bo u500q u478q.heap.size (wl c)) := h496q.out.later hb
    clear h494q h495q h496q
    clear hb
    have l504q : n ≤ u500q.heap.size := h501q.out.le
    have l505q : n < u500q.heap.size := h502q.out.lt
    have l506q : u478q.heap.size < u500q.heap.size := h503q.out.lt
    have h507q : Hid (Gd n w (u500q.alloc (.cells #[.int .u64 0, .int .u64 0, .int .u64 0, .int .u64 0, .int .u64 0, .int .u64 0, .int .u64 0, .int .u64 0, .int .u64 0, .int .u64 0, .int .u64 0, .int .u64 0, .int .u64 0, .int .u64 0, .int .u64 0, .int .u64 0, .int .u64 0] 29))) := h501q.out.new (.cells #[.int .u64 0, .int .u64 0, .int .u64 0, .int .u64 0, .int .u64 0, .int .u64 0, .int .u64 0, .int .u64 0, .int .u64 0, .int .u64 0, .int .u64 0, .int .u64 0, .int .u64 0, .int .u64 0, .int .u64 0, .int .u64 0, .int .u64 0] 29)
    have h508q : Hid (Bo (u500q.alloc (.cells #[.int .u64 0, .int .u64 0, .int .u64 0, .int .u64 0, .int .u64 0, .int .u64 0, .int .u64 0, .int .u64 0, .int .u64 0, .int .u64 0, .int .u64 0, .int .u64 0, .int .u64 0, .int .u64 0, .int .u64 0, .int .u64 0, .int .u64 0] 29)) n [.int .i64 o, .int .i64 k, .int .i64 x]) := h502q.out.new (.cells #[.int .u64 0, .int .u64 0, .int .u64 0, .int .u64 0, .int .u64 0, .int .u64 0, .int .u64 0, .int .u64 0, .int .u64 0, .int .u64 0, .int .u64 0, .int .u64 0, .int .u64 0, .int .u64 0, .int .u64 0, .int .u64 0, .int .u64 0] 29)
    have h509q : Hid (Bo (u500q.alloc (.cells #[.int .u64 0, .int .u64 0, .int .u64 0, .int .u64 0, .int .u64 0, .int .u64 0, .int .u64 0, .int .u64 0, .int .u64 0, .int .u64 0, .int .u64 0, .int .u64 0, .int .u64 0, .int .u64 0, .int .u64 0, .int .u64 0, .int .u64 0] 29)) u478q.heap.size (wl c)) := h503q.out.new (.cells #[.int .u64 0, .int .u64 0, .int .u64 0, .int .u64 0, .int .u64 0, .int .u64 0, .int .u64 0, .int .u64 0, .int .u64 0, .int .u64 0, .int .u64 0, .int .u64 0, .int .u64 0, .int .u64 0, .int .u64 0, .int .u64 0, .int .u64 0] 29)
    clear h501q h502q h503q
    have h510q : Hid (Bo (u500q.alloc (.cells #[.int .u64 0, .int .u64 0, .int .u64 0, .int .u64 0, .int .u64 0, .int .u64 0, .int .u64 0, .int .u64 0, .int .u64 0, .int .u64 0, .int .u64 0, .int .u64 0, .int .u64 0, .int .u64 0, .int .u64 0, .int .u64 0, .int .u64 0] 29)) u500q.heap.size (wl wz)) := Bo.born u500q (wl wz) 29 (by simp)
    have h511q : Hid (Gd n w ((u500q.alloc (.cells #[.int .u64 0, .int .u64 0, .int .u64 0, .int .u64 0, .int .u64 0, .int .u64 0, .int .u64 0, .int .u64 0, .int .u64 0, .int .u64 0, .int .u64 0, .int .u64 0, .int .u64 0, .int .u64 0, .int .u64 0, .int .u64 0, .int .u64 0] 29)).alloc (.cells #[.int .i64 0, .int .i64 0] 32))) := h507q.out.new (.cells #[.int .i64 0, .int .i64 0] 32)
    have h512q : Hid (Bo ((u500q.alloc (.cells #[.int .u64 0, .int .u64 0, .int .u64 0, .int .u64 0, .int .u64 0, .int .u64 0, .int .u64 0, .int .u64 0, .int .u64 0, .int .u64 0, .int .u64 0, .int .u64 0, .int .u64 0, .int .u64 0, .int .u64 0, .int .u64 0, .int .u64 0] 29)).alloc (.cells #[.int .i64 0, .int .i64 0] 32)) n [.int .i64 o, .int .i64 k, .int .i64 x]) := h508q.out.new (.cells #[.int .i64 0, .int .i64 0] 32)
    have h513q : Hid (Bo ((u500q.alloc (.cells #[.int .u64 0, .int .u64 0, .int .u64 0, .int .u64 0, .int .u64 0, .int .u64 0, .int .u64 0, .int .u64 0, .int .u64 0, .int .u64 0, .int .u64 0, .int .u64 0, .int .u64 0, .int .u64 0, .int .u64 0, .int .u64 0, .int .u64 0] 29)).alloc (.cells #[.int .i64 0, .int .i64 0] 32)) u478q.heap.size (wl c)) := h509q.out.new (.cells #[.int .i64 0, .int .i64 0] 32)
    have h514q : Hid (Bo ((u500q.alloc (.cells #[.int .u64 0, .int .u64 0, .int .u64 0, .int .u64 0, .int .u64 0, .int .u64 0, .int .u64 0, .int .u64 0, .int .u64 0, .int .u64 0, .int .u64 0, .int .u64 0, .int .u64 0, .int .u64 0, .int .u64 0, .int .u64 0, .int .u64 0] 29)).alloc (.cells #[.int .i64 0, .int .i64 0] 32)) u500q.heap.size (wl wz)) := h510q.out.new (.cells #[.int .i64 0, .int .i64 0] 32)
    clear h507q h508q h509q h510q
    have h515q : Hid (Bo ((u500q.alloc (.cells #[.int .u64 0, .int .u64 0, .int .u64 0, .int .u64 0, .int .u64 0, .int .u64 0, .int .u64 0, .int .u64 0, .int .u64 0, .int .u64 0, .int .u64 0, .int .u64 0, .int .u64 0, .int .u64 0, .int .u64 0, .int .u64 0, .int .u64 0] 29)).alloc (.cells #[.int .i64 0, .int .i64 0] 32)) (u500q.heap.size + 1) [.int .i64 0, .int .i64 0]) := Bo.born (u500q.alloc (.cells #[.int .u64 0, .int .u64 0, .int .u64 0, .int .u64 0, .int .u64 0, .int .u64 0, .int .u64 0, .int .u64 0, .int .u64 0, .int .u64 0, .int .u64 0, .int .u64 0, .int .u64 0, .int .u64 0, .int .u64 0, .int .u64 0, .int .u64 0] 29)) [.int .i64 0, .int .i64 0] 32 (by simp)
    go_wp2_with (first
      | (refine wpList_store_mid rfl 29 _ _ rfl u500q.heap.size _ (wl wz).toArray rfl rfl (h514q.out.thereW wz) (HCZ.out wz) (wl_all wz) ?_
         have h516q : Hid (Gd n w (((u500q.alloc (.cells #[.int .u64 0, .int .u64 0, .int .u64 0, .int .u64 0, .int .u64 0, .int .u64 0, .int .u64 0, .int .u64 0, .int .u64 0, .int .u64 0, .int .u64 0, .int .u64 0, .int .u64 0, .int .u64 0, .int .u64 0, .int .u64 0, .int .u64 0] 29)).alloc (.cells #[.int .i64 0, .int .i64 0] 32)).setCells u500q.heap.size 0 (wl wz))) := h511q.out.asideL (by omega) 0 (wl wz)
         have h517q : Hid (Bo (((u500q.alloc (.cells #[.int .u64 0, .int .u64 0, .int .u64 0, .int .u64 0, .int .u64 0, .int .u64 0, .int .u64 0, .int .u64 0, .int .u64 0, .int .u64 0, .int .u64 0, .int .u64 0, .int .u64 0, .int .u64 0, .int .u64 0, .int .u64 0, .int .u64 0] 29)).alloc (.cells #[.int .i64 0, .int .i64 0] 32)).setCells u500q.heap.size 0 (wl wz)) n [.int .i64 o, .int .i64 k, .int .i64 x]) := h512q.out.asideL (by omega) 0 (wl wz)
         have h518q : Hid (Bo (((u500q.alloc (.cells #[.int .u64 0, .int .u64 0, .int .u64 0, .int .u64 0, .int .u64 0, .int .u64 0, .int .u64 0, .int .u64 0, .int .u64 0, .int .u64 0, .int .u64 0, .int .u64 0, .int .u64 0, .int .u64 0, .int .u64 0, .int .u64 0, .int .u64 0] 29)).alloc (.cells #[.int .i64 0, .int .i64 0] 32)).setCells u500q.heap.size 0 (wl wz)) u478q.heap.size (wl c)) := h513q.out.asideL (by omega) 0 (wl wz)
         have h519q : Hid (Bo (((u500q.alloc (.cells #[.int .u64 0, .int .u64 0, .int .u64 0, .int .u64 0, .int .u64 0, .int .u64 0, .int .u64 0, .int .u64 0, .int .u64 0, .int .u64 0, .int .u64 0, .int .u64 0, .int .u64 0, .int .u64 0, .int .u64 0, .int .u64 0, .int .u64 0] 29)).alloc (.cells #[.int .i64 0, .int .i64 0] 32)).setCells u500q.heap.size 0 (wl wz)) u500q.heap.size (wl wz)) := h514q.out.setW wz
         have h520q : Hid (Bo (((u500q.alloc (.cells #[.int .u64 0, .int .u64 0, .int .u64 0, .int .u64 0, .int .u64 0, .int .u64 0, .int .u64 0, .int .u64 0, .int .u64 0, .int .u64 0, .int .u64 0, .int .u64 0, .int .u64 0, .int .u64 0, .int .u64 0, .int .u64 0, .int .u64 0] 29)).alloc (.cells #[.int .i64 0, .int .i64 0] 32)).setCells u500q.heap.size 0 (wl wz)) (u500q.heap.size + 1) [.int .i64 0, .int .i64 0]) := h515q.out.asideL (by omega) 0 (wl wz)
         clear h511q h512q h513q h514q h515q
         generalize (((u500q.alloc (.cells #[.int .u64 0, .int .u64 0, .int .u64 0, .int .u64 0, .int .u64 0, .int .u64 0, .int .u64 0, .int .u64 0, .int .u64 0, .int .u64 0, .int .u64 0, .int .u64 0, .int .u64 0, .int .u64 0, .int .u64 0, .int .u64 0, .int .u64 0] 29)).alloc (.cells #[.int .i64 0, .int .i64 0] 32)).setCells u500q.heap.size 0 (wl wz)) = u521q at h516q h517q h518q h519q h520q  ⊢)
      | (refine wpList_store_mid rfl 32 _ _ rfl (u500q.heap.size + 1) _ #[.int .i64 (0), .int .i64 (0)] rfl rfl h520q.out.there2 HA.out (two_one _ _) ?_
         have h522q : Hid (Gd n w (u521q.setCells (u500q.heap.size + 1) 0 [.int .i64 (0), .int .i64 (0)])) := h516q.out.asideL (by omega) 0 [.int .i64 (0), .int .i64 (0)]
         have h523q : Hid (Bo (u521q.setCells (u500q.heap.size + 1) 0 [.int .i64 (0), .int .i64 (0)]) n [.int .i64 o, .int .i64 k, .int .i64 x]) := h517q.out.asideL (by omega) 0 [.int .i64 (0), .int .i64 (0)]
         have h524q : Hid (Bo (u521q.setCells (u500q.heap.size + 1) 0 [.int .i64 (0), .int .i64 (0)]) u478q.heap.size (wl c)) := h518q.out.asideL (by omega) 0 [.int .i64 (0), .int .i64 (0)]
         have h525q : Hid (Bo (u521q.setCells (u500q.heap.size + 1) 0 [.int .i64 (0), .int .i64 (0)]) u500q.heap.size (wl wz)) := h519q.out.asideL (by omega) 0 [.int .i64 (0), .int .i64 (0)]
         have h526q : Hid (Bo (u521q.setCells (u500q.heap.size + 1) 0 [.int .i64 (0), .int .i64 (0)]) (u500q.heap.size + 1) [.int .i64 (0), .int .i64 (0)]) := h520q.out.set2 (.int .i64 (0)) (.int .i64 (0))
         clear h516q h517q h518q h519q h520q
         generalize (u521q.setCells (u500q.heap.size + 1) 0 [.int .i64 (0), .int .i64 (0)]) = u527q at h522q h523q h524q h525q h526q  ⊢
         have c528q := h523q.out.at 0 rfl
         have c529q := h523q.out.at 1 rfl
         have c530q := h523q.out.at 2 rfl))
    refine (OR.out _).mono ?_
    rintro e u531q ⟨rfl, hb⟩
    have h532q : Hid (Gd n w u531q) := h522q.out.later hb
    have h533q : Hid (Bo u531q n [.int .i64 o, .int .i64 k, .int .i64 x]) := h523q.out.later hb
    have h534q : Hid (Bo u531q u478q.heap.size (wl c)) := h524q.out.later hb
    have h535q : Hid (Bo u531q u500q.heap.size (wl wz)) := h525q.out.later hb
    have h536q : Hid (Bo u531q (u500q.heap.size + 1) [.int .i64 (0), .int .i64 (0)]) := h526q.out.later hb
    clear h522q h523q h524q h525q h526q
    clear hb
    go_wp2
    go_ret
    exact ⟨rfl, by first | exact h532q.out.low | exact h532q.out.2⟩


set_option maxRecDepth 100000 in
theorem lifted (os : Os) (started : os.Started) (H : Type) (enc : TypeId × Value → H) :
    ReturnsInHanded {} Try.checked os 4 .any (Rows.objectSizeSpec.pre6 enc Try.prog Try.f4 Rows.objectSizeRow.domain false) (Rows.objectSizeSpec.post enc Try.prog Try.f4 false true false false) := by
  refine returnsInHanded_of_change (C := Try.checked) own started (by kernel_rfl) Try.func4
    (ChangeSpec.witness6 (enc := enc) (C := Try.checked) false ⟨#[], #[.int .i64 0, .slice none 0 0, .agg #[.int .i64 0, .int .i64 0, .int .i64 0]], []⟩ 8 (by kernel_rfl) (by kernel_rfl) (by kernel_rfl) (by kernel_rfl)) ?_
  intro W base args ds gs before hval0 hW hcnd _
  have hval : ∀ (j : Nat) t v, Try.f4.params[j]? = some t → args[j]? = some v → Value.okWide Try.prog W .any base t v := hval0
  have hW' := hW
  obtain ⟨p, q, hA0, hV, rfl, hfz, hnd⟩ := hW
  have hA : DataW.TrodAll enc Try.prog W 0 (fun _ => true) true Try.f4.params.toList args.toList ds p := hA0
  rw [Try.params4] at hA hval
  obtain ⟨v0, vs0, d0, ds0, p0, q0, hargs, rfl, rfl, h0, r0⟩ := trodAll_cons hA
  obtain ⟨v1, vs1, d1, ds1, p1, q1, rfl, rfl, rfl, h1, r1⟩ := trodAll_cons r0
  obtain ⟨v2, vs2, d2, ds2, p2, q2, rfl, rfl, rfl, h2, r2⟩ := trodAll_cons r1
  obtain ⟨rfl, rfl, rfl⟩ := trodAll_nil r2
  obtain rfl : args = #[v0, v1, v2] := by cases args; simp_all
  obtain ⟨rfl, rfl⟩ := trodVars_none hV
  obtain ⟨a0, rfl, rfl, rfl, w0⟩ := open_int Try.underlying3 (hval 0 3 v0 rfl rfl) h0
  obtain ⟨n1, D1⟩ := ops_of_trod (hval 1 22 v1 rfl rfl) h1
  obtain ⟨a2, b2, c2, rfl, wa2, wb2, wc2⟩ := op_of_trod (hval 2 24 v2 rfl rfl) h2
  have hlt := hW'.lt
  clear hA0 hval0
  refine (walk a0 v1 n1 a2 b2 c2 w0 wa2 wb2 wc2 W  D1).mono fun e W' ⟨he, hg⟩ => ?_
  subst he
  exact ⟨_, rfl, post_below (pv := []) hW' (fun _ _ _ => (trodAll_cons_mk (shut_bool Try.underlying4 _) trodAll_mk0)) (fun sp hsp => (trodAll_cons_mk (shut_int Try.underlying3 w0) (trodAll_cons_mk (ops_stay h1 hg (fun x hx => hlt x (by simp [hx])) (fun x hx => hsp x (by simp [hx]))) (trodAll_cons_mk (op_stay h2 hg (fun x hx => hlt x (by simp [hx])) (fun x hx => hsp x (by simp [hx]))) trodAll_mk0)))) (fun _ _ => rfl) (by simp) (hg.frame _)⟩

theorem over : Rows.objectSizeRow.holds Try.pinned (OpenSpec.ofChange Rows.objectSizeSpec) :=
  OpenClaim.holds_of_wide 4 Try.f4 rfl rfl rfl rfl rfl rfl rfl ⟨rfl, rfl, rfl, rfl, rfl⟩ rfl rfl rfl rfl rfl (by kernel_rfl) Try.func4 (by kernel_rfl)
    (of_decide_eq_true (by kernel_rfl)) (by unfold Func.isWrapper; first | (rw [if_pos (by decide +kernel)]; kernel_rfl) | (rw [if_neg (by decide +kernel)]; exact ⟨rfl, rfl⟩))
    (fun os started H enc _ => lifted os started H enc)

theorem proved : Rows.ObjectSizeSaid :=
  over
#print axioms proved
end Go.Proofs.Ytbmgjpdfmgcigab.Tab.objectSize
