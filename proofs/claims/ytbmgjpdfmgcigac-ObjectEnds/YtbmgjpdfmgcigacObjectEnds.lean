/- ObjectEnds is proved: for every number of a kind, every list of operations and every number the call returns true (what is empty says so, what is full refuses, and nothing else does). -/
import Derived.Test.YtbmgjpdfmgcigacRows
import Derived.Test.YtbmgjpdfmgcigacKm
import Derived.Test.YtbmgjpdfmgcigacKth
import Derived.Test.YtbmgjpdfmgcigacArgOps
import Derived.Test.YtbmgjpdfmgcigacArgOp
import Derived.Deep.DeepCutAuto
import Derived.Deep.RegionHeld3

namespace Go.Proofs.Ytbmgjpdfmgcigac.Tab.objectEnds
open Go.ChangeShapes Go.WideShapes Go.ChangeAt Go.RowKit
set_option linter.unusedVariables false

theorem own : ownKnob Try.prog.godebug = none := by kernel_rfl

set_option maxHeartbeats 8000000 in
set_option maxRecDepth 20000 in
theorem walk (a0 : Int) (v1 : Value) (n1 : Nat) (a2 : Int) (w0 : (Lit.int .i64 a0).wf = true) (w2 : (Lit.int .i64 a2).wf = true) (w : World) (D : Ops w v1 n1) :
    Calls Try.prog 3 #[.int .i64 a0, v1, .int .i64 a2] w (fun e w' => e = .returned (.bool true) ∧ Below w.heap.size w w') := by
  have HA : Hid ((Try.prog.info? 34).map (·.size) = some 2) := answer_sz
  obtain ⟨fs, ha⟩ := answer_st
  have HDA : Hid _ := ha
  clear ha
  obtain ⟨nb, eb, hd⟩ := cells_array
  have HC : Hid _ := hd
  clear hd
  have HCS : Hid _ := cells_size
  have HCZ : Hid _ := cells_size2
  have g0 : Hid (Gd w.heap.size w w) := Gd.refl w
  have D1 : Hid (Ops w v1 n1) := D
  clear D
  have wa2 := w2
  have wb2 := w2
  have wc2 := w2
  clear w2
  clear w0 wa2 wb2 wc2
  have TH : Hid (∀ w : World, _) := fun w => things_is w
  obtain ⟨r0, hr0, hko⟩ := pick_4 a0
  have ew : IntKind.i64.wrap (1 + (r0 : Int)) = 1 + (r0 : Int) := by rw [IntKind.wrap_i64]; omega
  obtain ⟨r, hr⟩ : ∃ r : Nat, 1 + (r0 : Int) = (r : Nat) := ⟨r0 + 1, by omega⟩
  rw [hr] at ew
  have hr1 : 1 ≤ r := by omega
  have hr6 : r ≤ 4 := by omega
  have hr7 : r ≤ 6 := by omega
  have KO : Hid _ := hko
  clear hko
  obtain ⟨rV, hrV, hpv⟩ := pick_4294967296 a2
  have PV : Hid _ := hpv
  clear hpv
  go_enter Try.func3, Try.ntmps3
  go_wp2_with fail
  refine (TH.out _).mono ?_
  rintro e u1q ⟨rfl, hb⟩
  have h2q : Hid (Gd w.heap.size w u1q) := g0.out.later hb
  clear g0
  clear hb
  go_wp2_with fail
  refine (KO.out _).mono ?_
  rintro e u3q ⟨rfl, hw⟩
  rw [hw]; clear hw u3q
  go_wp2_with fail
  refine (made_is (kind := (r : Nat)) (by omega) (by omega) (Ops.later (v := v1) (n := n1) D1.out h2q.out.2)).mono ?_
  rintro e u4q ⟨c, hO, rfl, hb⟩
  have h5q : Hid (Gd w.heap.size w u4q) := h2q.out.later hb
  clear h2q
  clear hb
  have HO : Hid _ := hO
  clear hO
  generalize hsz : w.heap.size = n at h5q  ⊢
  have HSZ : Hid (w.heap.size = n) := hsz
  clear hsz
  have hR1 : Rt 2 0 0 := ⟨by decide, by decide, by decide, by decide, by decide, by decide⟩
  have hR2 : Rt 1 0 (rV : Nat) := ⟨by decide, by decide, by decide, by decide, by omega, by omega⟩
  obtain ⟨⟨u1, c1, y1⟩, hu⟩ : ∃ r9, odo (r : Nat) c 2 0 0 = r9 := ⟨_, rfl⟩
  have DT : Hid (∀ w, Calls Try.prog 8 #[.int .i64 (r : Nat), .agg (wl c).toArray, .agg #[.int .i64 2, .int .i64 0, .int .i64 0]] w (DidD w u1 c1 y1)) := fun w => by have := obDo_is HO.out hR1 w; rw [hu] at this; exact this
  have f : OF (r : Nat) c 2 0 0 (u1, c1, y1) := by have := odo_facts HO.out hR1.w1 hR1.w6 hR1.k0 hR1.k1 hR1.v0 hR1.v1; rw [hu] at this; exact this
  clear hu
  have T1 := f.take (by omega) rfl
  clear f
  obtain ⟨⟨u2, c2, y2⟩, hu⟩ : ∃ r9, odo (r : Nat) c 1 0 (rV : Nat) = r9 := ⟨_, rfl⟩
  have DP : Hid (∀ w, Calls Try.prog 8 #[.int .i64 (r : Nat), .agg (wl c).toArray, .agg #[.int .i64 1, .int .i64 0, .int .i64 (rV : Nat)]] w (DidD w u2 c2 y2)) := fun w => by have := obDo_is HO.out hR2 w; rw [hu] at this; exact this
  have f : OF (r : Nat) c 1 0 (rV : Nat) (u2, c2, y2) := by have := odo_facts HO.out hR2.w1 hR2.w6 hR2.k0 hR2.k1 hR2.v0 hR2.v1; rw [hu] at this; exact this
  clear hu
  have T2 := f.put (by omega) rfl
  clear f
  dsimp only at T1 T2
  have SZ : Hid (∀ w : World, _) := fun w => obSize_is HO.out w
  have B1 := osz_in HO.out
  have b1 : 0 ≤ osz (r : Nat) c ∧ osz (r : Nat) c ≤ 6 := ⟨B1.1, B1.2.1 (by omega)⟩
  generalize osz (r : Nat) c = z at *
  clear B1 hR1 hR2 HO
  have l6q : n ≤ u4q.heap.size := h5q.out.le
  have h7q : Hid (Gd n w (u4q.alloc (.cells #[.int .u64 0, .int .u64 0, .int .u64 0, .int .u64 0, .int .u64 0, .int .u64 0, .int .u64 0, .int .u64 0, .int .u64 0, .int .u64 0, .int .u64 0, .int .u64 0, .int .u64 0, .int .u64 0, .int .u64 0, .int .u64 0, .int .u64 0] 27))) := h5q.out.new (.cells #[.int .u64 0, .int .u64 0, .int .u64 0, .int .u64 0, .int .u64 0, .int .u64 0, .int .u64 0, .int .u64 0, .int .u64 0, .int .u64 0, .int .u64 0, .int .u64 0, .int .u64 0, .int .u64 0, .int .u64 0, .int .u64 0, .int .u64 0] 27)
  clear h5q
  have h8q : Hid (Bo (u4q.alloc (.cells #[.int .u64 0, .int .u64 0, .int .u64 0, .int .u64 0, .int .u64 0, .int .u64 0, .int .u64 0, .int .u64 0, .int .u64 0, .int .u64 0, .int .u64 0, .int .u64 0, .int .u64 0, .int .u64 0, .int .u64 0, .int .u64 0, .int .u64 0] 27)) u4q.heap.size (wl wz)) := Bo.born u4q (wl wz) 27 (by simp)
  have TT : Hid (_ ∧ _ ∧ _) := ⟨T1, T2, b1⟩
  clear T1 T2 b1
  go_wp2_with (first
    | (refine wpList_store_mid rfl 27 _ _ rfl u4q.heap.size _ (wl c).toArray rfl rfl (h8q.out.thereW c) (HCZ.out c) (wl_all c) ?_
       have h9q : Hid (Gd n w ((u4q.alloc (.cells #[.int .u64 0, .int .u64 0, .int .u64 0, .int .u64 0, .int .u64 0, .int .u64 0, .int .u64 0, .int .u64 0, .int .u64 0, .int .u64 0, .int .u64 0, .int .u64 0, .int .u64 0, .int .u64 0, .int .u64 0, .int .u64 0, .int .u64 0] 27)).setCells u4q.heap.size 0 (wl c))) := h7q.out.asideL (by omega) 0 (wl c)
       have h10q : Hid (Bo ((u4q.alloc (.cells #[.int .u64 0, .int .u64 0, .int .u64 0, .int .u64 0, .int .u64 0, .int .u64 0, .int .u64 0, .int .u64 0, .int .u64 0, .int .u64 0, .int .u64 0, .int .u64 0, .int .u64 0, .int .u64 0, .int .u64 0, .int .u64 0, .int .u64 0] 27)).setCells u4q.heap.size 0 (wl c)) u4q.heap.size (wl c)) := h8q.out.setW c
       clear h7q h8q
       generalize ((u4q.alloc (.cells #[.int .u64 0, .int .u64 0, .int .u64 0, .int .u64 0, .int .u64 0, .int .u64 0, .int .u64 0, .int .u64 0, .int .u64 0, .int .u64 0, .int .u64 0, .int .u64 0, .int .u64 0, .int .u64 0, .int .u64 0, .int .u64 0, .int .u64 0] 27)).setCells u4q.heap.size 0 (wl c)) = u11q at h9q h10q  ⊢)
    | (refine wpList_load_mid rfl 27 _ rfl u4q.heap.size _ rfl (wl c) _ h10q.out.range HC.out rfl (HCS.out c) ?_))
  refine (SZ.out _).mono ?_
  rintro e u12q ⟨rfl, hb⟩
  have h13q : Hid (Gd n w u12q) := h9q.out.later hb
  have h14q : Hid (Bo u12q u4q.heap.size (wl c)) := h10q.out.later hb
  clear h9q h10q
  clear hb
  go_wp2_with (first
    | (refine wpList_load_mid rfl 27 _ rfl u4q.heap.size _ rfl (wl c) _ h14q.out.range HC.out rfl (HCS.out c) ?_))
  refine (DT.out _).mono ?_
  rintro e u15q ⟨rfl, hb⟩
  have h16q : Hid (Gd n w u15q) := h13q.out.later hb
  have h17q : Hid (Bo u15q u4q.heap.size (wl c)) := h14q.out.later hb
  clear h13q h14q
  clear hb
  have l18q : n ≤ u15q.heap.size := h16q.out.le
  have l19q : u4q.heap.size < u15q.heap.size := h17q.out.lt
  have h20q : Hid (Gd n w (u15q.alloc (.cells #[.int .u64 0, .int .u64 0, .int .u64 0, .int .u64 0, .int .u64 0, .int .u64 0, .int .u64 0, .int .u64 0, .int .u64 0, .int .u64 0, .int .u64 0, .int .u64 0, .int .u64 0, .int .u64 0, .int .u64 0, .int .u64 0, .int .u64 0] 27))) := h16q.out.new (.cells #[.int .u64 0, .int .u64 0, .int .u64 0, .int .u64 0, .int .u64 0, .int .u64 0, .int .u64 0, .int .u64 0, .int .u64 0, .int .u64 0, .int .u64 0, .int .u64 0, .int .u64 0, .int .u64 0, .int .u64 0, .int .u64 0, .int .u64 0] 27)
  have h21q : Hid (Bo (u15q.alloc (.cells #[.int .u64 0, .int .u64 0, .int .u64 0, .int .u64 0, .int .u64 0, .int .u64 0, .int .u64 0, .int .u64 0, .int .u64 0, .int .u64 0, .int .u64 0, .int .u64 0, .int .u64 0, .int .u64 0, .int .u64 0, .int .u64 0, .int .u64 0] 27)) u4q.heap.size (wl c)) := h17q.out.new (.cells #[.int .u64 0, .int .u64 0, .int .u64 0, .int .u64 0, .int .u64 0, .int .u64 0, .int .u64 0, .int .u64 0, .int .u64 0, .int .u64 0, .int .u64 0, .int .u64 0, .int .u64 0, .int .u64 0, .int .u64 0, .int .u64 0, .int .u64 0] 27)
  clear h16q h17q
  have h22q : Hid (Bo (u15q.alloc (.cells #[.int .u64 0, .int .u64 0, .int .u64 0, .int .u64 0, .int .u64 0, .int .u64 0, .int .u64 0, .int .u64 0, .int .u64 0, .int .u64 0, .int .u64 0, .int .u64 0, .int .u64 0, .int .u64 0, .int .u64 0, .int .u64 0, .int .u64 0] 27)) u15q.heap.size (wl wz)) := Bo.born u15q (wl wz) 27 (by simp)
  have h23q : Hid (Gd n w ((u15q.alloc (.cells #[.int .u64 0, .int .u64 0, .int .u64 0, .int .u64 0, .int .u64 0, .int .u64 0, .int .u64 0, .int .u64 0, .int .u64 0, .int .u64 0, .int .u64 0, .int .u64 0, .int .u64 0, .int .u64 0, .int .u64 0, .int .u64 0, .int .u64 0] 27)).alloc (.cells #[.int .i64 0, .int .i64 0] 34))) := h20q.out.new (.cells #[.int .i64 0, .int .i64 0] 34)
  have h24q : Hid (Bo ((u15q.alloc (.cells #[.int .u64 0, .int .u64 0, .int .u64 0, .int .u64 0, .int .u64 0, .int .u64 0, .int .u64 0, .int .u64 0, .int .u64 0, .int .u64 0, .int .u64 0, .int .u64 0, .int .u64 0, .int .u64 0, .int .u64 0, .int .u64 0, .int .u64 0] 27)).alloc (.cells #[.int .i64 0, .int .i64 0] 34)) u4q.heap.size (wl c)) := h21q.out.new (.cells #[.int .i64 0, .int .i64 0] 34)
  have h25q : Hid (Bo ((u15q.alloc (.cells #[.int .u64 0, .int .u64 0, .int .u64 0, .int .u64 0, .int .u64 0, .int .u64 0, .int .u64 0, .int .u64 0, .int .u64 0, .int .u64 0, .int .u64 0, .int .u64 0, .int .u64 0, .int .u64 0, .int .u64 0, .int .u64 0, .int .u64 0] 27)).alloc (.cells #[.int .i64 0, .int .i64 0] 34)) u15q.heap.size (wl wz)) := h22q.out.new (.cells #[.int .i64 0, .int .i64 0] 34)
  clear h20q h21q h22q
  have h26q : Hid (Bo ((u15q.alloc (.cells #[.int .u64 0, .int .u64 0, .int .u64 0, .int .u64 0, .int .u64 0, .int .u64 0, .int .u64 0, .int .u64 0, .int .u64 0, .int .u64 0, .int .u64 0, .int .u64 0, .int .u64 0, .int .u64 0, .int .u64 0, .int .u64 0, .int .u64 0] 27)).alloc (.cells #[.int .i64 0, .int .i64 0] 34)) (u15q.heap.size + 1) [.int .i64 0, .int .i64 0]) := Bo.born (u15q.alloc (.cells #[.int .u64 0, .int .u64 0, .int .u64 0, .int .u64 0, .int .u64 0, .int .u64 0, .int .u64 0, .int .u64 0, .int .u64 0, .int .u64 0, .int .u64 0, .int .u64 0, .int .u64 0, .int .u64 0, .int .u64 0, .int .u64 0, .int .u64 0] 27)) [.int .i64 0, .int .i64 0] 34 (by simp)
  go_wp2_with (first
    | (refine wpList_store_mid rfl 27 _ _ rfl u15q.heap.size _ (wl u1).toArray rfl rfl (h25q.out.thereW u1) (HCZ.out u1) (wl_all u1) ?_
       have h27q : Hid (Gd n w (((u15q.alloc (.cells #[.int .u64 0, .int .u64 0, .int .u64 0, .int .u64 0, .int .u64 0, .int .u64 0, .int .u64 0, .int .u64 0, .int .u64 0, .int .u64 0, .int .u64 0, .int .u64 0, .int .u64 0, .int .u64 0, .int .u64 0, .int .u64 0, .int .u64 0] 27)).alloc (.cells #[.int .i64 0, .int .i64 0] 34)).setCells u15q.heap.size 0 (wl u1))) := h23q.out.asideL (by omega) 0 (wl u1)
       have h28q : Hid (Bo (((u15q.alloc (.cells #[.int .u64 0, .int .u64 0, .int .u64 0, .int .u64 0, .int .u64 0, .int .u64 0, .int .u64 0, .int .u64 0, .int .u64 0, .int .u64 0, .int .u64 0, .int .u64 0, .int .u64 0, .int .u64 0, .int .u64 0, .int .u64 0, .int .u64 0] 27)).alloc (.cells #[.int .i64 0, .int .i64 0] 34)).setCells u15q.heap.size 0 (wl u1)) u4q.heap.size (wl c)) := h24q.out.asideL (by omega) 0 (wl u1)
       have h29q : Hid (Bo (((u15q.alloc (.cells #[.int .u64 0, .int .u64 0, .int .u64 0, .int .u64 0, .int .u64 0, .int .u64 0, .int .u64 0, .int .u64 0, .int .u64 0, .int .u64 0, .int .u64 0, .int .u64 0, .int .u64 0, .int .u64 0, .int .u64 0, .int .u64 0, .int .u64 0] 27)).alloc (.cells #[.int .i64 0, .int .i64 0] 34)).setCells u15q.heap.size 0 (wl u1)) u15q.heap.size (wl u1)) := h25q.out.setW u1
       have h30q : Hid (Bo (((u15q.alloc (.cells #[.int .u64 0, .int .u64 0, .int .u64 0, .int .u64 0, .int .u64 0, .int .u64 0, .int .u64 0, .int .u64 0, .int .u64 0, .int .u64 0, .int .u64 0, .int .u64 0, .int .u64 0, .int .u64 0, .int .u64 0, .int .u64 0, .int .u64 0] 27)).alloc (.cells #[.int .i64 0, .int .i64 0] 34)).setCells u15q.heap.size 0 (wl u1)) (u15q.heap.size + 1) [.int .i64 0, .int .i64 0]) := h26q.out.asideL (by omega) 0 (wl u1)
       clear h23q h24q h25q h26q
       generalize (((u15q.alloc (.cells #[.int .u64 0, .int .u64 0, .int .u64 0, .int .u64 0, .int .u64 0, .int .u64 0, .int .u64 0, .int .u64 0, .int .u64 0, .int .u64 0, .int .u64 0, .int .u64 0, .int .u64 0, .int .u64 0, .int .u64 0, .int .u64 0, .int .u64 0] 27)).alloc (.cells #[.int .i64 0, .int .i64 0] 34)).setCells u15q.heap.size 0 (wl u1)) = u31q at h27q h28q h29q h30q  ⊢)
    | (refine wpList_store_mid rfl 34 _ _ rfl (u15q.heap.size + 1) _ #[.int .i64 (c1), .int .i64 (y1)] rfl rfl h30q.out.there2 HA.out (two_one _ _) ?_
       have h32q : Hid (Gd n w (u31q.setCells (u15q.heap.size + 1) 0 [.int .i64 (c1), .int .i64 (y1)])) := h27q.out.asideL (by omega) 0 [.int .i64 (c1), .int .i64 (y1)]
       have h33q : Hid (Bo (u31q.setCells (u15q.heap.size + 1) 0 [.int .i64 (c1), .int .i64 (y1)]) u4q.heap.size (wl c)) := h28q.out.asideL (by omega) 0 [.int .i64 (c1), .int .i64 (y1)]
       have h34q : Hid (Bo (u31q.setCells (u15q.heap.size + 1) 0 [.int .i64 (c1), .int .i64 (y1)]) u15q.heap.size (wl u1)) := h29q.out.asideL (by omega) 0 [.int .i64 (c1), .int .i64 (y1)]
       have h35q : Hid (Bo (u31q.setCells (u15q.heap.size + 1) 0 [.int .i64 (c1), .int .i64 (y1)]) (u15q.heap.size + 1) [.int .i64 (c1), .int .i64 (y1)]) := h30q.out.set2 (.int .i64 (c1)) (.int .i64 (y1))
       clear h27q h28q h29q h30q
       generalize (u31q.setCells (u15q.heap.size + 1) 0 [.int .i64 (c1), .int .i64 (y1)]) = u36q at h32q h33q h34q h35q  ⊢))
  go_cut [13, 14, 15] (fun s13 s14 s15 wx => ∃ b_y b_b : Nat, s13 = .pointer (some ⟨b_y, 0, none⟩) ∧ s14 = .pointer (some ⟨b_b, 0, none⟩) ∧ s15 = .nilIface ∧ Hid (Gd n w wx) ∧ Hid (Bo wx (u15q.heap.size + 1) [.int .i64 (c1), .int .i64 (y1)]) ∧ Hid (Bo wx b_b [.int .i64 (c2), .int .i64 (y2)]))
  case first =>
    have h37q : Hid (Gd n w u36q.drew) := h32q.out.drew
    have h38q : Hid (Bo u36q.drew u4q.heap.size (wl c)) := h33q.out.drew
    have h39q : Hid (Bo u36q.drew u15q.heap.size (wl u1)) := h34q.out.drew
    have h40q : Hid (Bo u36q.drew (u15q.heap.size + 1) [.int .i64 (c1), .int .i64 (y1)]) := h35q.out.drew
    clear h32q h33q h34q h35q
    refine wp_region_held_drew (S := fun w' => Bo w' u4q.heap.size (wl c)) (by kernel_rfl) h38q.out (fun hH => ?_)
    generalize u36q.drew = u41q at h37q h38q h39q h40q hH ⊢
    refine wpAnyH_take (i := 0) (oi := { dst := some 39, op := .move (.tmp 0), type := _, pos := _, after := _, guard := _ }) (v := ?_) rfl (by kernel_rfl) (by kernel_rfl) (by kernel_rfl) (fun _ _ _ h => h) (Or.inl ⟨by rfl, ?_⟩) hH ?_
    rotate_left
    · intro w hSw
      clear hSw
      go_simp
      try with_reducible rfl
    simp only [Act.put, List.setIfInBounds_toArray, List.set_cons_zero, List.set_cons_succ]
    refine wpAnyH_take (i := 1) (oi := { dst := some 40, op := .load _ (.tmp 7), type := _, pos := _, after := _, guard := _ }) (v := _) rfl (by kernel_rfl) (by kernel_rfl) (by kernel_rfl) (fun _ _ _ h => h) (yieldsIf_load_mid (by rfl) _ _ rfl u4q.heap.size _ rfl (wl c) _ (fun _ h => (h).range) HC.out rfl (HCS.out c)) hH ?_
    simp only [Act.put, List.setIfInBounds_toArray, List.set_cons_zero, List.set_cons_succ]
    refine wpAnyH_take (i := 2) (oi := { dst := some 41, op := .move (.tmp 2), type := _, pos := _, after := _, guard := _ }) (v := ?_) rfl (by kernel_rfl) (by kernel_rfl) (by kernel_rfl) (fun _ _ _ h => h) (Or.inl ⟨by rfl, ?_⟩) hH ?_
    rotate_left
    · intro w hSw
      clear hSw
      go_simp
      try with_reducible rfl
    simp only [Act.put, List.setIfInBounds_toArray, List.set_cons_zero, List.set_cons_succ]
    refine wpAnyH_ready (rs := [3, 10, 11]) (by kernel_rfl) (by simp) ?_
    refine AllReadyH.cons (o := { dst := some 42, op := _, type := _, pos := _, after := _, guard := _ }) rfl (fun K hK => ?_) ?_
    · go_simp
      refine (PV.out _).mono ?_
      rintro e u42q ⟨rfl, hw⟩
      rw [hw]; clear hw u42q
      go_wp2_with fail
      refine hK.out _ _ h38q.out (fun hH => ?_)
      clear hK K
      try simp only [Act.put, List.setIfInBounds_toArray, List.set_cons_zero, List.set_cons_succ]
      refine wpAnyH_take (i := 4) (oi := { dst := some 43, op := .build _ #[(0, .const (.int .i64 1)), (2, .tmp 42)], type := _, pos := _, after := _, guard := _ }) (v := ?_) rfl (by kernel_rfl) (by kernel_rfl) (by kernel_rfl) (fun _ _ _ h => h) (Or.inl ⟨by rfl, ?_⟩) hH ?_
      rotate_left
      · intro w hSw
        clear hSw
        go_simp
        try with_reducible rfl
      simp only [Act.put, List.setIfInBounds_toArray, List.set_cons_zero, List.set_cons_succ]
      refine wpAnyH_ready (rs := [5, 10, 11]) (by kernel_rfl) (by simp) ?_
      refine AllReadyH.cons (o := { dst := some 44, op := _, type := _, pos := _, after := _, guard := _ }) rfl (fun K hK => ?_) ?_
      · go_simp
        refine (DP.out _).mono ?_
        rintro e u43q ⟨rfl, hb⟩
        have h44q : Hid (Gd n w u43q) := h37q.out.later hb
        have h45q : Hid (Bo u43q u4q.heap.size (wl c)) := h38q.out.later hb
        have h46q : Hid (Bo u43q u15q.heap.size (wl u1)) := h39q.out.later hb
        have h47q : Hid (Bo u43q (u15q.heap.size + 1) [.int .i64 (c1), .int .i64 (y1)]) := h40q.out.later hb
        clear h37q h38q h39q h40q
        clear hb
        go_wp2_with fail
        refine hK.out _ _ h45q.out (fun hH => ?_)
        clear hK K
        try simp only [Act.put, List.setIfInBounds_toArray, List.set_cons_zero, List.set_cons_succ]
        refine wpAnyH_take (i := 6) (oi := { dst := some 38, op := .move (.tmp 44), type := _, pos := _, after := _, guard := _ }) (v := ?_) rfl (by kernel_rfl) (by kernel_rfl) (by kernel_rfl) (fun _ _ _ h => h) (Or.inl ⟨by rfl, ?_⟩) hH ?_
        rotate_left
        · intro w hSw
          clear hSw
          go_simp
          try with_reducible rfl
        simp only [Act.put, List.setIfInBounds_toArray, List.set_cons_zero, List.set_cons_succ]
        refine wpAnyH_take (i := 7) (oi := { dst := some 45, op := .extract (.tmp 38) 0, type := _, pos := _, after := _, guard := _ }) (v := ?_) rfl (by kernel_rfl) (by kernel_rfl) (by kernel_rfl) (fun _ _ _ h => h) (Or.inl ⟨by rfl, ?_⟩) hH ?_
        rotate_left
        · intro w hSw
          clear hSw
          go_simp
          try with_reducible rfl
        simp only [Act.put, List.setIfInBounds_toArray, List.set_cons_zero, List.set_cons_succ]
        refine wpAnyH_take (i := 8) (oi := { dst := some 46, op := .extract (.tmp 38) 1, type := _, pos := _, after := _, guard := _ }) (v := ?_) rfl (by kernel_rfl) (by kernel_rfl) (by kernel_rfl) (fun _ _ _ h => h) (Or.inl ⟨by rfl, ?_⟩) hH ?_
        rotate_left
        · intro w hSw
          clear hSw
          go_simp
          try with_reducible rfl
        simp only [Act.put, List.setIfInBounds_toArray, List.set_cons_zero, List.set_cons_succ]
        refine wpAnyH_take (i := 9) (oi := { dst := some 47, op := .extract (.tmp 38) 2, type := _, pos := _, after := _, guard := _ }) (v := ?_) rfl (by kernel_rfl) (by kernel_rfl) (by kernel_rfl) (fun _ _ _ h => h) (Or.inl ⟨by rfl, ?_⟩) hH ?_
        rotate_left
        · intro w hSw
          clear hSw
          go_simp
          try with_reducible rfl
        simp only [Act.put, List.setIfInBounds_toArray, List.set_cons_zero, List.set_cons_succ]
        refine wpAnyH_ready (rs := [10, 11]) (by kernel_rfl) (by simp) ?_
        refine AllReadyH.cons (o := { dst := some 13, op := .alloc _, type := _, pos := _, after := _, guard := _ }) rfl (fun K hK => ?_) ?_
        · have l48q : n ≤ u43q.heap.size := h44q.out.le
          have l49q : u4q.heap.size < u43q.heap.size := h45q.out.lt
          have l50q : u15q.heap.size < u43q.heap.size := h46q.out.lt
          have l51q : (u15q.heap.size + 1) < u43q.heap.size := h47q.out.lt
          go_simp
          have h52q : Hid (Gd n w (u43q.alloc (.cells #[.int .u64 0, .int .u64 0, .int .u64 0, .int .u64 0, .int .u64 0, .int .u64 0, .int .u64 0, .int .u64 0, .int .u64 0, .int .u64 0, .int .u64 0, .int .u64 0, .int .u64 0, .int .u64 0, .int .u64 0, .int .u64 0, .int .u64 0] 27))) := h44q.out.new (.cells #[.int .u64 0, .int .u64 0, .int .u64 0, .int .u64 0, .int .u64 0, .int .u64 0, .int .u64 0, .int .u64 0, .int .u64 0, .int .u64 0, .int .u64 0, .int .u64 0, .int .u64 0, .int .u64 0, .int .u64 0, .int .u64 0, .int .u64 0] 27)
          have h53q : Hid (Bo (u43q.alloc (.cells #[.int .u64 0, .int .u64 0, .int .u64 0, .int .u64 0, .int .u64 0, .int .u64 0, .int .u64 0, .int .u64 0, .int .u64 0, .int .u64 0, .int .u64 0, .int .u64 0, .int .u64 0, .int .u64 0, .int .u64 0, .int .u64 0, .int .u64 0] 27)) u4q.heap.size (wl c)) := h45q.out.new (.cells #[.int .u64 0, .int .u64 0, .int .u64 0, .int .u64 0, .int .u64 0, .int .u64 0, .int .u64 0, .int .u64 0, .int .u64 0, .int .u64 0, .int .u64 0, .int .u64 0, .int .u64 0, .int .u64 0, .int .u64 0, .int .u64 0, .int .u64 0] 27)
          have h54q : Hid (Bo (u43q.alloc (.cells #[.int .u64 0, .int .u64 0, .int .u64 0, .int .u64 0, .int .u64 0, .int .u64 0, .int .u64 0, .int .u64 0, .int .u64 0, .int .u64 0, .int .u64 0, .int .u64 0, .int .u64 0, .int .u64 0, .int .u64 0, .int .u64 0, .int .u64 0] 27)) u15q.heap.size (wl u1)) := h46q.out.new (.cells #[.int .u64 0, .int .u64 0, .int .u64 0, .int .u64 0, .int .u64 0, .int .u64 0, .int .u64 0, .int .u64 0, .int .u64 0, .int .u64 0, .int .u64 0, .int .u64 0, .int .u64 0, .int .u64 0, .int .u64 0, .int .u64 0, .int .u64 0] 27)
          have h55q : Hid (Bo (u43q.alloc (.cells #[.int .u64 0, .int .u64 0, .int .u64 0, .int .u64 0, .int .u64 0, .int .u64 0, .int .u64 0, .int .u64 0, .int .u64 0, .int .u64 0, .int .u64 0, .int .u64 0, .int .u64 0, .int .u64 0, .int .u64 0, .int .u64 0, .int .u64 0] 27)) (u15q.heap.size + 1) [.int .i64 (c1), .int .i64 (y1)]) := h47q.out.new (.cells #[.int .u64 0, .int .u64 0, .int .u64 0, .int .u64 0, .int .u64 0, .int .u64 0, .int .u64 0, .int .u64 0, .int .u64 0, .int .u64 0, .int .u64 0, .int .u64 0, .int .u64 0, .int .u64 0, .int .u64 0, .int .u64 0, .int .u64 0] 27)
          clear h44q h45q h46q h47q
          have h56q : Hid (Bo (u43q.alloc (.cells #[.int .u64 0, .int .u64 0, .int .u64 0, .int .u64 0, .int .u64 0, .int .u64 0, .int .u64 0, .int .u64 0, .int .u64 0, .int .u64 0, .int .u64 0, .int .u64 0, .int .u64 0, .int .u64 0, .int .u64 0, .int .u64 0, .int .u64 0] 27)) u43q.heap.size (wl wz)) := Bo.born u43q (wl wz) 27 (by simp)
          refine hK.out _ _ h53q.out (fun hH => ?_)
          clear hK K
          generalize (u43q.alloc (.cells #[.int .u64 0, .int .u64 0, .int .u64 0, .int .u64 0, .int .u64 0, .int .u64 0, .int .u64 0, .int .u64 0, .int .u64 0, .int .u64 0, .int .u64 0, .int .u64 0, .int .u64 0, .int .u64 0, .int .u64 0, .int .u64 0, .int .u64 0] 27)) = u57q at h52q h53q h54q h55q h56q hH ⊢
          try simp only [Act.put, List.setIfInBounds_toArray, List.set_cons_zero, List.set_cons_succ]
          refine wpAnyH_ready (rs := [11]) (by kernel_rfl) (by simp) ?_
          refine AllReadyH.cons (o := { dst := some 14, op := .alloc _, type := _, pos := _, after := _, guard := _ }) rfl (fun K hK => ?_) AllReadyH.nil
          have l58q : n ≤ u57q.heap.size := h52q.out.le
          have l59q : u4q.heap.size < u57q.heap.size := h53q.out.lt
          have l60q : u15q.heap.size < u57q.heap.size := h54q.out.lt
          have l61q : (u15q.heap.size + 1) < u57q.heap.size := h55q.out.lt
          have l62q : u43q.heap.size < u57q.heap.size := h56q.out.lt
          go_simp
          have h63q : Hid (Gd n w (u57q.alloc (.cells #[.int .i64 0, .int .i64 0] 34))) := h52q.out.new (.cells #[.int .i64 0, .int .i64 0] 34)
          have h64q : Hid (Bo (u57q.alloc (.cells #[.int .i64 0, .int .i64 0] 34)) u4q.heap.size (wl c)) := h53q.out.new (.cells #[.int .i64 0, .int .i64 0] 34)
          have h65q : Hid (Bo (u57q.alloc (.cells #[.int .i64 0, .int .i64 0] 34)) u15q.heap.size (wl u1)) := h54q.out.new (.cells #[.int .i64 0, .int .i64 0] 34)
          have h66q : Hid (Bo (u57q.alloc (.cells #[.int .i64 0, .int .i64 0] 34)) (u15q.heap.size + 1) [.int .i64 (c1), .int .i64 (y1)]) := h55q.out.new (.cells #[.int .i64 0, .int .i64 0] 34)
          have h67q : Hid (Bo (u57q.alloc (.cells #[.int .i64 0, .int .i64 0] 34)) u43q.heap.size (wl wz)) := h56q.out.new (.cells #[.int .i64 0, .int .i64 0] 34)
          clear h52q h53q h54q h55q h56q
          have h68q : Hid (Bo (u57q.alloc (.cells #[.int .i64 0, .int .i64 0] 34)) u57q.heap.size [.int .i64 0, .int .i64 0]) := Bo.born u57q [.int .i64 0, .int .i64 0] 34 (by simp)
          refine hK.out _ _ h64q.out (fun hH => ?_)
          clear hK K
          generalize (u57q.alloc (.cells #[.int .i64 0, .int .i64 0] 34)) = u69q at h63q h64q h65q h66q h67q h68q hH ⊢
          try simp only [Act.put, List.setIfInBounds_toArray, List.set_cons_zero, List.set_cons_succ]
          refine wpAnyH_ready (rs := [12]) (by kernel_rfl) (by simp) ?_
          refine AllReadyH.cons (o := { dst := none, op := .store _ (.tmp 13) (.tmp 45), type := _, pos := _, after := _, guard := _ }) rfl (fun K hK => ?_) AllReadyH.nil
          rw [if_pos (by rfl)]
          refine wp_store_mid _ _ _ rfl u43q.heap.size _ (wl u2).toArray rfl rfl (h67q.out.thereW u2) (HCZ.out u2) (wl_all u2) ?_
          simp only [Act.put]
          have h70q : Hid (Gd n w (u69q.setCells u43q.heap.size 0 (wl u2))) := h63q.out.asideL (by omega) 0 (wl u2)
          have h71q : Hid (Bo (u69q.setCells u43q.heap.size 0 (wl u2)) u4q.heap.size (wl c)) := h64q.out.asideL (by omega) 0 (wl u2)
          have h72q : Hid (Bo (u69q.setCells u43q.heap.size 0 (wl u2)) u15q.heap.size (wl u1)) := h65q.out.asideL (by omega) 0 (wl u2)
          have h73q : Hid (Bo (u69q.setCells u43q.heap.size 0 (wl u2)) (u15q.heap.size + 1) [.int .i64 (c1), .int .i64 (y1)]) := h66q.out.asideL (by omega) 0 (wl u2)
          have h74q : Hid (Bo (u69q.setCells u43q.heap.size 0 (wl u2)) u43q.heap.size (wl u2)) := h67q.out.setW u2
          have h75q : Hid (Bo (u69q.setCells u43q.heap.size 0 (wl u2)) u57q.heap.size [.int .i64 0, .int .i64 0]) := h68q.out.asideL (by omega) 0 (wl u2)
          clear h63q h64q h65q h66q h67q h68q
          refine hK.out _ _ h71q.out (fun hH => ?_)
          clear hK K
          generalize (u69q.setCells u43q.heap.size 0 (wl u2)) = u76q at h70q h71q h72q h73q h74q h75q hH ⊢
          try simp only [Act.put, List.setIfInBounds_toArray, List.set_cons_zero, List.set_cons_succ]
          refine wpAnyH_ready (rs := [13]) (by kernel_rfl) (by simp) ?_
          refine AllReadyH.cons (o := { dst := none, op := .store _ (.tmp 14) (.tmp 46), type := _, pos := _, after := _, guard := _ }) rfl (fun K hK => ?_) AllReadyH.nil
          rw [if_pos (by rfl)]
          refine wp_store_mid _ _ _ rfl u57q.heap.size _ #[.int .i64 (c2), .int .i64 (y2)] rfl rfl h75q.out.there2 HA.out (two_one _ _) ?_
          simp only [Act.put]
          have h77q : Hid (Gd n w (u76q.setCells u57q.heap.size 0 [.int .i64 (c2), .int .i64 (y2)])) := h70q.out.asideL (by omega) 0 [.int .i64 (c2), .int .i64 (y2)]
          have h78q : Hid (Bo (u76q.setCells u57q.heap.size 0 [.int .i64 (c2), .int .i64 (y2)]) u4q.heap.size (wl c)) := h71q.out.asideL (by omega) 0 [.int .i64 (c2), .int .i64 (y2)]
          have h79q : Hid (Bo (u76q.setCells u57q.heap.size 0 [.int .i64 (c2), .int .i64 (y2)]) u15q.heap.size (wl u1)) := h72q.out.asideL (by omega) 0 [.int .i64 (c2), .int .i64 (y2)]
          have h80q : Hid (Bo (u76q.setCells u57q.heap.size 0 [.int .i64 (c2), .int .i64 (y2)]) (u15q.heap.size + 1) [.int .i64 (c1), .int .i64 (y1)]) := h73q.out.asideL (by omega) 0 [.int .i64 (c2), .int .i64 (y2)]
          have h81q : Hid (Bo (u76q.setCells u57q.heap.size 0 [.int .i64 (c2), .int .i64 (y2)]) u43q.heap.size (wl u2)) := h74q.out.asideL (by omega) 0 [.int .i64 (c2), .int .i64 (y2)]
          have h82q : Hid (Bo (u76q.setCells u57q.heap.size 0 [.int .i64 (c2), .int .i64 (y2)]) u57q.heap.size [.int .i64 (c2), .int .i64 (y2)]) := h75q.out.set2 (.int .i64 (c2)) (.int .i64 (y2))
          clear h70q h71q h72q h73q h74q h75q
          refine hK.out _ _ h78q.out (fun hH => ?_)
          clear hK K
          generalize (u76q.setCells u57q.heap.size 0 [.int .i64 (c2), .int .i64 (y2)]) = u83q at h77q h78q h79q h80q h81q h82q hH ⊢
          try simp only [Act.put, List.setIfInBounds_toArray, List.set_cons_zero, List.set_cons_succ]
          refine wpAnyH_take (i := 14) (oi := { dst := some 15, op := .assign (.tmp 47), type := _, pos := _, after := _, guard := _ }) (v := ?_) rfl (by kernel_rfl) (by kernel_rfl) (by kernel_rfl) (fun _ _ _ h => h) (Or.inl ⟨by rfl, ?_⟩) hH ?_
          rotate_left
          · intro w hSw
            clear hSw
            go_simp
            try with_reducible rfl
          simp only [Act.put, List.setIfInBounds_toArray, List.set_cons_zero, List.set_cons_succ]
          refine wpAnyH_done (by kernel_rfl) ?_ _
          go_wp2_with fail
          go_meet
          case rel => exact ⟨u43q.heap.size, u57q.heap.size, rfl, rfl, rfl, h77q, h80q, h82q⟩
        refine AllReadyH.cons (o := { dst := some 14, op := .alloc _, type := _, pos := _, after := _, guard := _ }) rfl (fun K hK => ?_) AllReadyH.nil
        have l84q : n ≤ u43q.heap.size := h44q.out.le
        have l85q : u4q.heap.size < u43q.heap.size := h45q.out.lt
        have l86q : u15q.heap.size < u43q.heap.size := h46q.out.lt
        have l87q : (u15q.heap.size + 1) < u43q.heap.size := h47q.out.lt
        go_simp
        have h88q : Hid (Gd n w (u43q.alloc (.cells #[.int .i64 0, .int .i64 0] 34))) := h44q.out.new (.cells #[.int .i64 0, .int .i64 0] 34)
        have h89q : Hid (Bo (u43q.alloc (.cells #[.int .i64 0, .int .i64 0] 34)) u4q.heap.size (wl c)) := h45q.out.new (.cells #[.int .i64 0, .int .i64 0] 34)
        have h90q : Hid (Bo (u43q.alloc (.cells #[.int .i64 0, .int .i64 0] 34)) u15q.heap.size (wl u1)) := h46q.out.new (.cells #[.int .i64 0, .int .i64 0] 34)
        have h91q : Hid (Bo (u43q.alloc (.cells #[.int .i64 0, .int .i64 0] 34)) (u15q.heap.size + 1) [.int .i64 (c1), .int .i64 (y1)]) := h47q.out.new (.cells #[.int .i64 0, .int .i64 0] 34)
        clear h44q h45q h46q h47q
        have h92q : Hid (Bo (u43q.alloc (.cells #[.int .i64 0, .int .i64 0] 34)) u43q.heap.size [.int .i64 0, .int .i64 0]) := Bo.born u43q [.int .i64 0, .int .i64 0] 34 (by simp)
        refine hK.out _ _ h89q.out (fun hH => ?_)
        clear hK K
        generalize (u43q.alloc (.cells #[.int .i64 0, .int .i64 0] 34)) = u93q at h88q h89q h90q h91q h92q hH ⊢
        try simp only [Act.put, List.setIfInBounds_toArray, List.set_cons_zero, List.set_cons_succ]
        refine wpAnyH_ready (rs := [10]) (by kernel_rfl) (by simp) ?_
        refine AllReadyH.cons (o := { dst := some 13, op := .alloc _, type := _, pos := _, after := _, guard := _ }) rfl (fun K hK => ?_) AllReadyH.nil
        have l94q : n ≤ u93q.heap.size := h88q.out.le
        have l95q : u4q.heap.size < u93q.heap.size := h89q.out.lt
        have l96q : u15q.heap.size < u93q.heap.size := h90q.out.lt
        have l97q : (u15q.heap.size + 1) < u93q.heap.size := h91q.out.lt
        have l98q : u43q.heap.size < u93q.heap.size := h92q.out.lt
        go_simp
        have h99q : Hid (Gd n w (u93q.alloc (.cells #[.int .u64 0, .int .u64 0, .int .u64 0, .int .u64 0, .int .u64 0, .int .u64 0, .int .u64 0, .int .u64 0, .int .u64 0, .int .u64 0, .int .u64 0, .int .u64 0, .int .u64 0, .int .u64 0, .int .u64 0, .int .u64 0, .int .u64 0] 27))) := h88q.out.new (.cells #[.int .u64 0, .int .u64 0, .int .u64 0, .int .u64 0, .int .u64 0, .int .u64 0, .int .u64 0, .int .u64 0, .int .u64 0, .int .u64 0, .int .u64 0, .int .u64 0, .int .u64 0, .int .u64 0, .int .u64 0, .int .u64 0, .int .u64 0] 27)
        have h100q : Hid (Bo (u93q.alloc (.cells #[.int .u64 0, .int .u64 0, .int .u64 0, .int .u64 0, .int .u64 0, .int .u64 0, .int .u64 0, .int .u64 0, .int .u64 0, .int .u64 0, .int .u64 0, .int .u64 0, .int .u64 0, .int .u64 0, .int .u64 0, .int .u64 0, .int .u64 0] 27)) u4q.heap.size (wl c)) := h89q.out.new (.cells #[.int .u64 0, .int .u64 0, .int .u64 0, .int .u64 0, .int .u64 0, .int .u64 0, .int .u64 0, .int .u64 0, .int .u64 0, .int .u64 0, .int .u64 0, .int .u64 0, .int .u64 0, .int .u64 0, .int .u64 0, .int .u64 0, .int .u64 0] 27)
        have h101q : Hid (Bo (u93q.alloc (.cells #[.int .u64 0, .int .u64 0, .int .u64 0, .int .u64 0, .int .u64 0, .int .u64 0, .int .u64 0, .int .u64 0, .int .u64 0, .int .u64 0, .int .u64 0, .int .u64 0, .int .u64 0, .int .u64 0, .int .u64 0, .int .u64 0, .int .u64 0] 27)) u15q.heap.size (wl u1)) := h90q.out.new (.cells #[.int .u64 0, .int .u64 0, .int .u64 0, .int .u64 0, .int .u64 0, .int .u64 0, .int .u64 0, .int .u64 0, .int .u64 0, .int .u64 0, .int .u64 0, .int .u64 0, .int .u64 0, .int .u64 0, .int .u64 0, .int .u64 0, .int .u64 0] 27)
        have h102q : Hid (Bo (u93q.alloc (.cells #[.int .u64 0, .int .u64 0, .int .u64 0, .int .u64 0, .int .u64 0, .int .u64 0, .int .u64 0, .int .u64 0, .int .u64 0, .int .u64 0, .int .u64 0, .int .u64 0, .int .u64 0, .int .u64 0, .int .u64 0, .int .u64 0, .int .u64 0] 27)) (u15q.heap.size + 1) [.int .i64 (c1), .int .i64 (y1)]) := h91q.out.new (.cells #[.int .u64 0, .int .u64 0, .int .u64 0, .int .u64 0, .int .u64 0, .int .u64 0, .int .u64 0, .int .u64 0, .int .u64 0, .int .u64 0, .int .u64 0, .int .u64 0, .int .u64 0, .int .u64 0, .int .u64 0, .int .u64 0, .int .u64 0] 27)
        have h103q : Hid (Bo (u93q.alloc (.cells #[.int .u64 0, .int .u64 0, .int .u64 0, .int .u64 0, .int .u64 0, .int .u64 0, .int .u64 0, .int .u64 0, .int .u64 0, .int .u64 0, .int .u64 0, .int .u64 0, .int .u64 0, .int .u64 0, .int .u64 0, .int .u64 0, .int .u64 0] 27)) u43q.heap.size [.int .i64 0, .int .i64 0]) := h92q.out.new (.cells #[.int .u64 0, .int .u64 0, .int .u64 0, .int .u64 0, .int .u64 0, .int .u64 0, .int .u64 0, .int .u64 0, .int .u64 0, .int .u64 0, .int .u64 0, .int .u64 0, .int .u64 0, .int .u64 0, .int .u64 0, .int .u64 0, .int .u64 0] 27)
        clear h88q h89q h90q h91q h92q
        have h104q : Hid (Bo (u93q.alloc (.cells #[.int .u64 0, .int .u64 0, .int .u64 0, .int .u64 0, .int .u64 0, .int .u64 0, .int .u64 0, .int .u64 0, .int .u64 0, .int .u64 0, .int .u64 0, .int .u64 0, .int .u64 0, .int .u64 0, .int .u64 0, .int .u64 0, .int .u64 0] 27)) u93q.heap.size (wl wz)) := Bo.born u93q (wl wz) 27 (by simp)
        refine hK.out _ _ h100q.out (fun hH => ?_)
        clear hK K
        generalize (u93q.alloc (.cells #[.int .u64 0, .int .u64 0, .int .u64 0, .int .u64 0, .int .u64 0, .int .u64 0, .int .u64 0, .int .u64 0, .int .u64 0, .int .u64 0, .int .u64 0, .int .u64 0, .int .u64 0, .int .u64 0, .int .u64 0, .int .u64 0, .int .u64 0] 27)) = u105q at h99q h100q h101q h102q h103q h104q hH ⊢
        try simp only [Act.put, List.setIfInBounds_toArray, List.set_cons_zero, List.set_cons_succ]
        refine wpAnyH_ready (rs := [12]) (by kernel_rfl) (by simp) ?_
        refine AllReadyH.cons (o := { dst := none, op := .store _ (.tmp 13) (.tmp 45), type := _, pos := _, after := _, guard := _ }) rfl (fun K hK => ?_) AllReadyH.nil
        rw [if_pos (by rfl)]
        refine wp_store_mid _ _ _ rfl u93q.heap.size _ (wl u2).toArray rfl rfl (h104q.out.thereW u2) (HCZ.out u2) (wl_all u2) ?_
        simp only [Act.put]
        have h106q : Hid (Gd n w (u105q.setCells u93q.heap.size 0 (wl u2))) := h99q.out.asideL (by omega) 0 (wl u2)
        have h107q : Hid (Bo (u105q.setCells u93q.heap.size 0 (wl u2)) u4q.heap.size (wl c)) := h100q.out.asideL (by omega) 0 (wl u2)
        have h108q : Hid (Bo (u105q.setCells u93q.heap.size 0 (wl u2)) u15q.heap.size (wl u1)) := h101q.out.asideL (by omega) 0 (wl u2)
        have h109q : Hid (Bo (u105q.setCells u93q.heap.size 0 (wl u2)) (u15q.heap.size + 1) [.int .i64 (c1), .int .i64 (y1)]) := h102q.out.asideL (by omega) 0 (wl u2)
        have h110q : Hid (Bo (u105q.setCells u93q.heap.size 0 (wl u2)) u43q.heap.size [.int .i64 0, .int .i64 0]) := h103q.out.asideL (by omega) 0 (wl u2)
        have h111q : Hid (Bo (u105q.setCells u93q.heap.size 0 (wl u2)) u93q.heap.size (wl u2)) := h104q.out.setW u2
        clear h99q h100q h101q h102q h103q h104q
        refine hK.out _ _ h107q.out (fun hH => ?_)
        clear hK K
        generalize (u105q.setCells u93q.heap.size 0 (wl u2)) = u112q at h106q h107q h108q h109q h110q h111q hH ⊢
        try simp only [Act.put, List.setIfInBounds_toArray, List.set_cons_zero, List.set_cons_succ]
        refine wpAnyH_ready (rs := [13]) (by kernel_rfl) (by simp) ?_
        refine AllReadyH.cons (o := { dst := none, op := .store _ (.tmp 14) (.tmp 46), type := _, pos := _, after := _, guard := _ }) rfl (fun K hK => ?_) AllReadyH.nil
        rw [if_pos (by rfl)]
        refine wp_store_mid _ _ _ rfl u43q.heap.size _ #[.int .i64 (c2), .int .i64 (y2)] rfl rfl h110q.out.there2 HA.out (two_one _ _) ?_
        simp only [Act.put]
        have h113q : Hid (Gd n w (u112q.setCells u43q.heap.size 0 [.int .i64 (c2), .int .i64 (y2)])) := h106q.out.asideL (by omega) 0 [.int .i64 (c2), .int .i64 (y2)]
        have h114q : Hid (Bo (u112q.setCells u43q.heap.size 0 [.int .i64 (c2), .int .i64 (y2)]) u4q.heap.size (wl c)) := h107q.out.asideL (by omega) 0 [.int .i64 (c2), .int .i64 (y2)]
        have h115q : Hid (Bo (u112q.setCells u43q.heap.size 0 [.int .i64 (c2), .int .i64 (y2)]) u15q.heap.size (wl u1)) := h108q.out.asideL (by omega) 0 [.int .i64 (c2), .int .i64 (y2)]
        have h116q : Hid (Bo (u112q.setCells u43q.heap.size 0 [.int .i64 (c2), .int .i64 (y2)]) (u15q.heap.size + 1) [.int .i64 (c1), .int .i64 (y1)]) := h109q.out.asideL (by omega) 0 [.int .i64 (c2), .int .i64 (y2)]
        have h117q : Hid (Bo (u112q.setCells u43q.heap.size 0 [.int .i64 (c2), .int .i64 (y2)]) u43q.heap.size [.int .i64 (c2), .int .i64 (y2)]) := h110q.out.set2 (.int .i64 (c2)) (.int .i64 (y2))
        have h118q : Hid (Bo (u112q.setCells u43q.heap.size 0 [.int .i64 (c2), .int .i64 (y2)]) u93q.heap.size (wl u2)) := h111q.out.asideL (by omega) 0 [.int .i64 (c2), .int .i64 (y2)]
        clear h106q h107q h108q h109q h110q h111q
        refine hK.out _ _ h114q.out (fun hH => ?_)
        clear hK K
        generalize (u112q.setCells u43q.heap.size 0 [.int .i64 (c2), .int .i64 (y2)]) = u119q at h113q h114q h115q h116q h117q h118q hH ⊢
        try simp only [Act.put, List.setIfInBounds_toArray, List.set_cons_zero, List.set_cons_succ]
        refine wpAnyH_take (i := 14) (oi := { dst := some 15, op := .assign (.tmp 47), type := _, pos := _, after := _, guard := _ }) (v := ?_) rfl (by kernel_rfl) (by kernel_rfl) (by kernel_rfl) (fun _ _ _ h => h) (Or.inl ⟨by rfl, ?_⟩) hH ?_
        rotate_left
        · intro w hSw
          clear hSw
          go_simp
          try with_reducible rfl
        simp only [Act.put, List.setIfInBounds_toArray, List.set_cons_zero, List.set_cons_succ]
        refine wpAnyH_done (by kernel_rfl) ?_ _
        go_wp2_with fail
        go_meet
        case rel => exact ⟨u93q.heap.size, u43q.heap.size, rfl, rfl, rfl, h113q, h116q, h117q⟩
      refine AllReadyH.cons (o := { dst := some 13, op := .alloc _, type := _, pos := _, after := _, guard := _ }) rfl (fun K hK => ?_) ?_
      · have l120q : n ≤ u41q.heap.size := h37q.out.le
        have l121q : u4q.heap.size < u41q.heap.size := h38q.out.lt
        have l122q : u15q.heap.size < u41q.heap.size := h39q.out.lt
        have l123q : (u15q.heap.size + 1) < u41q.heap.size := h40q.out.lt
        go_simp
        have h124q : Hid (Gd n w (u41q.alloc (.cells #[.int .u64 0, .int .u64 0, .int .u64 0, .int .u64 0, .int .u64 0, .int .u64 0, .int .u64 0, .int .u64 0, .int .u64 0, .int .u64 0, .int .u64 0, .int .u64 0, .int .u64 0, .int .u64 0, .int .u64 0, .int .u64 0, .int .u64 0] 27))) := h37q.out.new (.cells #[.int .u64 0, .int .u64 0, .int .u64 0, .int .u64 0, .int .u64 0, .int .u64 0, .int .u64 0, .int .u64 0, .int .u64 0, .int .u64 0, .int .u64 0, .int .u64 0, .int .u64 0, .int .u64 0, .int .u64 0, .int .u64 0, .int .u64 0] 27)
        have h125q : Hid (Bo (u41q.alloc (.cells #[.int .u64 0, .int .u64 0, .int .u64 0, .int .u64 0, .int .u64 0, .int .u64 0, .int .u64 0, .int .u64 0, .int .u64 0, .int .u64 0, .int .u64 0, .int .u64 0, .int .u64 0, .int .u64 0, .int .u64 0, .int .u64 0, .int .u64 0] 27)) u4q.heap.size (wl c)) := h38q.out.new (.cells #[.int .u64 0, .int .u64 0, .int .u64 0, .int .u64 0, .int .u64 0, .int .u64 0, .int .u64 0, .int .u64 0, .int .u64 0, .int .u64 0, .int .u64 0, .int .u64 0, .int .u64 0, .int .u64 0, .int .u64 0, .int .u64 0, .int .u64 0] 27)
        have h126q : Hid (Bo (u41q.alloc (.cells #[.int .u64 0, .int .u64 0, .int .u64 0, .int .u64 0, .int .u64 0, .int .u64 0, .int .u64 0, .int .u64 0, .int .u64 0, .int .u64 0, .int .u64 0, .int .u64 0, .int .u64 0, .int .u64 0, .int .u64 0, .int .u64 0, .int .u64 0] 27)) u15q.heap.size (wl u1)) := h39q.out.new (.cells #[.int .u64 0, .int .u64 0, .int .u64 0, .int .u64 0, .int .u64 0, .int .u64 0, .int .u64 0, .int .u64 0, .int .u64 0, .int .u64 0, .int .u64 0, .int .u64 0, .int .u64 0, .int .u64 0, .int .u64 0, .int .u64 0, .int .u64 0] 27)
        have h127q : Hid (Bo (u41q.alloc (.cells #[.int .u64 0, .int .u64 0, .int .u64 0, .int .u64 0, .int .u64 0, .int .u64 0, .int .u64 0, .int .u64 0, .int .u64 0, .int .u64 0, .int .u64 0, .int .u64 0, .int .u64 0, .int .u64 0, .int .u64 0, .int .u64 0, .int .u64 0] 27)) (u15q.heap.size + 1) [.int .i64 (c1), .int .i64 (y1)]) := h40q.out.new (.cells #[.int .u64 0, .int .u64 0, .int .u64 0, .int .u64 0, .int .u64 0, .int .u64 0, .int .u64 0, .int .u64 0, .int .u64 0, .int .u64 0, .int .u64 0, .int .u64 0, .int .u64 0, .int .u64 0, .int .u64 0, .int .u64 0, .int .u64 0] 27)
        clear h37q h38q h39q h40q
        have h128q : Hid (Bo (u41q.alloc (.cells #[.int .u64 0, .int .u64 0, .int .u64 0, .int .u64 0, .int .u64 0, .int .u64 0, .int .u64 0, .int .u64 0, .int .u64 0, .int .u64 0, .int .u64 0, .int .u64 0, .int .u64 0, .int .u64 0, .int .u64 0, .int .u64 0, .int .u64 0] 27)) u41q.heap.size (wl wz)) := Bo.born u41q (wl wz) 27 (by simp)
        refine hK.out _ _ h125q.out (fun hH => ?_)
        clear hK K
        generalize (u41q.alloc (.cells #[.int .u64 0, .int .u64 0, .int .u64 0, .int .u64 0, .int .u64 0, .int .u64 0, .int .u64 0, .int .u64 0, .int .u64 0, .int .u64 0, .int .u64 0, .int .u64 0, .int .u64 0, .int .u64 0, .int .u64 0, .int .u64 0, .int .u64 0] 27)) = u129q at h124q h125q h126q h127q h128q hH ⊢
        try simp only [Act.put, List.setIfInBounds_toArray, List.set_cons_zero, List.set_cons_succ]
        refine wpAnyH_ready (rs := [5, 11]) (by kernel_rfl) (by simp) ?_
        refine AllReadyH.cons (o := { dst := some 44, op := _, type := _, pos := _, after := _, guard := _ }) rfl (fun K hK => ?_) ?_
        · go_simp
          refine (DP.out _).mono ?_
          rintro e u130q ⟨rfl, hb⟩
          have h131q : Hid (Gd n w u130q) := h124q.out.later hb
          have h132q : Hid (Bo u130q u4q.heap.size (wl c)) := h125q.out.later hb
          have h133q : Hid (Bo u130q u15q.heap.size (wl u1)) := h126q.out.later hb
          have h134q : Hid (Bo u130q (u15q.heap.size + 1) [.int .i64 (c1), .int .i64 (y1)]) := h127q.out.later hb
          have h135q : Hid (Bo u130q u41q.heap.size (wl wz)) := h128q.out.later hb
          clear h124q h125q h126q h127q h128q
          clear hb
          go_wp2_with fail
          refine hK.out _ _ h132q.out (fun hH => ?_)
          clear hK K
          try simp only [Act.put, List.setIfInBounds_toArray, List.set_cons_zero, List.set_cons_succ]
          refine wpAnyH_take (i := 6) (oi := { dst := some 38, op := .move (.tmp 44), type := _, pos := _, after := _, guard := _ }) (v := ?_) rfl (by kernel_rfl) (by kernel_rfl) (by kernel_rfl) (fun _ _ _ h => h) (Or.inl ⟨by rfl, ?_⟩) hH ?_
          rotate_left
          · intro w hSw
            clear hSw
            go_simp
            try with_reducible rfl
          simp only [Act.put, List.setIfInBounds_toArray, List.set_cons_zero, List.set_cons_succ]
          refine wpAnyH_take (i := 7) (oi := { dst := some 45, op := .extract (.tmp 38) 0, type := _, pos := _, after := _, guard := _ }) (v := ?_) rfl (by kernel_rfl) (by kernel_rfl) (by kernel_rfl) (fun _ _ _ h => h) (Or.inl ⟨by rfl, ?_⟩) hH ?_
          rotate_left
          · intro w hSw
            clear hSw
            go_simp
            try with_reducible rfl
          simp only [Act.put, List.setIfInBounds_toArray, List.set_cons_zero, List.set_cons_succ]
          refine wpAnyH_take (i := 8) (oi := { dst := some 46, op := .extract (.tmp 38) 1, type := _, pos := _, after := _, guard := _ }) (v := ?_) rfl (by kernel_rfl) (by kernel_rfl) (by kernel_rfl) (fun _ _ _ h => h) (Or.inl ⟨by rfl, ?_⟩) hH ?_
          rotate_left
          · intro w hSw
            clear hSw
            go_simp
            try with_reducible rfl
          simp only [Act.put, List.setIfInBounds_toArray, List.set_cons_zero, List.set_cons_succ]
          refine wpAnyH_take (i := 9) (oi := { dst := some 47, op := .extract (.tmp 38) 2, type := _, pos := _, after := _, guard := _ }) (v := ?_) rfl (by kernel_rfl) (by kernel_rfl) (by kernel_rfl) (fun _ _ _ h => h) (Or.inl ⟨by rfl, ?_⟩) hH ?_
          rotate_left
          · intro w hSw
            clear hSw
            go_simp
            try with_reducible rfl
          simp only [Act.put, List.setIfInBounds_toArray, List.set_cons_zero, List.set_cons_succ]
          refine wpAnyH_ready (rs := [11]) (by kernel_rfl) (by simp) ?_
          refine AllReadyH.cons (o := { dst := some 14, op := .alloc _, type := _, pos := _, after := _, guard := _ }) rfl (fun K hK => ?_) AllReadyH.nil
          have l136q : n ≤ u130q.heap.size := h131q.out.le
          have l137q : u4q.heap.size < u130q.heap.size := h132q.out.lt
          have l138q : u15q.heap.size < u130q.heap.size := h133q.out.lt
          have l139q : (u15q.heap.size + 1) < u130q.heap.size := h134q.out.lt
          have l140q : u41q.heap.size < u130q.heap.size := h135q.out.lt
          go_simp
          have h141q : Hid (Gd n w (u130q.alloc (.cells #[.int .i64 0, .int .i64 0] 34))) := h131q.out.new (.cells #[.int .i64 0, .int .i64 0] 34)
          have h142q : Hid (Bo (u130q.alloc (.cells #[.int .i64 0, .int .i64 0] 34)) u4q.heap.size (wl c)) := h132q.out.new (.cells #[.int .i64 0, .int .i64 0] 34)
          have h143q : Hid (Bo (u130q.alloc (.cells #[.int .i64 0, .int .i64 0] 34)) u15q.heap.size (wl u1)) := h133q.out.new (.cells #[.int .i64 0, .int .i64 0] 34)
          have h144q : Hid (Bo (u130q.alloc (.cells #[.int .i64 0, .int .i64 0] 34)) (u15q.heap.size + 1) [.int .i64 (c1), .int .i64 (y1)]) := h134q.out.new (.cells #[.int .i64 0, .int .i64 0] 34)
          have h145q : Hid (Bo (u130q.alloc (.cells #[.int .i64 0, .int .i64 0] 34)) u41q.heap.size (wl wz)) := h135q.out.new (.cells #[.int .i64 0, .int .i64 0] 34)
          clear h131q h132q h133q h134q h135q
          have h146q : Hid (Bo (u130q.alloc (.cells #[.int .i64 0, .int .i64 0] 34)) u130q.heap.size [.int .i64 0, .int .i64 0]) := Bo.born u130q [.int .i64 0, .int .i64 0] 34 (by simp)
          refine hK.out _ _ h142q.out (fun hH => ?_)
          clear hK K
          generalize (u130q.alloc (.cells #[.int .i64 0, .int .i64 0] 34)) = u147q at h141q h142q h143q h144q h145q h146q hH ⊢
          try simp only [Act.put, List.setIfInBounds_toArray, List.set_cons_zero, List.set_cons_succ]
          refine wpAnyH_ready (rs := [12]) (by kernel_rfl) (by simp) ?_
          refine AllReadyH.cons (o := { dst := none, op := .store _ (.tmp 13) (.tmp 45), type := _, pos := _, after := _, guard := _ }) rfl (fun K hK => ?_) AllReadyH.nil
          rw [if_pos (by rfl)]
          refine wp_store_mid _ _ _ rfl u41q.heap.size _ (wl u2).toArray rfl rfl (h145q.out.thereW u2) (HCZ.out u2) (wl_all u2) ?_
          simp only [Act.put]
          have h148q : Hid (Gd n w (u147q.setCells u41q.heap.size 0 (wl u2))) := h141q.out.asideL (by omega) 0 (wl u2)
          have h149q : Hid (Bo (u147q.setCells u41q.heap.size 0 (wl u2)) u4q.heap.size (wl c)) := h142q.out.asideL (by omega) 0 (wl u2)
          have h150q : Hid (Bo (u147q.setCells u41q.heap.size 0 (wl u2)) u15q.heap.size (wl u1)) := h143q.out.asideL (by omega) 0 (wl u2)
          have h151q : Hid (Bo (u147q.setCells u41q.heap.size 0 (wl u2)) (u15q.heap.size + 1) [.int .i64 (c1), .int .i64 (y1)]) := h144q.out.asideL (by omega) 0 (wl u2)
          have h152q : Hid (Bo (u147q.setCells u41q.heap.size 0 (wl u2)) u41q.heap.size (wl u2)) := h145q.out.setW u2
          have h153q : Hid (Bo (u147q.setCells u41q.heap.size 0 (wl u2)) u130q.heap.size [.int .i64 0, .int .i64 0]) := h146q.out.asideL (by omega) 0 (wl u2)
          clear h141q h142q h143q h144q h145q h146q
          refine hK.out _ _ h149q.out (fun hH => ?_)
          clear hK K
          generalize (u147q.setCells u41q.heap.size 0 (wl u2)) = u154q at h148q h149q h150q h151q h152q h153q hH ⊢
          try simp only [Act.put, List.setIfInBounds_toArray, List.set_cons_zero, List.set_cons_succ]
          refine wpAnyH_ready (rs := [13]) (by kernel_rfl) (by simp) ?_
          refine AllReadyH.cons (o := { dst := none, op := .store _ (.tmp 14) (.tmp 46), type := _, pos := _, after := _, guard := _ }) rfl (fun K hK => ?_) AllReadyH.nil
          rw [if_pos (by rfl)]
          refine wp_store_mid _ _ _ rfl u130q.heap.size _ #[.int .i64 (c2), .int .i64 (y2)] rfl rfl h153q.out.there2 HA.out (two_one _ _) ?_
          simp only [Act.put]
          have h155q : Hid (Gd n w (u154q.setCells u130q.heap.size 0 [.int .i64 (c2), .int .i64 (y2)])) := h148q.out.asideL (by omega) 0 [.int .i64 (c2), .int .i64 (y2)]
          have h156q : Hid (Bo (u154q.setCells u130q.heap.size 0 [.int .i64 (c2), .int .i64 (y2)]) u4q.heap.size (wl c)) := h149q.out.asideL (by omega) 0 [.int .i64 (c2), .int .i64 (y2)]
          have h157q : Hid (Bo (u154q.setCells u130q.heap.size 0 [.int .i64 (c2), .int .i64 (y2)]) u15q.heap.size (wl u1)) := h150q.out.asideL (by omega) 0 [.int .i64 (c2), .int .i64 (y2)]
          have h158q : Hid (Bo (u154q.setCells u130q.heap.size 0 [.int .i64 (c2), .int .i64 (y2)]) (u15q.heap.size + 1) [.int .i64 (c1), .int .i64 (y1)]) := h151q.out.asideL (by omega) 0 [.int .i64 (c2), .int .i64 (y2)]
          have h159q : Hid (Bo (u154q.setCells u130q.heap.size 0 [.int .i64 (c2), .int .i64 (y2)]) u41q.heap.size (wl u2)) := h152q.out.asideL (by omega) 0 [.int .i64 (c2), .int .i64 (y2)]
          have h160q : Hid (Bo (u154q.setCells u130q.heap.size 0 [.int .i64 (c2), .int .i64 (y2)]) u130q.heap.size [.int .i64 (c2), .int .i64 (y2)]) := h153q.out.set2 (.int .i64 (c2)) (.int .i64 (y2))
          clear h148q h149q h150q h151q h152q h153q
          refine hK.out _ _ h156q.out (fun hH => ?_)
          clear hK K
          generalize (u154q.setCells u130q.heap.size 0 [.int .i64 (c2), .int .i64 (y2)]) = u161q at h155q h156q h157q h158q h159q h160q hH ⊢
          try simp only [Act.put, List.setIfInBounds_toArray, List.set_cons_zero, List.set_cons_succ]
          refine wpAnyH_take (i := 14) (oi := { dst := some 15, op := .assign (.tmp 47), type := _, pos := _, after := _, guard := _ }) (v := ?_) rfl (by kernel_rfl) (by kernel_rfl) (by kernel_rfl) (fun _ _ _ h => h) (Or.inl ⟨by rfl, ?_⟩) hH ?_
          rotate_left
          · intro w hSw
            clear hSw
            go_simp
            try with_reducible rfl
          simp only [Act.put, List.setIfInBounds_toArray, List.set_cons_zero, List.set_cons_succ]
          refine wpAnyH_done (by kernel_rfl) ?_ _
          go_wp2_with fail
          go_meet
          case rel => exact ⟨u41q.heap.size, u130q.heap.size, rfl, rfl, rfl, h155q, h158q, h160q⟩
        refine AllReadyH.cons (o := { dst := some 14, op := .alloc _, type := _, pos := _, after := _, guard := _ }) rfl (fun K hK => ?_) AllReadyH.nil
        have l162q : n ≤ u129q.heap.size := h124q.out.le
        have l163q : u4q.heap.size < u129q.heap.size := h125q.out.lt
        have l164q : u15q.heap.size < u129q.heap.size := h126q.out.lt
        have l165q : (u15q.heap.size + 1) < u129q.heap.size := h127q.out.lt
        have l166q : u41q.heap.size < u129q.heap.size := h128q.out.lt
        go_simp
        have h167q : Hid (Gd n w (u129q.alloc (.cells #[.int .i64 0, .int .i64 0] 34))) := h124q.out.new (.cells #[.int .i64 0, .int .i64 0] 34)
        have h168q : Hid (Bo (u129q.alloc (.cells #[.int .i64 0, .int .i64 0] 34)) u4q.heap.size (wl c)) := h125q.out.new (.cells #[.int .i64 0, .int .i64 0] 34)
        have h169q : Hid (Bo (u129q.alloc (.cells #[.int .i64 0, .int .i64 0] 34)) u15q.heap.size (wl u1)) := h126q.out.new (.cells #[.int .i64 0, .int .i64 0] 34)
        have h170q : Hid (Bo (u129q.alloc (.cells #[.int .i64 0, .int .i64 0] 34)) (u15q.heap.size + 1) [.int .i64 (c1), .int .i64 (y1)]) := h127q.out.new (.cells #[.int .i64 0, .int .i64 0] 34)
        have h171q : Hid (Bo (u129q.alloc (.cells #[.int .i64 0, .int .i64 0] 34)) u41q.heap.size (wl wz)) := h128q.out.new (.cells #[.int .i64 0, .int .i64 0] 34)
        clear h124q h125q h126q h127q h128q
        have h172q : Hid (Bo (u129q.alloc (.cells #[.int .i64 0, .int .i64 0] 34)) u129q.heap.size [.int .i64 0, .int .i64 0]) := Bo.born u129q [.int .i64 0, .int .i64 0] 34 (by simp)
        refine hK.out _ _ h168q.out (fun hH => ?_)
        clear hK K
        generalize (u129q.alloc (.cells #[.int .i64 0, .int .i64 0] 34)) = u173q at h167q h168q h169q h170q h171q h172q hH ⊢
        try simp only [Act.put, List.setIfInBounds_toArray, List.set_cons_zero, List.set_cons_succ]
        refine wpAnyH_ready (rs := [5]) (by kernel_rfl) (by simp) ?_
        refine AllReadyH.cons (o := { dst := some 44, op := _, type := _, pos := _, after := _, guard := _ }) rfl (fun K hK => ?_) AllReadyH.nil
        go_simp
        refine (DP.out _).mono ?_
        rintro e u174q ⟨rfl, hb⟩
        have h175q : Hid (Gd n w u174q) := h167q.out.later hb
        have h176q : Hid (Bo u174q u4q.heap.size (wl c)) := h168q.out.later hb
        have h177q : Hid (Bo u174q u15q.heap.size (wl u1)) := h169q.out.later hb
        have h178q : Hid (Bo u174q (u15q.heap.size + 1) [.int .i64 (c1), .int .i64 (y1)]) := h170q.out.later hb
        have h179q : Hid (Bo u174q u41q.heap.size (wl wz)) := h171q.out.later hb
        have h180q : Hid (Bo u174q u129q.heap.size [.int .i64 0, .int .i64 0]) := h172q.out.later hb
        clear h167q h168q h169q h170q h171q h172q
        clear hb
        go_wp2_with fail
        refine hK.out _ _ h176q.out (fun hH => ?_)
        clear hK K
        try simp only [Act.put, List.setIfInBounds_toArray, List.set_cons_zero, List.set_cons_succ]
        refine wpAnyH_take (i := 6) (oi := { dst := some 38, op := .move (.tmp 44), type := _, pos := _, after := _, guard := _ }) (v := ?_) rfl (by kernel_rfl) (by kernel_rfl) (by kernel_rfl) (fun _ _ _ h => h) (Or.inl ⟨by rfl, ?_⟩) hH ?_
        rotate_left
        · intro w hSw
          clear hSw
          go_simp
          try with_reducible rfl
        simp only [Act.put, List.setIfInBounds_toArray, List.set_cons_zero, List.set_cons_succ]
        refine wpAnyH_take (i := 7) (oi := { dst := some 45, op := .extract (.tmp 38) 0, type := _, pos := _, after := _, guard := _ }) (v := ?_) rfl (by kernel_rfl) (by kernel_rfl) (by kernel_rfl) (fun _ _ _ h => h) (Or.inl ⟨by rfl, ?_⟩) hH ?_
        rotate_left
        · intro w hSw
          clear hSw
          go_simp
          try with_reducible rfl
        simp only [Act.put, List.setIfInBounds_toArray, List.set_cons_zero, List.set_cons_succ]
        refine wpAnyH_take (i := 8) (oi := { dst := some 46, op := .extract (.tmp 38) 1, type := _, pos := _, after := _, guard := _ }) (v := ?_) rfl (by kernel_rfl) (by kernel_rfl) (by kernel_rfl) (fun _ _ _ h => h) (Or.inl ⟨by rfl, ?_⟩) hH ?_
        rotate_left
        · intro w hSw
          clear hSw
          go_simp
          try with_reducible rfl
        simp only [Act.put, List.setIfInBounds_toArray, List.set_cons_zero, List.set_cons_succ]
        refine wpAnyH_take (i := 9) (oi := { dst := some 47, op := .extract (.tmp 38) 2, type := _, pos := _, after := _, guard := _ }) (v := ?_) rfl (by kernel_rfl) (by kernel_rfl) (by kernel_rfl) (fun _ _ _ h => h) (Or.inl ⟨by rfl, ?_⟩) hH ?_
        rotate_left
        · intro w hSw
          clear hSw
          go_simp
          try with_reducible rfl
        simp only [Act.put, List.setIfInBounds_toArray, List.set_cons_zero, List.set_cons_succ]
        refine wpAnyH_ready (rs := [12]) (by kernel_rfl) (by simp) ?_
        refine AllReadyH.cons (o := { dst := none, op := .store _ (.tmp 13) (.tmp 45), type := _, pos := _, after := _, guard := _ }) rfl (fun K hK => ?_) AllReadyH.nil
        rw [if_pos (by rfl)]
        refine wp_store_mid _ _ _ rfl u41q.heap.size _ (wl u2).toArray rfl rfl (h179q.out.thereW u2) (HCZ.out u2) (wl_all u2) ?_
        simp only [Act.put]
        have h181q : Hid (Gd n w (u174q.setCells u41q.heap.size 0 (wl u2))) := h175q.out.asideL (by omega) 0 (wl u2)
        have h182q : Hid (Bo (u174q.setCells u41q.heap.size 0 (wl u2)) u4q.heap.size (wl c)) := h176q.out.asideL (by omega) 0 (wl u2)
        have h183q : Hid (Bo (u174q.setCells u41q.heap.size 0 (wl u2)) u15q.heap.size (wl u1)) := h177q.out.asideL (by omega) 0 (wl u2)
        have h184q : Hid (Bo (u174q.setCells u41q.heap.size 0 (wl u2)) (u15q.heap.size + 1) [.int .i64 (c1), .int .i64 (y1)]) := h178q.out.asideL (by omega) 0 (wl u2)
        have h185q : Hid (Bo (u174q.setCells u41q.heap.size 0 (wl u2)) u41q.heap.size (wl u2)) := h179q.out.setW u2
        have h186q : Hid (Bo (u174q.setCells u41q.heap.size 0 (wl u2)) u129q.heap.size [.int .i64 0, .int .i64 0]) := h180q.out.asideL (by omega) 0 (wl u2)
        clear h175q h176q h177q h178q h179q h180q
        refine hK.out _ _ h182q.out (fun hH => ?_)
        clear hK K
        generalize (u174q.setCells u41q.heap.size 0 (wl u2)) = u187q at h181q h182q h183q h184q h185q h186q hH ⊢
        try simp only [Act.put, List.setIfInBounds_toArray, List.set_cons_zero, List.set_cons_succ]
        refine wpAnyH_ready (rs := [13]) (by kernel_rfl) (by simp) ?_
        refine AllReadyH.cons (o := { dst := none, op := .store _ (.tmp 14) (.tmp 46), type := _, pos := _, after := _, guard := _ }) rfl (fun K hK => ?_) AllReadyH.nil
        rw [if_pos (by rfl)]
        refine wp_store_mid _ _ _ rfl u129q.heap.size _ #[.int .i64 (c2), .int .i64 (y2)] rfl rfl h186q.out.there2 HA.out (two_one _ _) ?_
        simp only [Act.put]
        have h188q : Hid (Gd n w (u187q.setCells u129q.heap.size 0 [.int .i64 (c2), .int .i64 (y2)])) := h181q.out.asideL (by omega) 0 [.int .i64 (c2), .int .i64 (y2)]
        have h189q : Hid (Bo (u187q.setCells u129q.heap.size 0 [.int .i64 (c2), .int .i64 (y2)]) u4q.heap.size (wl c)) := h182q.out.asideL (by omega) 0 [.int .i64 (c2), .int .i64 (y2)]
        have h190q : Hid (Bo (u187q.setCells u129q.heap.size 0 [.int .i64 (c2), .int .i64 (y2)]) u15q.heap.size (wl u1)) := h183q.out.asideL (by omega) 0 [.int .i64 (c2), .int .i64 (y2)]
        have h191q : Hid (Bo (u187q.setCells u129q.heap.size 0 [.int .i64 (c2), .int .i64 (y2)]) (u15q.heap.size + 1) [.int .i64 (c1), .int .i64 (y1)]) := h184q.out.asideL (by omega) 0 [.int .i64 (c2), .int .i64 (y2)]
        have h192q : Hid (Bo (u187q.setCells u129q.heap.size 0 [.int .i64 (c2), .int .i64 (y2)]) u41q.heap.size (wl u2)) := h185q.out.asideL (by omega) 0 [.int .i64 (c2), .int .i64 (y2)]
        have h193q : Hid (Bo (u187q.setCells u129q.heap.size 0 [.int .i64 (c2), .int .i64 (y2)]) u129q.heap.size [.int .i64 (c2), .int .i64 (y2)]) := h186q.out.set2 (.int .i64 (c2)) (.int .i64 (y2))
        clear h181q h182q h183q h184q h185q h186q
        refine hK.out _ _ h189q.out (fun hH => ?_)
        clear hK K
        generalize (u187q.setCells u129q.heap.size 0 [.int .i64 (c2), .int .i64 (y2)]) = u194q at h188q h189q h190q h191q h192q h193q hH ⊢
        try simp only [Act.put, List.setIfInBounds_toArray, List.set_cons_zero, List.set_cons_succ]
        refine wpAnyH_take (i := 14) (oi := { dst := some 15, op := .assign (.tmp 47), type := _, pos := _, after := _, guard := _ }) (v := ?_) rfl (by kernel_rfl) (by kernel_rfl) (by kernel_rfl) (fun _ _ _ h => h) (Or.inl ⟨by rfl, ?_⟩) hH ?_
        rotate_left
        · intro w hSw
          clear hSw
          go_simp
          try with_reducible rfl
        simp only [Act.put, List.setIfInBounds_toArray, List.set_cons_zero, List.set_cons_succ]
        refine wpAnyH_done (by kernel_rfl) ?_ _
        go_wp2_with fail
        go_meet
        case rel => exact ⟨u41q.heap.size, u129q.heap.size, rfl, rfl, rfl, h188q, h191q, h193q⟩
      refine AllReadyH.cons (o := { dst := some 14, op := .alloc _, type := _, pos := _, after := _, guard := _ }) rfl (fun K hK => ?_) AllReadyH.nil
      have l195q : n ≤ u41q.heap.size := h37q.out.le
      have l196q : u4q.heap.size < u41q.heap.size := h38q.out.lt
      have l197q : u15q.heap.size < u41q.heap.size := h39q.out.lt
      have l198q : (u15q.heap.size + 1) < u41q.heap.size := h40q.out.lt
      go_simp
      have h199q : Hid (Gd n w (u41q.alloc (.cells #[.int .i64 0, .int .i64 0] 34))) := h37q.out.new (.cells #[.int .i64 0, .int .i64 0] 34)
      have h200q : Hid (Bo (u41q.alloc (.cells #[.int .i64 0, .int .i64 0] 34)) u4q.heap.size (wl c)) := h38q.out.new (.cells #[.int .i64 0, .int .i64 0] 34)
      have h201q : Hid (Bo (u41q.alloc (.cells #[.int .i64 0, .int .i64 0] 34)) u15q.heap.size (wl u1)) := h39q.out.new (.cells #[.int .i64 0, .int .i64 0] 34)
      have h202q : Hid (Bo (u41q.alloc (.cells #[.int .i64 0, .int .i64 0] 34)) (u15q.heap.size + 1) [.int .i64 (c1), .int .i64 (y1)]) := h40q.out.new (.cells #[.int .i64 0, .int .i64 0] 34)
      clear h37q h38q h39q h40q
      have h203q : Hid (Bo (u41q.alloc (.cells #[.int .i64 0, .int .i64 0] 34)) u41q.heap.size [.int .i64 0, .int .i64 0]) := Bo.born u41q [.int .i64 0, .int .i64 0] 34 (by simp)
      refine hK.out _ _ h200q.out (fun hH => ?_)
      clear hK K
      generalize (u41q.alloc (.cells #[.int .i64 0, .int .i64 0] 34)) = u204q at h199q h200q h201q h202q h203q hH ⊢
      try simp only [Act.put, List.setIfInBounds_toArray, List.set_cons_zero, List.set_cons_succ]
      refine wpAnyH_ready (rs := [5, 10]) (by kernel_rfl) (by simp) ?_
      refine AllReadyH.cons (o := { dst := some 44, op := _, type := _, pos := _, after := _, guard := _ }) rfl (fun K hK => ?_) ?_
      · go_simp
        refine (DP.out _).mono ?_
        rintro e u205q ⟨rfl, hb⟩
        have h206q : Hid (Gd n w u205q) := h199q.out.later hb
        have h207q : Hid (Bo u205q u4q.heap.size (wl c)) := h200q.out.later hb
        have h208q : Hid (Bo u205q u15q.heap.size (wl u1)) := h201q.out.later hb
        have h209q : Hid (Bo u205q (u15q.heap.size + 1) [.int .i64 (c1), .int .i64 (y1)]) := h202q.out.later hb
        have h210q : Hid (Bo u205q u41q.heap.size [.int .i64 0, .int .i64 0]) := h203q.out.later hb
        clear h199q h200q h201q h202q h203q
        clear hb
        go_wp2_with fail
        refine hK.out _ _ h207q.out (fun hH => ?_)
        clear hK K
        try simp only [Act.put, List.setIfInBounds_toArray, List.set_cons_zero, List.set_cons_succ]
        refine wpAnyH_take (i := 6) (oi := { dst := some 38, op := .move (.tmp 44), type := _, pos := _, after := _, guard := _ }) (v := ?_) rfl (by kernel_rfl) (by kernel_rfl) (by kernel_rfl) (fun _ _ _ h => h) (Or.inl ⟨by rfl, ?_⟩) hH ?_
        rotate_left
        · intro w hSw
          clear hSw
          go_simp
          try with_reducible rfl
        simp only [Act.put, List.setIfInBounds_toArray, List.set_cons_zero, List.set_cons_succ]
        refine wpAnyH_take (i := 7) (oi := { dst := some 45, op := .extract (.tmp 38) 0, type := _, pos := _, after := _, guard := _ }) (v := ?_) rfl (by kernel_rfl) (by kernel_rfl) (by kernel_rfl) (fun _ _ _ h => h) (Or.inl ⟨by rfl, ?_⟩) hH ?_
        rotate_left
        · intro w hSw
          clear hSw
          go_simp
          try with_reducible rfl
        simp only [Act.put, List.setIfInBounds_toArray, List.set_cons_zero, List.set_cons_succ]
        refine wpAnyH_take (i := 8) (oi := { dst := some 46, op := .extract (.tmp 38) 1, type := _, pos := _, after := _, guard := _ }) (v := ?_) rfl (by kernel_rfl) (by kernel_rfl) (by kernel_rfl) (fun _ _ _ h => h) (Or.inl ⟨by rfl, ?_⟩) hH ?_
        rotate_left
        · intro w hSw
          clear hSw
          go_simp
          try with_reducible rfl
        simp only [Act.put, List.setIfInBounds_toArray, List.set_cons_zero, List.set_cons_succ]
        refine wpAnyH_take (i := 9) (oi := { dst := some 47, op := .extract (.tmp 38) 2, type := _, pos := _, after := _, guard := _ }) (v := ?_) rfl (by kernel_rfl) (by kernel_rfl) (by kernel_rfl) (fun _ _ _ h => h) (Or.inl ⟨by rfl, ?_⟩) hH ?_
        rotate_left
        · intro w hSw
          clear hSw
          go_simp
          try with_reducible rfl
        simp only [Act.put, List.setIfInBounds_toArray, List.set_cons_zero, List.set_cons_succ]
        refine wpAnyH_ready (rs := [10]) (by kernel_rfl) (by simp) ?_
        refine AllReadyH.cons (o := { dst := some 13, op := .alloc _, type := _, pos := _, after := _, guard := _ }) rfl (fun K hK => ?_) AllReadyH.nil
        have l211q : n ≤ u205q.heap.size := h206q.out.le
        have l212q : u4q.heap.size < u205q.heap.size := h207q.out.lt
        have l213q : u15q.heap.size < u205q.heap.size := h208q.out.lt
        have l214q : (u15q.heap.size + 1) < u205q.heap.size := h209q.out.lt
        have l215q : u41q.heap.size < u205q.heap.size := h210q.out.lt
        go_simp
        have h216q : Hid (Gd n w (u205q.alloc (.cells #[.int .u64 0, .int .u64 0, .int .u64 0, .int .u64 0, .int .u64 0, .int .u64 0, .int .u64 0, .int .u64 0, .int .u64 0, .int .u64 0, .int .u64 0, .int .u64 0, .int .u64 0, .int .u64 0, .int .u64 0, .int .u64 0, .int .u64 0] 27))) := h206q.out.new (.cells #[.int .u64 0, .int .u64 0, .int .u64 0, .int .u64 0, .int .u64 0, .int .u64 0, .int .u64 0, .int .u64 0, .int .u64 0, .int .u64 0, .int .u64 0, .int .u64 0, .int .u64 0, .int .u64 0, .int .u64 0, .int .u64 0, .int .u64 0] 27)
        have h217q : Hid (Bo (u205q.alloc (.cells #[.int .u64 0, .int .u64 0, .int .u64 0, .int .u64 0, .int .u64 0, .int .u64 0, .int .u64 0, .int .u64 0, .int .u64 0, .int .u64 0, .int .u64 0, .int .u64 0, .int .u64 0, .int .u64 0, .int .u64 0, .int .u64 0, .int .u64 0] 27)) u4q.heap.size (wl c)) := h207q.out.new (.cells #[.int .u64 0, .int .u64 0, .int .u64 0, .int .u64 0, .int .u64 0, .int .u64 0, .int .u64 0, .int .u64 0, .int .u64 0, .int .u64 0, .int .u64 0, .int .u64 0, .int .u64 0, .int .u64 0, .int .u64 0, .int .u64 0, .int .u64 0] 27)
        have h218q : Hid (Bo (u205q.alloc (.cells #[.int .u64 0, .int .u64 0, .int .u64 0, .int .u64 0, .int .u64 0, .int .u64 0, .int .u64 0, .int .u64 0, .int .u64 0, .int .u64 0, .int .u64 0, .int .u64 0, .int .u64 0, .int .u64 0, .int .u64 0, .int .u64 0, .int .u64 0] 27)) u15q.heap.size (wl u1)) := h208q.out.new (.cells #[.int .u64 0, .int .u64 0, .int .u64 0, .int .u64 0, .int .u64 0, .int .u64 0, .int .u64 0, .int .u64 0, .int .u64 0, .int .u64 0, .int .u64 0, .int .u64 0, .int .u64 0, .int .u64 0, .int .u64 0, .int .u64 0, .int .u64 0] 27)
        have h219q : Hid (Bo (u205q.alloc (.cells #[.int .u64 0, .int .u64 0, .int .u64 0, .int .u64 0, .int .u64 0, .int .u64 0, .int .u64 0, .int .u64 0, .int .u64 0, .int .u64 0, .int .u64 0, .int .u64 0, .int .u64 0, .int .u64 0, .int .u64 0, .int .u64 0, .int .u64 0] 27)) (u15q.heap.size + 1) [.int .i64 (c1), .int .i64 (y1)]) := h209q.out.new (.cells #[.int .u64 0, .int .u64 0, .int .u64 0, .int .u64 0, .int .u64 0, .int .u64 0, .int .u64 0, .int .u64 0, .int .u64 0, .int .u64 0, .int .u64 0, .int .u64 0, .int .u64 0, .int .u64 0, .int .u64 0, .int .u64 0, .int .u64 0] 27)
        have h220q : Hid (Bo (u205q.alloc (.cells #[.int .u64 0, .int .u64 0, .int .u64 0, .int .u64 0, .int .u64 0, .int .u64 0, .int .u64 0, .int .u64 0, .int .u64 0, .int .u64 0, .int .u64 0, .int .u64 0, .int .u64 0, .int .u64 0, .int .u64 0, .int .u64 0, .int .u64 0] 27)) u41q.heap.size [.int .i64 0, .int .i64 0]) := h210q.out.new (.cells #[.int .u64 0, .int .u64 0, .int .u64 0, .int .u64 0, .int .u64 0, .int .u64 0, .int .u64 0, .int .u64 0, .int .u64 0, .int .u64 0, .int .u64 0, .int .u64 0, .int .u64 0, .int .u64 0, .int .u64 0, .int .u64 0, .int .u64 0] 27)
        clear h206q h207q h208q h209q h210q
        have h221q : Hid (Bo (u205q.alloc (.cells #[.int .u64 0, .int .u64 0, .int .u64 0, .int .u64 0, .int .u64 0, .int .u64 0, .int .u64 0, .int .u64 0, .int .u64 0, .int .u64 0, .int .u64 0, .int .u64 0, .int .u64 0, .int .u64 0, .int .u64 0, .int .u64 0, .int .u64 0] 27)) u205q.heap.size (wl wz)) := Bo.born u205q (wl wz) 27 (by simp)
        refine hK.out _ _ h217q.out (fun hH => ?_)
        clear hK K
        generalize (u205q.alloc (.cells #[.int .u64 0, .int .u64 0, .int .u64 0, .int .u64 0, .int .u64 0, .int .u64 0, .int .u64 0, .int .u64 0, .int .u64 0, .int .u64 0, .int .u64 0, .int .u64 0, .int .u64 0, .int .u64 0, .int .u64 0, .int .u64 0, .int .u64 0] 27)) = u222q at h216q h217q h218q h219q h220q h221q hH ⊢
        try simp only [Act.put, List.setIfInBounds_toArray, List.set_cons_zero, List.set_cons_succ]
        refine wpAnyH_ready (rs := [12]) (by kernel_rfl) (by simp) ?_
        refine AllReadyH.cons (o := { dst := none, op := .store _ (.tmp 13) (.tmp 45), type := _, pos := _, after := _, guard := _ }) rfl (fun K hK => ?_) AllReadyH.nil
        rw [if_pos (by rfl)]
        refine wp_store_mid _ _ _ rfl u205q.heap.size _ (wl u2).toArray rfl rfl (h221q.out.thereW u2) (HCZ.out u2) (wl_all u2) ?_
        simp only [Act.put]
        have h223q : Hid (Gd n w (u222q.setCells u205q.heap.size 0 (wl u2))) := h216q.out.asideL (by omega) 0 (wl u2)
        have h224q : Hid (Bo (u222q.setCells u205q.heap.size 0 (wl u2)) u4q.heap.size (wl c)) := h217q.out.asideL (by omega) 0 (wl u2)
        have h225q : Hid (Bo (u222q.setCells u205q.heap.size 0 (wl u2)) u15q.heap.size (wl u1)) := h218q.out.asideL (by omega) 0 (wl u2)
        have h226q : Hid (Bo (u222q.setCells u205q.heap.size 0 (wl u2)) (u15q.heap.size + 1) [.int .i64 (c1), .int .i64 (y1)]) := h219q.out.asideL (by omega) 0 (wl u2)
        have h227q : Hid (Bo (u222q.setCells u205q.heap.size 0 (wl u2)) u41q.heap.size [.int .i64 0, .int .i64 0]) := h220q.out.asideL (by omega) 0 (wl u2)
        have h228q : Hid (Bo (u222q.setCells u205q.heap.size 0 (wl u2)) u205q.heap.size (wl u2)) := h221q.out.setW u2
        clear h216q h217q h218q h219q h220q h221q
        refine hK.out _ _ h224q.out (fun hH => ?_)
        clear hK K
        generalize (u222q.setCells u205q.heap.size 0 (wl u2)) = u229q at h223q h224q h225q h226q h227q h228q hH ⊢
        try simp only [Act.put, List.setIfInBounds_toArray, List.set_cons_zero, List.set_cons_succ]
        refine wpAnyH_ready (rs := [13]) (by kernel_rfl) (by simp) ?_
        refine AllReadyH.cons (o := { dst := none, op := .store _ (.tmp 14) (.tmp 46), type := _, pos := _, after := _, guard := _ }) rfl (fun K hK => ?_) AllReadyH.nil
        rw [if_pos (by rfl)]
        refine wp_store_mid _ _ _ rfl u41q.heap.size _ #[.int .i64 (c2), .int .i64 (y2)] rfl rfl h227q.out.there2 HA.out (two_one _ _) ?_
        simp only [Act.put]
        have h230q : Hid (Gd n w (u229q.setCells u41q.heap.size 0 [.int .i64 (c2), .int .i64 (y2)])) := h223q.out.asideL (by omega) 0 [.int .i64 (c2), .int .i64 (y2)]
        have h231q : Hid (Bo (u229q.setCells u41q.heap.size 0 [.int .i64 (c2), .int .i64 (y2)]) u4q.heap.size (wl c)) := h224q.out.asideL (by omega) 0 [.int .i64 (c2), .int .i64 (y2)]
        have h232q : Hid (Bo (u229q.setCells u41q.heap.size 0 [.int .i64 (c2), .int .i64 (y2)]) u15q.heap.size (wl u1)) := h225q.out.asideL (by omega) 0 [.int .i64 (c2), .int .i64 (y2)]
        have h233q : Hid (Bo (u229q.setCells u41q.heap.size 0 [.int .i64 (c2), .int .i64 (y2)]) (u15q.heap.size + 1) [.int .i64 (c1), .int .i64 (y1)]) := h226q.out.asideL (by omega) 0 [.int .i64 (c2), .int .i64 (y2)]
        have h234q : Hid (Bo (u229q.setCells u41q.heap.size 0 [.int .i64 (c2), .int .i64 (y2)]) u41q.heap.size [.int .i64 (c2), .int .i64 (y2)]) := h227q.out.set2 (.int .i64 (c2)) (.int .i64 (y2))
        have h235q : Hid (Bo (u229q.setCells u41q.heap.size 0 [.int .i64 (c2), .int .i64 (y2)]) u205q.heap.size (wl u2)) := h228q.out.asideL (by omega) 0 [.int .i64 (c2), .int .i64 (y2)]
        clear h223q h224q h225q h226q h227q h228q
        refine hK.out _ _ h231q.out (fun hH => ?_)
        clear hK K
        generalize (u229q.setCells u41q.heap.size 0 [.int .i64 (c2), .int .i64 (y2)]) = u236q at h230q h231q h232q h233q h234q h235q hH ⊢
        try simp only [Act.put, List.setIfInBounds_toArray, List.set_cons_zero, List.set_cons_succ]
        refine wpAnyH_take (i := 14) (oi := { dst := some 15, op := .assign (.tmp 47), type := _, pos := _, after := _, guard := _ }) (v := ?_) rfl (by kernel_rfl) (by kernel_rfl) (by kernel_rfl) (fun _ _ _ h => h) (Or.inl ⟨by rfl, ?_⟩) hH ?_
        rotate_left
        · intro w hSw
          clear hSw
          go_simp
          try with_reducible rfl
        simp only [Act.put, List.setIfInBounds_toArray, List.set_cons_zero, List.set_cons_succ]
        refine wpAnyH_done (by kernel_rfl) ?_ _
        go_wp2_with fail
        go_meet
        case rel => exact ⟨u205q.heap.size, u41q.heap.size, rfl, rfl, rfl, h230q, h233q, h234q⟩
      refine AllReadyH.cons (o := { dst := some 13, op := .alloc _, type := _, pos := _, after := _, guard := _ }) rfl (fun K hK => ?_) AllReadyH.nil
      have l237q : n ≤ u204q.heap.size := h199q.out.le
      have l238q : u4q.heap.size < u204q.heap.size := h200q.out.lt
      have l239q : u15q.heap.size < u204q.heap.size := h201q.out.lt
      have l240q : (u15q.heap.size + 1) < u204q.heap.size := h202q.out.lt
      have l241q : u41q.heap.size < u204q.heap.size := h203q.out.lt
      go_simp
      have h242q : Hid (Gd n w (u204q.alloc (.cells #[.int .u64 0, .int .u64 0, .int .u64 0, .int .u64 0, .int .u64 0, .int .u64 0, .int .u64 0, .int .u64 0, .int .u64 0, .int .u64 0, .int .u64 0, .int .u64 0, .int .u64 0, .int .u64 0, .int .u64 0, .int .u64 0, .int .u64 0] 27))) := h199q.out.new (.cells #[.int .u64 0, .int .u64 0, .int .u64 0, .int .u64 0, .int .u64 0, .int .u64 0, .int .u64 0, .int .u64 0, .int .u64 0, .int .u64 0, .int .u64 0, .int .u64 0, .int .u64 0, .int .u64 0, .int .u64 0, .int .u64 0, .int .u64 0] 27)
      have h243q : Hid (Bo (u204q.alloc (.cells #[.int .u64 0, .int .u64 0, .int .u64 0, .int .u64 0, .int .u64 0, .int .u64 0, .int .u64 0, .int .u64 0, .int .u64 0, .int .u64 0, .int .u64 0, .int .u64 0, .int .u64 0, .int .u64 0, .int .u64 0, .int .u64 0, .int .u64 0] 27)) u4q.heap.size (wl c)) := h200q.out.new (.cells #[.int .u64 0, .int .u64 0, .int .u64 0, .int .u64 0, .int .u64 0, .int .u64 0, .int .u64 0, .int .u64 0, .int .u64 0, .int .u64 0, .int .u64 0, .int .u64 0, .int .u64 0, .int .u64 0, .int .u64 0, .int .u64 0, .int .u64 0] 27)
      have h244q : Hid (Bo (u204q.alloc (.cells #[.int .u64 0, .int .u64 0, .int .u64 0, .int .u64 0, .int .u64 0, .int .u64 0, .int .u64 0, .int .u64 0, .int .u64 0, .int .u64 0, .int .u64 0, .int .u64 0, .int .u64 0, .int .u64 0, .int .u64 0, .int .u64 0, .int .u64 0] 27)) u15q.heap.size (wl u1)) := h201q.out.new (.cells #[.int .u64 0, .int .u64 0, .int .u64 0, .int .u64 0, .int .u64 0, .int .u64 0, .int .u64 0, .int .u64 0, .int .u64 0, .int .u64 0, .int .u64 0, .int .u64 0, .int .u64 0, .int .u64 0, .int .u64 0, .int .u64 0, .int .u64 0] 27)
      have h245q : Hid (Bo (u204q.alloc (.cells #[.int .u64 0, .int .u64 0, .int .u64 0, .int .u64 0, .int .u64 0, .int .u64 0, .int .u64 0, .int .u64 0, .int .u64 0, .int .u64 0, .int .u64 0, .int .u64 0, .int .u64 0, .int .u64 0, .int .u64 0, .int .u64 0, .int .u64 0] 27)) (u15q.heap.size + 1) [.int .i64 (c1), .int .i64 (y1)]) := h202q.out.new (.cells #[.int .u64 0, .int .u64 0, .int .u64 0, .int .u64 0, .int .u64 0, .int .u64 0, .int .u64 0, .int .u64 0, .int .u64 0, .int .u64 0, .int .u64 0, .int .u64 0, .int .u64 0, .int .u64 0, .int .u64 0, .int .u64 0, .int .u64 0] 27)
      have h246q : Hid (Bo (u204q.alloc (.cells #[.int .u64 0, .int .u64 0, .int .u64 0, .int .u64 0, .int .u64 0, .int .u64 0, .int .u64 0, .int .u64 0, .int .u64 0, .int .u64 0, .int .u64 0, .int .u64 0, .int .u64 0, .int .u64 0, .int .u64 0, .int .u64 0, .int .u64 0] 27)) u41q.heap.size [.int .i64 0, .int .i64 0]) := h203q.out.new (.cells #[.int .u64 0, .int .u64 0, .int .u64 0, .int .u64 0, .int .u64 0, .int .u64 0, .int .u64 0, .int .u64 0, .int .u64 0, .int .u64 0, .int .u64 0, .int .u64 0, .int .u64 0, .int .u64 0, .int .u64 0, .int .u64 0, .int .u64 0] 27)
      clear h199q h200q h201q h202q h203q
      have h247q : Hid (Bo (u204q.alloc (.cells #[.int .u64 0, .int .u64 0, .int .u64 0, .int .u64 0, .int .u64 0, .int .u64 0, .int .u64 0, .int .u64 0, .int .u64 0, .int .u64 0, .int .u64 0, .int .u64 0, .int .u64 0, .int .u64 0, .int .u64 0, .int .u64 0, .int .u64 0] 27)) u204q.heap.size (wl wz)) := Bo.born u204q (wl wz) 27 (by simp)
      refine hK.out _ _ h243q.out (fun hH => ?_)
      clear hK K
      generalize (u204q.alloc (.cells #[.int .u64 0, .int .u64 0, .int .u64 0, .int .u64 0, .int .u64 0, .int .u64 0, .int .u64 0, .int .u64 0, .int .u64 0, .int .u64 0, .int .u64 0, .int .u64 0, .int .u64 0, .int .u64 0, .int .u64 0, .int .u64 0, .int .u64 0] 27)) = u248q at h242q h243q h244q h245q h246q h247q hH ⊢
      try simp only [Act.put, List.setIfInBounds_toArray, List.set_cons_zero, List.set_cons_succ]
      refine wpAnyH_ready (rs := [5]) (by kernel_rfl) (by simp) ?_
      refine AllReadyH.cons (o := { dst := some 44, op := _, type := _, pos := _, after := _, guard := _ }) rfl (fun K hK => ?_) AllReadyH.nil
      go_simp
      refine (DP.out _).mono ?_
      rintro e u249q ⟨rfl, hb⟩
      have h250q : Hid (Gd n w u249q) := h242q.out.later hb
      have h251q : Hid (Bo u249q u4q.heap.size (wl c)) := h243q.out.later hb
      have h252q : Hid (Bo u249q u15q.heap.size (wl u1)) := h244q.out.later hb
      have h253q : Hid (Bo u249q (u15q.heap.size + 1) [.int .i64 (c1), .int .i64 (y1)]) := h245q.out.later hb
      have h254q : Hid (Bo u249q u41q.heap.size [.int .i64 0, .int .i64 0]) := h246q.out.later hb
      have h255q : Hid (Bo u249q u204q.heap.size (wl wz)) := h247q.out.later hb
      clear h242q h243q h244q h245q h246q h247q
      clear hb
      go_wp2_with fail
      refine hK.out _ _ h251q.out (fun hH => ?_)
      clear hK K
      try simp only [Act.put, List.setIfInBounds_toArray, List.set_cons_zero, List.set_cons_succ]
      refine wpAnyH_take (i := 6) (oi := { dst := some 38, op := .move (.tmp 44), type := _, pos := _, after := _, guard := _ }) (v := ?_) rfl (by kernel_rfl) (by kernel_rfl) (by kernel_rfl) (fun _ _ _ h => h) (Or.inl ⟨by rfl, ?_⟩) hH ?_
      rotate_left
      · intro w hSw
        clear hSw
        go_simp
        try with_reducible rfl
      simp only [Act.put, List.setIfInBounds_toArray, List.set_cons_zero, List.set_cons_succ]
      refine wpAnyH_take (i := 7) (oi := { dst := some 45, op := .extract (.tmp 38) 0, type := _, pos := _, after := _, guard := _ }) (v := ?_) rfl (by kernel_rfl) (by kernel_rfl) (by kernel_rfl) (fun _ _ _ h => h) (Or.inl ⟨by rfl, ?_⟩) hH ?_
      rotate_left
      · intro w hSw
        clear hSw
        go_simp
        try with_reducible rfl
      simp only [Act.put, List.setIfInBounds_toArray, List.set_cons_zero, List.set_cons_succ]
      refine wpAnyH_take (i := 8) (oi := { dst := some 46, op := .extract (.tmp 38) 1, type := _, pos := _, after := _, guard := _ }) (v := ?_) rfl (by kernel_rfl) (by kernel_rfl) (by kernel_rfl) (fun _ _ _ h => h) (Or.inl ⟨by rfl, ?_⟩) hH ?_
      rotate_left
      · intro w hSw
        clear hSw
        go_simp
        try with_reducible rfl
      simp only [Act.put, List.setIfInBounds_toArray, List.set_cons_zero, List.set_cons_succ]
      refine wpAnyH_take (i := 9) (oi := { dst := some 47, op := .extract (.tmp 38) 2, type := _, pos := _, after := _, guard := _ }) (v := ?_) rfl (by kernel_rfl) (by kernel_rfl) (by kernel_rfl) (fun _ _ _ h => h) (Or.inl ⟨by rfl, ?_⟩) hH ?_
      rotate_left
      · intro w hSw
        clear hSw
        go_simp
        try with_reducible rfl
      simp only [Act.put, List.setIfInBounds_toArray, List.set_cons_zero, List.set_cons_succ]
      refine wpAnyH_ready (rs := [12]) (by kernel_rfl) (by simp) ?_
      refine AllReadyH.cons (o := { dst := none, op := .store _ (.tmp 13) (.tmp 45), type := _, pos := _, after := _, guard := _ }) rfl (fun K hK => ?_) AllReadyH.nil
      rw [if_pos (by rfl)]
      refine wp_store_mid _ _ _ rfl u204q.heap.size _ (wl u2).toArray rfl rfl (h255q.out.thereW u2) (HCZ.out u2) (wl_all u2) ?_
      simp only [Act.put]
      have h256q : Hid (Gd n w (u249q.setCells u204q.heap.size 0 (wl u2))) := h250q.out.asideL (by omega) 0 (wl u2)
      have h257q : Hid (Bo (u249q.setCells u204q.heap.size 0 (wl u2)) u4q.heap.size (wl c)) := h251q.out.asideL (by omega) 0 (wl u2)
      have h258q : Hid (Bo (u249q.setCells u204q.heap.size 0 (wl u2)) u15q.heap.size (wl u1)) := h252q.out.asideL (by omega) 0 (wl u2)
      have h259q : Hid (Bo (u249q.setCells u204q.heap.size 0 (wl u2)) (u15q.heap.size + 1) [.int .i64 (c1), .int .i64 (y1)]) := h253q.out.asideL (by omega) 0 (wl u2)
      have h260q : Hid (Bo (u249q.setCells u204q.heap.size 0 (wl u2)) u41q.heap.size [.int .i64 0, .int .i64 0]) := h254q.out.asideL (by omega) 0 (wl u2)
      have h261q : Hid (Bo (u249q.setCells u204q.heap.size 0 (wl u2)) u204q.heap.size (wl u2)) := h255q.out.setW u2
      clear h250q h251q h252q h253q h254q h255q
      refine hK.out _ _ h257q.out (fun hH => ?_)
      clear hK K
      generalize (u249q.setCells u204q.heap.size 0 (wl u2)) = u262q at h256q h257q h258q h259q h260q h261q hH ⊢
      try simp only [Act.put, List.setIfInBounds_toArray, List.set_cons_zero, List.set_cons_succ]
      refine wpAnyH_ready (rs := [13]) (by kernel_rfl) (by simp) ?_
      refine AllReadyH.cons (o := { dst := none, op := .store _ (.tmp 14) (.tmp 46), type := _, pos := _, after := _, guard := _ }) rfl (fun K hK => ?_) AllReadyH.nil
      rw [if_pos (by rfl)]
      refine wp_store_mid _ _ _ rfl u41q.heap.size _ #[.int .i64 (c2), .int .i64 (y2)] rfl rfl h260q.out.there2 HA.out (two_one _ _) ?_
      simp only [Act.put]
      have h263q : Hid (Gd n w (u262q.setCells u41q.heap.size 0 [.int .i64 (c2), .int .i64 (y2)])) := h256q.out.asideL (by omega) 0 [.int .i64 (c2), .int .i64 (y2)]
      have h264q : Hid (Bo (u262q.setCells u41q.heap.size 0 [.int .i64 (c2), .int .i64 (y2)]) u4q.heap.size (wl c)) := h257q.out.asideL (by omega) 0 [.int .i64 (c2), .int .i64 (y2)]
      have h265q : Hid (Bo (u262q.setCells u41q.heap.size 0 [.int .i64 (c2), .int .i64 (y2)]) u15q.heap.size (wl u1)) := h258q.out.asideL (by omega) 0 [.int .i64 (c2), .int .i64 (y2)]
      have h266q : Hid (Bo (u262q.setCells u41q.heap.size 0 [.int .i64 (c2), .int .i64 (y2)]) (u15q.heap.size + 1) [.int .i64 (c1), .int .i64 (y1)]) := h259q.out.asideL (by omega) 0 [.int .i64 (c2), .int .i64 (y2)]
      have h267q : Hid (Bo (u262q.setCells u41q.heap.size 0 [.int .i64 (c2), .int .i64 (y2)]) u41q.heap.size [.int .i64 (c2), .int .i64 (y2)]) := h260q.out.set2 (.int .i64 (c2)) (.int .i64 (y2))
      have h268q : Hid (Bo (u262q.setCells u41q.heap.size 0 [.int .i64 (c2), .int .i64 (y2)]) u204q.heap.size (wl u2)) := h261q.out.asideL (by omega) 0 [.int .i64 (c2), .int .i64 (y2)]
      clear h256q h257q h258q h259q h260q h261q
      refine hK.out _ _ h264q.out (fun hH => ?_)
      clear hK K
      generalize (u262q.setCells u41q.heap.size 0 [.int .i64 (c2), .int .i64 (y2)]) = u269q at h263q h264q h265q h266q h267q h268q hH ⊢
      try simp only [Act.put, List.setIfInBounds_toArray, List.set_cons_zero, List.set_cons_succ]
      refine wpAnyH_take (i := 14) (oi := { dst := some 15, op := .assign (.tmp 47), type := _, pos := _, after := _, guard := _ }) (v := ?_) rfl (by kernel_rfl) (by kernel_rfl) (by kernel_rfl) (fun _ _ _ h => h) (Or.inl ⟨by rfl, ?_⟩) hH ?_
      rotate_left
      · intro w hSw
        clear hSw
        go_simp
        try with_reducible rfl
      simp only [Act.put, List.setIfInBounds_toArray, List.set_cons_zero, List.set_cons_succ]
      refine wpAnyH_done (by kernel_rfl) ?_ _
      go_wp2_with fail
      go_meet
      case rel => exact ⟨u204q.heap.size, u41q.heap.size, rfl, rfl, rfl, h263q, h266q, h267q⟩
    refine AllReadyH.cons (o := { dst := some 13, op := .alloc _, type := _, pos := _, after := _, guard := _ }) rfl (fun K hK => ?_) ?_
    · have l270q : n ≤ u41q.heap.size := h37q.out.le
      have l271q : u4q.heap.size < u41q.heap.size := h38q.out.lt
      have l272q : u15q.heap.size < u41q.heap.size := h39q.out.lt
      have l273q : (u15q.heap.size + 1) < u41q.heap.size := h40q.out.lt
      go_simp
      have h274q : Hid (Gd n w (u41q.alloc (.cells #[.int .u64 0, .int .u64 0, .int .u64 0, .int .u64 0, .int .u64 0, .int .u64 0, .int .u64 0, .int .u64 0, .int .u64 0, .int .u64 0, .int .u64 0, .int .u64 0, .int .u64 0, .int .u64 0, .int .u64 0, .int .u64 0, .int .u64 0] 27))) := h37q.out.new (.cells #[.int .u64 0, .int .u64 0, .int .u64 0, .int .u64 0, .int .u64 0, .int .u64 0, .int .u64 0, .int .u64 0, .int .u64 0, .int .u64 0, .int .u64 0, .int .u64 0, .int .u64 0, .int .u64 0, .int .u64 0, .int .u64 0, .int .u64 0] 27)
      have h275q : Hid (Bo (u41q.alloc (.cells #[.int .u64 0, .int .u64 0, .int .u64 0, .int .u64 0, .int .u64 0, .int .u64 0, .int .u64 0, .int .u64 0, .int .u64 0, .int .u64 0, .int .u64 0, .int .u64 0, .int .u64 0, .int .u64 0, .int .u64 0, .int .u64 0, .int .u64 0] 27)) u4q.heap.size (wl c)) := h38q.out.new (.cells #[.int .u64 0, .int .u64 0, .int .u64 0, .int .u64 0, .int .u64 0, .int .u64 0, .int .u64 0, .int .u64 0, .int .u64 0, .int .u64 0, .int .u64 0, .int .u64 0, .int .u64 0, .int .u64 0, .int .u64 0, .int .u64 0, .int .u64 0] 27)
      have h276q : Hid (Bo (u41q.alloc (.cells #[.int .u64 0, .int .u64 0, .int .u64 0, .int .u64 0, .int .u64 0, .int .u64 0, .int .u64 0, .int .u64 0, .int .u64 0, .int .u64 0, .int .u64 0, .int .u64 0, .int .u64 0, .int .u64 0, .int .u64 0, .int .u64 0, .int .u64 0] 27)) u15q.heap.size (wl u1)) := h39q.out.new (.cells #[.int .u64 0, .int .u64 0, .int .u64 0, .int .u64 0, .int .u64 0, .int .u64 0, .int .u64 0, .int .u64 0, .int .u64 0, .int .u64 0, .int .u64 0, .int .u64 0, .int .u64 0, .int .u64 0, .int .u64 0, .int .u64 0, .int .u64 0] 27)
      have h277q : Hid (Bo (u41q.alloc (.cells #[.int .u64 0, .int .u64 0, .int .u64 0, .int .u64 0, .int .u64 0, .int .u64 0, .int .u64 0, .int .u64 0, .int .u64 0, .int .u64 0, .int .u64 0, .int .u64 0, .int .u64 0, .int .u64 0, .int .u64 0, .int .u64 0, .int .u64 0] 27)) (u15q.heap.size + 1) [.int .i64 (c1), .int .i64 (y1)]) := h40q.out.new (.cells #[.int .u64 0, .int .u64 0, .int .u64 0, .int .u64 0, .int .u64 0, .int .u64 0, .int .u64 0, .int .u64 0, .int .u64 0, .int .u64 0, .int .u64 0, .int .u64 0, .int .u64 0, .int .u64 0, .int .u64 0, .int .u64 0, .int .u64 0] 27)
      clear h37q h38q h39q h40q
      have h278q : Hid (Bo (u41q.alloc (.cells #[.int .u64 0, .int .u64 0, .int .u64 0, .int .u64 0, .int .u64 0, .int .u64 0, .int .u64 0, .int .u64 0, .int .u64 0, .int .u64 0, .int .u64 0, .int .u64 0, .int .u64 0, .int .u64 0, .int .u64 0, .int .u64 0, .int .u64 0] 27)) u41q.heap.size (wl wz)) := Bo.born u41q (wl wz) 27 (by simp)
      refine hK.out _ _ h275q.out (fun hH => ?_)
      clear hK K
      generalize (u41q.alloc (.cells #[.int .u64 0, .int .u64 0, .int .u64 0, .int .u64 0, .int .u64 0, .int .u64 0, .int .u64 0, .int .u64 0, .int .u64 0, .int .u64 0, .int .u64 0, .int .u64 0, .int .u64 0, .int .u64 0, .int .u64 0, .int .u64 0, .int .u64 0] 27)) = u279q at h274q h275q h276q h277q h278q hH ⊢
      try simp only [Act.put, List.setIfInBounds_toArray, List.set_cons_zero, List.set_cons_succ]
      refine wpAnyH_ready (rs := [3, 11]) (by kernel_rfl) (by simp) ?_
      refine AllReadyH.cons (o := { dst := some 42, op := _, type := _, pos := _, after := _, guard := _ }) rfl (fun K hK => ?_) ?_
      · go_simp
        refine (PV.out _).mono ?_
        rintro e u280q ⟨rfl, hw⟩
        rw [hw]; clear hw u280q
        go_wp2_with fail
        refine hK.out _ _ h275q.out (fun hH => ?_)
        clear hK K
        try simp only [Act.put, List.setIfInBounds_toArray, List.set_cons_zero, List.set_cons_succ]
        refine wpAnyH_take (i := 4) (oi := { dst := some 43, op := .build _ #[(0, .const (.int .i64 1)), (2, .tmp 42)], type := _, pos := _, after := _, guard := _ }) (v := ?_) rfl (by kernel_rfl) (by kernel_rfl) (by kernel_rfl) (fun _ _ _ h => h) (Or.inl ⟨by rfl, ?_⟩) hH ?_
        rotate_left
        · intro w hSw
          clear hSw
          go_simp
          try with_reducible rfl
        simp only [Act.put, List.setIfInBounds_toArray, List.set_cons_zero, List.set_cons_succ]
        refine wpAnyH_ready (rs := [5, 11]) (by kernel_rfl) (by simp) ?_
        refine AllReadyH.cons (o := { dst := some 44, op := _, type := _, pos := _, after := _, guard := _ }) rfl (fun K hK => ?_) ?_
        · go_simp
          refine (DP.out _).mono ?_
          rintro e u281q ⟨rfl, hb⟩
          have h282q : Hid (Gd n w u281q) := h274q.out.later hb
          have h283q : Hid (Bo u281q u4q.heap.size (wl c)) := h275q.out.later hb
          have h284q : Hid (Bo u281q u15q.heap.size (wl u1)) := h276q.out.later hb
          have h285q : Hid (Bo u281q (u15q.heap.size + 1) [.int .i64 (c1), .int .i64 (y1)]) := h277q.out.later hb
          have h286q : Hid (Bo u281q u41q.heap.size (wl wz)) := h278q.out.later hb
          clear h274q h275q h276q h277q h278q
          clear hb
          go_wp2_with fail
          refine hK.out _ _ h283q.out (fun hH => ?_)
          clear hK K
          try simp only [Act.put, List.setIfInBounds_toArray, List.set_cons_zero, List.set_cons_succ]
          refine wpAnyH_take (i := 6) (oi := { dst := some 38, op := .move (.tmp 44), type := _, pos := _, after := _, guard := _ }) (v := ?_) rfl (by kernel_rfl) (by kernel_rfl) (by kernel_rfl) (fun _ _ _ h => h) (Or.inl ⟨by rfl, ?_⟩) hH ?_
          rotate_left
          · intro w hSw
            clear hSw
            go_simp
            try with_reducible rfl
          simp only [Act.put, List.setIfInBounds_toArray, List.set_cons_zero, List.set_cons_succ]
          refine wpAnyH_take (i := 7) (oi := { dst := some 45, op := .extract (.tmp 38) 0, type := _, pos := _, after := _, guard := _ }) (v := ?_) rfl (by kernel_rfl) (by kernel_rfl) (by kernel_rfl) (fun _ _ _ h => h) (Or.inl ⟨by rfl, ?_⟩) hH ?_
          rotate_left
          · intro w hSw
            clear hSw
            go_simp
            try with_reducible rfl
          simp only [Act.put, List.setIfInBounds_toArray, List.set_cons_zero, List.set_cons_succ]
          refine wpAnyH_take (i := 8) (oi := { dst := some 46, op := .extract (.tmp 38) 1, type := _, pos := _, after := _, guard := _ }) (v := ?_) rfl (by kernel_rfl) (by kernel_rfl) (by kernel_rfl) (fun _ _ _ h => h) (Or.inl ⟨by rfl, ?_⟩) hH ?_
          rotate_left
          · intro w hSw
            clear hSw
            go_simp
            try with_reducible rfl
          simp only [Act.put, List.setIfInBounds_toArray, List.set_cons_zero, List.set_cons_succ]
          refine wpAnyH_take (i := 9) (oi := { dst := some 47, op := .extract (.tmp 38) 2, type := _, pos := _, after := _, guard := _ }) (v := ?_) rfl (by kernel_rfl) (by kernel_rfl) (by kernel_rfl) (fun _ _ _ h => h) (Or.inl ⟨by rfl, ?_⟩) hH ?_
          rotate_left
          · intro w hSw
            clear hSw
            go_simp
            try with_reducible rfl
          simp only [Act.put, List.setIfInBounds_toArray, List.set_cons_zero, List.set_cons_succ]
          refine wpAnyH_ready (rs := [11]) (by kernel_rfl) (by simp) ?_
          refine AllReadyH.cons (o := { dst := some 14, op := .alloc _, type := _, pos := _, after := _, guard := _ }) rfl (fun K hK => ?_) AllReadyH.nil
          have l287q : n ≤ u281q.heap.size := h282q.out.le
          have l288q : u4q.heap.size < u281q.heap.size := h283q.out.lt
          have l289q : u15q.heap.size < u281q.heap.size := h284q.out.lt
          have l290q : (u15q.heap.size + 1) < u281q.heap.size := h285q.out.lt
          have l291q : u41q.heap.size < u281q.heap.size := h286q.out.lt
          go_simp
          have h292q : Hid (Gd n w (u281q.alloc (.cells #[.int .i64 0, .int .i64 0] 34))) := h282q.out.new (.cells #[.int .i64 0, .int .i64 0] 34)
          have h293q : Hid (Bo (u281q.alloc (.cells #[.int .i64 0, .int .i64 0] 34)) u4q.heap.size (wl c)) := h283q.out.new (.cells #[.int .i64 0, .int .i64 0] 34)
          have h294q : Hid (Bo (u281q.alloc (.cells #[.int .i64 0, .int .i64 0] 34)) u15q.heap.size (wl u1)) := h284q.out.new (.cells #[.int .i64 0, .int .i64 0] 34)
          have h295q : Hid (Bo (u281q.alloc (.cells #[.int .i64 0, .int .i64 0] 34)) (u15q.heap.size + 1) [.int .i64 (c1), .int .i64 (y1)]) := h285q.out.new (.cells #[.int .i64 0, .int .i64 0] 34)
          have h296q : Hid (Bo (u281q.alloc (.cells #[.int .i64 0, .int .i64 0] 34)) u41q.heap.size (wl wz)) := h286q.out.new (.cells #[.int .i64 0, .int .i64 0] 34)
          clear h282q h283q h284q h285q h286q
          have h297q : Hid (Bo (u281q.alloc (.cells #[.int .i64 0, .int .i64 0] 34)) u281q.heap.size [.int .i64 0, .int .i64 0]) := Bo.born u281q [.int .i64 0, .int .i64 0] 34 (by simp)
          refine hK.out _ _ h293q.out (fun hH => ?_)
          clear hK K
          generalize (u281q.alloc (.cells #[.int .i64 0, .int .i64 0] 34)) = u298q at h292q h293q h294q h295q h296q h297q hH ⊢
          try simp only [Act.put, List.setIfInBounds_toArray, List.set_cons_zero, List.set_cons_succ]
          refine wpAnyH_ready (rs := [12]) (by kernel_rfl) (by simp) ?_
          refine AllReadyH.cons (o := { dst := none, op := .store _ (.tmp 13) (.tmp 45), type := _, pos := _, after := _, guard := _ }) rfl (fun K hK => ?_) AllReadyH.nil
          rw [if_pos (by rfl)]
          refine wp_store_mid _ _ _ rfl u41q.heap.size _ (wl u2).toArray rfl rfl (h296q.out.thereW u2) (HCZ.out u2) (wl_all u2) ?_
          simp only [Act.put]
          have h299q : Hid (Gd n w (u298q.setCells u41q.heap.size 0 (wl u2))) := h292q.out.asideL (by omega) 0 (wl u2)
          have h300q : Hid (Bo (u298q.setCells u41q.heap.size 0 (wl u2)) u4q.heap.size (wl c)) := h293q.out.asideL (by omega) 0 (wl u2)
          have h301q : Hid (Bo (u298q.setCells u41q.heap.size 0 (wl u2)) u15q.heap.size (wl u1)) := h294q.out.asideL (by omega) 0 (wl u2)
          have h302q : Hid (Bo (u298q.setCells u41q.heap.size 0 (wl u2)) (u15q.heap.size + 1) [.int .i64 (c1), .int .i64 (y1)]) := h295q.out.asideL (by omega) 0 (wl u2)
          have h303q : Hid (Bo (u298q.setCells u41q.heap.size 0 (wl u2)) u41q.heap.size (wl u2)) := h296q.out.setW u2
          have h304q : Hid (Bo (u298q.setCells u41q.heap.size 0 (wl u2)) u281q.heap.size [.int .i64 0, .int .i64 0]) := h297q.out.asideL (by omega) 0 (wl u2)
          clear h292q h293q h294q h295q h296q h297q
          refine hK.out _ _ h300q.out (fun hH => ?_)
          clear hK K
          generalize (u298q.setCells u41q.heap.size 0 (wl u2)) = u305q at h299q h300q h301q h302q h303q h304q hH ⊢
          try simp only [Act.put, List.setIfInBounds_toArray, List.set_cons_zero, List.set_cons_succ]
          refine wpAnyH_ready (rs := [13]) (by kernel_rfl) (by simp) ?_
          refine AllReadyH.cons (o := { dst := none, op := .store _ (.tmp 14) (.tmp 46), type := _, pos := _, after := _, guard := _ }) rfl (fun K hK => ?_) AllReadyH.nil
          rw [if_pos (by rfl)]
          refine wp_store_mid _ _ _ rfl u281q.heap.size _ #[.int .i64 (c2), .int .i64 (y2)] rfl rfl h304q.out.there2 HA.out (two_one _ _) ?_
          simp only [Act.put]
          have h306q : Hid (Gd n w (u305q.setCells u281q.heap.size 0 [.int .i64 (c2), .int .i64 (y2)])) := h299q.out.asideL (by omega) 0 [.int .i64 (c2), .int .i64 (y2)]
          have h307q : Hid (Bo (u305q.setCells u281q.heap.size 0 [.int .i64 (c2), .int .i64 (y2)]) u4q.heap.size (wl c)) := h300q.out.asideL (by omega) 0 [.int .i64 (c2), .int .i64 (y2)]
          have h308q : Hid (Bo (u305q.setCells u281q.heap.size 0 [.int .i64 (c2), .int .i64 (y2)]) u15q.heap.size (wl u1)) := h301q.out.asideL (by omega) 0 [.int .i64 (c2), .int .i64 (y2)]
          have h309q : Hid (Bo (u305q.setCells u281q.heap.size 0 [.int .i64 (c2), .int .i64 (y2)]) (u15q.heap.size + 1) [.int .i64 (c1), .int .i64 (y1)]) := h302q.out.asideL (by omega) 0 [.int .i64 (c2), .int .i64 (y2)]
          have h310q : Hid (Bo (u305q.setCells u281q.heap.size 0 [.int .i64 (c2), .int .i64 (y2)]) u41q.heap.size (wl u2)) := h303q.out.asideL (by omega) 0 [.int .i64 (c2), .int .i64 (y2)]
          have h311q : Hid (Bo (u305q.setCells u281q.heap.size 0 [.int .i64 (c2), .int .i64 (y2)]) u281q.heap.size [.int .i64 (c2), .int .i64 (y2)]) := h304q.out.set2 (.int .i64 (c2)) (.int .i64 (y2))
          clear h299q h300q h301q h302q h303q h304q
          refine hK.out _ _ h307q.out (fun hH => ?_)
          clear hK K
          generalize (u305q.setCells u281q.heap.size 0 [.int .i64 (c2), .int .i64 (y2)]) = u312q at h306q h307q h308q h309q h310q h311q hH ⊢
          try simp only [Act.put, List.setIfInBounds_toArray, List.set_cons_zero, List.set_cons_succ]
          refine wpAnyH_take (i := 14) (oi := { dst := some 15, op := .assign (.tmp 47), type := _, pos := _, after := _, guard := _ }) (v := ?_) rfl (by kernel_rfl) (by kernel_rfl) (by kernel_rfl) (fun _ _ _ h => h) (Or.inl ⟨by rfl, ?_⟩) hH ?_
          rotate_left
          · intro w hSw
            clear hSw
            go_simp
            try with_reducible rfl
          simp only [Act.put, List.setIfInBounds_toArray, List.set_cons_zero, List.set_cons_succ]
          refine wpAnyH_done (by kernel_rfl) ?_ _
          go_wp2_with fail
          go_meet
          case rel => exact ⟨u41q.heap.size, u281q.heap.size, rfl, rfl, rfl, h306q, h309q, h311q⟩
        refine AllReadyH.cons (o := { dst := some 14, op := .alloc _, type := _, pos := _, after := _, guard := _ }) rfl (fun K hK => ?_) AllReadyH.nil
        have l313q : n ≤ u279q.heap.size := h274q.out.le
        have l314q : u4q.heap.size < u279q.heap.size := h275q.out.lt
        have l315q : u15q.heap.size < u279q.heap.size := h276q.out.lt
        have l316q : (u15q.heap.size + 1) < u279q.heap.size := h277q.out.lt
        have l317q : u41q.heap.size < u279q.heap.size := h278q.out.lt
        go_simp
        have h318q : Hid (Gd n w (u279q.alloc (.cells #[.int .i64 0, .int .i64 0] 34))) := h274q.out.new (.cells #[.int .i64 0, .int .i64 0] 34)
        have h319q : Hid (Bo (u279q.alloc (.cells #[.int .i64 0, .int .i64 0] 34)) u4q.heap.size (wl c)) := h275q.out.new (.cells #[.int .i64 0, .int .i64 0] 34)
        have h320q : Hid (Bo (u279q.alloc (.cells #[.int .i64 0, .int .i64 0] 34)) u15q.heap.size (wl u1)) := h276q.out.new (.cells #[.int .i64 0, .int .i64 0] 34)
        have h321q : Hid (Bo (u279q.alloc (.cells #[.int .i64 0, .int .i64 0] 34)) (u15q.heap.size + 1) [.int .i64 (c1), .int .i64 (y1)]) := h277q.out.new (.cells #[.int .i64 0, .int .i64 0] 34)
        have h322q : Hid (Bo (u279q.alloc (.cells #[.int .i64 0, .int .i64 0] 34)) u41q.heap.size (wl wz)) := h278q.out.new (.cells #[.int .i64 0, .int .i64 0] 34)
        clear h274q h275q h276q h277q h278q
        have h323q : Hid (Bo (u279q.alloc (.cells #[.int .i64 0, .int .i64 0] 34)) u279q.heap.size [.int .i64 0, .int .i64 0]) := Bo.born u279q [.int .i64 0, .int .i64 0] 34 (by simp)
        refine hK.out _ _ h319q.out (fun hH => ?_)
        clear hK K
        generalize (u279q.alloc (.cells #[.int .i64 0, .int .i64 0] 34)) = u324q at h318q h319q h320q h321q h322q h323q hH ⊢
        try simp only [Act.put, List.setIfInBounds_toArray, List.set_cons_zero, List.set_cons_succ]
        refine wpAnyH_ready (rs := [5]) (by kernel_rfl) (by simp) ?_
        refine AllReadyH.cons (o := { dst := some 44, op := _, type := _, pos := _, after := _, guard := _ }) rfl (fun K hK => ?_) AllReadyH.nil
        go_simp
        refine (DP.out _).mono ?_
        rintro e u325q ⟨rfl, hb⟩
        have h326q : Hid (Gd n w u325q) := h318q.out.later hb
        have h327q : Hid (Bo u325q u4q.heap.size (wl c)) := h319q.out.later hb
        have h328q : Hid (Bo u325q u15q.heap.size (wl u1)) := h320q.out.later hb
        have h329q : Hid (Bo u325q (u15q.heap.size + 1) [.int .i64 (c1), .int .i64 (y1)]) := h321q.out.later hb
        have h330q : Hid (Bo u325q u41q.heap.size (wl wz)) := h322q.out.later hb
        have h331q : Hid (Bo u325q u279q.heap.size [.int .i64 0, .int .i64 0]) := h323q.out.later hb
        clear h318q h319q h320q h321q h322q h323q
        clear hb
        go_wp2_with fail
        refine hK.out _ _ h327q.out (fun hH => ?_)
        clear hK K
        try simp only [Act.put, List.setIfInBounds_toArray, List.set_cons_zero, List.set_cons_succ]
        refine wpAnyH_take (i := 6) (oi := { dst := some 38, op := .move (.tmp 44), type := _, pos := _, after := _, guard := _ }) (v := ?_) rfl (by kernel_rfl) (by kernel_rfl) (by kernel_rfl) (fun _ _ _ h => h) (Or.inl ⟨by rfl, ?_⟩) hH ?_
        rotate_left
        · intro w hSw
          clear hSw
          go_simp
          try with_reducible rfl
        simp only [Act.put, List.setIfInBounds_toArray, List.set_cons_zero, List.set_cons_succ]
        refine wpAnyH_take (i := 7) (oi := { dst := some 45, op := .extract (.tmp 38) 0, type := _, pos := _, after := _, guard := _ }) (v := ?_) rfl (by kernel_rfl) (by kernel_rfl) (by kernel_rfl) (fun _ _ _ h => h) (Or.inl ⟨by rfl, ?_⟩) hH ?_
        rotate_left
        · intro w hSw
          clear hSw
          go_simp
          try with_reducible rfl
        simp only [Act.put, List.setIfInBounds_toArray, List.set_cons_zero, List.set_cons_succ]
        refine wpAnyH_take (i := 8) (oi := { dst := some 46, op := .extract (.tmp 38) 1, type := _, pos := _, after := _, guard := _ }) (v := ?_) rfl (by kernel_rfl) (by kernel_rfl) (by kernel_rfl) (fun _ _ _ h => h) (Or.inl ⟨by rfl, ?_⟩) hH ?_
        rotate_left
        · intro w hSw
          clear hSw
          go_simp
          try with_reducible rfl
        simp only [Act.put, List.setIfInBounds_toArray, List.set_cons_zero, List.set_cons_succ]
        refine wpAnyH_take (i := 9) (oi := { dst := some 47, op := .extract (.tmp 38) 2, type := _, pos := _, after := _, guard := _ }) (v := ?_) rfl (by kernel_rfl) (by kernel_rfl) (by kernel_rfl) (fun _ _ _ h => h) (Or.inl ⟨by rfl, ?_⟩) hH ?_
        rotate_left
        · intro w hSw
          clear hSw
          go_simp
          try with_reducible rfl
        simp only [Act.put, List.setIfInBounds_toArray, List.set_cons_zero, List.set_cons_succ]
        refine wpAnyH_ready (rs := [12]) (by kernel_rfl) (by simp) ?_
        refine AllReadyH.cons (o := { dst := none, op := .store _ (.tmp 13) (.tmp 45), type := _, pos := _, after := _, guard := _ }) rfl (fun K hK => ?_) AllReadyH.nil
        rw [if_pos (by rfl)]
        refine wp_store_mid _ _ _ rfl u41q.heap.size _ (wl u2).toArray rfl rfl (h330q.out.thereW u2) (HCZ.out u2) (wl_all u2) ?_
        simp only [Act.put]
        have h332q : Hid (Gd n w (u325q.setCells u41q.heap.size 0 (wl u2))) := h326q.out.asideL (by omega) 0 (wl u2)
        have h333q : Hid (Bo (u325q.setCells u41q.heap.size 0 (wl u2)) u4q.heap.size (wl c)) := h327q.out.asideL (by omega) 0 (wl u2)
        have h334q : Hid (Bo (u325q.setCells u41q.heap.size 0 (wl u2)) u15q.heap.size (wl u1)) := h328q.out.asideL (by omega) 0 (wl u2)
        have h335q : Hid (Bo (u325q.setCells u41q.heap.size 0 (wl u2)) (u15q.heap.size + 1) [.int .i64 (c1), .int .i64 (y1)]) := h329q.out.asideL (by omega) 0 (wl u2)
        have h336q : Hid (Bo (u325q.setCells u41q.heap.size 0 (wl u2)) u41q.heap.size (wl u2)) := h330q.out.setW u2
        have h337q : Hid (Bo (u325q.setCells u41q.heap.size 0 (wl u2)) u279q.heap.size [.int .i64 0, .int .i64 0]) := h331q.out.asideL (by omega) 0 (wl u2)
        clear h326q h327q h328q h329q h330q h331q
        refine hK.out _ _ h333q.out (fun hH => ?_)
        clear hK K
        generalize (u325q.setCells u41q.heap.size 0 (wl u2)) = u338q at h332q h333q h334q h335q h336q h337q hH ⊢
        try simp only [Act.put, List.setIfInBounds_toArray, List.set_cons_zero, List.set_cons_succ]
        refine wpAnyH_ready (rs := [13]) (by kernel_rfl) (by simp) ?_
        refine AllReadyH.cons (o := { dst := none, op := .store _ (.tmp 14) (.tmp 46), type := _, pos := _, after := _, guard := _ }) rfl (fun K hK => ?_) AllReadyH.nil
        rw [if_pos (by rfl)]
        refine wp_store_mid _ _ _ rfl u279q.heap.size _ #[.int .i64 (c2), .int .i64 (y2)] rfl rfl h337q.out.there2 HA.out (two_one _ _) ?_
        simp only [Act.put]
        have h339q : Hid (Gd n w (u338q.setCells u279q.heap.size 0 [.int .i64 (c2), .int .i64 (y2)])) := h332q.out.asideL (by omega) 0 [.int .i64 (c2), .int .i64 (y2)]
        have h340q : Hid (Bo (u338q.setCells u279q.heap.size 0 [.int .i64 (c2), .int .i64 (y2)]) u4q.heap.size (wl c)) := h333q.out.asideL (by omega) 0 [.int .i64 (c2), .int .i64 (y2)]
        have h341q : Hid (Bo (u338q.setCells u279q.heap.size 0 [.int .i64 (c2), .int .i64 (y2)]) u15q.heap.size (wl u1)) := h334q.out.asideL (by omega) 0 [.int .i64 (c2), .int .i64 (y2)]
        have h342q : Hid (Bo (u338q.setCells u279q.heap.size 0 [.int .i64 (c2), .int .i64 (y2)]) (u15q.heap.size + 1) [.int .i64 (c1), .int .i64 (y1)]) := h335q.out.asideL (by omega) 0 [.int .i64 (c2), .int .i64 (y2)]
        have h343q : Hid (Bo (u338q.setCells u279q.heap.size 0 [.int .i64 (c2), .int .i64 (y2)]) u41q.heap.size (wl u2)) := h336q.out.asideL (by omega) 0 [.int .i64 (c2), .int .i64 (y2)]
        have h344q : Hid (Bo (u338q.setCells u279q.heap.size 0 [.int .i64 (c2), .int .i64 (y2)]) u279q.heap.size [.int .i64 (c2), .int .i64 (y2)]) := h337q.out.set2 (.int .i64 (c2)) (.int .i64 (y2))
        clear h332q h333q h334q h335q h336q h337q
        refine hK.out _ _ h340q.out (fun hH => ?_)
        clear hK K
        generalize (u338q.setCells u279q.heap.size 0 [.int .i64 (c2), .int .i64 (y2)]) = u345q at h339q h340q h341q h342q h343q h344q hH ⊢
        try simp only [Act.put, List.setIfInBounds_toArray, List.set_cons_zero, List.set_cons_succ]
        refine wpAnyH_take (i := 14) (oi := { dst := some 15, op := .assign (.tmp 47), type := _, pos := _, after := _, guard := _ }) (v := ?_) rfl (by kernel_rfl) (by kernel_rfl) (by kernel_rfl) (fun _ _ _ h => h) (Or.inl ⟨by rfl, ?_⟩) hH ?_
        rotate_left
        · intro w hSw
          clear hSw
          go_simp
          try with_reducible rfl
        simp only [Act.put, List.setIfInBounds_toArray, List.set_cons_zero, List.set_cons_succ]
        refine wpAnyH_done (by kernel_rfl) ?_ _
        go_wp2_with fail
        go_meet
        case rel => exact ⟨u41q.heap.size, u279q.heap.size, rfl, rfl, rfl, h339q, h342q, h344q⟩
      refine AllReadyH.cons (o := { dst := some 14, op := .alloc _, type := _, pos := _, after := _, guard := _ }) rfl (fun K hK => ?_) AllReadyH.nil
      have l346q : n ≤ u279q.heap.size := h274q.out.le
      have l347q : u4q.heap.size < u279q.heap.size := h275q.out.lt
      have l348q : u15q.heap.size < u279q.heap.size := h276q.out.lt
      have l349q : (u15q.heap.size + 1) < u279q.heap.size := h277q.out.lt
      have l350q : u41q.heap.size < u279q.heap.size := h278q.out.lt
      go_simp
      have h351q : Hid (Gd n w (u279q.alloc (.cells #[.int .i64 0, .int .i64 0] 34))) := h274q.out.new (.cells #[.int .i64 0, .int .i64 0] 34)
      have h352q : Hid (Bo (u279q.alloc (.cells #[.int .i64 0, .int .i64 0] 34)) u4q.heap.size (wl c)) := h275q.out.new (.cells #[.int .i64 0, .int .i64 0] 34)
      have h353q : Hid (Bo (u279q.alloc (.cells #[.int .i64 0, .int .i64 0] 34)) u15q.heap.size (wl u1)) := h276q.out.new (.cells #[.int .i64 0, .int .i64 0] 34)
      have h354q : Hid (Bo (u279q.alloc (.cells #[.int .i64 0, .int .i64 0] 34)) (u15q.heap.size + 1) [.int .i64 (c1), .int .i64 (y1)]) := h277q.out.new (.cells #[.int .i64 0, .int .i64 0] 34)
      have h355q : Hid (Bo (u279q.alloc (.cells #[.int .i64 0, .int .i64 0] 34)) u41q.heap.size (wl wz)) := h278q.out.new (.cells #[.int .i64 0, .int .i64 0] 34)
      clear h274q h275q h276q h277q h278q
      have h356q : Hid (Bo (u279q.alloc (.cells #[.int .i64 0, .int .i64 0] 34)) u279q.heap.size [.int .i64 0, .int .i64 0]) := Bo.born u279q [.int .i64 0, .int .i64 0] 34 (by simp)
      refine hK.out _ _ h352q.out (fun hH => ?_)
      clear hK K
      generalize (u279q.alloc (.cells #[.int .i64 0, .int .i64 0] 34)) = u357q at h351q h352q h353q h354q h355q h356q hH ⊢
      try simp only [Act.put, List.setIfInBounds_toArray, List.set_cons_zero, List.set_cons_succ]
      refine wpAnyH_ready (rs := [3]) (by kernel_rfl) (by simp) ?_
      refine AllReadyH.cons (o := { dst := some 42, op := _, type := _, pos := _, after := _, guard := _ }) rfl (fun K hK => ?_) AllReadyH.nil
      go_simp
      refine (PV.out _).mono ?_
      rintro e u358q ⟨rfl, hw⟩
      rw [hw]; clear hw u358q
      go_wp2_with fail
      refine hK.out _ _ h352q.out (fun hH => ?_)
      clear hK K
      try simp only [Act.put, List.setIfInBounds_toArray, List.set_cons_zero, List.set_cons_succ]
      refine wpAnyH_take (i := 4) (oi := { dst := some 43, op := .build _ #[(0, .const (.int .i64 1)), (2, .tmp 42)], type := _, pos := _, after := _, guard := _ }) (v := ?_) rfl (by kernel_rfl) (by kernel_rfl) (by kernel_rfl) (fun _ _ _ h => h) (Or.inl ⟨by rfl, ?_⟩) hH ?_
      rotate_left
      · intro w hSw
        clear hSw
        go_simp
        try with_reducible rfl
      simp only [Act.put, List.setIfInBounds_toArray, List.set_cons_zero, List.set_cons_succ]
      refine wpAnyH_ready (rs := [5]) (by kernel_rfl) (by simp) ?_
      refine AllReadyH.cons (o := { dst := some 44, op := _, type := _, pos := _, after := _, guard := _ }) rfl (fun K hK => ?_) AllReadyH.nil
      go_simp
      refine (DP.out _).mono ?_
      rintro e u359q ⟨rfl, hb⟩
      have h360q : Hid (Gd n w u359q) := h351q.out.later hb
      have h361q : Hid (Bo u359q u4q.heap.size (wl c)) := h352q.out.later hb
      have h362q : Hid (Bo u359q u15q.heap.size (wl u1)) := h353q.out.later hb
      have h363q : Hid (Bo u359q (u15q.heap.size + 1) [.int .i64 (c1), .int .i64 (y1)]) := h354q.out.later hb
      have h364q : Hid (Bo u359q u41q.heap.size (wl wz)) := h355q.out.later hb
      have h365q : Hid (Bo u359q u279q.heap.size [.int .i64 0, .int .i64 0]) := h356q.out.later hb
      clear h351q h352q h353q h354q h355q h356q
      clear hb
      go_wp2_with fail
      refine hK.out _ _ h361q.out (fun hH => ?_)
      clear hK K
      try simp only [Act.put, List.setIfInBounds_toArray, List.set_cons_zero, List.set_cons_succ]
      refine wpAnyH_take (i := 6) (oi := { dst := some 38, op := .move (.tmp 44), type := _, pos := _, after := _, guard := _ }) (v := ?_) rfl (by kernel_rfl) (by kernel_rfl) (by kernel_rfl) (fun _ _ _ h => h) (Or.inl ⟨by rfl, ?_⟩) hH ?_
      rotate_left
      · intro w hSw
        clear hSw
        go_simp
        try with_reducible rfl
      simp only [Act.put, List.setIfInBounds_toArray, List.set_cons_zero, List.set_cons_succ]
      refine wpAnyH_take (i := 7) (oi := { dst := some 45, op := .extract (.tmp 38) 0, type := _, pos := _, after := _, guard := _ }) (v := ?_) rfl (by kernel_rfl) (by kernel_rfl) (by kernel_rfl) (fun _ _ _ h => h) (Or.inl ⟨by rfl, ?_⟩) hH ?_
      rotate_left
      · intro w hSw
        clear hSw
        go_simp
        try with_reducible rfl
      simp only [Act.put, List.setIfInBounds_toArray, List.set_cons_zero, List.set_cons_succ]
      refine wpAnyH_take (i := 8) (oi := { dst := some 46, op := .extract (.tmp 38) 1, type := _, pos := _, after := _, guard := _ }) (v := ?_) rfl (by kernel_rfl) (by kernel_rfl) (by kernel_rfl) (fun _ _ _ h => h) (Or.inl ⟨by rfl, ?_⟩) hH ?_
      rotate_left
      · intro w hSw
        clear hSw
        go_simp
        try with_reducible rfl
      simp only [Act.put, List.setIfInBounds_toArray, List.set_cons_zero, List.set_cons_succ]
      refine wpAnyH_take (i := 9) (oi := { dst := some 47, op := .extract (.tmp 38) 2, type := _, pos := _, after := _, guard := _ }) (v := ?_) rfl (by kernel_rfl) (by kernel_rfl) (by kernel_rfl) (fun _ _ _ h => h) (Or.inl ⟨by rfl, ?_⟩) hH ?_
      rotate_left
      · intro w hSw
        clear hSw
        go_simp
        try with_reducible rfl
      simp only [Act.put, List.setIfInBounds_toArray, List.set_cons_zero, List.set_cons_succ]
      refine wpAnyH_ready (rs := [12]) (by kernel_rfl) (by simp) ?_
      refine AllReadyH.cons (o := { dst := none, op := .store _ (.tmp 13) (.tmp 45), type := _, pos := _, after := _, guard := _ }) rfl (fun K hK => ?_) AllReadyH.nil
      rw [if_pos (by rfl)]
      refine wp_store_mid _ _ _ rfl u41q.heap.size _ (wl u2).toArray rfl rfl (h364q.out.thereW u2) (HCZ.out u2) (wl_all u2) ?_
      simp only [Act.put]
      have h366q : Hid (Gd n w (u359q.setCells u41q.heap.size 0 (wl u2))) := h360q.out.asideL (by omega) 0 (wl u2)
      have h367q : Hid (Bo (u359q.setCells u41q.heap.size 0 (wl u2)) u4q.heap.size (wl c)) := h361q.out.asideL (by omega) 0 (wl u2)
      have h368q : Hid (Bo (u359q.setCells u41q.heap.size 0 (wl u2)) u15q.heap.size (wl u1)) := h362q.out.asideL (by omega) 0 (wl u2)
      have h369q : Hid (Bo (u359q.setCells u41q.heap.size 0 (wl u2)) (u15q.heap.size + 1) [.int .i64 (c1), .int .i64 (y1)]) := h363q.out.asideL (by omega) 0 (wl u2)
      have h370q : Hid (Bo (u359q.setCells u41q.heap.size 0 (wl u2)) u41q.heap.size (wl u2)) := h364q.out.setW u2
      have h371q : Hid (Bo (u359q.setCells u41q.heap.size 0 (wl u2)) u279q.heap.size [.int .i64 0, .int .i64 0]) := h365q.out.asideL (by omega) 0 (wl u2)
      clear h360q h361q h362q h363q h364q h365q
      refine hK.out _ _ h367q.out (fun hH => ?_)
      clear hK K
      generalize (u359q.setCells u41q.heap.size 0 (wl u2)) = u372q at h366q h367q h368q h369q h370q h371q hH ⊢
      try simp only [Act.put, List.setIfInBounds_toArray, List.set_cons_zero, List.set_cons_succ]
      refine wpAnyH_ready (rs := [13]) (by kernel_rfl) (by simp) ?_
      refine AllReadyH.cons (o := { dst := none, op := .store _ (.tmp 14) (.tmp 46), type := _, pos := _, after := _, guard := _ }) rfl (fun K hK => ?_) AllReadyH.nil
      rw [if_pos (by rfl)]
      refine wp_store_mid _ _ _ rfl u279q.heap.size _ #[.int .i64 (c2), .int .i64 (y2)] rfl rfl h371q.out.there2 HA.out (two_one _ _) ?_
      simp only [Act.put]
      have h373q : Hid (Gd n w (u372q.setCells u279q.heap.size 0 [.int .i64 (c2), .int .i64 (y2)])) := h366q.out.asideL (by omega) 0 [.int .i64 (c2), .int .i64 (y2)]
      have h374q : Hid (Bo (u372q.setCells u279q.heap.size 0 [.int .i64 (c2), .int .i64 (y2)]) u4q.heap.size (wl c)) := h367q.out.asideL (by omega) 0 [.int .i64 (c2), .int .i64 (y2)]
      have h375q : Hid (Bo (u372q.setCells u279q.heap.size 0 [.int .i64 (c2), .int .i64 (y2)]) u15q.heap.size (wl u1)) := h368q.out.asideL (by omega) 0 [.int .i64 (c2), .int .i64 (y2)]
      have h376q : Hid (Bo (u372q.setCells u279q.heap.size 0 [.int .i64 (c2), .int .i64 (y2)]) (u15q.heap.size + 1) [.int .i64 (c1), .int .i64 (y1)]) := h369q.out.asideL (by omega) 0 [.int .i64 (c2), .int .i64 (y2)]
      have h377q : Hid (Bo (u372q.setCells u279q.heap.size 0 [.int .i64 (c2), .int .i64 (y2)]) u41q.heap.size (wl u2)) := h370q.out.asideL (by omega) 0 [.int .i64 (c2), .int .i64 (y2)]
      have h378q : Hid (Bo (u372q.setCells u279q.heap.size 0 [.int .i64 (c2), .int .i64 (y2)]) u279q.heap.size [.int .i64 (c2), .int .i64 (y2)]) := h371q.out.set2 (.int .i64 (c2)) (.int .i64 (y2))
      clear h366q h367q h368q h369q h370q h371q
      refine hK.out _ _ h374q.out (fun hH => ?_)
      clear hK K
      generalize (u372q.setCells u279q.heap.size 0 [.int .i64 (c2), .int .i64 (y2)]) = u379q at h373q h374q h375q h376q h377q h378q hH ⊢
      try simp only [Act.put, List.setIfInBounds_toArray, List.set_cons_zero, List.set_cons_succ]
      refine wpAnyH_take (i := 14) (oi := { dst := some 15, op := .assign (.tmp 47), type := _, pos := _, after := _, guard := _ }) (v := ?_) rfl (by kernel_rfl) (by kernel_rfl) (by kernel_rfl) (fun _ _ _ h => h) (Or.inl ⟨by rfl, ?_⟩) hH ?_
      rotate_left
      · intro w hSw
        clear hSw
        go_simp
        try with_reducible rfl
      simp only [Act.put, List.setIfInBounds_toArray, List.set_cons_zero, List.set_cons_succ]
      refine wpAnyH_done (by kernel_rfl) ?_ _
      go_wp2_with fail
      go_meet
      case rel => exact ⟨u41q.heap.size, u279q.heap.size, rfl, rfl, rfl, h373q, h376q, h378q⟩
    refine AllReadyH.cons (o := { dst := some 14, op := .alloc _, type := _, pos := _, after := _, guard := _ }) rfl (fun K hK => ?_) AllReadyH.nil
    have l380q : n ≤ u41q.heap.size := h37q.out.le
    have l381q : u4q.heap.size < u41q.heap.size := h38q.out.lt
    have l382q : u15q.heap.size < u41q.heap.size := h39q.out.lt
    have l383q : (u15q.heap.size + 1) < u41q.heap.size := h40q.out.lt
    go_simp
    have h384q : Hid (Gd n w (u41q.alloc (.cells #[.int .i64 0, .int .i64 0] 34))) := h37q.out.new (.cells #[.int .i64 0, .int .i64 0] 34)
    have h385q : Hid (Bo (u41q.alloc (.cells #[.int .i64 0, .int .i64 0] 34)) u4q.heap.size (wl c)) := h38q.out.new (.cells #[.int .i64 0, .int .i64 0] 34)
    have h386q : Hid (Bo (u41q.alloc (.cells #[.int .i64 0, .int .i64 0] 34)) u15q.heap.size (wl u1)) := h39q.out.new (.cells #[.int .i64 0, .int .i64 0] 34)
    have h387q : Hid (Bo (u41q.alloc (.cells #[.int .i64 0, .int .i64 0] 34)) (u15q.heap.size + 1) [.int .i64 (c1), .int .i64 (y1)]) := h40q.out.new (.cells #[.int .i64 0, .int .i64 0] 34)
    clear h37q h38q h39q h40q
    have h388q : Hid (Bo (u41q.alloc (.cells #[.int .i64 0, .int .i64 0] 34)) u41q.heap.size [.int .i64 0, .int .i64 0]) := Bo.born u41q [.int .i64 0, .int .i64 0] 34 (by simp)
    refine hK.out _ _ h385q.out (fun hH => ?_)
    clear hK K
    generalize (u41q.alloc (.cells #[.int .i64 0, .int .i64 0] 34)) = u389q at h384q h385q h386q h387q h388q hH ⊢
    try simp only [Act.put, List.setIfInBounds_toArray, List.set_cons_zero, List.set_cons_succ]
    refine wpAnyH_ready (rs := [3, 10]) (by kernel_rfl) (by simp) ?_
    refine AllReadyH.cons (o := { dst := some 42, op := _, type := _, pos := _, after := _, guard := _ }) rfl (fun K hK => ?_) ?_
    · go_simp
      refine (PV.out _).mono ?_
      rintro e u390q ⟨rfl, hw⟩
      rw [hw]; clear hw u390q
      go_wp2_with fail
      refine hK.out _ _ h385q.out (fun hH => ?_)
      clear hK K
      try simp only [Act.put, List.setIfInBounds_toArray, List.set_cons_zero, List.set_cons_succ]
      refine wpAnyH_take (i := 4) (oi := { dst := some 43, op := .build _ #[(0, .const (.int .i64 1)), (2, .tmp 42)], type := _, pos := _, after := _, guard := _ }) (v := ?_) rfl (by kernel_rfl) (by kernel_rfl) (by kernel_rfl) (fun _ _ _ h => h) (Or.inl ⟨by rfl, ?_⟩) hH ?_
      rotate_left
      · intro w hSw
        clear hSw
        go_simp
        try with_reducible rfl
      simp only [Act.put, List.setIfInBounds_toArray, List.set_cons_zero, List.set_cons_succ]
      refine wpAnyH_ready (rs := [5, 10]) (by kernel_rfl) (by simp) ?_
      refine AllReadyH.cons (o := { dst := some 44, op := _, type := _, pos := _, after := _, guard := _ }) rfl (fun K hK => ?_) ?_
      · go_simp
        refine (DP.out _).mono ?_
        rintro e u391q ⟨rfl, hb⟩
        have h392q : Hid (Gd n w u391q) := h384q.out.later hb
        have h393q : Hid (Bo u391q u4q.heap.size (wl c)) := h385q.out.later hb
        have h394q : Hid (Bo u391q u15q.heap.size (wl u1)) := h386q.out.later hb
        have h395q : Hid (Bo u391q (u15q.heap.size + 1) [.int .i64 (c1), .int .i64 (y1)]) := h387q.out.later hb
        have h396q : Hid (Bo u391q u41q.heap.size [.int .i64 0, .int .i64 0]) := h388q.out.later hb
        clear h384q h385q h386q h387q h388q
        clear hb
        go_wp2_with fail
        refine hK.out _ _ h393q.out (fun hH => ?_)
        clear hK K
        try simp only [Act.put, List.setIfInBounds_toArray, List.set_cons_zero, List.set_cons_succ]
        refine wpAnyH_take (i := 6) (oi := { dst := some 38, op := .move (.tmp 44), type := _, pos := _, after := _, guard := _ }) (v := ?_) rfl (by kernel_rfl) (by kernel_rfl) (by kernel_rfl) (fun _ _ _ h => h) (Or.inl ⟨by rfl, ?_⟩) hH ?_
        rotate_left
        · intro w hSw
          clear hSw
          go_simp
          try with_reducible rfl
        simp only [Act.put, List.setIfInBounds_toArray, List.set_cons_zero, List.set_cons_succ]
        refine wpAnyH_take (i := 7) (oi := { dst := some 45, op := .extract (.tmp 38) 0, type := _, pos := _, after := _, guard := _ }) (v := ?_) rfl (by kernel_rfl) (by kernel_rfl) (by kernel_rfl) (fun _ _ _ h => h) (Or.inl ⟨by rfl, ?_⟩) hH ?_
        rotate_left
        · intro w hSw
          clear hSw
          go_simp
          try with_reducible rfl
        simp only [Act.put, List.setIfInBounds_toArray, List.set_cons_zero, List.set_cons_succ]
        refine wpAnyH_take (i := 8) (oi := { dst := some 46, op := .extract (.tmp 38) 1, type := _, pos := _, after := _, guard := _ }) (v := ?_) rfl (by kernel_rfl) (by kernel_rfl) (by kernel_rfl) (fun _ _ _ h => h) (Or.inl ⟨by rfl, ?_⟩) hH ?_
        rotate_left
        · intro w hSw
          clear hSw
          go_simp
          try with_reducible rfl
        simp only [Act.put, List.setIfInBounds_toArray, List.set_cons_zero, List.set_cons_succ]
        refine wpAnyH_take (i := 9) (oi := { dst := some 47, op := .extract (.tmp 38) 2, type := _, pos := _, after := _, guard := _ }) (v := ?_) rfl (by kernel_rfl) (by kernel_rfl) (by kernel_rfl) (fun _ _ _ h => h) (Or.inl ⟨by rfl, ?_⟩) hH ?_
        rotate_left
        · intro w hSw
          clear hSw
          go_simp
          try with_reducible rfl
        simp only [Act.put, List.setIfInBounds_toArray, List.set_cons_zero, List.set_cons_succ]
        refine wpAnyH_ready (rs := [10]) (by kernel_rfl) (by simp) ?_
        refine AllReadyH.cons (o := { dst := some 13, op := .alloc _, type := _, pos := _, after := _, guard := _ }) rfl (fun K hK => ?_) AllReadyH.nil
        have l397q : n ≤ u391q.heap.size := h392q.out.le
        have l398q : u4q.heap.size < u391q.heap.size := h393q.out.lt
        have l399q : u15q.heap.size < u391q.heap.size := h394q.out.lt
        have l400q : (u15q.heap.size + 1) < u391q.heap.size := h395q.out.lt
        have l401q : u41q.heap.size < u391q.heap.size := h396q.out.lt
        go_simp
        have h402q : Hid (Gd n w (u391q.alloc (.cells #[.int .u64 0, .int .u64 0, .int .u64 0, .int .u64 0, .int .u64 0, .int .u64 0, .int .u64 0, .int .u64 0, .int .u64 0, .int .u64 0, .int .u64 0, .int .u64 0, .int .u64 0, .int .u64 0, .int .u64 0, .int .u64 0, .int .u64 0] 27))) := h392q.out.new (.cells #[.int .u64 0, .int .u64 0, .int .u64 0, .int .u64 0, .int .u64 0, .int .u64 0, .int .u64 0, .int .u64 0, .int .u64 0, .int .u64 0, .int .u64 0, .int .u64 0, .int .u64 0, .int .u64 0, .int .u64 0, .int .u64 0, .int .u64 0] 27)
        have h403q : Hid (Bo (u391q.alloc (.cells #[.int .u64 0, .int .u64 0, .int .u64 0, .int .u64 0, .int .u64 0, .int .u64 0, .int .u64 0, .int .u64 0, .int .u64 0, .int .u64 0, .int .u64 0, .int .u64 0, .int .u64 0, .int .u64 0, .int .u64 0, .int .u64 0, .int .u64 0] 27)) u4q.heap.size (wl c)) := h393q.out.new (.cells #[.int .u64 0, .int .u64 0, .int .u64 0, .int .u64 0, .int .u64 0, .int .u64 0, .int .u64 0, .int .u64 0, .int .u64 0, .int .u64 0, .int .u64 0, .int .u64 0, .int .u64 0, .int .u64 0, .int .u64 0, .int .u64 0, .int .u64 0] 27)
        have h404q : Hid (Bo (u391q.alloc (.cells #[.int .u64 0, .int .u64 0, .int .u64 0, .int .u64 0, .int .u64 0, .int .u64 0, .int .u64 0, .int .u64 0, .int .u64 0, .int .u64 0, .int .u64 0, .int .u64 0, .int .u64 0, .int .u64 0, .int .u64 0, .int .u64 0, .int .u64 0] 27)) u15q.heap.size (wl u1)) := h394q.out.new (.cells #[.int .u64 0, .int .u64 0, .int .u64 0, .int .u64 0, .int .u64 0, .int .u64 0, .int .u64 0, .int .u64 0, .int .u64 0, .int .u64 0, .int .u64 0, .int .u64 0, .int .u64 0, .int .u64 0, .int .u64 0, .int .u64 0, .int .u64 0] 27)
        have h405q : Hid (Bo (u391q.alloc (.cells #[.int .u64 0, .int .u64 0, .int .u64 0, .int .u64 0, .int .u64 0, .int .u64 0, .int .u64 0, .int .u64 0, .int .u64 0, .int .u64 0, .int .u64 0, .int .u64 0, .int .u64 0, .int .u64 0, .int .u64 0, .int .u64 0, .int .u64 0] 27)) (u15q.heap.size + 1) [.int .i64 (c1), .int .i64 (y1)]) := h395q.out.new (.cells #[.int .u64 0, .int .u64 0, .int .u64 0, .int .u64 0, .int .u64 0, .int .u64 0, .int .u64 0, .int .u64 0, .int .u64 0, .int .u64 0, .int .u64 0, .int .u64 0, .int .u64 0, .int .u64 0, .int .u64 0, .int .u64 0, .int .u64 0] 27)
        have h406q : Hid (Bo (u391q.alloc (.cells #[.int .u64 0, .int .u64 0, .int .u64 0, .int .u64 0, .int .u64 0, .int .u64 0, .int .u64 0, .int .u64 0, .int .u64 0, .int .u64 0, .int .u64 0, .int .u64 0, .int .u64 0, .int .u64 0, .int .u64 0, .int .u64 0, .int .u64 0] 27)) u41q.heap.size [.int .i64 0, .int .i64 0]) := h396q.out.new (.cells #[.int .u64 0, .int .u64 0, .int .u64 0, .int .u64 0, .int .u64 0, .int .u64 0, .int .u64 0, .int .u64 0, .int .u64 0, .int .u64 0, .int .u64 0, .int .u64 0, .int .u64 0, .int .u64 0, .int .u64 0, .int .u64 0, .int .u64 0] 27)
        clear h392q h393q h394q h395q h396q
        have h407q : Hid (Bo (u391q.alloc (.cells #[.int .u64 0, .int .u64 0, .int .u64 0, .int .u64 0, .int .u64 0, .int .u64 0, .int .u64 0, .int .u64 0, .int .u64 0, .int .u64 0, .int .u64 0, .int .u64 0, .int .u64 0, .int .u64 0, .int .u64 0, .int .u64 0, .int .u64 0] 27)) u391q.heap.size (wl wz)) := Bo.born u391q (wl wz) 27 (by simp)
        refine hK.out _ _ h403q.out (fun hH => ?_)
        clear hK K
        generalize (u391q.alloc (.cells #[.int .u64 0, .int .u64 0, .int .u64 0, .int .u64 0, .int .u64 0, .int .u64 0, .int .u64 0, .int .u64 0, .int .u64 0, .int .u64 0, .int .u64 0, .int .u64 0, .int .u64 0, .int .u64 0, .int .u64 0, .int .u64 0, .int .u64 0] 27)) = u408q at h402q h403q h404q h405q h406q h407q hH ⊢
        try simp only [Act.put, List.setIfInBounds_toArray, List.set_cons_zero, List.set_cons_succ]
        refine wpAnyH_ready (rs := [12]) (by kernel_rfl) (by simp) ?_
        refine AllReadyH.cons (o := { dst := none, op := .store _ (.tmp 13) (.tmp 45), type := _, pos := _, after := _, guard := _ }) rfl (fun K hK => ?_) AllReadyH.nil
        rw [if_pos (by rfl)]
        refine wp_store_mid _ _ _ rfl u391q.heap.size _ (wl u2).toArray rfl rfl (h407q.out.thereW u2) (HCZ.out u2) (wl_all u2) ?_
        simp only [Act.put]
        have h409q : Hid (Gd n w (u408q.setCells u391q.heap.size 0 (wl u2))) := h402q.out.asideL (by omega) 0 (wl u2)
        have h410q : Hid (Bo (u408q.setCells u391q.heap.size 0 (wl u2)) u4q.heap.size (wl c)) := h403q.out.asideL (by omega) 0 (wl u2)
        have h411q : Hid (Bo (u408q.setCells u391q.heap.size 0 (wl u2)) u15q.heap.size (wl u1)) := h404q.out.asideL (by omega) 0 (wl u2)
        have h412q : Hid (Bo (u408q.setCells u391q.heap.size 0 (wl u2)) (u15q.heap.size + 1) [.int .i64 (c1), .int .i64 (y1)]) := h405q.out.asideL (by omega) 0 (wl u2)
        have h413q : Hid (Bo (u408q.setCells u391q.heap.size 0 (wl u2)) u41q.heap.size [.int .i64 0, .int .i64 0]) := h406q.out.asideL (by omega) 0 (wl u2)
        have h414q : Hid (Bo (u408q.setCells u391q.heap.size 0 (wl u2)) u391q.heap.size (wl u2)) := h407q.out.setW u2
        clear h402q h403q h404q h405q h406q h407q
        refine hK.out _ _ h410q.out (fun hH => ?_)
        clear hK K
        generalize (u408q.setCells u391q.heap.size 0 (wl u2)) = u415q at h409q h410q h411q h412q h413q h414q hH ⊢
        try simp only [Act.put, List.setIfInBounds_toArray, List.set_cons_zero, List.set_cons_succ]
        refine wpAnyH_ready (rs := [13]) (by kernel_rfl) (by simp) ?_
        refine AllReadyH.cons (o := { dst := none, op := .store _ (.tmp 14) (.tmp 46), type := _, pos := _, after := _, guard := _ }) rfl (fun K hK => ?_) AllReadyH.nil
        rw [if_pos (by rfl)]
        refine wp_store_mid _ _ _ rfl u41q.heap.size _ #[.int .i64 (c2), .int .i64 (y2)] rfl rfl h413q.out.there2 HA.out (two_one _ _) ?_
        simp only [Act.put]
        have h416q : Hid (Gd n w (u415q.setCells u41q.heap.size 0 [.int .i64 (c2), .int .i64 (y2)])) := h409q.out.asideL (by omega) 0 [.int .i64 (c2), .int .i64 (y2)]
        have h417q : Hid (Bo (u415q.setCells u41q.heap.size 0 [.int .i64 (c2), .int .i64 (y2)]) u4q.heap.size (wl c)) := h410q.out.asideL (by omega) 0 [.int .i64 (c2), .int .i64 (y2)]
        have h418q : Hid (Bo (u415q.setCells u41q.heap.size 0 [.int .i64 (c2), .int .i64 (y2)]) u15q.heap.size (wl u1)) := h411q.out.asideL (by omega) 0 [.int .i64 (c2), .int .i64 (y2)]
        have h419q : Hid (Bo (u415q.setCells u41q.heap.size 0 [.int .i64 (c2), .int .i64 (y2)]) (u15q.heap.size + 1) [.int .i64 (c1), .int .i64 (y1)]) := h412q.out.asideL (by omega) 0 [.int .i64 (c2), .int .i64 (y2)]
        have h420q : Hid (Bo (u415q.setCells u41q.heap.size 0 [.int .i64 (c2), .int .i64 (y2)]) u41q.heap.size [.int .i64 (c2), .int .i64 (y2)]) := h413q.out.set2 (.int .i64 (c2)) (.int .i64 (y2))
        have h421q : Hid (Bo (u415q.setCells u41q.heap.size 0 [.int .i64 (c2), .int .i64 (y2)]) u391q.heap.size (wl u2)) := h414q.out.asideL (by omega) 0 [.int .i64 (c2), .int .i64 (y2)]
        clear h409q h410q h411q h412q h413q h414q
        refine hK.out _ _ h417q.out (fun hH => ?_)
        clear hK K
        generalize (u415q.setCells u41q.heap.size 0 [.int .i64 (c2), .int .i64 (y2)]) = u422q at h416q h417q h418q h419q h420q h421q hH ⊢
        try simp only [Act.put, List.setIfInBounds_toArray, List.set_cons_zero, List.set_cons_succ]
        refine wpAnyH_take (i := 14) (oi := { dst := some 15, op := .assign (.tmp 47), type := _, pos := _, after := _, guard := _ }) (v := ?_) rfl (by kernel_rfl) (by kernel_rfl) (by kernel_rfl) (fun _ _ _ h => h) (Or.inl ⟨by rfl, ?_⟩) hH ?_
        rotate_left
        · intro w hSw
          clear hSw
          go_simp
          try with_reducible rfl
        simp only [Act.put, List.setIfInBounds_toArray, List.set_cons_zero, List.set_cons_succ]
        refine wpAnyH_done (by kernel_rfl) ?_ _
        go_wp2_with fail
        go_meet
        case rel => exact ⟨u391q.heap.size, u41q.heap.size, rfl, rfl, rfl, h416q, h419q, h420q⟩
      refine AllReadyH.cons (o := { dst := some 13, op := .alloc _, type := _, pos := _, after := _, guard := _ }) rfl (fun K hK => ?_) AllReadyH.nil
      have l423q : n ≤ u389q.heap.size := h384q.out.le
      have l424q : u4q.heap.size < u389q.heap.size := h385q.out.lt
      have l425q : u15q.heap.size < u389q.heap.size := h386q.out.lt
      have l426q : (u15q.heap.size + 1) < u389q.heap.size := h387q.out.lt
      have l427q : u41q.heap.size < u389q.heap.size := h388q.out.lt
      go_simp
      have h428q : Hid (Gd n w (u389q.alloc (.cells #[.int .u64 0, .int .u64 0, .int .u64 0, .int .u64 0, .int .u64 0, .int .u64 0, .int .u64 0, .int .u64 0, .int .u64 0, .int .u64 0, .int .u64 0, .int .u64 0, .int .u64 0, .int .u64 0, .int .u64 0, .int .u64 0, .int .u64 0] 27))) := h384q.out.new (.cells #[.int .u64 0, .int .u64 0, .int .u64 0, .int .u64 0, .int .u64 0, .int .u64 0, .int .u64 0, .int .u64 0, .int .u64 0, .int .u64 0, .int .u64 0, .int .u64 0, .int .u64 0, .int .u64 0, .int .u64 0, .int .u64 0, .int .u64 0] 27)
      have h429q : Hid (Bo (u389q.alloc (.cells #[.int .u64 0, .int .u64 0, .int .u64 0, .int .u64 0, .int .u64 0, .int .u64 0, .int .u64 0, .int .u64 0, .int .u64 0, .int .u64 0, .int .u64 0, .int .u64 0, .int .u64 0, .int .u64 0, .int .u64 0, .int .u64 0, .int .u64 0] 27)) u4q.heap.size (wl c)) := h385q.out.new (.cells #[.int .u64 0, .int .u64 0, .int .u64 0, .int .u64 0, .int .u64 0, .int .u64 0, .int .u64 0, .int .u64 0, .int .u64 0, .int .u64 0, .int .u64 0, .int .u64 0, .int .u64 0, .int .u64 0, .int .u64 0, .int .u64 0, .int .u64 0] 27)
      have h430q : Hid (Bo (u389q.alloc (.cells #[.int .u64 0, .int .u64 0, .int .u64 0, .int .u64 0, .int .u64 0, .int .u64 0, .int .u64 0, .int .u64 0, .int .u64 0, .int .u64 0, .int .u64 0, .int .u64 0, .int .u64 0, .int .u64 0, .int .u64 0, .int .u64 0, .int .u64 0] 27)) u15q.heap.size (wl u1)) := h386q.out.new (.cells #[.int .u64 0, .int .u64 0, .int .u64 0, .int .u64 0, .int .u64 0, .int .u64 0, .int .u64 0, .int .u64 0, .int .u64 0, .int .u64 0, .int .u64 0, .int .u64 0, .int .u64 0, .int .u64 0, .int .u64 0, .int .u64 0, .int .u64 0] 27)
      have h431q : Hid (Bo (u389q.alloc (.cells #[.int .u64 0, .int .u64 0, .int .u64 0, .int .u64 0, .int .u64 0, .int .u64 0, .int .u64 0, .int .u64 0, .int .u64 0, .int .u64 0, .int .u64 0, .int .u64 0, .int .u64 0, .int .u64 0, .int .u64 0, .int .u64 0, .int .u64 0] 27)) (u15q.heap.size + 1) [.int .i64 (c1), .int .i64 (y1)]) := h387q.out.new (.cells #[.int .u64 0, .int .u64 0, .int .u64 0, .int .u64 0, .int .u64 0, .int .u64 0, .int .u64 0, .int .u64 0, .int .u64 0, .int .u64 0, .int .u64 0, .int .u64 0, .int .u64 0, .int .u64 0, .int .u64 0, .int .u64 0, .int .u64 0] 27)
      have h432q : Hid (Bo (u389q.alloc (.cells #[.int .u64 0, .int .u64 0, .int .u64 0, .int .u64 0, .int .u64 0, .int .u64 0, .int .u64 0, .int .u64 0, .int .u64 0, .int .u64 0, .int .u64 0, .int .u64 0, .int .u64 0, .int .u64 0, .int .u64 0, .int .u64 0, .int .u64 0] 27)) u41q.heap.size [.int .i64 0, .int .i64 0]) := h388q.out.new (.cells #[.int .u64 0, .int .u64 0, .int .u64 0, .int .u64 0, .int .u64 0, .int .u64 0, .int .u64 0, .int .u64 0, .int .u64 0, .int .u64 0, .int .u64 0, .int .u64 0, .int .u64 0, .int .u64 0, .int .u64 0, .int .u64 0, .int .u64 0] 27)
      clear h384q h385q h386q h387q h388q
      have h433q : Hid (Bo (u389q.alloc (.cells #[.int .u64 0, .int .u64 0, .int .u64 0, .int .u64 0, .int .u64 0, .int .u64 0, .int .u64 0, .int .u64 0, .int .u64 0, .int .u64 0, .int .u64 0, .int .u64 0, .int .u64 0, .int .u64 0, .int .u64 0, .int .u64 0, .int .u64 0] 27)) u389q.heap.size (wl wz)) := Bo.born u389q (wl wz) 27 (by simp)
      refine hK.out _ _ h429q.out (fun hH => ?_)
      clear hK K
      generalize (u389q.alloc (.cells #[.int .u64 0, .int .u64 0, .int .u64 0, .int .u64 0, .int .u64 0, .int .u64 0, .int .u64 0, .int .u64 0, .int .u64 0, .int .u64 0, .int .u64 0, .int .u64 0, .int .u64 0, .int .u64 0, .int .u64 0, .int .u64 0, .int .u64 0] 27)) = u434q at h428q h429q h430q h431q h432q h433q hH ⊢
      try simp only [Act.put, List.setIfInBounds_toArray, List.set_cons_zero, List.set_cons_succ]
      refine wpAnyH_ready (rs := [5]) (by kernel_rfl) (by simp) ?_
      refine AllReadyH.cons (o := { dst := some 44, op := _, type := _, pos := _, after := _, guard := _ }) rfl (fun K hK => ?_) AllReadyH.nil
      go_simp
      refine (DP.out _).mono ?_
      rintro e u435q ⟨rfl, hb⟩
      have h436q : Hid (Gd n w u435q) := h428q.out.later hb
      have h437q : Hid (Bo u435q u4q.heap.size (wl c)) := h429q.out.later hb
      have h438q : Hid (Bo u435q u15q.heap.size (wl u1)) := h430q.out.later hb
      have h439q : Hid (Bo u435q (u15q.heap.size + 1) [.int .i64 (c1), .int .i64 (y1)]) := h431q.out.later hb
      have h440q : Hid (Bo u435q u41q.heap.size [.int .i64 0, .int .i64 0]) := h432q.out.later hb
      have h441q : Hid (Bo u435q u389q.heap.size (wl wz)) := h433q.out.later hb
      clear h428q h429q h430q h431q h432q h433q
      clear hb
      go_wp2_with fail
      refine hK.out _ _ h437q.out (fun hH => ?_)
      clear hK K
      try simp only [Act.put, List.setIfInBounds_toArray, List.set_cons_zero, List.set_cons_succ]
      refine wpAnyH_take (i := 6) (oi := { dst := some 38, op := .move (.tmp 44), type := _, pos := _, after := _, guard := _ }) (v := ?_) rfl (by kernel_rfl) (by kernel_rfl) (by kernel_rfl) (fun _ _ _ h => h) (Or.inl ⟨by rfl, ?_⟩) hH ?_
      rotate_left
      · intro w hSw
        clear hSw
        go_simp
        try with_reducible rfl
      simp only [Act.put, List.setIfInBounds_toArray, List.set_cons_zero, List.set_cons_succ]
      refine wpAnyH_take (i := 7) (oi := { dst := some 45, op := .extract (.tmp 38) 0, type := _, pos := _, after := _, guard := _ }) (v := ?_) rfl (by kernel_rfl) (by kernel_rfl) (by kernel_rfl) (fun _ _ _ h => h) (Or.inl ⟨by rfl, ?_⟩) hH ?_
      rotate_left
      · intro w hSw
        clear hSw
        go_simp
        try with_reducible rfl
      simp only [Act.put, List.setIfInBounds_toArray, List.set_cons_zero, List.set_cons_succ]
      refine wpAnyH_take (i := 8) (oi := { dst := some 46, op := .extract (.tmp 38) 1, type := _, pos := _, after := _, guard := _ }) (v := ?_) rfl (by kernel_rfl) (by kernel_rfl) (by kernel_rfl) (fun _ _ _ h => h) (Or.inl ⟨by rfl, ?_⟩) hH ?_
      rotate_left
      · intro w hSw
        clear hSw
        go_simp
        try with_reducible rfl
      simp only [Act.put, List.setIfInBounds_toArray, List.set_cons_zero, List.set_cons_succ]
      refine wpAnyH_take (i := 9) (oi := { dst := some 47, op := .extract (.tmp 38) 2, type := _, pos := _, after := _, guard := _ }) (v := ?_) rfl (by kernel_rfl) (by kernel_rfl) (by kernel_rfl) (fun _ _ _ h => h) (Or.inl ⟨by rfl, ?_⟩) hH ?_
      rotate_left
      · intro w hSw
        clear hSw
        go_simp
        try with_reducible rfl
      simp only [Act.put, List.setIfInBounds_toArray, List.set_cons_zero, List.set_cons_succ]
      refine wpAnyH_ready (rs := [12]) (by kernel_rfl) (by simp) ?_
      refine AllReadyH.cons (o := { dst := none, op := .store _ (.tmp 13) (.tmp 45), type := _, pos := _, after := _, guard := _ }) rfl (fun K hK => ?_) AllReadyH.nil
      rw [if_pos (by rfl)]
      refine wp_store_mid _ _ _ rfl u389q.heap.size _ (wl u2).toArray rfl rfl (h441q.out.thereW u2) (HCZ.out u2) (wl_all u2) ?_
      simp only [Act.put]
      have h442q : Hid (Gd n w (u435q.setCells u389q.heap.size 0 (wl u2))) := h436q.out.asideL (by omega) 0 (wl u2)
      have h443q : Hid (Bo (u435q.setCells u389q.heap.size 0 (wl u2)) u4q.heap.size (wl c)) := h437q.out.asideL (by omega) 0 (wl u2)
      have h444q : Hid (Bo (u435q.setCells u389q.heap.size 0 (wl u2)) u15q.heap.size (wl u1)) := h438q.out.asideL (by omega) 0 (wl u2)
      have h445q : Hid (Bo (u435q.setCells u389q.heap.size 0 (wl u2)) (u15q.heap.size + 1) [.int .i64 (c1), .int .i64 (y1)]) := h439q.out.asideL (by omega) 0 (wl u2)
      have h446q : Hid (Bo (u435q.setCells u389q.heap.size 0 (wl u2)) u41q.heap.size [.int .i64 0, .int .i64 0]) := h440q.out.asideL (by omega) 0 (wl u2)
      have h447q : Hid (Bo (u435q.setCells u389q.heap.size 0 (wl u2)) u389q.heap.size (wl u2)) := h441q.out.setW u2
      clear h436q h437q h438q h439q h440q h441q
      refine hK.out _ _ h443q.out (fun hH => ?_)
      clear hK K
      generalize (u435q.setCells u389q.heap.size 0 (wl u2)) = u448q at h442q h443q h444q h445q h446q h447q hH ⊢
      try simp only [Act.put, List.setIfInBounds_toArray, List.set_cons_zero, List.set_cons_succ]
      refine wpAnyH_ready (rs := [13]) (by kernel_rfl) (by simp) ?_
      refine AllReadyH.cons (o := { dst := none, op := .store _ (.tmp 14) (.tmp 46), type := _, pos := _, after := _, guard := _ }) rfl (fun K hK => ?_) AllReadyH.nil
      rw [if_pos (by rfl)]
      refine wp_store_mid _ _ _ rfl u41q.heap.size _ #[.int .i64 (c2), .int .i64 (y2)] rfl rfl h446q.out.there2 HA.out (two_one _ _) ?_
      simp only [Act.put]
      have h449q : Hid (Gd n w (u448q.setCells u41q.heap.size 0 [.int .i64 (c2), .int .i64 (y2)])) := h442q.out.asideL (by omega) 0 [.int .i64 (c2), .int .i64 (y2)]
      have h450q : Hid (Bo (u448q.setCells u41q.heap.size 0 [.int .i64 (c2), .int .i64 (y2)]) u4q.heap.size (wl c)) := h443q.out.asideL (by omega) 0 [.int .i64 (c2), .int .i64 (y2)]
      have h451q : Hid (Bo (u448q.setCells u41q.heap.size 0 [.int .i64 (c2), .int .i64 (y2)]) u15q.heap.size (wl u1)) := h444q.out.asideL (by omega) 0 [.int .i64 (c2), .int .i64 (y2)]
      have h452q : Hid (Bo (u448q.setCells u41q.heap.size 0 [.int .i64 (c2), .int .i64 (y2)]) (u15q.heap.size + 1) [.int .i64 (c1), .int .i64 (y1)]) := h445q.out.asideL (by omega) 0 [.int .i64 (c2), .int .i64 (y2)]
      have h453q : Hid (Bo (u448q.setCells u41q.heap.size 0 [.int .i64 (c2), .int .i64 (y2)]) u41q.heap.size [.int .i64 (c2), .int .i64 (y2)]) := h446q.out.set2 (.int .i64 (c2)) (.int .i64 (y2))
      have h454q : Hid (Bo (u448q.setCells u41q.heap.size 0 [.int .i64 (c2), .int .i64 (y2)]) u389q.heap.size (wl u2)) := h447q.out.asideL (by omega) 0 [.int .i64 (c2), .int .i64 (y2)]
      clear h442q h443q h444q h445q h446q h447q
      refine hK.out _ _ h450q.out (fun hH => ?_)
      clear hK K
      generalize (u448q.setCells u41q.heap.size 0 [.int .i64 (c2), .int .i64 (y2)]) = u455q at h449q h450q h451q h452q h453q h454q hH ⊢
      try simp only [Act.put, List.setIfInBounds_toArray, List.set_cons_zero, List.set_cons_succ]
      refine wpAnyH_take (i := 14) (oi := { dst := some 15, op := .assign (.tmp 47), type := _, pos := _, after := _, guard := _ }) (v := ?_) rfl (by kernel_rfl) (by kernel_rfl) (by kernel_rfl) (fun _ _ _ h => h) (Or.inl ⟨by rfl, ?_⟩) hH ?_
      rotate_left
      · intro w hSw
        clear hSw
        go_simp
        try with_reducible rfl
      simp only [Act.put, List.setIfInBounds_toArray, List.set_cons_zero, List.set_cons_succ]
      refine wpAnyH_done (by kernel_rfl) ?_ _
      go_wp2_with fail
      go_meet
      case rel => exact ⟨u389q.heap.size, u41q.heap.size, rfl, rfl, rfl, h449q, h452q, h453q⟩
    refine AllReadyH.cons (o := { dst := some 13, op := .alloc _, type := _, pos := _, after := _, guard := _ }) rfl (fun K hK => ?_) AllReadyH.nil
    have l456q : n ≤ u389q.heap.size := h384q.out.le
    have l457q : u4q.heap.size < u389q.heap.size := h385q.out.lt
    have l458q : u15q.heap.size < u389q.heap.size := h386q.out.lt
    have l459q : (u15q.heap.size + 1) < u389q.heap.size := h387q.out.lt
    have l460q : u41q.heap.size < u389q.heap.size := h388q.out.lt
    go_simp
    have h461q : Hid (Gd n w (u389q.alloc (.cells #[.int .u64 0, .int .u64 0, .int .u64 0, .int .u64 0, .int .u64 0, .int .u64 0, .int .u64 0, .int .u64 0, .int .u64 0, .int .u64 0, .int .u64 0, .int .u64 0, .int .u64 0, .int .u64 0, .int .u64 0, .int .u64 0, .int .u64 0] 27))) := h384q.out.new (.cells #[.int .u64 0, .int .u64 0, .int .u64 0, .int .u64 0, .int .u64 0, .int .u64 0, .int .u64 0, .int .u64 0, .int .u64 0, .int .u64 0, .int .u64 0, .int .u64 0, .int .u64 0, .int .u64 0, .int .u64 0, .int .u64 0, .int .u64 0] 27)
    have h462q : Hid (Bo (u389q.alloc (.cells #[.int .u64 0, .int .u64 0, .int .u64 0, .int .u64 0, .int .u64 0, .int .u64 0, .int .u64 0, .int .u64 0, .int .u64 0, .int .u64 0, .int .u64 0, .int .u64 0, .int .u64 0, .int .u64 0, .int .u64 0, .int .u64 0, .int .u64 0] 27)) u4q.heap.size (wl c)) := h385q.out.new (.cells #[.int .u64 0, .int .u64 0, .int .u64 0, .int .u64 0, .int .u64 0, .int .u64 0, .int .u64 0, .int .u64 0, .int .u64 0, .int .u64 0, .int .u64 0, .int .u64 0, .int .u64 0, .int .u64 0, .int .u64 0, .int .u64 0, .int .u64 0] 27)
    have h463q : Hid (Bo (u389q.alloc (.cells #[.int .u64 0, .int .u64 0, .int .u64 0, .int .u64 0, .int .u64 0, .int .u64 0, .int .u64 0, .int .u64 0, .int .u64 0, .int .u64 0, .int .u64 0, .int .u64 0, .int .u64 0, .int .u64 0, .int .u64 0, .int .u64 0, .int .u64 0] 27)) u15q.heap.size (wl u1)) := h386q.out.new (.cells #[.int .u64 0, .int .u64 0, .int .u64 0, .int .u64 0, .int .u64 0, .int .u64 0, .int .u64 0, .int .u64 0, .int .u64 0, .int .u64 0, .int .u64 0, .int .u64 0, .int .u64 0, .int .u64 0, .int .u64 0, .int .u64 0, .int .u64 0] 27)
    have h464q : Hid (Bo (u389q.alloc (.cells #[.int .u64 0, .int .u64 0, .int .u64 0, .int .u64 0, .int .u64 0, .int .u64 0, .int .u64 0, .int .u64 0, .int .u64 0, .int .u64 0, .int .u64 0, .int .u64 0, .int .u64 0, .int .u64 0, .int .u64 0, .int .u64 0, .int .u64 0] 27)) (u15q.heap.size + 1) [.int .i64 (c1), .int .i64 (y1)]) := h387q.out.new (.cells #[.int .u64 0, .int .u64 0, .int .u64 0, .int .u64 0, .int .u64 0, .int .u64 0, .int .u64 0, .int .u64 0, .int .u64 0, .int .u64 0, .int .u64 0, .int .u64 0, .int .u64 0, .int .u64 0, .int .u64 0, .int .u64 0, .int .u64 0] 27)
    have h465q : Hid (Bo (u389q.alloc (.cells #[.int .u64 0, .int .u64 0, .int .u64 0, .int .u64 0, .int .u64 0, .int .u64 0, .int .u64 0, .int .u64 0, .int .u64 0, .int .u64 0, .int .u64 0, .int .u64 0, .int .u64 0, .int .u64 0, .int .u64 0, .int .u64 0, .int .u64 0] 27)) u41q.heap.size [.int .i64 0, .int .i64 0]) := h388q.out.new (.cells #[.int .u64 0, .int .u64 0, .int .u64 0, .int .u64 0, .int .u64 0, .int .u64 0, .int .u64 0, .int .u64 0, .int .u64 0, .int .u64 0, .int .u64 0, .int .u64 0, .int .u64 0, .int .u64 0, .int .u64 0, .int .u64 0, .int .u64 0] 27)
    clear h384q h385q h386q h387q h388q
    have h466q : Hid (Bo (u389q.alloc (.cells #[.int .u64 0, .int .u64 0, .int .u64 0, .int .u64 0, .int .u64 0, .int .u64 0, .int .u64 0, .int .u64 0, .int .u64 0, .int .u64 0, .int .u64 0, .int .u64 0, .int .u64 0, .int .u64 0, .int .u64 0, .int .u64 0, .int .u64 0] 27)) u389q.heap.size (wl wz)) := Bo.born u389q (wl wz) 27 (by simp)
    refine hK.out _ _ h462q.out (fun hH => ?_)
    clear hK K
    generalize (u389q.alloc (.cells #[.int .u64 0, .int .u64 0, .int .u64 0, .int .u64 0, .int .u64 0, .int .u64 0, .int .u64 0, .int .u64 0, .int .u64 0, .int .u64 0, .int .u64 0, .int .u64 0, .int .u64 0, .int .u64 0, .int .u64 0, .int .u64 0, .int .u64 0] 27)) = u467q at h461q h462q h463q h464q h465q h466q hH ⊢
    try simp only [Act.put, List.setIfInBounds_toArray, List.set_cons_zero, List.set_cons_succ]
    refine wpAnyH_ready (rs := [3]) (by kernel_rfl) (by simp) ?_
    refine AllReadyH.cons (o := { dst := some 42, op := _, type := _, pos := _, after := _, guard := _ }) rfl (fun K hK => ?_) AllReadyH.nil
    go_simp
    refine (PV.out _).mono ?_
    rintro e u468q ⟨rfl, hw⟩
    rw [hw]; clear hw u468q
    go_wp2_with fail
    refine hK.out _ _ h462q.out (fun hH => ?_)
    clear hK K
    try simp only [Act.put, List.setIfInBounds_toArray, List.set_cons_zero, List.set_cons_succ]
    refine wpAnyH_take (i := 4) (oi := { dst := some 43, op := .build _ #[(0, .const (.int .i64 1)), (2, .tmp 42)], type := _, pos := _, after := _, guard := _ }) (v := ?_) rfl (by kernel_rfl) (by kernel_rfl) (by kernel_rfl) (fun _ _ _ h => h) (Or.inl ⟨by rfl, ?_⟩) hH ?_
    rotate_left
    · intro w hSw
      clear hSw
      go_simp
      try with_reducible rfl
    simp only [Act.put, List.setIfInBounds_toArray, List.set_cons_zero, List.set_cons_succ]
    refine wpAnyH_ready (rs := [5]) (by kernel_rfl) (by simp) ?_
    refine AllReadyH.cons (o := { dst := some 44, op := _, type := _, pos := _, after := _, guard := _ }) rfl (fun K hK => ?_) AllReadyH.nil
    go_simp
    refine (DP.out _).mono ?_
    rintro e u469q ⟨rfl, hb⟩
    have h470q : Hid (Gd n w u469q) := h461q.out.later hb
    have h471q : Hid (Bo u469q u4q.heap.size (wl c)) := h462q.out.later hb
    have h472q : Hid (Bo u469q u15q.heap.size (wl u1)) := h463q.out.later hb
    have h473q : Hid (Bo u469q (u15q.heap.size + 1) [.int .i64 (c1), .int .i64 (y1)]) := h464q.out.later hb
    have h474q : Hid (Bo u469q u41q.heap.size [.int .i64 0, .int .i64 0]) := h465q.out.later hb
    have h475q : Hid (Bo u469q u389q.heap.size (wl wz)) := h466q.out.later hb
    clear h461q h462q h463q h464q h465q h466q
    clear hb
    go_wp2_with fail
    refine hK.out _ _ h471q.out (fun hH => ?_)
    clear hK K
    try simp only [Act.put, List.setIfInBounds_toArray, List.set_cons_zero, List.set_cons_succ]
    refine wpAnyH_take (i := 6) (oi := { dst := some 38, op := .move (.tmp 44), type := _, pos := _, after := _, guard := _ }) (v := ?_) rfl (by kernel_rfl) (by kernel_rfl) (by kernel_rfl) (fun _ _ _ h => h) (Or.inl ⟨by rfl, ?_⟩) hH ?_
    rotate_left
    · intro w hSw
      clear hSw
      go_simp
      try with_reducible rfl
    simp only [Act.put, List.setIfInBounds_toArray, List.set_cons_zero, List.set_cons_succ]
    refine wpAnyH_take (i := 7) (oi := { dst := some 45, op := .extract (.tmp 38) 0, type := _, pos := _, after := _, guard := _ }) (v := ?_) rfl (by kernel_rfl) (by kernel_rfl) (by kernel_rfl) (fun _ _ _ h => h) (Or.inl ⟨by rfl, ?_⟩) hH ?_
    rotate_left
    · intro w hSw
      clear hSw
      go_simp
      try with_reducible rfl
    simp only [Act.put, List.setIfInBounds_toArray, List.set_cons_zero, List.set_cons_succ]
    refine wpAnyH_take (i := 8) (oi := { dst := some 46, op := .extract (.tmp 38) 1, type := _, pos := _, after := _, guard := _ }) (v := ?_) rfl (by kernel_rfl) (by kernel_rfl) (by kernel_rfl) (fun _ _ _ h => h) (Or.inl ⟨by rfl, ?_⟩) hH ?_
    rotate_left
    · intro w hSw
      clear hSw
      go_simp
      try with_reducible rfl
    simp only [Act.put, List.setIfInBounds_toArray, List.set_cons_zero, List.set_cons_succ]
    refine wpAnyH_take (i := 9) (oi := { dst := some 47, op := .extract (.tmp 38) 2, type := _, pos := _, after := _, guard := _ }) (v := ?_) rfl (by kernel_rfl) (by kernel_rfl) (by kernel_rfl) (fun _ _ _ h => h) (Or.inl ⟨by rfl, ?_⟩) hH ?_
    rotate_left
    · intro w hSw
      clear hSw
      go_simp
      try with_reducible rfl
    simp only [Act.put, List.setIfInBounds_toArray, List.set_cons_zero, List.set_cons_succ]
    refine wpAnyH_ready (rs := [12]) (by kernel_rfl) (by simp) ?_
    refine AllReadyH.cons (o := { dst := none, op := .store _ (.tmp 13) (.tmp 45), type := _, pos := _, after := _, guard := _ }) rfl (fun K hK => ?_) AllReadyH.nil
    rw [if_pos (by rfl)]
    refine wp_store_mid _ _ _ rfl u389q.heap.size _ (wl u2).toArray rfl rfl (h475q.out.thereW u2) (HCZ.out u2) (wl_all u2) ?_
    simp only [Act.put]
    have h476q : Hid (Gd n w (u469q.setCells u389q.heap.size 0 (wl u2))) := h470q.out.asideL (by omega) 0 (wl u2)
    have h477q : Hid (Bo (u469q.setCells u389q.heap.size 0 (wl u2)) u4q.heap.size (wl c)) := h471q.out.asideL (by omega) 0 (wl u2)
    have h478q : Hid (Bo (u469q.setCells u389q.heap.size 0 (wl u2)) u15q.heap.size (wl u1)) := h472q.out.asideL (by omega) 0 (wl u2)
    have h479q : Hid (Bo (u469q.setCells u389q.heap.size 0 (wl u2)) (u15q.heap.size + 1) [.int .i64 (c1), .int .i64 (y1)]) := h473q.out.asideL (by omega) 0 (wl u2)
    have h480q : Hid (Bo (u469q.setCells u389q.heap.size 0 (wl u2)) u41q.heap.size [.int .i64 0, .int .i64 0]) := h474q.out.asideL (by omega) 0 (wl u2)
    have h481q : Hid (Bo (u469q.setCells u389q.heap.size 0 (wl u2)) u389q.heap.size (wl u2)) := h475q.out.setW u2
    clear h470q h471q h472q h473q h474q h475q
    refine hK.out _ _ h477q.out (fun hH => ?_)
    clear hK K
    generalize (u469q.setCells u389q.heap.size 0 (wl u2)) = u482q at h476q h477q h478q h479q h480q h481q hH ⊢
    try simp only [Act.put, List.setIfInBounds_toArray, List.set_cons_zero, List.set_cons_succ]
    refine wpAnyH_ready (rs := [13]) (by kernel_rfl) (by simp) ?_
    refine AllReadyH.cons (o := { dst := none, op := .store _ (.tmp 14) (.tmp 46), type := _, pos := _, after := _, guard := _ }) rfl (fun K hK => ?_) AllReadyH.nil
    rw [if_pos (by rfl)]
    refine wp_store_mid _ _ _ rfl u41q.heap.size _ #[.int .i64 (c2), .int .i64 (y2)] rfl rfl h480q.out.there2 HA.out (two_one _ _) ?_
    simp only [Act.put]
    have h483q : Hid (Gd n w (u482q.setCells u41q.heap.size 0 [.int .i64 (c2), .int .i64 (y2)])) := h476q.out.asideL (by omega) 0 [.int .i64 (c2), .int .i64 (y2)]
    have h484q : Hid (Bo (u482q.setCells u41q.heap.size 0 [.int .i64 (c2), .int .i64 (y2)]) u4q.heap.size (wl c)) := h477q.out.asideL (by omega) 0 [.int .i64 (c2), .int .i64 (y2)]
    have h485q : Hid (Bo (u482q.setCells u41q.heap.size 0 [.int .i64 (c2), .int .i64 (y2)]) u15q.heap.size (wl u1)) := h478q.out.asideL (by omega) 0 [.int .i64 (c2), .int .i64 (y2)]
    have h486q : Hid (Bo (u482q.setCells u41q.heap.size 0 [.int .i64 (c2), .int .i64 (y2)]) (u15q.heap.size + 1) [.int .i64 (c1), .int .i64 (y1)]) := h479q.out.asideL (by omega) 0 [.int .i64 (c2), .int .i64 (y2)]
    have h487q : Hid (Bo (u482q.setCells u41q.heap.size 0 [.int .i64 (c2), .int .i64 (y2)]) u41q.heap.size [.int .i64 (c2), .int .i64 (y2)]) := h480q.out.set2 (.int .i64 (c2)) (.int .i64 (y2))
    have h488q : Hid (Bo (u482q.setCells u41q.heap.size 0 [.int .i64 (c2), .int .i64 (y2)]) u389q.heap.size (wl u2)) := h481q.out.asideL (by omega) 0 [.int .i64 (c2), .int .i64 (y2)]
    clear h476q h477q h478q h479q h480q h481q
    refine hK.out _ _ h484q.out (fun hH => ?_)
    clear hK K
    generalize (u482q.setCells u41q.heap.size 0 [.int .i64 (c2), .int .i64 (y2)]) = u489q at h483q h484q h485q h486q h487q h488q hH ⊢
    try simp only [Act.put, List.setIfInBounds_toArray, List.set_cons_zero, List.set_cons_succ]
    refine wpAnyH_take (i := 14) (oi := { dst := some 15, op := .assign (.tmp 47), type := _, pos := _, after := _, guard := _ }) (v := ?_) rfl (by kernel_rfl) (by kernel_rfl) (by kernel_rfl) (fun _ _ _ h => h) (Or.inl ⟨by rfl, ?_⟩) hH ?_
    rotate_left
    · intro w hSw
      clear hSw
      go_simp
      try with_reducible rfl
    simp only [Act.put, List.setIfInBounds_toArray, List.set_cons_zero, List.set_cons_succ]
    refine wpAnyH_done (by kernel_rfl) ?_ _
    go_wp2_with fail
    go_meet
    case rel => exact ⟨u389q.heap.size, u41q.heap.size, rfl, rfl, rfl, h483q, h486q, h487q⟩
  case rest =>
    obtain ⟨b_y, b_b, rfl, rfl, rfl, h490q, h491q, h492q⟩ := hcut
    obtain ⟨T1, T2, b1⟩ := TT.out
    clear TT
    by_cases z0 : z = 0
    · obtain rfl : c1 = 2 := by omega
      obtain rfl : c2 = 1 := by omega
      clear T1 T2 b1
      subst z0
      have c493q := h491q.out.at 0 rfl
      have c494q := h491q.out.at 1 rfl
      have c495q := h492q.out.at 0 rfl
      have c496q := h492q.out.at 1 rfl
      go_wp2
      go_ret
      exact ⟨rfl, by first | exact h490q.out.low | exact h490q.out.2⟩
    · obtain rfl : c1 = 1 := by omega
      by_cases z6 : z = 6
      · obtain rfl : c2 = 3 := by omega
        clear T1 T2 b1 z0
        subst z6
        have c497q := h491q.out.at 0 rfl
        have c498q := h491q.out.at 1 rfl
        have c499q := h492q.out.at 0 rfl
        have c500q := h492q.out.at 1 rfl
        go_wp2
        go_ret
        exact ⟨rfl, by first | exact h490q.out.low | exact h490q.out.2⟩
      · obtain rfl : c2 = 1 := by omega
        have m0 : (z == 0) = false := by simp [z0]
        have m6 : (z == 6) = false := by simp [z6]
        clear T1 T2 b1 z0 z6
        have c501q := h491q.out.at 0 rfl
        have c502q := h491q.out.at 1 rfl
        have c503q := h492q.out.at 0 rfl
        have c504q := h492q.out.at 1 rfl
        go_wp2
        go_ret
        exact ⟨rfl, by first | exact h490q.out.low | exact h490q.out.2⟩


set_option maxRecDepth 100000 in
theorem lifted (os : Os) (started : os.Started) (H : Type) (enc : TypeId × Value → H) :
    ReturnsInHanded {} Try.checked os 3 .any (Rows.objectEndsSpec.pre6 enc Try.prog Try.f3 Rows.objectEndsRow.domain false) (Rows.objectEndsSpec.post enc Try.prog Try.f3 false true false false) := by
  refine returnsInHanded_of_change (C := Try.checked) own started (by kernel_rfl) Try.func3
    (ChangeSpec.witness6 (enc := enc) (C := Try.checked) false ⟨#[], #[.int .i64 0, .slice none 0 0, .int .i64 0], []⟩ 8 (by kernel_rfl) (by kernel_rfl) (by kernel_rfl) (by kernel_rfl)) ?_
  intro W base args ds gs before hval0 hW hcnd _
  have hval : ∀ (j : Nat) t v, Try.f3.params[j]? = some t → args[j]? = some v → Value.okWide Try.prog W .any base t v := hval0
  have hW' := hW
  obtain ⟨p, q, hA0, hV, rfl, hfz, hnd⟩ := hW
  have hA : DataW.TrodAll enc Try.prog W 0 (fun _ => true) true Try.f3.params.toList args.toList ds p := hA0
  rw [Try.params3] at hA hval
  obtain ⟨v0, vs0, d0, ds0, p0, q0, hargs, rfl, rfl, h0, r0⟩ := trodAll_cons hA
  obtain ⟨v1, vs1, d1, ds1, p1, q1, rfl, rfl, rfl, h1, r1⟩ := trodAll_cons r0
  obtain ⟨v2, vs2, d2, ds2, p2, q2, rfl, rfl, rfl, h2, r2⟩ := trodAll_cons r1
  obtain ⟨rfl, rfl, rfl⟩ := trodAll_nil r2
  obtain rfl : args = #[v0, v1, v2] := by cases args; simp_all
  obtain ⟨rfl, rfl⟩ := trodVars_none hV
  obtain ⟨a0, rfl, rfl, rfl, w0⟩ := open_int Try.underlying3 (hval 0 3 v0 rfl rfl) h0
  obtain ⟨n1, D1⟩ := ops_of_trod (hval 1 22 v1 rfl rfl) h1
  obtain ⟨a2, rfl, rfl, rfl, w2⟩ := open_int Try.underlying3 (hval 2 3 v2 rfl rfl) h2
  have hlt := hW'.lt
  clear hA0 hval0
  refine (walk a0 v1 n1 a2 w0 w2 W  D1).mono fun e W' ⟨he, hg⟩ => ?_
  subst he
  exact ⟨_, rfl, post_below (pv := []) hW' (fun _ _ _ => (trodAll_cons_mk (shut_bool Try.underlying4 _) trodAll_mk0)) (fun sp hsp => (trodAll_cons_mk (shut_int Try.underlying3 w0) (trodAll_cons_mk (ops_stay h1 hg (fun x hx => hlt x (by simp [hx])) (fun x hx => hsp x (by simp [hx]))) (trodAll_cons_mk (shut_int Try.underlying3 w2) trodAll_mk0)))) (fun _ _ => rfl) (by simp) (hg.frame _)⟩

theorem over : Rows.objectEndsRow.holds Try.pinned (OpenSpec.ofChange Rows.objectEndsSpec) :=
  OpenClaim.holds_of_wide 3 Try.f3 rfl rfl rfl rfl rfl rfl rfl ⟨rfl, rfl, rfl, rfl, rfl⟩ rfl rfl rfl rfl rfl (by kernel_rfl) Try.func3 (by kernel_rfl)
    (of_decide_eq_true (by kernel_rfl)) (by unfold Func.isWrapper; first | (rw [if_pos (by decide +kernel)]; kernel_rfl) | (rw [if_neg (by decide +kernel)]; exact ⟨rfl, rfl⟩))
    (fun os started H enc _ => lifted os started H enc)

theorem proved : Rows.ObjectEndsSaid :=
  over
#print axioms proved
end Go.Proofs.Ytbmgjpdfmgcigac.Tab.objectEnds
