/- ObjectStays is proved: for every number of a kind, every list of operations and every operation the call returns true (an object stays one, whatever is done; what is not Done changes nothing; what is looked at, neither). -/
import Derived.Test.YtbmgjpdfmgcigabRows
import Derived.Test.YtbmgjpdfmgcigabKm
import Derived.Test.YtbmgjpdfmgcigabKs
import Derived.Test.YtbmgjpdfmgcigabFt
import Derived.Test.YtbmgjpdfmgcigabArgOps
import Derived.Test.YtbmgjpdfmgcigabArgOp
import Derived.Deep.DeepCutAuto
import Derived.Deep.RegionHeld3

namespace Go.Proofs.Ytbmgjpdfmgcigab.Tab.objectStays
open Go.ChangeShapes Go.WideShapes Go.ChangeAt Go.RowKit
set_option linter.unusedVariables false

theorem own : ownKnob Try.prog.godebug = none := by kernel_rfl

set_option maxHeartbeats 4000000 in
set_option maxRecDepth 20000 in
theorem walk (a0 : Int) (v1 : Value) (n1 : Nat) (o k x : Int) (w0 : (Lit.int .i64 a0).wf = true) (wa2 : (Lit.int .i64 o).wf = true) (wb2 : (Lit.int .i64 k).wf = true) (wc2 : (Lit.int .i64 x).wf = true) (w : World) (D : Ops w v1 n1) :
    Calls Try.prog 3 #[.int .i64 a0, v1, .agg #[.int .i64 o, .int .i64 k, .int .i64 x]] w (fun e w' => e = .returned (.bool true) ∧ Below w.heap.size w w') := by
  have HA : Hid ((Try.prog.info? 32).map (·.size) = some 2) := answer_sz
  obtain ⟨fs, ha⟩ := answer_st
  have HDA : Hid _ := ha
  clear ha
  obtain ⟨nb, eb, hd⟩ := cells_array
  have HC : Hid _ := hd
  clear hd
  have HCS : Hid _ := cells_size
  have HCZ : Hid _ := cells_size2
  have g0 : Hid (Gd w.heap.size w w) := Gd.refl w
  have h1q : Hid (Gd w.heap.size w (w.alloc (.cells #[.int .i64 o, .int .i64 k, .int .i64 x] 24))) := g0.out.new (.cells #[.int .i64 o, .int .i64 k, .int .i64 x] 24)
  clear g0
  have h2q : Hid (Bo (w.alloc (.cells #[.int .i64 o, .int .i64 k, .int .i64 x] 24)) w.heap.size [.int .i64 o, .int .i64 k, .int .i64 x]) := Bo.born w [.int .i64 o, .int .i64 k, .int .i64 x] 24 (by simp)
  have D1 : Hid (Ops w v1 n1) := D
  clear D
  clear w0 wa2 wb2 wc2
  have TH : Hid (∀ w : World, _) := fun w => things_is w
  obtain ⟨r, hr1, hr6, hko⟩ := kindOf_is a0
  have KO : Hid _ := hko
  clear hko
  have EZ := cells_zero
  have EE := cells_equal
  by_cases hR : Rt o k x
  · go_enter Try.func3, Try.ntmps3
    go_wp2_with fail
    refine (TH.out _).mono ?_
    rintro e u3q ⟨rfl, hb⟩
    have h4q : Hid (Gd w.heap.size w u3q) := h1q.out.later hb
    have h5q : Hid (Bo u3q w.heap.size [.int .i64 o, .int .i64 k, .int .i64 x]) := h2q.out.later hb
    clear h1q h2q
    clear hb
    go_wp2_with fail
    refine (KO.out _).mono ?_
    rintro e u6q ⟨rfl, hw⟩
    rw [hw]; clear hw u6q
    go_wp2_with fail
    refine (made_is (kind := (r : Nat)) (by omega) (by omega) (Ops.later (v := v1) (n := n1) D1.out h4q.out.2)).mono ?_
    rintro e u7q ⟨c, hO, rfl, hb⟩
    have h8q : Hid (Gd w.heap.size w u7q) := h4q.out.later hb
    have h9q : Hid (Bo u7q w.heap.size [.int .i64 o, .int .i64 k, .int .i64 x]) := h5q.out.later hb
    clear h4q h5q
    clear hb
    have HO : Hid _ := hO
    clear hO
    generalize hsz : w.heap.size = n at h8q h9q  ⊢
    have HSZ : Hid (w.heap.size = n) := hsz
    clear hsz
    have l10q : n ≤ u7q.heap.size := h8q.out.le
    have l11q : n < u7q.heap.size := h9q.out.lt
    have h12q : Hid (Gd n w (u7q.alloc (.cells #[.int .u64 0, .int .u64 0, .int .u64 0, .int .u64 0, .int .u64 0, .int .u64 0, .int .u64 0, .int .u64 0, .int .u64 0, .int .u64 0, .int .u64 0, .int .u64 0, .int .u64 0, .int .u64 0, .int .u64 0, .int .u64 0, .int .u64 0] 29))) := h8q.out.new (.cells #[.int .u64 0, .int .u64 0, .int .u64 0, .int .u64 0, .int .u64 0, .int .u64 0, .int .u64 0, .int .u64 0, .int .u64 0, .int .u64 0, .int .u64 0, .int .u64 0, .int .u64 0, .int .u64 0, .int .u64 0, .int .u64 0, .int .u64 0] 29)
    have h13q : Hid (Bo (u7q.alloc (.cells #[.int .u64 0, .int .u64 0, .int .u64 0, .int .u64 0, .int .u64 0, .int .u64 0, .int .u64 0, .int .u64 0, .int .u64 0, .int .u64 0, .int .u64 0, .int .u64 0, .int .u64 0, .int .u64 0, .int .u64 0, .int .u64 0, .int .u64 0] 29)) n [.int .i64 o, .int .i64 k, .int .i64 x]) := h9q.out.new (.cells #[.int .u64 0, .int .u64 0, .int .u64 0, .int .u64 0, .int .u64 0, .int .u64 0, .int .u64 0, .int .u64 0, .int .u64 0, .int .u64 0, .int .u64 0, .int .u64 0, .int .u64 0, .int .u64 0, .int .u64 0, .int .u64 0, .int .u64 0] 29)
    clear h8q h9q
    have h14q : Hid (Bo (u7q.alloc (.cells #[.int .u64 0, .int .u64 0, .int .u64 0, .int .u64 0, .int .u64 0, .int .u64 0, .int .u64 0, .int .u64 0, .int .u64 0, .int .u64 0, .int .u64 0, .int .u64 0, .int .u64 0, .int .u64 0, .int .u64 0, .int .u64 0, .int .u64 0] 29)) u7q.heap.size (wl wz)) := Bo.born u7q (wl wz) 29 (by simp)
    obtain ⟨⟨u, cc, yy⟩, hu⟩ : ∃ r9, odo (r : Nat) c o k x = r9 := ⟨_, rfl⟩
    have DO : Hid (∀ w, Calls Try.prog 10 #[.int .i64 (r : Nat), .agg (wl c).toArray, .agg #[.int .i64 o, .int .i64 k, .int .i64 x]] w (DidD w u cc yy)) := fun w => by have := obDo_is HO.out hR w; rw [hu] at this; exact this
    have f : OF (r : Nat) c o k x (u, cc, yy) := by have := odo_facts HO.out hR.w1 hR.w6 hR.k0 hR.k1 hR.v0 hR.v1; rw [hu] at this; exact this
    clear hu
    have RC : Hid (∀ w, Calls Try.prog 12 #[.int .i64 (r : Nat), .agg (wl c).toArray] w _) := fun w => obRight_is (v := true) ⟨fun _ => HO.out, fun _ => rfl⟩ w
    have RU : Hid (∀ w, Calls Try.prog 12 #[.int .i64 (r : Nat), .agg (wl u).toArray] w _) := fun w => obRight_is (v := true) ⟨fun _ => f.ob, fun _ => rfl⟩ w
    have FI : Hid (∀ w : World, _) := fun w => Fits_is f.code.1 f.code.2 f.told.1 f.told.2 f.zero w
    dsimp only at FI
    have SM : Hid _ := f.same
    clear f hR
    by_cases e5 : o = 5
    · subst e5
      by_cases hcc : cc = 1
      · subst hcc
        have hs : wl u = wl c := SM.out (Or.inr (Or.inl rfl))
        unfold DidD at DO
        rw [hs] at DO RU
        clear hs
        clear SM
        go_wp2_with (first
          | (refine wpList_store_mid rfl 29 _ _ rfl u7q.heap.size _ (wl c).toArray rfl rfl (h14q.out.thereW c) (HCZ.out c) (wl_all c) ?_
             have h15q : Hid (Gd n w ((u7q.alloc (.cells #[.int .u64 0, .int .u64 0, .int .u64 0, .int .u64 0, .int .u64 0, .int .u64 0, .int .u64 0, .int .u64 0, .int .u64 0, .int .u64 0, .int .u64 0, .int .u64 0, .int .u64 0, .int .u64 0, .int .u64 0, .int .u64 0, .int .u64 0] 29)).setCells u7q.heap.size 0 (wl c))) := h12q.out.asideL (by omega) 0 (wl c)
             have h16q : Hid (Bo ((u7q.alloc (.cells #[.int .u64 0, .int .u64 0, .int .u64 0, .int .u64 0, .int .u64 0, .int .u64 0, .int .u64 0, .int .u64 0, .int .u64 0, .int .u64 0, .int .u64 0, .int .u64 0, .int .u64 0, .int .u64 0, .int .u64 0, .int .u64 0, .int .u64 0] 29)).setCells u7q.heap.size 0 (wl c)) n [.int .i64 5, .int .i64 k, .int .i64 x]) := h13q.out.asideL (by omega) 0 (wl c)
             have h17q : Hid (Bo ((u7q.alloc (.cells #[.int .u64 0, .int .u64 0, .int .u64 0, .int .u64 0, .int .u64 0, .int .u64 0, .int .u64 0, .int .u64 0, .int .u64 0, .int .u64 0, .int .u64 0, .int .u64 0, .int .u64 0, .int .u64 0, .int .u64 0, .int .u64 0, .int .u64 0] 29)).setCells u7q.heap.size 0 (wl c)) u7q.heap.size (wl c)) := h14q.out.setW c
             clear h12q h13q h14q
             generalize ((u7q.alloc (.cells #[.int .u64 0, .int .u64 0, .int .u64 0, .int .u64 0, .int .u64 0, .int .u64 0, .int .u64 0, .int .u64 0, .int .u64 0, .int .u64 0, .int .u64 0, .int .u64 0, .int .u64 0, .int .u64 0, .int .u64 0, .int .u64 0, .int .u64 0] 29)).setCells u7q.heap.size 0 (wl c)) = u18q at h15q h16q h17q  ⊢
             have c19q := h16q.out.at 0 rfl
             have c20q := h16q.out.at 1 rfl
             have c21q := h16q.out.at 2 rfl)
          | (refine wpList_load_mid rfl 29 _ rfl u7q.heap.size _ rfl (wl c) _ h17q.out.range HC.out rfl (HCS.out c) ?_))
        refine (DO.out _).mono ?_
        rintro e u22q ⟨rfl, hb⟩
        have h23q : Hid (Gd n w u22q) := h15q.out.later hb
        have h24q : Hid (Bo u22q n [.int .i64 5, .int .i64 k, .int .i64 x]) := h16q.out.later hb
        have h25q : Hid (Bo u22q u7q.heap.size (wl c)) := h17q.out.later hb
        clear h15q h16q h17q
        clear hb
        have l26q : n ≤ u22q.heap.size := h23q.out.le
        have l27q : n < u22q.heap.size := h24q.out.lt
        have l28q : u7q.heap.size < u22q.heap.size := h25q.out.lt
        have h29q : Hid (Gd n w (u22q.alloc (.cells #[.int .u64 0, .int .u64 0, .int .u64 0, .int .u64 0, .int .u64 0, .int .u64 0, .int .u64 0, .int .u64 0, .int .u64 0, .int .u64 0, .int .u64 0, .int .u64 0, .int .u64 0, .int .u64 0, .int .u64 0, .int .u64 0, .int .u64 0] 29))) := h23q.out.new (.cells #[.int .u64 0, .int .u64 0, .int .u64 0, .int .u64 0, .int .u64 0, .int .u64 0, .int .u64 0, .int .u64 0, .int .u64 0, .int .u64 0, .int .u64 0, .int .u64 0, .int .u64 0, .int .u64 0, .int .u64 0, .int .u64 0, .int .u64 0] 29)
        have h30q : Hid (Bo (u22q.alloc (.cells #[.int .u64 0, .int .u64 0, .int .u64 0, .int .u64 0, .int .u64 0, .int .u64 0, .int .u64 0, .int .u64 0, .int .u64 0, .int .u64 0, .int .u64 0, .int .u64 0, .int .u64 0, .int .u64 0, .int .u64 0, .int .u64 0, .int .u64 0] 29)) n [.int .i64 5, .int .i64 k, .int .i64 x]) := h24q.out.new (.cells #[.int .u64 0, .int .u64 0, .int .u64 0, .int .u64 0, .int .u64 0, .int .u64 0, .int .u64 0, .int .u64 0, .int .u64 0, .int .u64 0, .int .u64 0, .int .u64 0, .int .u64 0, .int .u64 0, .int .u64 0, .int .u64 0, .int .u64 0] 29)
        have h31q : Hid (Bo (u22q.alloc (.cells #[.int .u64 0, .int .u64 0, .int .u64 0, .int .u64 0, .int .u64 0, .int .u64 0, .int .u64 0, .int .u64 0, .int .u64 0, .int .u64 0, .int .u64 0, .int .u64 0, .int .u64 0, .int .u64 0, .int .u64 0, .int .u64 0, .int .u64 0] 29)) u7q.heap.size (wl c)) := h25q.out.new (.cells #[.int .u64 0, .int .u64 0, .int .u64 0, .int .u64 0, .int .u64 0, .int .u64 0, .int .u64 0, .int .u64 0, .int .u64 0, .int .u64 0, .int .u64 0, .int .u64 0, .int .u64 0, .int .u64 0, .int .u64 0, .int .u64 0, .int .u64 0] 29)
        clear h23q h24q h25q
        have h32q : Hid (Bo (u22q.alloc (.cells #[.int .u64 0, .int .u64 0, .int .u64 0, .int .u64 0, .int .u64 0, .int .u64 0, .int .u64 0, .int .u64 0, .int .u64 0, .int .u64 0, .int .u64 0, .int .u64 0, .int .u64 0, .int .u64 0, .int .u64 0, .int .u64 0, .int .u64 0] 29)) u22q.heap.size (wl wz)) := Bo.born u22q (wl wz) 29 (by simp)
        have h33q : Hid (Gd n w ((u22q.alloc (.cells #[.int .u64 0, .int .u64 0, .int .u64 0, .int .u64 0, .int .u64 0, .int .u64 0, .int .u64 0, .int .u64 0, .int .u64 0, .int .u64 0, .int .u64 0, .int .u64 0, .int .u64 0, .int .u64 0, .int .u64 0, .int .u64 0, .int .u64 0] 29)).alloc (.cells #[.int .i64 0, .int .i64 0] 32))) := h29q.out.new (.cells #[.int .i64 0, .int .i64 0] 32)
        have h34q : Hid (Bo ((u22q.alloc (.cells #[.int .u64 0, .int .u64 0, .int .u64 0, .int .u64 0, .int .u64 0, .int .u64 0, .int .u64 0, .int .u64 0, .int .u64 0, .int .u64 0, .int .u64 0, .int .u64 0, .int .u64 0, .int .u64 0, .int .u64 0, .int .u64 0, .int .u64 0] 29)).alloc (.cells #[.int .i64 0, .int .i64 0] 32)) n [.int .i64 5, .int .i64 k, .int .i64 x]) := h30q.out.new (.cells #[.int .i64 0, .int .i64 0] 32)
        have h35q : Hid (Bo ((u22q.alloc (.cells #[.int .u64 0, .int .u64 0, .int .u64 0, .int .u64 0, .int .u64 0, .int .u64 0, .int .u64 0, .int .u64 0, .int .u64 0, .int .u64 0, .int .u64 0, .int .u64 0, .int .u64 0, .int .u64 0, .int .u64 0, .int .u64 0, .int .u64 0] 29)).alloc (.cells #[.int .i64 0, .int .i64 0] 32)) u7q.heap.size (wl c)) := h31q.out.new (.cells #[.int .i64 0, .int .i64 0] 32)
        have h36q : Hid (Bo ((u22q.alloc (.cells #[.int .u64 0, .int .u64 0, .int .u64 0, .int .u64 0, .int .u64 0, .int .u64 0, .int .u64 0, .int .u64 0, .int .u64 0, .int .u64 0, .int .u64 0, .int .u64 0, .int .u64 0, .int .u64 0, .int .u64 0, .int .u64 0, .int .u64 0] 29)).alloc (.cells #[.int .i64 0, .int .i64 0] 32)) u22q.heap.size (wl wz)) := h32q.out.new (.cells #[.int .i64 0, .int .i64 0] 32)
        clear h29q h30q h31q h32q
        have h37q : Hid (Bo ((u22q.alloc (.cells #[.int .u64 0, .int .u64 0, .int .u64 0, .int .u64 0, .int .u64 0, .int .u64 0, .int .u64 0, .int .u64 0, .int .u64 0, .int .u64 0, .int .u64 0, .int .u64 0, .int .u64 0, .int .u64 0, .int .u64 0, .int .u64 0, .int .u64 0] 29)).alloc (.cells #[.int .i64 0, .int .i64 0] 32)) (u22q.heap.size + 1) [.int .i64 0, .int .i64 0]) := Bo.born (u22q.alloc (.cells #[.int .u64 0, .int .u64 0, .int .u64 0, .int .u64 0, .int .u64 0, .int .u64 0, .int .u64 0, .int .u64 0, .int .u64 0, .int .u64 0, .int .u64 0, .int .u64 0, .int .u64 0, .int .u64 0, .int .u64 0, .int .u64 0, .int .u64 0] 29)) [.int .i64 0, .int .i64 0] 32 (by simp)
        go_wp2_with (first
          | (refine wpList_store_mid rfl 29 _ _ rfl u22q.heap.size _ (wl c).toArray rfl rfl (h36q.out.thereW c) (HCZ.out c) (wl_all c) ?_
             have h38q : Hid (Gd n w (((u22q.alloc (.cells #[.int .u64 0, .int .u64 0, .int .u64 0, .int .u64 0, .int .u64 0, .int .u64 0, .int .u64 0, .int .u64 0, .int .u64 0, .int .u64 0, .int .u64 0, .int .u64 0, .int .u64 0, .int .u64 0, .int .u64 0, .int .u64 0, .int .u64 0] 29)).alloc (.cells #[.int .i64 0, .int .i64 0] 32)).setCells u22q.heap.size 0 (wl c))) := h33q.out.asideL (by omega) 0 (wl c)
             have h39q : Hid (Bo (((u22q.alloc (.cells #[.int .u64 0, .int .u64 0, .int .u64 0, .int .u64 0, .int .u64 0, .int .u64 0, .int .u64 0, .int .u64 0, .int .u64 0, .int .u64 0, .int .u64 0, .int .u64 0, .int .u64 0, .int .u64 0, .int .u64 0, .int .u64 0, .int .u64 0] 29)).alloc (.cells #[.int .i64 0, .int .i64 0] 32)).setCells u22q.heap.size 0 (wl c)) n [.int .i64 5, .int .i64 k, .int .i64 x]) := h34q.out.asideL (by omega) 0 (wl c)
             have h40q : Hid (Bo (((u22q.alloc (.cells #[.int .u64 0, .int .u64 0, .int .u64 0, .int .u64 0, .int .u64 0, .int .u64 0, .int .u64 0, .int .u64 0, .int .u64 0, .int .u64 0, .int .u64 0, .int .u64 0, .int .u64 0, .int .u64 0, .int .u64 0, .int .u64 0, .int .u64 0] 29)).alloc (.cells #[.int .i64 0, .int .i64 0] 32)).setCells u22q.heap.size 0 (wl c)) u7q.heap.size (wl c)) := h35q.out.asideL (by omega) 0 (wl c)
             have h41q : Hid (Bo (((u22q.alloc (.cells #[.int .u64 0, .int .u64 0, .int .u64 0, .int .u64 0, .int .u64 0, .int .u64 0, .int .u64 0, .int .u64 0, .int .u64 0, .int .u64 0, .int .u64 0, .int .u64 0, .int .u64 0, .int .u64 0, .int .u64 0, .int .u64 0, .int .u64 0] 29)).alloc (.cells #[.int .i64 0, .int .i64 0] 32)).setCells u22q.heap.size 0 (wl c)) u22q.heap.size (wl c)) := h36q.out.setW c
             have h42q : Hid (Bo (((u22q.alloc (.cells #[.int .u64 0, .int .u64 0, .int .u64 0, .int .u64 0, .int .u64 0, .int .u64 0, .int .u64 0, .int .u64 0, .int .u64 0, .int .u64 0, .int .u64 0, .int .u64 0, .int .u64 0, .int .u64 0, .int .u64 0, .int .u64 0, .int .u64 0] 29)).alloc (.cells #[.int .i64 0, .int .i64 0] 32)).setCells u22q.heap.size 0 (wl c)) (u22q.heap.size + 1) [.int .i64 0, .int .i64 0]) := h37q.out.asideL (by omega) 0 (wl c)
             clear h33q h34q h35q h36q h37q
             generalize (((u22q.alloc (.cells #[.int .u64 0, .int .u64 0, .int .u64 0, .int .u64 0, .int .u64 0, .int .u64 0, .int .u64 0, .int .u64 0, .int .u64 0, .int .u64 0, .int .u64 0, .int .u64 0, .int .u64 0, .int .u64 0, .int .u64 0, .int .u64 0, .int .u64 0] 29)).alloc (.cells #[.int .i64 0, .int .i64 0] 32)).setCells u22q.heap.size 0 (wl c)) = u43q at h38q h39q h40q h41q h42q  ⊢)
          | (refine wpList_store_mid rfl 32 _ _ rfl (u22q.heap.size + 1) _ #[.int .i64 (1), .int .i64 (yy)] rfl rfl h42q.out.there2 HA.out (two_one _ _) ?_
             have h44q : Hid (Gd n w (u43q.setCells (u22q.heap.size + 1) 0 [.int .i64 (1), .int .i64 (yy)])) := h38q.out.asideL (by omega) 0 [.int .i64 (1), .int .i64 (yy)]
             have h45q : Hid (Bo (u43q.setCells (u22q.heap.size + 1) 0 [.int .i64 (1), .int .i64 (yy)]) n [.int .i64 5, .int .i64 k, .int .i64 x]) := h39q.out.asideL (by omega) 0 [.int .i64 (1), .int .i64 (yy)]
             have h46q : Hid (Bo (u43q.setCells (u22q.heap.size + 1) 0 [.int .i64 (1), .int .i64 (yy)]) u7q.heap.size (wl c)) := h40q.out.asideL (by omega) 0 [.int .i64 (1), .int .i64 (yy)]
             have h47q : Hid (Bo (u43q.setCells (u22q.heap.size + 1) 0 [.int .i64 (1), .int .i64 (yy)]) u22q.heap.size (wl c)) := h41q.out.asideL (by omega) 0 [.int .i64 (1), .int .i64 (yy)]
             have h48q : Hid (Bo (u43q.setCells (u22q.heap.size + 1) 0 [.int .i64 (1), .int .i64 (yy)]) (u22q.heap.size + 1) [.int .i64 (1), .int .i64 (yy)]) := h42q.out.set2 (.int .i64 (1)) (.int .i64 (yy))
             clear h38q h39q h40q h41q h42q
             generalize (u43q.setCells (u22q.heap.size + 1) 0 [.int .i64 (1), .int .i64 (yy)]) = u49q at h44q h45q h46q h47q h48q  ⊢
             have c50q := h45q.out.at 0 rfl
             have c51q := h48q.out.at 0 rfl
             have c52q := h48q.out.at 1 rfl)
          | (refine wpList_load_mid rfl 29 _ rfl u7q.heap.size _ rfl (wl c) _ h46q.out.range HC.out rfl (HCS.out c) ?_))
        refine (RC.out _).mono ?_
        rintro e u53q ⟨rfl, hb⟩
        have h54q : Hid (Gd n w u53q) := h44q.out.later hb
        have h55q : Hid (Bo u53q n [.int .i64 5, .int .i64 k, .int .i64 x]) := h45q.out.later hb
        have h56q : Hid (Bo u53q u7q.heap.size (wl c)) := h46q.out.later hb
        have h57q : Hid (Bo u53q u22q.heap.size (wl c)) := h47q.out.later hb
        have h58q : Hid (Bo u53q (u22q.heap.size + 1) [.int .i64 (1), .int .i64 (yy)]) := h48q.out.later hb
        clear h44q h45q h46q h47q h48q
        clear hb
        go_wp2_with (first
          | (refine wpList_load_wanted (by rfl) 29 _ rfl u22q.heap.size _ rfl (wl c) _ h57q.out.range HC.out rfl (HCS.out c) ?_))
        refine (RU.out _).mono ?_
        rintro e u59q ⟨rfl, hb⟩
        have h60q : Hid (Gd n w u59q) := h54q.out.later hb
        have h61q : Hid (Bo u59q n [.int .i64 5, .int .i64 k, .int .i64 x]) := h55q.out.later hb
        have h62q : Hid (Bo u59q u7q.heap.size (wl c)) := h56q.out.later hb
        have h63q : Hid (Bo u59q u22q.heap.size (wl c)) := h57q.out.later hb
        have h64q : Hid (Bo u59q (u22q.heap.size + 1) [.int .i64 (1), .int .i64 (yy)]) := h58q.out.later hb
        clear h54q h55q h56q h57q h58q
        clear hb
        have c65q := h64q.out.at 0 rfl
        have c66q := h64q.out.at 1 rfl
        go_wp2_with fail
        refine (FI.out _).mono ?_
        rintro e u67q ⟨rfl, hb⟩
        have h68q : Hid (Gd n w u67q) := h60q.out.later hb
        have h69q : Hid (Bo u67q n [.int .i64 5, .int .i64 k, .int .i64 x]) := h61q.out.later hb
        have h70q : Hid (Bo u67q u7q.heap.size (wl c)) := h62q.out.later hb
        have h71q : Hid (Bo u67q u22q.heap.size (wl c)) := h63q.out.later hb
        have h72q : Hid (Bo u67q (u22q.heap.size + 1) [.int .i64 (1), .int .i64 (yy)]) := h64q.out.later hb
        clear h60q h61q h62q h63q h64q
        clear hb
        have c73q := h72q.out.at 0 rfl
        have c74q := h72q.out.at 1 rfl
        go_wp2_with (first
          | (refine wpList_load_wanted (by rfl) 29 _ rfl u22q.heap.size _ rfl (wl c) _ h71q.out.range HC.out rfl (HCS.out c) ?_)
          | (refine wpList_load_wanted (by rfl) 29 _ rfl u7q.heap.size _ rfl (wl c) _ h70q.out.range HC.out rfl (HCS.out c) ?_))
        go_ret
        exact ⟨rfl, by first | exact h68q.out.low | exact h68q.out.2⟩
      · have hs : wl u = wl c := SM.out (Or.inr (Or.inl rfl))
        unfold DidD at DO
        rw [hs] at DO RU
        clear hs
        clear SM
        have mcc : (cc == 1) = false := by simp [hcc]
        clear hcc
        go_wp2_with (first
          | (refine wpList_store_mid rfl 29 _ _ rfl u7q.heap.size _ (wl c).toArray rfl rfl (h14q.out.thereW c) (HCZ.out c) (wl_all c) ?_
             have h75q : Hid (Gd n w ((u7q.alloc (.cells #[.int .u64 0, .int .u64 0, .int .u64 0, .int .u64 0, .int .u64 0, .int .u64 0, .int .u64 0, .int .u64 0, .int .u64 0, .int .u64 0, .int .u64 0, .int .u64 0, .int .u64 0, .int .u64 0, .int .u64 0, .int .u64 0, .int .u64 0] 29)).setCells u7q.heap.size 0 (wl c))) := h12q.out.asideL (by omega) 0 (wl c)
             have h76q : Hid (Bo ((u7q.alloc (.cells #[.int .u64 0, .int .u64 0, .int .u64 0, .int .u64 0, .int .u64 0, .int .u64 0, .int .u64 0, .int .u64 0, .int .u64 0, .int .u64 0, .int .u64 0, .int .u64 0, .int .u64 0, .int .u64 0, .int .u64 0, .int .u64 0, .int .u64 0] 29)).setCells u7q.heap.size 0 (wl c)) n [.int .i64 5, .int .i64 k, .int .i64 x]) := h13q.out.asideL (by omega) 0 (wl c)
             have h77q : Hid (Bo ((u7q.alloc (.cells #[.int .u64 0, .int .u64 0, .int .u64 0, .int .u64 0, .int .u64 0, .int .u64 0, .int .u64 0, .int .u64 0, .int .u64 0, .int .u64 0, .int .u64 0, .int .u64 0, .int .u64 0, .int .u64 0, .int .u64 0, .int .u64 0, .int .u64 0] 29)).setCells u7q.heap.size 0 (wl c)) u7q.heap.size (wl c)) := h14q.out.setW c
             clear h12q h13q h14q
             generalize ((u7q.alloc (.cells #[.int .u64 0, .int .u64 0, .int .u64 0, .int .u64 0, .int .u64 0, .int .u64 0, .int .u64 0, .int .u64 0, .int .u64 0, .int .u64 0, .int .u64 0, .int .u64 0, .int .u64 0, .int .u64 0, .int .u64 0, .int .u64 0, .int .u64 0] 29)).setCells u7q.heap.size 0 (wl c)) = u78q at h75q h76q h77q  ⊢
             have c79q := h76q.out.at 0 rfl
             have c80q := h76q.out.at 1 rfl
             have c81q := h76q.out.at 2 rfl)
          | (refine wpList_load_mid rfl 29 _ rfl u7q.heap.size _ rfl (wl c) _ h77q.out.range HC.out rfl (HCS.out c) ?_))
        refine (DO.out _).mono ?_
        rintro e u82q ⟨rfl, hb⟩
        have h83q : Hid (Gd n w u82q) := h75q.out.later hb
        have h84q : Hid (Bo u82q n [.int .i64 5, .int .i64 k, .int .i64 x]) := h76q.out.later hb
        have h85q : Hid (Bo u82q u7q.heap.size (wl c)) := h77q.out.later hb
        clear h75q h76q h77q
        clear hb
        have l86q : n ≤ u82q.heap.size := h83q.out.le
        have l87q : n < u82q.heap.size := h84q.out.lt
        have l88q : u7q.heap.size < u82q.heap.size := h85q.out.lt
        have h89q : Hid (Gd n w (u82q.alloc (.cells #[.int .u64 0, .int .u64 0, .int .u64 0, .int .u64 0, .int .u64 0, .int .u64 0, .int .u64 0, .int .u64 0, .int .u64 0, .int .u64 0, .int .u64 0, .int .u64 0, .int .u64 0, .int .u64 0, .int .u64 0, .int .u64 0, .int .u64 0] 29))) := h83q.out.new (.cells #[.int .u64 0, .int .u64 0, .int .u64 0, .int .u64 0, .int .u64 0, .int .u64 0, .int .u64 0, .int .u64 0, .int .u64 0, .int .u64 0, .int .u64 0, .int .u64 0, .int .u64 0, .int .u64 0, .int .u64 0, .int .u64 0, .int .u64 0] 29)
        have h90q : Hid (Bo (u82q.alloc (.cells #[.int .u64 0, .int .u64 0, .int .u64 0, .int .u64 0, .int .u64 0, .int .u64 0, .int .u64 0, .int .u64 0, .int .u64 0, .int .u64 0, .int .u64 0, .int .u64 0, .int .u64 0, .int .u64 0, .int .u64 0, .int .u64 0, .int .u64 0] 29)) n [.int .i64 5, .int .i64 k, .int .i64 x]) := h84q.out.new (.cells #[.int .u64 0, .int .u64 0, .int .u64 0, .int .u64 0, .int .u64 0, .int .u64 0, .int .u64 0, .int .u64 0, .int .u64 0, .int .u64 0, .int .u64 0, .int .u64 0, .int .u64 0, .int .u64 0, .int .u64 0, .int .u64 0, .int .u64 0] 29)
        have h91q : Hid (Bo (u82q.alloc (.cells #[.int .u64 0, .int .u64 0, .int .u64 0, .int .u64 0, .int .u64 0, .int .u64 0, .int .u64 0, .int .u64 0, .int .u64 0, .int .u64 0, .int .u64 0, .int .u64 0, .int .u64 0, .int .u64 0, .int .u64 0, .int .u64 0, .int .u64 0] 29)) u7q.heap.size (wl c)) := h85q.out.new (.cells #[.int .u64 0, .int .u64 0, .int .u64 0, .int .u64 0, .int .u64 0, .int .u64 0, .int .u64 0, .int .u64 0, .int .u64 0, .int .u64 0, .int .u64 0, .int .u64 0, .int .u64 0, .int .u64 0, .int .u64 0, .int .u64 0, .int .u64 0] 29)
        clear h83q h84q h85q
        have h92q : Hid (Bo (u82q.alloc (.cells #[.int .u64 0, .int .u64 0, .int .u64 0, .int .u64 0, .int .u64 0, .int .u64 0, .int .u64 0, .int .u64 0, .int .u64 0, .int .u64 0, .int .u64 0, .int .u64 0, .int .u64 0, .int .u64 0, .int .u64 0, .int .u64 0, .int .u64 0] 29)) u82q.heap.size (wl wz)) := Bo.born u82q (wl wz) 29 (by simp)
        have h93q : Hid (Gd n w ((u82q.alloc (.cells #[.int .u64 0, .int .u64 0, .int .u64 0, .int .u64 0, .int .u64 0, .int .u64 0, .int .u64 0, .int .u64 0, .int .u64 0, .int .u64 0, .int .u64 0, .int .u64 0, .int .u64 0, .int .u64 0, .int .u64 0, .int .u64 0, .int .u64 0] 29)).alloc (.cells #[.int .i64 0, .int .i64 0] 32))) := h89q.out.new (.cells #[.int .i64 0, .int .i64 0] 32)
        have h94q : Hid (Bo ((u82q.alloc (.cells #[.int .u64 0, .int .u64 0, .int .u64 0, .int .u64 0, .int .u64 0, .int .u64 0, .int .u64 0, .int .u64 0, .int .u64 0, .int .u64 0, .int .u64 0, .int .u64 0, .int .u64 0, .int .u64 0, .int .u64 0, .int .u64 0, .int .u64 0] 29)).alloc (.cells #[.int .i64 0, .int .i64 0] 32)) n [.int .i64 5, .int .i64 k, .int .i64 x]) := h90q.out.new (.cells #[.int .i64 0, .int .i64 0] 32)
        have h95q : Hid (Bo ((u82q.alloc (.cells #[.int .u64 0, .int .u64 0, .int .u64 0, .int .u64 0, .int .u64 0, .int .u64 0, .int .u64 0, .int .u64 0, .int .u64 0, .int .u64 0, .int .u64 0, .int .u64 0, .int .u64 0, .int .u64 0, .int .u64 0, .int .u64 0, .int .u64 0] 29)).alloc (.cells #[.int .i64 0, .int .i64 0] 32)) u7q.heap.size (wl c)) := h91q.out.new (.cells #[.int .i64 0, .int .i64 0] 32)
        have h96q : Hid (Bo ((u82q.alloc (.cells #[.int .u64 0, .int .u64 0, .int .u64 0, .int .u64 0, .int .u64 0, .int .u64 0, .int .u64 0, .int .u64 0, .int .u64 0, .int .u64 0, .int .u64 0, .int .u64 0, .int .u64 0, .int .u64 0, .int .u64 0, .int .u64 0, .int .u64 0] 29)).alloc (.cells #[.int .i64 0, .int .i64 0] 32)) u82q.heap.size (wl wz)) := h92q.out.new (.cells #[.int .i64 0, .int .i64 0] 32)
        clear h89q h90q h91q h92q
        have h97q : Hid (Bo ((u82q.alloc (.cells #[.int .u64 0, .int .u64 0, .int .u64 0, .int .u64 0, .int .u64 0, .int .u64 0, .int .u64 0, .int .u64 0, .int .u64 0, .int .u64 0, .int .u64 0, .int .u64 0, .int .u64 0, .int .u64 0, .int .u64 0, .int .u64 0, .int .u64 0] 29)).alloc (.cells #[.int .i64 0, .int .i64 0] 32)) (u82q.heap.size + 1) [.int .i64 0, .int .i64 0]) := Bo.born (u82q.alloc (.cells #[.int .u64 0, .int .u64 0, .int .u64 0, .int .u64 0, .int .u64 0, .int .u64 0, .int .u64 0, .int .u64 0, .int .u64 0, .int .u64 0, .int .u64 0, .int .u64 0, .int .u64 0, .int .u64 0, .int .u64 0, .int .u64 0, .int .u64 0] 29)) [.int .i64 0, .int .i64 0] 32 (by simp)
        go_wp2_with (first
          | (refine wpList_store_mid rfl 29 _ _ rfl u82q.heap.size _ (wl c).toArray rfl rfl (h96q.out.thereW c) (HCZ.out c) (wl_all c) ?_
             have h98q : Hid (Gd n w (((u82q.alloc (.cells #[.int .u64 0, .int .u64 0, .int .u64 0, .int .u64 0, .int .u64 0, .int .u64 0, .int .u64 0, .int .u64 0, .int .u64 0, .int .u64 0, .int .u64 0, .int .u64 0, .int .u64 0, .int .u64 0, .int .u64 0, .int .u64 0, .int .u64 0] 29)).alloc (.cells #[.int .i64 0, .int .i64 0] 32)).setCells u82q.heap.size 0 (wl c))) := h93q.out.asideL (by omega) 0 (wl c)
             have h99q : Hid (Bo (((u82q.alloc (.cells #[.int .u64 0, .int .u64 0, .int .u64 0, .int .u64 0, .int .u64 0, .int .u64 0, .int .u64 0, .int .u64 0, .int .u64 0, .int .u64 0, .int .u64 0, .int .u64 0, .int .u64 0, .int .u64 0, .int .u64 0, .int .u64 0, .int .u64 0] 29)).alloc (.cells #[.int .i64 0, .int .i64 0] 32)).setCells u82q.heap.size 0 (wl c)) n [.int .i64 5, .int .i64 k, .int .i64 x]) := h94q.out.asideL (by omega) 0 (wl c)
             have h100q : Hid (Bo (((u82q.alloc (.cells #[.int .u64 0, .int .u64 0, .int .u64 0, .int .u64 0, .int .u64 0, .int .u64 0, .int .u64 0, .int .u64 0, .int .u64 0, .int .u64 0, .int .u64 0, .int .u64 0, .int .u64 0, .int .u64 0, .int .u64 0, .int .u64 0, .int .u64 0] 29)).alloc (.cells #[.int .i64 0, .int .i64 0] 32)).setCells u82q.heap.size 0 (wl c)) u7q.heap.size (wl c)) := h95q.out.asideL (by omega) 0 (wl c)
             have h101q : Hid (Bo (((u82q.alloc (.cells #[.int .u64 0, .int .u64 0, .int .u64 0, .int .u64 0, .int .u64 0, .int .u64 0, .int .u64 0, .int .u64 0, .int .u64 0, .int .u64 0, .int .u64 0, .int .u64 0, .int .u64 0, .int .u64 0, .int .u64 0, .int .u64 0, .int .u64 0] 29)).alloc (.cells #[.int .i64 0, .int .i64 0] 32)).setCells u82q.heap.size 0 (wl c)) u82q.heap.size (wl c)) := h96q.out.setW c
             have h102q : Hid (Bo (((u82q.alloc (.cells #[.int .u64 0, .int .u64 0, .int .u64 0, .int .u64 0, .int .u64 0, .int .u64 0, .int .u64 0, .int .u64 0, .int .u64 0, .int .u64 0, .int .u64 0, .int .u64 0, .int .u64 0, .int .u64 0, .int .u64 0, .int .u64 0, .int .u64 0] 29)).alloc (.cells #[.int .i64 0, .int .i64 0] 32)).setCells u82q.heap.size 0 (wl c)) (u82q.heap.size + 1) [.int .i64 0, .int .i64 0]) := h97q.out.asideL (by omega) 0 (wl c)
             clear h93q h94q h95q h96q h97q
             generalize (((u82q.alloc (.cells #[.int .u64 0, .int .u64 0, .int .u64 0, .int .u64 0, .int .u64 0, .int .u64 0, .int .u64 0, .int .u64 0, .int .u64 0, .int .u64 0, .int .u64 0, .int .u64 0, .int .u64 0, .int .u64 0, .int .u64 0, .int .u64 0, .int .u64 0] 29)).alloc (.cells #[.int .i64 0, .int .i64 0] 32)).setCells u82q.heap.size 0 (wl c)) = u103q at h98q h99q h100q h101q h102q  ⊢)
          | (refine wpList_store_mid rfl 32 _ _ rfl (u82q.heap.size + 1) _ #[.int .i64 (cc), .int .i64 (yy)] rfl rfl h102q.out.there2 HA.out (two_one _ _) ?_
             have h104q : Hid (Gd n w (u103q.setCells (u82q.heap.size + 1) 0 [.int .i64 (cc), .int .i64 (yy)])) := h98q.out.asideL (by omega) 0 [.int .i64 (cc), .int .i64 (yy)]
             have h105q : Hid (Bo (u103q.setCells (u82q.heap.size + 1) 0 [.int .i64 (cc), .int .i64 (yy)]) n [.int .i64 5, .int .i64 k, .int .i64 x]) := h99q.out.asideL (by omega) 0 [.int .i64 (cc), .int .i64 (yy)]
             have h106q : Hid (Bo (u103q.setCells (u82q.heap.size + 1) 0 [.int .i64 (cc), .int .i64 (yy)]) u7q.heap.size (wl c)) := h100q.out.asideL (by omega) 0 [.int .i64 (cc), .int .i64 (yy)]
             have h107q : Hid (Bo (u103q.setCells (u82q.heap.size + 1) 0 [.int .i64 (cc), .int .i64 (yy)]) u82q.heap.size (wl c)) := h101q.out.asideL (by omega) 0 [.int .i64 (cc), .int .i64 (yy)]
             have h108q : Hid (Bo (u103q.setCells (u82q.heap.size + 1) 0 [.int .i64 (cc), .int .i64 (yy)]) (u82q.heap.size + 1) [.int .i64 (cc), .int .i64 (yy)]) := h102q.out.set2 (.int .i64 (cc)) (.int .i64 (yy))
             clear h98q h99q h100q h101q h102q
             generalize (u103q.setCells (u82q.heap.size + 1) 0 [.int .i64 (cc), .int .i64 (yy)]) = u109q at h104q h105q h106q h107q h108q  ⊢
             have c110q := h105q.out.at 0 rfl
             have c111q := h108q.out.at 0 rfl
             have c112q := h108q.out.at 1 rfl)
          | (refine wpList_load_mid rfl 29 _ rfl u7q.heap.size _ rfl (wl c) _ h106q.out.range HC.out rfl (HCS.out c) ?_))
        refine (RC.out _).mono ?_
        rintro e u113q ⟨rfl, hb⟩
        have h114q : Hid (Gd n w u113q) := h104q.out.later hb
        have h115q : Hid (Bo u113q n [.int .i64 5, .int .i64 k, .int .i64 x]) := h105q.out.later hb
        have h116q : Hid (Bo u113q u7q.heap.size (wl c)) := h106q.out.later hb
        have h117q : Hid (Bo u113q u82q.heap.size (wl c)) := h107q.out.later hb
        have h118q : Hid (Bo u113q (u82q.heap.size + 1) [.int .i64 (cc), .int .i64 (yy)]) := h108q.out.later hb
        clear h104q h105q h106q h107q h108q
        clear hb
        go_wp2_with (first
          | (refine wpList_load_wanted (by rfl) 29 _ rfl u82q.heap.size _ rfl (wl c) _ h117q.out.range HC.out rfl (HCS.out c) ?_))
        refine (RU.out _).mono ?_
        rintro e u119q ⟨rfl, hb⟩
        have h120q : Hid (Gd n w u119q) := h114q.out.later hb
        have h121q : Hid (Bo u119q n [.int .i64 5, .int .i64 k, .int .i64 x]) := h115q.out.later hb
        have h122q : Hid (Bo u119q u7q.heap.size (wl c)) := h116q.out.later hb
        have h123q : Hid (Bo u119q u82q.heap.size (wl c)) := h117q.out.later hb
        have h124q : Hid (Bo u119q (u82q.heap.size + 1) [.int .i64 (cc), .int .i64 (yy)]) := h118q.out.later hb
        clear h114q h115q h116q h117q h118q
        clear hb
        have c125q := h124q.out.at 0 rfl
        have c126q := h124q.out.at 1 rfl
        go_wp2_with fail
        refine (FI.out _).mono ?_
        rintro e u127q ⟨rfl, hb⟩
        have h128q : Hid (Gd n w u127q) := h120q.out.later hb
        have h129q : Hid (Bo u127q n [.int .i64 5, .int .i64 k, .int .i64 x]) := h121q.out.later hb
        have h130q : Hid (Bo u127q u7q.heap.size (wl c)) := h122q.out.later hb
        have h131q : Hid (Bo u127q u82q.heap.size (wl c)) := h123q.out.later hb
        have h132q : Hid (Bo u127q (u82q.heap.size + 1) [.int .i64 (cc), .int .i64 (yy)]) := h124q.out.later hb
        clear h120q h121q h122q h123q h124q
        clear hb
        have c133q := h132q.out.at 0 rfl
        have c134q := h132q.out.at 1 rfl
        go_wp2_with (first
          | (refine wpList_load_wanted (by rfl) 29 _ rfl u82q.heap.size _ rfl (wl c) _ h131q.out.range HC.out rfl (HCS.out c) ?_)
          | (refine wpList_load_wanted (by rfl) 29 _ rfl u7q.heap.size _ rfl (wl c) _ h130q.out.range HC.out rfl (HCS.out c) ?_))
        go_ret
        exact ⟨rfl, by first | exact h128q.out.low | exact h128q.out.2⟩
    · by_cases e6 : o = 6
      · subst e6
        by_cases hcc : cc = 1
        · subst hcc
          have hs : wl u = wl c := SM.out (Or.inr (Or.inr rfl))
          unfold DidD at DO
          rw [hs] at DO RU
          clear hs
          clear SM
          go_wp2_with (first
            | (refine wpList_store_mid rfl 29 _ _ rfl u7q.heap.size _ (wl c).toArray rfl rfl (h14q.out.thereW c) (HCZ.out c) (wl_all c) ?_
               have h135q : Hid (Gd n w ((u7q.alloc (.cells #[.int .u64 0, .int .u64 0, .int .u64 0, .int .u64 0, .int .u64 0, .int .u64 0, .int .u64 0, .int .u64 0, .int .u64 0, .int .u64 0, .int .u64 0, .int .u64 0, .int .u64 0, .int .u64 0, .int .u64 0, .int .u64 0, .int .u64 0] 29)).setCells u7q.heap.size 0 (wl c))) := h12q.out.asideL (by omega) 0 (wl c)
               have h136q : Hid (Bo ((u7q.alloc (.cells #[.int .u64 0, .int .u64 0, .int .u64 0, .int .u64 0, .int .u64 0, .int .u64 0, .int .u64 0, .int .u64 0, .int .u64 0, .int .u64 0, .int .u64 0, .int .u64 0, .int .u64 0, .int .u64 0, .int .u64 0, .int .u64 0, .int .u64 0] 29)).setCells u7q.heap.size 0 (wl c)) n [.int .i64 6, .int .i64 k, .int .i64 x]) := h13q.out.asideL (by omega) 0 (wl c)
               have h137q : Hid (Bo ((u7q.alloc (.cells #[.int .u64 0, .int .u64 0, .int .u64 0, .int .u64 0, .int .u64 0, .int .u64 0, .int .u64 0, .int .u64 0, .int .u64 0, .int .u64 0, .int .u64 0, .int .u64 0, .int .u64 0, .int .u64 0, .int .u64 0, .int .u64 0, .int .u64 0] 29)).setCells u7q.heap.size 0 (wl c)) u7q.heap.size (wl c)) := h14q.out.setW c
               clear h12q h13q h14q
               generalize ((u7q.alloc (.cells #[.int .u64 0, .int .u64 0, .int .u64 0, .int .u64 0, .int .u64 0, .int .u64 0, .int .u64 0, .int .u64 0, .int .u64 0, .int .u64 0, .int .u64 0, .int .u64 0, .int .u64 0, .int .u64 0, .int .u64 0, .int .u64 0, .int .u64 0] 29)).setCells u7q.heap.size 0 (wl c)) = u138q at h135q h136q h137q  ⊢
               have c139q := h136q.out.at 0 rfl
               have c140q := h136q.out.at 1 rfl
               have c141q := h136q.out.at 2 rfl)
            | (refine wpList_load_mid rfl 29 _ rfl u7q.heap.size _ rfl (wl c) _ h137q.out.range HC.out rfl (HCS.out c) ?_))
          refine (DO.out _).mono ?_
          rintro e u142q ⟨rfl, hb⟩
          have h143q : Hid (Gd n w u142q) := h135q.out.later hb
          have h144q : Hid (Bo u142q n [.int .i64 6, .int .i64 k, .int .i64 x]) := h136q.out.later hb
          have h145q : Hid (Bo u142q u7q.heap.size (wl c)) := h137q.out.later hb
          clear h135q h136q h137q
          clear hb
          have l146q : n ≤ u142q.heap.size := h143q.out.le
          have l147q : n < u142q.heap.size := h144q.out.lt
          have l148q : u7q.heap.size < u142q.heap.size := h145q.out.lt
          have h149q : Hid (Gd n w (u142q.alloc (.cells #[.int .u64 0, .int .u64 0, .int .u64 0, .int .u64 0, .int .u64 0, .int .u64 0, .int .u64 0, .int .u64 0, .int .u64 0, .int .u64 0, .int .u64 0, .int .u64 0, .int .u64 0, .int .u64 0, .int .u64 0, .int .u64 0, .int .u64 0] 29))) := h143q.out.new (.cells #[.int .u64 0, .int .u64 0, .int .u64 0, .int .u64 0, .int .u64 0, .int .u64 0, .int .u64 0, .int .u64 0, .int .u64 0, .int .u64 0, .int .u64 0, .int .u64 0, .int .u64 0, .int .u64 0, .int .u64 0, .int .u64 0, .int .u64 0] 29)
          have h150q : Hid (Bo (u142q.alloc (.cells #[.int .u64 0, .int .u64 0, .int .u64 0, .int .u64 0, .int .u64 0, .int .u64 0, .int .u64 0, .int .u64 0, .int .u64 0, .int .u64 0, .int .u64 0, .int .u64 0, .int .u64 0, .int .u64 0, .int .u64 0, .int .u64 0, .int .u64 0] 29)) n [.int .i64 6, .int .i64 k, .int .i64 x]) := h144q.out.new (.cells #[.int .u64 0, .int .u64 0, .int .u64 0, .int .u64 0, .int .u64 0, .int .u64 0, .int .u64 0, .int .u64 0, .int .u64 0, .int .u64 0, .int .u64 0, .int .u64 0, .int .u64 0, .int .u64 0, .int .u64 0, .int .u64 0, .int .u64 0] 29)
          have h151q : Hid (Bo (u142q.alloc (.cells #[.int .u64 0, .int .u64 0, .int .u64 0, .int .u64 0, .int .u64 0, .int .u64 0, .int .u64 0, .int .u64 0, .int .u64 0, .int .u64 0, .int .u64 0, .int .u64 0, .int .u64 0, .int .u64 0, .int .u64 0, .int .u64 0, .int .u64 0] 29)) u7q.heap.size (wl c)) := h145q.out.new (.cells #[.int .u64 0, .int .u64 0, .int .u64 0, .int .u64 0, .int .u64 0, .int .u64 0, .int .u64 0, .int .u64 0, .int .u64 0, .int .u64 0, .int .u64 0, .int .u64 0, .int .u64 0, .int .u64 0, .int .u64 0, .int .u64 0, .int .u64 0] 29)
          clear h143q h144q h145q
          have h152q : Hid (Bo (u142q.alloc (.cells #[.int .u64 0, .int .u64 0, .int .u64 0, .int .u64 0, .int .u64 0, .int .u64 0, .int .u64 0, .int .u64 0, .int .u64 0, .int .u64 0, .int .u64 0, .int .u64 0, .int .u64 0, .int .u64 0, .int .u64 0, .int .u64 0, .int .u64 0] 29)) u142q.heap.size (wl wz)) := Bo.born u142q (wl wz) 29 (by simp)
          have h153q : Hid (Gd n w ((u142q.alloc (.cells #[.int .u64 0, .int .u64 0, .int .u64 0, .int .u64 0, .int .u64 0, .int .u64 0, .int .u64 0, .int .u64 0, .int .u64 0, .int .u64 0, .int .u64 0, .int .u64 0, .int .u64 0, .int .u64 0, .int .u64 0, .int .u64 0, .int .u64 0] 29)).alloc (.cells #[.int .i64 0, .int .i64 0] 32))) := h149q.out.new (.cells #[.int .i64 0, .int .i64 0] 32)
          have h154q : Hid (Bo ((u142q.alloc (.cells #[.int .u64 0, .int .u64 0, .int .u64 0, .int .u64 0, .int .u64 0, .int .u64 0, .int .u64 0, .int .u64 0, .int .u64 0, .int .u64 0, .int .u64 0, .int .u64 0, .int .u64 0, .int .u64 0, .int .u64 0, .int .u64 0, .int .u64 0] 29)).alloc (.cells #[.int .i64 0, .int .i64 0] 32)) n [.int .i64 6, .int .i64 k, .int .i64 x]) := h150q.out.new (.cells #[.int .i64 0, .int .i64 0] 32)
          have h155q : Hid (Bo ((u142q.alloc (.cells #[.int .u64 0, .int .u64 0, .int .u64 0, .int .u64 0, .int .u64 0, .int .u64 0, .int .u64 0, .int .u64 0, .int .u64 0, .int .u64 0, .int .u64 0, .int .u64 0, .int .u64 0, .int .u64 0, .int .u64 0, .int .u64 0, .int .u64 0] 29)).alloc (.cells #[.int .i64 0, .int .i64 0] 32)) u7q.heap.size (wl c)) := h151q.out.new (.cells #[.int .i64 0, .int .i64 0] 32)
          have h156q : Hid (Bo ((u142q.alloc (.cells #[.int .u64 0, .int .u64 0, .int .u64 0, .int .u64 0, .int .u64 0, .int .u64 0, .int .u64 0, .int .u64 0, .int .u64 0, .int .u64 0, .int .u64 0, .int .u64 0, .int .u64 0, .int .u64 0, .int .u64 0, .int .u64 0, .int .u64 0] 29)).alloc (.cells #[.int .i64 0, .int .i64 0] 32)) u142q.heap.size (wl wz)) := h152q.out.new (.cells #[.int .i64 0, .int .i64 0] 32)
          clear h149q h150q h151q h152q
          have h157q : Hid (Bo ((u142q.alloc (.cells #[.int .u64 0, .int .u64 0, .int .u64 0, .int .u64 0, .int .u64 0, .int .u64 0, .int .u64 0, .int .u64 0, .int .u64 0, .int .u64 0, .int .u64 0, .int .u64 0, .int .u64 0, .int .u64 0, .int .u64 0, .int .u64 0, .int .u64 0] 29)).alloc (.cells #[.int .i64 0, .int .i64 0] 32)) (u142q.heap.size + 1) [.int .i64 0, .int .i64 0]) := Bo.born (u142q.alloc (.cells #[.int .u64 0, .int .u64 0, .int .u64 0, .int .u64 0, .int .u64 0, .int .u64 0, .int .u64 0, .int .u64 0, .int .u64 0, .int .u64 0, .int .u64 0, .int .u64 0, .int .u64 0, .int .u64 0, .int .u64 0, .int .u64 0, .int .u64 0] 29)) [.int .i64 0, .int .i64 0] 32 (by simp)
          go_wp2_with (first
            | (refine wpList_store_mid rfl 29 _ _ rfl u142q.heap.size _ (wl c).toArray rfl rfl (h156q.out.thereW c) (HCZ.out c) (wl_all c) ?_
               have h158q : Hid (Gd n w (((u142q.alloc (.cells #[.int .u64 0, .int .u64 0, .int .u64 0, .int .u64 0, .int .u64 0, .int .u64 0, .int .u64 0, .int .u64 0, .int .u64 0, .int .u64 0, .int .u64 0, .int .u64 0, .int .u64 0, .int .u64 0, .int .u64 0, .int .u64 0, .int .u64 0] 29)).alloc (.cells #[.int .i64 0, .int .i64 0] 32)).setCells u142q.heap.size 0 (wl c))) := h153q.out.asideL (by omega) 0 (wl c)
               have h159q : Hid (Bo (((u142q.alloc (.cells #[.int .u64 0, .int .u64 0, .int .u64 0, .int .u64 0, .int .u64 0, .int .u64 0, .int .u64 0, .int .u64 0, .int .u64 0, .int .u64 0, .int .u64 0, .int .u64 0, .int .u64 0, .int .u64 0, .int .u64 0, .int .u64 0, .int .u64 0] 29)).alloc (.cells #[.int .i64 0, .int .i64 0] 32)).setCells u142q.heap.size 0 (wl c)) n [.int .i64 6, .int .i64 k, .int .i64 x]) := h154q.out.asideL (by omega) 0 (wl c)
               have h160q : Hid (Bo (((u142q.alloc (.cells #[.int .u64 0, .int .u64 0, .int .u64 0, .int .u64 0, .int .u64 0, .int .u64 0, .int .u64 0, .int .u64 0, .int .u64 0, .int .u64 0, .int .u64 0, .int .u64 0, .int .u64 0, .int .u64 0, .int .u64 0, .int .u64 0, .int .u64 0] 29)).alloc (.cells #[.int .i64 0, .int .i64 0] 32)).setCells u142q.heap.size 0 (wl c)) u7q.heap.size (wl c)) := h155q.out.asideL (by omega) 0 (wl c)
               have h161q : Hid (Bo (((u142q.alloc (.cells #[.int .u64 0, .int .u64 0, .int .u64 0, .int .u64 0, .int .u64 0, .int .u64 0, .int .u64 0, .int .u64 0, .int .u64 0, .int .u64 0, .int .u64 0, .int .u64 0, .int .u64 0, .int .u64 0, .int .u64 0, .int .u64 0, .int .u64 0] 29)).alloc (.cells #[.int .i64 0, .int .i64 0] 32)).setCells u142q.heap.size 0 (wl c)) u142q.heap.size (wl c)) := h156q.out.setW c
               have h162q : Hid (Bo (((u142q.alloc (.cells #[.int .u64 0, .int .u64 0, .int .u64 0, .int .u64 0, .int .u64 0, .int .u64 0, .int .u64 0, .int .u64 0, .int .u64 0, .int .u64 0, .int .u64 0, .int .u64 0, .int .u64 0, .int .u64 0, .int .u64 0, .int .u64 0, .int .u64 0] 29)).alloc (.cells #[.int .i64 0, .int .i64 0] 32)).setCells u142q.heap.size 0 (wl c)) (u142q.heap.size + 1) [.int .i64 0, .int .i64 0]) := h157q.out.asideL (by omega) 0 (wl c)
               clear h153q h154q h155q h156q h157q
               generalize (((u142q.alloc (.cells #[.int .u64 0, .int .u64 0, .int .u64 0, .int .u64 0, .int .u64 0, .int .u64 0, .int .u64 0, .int .u64 0, .int .u64 0, .int .u64 0, .int .u64 0, .int .u64 0, .int .u64 0, .int .u64 0, .int .u64 0, .int .u64 0, .int .u64 0] 29)).alloc (.cells #[.int .i64 0, .int .i64 0] 32)).setCells u142q.heap.size 0 (wl c)) = u163q at h158q h159q h160q h161q h162q  ⊢)
            | (refine wpList_store_mid rfl 32 _ _ rfl (u142q.heap.size + 1) _ #[.int .i64 (1), .int .i64 (yy)] rfl rfl h162q.out.there2 HA.out (two_one _ _) ?_
               have h164q : Hid (Gd n w (u163q.setCells (u142q.heap.size + 1) 0 [.int .i64 (1), .int .i64 (yy)])) := h158q.out.asideL (by omega) 0 [.int .i64 (1), .int .i64 (yy)]
               have h165q : Hid (Bo (u163q.setCells (u142q.heap.size + 1) 0 [.int .i64 (1), .int .i64 (yy)]) n [.int .i64 6, .int .i64 k, .int .i64 x]) := h159q.out.asideL (by omega) 0 [.int .i64 (1), .int .i64 (yy)]
               have h166q : Hid (Bo (u163q.setCells (u142q.heap.size + 1) 0 [.int .i64 (1), .int .i64 (yy)]) u7q.heap.size (wl c)) := h160q.out.asideL (by omega) 0 [.int .i64 (1), .int .i64 (yy)]
               have h167q : Hid (Bo (u163q.setCells (u142q.heap.size + 1) 0 [.int .i64 (1), .int .i64 (yy)]) u142q.heap.size (wl c)) := h161q.out.asideL (by omega) 0 [.int .i64 (1), .int .i64 (yy)]
               have h168q : Hid (Bo (u163q.setCells (u142q.heap.size + 1) 0 [.int .i64 (1), .int .i64 (yy)]) (u142q.heap.size + 1) [.int .i64 (1), .int .i64 (yy)]) := h162q.out.set2 (.int .i64 (1)) (.int .i64 (yy))
               clear h158q h159q h160q h161q h162q
               generalize (u163q.setCells (u142q.heap.size + 1) 0 [.int .i64 (1), .int .i64 (yy)]) = u169q at h164q h165q h166q h167q h168q  ⊢
               have c170q := h165q.out.at 0 rfl
               have c171q := h168q.out.at 0 rfl
               have c172q := h168q.out.at 1 rfl)
            | (refine wpList_load_mid rfl 29 _ rfl u7q.heap.size _ rfl (wl c) _ h166q.out.range HC.out rfl (HCS.out c) ?_))
          refine (RC.out _).mono ?_
          rintro e u173q ⟨rfl, hb⟩
          have h174q : Hid (Gd n w u173q) := h164q.out.later hb
          have h175q : Hid (Bo u173q n [.int .i64 6, .int .i64 k, .int .i64 x]) := h165q.out.later hb
          have h176q : Hid (Bo u173q u7q.heap.size (wl c)) := h166q.out.later hb
          have h177q : Hid (Bo u173q u142q.heap.size (wl c)) := h167q.out.later hb
          have h178q : Hid (Bo u173q (u142q.heap.size + 1) [.int .i64 (1), .int .i64 (yy)]) := h168q.out.later hb
          clear h164q h165q h166q h167q h168q
          clear hb
          go_wp2_with (first
            | (refine wpList_load_wanted (by rfl) 29 _ rfl u142q.heap.size _ rfl (wl c) _ h177q.out.range HC.out rfl (HCS.out c) ?_))
          refine (RU.out _).mono ?_
          rintro e u179q ⟨rfl, hb⟩
          have h180q : Hid (Gd n w u179q) := h174q.out.later hb
          have h181q : Hid (Bo u179q n [.int .i64 6, .int .i64 k, .int .i64 x]) := h175q.out.later hb
          have h182q : Hid (Bo u179q u7q.heap.size (wl c)) := h176q.out.later hb
          have h183q : Hid (Bo u179q u142q.heap.size (wl c)) := h177q.out.later hb
          have h184q : Hid (Bo u179q (u142q.heap.size + 1) [.int .i64 (1), .int .i64 (yy)]) := h178q.out.later hb
          clear h174q h175q h176q h177q h178q
          clear hb
          have c185q := h184q.out.at 0 rfl
          have c186q := h184q.out.at 1 rfl
          go_wp2_with fail
          refine (FI.out _).mono ?_
          rintro e u187q ⟨rfl, hb⟩
          have h188q : Hid (Gd n w u187q) := h180q.out.later hb
          have h189q : Hid (Bo u187q n [.int .i64 6, .int .i64 k, .int .i64 x]) := h181q.out.later hb
          have h190q : Hid (Bo u187q u7q.heap.size (wl c)) := h182q.out.later hb
          have h191q : Hid (Bo u187q u142q.heap.size (wl c)) := h183q.out.later hb
          have h192q : Hid (Bo u187q (u142q.heap.size + 1) [.int .i64 (1), .int .i64 (yy)]) := h184q.out.later hb
          clear h180q h181q h182q h183q h184q
          clear hb
          have c193q := h192q.out.at 0 rfl
          have c194q := h192q.out.at 1 rfl
          go_wp2_with (first
            | (refine wpList_load_wanted (by rfl) 29 _ rfl u142q.heap.size _ rfl (wl c) _ h191q.out.range HC.out rfl (HCS.out c) ?_)
            | (refine wpList_load_wanted (by rfl) 29 _ rfl u7q.heap.size _ rfl (wl c) _ h190q.out.range HC.out rfl (HCS.out c) ?_))
          go_ret
          exact ⟨rfl, by first | exact h188q.out.low | exact h188q.out.2⟩
        · have hs : wl u = wl c := SM.out (Or.inr (Or.inr rfl))
          unfold DidD at DO
          rw [hs] at DO RU
          clear hs
          clear SM
          have mcc : (cc == 1) = false := by simp [hcc]
          clear hcc
          go_wp2_with (first
            | (refine wpList_store_mid rfl 29 _ _ rfl u7q.heap.size _ (wl c).toArray rfl rfl (h14q.out.thereW c) (HCZ.out c) (wl_all c) ?_
               have h195q : Hid (Gd n w ((u7q.alloc (.cells #[.int .u64 0, .int .u64 0, .int .u64 0, .int .u64 0, .int .u64 0, .int .u64 0, .int .u64 0, .int .u64 0, .int .u64 0, .int .u64 0, .int .u64 0, .int .u64 0, .int .u64 0, .int .u64 0, .int .u64 0, .int .u64 0, .int .u64 0] 29)).setCells u7q.heap.size 0 (wl c))) := h12q.out.asideL (by omega) 0 (wl c)
               have h196q : Hid (Bo ((u7q.alloc (.cells #[.int .u64 0, .int .u64 0, .int .u64 0, .int .u64 0, .int .u64 0, .int .u64 0, .int .u64 0, .int .u64 0, .int .u64 0, .int .u64 0, .int .u64 0, .int .u64 0, .int .u64 0, .int .u64 0, .int .u64 0, .int .u64 0, .int .u64 0] 29)).setCells u7q.heap.size 0 (wl c)) n [.int .i64 6, .int .i64 k, .int .i64 x]) := h13q.out.asideL (by omega) 0 (wl c)
               have h197q : Hid (Bo ((u7q.alloc (.cells #[.int .u64 0, .int .u64 0, .int .u64 0, .int .u64 0, .int .u64 0, .int .u64 0, .int .u64 0, .int .u64 0, .int .u64 0, .int .u64 0, .int .u64 0, .int .u64 0, .int .u64 0, .int .u64 0, .int .u64 0, .int .u64 0, .int .u64 0] 29)).setCells u7q.heap.size 0 (wl c)) u7q.heap.size (wl c)) := h14q.out.setW c
               clear h12q h13q h14q
               generalize ((u7q.alloc (.cells #[.int .u64 0, .int .u64 0, .int .u64 0, .int .u64 0, .int .u64 0, .int .u64 0, .int .u64 0, .int .u64 0, .int .u64 0, .int .u64 0, .int .u64 0, .int .u64 0, .int .u64 0, .int .u64 0, .int .u64 0, .int .u64 0, .int .u64 0] 29)).setCells u7q.heap.size 0 (wl c)) = u198q at h195q h196q h197q  ⊢
               have c199q := h196q.out.at 0 rfl
               have c200q := h196q.out.at 1 rfl
               have c201q := h196q.out.at 2 rfl)
            | (refine wpList_load_mid rfl 29 _ rfl u7q.heap.size _ rfl (wl c) _ h197q.out.range HC.out rfl (HCS.out c) ?_))
          refine (DO.out _).mono ?_
          rintro e u202q ⟨rfl, hb⟩
          have h203q : Hid (Gd n w u202q) := h195q.out.later hb
          have h204q : Hid (Bo u202q n [.int .i64 6, .int .i64 k, .int .i64 x]) := h196q.out.later hb
          have h205q : Hid (Bo u202q u7q.heap.size (wl c)) := h197q.out.later hb
          clear h195q h196q h197q
          clear hb
          have l206q : n ≤ u202q.heap.size := h203q.out.le
          have l207q : n < u202q.heap.size := h204q.out.lt
          have l208q : u7q.heap.size < u202q.heap.size := h205q.out.lt
          have h209q : Hid (Gd n w (u202q.alloc (.cells #[.int .u64 0, .int .u64 0, .int .u64 0, .int .u64 0, .int .u64 0, .int .u64 0, .int .u64 0, .int .u64 0, .int .u64 0, .int .u64 0, .int .u64 0, .int .u64 0, .int .u64 0, .int .u64 0, .int .u64 0, .int .u64 0, .int .u64 0] 29))) := h203q.out.new (.cells #[.int .u64 0, .int .u64 0, .int .u64 0, .int .u64 0, .int .u64 0, .int .u64 0, .int .u64 0, .int .u64 0, .int .u64 0, .int .u64 0, .int .u64 0, .int .u64 0, .int .u64 0, .int .u64 0, .int .u64 0, .int .u64 0, .int .u64 0] 29)
          have h210q : Hid (Bo (u202q.alloc (.cells #[.int .u64 0, .int .u64 0, .int .u64 0, .int .u64 0, .int .u64 0, .int .u64 0, .int .u64 0, .int .u64 0, .int .u64 0, .int .u64 0, .int .u64 0, .int .u64 0, .int .u64 0, .int .u64 0, .int .u64 0, .int .u64 0, .int .u64 0] 29)) n [.int .i64 6, .int .i64 k, .int .i64 x]) := h204q.out.new (.cells #[.int .u64 0, .int .u64 0, .int .u64 0, .int .u64 0, .int .u64 0, .int .u64 0, .int .u64 0, .int .u64 0, .int .u64 0, .int .u64 0, .int .u64 0, .int .u64 0, .int .u64 0, .int .u64 0, .int .u64 0, .int .u64 0, .int .u64 0] 29)
          have h211q : Hid (Bo (u202q.alloc (.cells #[.int .u64 0, .int .u64 0, .int .u64 0, .int .u64 0, .int .u64 0, .int .u64 0, .int .u64 0, .int .u64 0, .int .u64 0, .int .u64 0, .int .u64 0, .int .u64 0, .int .u64 0, .int .u64 0, .int .u64 0, .int .u64 0, .int .u64 0] 29)) u7q.heap.size (wl c)) := h205q.out.new (.cells #[.int .u64 0, .int .u64 0, .int .u64 0, .int .u64 0, .int .u64 0, .int .u64 0, .int .u64 0, .int .u64 0, .int .u64 0, .int .u64 0, .int .u64 0, .int .u64 0, .int .u64 0, .int .u64 0, .int .u64 0, .int .u64 0, .int .u64 0] 29)
          clear h203q h204q h205q
          have h212q : Hid (Bo (u202q.alloc (.cells #[.int .u64 0, .int .u64 0, .int .u64 0, .int .u64 0, .int .u64 0, .int .u64 0, .int .u64 0, .int .u64 0, .int .u64 0, .int .u64 0, .int .u64 0, .int .u64 0, .int .u64 0, .int .u64 0, .int .u64 0, .int .u64 0, .int .u64 0] 29)) u202q.heap.size (wl wz)) := Bo.born u202q (wl wz) 29 (by simp)
          have h213q : Hid (Gd n w ((u202q.alloc (.cells #[.int .u64 0, .int .u64 0, .int .u64 0, .int .u64 0, .int .u64 0, .int .u64 0, .int .u64 0, .int .u64 0, .int .u64 0, .int .u64 0, .int .u64 0, .int .u64 0, .int .u64 0, .int .u64 0, .int .u64 0, .int .u64 0, .int .u64 0] 29)).alloc (.cells #[.int .i64 0, .int .i64 0] 32))) := h209q.out.new (.cells #[.int .i64 0, .int .i64 0] 32)
          have h214q : Hid (Bo ((u202q.alloc (.cells #[.int .u64 0, .int .u64 0, .int .u64 0, .int .u64 0, .int .u64 0, .int .u64 0, .int .u64 0, .int .u64 0, .int .u64 0, .int .u64 0, .int .u64 0, .int .u64 0, .int .u64 0, .int .u64 0, .int .u64 0, .int .u64 0, .int .u64 0] 29)).alloc (.cells #[.int .i64 0, .int .i64 0] 32)) n [.int .i64 6, .int .i64 k, .int .i64 x]) := h210q.out.new (.cells #[.int .i64 0, .int .i64 0] 32)
          have h215q : Hid (Bo ((u202q.alloc (.cells #[.int .u64 0, .int .u64 0, .int .u64 0, .int .u64 0, .int .u64 0, .int .u64 0, .int .u64 0, .int .u64 0, .int .u64 0, .int .u64 0, .int .u64 0, .int .u64 0, .int .u64 0, .int .u64 0, .int .u64 0, .int .u64 0, .int .u64 0] 29)).alloc (.cells #[.int .i64 0, .int .i64 0] 32)) u7q.heap.size (wl c)) := h211q.out.new (.cells #[.int .i64 0, .int .i64 0] 32)
          have h216q : Hid (Bo ((u202q.alloc (.cells #[.int .u64 0, .int .u64 0, .int .u64 0, .int .u64 0, .int .u64 0, .int .u64 0, .int .u64 0, .int .u64 0, .int .u64 0, .int .u64 0, .int .u64 0, .int .u64 0, .int .u64 0, .int .u64 0, .int .u64 0, .int .u64 0, .int .u64 0] 29)).alloc (.cells #[.int .i64 0, .int .i64 0] 32)) u202q.heap.size (wl wz)) := h212q.out.new (.cells #[.int .i64 0, .int .i64 0] 32)
          clear h209q h210q h211q h212q
          have h217q : Hid (Bo ((u202q.alloc (.cells #[.int .u64 0, .int .u64 0, .int .u64 0, .int .u64 0, .int .u64 0, .int .u64 0, .int .u64 0, .int .u64 0, .int .u64 0, .int .u64 0, .int .u64 0, .int .u64 0, .int .u64 0, .int .u64 0, .int .u64 0, .int .u64 0, .int .u64 0] 29)).alloc (.cells #[.int .i64 0, .int .i64 0] 32)) (u202q.heap.size + 1) [.int .i64 0, .int .i64 0]) := Bo.born (u202q.alloc (.cells #[.int .u64 0, .int .u64 0, .int .u64 0, .int .u64 0, .int .u64 0, .int .u64 0, .int .u64 0, .int .u64 0, .int .u64 0, .int .u64 0, .int .u64 0, .int .u64 0, .int .u64 0, .int .u64 0, .int .u64 0, .int .u64 0, .int .u64 0] 29)) [.int .i64 0, .int .i64 0] 32 (by simp)
          go_wp2_with (first
            | (refine wpList_store_mid rfl 29 _ _ rfl u202q.heap.size _ (wl c).toArray rfl rfl (h216q.out.thereW c) (HCZ.out c) (wl_all c) ?_
               have h218q : Hid (Gd n w (((u202q.alloc (.cells #[.int .u64 0, .int .u64 0, .int .u64 0, .int .u64 0, .int .u64 0, .int .u64 0, .int .u64 0, .int .u64 0, .int .u64 0, .int .u64 0, .int .u64 0, .int .u64 0, .int .u64 0, .int .u64 0, .int .u64 0, .int .u64 0, .int .u64 0] 29)).alloc (.cells #[.int .i64 0, .int .i64 0] 32)).setCells u202q.heap.size 0 (wl c))) := h213q.out.asideL (by omega) 0 (wl c)
               have h219q : Hid (Bo (((u202q.alloc (.cells #[.int .u64 0, .int .u64 0, .int .u64 0, .int .u64 0, .int .u64 0, .int .u64 0, .int .u64 0, .int .u64 0, .int .u64 0, .int .u64 0, .int .u64 0, .int .u64 0, .int .u64 0, .int .u64 0, .int .u64 0, .int .u64 0, .int .u64 0] 29)).alloc (.cells #[.int .i64 0, .int .i64 0] 32)).setCells u202q.heap.size 0 (wl c)) n [.int .i64 6, .int .i64 k, .int .i64 x]) := h214q.out.asideL (by omega) 0 (wl c)
               have h220q : Hid (Bo (((u202q.alloc (.cells #[.int .u64 0, .int .u64 0, .int .u64 0, .int .u64 0, .int .u64 0, .int .u64 0, .int .u64 0, .int .u64 0, .int .u64 0, .int .u64 0, .int .u64 0, .int .u64 0, .int .u64 0, .int .u64 0, .int .u64 0, .int .u64 0, .int .u64 0] 29)).alloc (.cells #[.int .i64 0, .int .i64 0] 32)).setCells u202q.heap.size 0 (wl c)) u7q.heap.size (wl c)) := h215q.out.asideL (by omega) 0 (wl c)
               have h221q : Hid (Bo (((u202q.alloc (.cells #[.int .u64 0, .int .u64 0, .int .u64 0, .int .u64 0, .int .u64 0, .int .u64 0, .int .u64 0, .int .u64 0, .int .u64 0, .int .u64 0, .int .u64 0, .int .u64 0, .int .u64 0, .int .u64 0, .int .u64 0, .int .u64 0, .int .u64 0] 29)).alloc (.cells #[.int .i64 0, .int .i64 0] 32)).setCells u202q.heap.size 0 (wl c)) u202q.heap.size (wl c)) := h216q.out.setW c
               have h222q : Hid (Bo (((u202q.alloc (.cells #[.int .u64 0, .int .u64 0, .int .u64 0, .int .u64 0, .int .u64 0, .int .u64 0, .int .u64 0, .int .u64 0, .int .u64 0, .int .u64 0, .int .u64 0, .int .u64 0, .int .u64 0, .int .u64 0, .int .u64 0, .int .u64 0, .int .u64 0] 29)).alloc (.cells #[.int .i64 0, .int .i64 0] 32)).setCells u202q.heap.size 0 (wl c)) (u202q.heap.size + 1) [.int .i64 0, .int .i64 0]) := h217q.out.asideL (by omega) 0 (wl c)
               clear h213q h214q h215q h216q h217q
               generalize (((u202q.alloc (.cells #[.int .u64 0, .int .u64 0, .int .u64 0, .int .u64 0, .int .u64 0, .int .u64 0, .int .u64 0, .int .u64 0, .int .u64 0, .int .u64 0, .int .u64 0, .int .u64 0, .int .u64 0, .int .u64 0, .int .u64 0, .int .u64 0, .int .u64 0] 29)).alloc (.cells #[.int .i64 0, .int .i64 0] 32)).setCells u202q.heap.size 0 (wl c)) = u223q at h218q h219q h220q h221q h222q  ⊢)
            | (refine wpList_store_mid rfl 32 _ _ rfl (u202q.heap.size + 1) _ #[.int .i64 (cc), .int .i64 (yy)] rfl rfl h222q.out.there2 HA.out (two_one _ _) ?_
               have h224q : Hid (Gd n w (u223q.setCells (u202q.heap.size + 1) 0 [.int .i64 (cc), .int .i64 (yy)])) := h218q.out.asideL (by omega) 0 [.int .i64 (cc), .int .i64 (yy)]
               have h225q : Hid (Bo (u223q.setCells (u202q.heap.size + 1) 0 [.int .i64 (cc), .int .i64 (yy)]) n [.int .i64 6, .int .i64 k, .int .i64 x]) := h219q.out.asideL (by omega) 0 [.int .i64 (cc), .int .i64 (yy)]
               have h226q : Hid (Bo (u223q.setCells (u202q.heap.size + 1) 0 [.int .i64 (cc), .int .i64 (yy)]) u7q.heap.size (wl c)) := h220q.out.asideL (by omega) 0 [.int .i64 (cc), .int .i64 (yy)]
               have h227q : Hid (Bo (u223q.setCells (u202q.heap.size + 1) 0 [.int .i64 (cc), .int .i64 (yy)]) u202q.heap.size (wl c)) := h221q.out.asideL (by omega) 0 [.int .i64 (cc), .int .i64 (yy)]
               have h228q : Hid (Bo (u223q.setCells (u202q.heap.size + 1) 0 [.int .i64 (cc), .int .i64 (yy)]) (u202q.heap.size + 1) [.int .i64 (cc), .int .i64 (yy)]) := h222q.out.set2 (.int .i64 (cc)) (.int .i64 (yy))
               clear h218q h219q h220q h221q h222q
               generalize (u223q.setCells (u202q.heap.size + 1) 0 [.int .i64 (cc), .int .i64 (yy)]) = u229q at h224q h225q h226q h227q h228q  ⊢
               have c230q := h225q.out.at 0 rfl
               have c231q := h228q.out.at 0 rfl
               have c232q := h228q.out.at 1 rfl)
            | (refine wpList_load_mid rfl 29 _ rfl u7q.heap.size _ rfl (wl c) _ h226q.out.range HC.out rfl (HCS.out c) ?_))
          refine (RC.out _).mono ?_
          rintro e u233q ⟨rfl, hb⟩
          have h234q : Hid (Gd n w u233q) := h224q.out.later hb
          have h235q : Hid (Bo u233q n [.int .i64 6, .int .i64 k, .int .i64 x]) := h225q.out.later hb
          have h236q : Hid (Bo u233q u7q.heap.size (wl c)) := h226q.out.later hb
          have h237q : Hid (Bo u233q u202q.heap.size (wl c)) := h227q.out.later hb
          have h238q : Hid (Bo u233q (u202q.heap.size + 1) [.int .i64 (cc), .int .i64 (yy)]) := h228q.out.later hb
          clear h224q h225q h226q h227q h228q
          clear hb
          go_wp2_with (first
            | (refine wpList_load_wanted (by rfl) 29 _ rfl u202q.heap.size _ rfl (wl c) _ h237q.out.range HC.out rfl (HCS.out c) ?_))
          refine (RU.out _).mono ?_
          rintro e u239q ⟨rfl, hb⟩
          have h240q : Hid (Gd n w u239q) := h234q.out.later hb
          have h241q : Hid (Bo u239q n [.int .i64 6, .int .i64 k, .int .i64 x]) := h235q.out.later hb
          have h242q : Hid (Bo u239q u7q.heap.size (wl c)) := h236q.out.later hb
          have h243q : Hid (Bo u239q u202q.heap.size (wl c)) := h237q.out.later hb
          have h244q : Hid (Bo u239q (u202q.heap.size + 1) [.int .i64 (cc), .int .i64 (yy)]) := h238q.out.later hb
          clear h234q h235q h236q h237q h238q
          clear hb
          have c245q := h244q.out.at 0 rfl
          have c246q := h244q.out.at 1 rfl
          go_wp2_with fail
          refine (FI.out _).mono ?_
          rintro e u247q ⟨rfl, hb⟩
          have h248q : Hid (Gd n w u247q) := h240q.out.later hb
          have h249q : Hid (Bo u247q n [.int .i64 6, .int .i64 k, .int .i64 x]) := h241q.out.later hb
          have h250q : Hid (Bo u247q u7q.heap.size (wl c)) := h242q.out.later hb
          have h251q : Hid (Bo u247q u202q.heap.size (wl c)) := h243q.out.later hb
          have h252q : Hid (Bo u247q (u202q.heap.size + 1) [.int .i64 (cc), .int .i64 (yy)]) := h244q.out.later hb
          clear h240q h241q h242q h243q h244q
          clear hb
          have c253q := h252q.out.at 0 rfl
          have c254q := h252q.out.at 1 rfl
          go_wp2_with (first
            | (refine wpList_load_wanted (by rfl) 29 _ rfl u202q.heap.size _ rfl (wl c) _ h251q.out.range HC.out rfl (HCS.out c) ?_)
            | (refine wpList_load_wanted (by rfl) 29 _ rfl u7q.heap.size _ rfl (wl c) _ h250q.out.range HC.out rfl (HCS.out c) ?_))
          go_ret
          exact ⟨rfl, by first | exact h248q.out.low | exact h248q.out.2⟩
      · have m5 : (o == 5) = false := by simp [e5]
        have m6 : (o == 6) = false := by simp [e6]
        clear e5 e6
        by_cases hcc : cc = 1
        · subst hcc
          clear SM
          go_wp2_with (first
            | (refine wpList_store_mid rfl 29 _ _ rfl u7q.heap.size _ (wl c).toArray rfl rfl (h14q.out.thereW c) (HCZ.out c) (wl_all c) ?_
               have h255q : Hid (Gd n w ((u7q.alloc (.cells #[.int .u64 0, .int .u64 0, .int .u64 0, .int .u64 0, .int .u64 0, .int .u64 0, .int .u64 0, .int .u64 0, .int .u64 0, .int .u64 0, .int .u64 0, .int .u64 0, .int .u64 0, .int .u64 0, .int .u64 0, .int .u64 0, .int .u64 0] 29)).setCells u7q.heap.size 0 (wl c))) := h12q.out.asideL (by omega) 0 (wl c)
               have h256q : Hid (Bo ((u7q.alloc (.cells #[.int .u64 0, .int .u64 0, .int .u64 0, .int .u64 0, .int .u64 0, .int .u64 0, .int .u64 0, .int .u64 0, .int .u64 0, .int .u64 0, .int .u64 0, .int .u64 0, .int .u64 0, .int .u64 0, .int .u64 0, .int .u64 0, .int .u64 0] 29)).setCells u7q.heap.size 0 (wl c)) n [.int .i64 o, .int .i64 k, .int .i64 x]) := h13q.out.asideL (by omega) 0 (wl c)
               have h257q : Hid (Bo ((u7q.alloc (.cells #[.int .u64 0, .int .u64 0, .int .u64 0, .int .u64 0, .int .u64 0, .int .u64 0, .int .u64 0, .int .u64 0, .int .u64 0, .int .u64 0, .int .u64 0, .int .u64 0, .int .u64 0, .int .u64 0, .int .u64 0, .int .u64 0, .int .u64 0] 29)).setCells u7q.heap.size 0 (wl c)) u7q.heap.size (wl c)) := h14q.out.setW c
               clear h12q h13q h14q
               generalize ((u7q.alloc (.cells #[.int .u64 0, .int .u64 0, .int .u64 0, .int .u64 0, .int .u64 0, .int .u64 0, .int .u64 0, .int .u64 0, .int .u64 0, .int .u64 0, .int .u64 0, .int .u64 0, .int .u64 0, .int .u64 0, .int .u64 0, .int .u64 0, .int .u64 0] 29)).setCells u7q.heap.size 0 (wl c)) = u258q at h255q h256q h257q  ⊢
               have c259q := h256q.out.at 0 rfl
               have c260q := h256q.out.at 1 rfl
               have c261q := h256q.out.at 2 rfl)
            | (refine wpList_load_mid rfl 29 _ rfl u7q.heap.size _ rfl (wl c) _ h257q.out.range HC.out rfl (HCS.out c) ?_))
          refine (DO.out _).mono ?_
          rintro e u262q ⟨rfl, hb⟩
          have h263q : Hid (Gd n w u262q) := h255q.out.later hb
          have h264q : Hid (Bo u262q n [.int .i64 o, .int .i64 k, .int .i64 x]) := h256q.out.later hb
          have h265q : Hid (Bo u262q u7q.heap.size (wl c)) := h257q.out.later hb
          clear h255q h256q h257q
          clear hb
          have l266q : n ≤ u262q.heap.size := h263q.out.le
          have l267q : n < u262q.heap.size := h264q.out.lt
          have l268q : u7q.heap.size < u262q.heap.size := h265q.out.lt
          have h269q : Hid (Gd n w (u262q.alloc (.cells #[.int .u64 0, .int .u64 0, .int .u64 0, .int .u64 0, .int .u64 0, .int .u64 0, .int .u64 0, .int .u64 0, .int .u64 0, .int .u64 0, .int .u64 0, .int .u64 0, .int .u64 0, .int .u64 0, .int .u64 0, .int .u64 0, .int .u64 0] 29))) := h263q.out.new (.cells #[.int .u64 0, .int .u64 0, .int .u64 0, .int .u64 0, .int .u64 0, .int .u64 0, .int .u64 0, .int .u64 0, .int .u64 0, .int .u64 0, .int .u64 0, .int .u64 0, .int .u64 0, .int .u64 0, .int .u64 0, .int .u64 0, .int .u64 0] 29)
          have h270q : Hid (Bo (u262q.alloc (.cells #[.int .u64 0, .int .u64 0, .int .u64 0, .int .u64 0, .int .u64 0, .int .u64 0, .int .u64 0, .int .u64 0, .int .u64 0, .int .u64 0, .int .u64 0, .int .u64 0, .int .u64 0, .int .u64 0, .int .u64 0, .int .u64 0, .int .u64 0] 29)) n [.int .i64 o, .int .i64 k, .int .i64 x]) := h264q.out.new (.cells #[.int .u64 0, .int .u64 0, .int .u64 0, .int .u64 0, .int .u64 0, .int .u64 0, .int .u64 0, .int .u64 0, .int .u64 0, .int .u64 0, .int .u64 0, .int .u64 0, .int .u64 0, .int .u64 0, .int .u64 0, .int .u64 0, .int .u64 0] 29)
          have h271q : Hid (Bo (u262q.alloc (.cells #[.int .u64 0, .int .u64 0, .int .u64 0, .int .u64 0, .int .u64 0, .int .u64 0, .int .u64 0, .int .u64 0, .int .u64 0, .int .u64 0, .int .u64 0, .int .u64 0, .int .u64 0, .int .u64 0, .int .u64 0, .int .u64 0, .int .u64 0] 29)) u7q.heap.size (wl c)) := h265q.out.new (.cells #[.int .u64 0, .int .u64 0, .int .u64 0, .int .u64 0, .int .u64 0, .int .u64 0, .int .u64 0, .int .u64 0, .int .u64 0, .int .u64 0, .int .u64 0, .int .u64 0, .int .u64 0, .int .u64 0, .int .u64 0, .int .u64 0, .int .u64 0] 29)
          clear h263q h264q h265q
          have h272q : Hid (Bo (u262q.alloc (.cells #[.int .u64 0, .int .u64 0, .int .u64 0, .int .u64 0, .int .u64 0, .int .u64 0, .int .u64 0, .int .u64 0, .int .u64 0, .int .u64 0, .int .u64 0, .int .u64 0, .int .u64 0, .int .u64 0, .int .u64 0, .int .u64 0, .int .u64 0] 29)) u262q.heap.size (wl wz)) := Bo.born u262q (wl wz) 29 (by simp)
          have h273q : Hid (Gd n w ((u262q.alloc (.cells #[.int .u64 0, .int .u64 0, .int .u64 0, .int .u64 0, .int .u64 0, .int .u64 0, .int .u64 0, .int .u64 0, .int .u64 0, .int .u64 0, .int .u64 0, .int .u64 0, .int .u64 0, .int .u64 0, .int .u64 0, .int .u64 0, .int .u64 0] 29)).alloc (.cells #[.int .i64 0, .int .i64 0] 32))) := h269q.out.new (.cells #[.int .i64 0, .int .i64 0] 32)
          have h274q : Hid (Bo ((u262q.alloc (.cells #[.int .u64 0, .int .u64 0, .int .u64 0, .int .u64 0, .int .u64 0, .int .u64 0, .int .u64 0, .int .u64 0, .int .u64 0, .int .u64 0, .int .u64 0, .int .u64 0, .int .u64 0, .int .u64 0, .int .u64 0, .int .u64 0, .int .u64 0] 29)).alloc (.cells #[.int .i64 0, .int .i64 0] 32)) n [.int .i64 o, .int .i64 k, .int .i64 x]) := h270q.out.new (.cells #[.int .i64 0, .int .i64 0] 32)
          have h275q : Hid (Bo ((u262q.alloc (.cells #[.int .u64 0, .int .u64 0, .int .u64 0, .int .u64 0, .int .u64 0, .int .u64 0, .int .u64 0, .int .u64 0, .int .u64 0, .int .u64 0, .int .u64 0, .int .u64 0, .int .u64 0, .int .u64 0, .int .u64 0, .int .u64 0, .int .u64 0] 29)).alloc (.cells #[.int .i64 0, .int .i64 0] 32)) u7q.heap.size (wl c)) := h271q.out.new (.cells #[.int .i64 0, .int .i64 0] 32)
          have h276q : Hid (Bo ((u262q.alloc (.cells #[.int .u64 0, .int .u64 0, .int .u64 0, .int .u64 0, .int .u64 0, .int .u64 0, .int .u64 0, .int .u64 0, .int .u64 0, .int .u64 0, .int .u64 0, .int .u64 0, .int .u64 0, .int .u64 0, .int .u64 0, .int .u64 0, .int .u64 0] 29)).alloc (.cells #[.int .i64 0, .int .i64 0] 32)) u262q.heap.size (wl wz)) := h272q.out.new (.cells #[.int .i64 0, .int .i64 0] 32)
          clear h269q h270q h271q h272q
          have h277q : Hid (Bo ((u262q.alloc (.cells #[.int .u64 0, .int .u64 0, .int .u64 0, .int .u64 0, .int .u64 0, .int .u64 0, .int .u64 0, .int .u64 0, .int .u64 0, .int .u64 0, .int .u64 0, .int .u64 0, .int .u64 0, .int .u64 0, .int .u64 0, .int .u64 0, .int .u64 0] 29)).alloc (.cells #[.int .i64 0, .int .i64 0] 32)) (u262q.heap.size + 1) [.int .i64 0, .int .i64 0]) := Bo.born (u262q.alloc (.cells #[.int .u64 0, .int .u64 0, .int .u64 0, .int .u64 0, .int .u64 0, .int .u64 0, .int .u64 0, .int .u64 0, .int .u64 0, .int .u64 0, .int .u64 0, .int .u64 0, .int .u64 0, .int .u64 0, .int .u64 0, .int .u64 0, .int .u64 0] 29)) [.int .i64 0, .int .i64 0] 32 (by simp)
          go_wp2_with (first
            | (refine wpList_store_mid rfl 29 _ _ rfl u262q.heap.size _ (wl u).toArray rfl rfl (h276q.out.thereW u) (HCZ.out u) (wl_all u) ?_
               have h278q : Hid (Gd n w (((u262q.alloc (.cells #[.int .u64 0, .int .u64 0, .int .u64 0, .int .u64 0, .int .u64 0, .int .u64 0, .int .u64 0, .int .u64 0, .int .u64 0, .int .u64 0, .int .u64 0, .int .u64 0, .int .u64 0, .int .u64 0, .int .u64 0, .int .u64 0, .int .u64 0] 29)).alloc (.cells #[.int .i64 0, .int .i64 0] 32)).setCells u262q.heap.size 0 (wl u))) := h273q.out.asideL (by omega) 0 (wl u)
               have h279q : Hid (Bo (((u262q.alloc (.cells #[.int .u64 0, .int .u64 0, .int .u64 0, .int .u64 0, .int .u64 0, .int .u64 0, .int .u64 0, .int .u64 0, .int .u64 0, .int .u64 0, .int .u64 0, .int .u64 0, .int .u64 0, .int .u64 0, .int .u64 0, .int .u64 0, .int .u64 0] 29)).alloc (.cells #[.int .i64 0, .int .i64 0] 32)).setCells u262q.heap.size 0 (wl u)) n [.int .i64 o, .int .i64 k, .int .i64 x]) := h274q.out.asideL (by omega) 0 (wl u)
               have h280q : Hid (Bo (((u262q.alloc (.cells #[.int .u64 0, .int .u64 0, .int .u64 0, .int .u64 0, .int .u64 0, .int .u64 0, .int .u64 0, .int .u64 0, .int .u64 0, .int .u64 0, .int .u64 0, .int .u64 0, .int .u64 0, .int .u64 0, .int .u64 0, .int .u64 0, .int .u64 0] 29)).alloc (.cells #[.int .i64 0, .int .i64 0] 32)).setCells u262q.heap.size 0 (wl u)) u7q.heap.size (wl c)) := h275q.out.asideL (by omega) 0 (wl u)
               have h281q : Hid (Bo (((u262q.alloc (.cells #[.int .u64 0, .int .u64 0, .int .u64 0, .int .u64 0, .int .u64 0, .int .u64 0, .int .u64 0, .int .u64 0, .int .u64 0, .int .u64 0, .int .u64 0, .int .u64 0, .int .u64 0, .int .u64 0, .int .u64 0, .int .u64 0, .int .u64 0] 29)).alloc (.cells #[.int .i64 0, .int .i64 0] 32)).setCells u262q.heap.size 0 (wl u)) u262q.heap.size (wl u)) := h276q.out.setW u
               have h282q : Hid (Bo (((u262q.alloc (.cells #[.int .u64 0, .int .u64 0, .int .u64 0, .int .u64 0, .int .u64 0, .int .u64 0, .int .u64 0, .int .u64 0, .int .u64 0, .int .u64 0, .int .u64 0, .int .u64 0, .int .u64 0, .int .u64 0, .int .u64 0, .int .u64 0, .int .u64 0] 29)).alloc (.cells #[.int .i64 0, .int .i64 0] 32)).setCells u262q.heap.size 0 (wl u)) (u262q.heap.size + 1) [.int .i64 0, .int .i64 0]) := h277q.out.asideL (by omega) 0 (wl u)
               clear h273q h274q h275q h276q h277q
               generalize (((u262q.alloc (.cells #[.int .u64 0, .int .u64 0, .int .u64 0, .int .u64 0, .int .u64 0, .int .u64 0, .int .u64 0, .int .u64 0, .int .u64 0, .int .u64 0, .int .u64 0, .int .u64 0, .int .u64 0, .int .u64 0, .int .u64 0, .int .u64 0, .int .u64 0] 29)).alloc (.cells #[.int .i64 0, .int .i64 0] 32)).setCells u262q.heap.size 0 (wl u)) = u283q at h278q h279q h280q h281q h282q  ⊢)
            | (refine wpList_store_mid rfl 32 _ _ rfl (u262q.heap.size + 1) _ #[.int .i64 (1), .int .i64 (yy)] rfl rfl h282q.out.there2 HA.out (two_one _ _) ?_
               have h284q : Hid (Gd n w (u283q.setCells (u262q.heap.size + 1) 0 [.int .i64 (1), .int .i64 (yy)])) := h278q.out.asideL (by omega) 0 [.int .i64 (1), .int .i64 (yy)]
               have h285q : Hid (Bo (u283q.setCells (u262q.heap.size + 1) 0 [.int .i64 (1), .int .i64 (yy)]) n [.int .i64 o, .int .i64 k, .int .i64 x]) := h279q.out.asideL (by omega) 0 [.int .i64 (1), .int .i64 (yy)]
               have h286q : Hid (Bo (u283q.setCells (u262q.heap.size + 1) 0 [.int .i64 (1), .int .i64 (yy)]) u7q.heap.size (wl c)) := h280q.out.asideL (by omega) 0 [.int .i64 (1), .int .i64 (yy)]
               have h287q : Hid (Bo (u283q.setCells (u262q.heap.size + 1) 0 [.int .i64 (1), .int .i64 (yy)]) u262q.heap.size (wl u)) := h281q.out.asideL (by omega) 0 [.int .i64 (1), .int .i64 (yy)]
               have h288q : Hid (Bo (u283q.setCells (u262q.heap.size + 1) 0 [.int .i64 (1), .int .i64 (yy)]) (u262q.heap.size + 1) [.int .i64 (1), .int .i64 (yy)]) := h282q.out.set2 (.int .i64 (1)) (.int .i64 (yy))
               clear h278q h279q h280q h281q h282q
               generalize (u283q.setCells (u262q.heap.size + 1) 0 [.int .i64 (1), .int .i64 (yy)]) = u289q at h284q h285q h286q h287q h288q  ⊢
               have c290q := h285q.out.at 0 rfl
               have c291q := h288q.out.at 0 rfl
               have c292q := h288q.out.at 1 rfl)
            | (refine wpList_load_mid rfl 29 _ rfl u7q.heap.size _ rfl (wl c) _ h286q.out.range HC.out rfl (HCS.out c) ?_))
          refine (RC.out _).mono ?_
          rintro e u293q ⟨rfl, hb⟩
          have h294q : Hid (Gd n w u293q) := h284q.out.later hb
          have h295q : Hid (Bo u293q n [.int .i64 o, .int .i64 k, .int .i64 x]) := h285q.out.later hb
          have h296q : Hid (Bo u293q u7q.heap.size (wl c)) := h286q.out.later hb
          have h297q : Hid (Bo u293q u262q.heap.size (wl u)) := h287q.out.later hb
          have h298q : Hid (Bo u293q (u262q.heap.size + 1) [.int .i64 (1), .int .i64 (yy)]) := h288q.out.later hb
          clear h284q h285q h286q h287q h288q
          clear hb
          go_wp2_with (first
            | (refine wpList_load_wanted (by rfl) 29 _ rfl u262q.heap.size _ rfl (wl u) _ h297q.out.range HC.out rfl (HCS.out u) ?_))
          refine (RU.out _).mono ?_
          rintro e u299q ⟨rfl, hb⟩
          have h300q : Hid (Gd n w u299q) := h294q.out.later hb
          have h301q : Hid (Bo u299q n [.int .i64 o, .int .i64 k, .int .i64 x]) := h295q.out.later hb
          have h302q : Hid (Bo u299q u7q.heap.size (wl c)) := h296q.out.later hb
          have h303q : Hid (Bo u299q u262q.heap.size (wl u)) := h297q.out.later hb
          have h304q : Hid (Bo u299q (u262q.heap.size + 1) [.int .i64 (1), .int .i64 (yy)]) := h298q.out.later hb
          clear h294q h295q h296q h297q h298q
          clear hb
          have c305q := h304q.out.at 0 rfl
          have c306q := h304q.out.at 1 rfl
          go_wp2_with fail
          refine (FI.out _).mono ?_
          rintro e u307q ⟨rfl, hb⟩
          have h308q : Hid (Gd n w u307q) := h300q.out.later hb
          have h309q : Hid (Bo u307q n [.int .i64 o, .int .i64 k, .int .i64 x]) := h301q.out.later hb
          have h310q : Hid (Bo u307q u7q.heap.size (wl c)) := h302q.out.later hb
          have h311q : Hid (Bo u307q u262q.heap.size (wl u)) := h303q.out.later hb
          have h312q : Hid (Bo u307q (u262q.heap.size + 1) [.int .i64 (1), .int .i64 (yy)]) := h304q.out.later hb
          clear h300q h301q h302q h303q h304q
          clear hb
          have c313q := h312q.out.at 0 rfl
          have c314q := h312q.out.at 1 rfl
          go_wp2
          go_ret
          exact ⟨rfl, by first | exact h308q.out.low | exact h308q.out.2⟩
        · have hs : wl u = wl c := SM.out (Or.inl hcc)
          unfold DidD at DO
          rw [hs] at DO RU
          clear hs
          clear SM
          have mcc : (cc == 1) = false := by simp [hcc]
          clear hcc
          go_wp2_with (first
            | (refine wpList_store_mid rfl 29 _ _ rfl u7q.heap.size _ (wl c).toArray rfl rfl (h14q.out.thereW c) (HCZ.out c) (wl_all c) ?_
               have h315q : Hid (Gd n w ((u7q.alloc (.cells #[.int .u64 0, .int .u64 0, .int .u64 0, .int .u64 0, .int .u64 0, .int .u64 0, .int .u64 0, .int .u64 0, .int .u64 0, .int .u64 0, .int .u64 0, .int .u64 0, .int .u64 0, .int .u64 0, .int .u64 0, .int .u64 0, .int .u64 0] 29)).setCells u7q.heap.size 0 (wl c))) := h12q.out.asideL (by omega) 0 (wl c)
               have h316q : Hid (Bo ((u7q.alloc (.cells #[.int .u64 0, .int .u64 0, .int .u64 0, .int .u64 0, .int .u64 0, .int .u64 0, .int .u64 0, .int .u64 0, .int .u64 0, .int .u64 0, .int .u64 0, .int .u64 0, .int .u64 0, .int .u64 0, .int .u64 0, .int .u64 0, .int .u64 0] 29)).setCells u7q.heap.size 0 (wl c)) n [.int .i64 o, .int .i64 k, .int .i64 x]) := h13q.out.asideL (by omega) 0 (wl c)
               have h317q : Hid (Bo ((u7q.alloc (.cells #[.int .u64 0, .int .u64 0, .int .u64 0, .int .u64 0, .int .u64 0, .int .u64 0, .int .u64 0, .int .u64 0, .int .u64 0, .int .u64 0, .int .u64 0, .int .u64 0, .int .u64 0, .int .u64 0, .int .u64 0, .int .u64 0, .int .u64 0] 29)).setCells u7q.heap.size 0 (wl c)) u7q.heap.size (wl c)) := h14q.out.setW c
               clear h12q h13q h14q
               generalize ((u7q.alloc (.cells #[.int .u64 0, .int .u64 0, .int .u64 0, .int .u64 0, .int .u64 0, .int .u64 0, .int .u64 0, .int .u64 0, .int .u64 0, .int .u64 0, .int .u64 0, .int .u64 0, .int .u64 0, .int .u64 0, .int .u64 0, .int .u64 0, .int .u64 0] 29)).setCells u7q.heap.size 0 (wl c)) = u318q at h315q h316q h317q  ⊢
               have c319q := h316q.out.at 0 rfl
               have c320q := h316q.out.at 1 rfl
               have c321q := h316q.out.at 2 rfl)
            | (refine wpList_load_mid rfl 29 _ rfl u7q.heap.size _ rfl (wl c) _ h317q.out.range HC.out rfl (HCS.out c) ?_))
          refine (DO.out _).mono ?_
          rintro e u322q ⟨rfl, hb⟩
          have h323q : Hid (Gd n w u322q) := h315q.out.later hb
          have h324q : Hid (Bo u322q n [.int .i64 o, .int .i64 k, .int .i64 x]) := h316q.out.later hb
          have h325q : Hid (Bo u322q u7q.heap.size (wl c)) := h317q.out.later hb
          clear h315q h316q h317q
          clear hb
          have l326q : n ≤ u322q.heap.size := h323q.out.le
          have l327q : n < u322q.heap.size := h324q.out.lt
          have l328q : u7q.heap.size < u322q.heap.size := h325q.out.lt
          have h329q : Hid (Gd n w (u322q.alloc (.cells #[.int .u64 0, .int .u64 0, .int .u64 0, .int .u64 0, .int .u64 0, .int .u64 0, .int .u64 0, .int .u64 0, .int .u64 0, .int .u64 0, .int .u64 0, .int .u64 0, .int .u64 0, .int .u64 0, .int .u64 0, .int .u64 0, .int .u64 0] 29))) := h323q.out.new (.cells #[.int .u64 0, .int .u64 0, .int .u64 0, .int .u64 0, .int .u64 0, .int .u64 0, .int .u64 0, .int .u64 0, .int .u64 0, .int .u64 0, .int .u64 0, .int .u64 0, .int .u64 0, .int .u64 0, .int .u64 0, .int .u64 0, .int .u64 0] 29)
          have h330q : Hid (Bo (u322q.alloc (.cells #[.int .u64 0, .int .u64 0, .int .u64 0, .int .u64 0, .int .u64 0, .int .u64 0, .int .u64 0, .int .u64 0, .int .u64 0, .int .u64 0, .int .u64 0, .int .u64 0, .int .u64 0, .int .u64 0, .int .u64 0, .int .u64 0, .int .u64 0] 29)) n [.int .i64 o, .int .i64 k, .int .i64 x]) := h324q.out.new (.cells #[.int .u64 0, .int .u64 0, .int .u64 0, .int .u64 0, .int .u64 0, .int .u64 0, .int .u64 0, .int .u64 0, .int .u64 0, .int .u64 0, .int .u64 0, .int .u64 0, .int .u64 0, .int .u64 0, .int .u64 0, .int .u64 0, .int .u64 0] 29)
          have h331q : Hid (Bo (u322q.alloc (.cells #[.int .u64 0, .int .u64 0, .int .u64 0, .int .u64 0, .int .u64 0, .int .u64 0, .int .u64 0, .int .u64 0, .int .u64 0, .int .u64 0, .int .u64 0, .int .u64 0, .int .u64 0, .int .u64 0, .int .u64 0, .int .u64 0, .int .u64 0] 29)) u7q.heap.size (wl c)) := h325q.out.new (.cells #[.int .u64 0, .int .u64 0, .int .u64 0, .int .u64 0, .int .u64 0, .int .u64 0, .int .u64 0, .int .u64 0, .int .u64 0, .int .u64 0, .int .u64 0, .int .u64 0, .int .u64 0, .int .u64 0, .int .u64 0, .int .u64 0, .int .u64 0] 29)
          clear h323q h324q h325q
          have h332q : Hid (Bo (u322q.alloc (.cells #[.int .u64 0, .int .u64 0, .int .u64 0, .int .u64 0, .int .u64 0, .int .u64 0, .int .u64 0, .int .u64 0, .int .u64 0, .int .u64 0, .int .u64 0, .int .u64 0, .int .u64 0, .int .u64 0, .int .u64 0, .int .u64 0, .int .u64 0] 29)) u322q.heap.size (wl wz)) := Bo.born u322q (wl wz) 29 (by simp)
          have h333q : Hid (Gd n w ((u322q.alloc (.cells #[.int .u64 0, .int .u64 0, .int .u64 0, .int .u64 0, .int .u64 0, .int .u64 0, .int .u64 0, .int .u64 0, .int .u64 0, .int .u64 0, .int .u64 0, .int .u64 0, .int .u64 0, .int .u64 0, .int .u64 0, .int .u64 0, .int .u64 0] 29)).alloc (.cells #[.int .i64 0, .int .i64 0] 32))) := h329q.out.new (.cells #[.int .i64 0, .int .i64 0] 32)
          have h334q : Hid (Bo ((u322q.alloc (.cells #[.int .u64 0, .int .u64 0, .int .u64 0, .int .u64 0, .int .u64 0, .int .u64 0, .int .u64 0, .int .u64 0, .int .u64 0, .int .u64 0, .int .u64 0, .int .u64 0, .int .u64 0, .int .u64 0, .int .u64 0, .int .u64 0, .int .u64 0] 29)).alloc (.cells #[.int .i64 0, .int .i64 0] 32)) n [.int .i64 o, .int .i64 k, .int .i64 x]) := h330q.out.new (.cells #[.int .i64 0, .int .i64 0] 32)
          have h335q : Hid (Bo ((u322q.alloc (.cells #[.int .u64 0, .int .u64 0, .int .u64 0, .int .u64 0, .int .u64 0, .int .u64 0, .int .u64 0, .int .u64 0, .int .u64 0, .int .u64 0, .int .u64 0, .int .u64 0, .int .u64 0, .int .u64 0, .int .u64 0, .int .u64 0, .int .u64 0] 29)).alloc (.cells #[.int .i64 0, .int .i64 0] 32)) u7q.heap.size (wl c)) := h331q.out.new (.cells #[.int .i64 0, .int .i64 0] 32)
          have h336q : Hid (Bo ((u322q.alloc (.cells #[.int .u64 0, .int .u64 0, .int .u64 0, .int .u64 0, .int .u64 0, .int .u64 0, .int .u64 0, .int .u64 0, .int .u64 0, .int .u64 0, .int .u64 0, .int .u64 0, .int .u64 0, .int .u64 0, .int .u64 0, .int .u64 0, .int .u64 0] 29)).alloc (.cells #[.int .i64 0, .int .i64 0] 32)) u322q.heap.size (wl wz)) := h332q.out.new (.cells #[.int .i64 0, .int .i64 0] 32)
          clear h329q h330q h331q h332q
          have h337q : Hid (Bo ((u322q.alloc (.cells #[.int .u64 0, .int .u64 0, .int .u64 0, .int .u64 0, .int .u64 0, .int .u64 0, .int .u64 0, .int .u64 0, .int .u64 0, .int .u64 0, .int .u64 0, .int .u64 0, .int .u64 0, .int .u64 0, .int .u64 0, .int .u64 0, .int .u64 0] 29)).alloc (.cells #[.int .i64 0, .int .i64 0] 32)) (u322q.heap.size + 1) [.int .i64 0, .int .i64 0]) := Bo.born (u322q.alloc (.cells #[.int .u64 0, .int .u64 0, .int .u64 0, .int .u64 0, .int .u64 0, .int .u64 0, .int .u64 0, .int .u64 0, .int .u64 0, .int .u64 0, .int .u64 0, .int .u64 0, .int .u64 0, .int .u64 0, .int .u64 0, .int .u64 0, .int .u64 0] 29)) [.int .i64 0, .int .i64 0] 32 (by simp)
          go_wp2_with (first
            | (refine wpList_store_mid rfl 29 _ _ rfl u322q.heap.size _ (wl c).toArray rfl rfl (h336q.out.thereW c) (HCZ.out c) (wl_all c) ?_
               have h338q : Hid (Gd n w (((u322q.alloc (.cells #[.int .u64 0, .int .u64 0, .int .u64 0, .int .u64 0, .int .u64 0, .int .u64 0, .int .u64 0, .int .u64 0, .int .u64 0, .int .u64 0, .int .u64 0, .int .u64 0, .int .u64 0, .int .u64 0, .int .u64 0, .int .u64 0, .int .u64 0] 29)).alloc (.cells #[.int .i64 0, .int .i64 0] 32)).setCells u322q.heap.size 0 (wl c))) := h333q.out.asideL (by omega) 0 (wl c)
               have h339q : Hid (Bo (((u322q.alloc (.cells #[.int .u64 0, .int .u64 0, .int .u64 0, .int .u64 0, .int .u64 0, .int .u64 0, .int .u64 0, .int .u64 0, .int .u64 0, .int .u64 0, .int .u64 0, .int .u64 0, .int .u64 0, .int .u64 0, .int .u64 0, .int .u64 0, .int .u64 0] 29)).alloc (.cells #[.int .i64 0, .int .i64 0] 32)).setCells u322q.heap.size 0 (wl c)) n [.int .i64 o, .int .i64 k, .int .i64 x]) := h334q.out.asideL (by omega) 0 (wl c)
               have h340q : Hid (Bo (((u322q.alloc (.cells #[.int .u64 0, .int .u64 0, .int .u64 0, .int .u64 0, .int .u64 0, .int .u64 0, .int .u64 0, .int .u64 0, .int .u64 0, .int .u64 0, .int .u64 0, .int .u64 0, .int .u64 0, .int .u64 0, .int .u64 0, .int .u64 0, .int .u64 0] 29)).alloc (.cells #[.int .i64 0, .int .i64 0] 32)).setCells u322q.heap.size 0 (wl c)) u7q.heap.size (wl c)) := h335q.out.asideL (by omega) 0 (wl c)
               have h341q : Hid (Bo (((u322q.alloc (.cells #[.int .u64 0, .int .u64 0, .int .u64 0, .int .u64 0, .int .u64 0, .int .u64 0, .int .u64 0, .int .u64 0, .int .u64 0, .int .u64 0, .int .u64 0, .int .u64 0, .int .u64 0, .int .u64 0, .int .u64 0, .int .u64 0, .int .u64 0] 29)).alloc (.cells #[.int .i64 0, .int .i64 0] 32)).setCells u322q.heap.size 0 (wl c)) u322q.heap.size (wl c)) := h336q.out.setW c
               have h342q : Hid (Bo (((u322q.alloc (.cells #[.int .u64 0, .int .u64 0, .int .u64 0, .int .u64 0, .int .u64 0, .int .u64 0, .int .u64 0, .int .u64 0, .int .u64 0, .int .u64 0, .int .u64 0, .int .u64 0, .int .u64 0, .int .u64 0, .int .u64 0, .int .u64 0, .int .u64 0] 29)).alloc (.cells #[.int .i64 0, .int .i64 0] 32)).setCells u322q.heap.size 0 (wl c)) (u322q.heap.size + 1) [.int .i64 0, .int .i64 0]) := h337q.out.asideL (by omega) 0 (wl c)
               clear h333q h334q h335q h336q h337q
               generalize (((u322q.alloc (.cells #[.int .u64 0, .int .u64 0, .int .u64 0, .int .u64 0, .int .u64 0, .int .u64 0, .int .u64 0, .int .u64 0, .int .u64 0, .int .u64 0, .int .u64 0, .int .u64 0, .int .u64 0, .int .u64 0, .int .u64 0, .int .u64 0, .int .u64 0] 29)).alloc (.cells #[.int .i64 0, .int .i64 0] 32)).setCells u322q.heap.size 0 (wl c)) = u343q at h338q h339q h340q h341q h342q  ⊢)
            | (refine wpList_store_mid rfl 32 _ _ rfl (u322q.heap.size + 1) _ #[.int .i64 (cc), .int .i64 (yy)] rfl rfl h342q.out.there2 HA.out (two_one _ _) ?_
               have h344q : Hid (Gd n w (u343q.setCells (u322q.heap.size + 1) 0 [.int .i64 (cc), .int .i64 (yy)])) := h338q.out.asideL (by omega) 0 [.int .i64 (cc), .int .i64 (yy)]
               have h345q : Hid (Bo (u343q.setCells (u322q.heap.size + 1) 0 [.int .i64 (cc), .int .i64 (yy)]) n [.int .i64 o, .int .i64 k, .int .i64 x]) := h339q.out.asideL (by omega) 0 [.int .i64 (cc), .int .i64 (yy)]
               have h346q : Hid (Bo (u343q.setCells (u322q.heap.size + 1) 0 [.int .i64 (cc), .int .i64 (yy)]) u7q.heap.size (wl c)) := h340q.out.asideL (by omega) 0 [.int .i64 (cc), .int .i64 (yy)]
               have h347q : Hid (Bo (u343q.setCells (u322q.heap.size + 1) 0 [.int .i64 (cc), .int .i64 (yy)]) u322q.heap.size (wl c)) := h341q.out.asideL (by omega) 0 [.int .i64 (cc), .int .i64 (yy)]
               have h348q : Hid (Bo (u343q.setCells (u322q.heap.size + 1) 0 [.int .i64 (cc), .int .i64 (yy)]) (u322q.heap.size + 1) [.int .i64 (cc), .int .i64 (yy)]) := h342q.out.set2 (.int .i64 (cc)) (.int .i64 (yy))
               clear h338q h339q h340q h341q h342q
               generalize (u343q.setCells (u322q.heap.size + 1) 0 [.int .i64 (cc), .int .i64 (yy)]) = u349q at h344q h345q h346q h347q h348q  ⊢
               have c350q := h345q.out.at 0 rfl
               have c351q := h348q.out.at 0 rfl
               have c352q := h348q.out.at 1 rfl)
            | (refine wpList_load_mid rfl 29 _ rfl u7q.heap.size _ rfl (wl c) _ h346q.out.range HC.out rfl (HCS.out c) ?_))
          refine (RC.out _).mono ?_
          rintro e u353q ⟨rfl, hb⟩
          have h354q : Hid (Gd n w u353q) := h344q.out.later hb
          have h355q : Hid (Bo u353q n [.int .i64 o, .int .i64 k, .int .i64 x]) := h345q.out.later hb
          have h356q : Hid (Bo u353q u7q.heap.size (wl c)) := h346q.out.later hb
          have h357q : Hid (Bo u353q u322q.heap.size (wl c)) := h347q.out.later hb
          have h358q : Hid (Bo u353q (u322q.heap.size + 1) [.int .i64 (cc), .int .i64 (yy)]) := h348q.out.later hb
          clear h344q h345q h346q h347q h348q
          clear hb
          go_wp2_with (first
            | (refine wpList_load_wanted (by rfl) 29 _ rfl u322q.heap.size _ rfl (wl c) _ h357q.out.range HC.out rfl (HCS.out c) ?_))
          refine (RU.out _).mono ?_
          rintro e u359q ⟨rfl, hb⟩
          have h360q : Hid (Gd n w u359q) := h354q.out.later hb
          have h361q : Hid (Bo u359q n [.int .i64 o, .int .i64 k, .int .i64 x]) := h355q.out.later hb
          have h362q : Hid (Bo u359q u7q.heap.size (wl c)) := h356q.out.later hb
          have h363q : Hid (Bo u359q u322q.heap.size (wl c)) := h357q.out.later hb
          have h364q : Hid (Bo u359q (u322q.heap.size + 1) [.int .i64 (cc), .int .i64 (yy)]) := h358q.out.later hb
          clear h354q h355q h356q h357q h358q
          clear hb
          have c365q := h364q.out.at 0 rfl
          have c366q := h364q.out.at 1 rfl
          go_wp2_with fail
          refine (FI.out _).mono ?_
          rintro e u367q ⟨rfl, hb⟩
          have h368q : Hid (Gd n w u367q) := h360q.out.later hb
          have h369q : Hid (Bo u367q n [.int .i64 o, .int .i64 k, .int .i64 x]) := h361q.out.later hb
          have h370q : Hid (Bo u367q u7q.heap.size (wl c)) := h362q.out.later hb
          have h371q : Hid (Bo u367q u322q.heap.size (wl c)) := h363q.out.later hb
          have h372q : Hid (Bo u367q (u322q.heap.size + 1) [.int .i64 (cc), .int .i64 (yy)]) := h364q.out.later hb
          clear h360q h361q h362q h363q h364q
          clear hb
          have c373q := h372q.out.at 0 rfl
          have c374q := h372q.out.at 1 rfl
          go_wp2_with (first
            | (refine wpList_load_wanted (by rfl) 29 _ rfl u322q.heap.size _ rfl (wl c) _ h371q.out.range HC.out rfl (HCS.out c) ?_)
            | (refine wpList_load_wanted (by rfl) 29 _ rfl u7q.heap.size _ rfl (wl c) _ h370q.out.range HC.out rfl (HCS.out c) ?_))
          go_ret
          exact ⟨rfl, by first | exact h368q.out.low | exact h368q.out.2⟩
  · go_enter Try.func3, Try.ntmps3
    go_wp2_with fail
    refine (TH.out _).mono ?_
    rintro e u375q ⟨rfl, hb⟩
    have h376q : Hid (Gd w.heap.size w u375q) := h1q.out.later hb
    have h377q : Hid (Bo u375q w.heap.size [.int .i64 o, .int .i64 k, .int .i64 x]) := h2q.out.later hb
    clear h1q h2q
    clear hb
    go_wp2_with fail
    refine (KO.out _).mono ?_
    rintro e u378q ⟨rfl, hw⟩
    rw [hw]; clear hw u378q
    go_wp2_with fail
    refine (made_is (kind := (r : Nat)) (by omega) (by omega) (Ops.later (v := v1) (n := n1) D1.out h376q.out.2)).mono ?_
    rintro e u379q ⟨c, hO, rfl, hb⟩
    have h380q : Hid (Gd w.heap.size w u379q) := h376q.out.later hb
    have h381q : Hid (Bo u379q w.heap.size [.int .i64 o, .int .i64 k, .int .i64 x]) := h377q.out.later hb
    clear h376q h377q
    clear hb
    have HO : Hid _ := hO
    clear hO
    generalize hsz : w.heap.size = n at h380q h381q  ⊢
    have HSZ : Hid (w.heap.size = n) := hsz
    clear hsz
    have l382q : n ≤ u379q.heap.size := h380q.out.le
    have l383q : n < u379q.heap.size := h381q.out.lt
    have h384q : Hid (Gd n w (u379q.alloc (.cells #[.int .u64 0, .int .u64 0, .int .u64 0, .int .u64 0, .int .u64 0, .int .u64 0, .int .u64 0, .int .u64 0, .int .u64 0, .int .u64 0, .int .u64 0, .int .u64 0, .int .u64 0, .int .u64 0, .int .u64 0, .int .u64 0, .int .u64 0] 29))) := h380q.out.new (.cells #[.int .u64 0, .int .u64 0, .int .u64 0, .int .u64 0, .int .u64 0, .int .u64 0, .int .u64 0, .int .u64 0, .int .u64 0, .int .u64 0, .int .u64 0, .int .u64 0, .int .u64 0, .int .u64 0, .int .u64 0, .int .u64 0, .int .u64 0] 29)
    have h385q : Hid (Bo (u379q.alloc (.cells #[.int .u64 0, .int .u64 0, .int .u64 0, .int .u64 0, .int .u64 0, .int .u64 0, .int .u64 0, .int .u64 0, .int .u64 0, .int .u64 0, .int .u64 0, .int .u64 0, .int .u64 0, .int .u64 0, .int .u64 0, .int .u64 0, .int .u64 0] 29)) n [.int .i64 o, .int .i64 k, .int .i64 x]) := h381q.out.new (.cells #[.int .u64 0, .int .u64 0, .int .u64 0, .int .u64 0, .int .u64 0, .int .u64 0, .int .u64 0, .int .u64 0, .int .u64 0, .int .u64 0, .int .u64 0, .int .u64 0, .int .u64 0, .int .u64 0, .int .u64 0, .int .u64 0, .int .u64 0] 29)
    clear h380q h381q
    have h386q : Hid (Bo (u379q.alloc (.cells #[.int .u64 0, .int .u64 0, .int .u64 0, .int .u64 0, .int .u64 0, .int .u64 0, .int .u64 0, .int .u64 0, .int .u64 0, .int .u64 0, .int .u64 0, .int .u64 0, .int .u64 0, .int .u64 0, .int .u64 0, .int .u64 0, .int .u64 0] 29)) u379q.heap.size (wl wz)) := Bo.born u379q (wl wz) 29 (by simp)
    have DO : Hid (∀ w, Calls Try.prog 10 #[.int .i64 (r : Nat), .agg (wl c).toArray, .agg #[.int .i64 o, .int .i64 k, .int .i64 x]] w (Refd w)) := fun w => obDo_no (fun h => hR h.1) w
    have OR : Hid (∀ w : World, _) := fun w => opR_no hR w
    clear hR
    go_wp2_with (first
      | (refine wpList_store_mid rfl 29 _ _ rfl u379q.heap.size _ (wl c).toArray rfl rfl (h386q.out.thereW c) (HCZ.out c) (wl_all c) ?_
         have h387q : Hid (Gd n w ((u379q.alloc (.cells #[.int .u64 0, .int .u64 0, .int .u64 0, .int .u64 0, .int .u64 0, .int .u64 0, .int .u64 0, .int .u64 0, .int .u64 0, .int .u64 0, .int .u64 0, .int .u64 0, .int .u64 0, .int .u64 0, .int .u64 0, .int .u64 0, .int .u64 0] 29)).setCells u379q.heap.size 0 (wl c))) := h384q.out.asideL (by omega) 0 (wl c)
         have h388q : Hid (Bo ((u379q.alloc (.cells #[.int .u64 0, .int .u64 0, .int .u64 0, .int .u64 0, .int .u64 0, .int .u64 0, .int .u64 0, .int .u64 0, .int .u64 0, .int .u64 0, .int .u64 0, .int .u64 0, .int .u64 0, .int .u64 0, .int .u64 0, .int .u64 0, .int .u64 0] 29)).setCells u379q.heap.size 0 (wl c)) n [.int .i64 o, .int .i64 k, .int .i64 x]) := h385q.out.asideL (by omega) 0 (wl c)
         have h389q : Hid (Bo ((u379q.alloc (.cells #[.int .u64 0, .int .u64 0, .int .u64 0, .int .u64 0, .int .u64 0, .int .u64 0, .int .u64 0, .int .u64 0, .int .u64 0, .int .u64 0, .int .u64 0, .int .u64 0, .int .u64 0, .int .u64 0, .int .u64 0, .int .u64 0, .int .u64 0] 29)).setCells u379q.heap.size 0 (wl c)) u379q.heap.size (wl c)) := h386q.out.setW c
         clear h384q h385q h386q
         generalize ((u379q.alloc (.cells #[.int .u64 0, .int .u64 0, .int .u64 0, .int .u64 0, .int .u64 0, .int .u64 0, .int .u64 0, .int .u64 0, .int .u64 0, .int .u64 0, .int .u64 0, .int .u64 0, .int .u64 0, .int .u64 0, .int .u64 0, .int .u64 0, .int .u64 0] 29)).setCells u379q.heap.size 0 (wl c)) = u390q at h387q h388q h389q  ⊢
         have c391q := h388q.out.at 0 rfl
         have c392q := h388q.out.at 1 rfl
         have c393q := h388q.out.at 2 rfl)
      | (refine wpList_load_mid rfl 29 _ rfl u379q.heap.size _ rfl (wl c) _ h389q.out.range HC.out rfl (HCS.out c) ?_))
    refine (DO.out _).mono ?_
    rintro e u394q ⟨rfl, hb⟩
    have h395q : Hid (Gd n w u394q) := h387q.out.later hb
    have h396q : Hid (Bo u394q n [.int .i64 o, .int .i64 k, .int .i64 x]) := h388q.out.later hb
    have h397q : Hid (Bo u394q u379q.heap.size (wl c)) := h389q.out.later hb
    clear h387q h388q h389q
    clear hb
    have l398q : n ≤ u394q.heap.size := h395q.out.le
    have l399q : n < u394q.heap.size := h396q.out.lt
    have l400q : u379q.heap.size < u394q.heap.size := h397q.out.lt
    have h401q : Hid (Gd n w (u394q.alloc (.cells #[.int .u64 0, .int .u64 0, .int .u64 0, .int .u64 0, .int .u64 0, .int .u64 0, .int .u64 0, .int .u64 0, .int .u64 0, .int .u64 0, .int .u64 0, .int .u64 0, .int .u64 0, .int .u64 0, .int .u64 0, .int .u64 0, .int .u64 0] 29))) := h395q.out.new (.cells #[.int .u64 0, .int .u64 0, .int .u64 0, .int .u64 0, .int .u64 0, .int .u64 0, .int .u64 0, .int .u64 0, .int .u64 0, .int .u64 0, .int .u64 0, .int .u64 0, .int .u64 0, .int .u64 0, .int .u64 0, .int .u64 0, .int .u64 0] 29)
    have h402q : Hid (Bo (u394q.alloc (.cells #[.int .u64 0, .int .u64 0, .int .u64 0, .int .u64 0, .int .u64 0, .int .u64 0, .int .u64 0, .int .u64 0, .int .u64 0, .int .u64 0, .int .u64 0, .int .u64 0, .int .u64 0, .int .u64 0, .int .u64 0, .int .u64 0, .int .u64 0] 29)) n [.int .i64 o, .int .i64 k, .int .i64 x]) := h396q.out.new (.cells #[.int .u64 0, .int .u64 0, .int .u64 0, .int .u64 0, .int .u64 0, .int .u64 0, .int .u64 0, .int .u64 0, .int .u64 0, .int .u64 0, .int .u64 0, .int .u64 0, .int .u64 0, .int .u64 0, .int .u64 0, .int .u64 0, .int .u64 0] 29)
    have h403q : Hid (Bo (u394q.alloc (.cells #[.int .u64 0, .int .u64 0, .int .u64 0, .int .u64 0, .int .u64 0, .int .u64 0, .int .u64 0, .int .u64 0, .int .u64 0, .int .u64 0, .int .u64 0, .int .u64 0, .int .u64 0, .int .u64 0, .int .u64 0, .int .u64 0, .int .u64 0] 29)) u379q.heap.size (wl c)) := h397q.out.new (.cells #[.int .u64 0, .int .u64 0, .int .u64 0, .int .u64 0, .int .u64 0, .int .u64 0, .int .u64 0, .int .u64 0, .int .u64 0, .int .u64 0, .int .u64 0, .int .u64 0, .int .u64 0, .int .u64 0, .int .u64 0, .int .u64 0, .int .u64 0] 29)
    clear h395q h396q h397q
    have h404q : Hid (Bo (u394q.alloc (.cells #[.int .u64 0, .int .u64 0, .int .u64 0, .int .u64 0, .int .u64 0, .int .u64 0, .int .u64 0, .int .u64 0, .int .u64 0, .int .u64 0, .int .u64 0, .int .u64 0, .int .u64 0, .int .u64 0, .int .u64 0, .int .u64 0, .int .u64 0] 29)) u394q.heap.size (wl wz)) := Bo.born u394q (wl wz) 29 (by simp)
    have h405q : Hid (Gd n w ((u394q.alloc (.cells #[.int .u64 0, .int .u64 0, .int .u64 0, .int .u64 0, .int .u64 0, .int .u64 0, .int .u64 0, .int .u64 0, .int .u64 0, .int .u64 0, .int .u64 0, .int .u64 0, .int .u64 0, .int .u64 0, .int .u64 0, .int .u64 0, .int .u64 0] 29)).alloc (.cells #[.int .i64 0, .int .i64 0] 32))) := h401q.out.new (.cells #[.int .i64 0, .int .i64 0] 32)
    have h406q : Hid (Bo ((u394q.alloc (.cells #[.int .u64 0, .int .u64 0, .int .u64 0, .int .u64 0, .int .u64 0, .int .u64 0, .int .u64 0, .int .u64 0, .int .u64 0, .int .u64 0, .int .u64 0, .int .u64 0, .int .u64 0, .int .u64 0, .int .u64 0, .int .u64 0, .int .u64 0] 29)).alloc (.cells #[.int .i64 0, .int .i64 0] 32)) n [.int .i64 o, .int .i64 k, .int .i64 x]) := h402q.out.new (.cells #[.int .i64 0, .int .i64 0] 32)
    have h407q : Hid (Bo ((u394q.alloc (.cells #[.int .u64 0, .int .u64 0, .int .u64 0, .int .u64 0, .int .u64 0, .int .u64 0, .int .u64 0, .int .u64 0, .int .u64 0, .int .u64 0, .int .u64 0, .int .u64 0, .int .u64 0, .int .u64 0, .int .u64 0, .int .u64 0, .int .u64 0] 29)).alloc (.cells #[.int .i64 0, .int .i64 0] 32)) u379q.heap.size (wl c)) := h403q.out.new (.cells #[.int .i64 0, .int .i64 0] 32)
    have h408q : Hid (Bo ((u394q.alloc (.cells #[.int .u64 0, .int .u64 0, .int .u64 0, .int .u64 0, .int .u64 0, .int .u64 0, .int .u64 0, .int .u64 0, .int .u64 0, .int .u64 0, .int .u64 0, .int .u64 0, .int .u64 0, .int .u64 0, .int .u64 0, .int .u64 0, .int .u64 0] 29)).alloc (.cells #[.int .i64 0, .int .i64 0] 32)) u394q.heap.size (wl wz)) := h404q.out.new (.cells #[.int .i64 0, .int .i64 0] 32)
    clear h401q h402q h403q h404q
    have h409q : Hid (Bo ((u394q.alloc (.cells #[.int .u64 0, .int .u64 0, .int .u64 0, .int .u64 0, .int .u64 0, .int .u64 0, .int .u64 0, .int .u64 0, .int .u64 0, .int .u64 0, .int .u64 0, .int .u64 0, .int .u64 0, .int .u64 0, .int .u64 0, .int .u64 0, .int .u64 0] 29)).alloc (.cells #[.int .i64 0, .int .i64 0] 32)) (u394q.heap.size + 1) [.int .i64 0, .int .i64 0]) := Bo.born (u394q.alloc (.cells #[.int .u64 0, .int .u64 0, .int .u64 0, .int .u64 0, .int .u64 0, .int .u64 0, .int .u64 0, .int .u64 0, .int .u64 0, .int .u64 0, .int .u64 0, .int .u64 0, .int .u64 0, .int .u64 0, .int .u64 0, .int .u64 0, .int .u64 0] 29)) [.int .i64 0, .int .i64 0] 32 (by simp)
    go_wp2_with (first
      | (refine wpList_store_mid rfl 29 _ _ rfl u394q.heap.size _ (wl wz).toArray rfl rfl (h408q.out.thereW wz) (HCZ.out wz) (wl_all wz) ?_
         have h410q : Hid (Gd n w (((u394q.alloc (.cells #[.int .u64 0, .int .u64 0, .int .u64 0, .int .u64 0, .int .u64 0, .int .u64 0, .int .u64 0, .int .u64 0, .int .u64 0, .int .u64 0, .int .u64 0, .int .u64 0, .int .u64 0, .int .u64 0, .int .u64 0, .int .u64 0, .int .u64 0] 29)).alloc (.cells #[.int .i64 0, .int .i64 0] 32)).setCells u394q.heap.size 0 (wl wz))) := h405q.out.asideL (by omega) 0 (wl wz)
         have h411q : Hid (Bo (((u394q.alloc (.cells #[.int .u64 0, .int .u64 0, .int .u64 0, .int .u64 0, .int .u64 0, .int .u64 0, .int .u64 0, .int .u64 0, .int .u64 0, .int .u64 0, .int .u64 0, .int .u64 0, .int .u64 0, .int .u64 0, .int .u64 0, .int .u64 0, .int .u64 0] 29)).alloc (.cells #[.int .i64 0, .int .i64 0] 32)).setCells u394q.heap.size 0 (wl wz)) n [.int .i64 o, .int .i64 k, .int .i64 x]) := h406q.out.asideL (by omega) 0 (wl wz)
         have h412q : Hid (Bo (((u394q.alloc (.cells #[.int .u64 0, .int .u64 0, .int .u64 0, .int .u64 0, .int .u64 0, .int .u64 0, .int .u64 0, .int .u64 0, .int .u64 0, .int .u64 0, .int .u64 0, .int .u64 0, .int .u64 0, .int .u64 0, .int .u64 0, .int .u64 0, .int .u64 0] 29)).alloc (.cells #[.int .i64 0, .int .i64 0] 32)).setCells u394q.heap.size 0 (wl wz)) u379q.heap.size (wl c)) := h407q.out.asideL (by omega) 0 (wl wz)
         have h413q : Hid (Bo (((u394q.alloc (.cells #[.int .u64 0, .int .u64 0, .int .u64 0, .int .u64 0, .int .u64 0, .int .u64 0, .int .u64 0, .int .u64 0, .int .u64 0, .int .u64 0, .int .u64 0, .int .u64 0, .int .u64 0, .int .u64 0, .int .u64 0, .int .u64 0, .int .u64 0] 29)).alloc (.cells #[.int .i64 0, .int .i64 0] 32)).setCells u394q.heap.size 0 (wl wz)) u394q.heap.size (wl wz)) := h408q.out.setW wz
         have h414q : Hid (Bo (((u394q.alloc (.cells #[.int .u64 0, .int .u64 0, .int .u64 0, .int .u64 0, .int .u64 0, .int .u64 0, .int .u64 0, .int .u64 0, .int .u64 0, .int .u64 0, .int .u64 0, .int .u64 0, .int .u64 0, .int .u64 0, .int .u64 0, .int .u64 0, .int .u64 0] 29)).alloc (.cells #[.int .i64 0, .int .i64 0] 32)).setCells u394q.heap.size 0 (wl wz)) (u394q.heap.size + 1) [.int .i64 0, .int .i64 0]) := h409q.out.asideL (by omega) 0 (wl wz)
         clear h405q h406q h407q h408q h409q
         generalize (((u394q.alloc (.cells #[.int .u64 0, .int .u64 0, .int .u64 0, .int .u64 0, .int .u64 0, .int .u64 0, .int .u64 0, .int .u64 0, .int .u64 0, .int .u64 0, .int .u64 0, .int .u64 0, .int .u64 0, .int .u64 0, .int .u64 0, .int .u64 0, .int .u64 0] 29)).alloc (.cells #[.int .i64 0, .int .i64 0] 32)).setCells u394q.heap.size 0 (wl wz)) = u415q at h410q h411q h412q h413q h414q  ⊢)
      | (refine wpList_store_mid rfl 32 _ _ rfl (u394q.heap.size + 1) _ #[.int .i64 (0), .int .i64 (0)] rfl rfl h414q.out.there2 HA.out (two_one _ _) ?_
         have h416q : Hid (Gd n w (u415q.setCells (u394q.heap.size + 1) 0 [.int .i64 (0), .int .i64 (0)])) := h410q.out.asideL (by omega) 0 [.int .i64 (0), .int .i64 (0)]
         have h417q : Hid (Bo (u415q.setCells (u394q.heap.size + 1) 0 [.int .i64 (0), .int .i64 (0)]) n [.int .i64 o, .int .i64 k, .int .i64 x]) := h411q.out.asideL (by omega) 0 [.int .i64 (0), .int .i64 (0)]
         have h418q : Hid (Bo (u415q.setCells (u394q.heap.size + 1) 0 [.int .i64 (0), .int .i64 (0)]) u379q.heap.size (wl c)) := h412q.out.asideL (by omega) 0 [.int .i64 (0), .int .i64 (0)]
         have h419q : Hid (Bo (u415q.setCells (u394q.heap.size + 1) 0 [.int .i64 (0), .int .i64 (0)]) u394q.heap.size (wl wz)) := h413q.out.asideL (by omega) 0 [.int .i64 (0), .int .i64 (0)]
         have h420q : Hid (Bo (u415q.setCells (u394q.heap.size + 1) 0 [.int .i64 (0), .int .i64 (0)]) (u394q.heap.size + 1) [.int .i64 (0), .int .i64 (0)]) := h414q.out.set2 (.int .i64 (0)) (.int .i64 (0))
         clear h410q h411q h412q h413q h414q
         generalize (u415q.setCells (u394q.heap.size + 1) 0 [.int .i64 (0), .int .i64 (0)]) = u421q at h416q h417q h418q h419q h420q  ⊢
         have c422q := h417q.out.at 0 rfl
         have c423q := h417q.out.at 1 rfl
         have c424q := h417q.out.at 2 rfl))
    refine (OR.out _).mono ?_
    rintro e u425q ⟨rfl, hb⟩
    have h426q : Hid (Gd n w u425q) := h416q.out.later hb
    have h427q : Hid (Bo u425q n [.int .i64 o, .int .i64 k, .int .i64 x]) := h417q.out.later hb
    have h428q : Hid (Bo u425q u379q.heap.size (wl c)) := h418q.out.later hb
    have h429q : Hid (Bo u425q u394q.heap.size (wl wz)) := h419q.out.later hb
    have h430q : Hid (Bo u425q (u394q.heap.size + 1) [.int .i64 (0), .int .i64 (0)]) := h420q.out.later hb
    clear h416q h417q h418q h419q h420q
    clear hb
    go_wp2_with (first
      | (refine wpList_load_wanted (by rfl) 29 _ rfl u394q.heap.size _ rfl (wl wz) _ h429q.out.range HC.out rfl (HCS.out wz) ?_))
    go_ret
    exact ⟨rfl, by first | exact h426q.out.low | exact h426q.out.2⟩


set_option maxRecDepth 100000 in
theorem lifted (os : Os) (started : os.Started) (H : Type) (enc : TypeId × Value → H) :
    ReturnsInHanded {} Try.checked os 3 .any (Rows.objectStaysSpec.pre6 enc Try.prog Try.f3 Rows.objectStaysRow.domain false) (Rows.objectStaysSpec.post enc Try.prog Try.f3 false true false false) := by
  refine returnsInHanded_of_change (C := Try.checked) own started (by kernel_rfl) Try.func3
    (ChangeSpec.witness6 (enc := enc) (C := Try.checked) false ⟨#[], #[.int .i64 0, .slice none 0 0, .agg #[.int .i64 0, .int .i64 0, .int .i64 0]], []⟩ 8 (by kernel_rfl) (by kernel_rfl) (by kernel_rfl) (by kernel_rfl)) ?_
  intro W base args ds gs before hval0 hW hcnd _
  have hval : ∀ (j : Nat) t v, Try.f3.params[j]? = some t → args[j]? = some v → Value.okWide Try.prog W .any base t v := hval0
  have hW' := hW
  obtain ⟨p, q, hA0, hV, rfl, hfz, hnd⟩ := hW
  have hA : DataW.TrodAll enc Try.prog W 0 (fun _ => true) true Try.f3.params.toList args.toList ds p := hA0
  rw [Try.params3] at hA hval
  obtain ⟨v0, vs0, d0, ds0, p0, q0, hargs, rfl, rfl, h0, r0⟩ := trodAll_cons hA
  obtain ⟨v1, vs1, d1, ds1, p1, q1, rfl, rfl, rfl, h1, r1⟩ := trodAll_cons r0
  obtain ⟨v2, vs2, d2, ds2, p2, q2, rfl, rfl, rfl, h2, r2⟩ := trodAll_cons r1
  obtain ⟨rfl, rfl, rfl⟩ := trodAll_nil r2
  obtain rfl : args = #[v0, v1, v2] := by cases args; simp_all
  obtain ⟨rfl, rfl⟩ := trodVars_none hV
  obtain ⟨a0, rfl, rfl, rfl, w0⟩ := open_int Try.underlying3 (hval 0 3 v0 rfl rfl) h0
  obtain ⟨n1, D1⟩ := ops_of_trod (hval 1 22 v1 rfl rfl) h1
  obtain ⟨a2, b2, c2, rfl, wa2, wb2, wc2⟩ := op_of_trod (hval 2 24 v2 rfl rfl) h2
  have hlt := hW'.lt
  clear hA0 hval0
  refine (walk a0 v1 n1 a2 b2 c2 w0 wa2 wb2 wc2 W  D1).mono fun e W' ⟨he, hg⟩ => ?_
  subst he
  exact ⟨_, rfl, post_below (pv := []) hW' (fun _ _ _ => (trodAll_cons_mk (shut_bool Try.underlying4 _) trodAll_mk0)) (fun sp hsp => (trodAll_cons_mk (shut_int Try.underlying3 w0) (trodAll_cons_mk (ops_stay h1 hg (fun x hx => hlt x (by simp [hx])) (fun x hx => hsp x (by simp [hx]))) (trodAll_cons_mk (op_stay h2 hg (fun x hx => hlt x (by simp [hx])) (fun x hx => hsp x (by simp [hx]))) trodAll_mk0)))) (fun _ _ => rfl) (by simp) (hg.frame _)⟩

theorem over : Rows.objectStaysRow.holds Try.pinned (OpenSpec.ofChange Rows.objectStaysSpec) :=
  OpenClaim.holds_of_wide 3 Try.f3 rfl rfl rfl rfl rfl rfl rfl ⟨rfl, rfl, rfl, rfl, rfl⟩ rfl rfl rfl rfl rfl (by kernel_rfl) Try.func3 (by kernel_rfl)
    (of_decide_eq_true (by kernel_rfl)) (by unfold Func.isWrapper; first | (rw [if_pos (by decide +kernel)]; kernel_rfl) | (rw [if_neg (by decide +kernel)]; exact ⟨rfl, rfl⟩))
    (fun os started H enc _ => lifted os started H enc)

theorem proved : Rows.ObjectStaysSaid :=
  over
#print axioms proved
end Go.Proofs.Ytbmgjpdfmgcigab.Tab.objectStays
