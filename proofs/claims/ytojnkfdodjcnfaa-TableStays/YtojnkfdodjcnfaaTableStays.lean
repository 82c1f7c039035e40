/- TableStays is proved: for every list of operations and every operation the call returns true (a table stays one, whatever is done, with one key more, or less, or as many; what is not Done changes nothing; an operation that is not right is let be, by the law's own words). -/
import Derived.Test.YtojnkfdodjcnfaaRows
import Derived.Test.YtojnkfdodjcnfaaKf
import Derived.Test.YtojnkfdodjcnfaaTl
import Derived.Test.YtojnkfdodjcnfaaRp
import Derived.Test.YtojnkfdodjcnfaaArgOps
import Derived.Deep.DeepCutAuto
import Derived.Deep.RegionHeld3

namespace Go.Proofs.Ytojnkfdodjcnfaa.tableStays
open Go.ChangeShapes Go.WideShapes Go.ChangeAt Go.RowKit
set_option linter.unusedVariables false

theorem own : ownKnob Try.prog.godebug = none := by kernel_rfl

set_option maxHeartbeats 4000000 in
theorem walk (v0 : Value) (n0 : Nat) (a1 b1 c1 : Int) (wa1 : (Lit.int .i64 a1).wf = true) (wb1 : (Lit.int .i64 b1).wf = true) (wc1 : (Lit.int .i64 c1).wf = true) (w : World) (D0 : Ops w v0 n0) :
    Calls Try.prog 5 #[v0, .agg #[.int .i64 a1, .int .i64 b1, .int .i64 c1]] w fun e w' => e = .returned (.bool true) ∧ Below w.heap.size w w' := by
  obtain ⟨na, ea, hd⟩ := slots_array
  have HD : Hid _ := hd
  clear hd
  have HS : Hid (∀ t : Tb, (Try.prog.info? 29).map (·.size) = some t.all.length) := slots_size
  have HZ : Hid (∀ t : Tb, (Try.prog.info? 29).map (·.size) = some t.all.toArray.size) := slots_size2
  have HT : Hid ((Try.prog.info? 27).map (·.size) = some 2) := slot_size
  have HA : Hid ((Try.prog.info? 37).map (·.size) = some 2) := answer_size
  obtain ⟨fs, ha⟩ := answer_struct
  have HDA : Hid _ := ha
  clear ha
  have EQ := slots_equal
  have FD0 := field0
  have FD1 := field1
  have g0 : Hid (Gd w.heap.size w w) := Gd.refl w
  have HD0 : Hid (Ops w v0 n0) := D0
  clear D0
  have h1q : Hid (Gd w.heap.size w (w.alloc (.cells #[.int .i64 a1, .int .i64 b1, .int .i64 c1] 35))) := g0.out.new (.cells #[.int .i64 a1, .int .i64 b1, .int .i64 c1] 35)
  clear g0
  have h2q : Hid (Bo (w.alloc (.cells #[.int .i64 a1, .int .i64 b1, .int .i64 c1] 35)) w.heap.size [.int .i64 a1, .int .i64 b1, .int .i64 c1]) := Bo.born w [.int .i64 a1, .int .i64 b1, .int .i64 c1] 35 (by simp)
  clear wa1 wb1 wc1
  go_enter Try.func5, Try.ntmps5
  go_wp2_with fail
  generalize (w.alloc (.cells #[.int .i64 a1, .int .i64 b1, .int .i64 c1] 35)) = W at h1q h2q ⊢
  generalize w.heap.size = n at h1q h2q ⊢
  refine (tabled_is _).mono ?_
  rintro e u3q ⟨rfl, hb⟩
  have h4q : Hid (Gd n w u3q) := h1q.out.later hb
  have h5q : Hid (Bo u3q n [.int .i64 a1, .int .i64 b1, .int .i64 c1]) := h2q.out.later hb
  clear h1q h2q
  clear hb
  go_wp2_with fail
  refine (filled_is (HD0.out.later h4q.out.2)).mono ?_
  rintro e u6q ⟨t, hR, rfl, hb⟩
  have h7q : Hid (Gd n w u6q) := h4q.out.later hb
  have h8q : Hid (Bo u6q n [.int .i64 a1, .int .i64 b1, .int .i64 c1]) := h5q.out.later hb
  clear h4q h5q
  clear hb
  have R : Hid (RT t) := hR
  clear hR HD0
  have l9q : n ≤ u6q.heap.size := h7q.out.le
  have l10q : n < u6q.heap.size := h8q.out.lt
  have h11q : Hid (Gd n w (u6q.alloc (.cells #[.int .i64 0, .int .i64 0, .int .i64 0, .int .i64 0, .int .i64 0, .int .i64 0, .int .i64 0, .int .i64 0, .int .i64 0, .int .i64 0, .int .i64 0, .int .i64 0, .int .i64 0, .int .i64 0, .int .i64 0, .int .i64 0] 29))) := h7q.out.new (.cells #[.int .i64 0, .int .i64 0, .int .i64 0, .int .i64 0, .int .i64 0, .int .i64 0, .int .i64 0, .int .i64 0, .int .i64 0, .int .i64 0, .int .i64 0, .int .i64 0, .int .i64 0, .int .i64 0, .int .i64 0, .int .i64 0] 29)
  have h12q : Hid (Bo (u6q.alloc (.cells #[.int .i64 0, .int .i64 0, .int .i64 0, .int .i64 0, .int .i64 0, .int .i64 0, .int .i64 0, .int .i64 0, .int .i64 0, .int .i64 0, .int .i64 0, .int .i64 0, .int .i64 0, .int .i64 0, .int .i64 0, .int .i64 0] 29)) n [.int .i64 a1, .int .i64 b1, .int .i64 c1]) := h8q.out.new (.cells #[.int .i64 0, .int .i64 0, .int .i64 0, .int .i64 0, .int .i64 0, .int .i64 0, .int .i64 0, .int .i64 0, .int .i64 0, .int .i64 0, .int .i64 0, .int .i64 0, .int .i64 0, .int .i64 0, .int .i64 0, .int .i64 0] 29)
  clear h7q h8q
  have h13q : Hid (TAt (u6q.alloc (.cells #[.int .i64 0, .int .i64 0, .int .i64 0, .int .i64 0, .int .i64 0, .int .i64 0, .int .i64 0, .int .i64 0, .int .i64 0, .int .i64 0, .int .i64 0, .int .i64 0, .int .i64 0, .int .i64 0, .int .i64 0, .int .i64 0] 29)) u6q.heap.size Tb.zero) := TAt.bornZero u6q 29 (by simp)
  go_wp2_with (first
    | (refine wpList_store_mid rfl 29 _ _ rfl u6q.heap.size _ t.all.toArray rfl rfl (h13q.out.thereOf t) (HZ.out t) (t.all_all) ?_
       have h14q : Hid (Gd n w ((u6q.alloc (.cells #[.int .i64 0, .int .i64 0, .int .i64 0, .int .i64 0, .int .i64 0, .int .i64 0, .int .i64 0, .int .i64 0, .int .i64 0, .int .i64 0, .int .i64 0, .int .i64 0, .int .i64 0, .int .i64 0, .int .i64 0, .int .i64 0] 29)).setCells u6q.heap.size 0 t.all)) := h11q.out.asideAll (by omega) t
       have h15q : Hid (Bo ((u6q.alloc (.cells #[.int .i64 0, .int .i64 0, .int .i64 0, .int .i64 0, .int .i64 0, .int .i64 0, .int .i64 0, .int .i64 0, .int .i64 0, .int .i64 0, .int .i64 0, .int .i64 0, .int .i64 0, .int .i64 0, .int .i64 0, .int .i64 0] 29)).setCells u6q.heap.size 0 t.all) n [.int .i64 a1, .int .i64 b1, .int .i64 c1]) := h12q.out.asideAll (by omega) t
       have h16q : Hid (TAt ((u6q.alloc (.cells #[.int .i64 0, .int .i64 0, .int .i64 0, .int .i64 0, .int .i64 0, .int .i64 0, .int .i64 0, .int .i64 0, .int .i64 0, .int .i64 0, .int .i64 0, .int .i64 0, .int .i64 0, .int .i64 0, .int .i64 0, .int .i64 0] 29)).setCells u6q.heap.size 0 t.all) u6q.heap.size t) := h13q.out.setAll t
       clear h11q h12q h13q
       generalize ((u6q.alloc (.cells #[.int .i64 0, .int .i64 0, .int .i64 0, .int .i64 0, .int .i64 0, .int .i64 0, .int .i64 0, .int .i64 0, .int .i64 0, .int .i64 0, .int .i64 0, .int .i64 0, .int .i64 0, .int .i64 0, .int .i64 0, .int .i64 0] 29)).setCells u6q.heap.size 0 t.all) = u17q at h14q h15q h16q  ⊢)
    | (refine wpList_load_mid rfl 29 _ rfl u6q.heap.size _ rfl t.all _ h16q.out.range HD.out rfl (HS.out t) ?_))
  refine (Right_is t true ⟨fun _ => R.out, fun _ => rfl⟩ _).mono ?_
  rintro e u18q ⟨rfl, hb⟩
  have h19q : Hid (Gd n w u18q) := h14q.out.later hb
  have h20q : Hid (Bo u18q n [.int .i64 a1, .int .i64 b1, .int .i64 c1]) := h15q.out.later hb
  have h21q : Hid (TAt u18q u6q.heap.size t) := h16q.out.later hb
  clear h14q h15q h16q
  clear hb
  have c22q := h20q.out.at 0 rfl
  have c23q := h20q.out.at 1 rfl
  have c24q := h20q.out.at 2 rfl
  by_cases hr : Rt a1 b1 c1
  · have HRR : Hid _ := hr
    clear hr
    obtain ⟨⟨u, cc, yy⟩, hu⟩ : ∃ r, tdo t a1 b1 c1 = r := ⟨_, rfl⟩
    have DO := tDo_eq t a1 b1 c1
    have ST := tdo_stays R.out (o := a1) (k := b1) (x := c1) HRR.out.v0 HRR.out.v1
    rw [hu] at DO ST
    unfold Told at DO
    dsimp only at DO ST
    obtain ⟨hRU, hl1, hl2, hcu⟩ := ST
    have RU : Hid (RT u) := hRU
    have LU := Len_is u
    have LT := Len_is t
    have hl8 := len_le u
    have hl9 := len_le t
    generalize len u = lu at *
    generalize len t = lt at *
    have el : IntKind.i64.wrap ((lu : Int) - (lt : Int)) = (lu : Int) - (lt : Int) := by rw [IntKind.wrap_i64]; omega
    have el1 : (-1 : Int) ≤ (lu : Int) - (lt : Int) := by omega
    have el2 : (lu : Int) - (lt : Int) ≤ 1 := by omega
    have HCU : Hid (cc = 1 ∨ u = t) := hcu
    clear hu hRU hl1 hl2 hcu
    go_wp2_with fail
    refine (opRight_yes HRR.out _).mono ?_
    rintro e u25q ⟨rfl, hg⟩
    have hb := hg.below
    have h26q : Hid (Gd n w u25q) := h19q.out.later hb
    have h27q : Hid (Bo u25q n [.int .i64 a1, .int .i64 b1, .int .i64 c1]) := h20q.out.later hb
    have h28q : Hid (TAt u25q u6q.heap.size t) := h21q.out.later hb
    clear h19q h20q h21q
    clear hb hg
    have c29q := h27q.out.at 0 rfl
    have c30q := h27q.out.at 1 rfl
    have c31q := h27q.out.at 2 rfl
    go_wp2_with (first
      | (refine wpList_load_mid rfl 29 _ rfl u6q.heap.size _ rfl t.all _ h28q.out.range HD.out rfl (HS.out t) ?_))
    refine (DO _).mono ?_
    rintro e u32q ⟨rfl, hb⟩
    have h33q : Hid (Gd n w u32q) := h26q.out.later hb
    have h34q : Hid (Bo u32q n [.int .i64 a1, .int .i64 b1, .int .i64 c1]) := h27q.out.later hb
    have h35q : Hid (TAt u32q u6q.heap.size t) := h28q.out.later hb
    clear h26q h27q h28q
    clear hb
    clear DO
    have l36q : n ≤ u32q.heap.size := h33q.out.le
    have l37q : n < u32q.heap.size := h34q.out.lt
    have l38q : u6q.heap.size < u32q.heap.size := h35q.out.lt
    have h39q : Hid (Gd n w (u32q.alloc (.cells #[.int .i64 0, .int .i64 0, .int .i64 0, .int .i64 0, .int .i64 0, .int .i64 0, .int .i64 0, .int .i64 0, .int .i64 0, .int .i64 0, .int .i64 0, .int .i64 0, .int .i64 0, .int .i64 0, .int .i64 0, .int .i64 0] 29))) := h33q.out.new (.cells #[.int .i64 0, .int .i64 0, .int .i64 0, .int .i64 0, .int .i64 0, .int .i64 0, .int .i64 0, .int .i64 0, .int .i64 0, .int .i64 0, .int .i64 0, .int .i64 0, .int .i64 0, .int .i64 0, .int .i64 0, .int .i64 0] 29)
    have h40q : Hid (Bo (u32q.alloc (.cells #[.int .i64 0, .int .i64 0, .int .i64 0, .int .i64 0, .int .i64 0, .int .i64 0, .int .i64 0, .int .i64 0, .int .i64 0, .int .i64 0, .int .i64 0, .int .i64 0, .int .i64 0, .int .i64 0, .int .i64 0, .int .i64 0] 29)) n [.int .i64 a1, .int .i64 b1, .int .i64 c1]) := h34q.out.new (.cells #[.int .i64 0, .int .i64 0, .int .i64 0, .int .i64 0, .int .i64 0, .int .i64 0, .int .i64 0, .int .i64 0, .int .i64 0, .int .i64 0, .int .i64 0, .int .i64 0, .int .i64 0, .int .i64 0, .int .i64 0, .int .i64 0] 29)
    have h41q : Hid (TAt (u32q.alloc (.cells #[.int .i64 0, .int .i64 0, .int .i64 0, .int .i64 0, .int .i64 0, .int .i64 0, .int .i64 0, .int .i64 0, .int .i64 0, .int .i64 0, .int .i64 0, .int .i64 0, .int .i64 0, .int .i64 0, .int .i64 0, .int .i64 0] 29)) u6q.heap.size t) := h35q.out.new (.cells #[.int .i64 0, .int .i64 0, .int .i64 0, .int .i64 0, .int .i64 0, .int .i64 0, .int .i64 0, .int .i64 0, .int .i64 0, .int .i64 0, .int .i64 0, .int .i64 0, .int .i64 0, .int .i64 0, .int .i64 0, .int .i64 0] 29)
    clear h33q h34q h35q
    have h42q : Hid (TAt (u32q.alloc (.cells #[.int .i64 0, .int .i64 0, .int .i64 0, .int .i64 0, .int .i64 0, .int .i64 0, .int .i64 0, .int .i64 0, .int .i64 0, .int .i64 0, .int .i64 0, .int .i64 0, .int .i64 0, .int .i64 0, .int .i64 0, .int .i64 0] 29)) u32q.heap.size Tb.zero) := TAt.bornZero u32q 29 (by simp)
    have h43q : Hid (Gd n w ((u32q.alloc (.cells #[.int .i64 0, .int .i64 0, .int .i64 0, .int .i64 0, .int .i64 0, .int .i64 0, .int .i64 0, .int .i64 0, .int .i64 0, .int .i64 0, .int .i64 0, .int .i64 0, .int .i64 0, .int .i64 0, .int .i64 0, .int .i64 0] 29)).alloc (.cells #[.int .i64 0, .int .i64 0] 37))) := h39q.out.new (.cells #[.int .i64 0, .int .i64 0] 37)
    have h44q : Hid (Bo ((u32q.alloc (.cells #[.int .i64 0, .int .i64 0, .int .i64 0, .int .i64 0, .int .i64 0, .int .i64 0, .int .i64 0, .int .i64 0, .int .i64 0, .int .i64 0, .int .i64 0, .int .i64 0, .int .i64 0, .int .i64 0, .int .i64 0, .int .i64 0] 29)).alloc (.cells #[.int .i64 0, .int .i64 0] 37)) n [.int .i64 a1, .int .i64 b1, .int .i64 c1]) := h40q.out.new (.cells #[.int .i64 0, .int .i64 0] 37)
    have h45q : Hid (TAt ((u32q.alloc (.cells #[.int .i64 0, .int .i64 0, .int .i64 0, .int .i64 0, .int .i64 0, .int .i64 0, .int .i64 0, .int .i64 0, .int .i64 0, .int .i64 0, .int .i64 0, .int .i64 0, .int .i64 0, .int .i64 0, .int .i64 0, .int .i64 0] 29)).alloc (.cells #[.int .i64 0, .int .i64 0] 37)) u6q.heap.size t) := h41q.out.new (.cells #[.int .i64 0, .int .i64 0] 37)
    have h46q : Hid (TAt ((u32q.alloc (.cells #[.int .i64 0, .int .i64 0, .int .i64 0, .int .i64 0, .int .i64 0, .int .i64 0, .int .i64 0, .int .i64 0, .int .i64 0, .int .i64 0, .int .i64 0, .int .i64 0, .int .i64 0, .int .i64 0, .int .i64 0, .int .i64 0] 29)).alloc (.cells #[.int .i64 0, .int .i64 0] 37)) u32q.heap.size Tb.zero) := h42q.out.new (.cells #[.int .i64 0, .int .i64 0] 37)
    clear h39q h40q h41q h42q
    have h47q : Hid (Bo ((u32q.alloc (.cells #[.int .i64 0, .int .i64 0, .int .i64 0, .int .i64 0, .int .i64 0, .int .i64 0, .int .i64 0, .int .i64 0, .int .i64 0, .int .i64 0, .int .i64 0, .int .i64 0, .int .i64 0, .int .i64 0, .int .i64 0, .int .i64 0] 29)).alloc (.cells #[.int .i64 0, .int .i64 0] 37)) (u32q.heap.size + 1) [.int .i64 0, .int .i64 0]) := Bo.born (u32q.alloc (.cells #[.int .i64 0, .int .i64 0, .int .i64 0, .int .i64 0, .int .i64 0, .int .i64 0, .int .i64 0, .int .i64 0, .int .i64 0, .int .i64 0, .int .i64 0, .int .i64 0, .int .i64 0, .int .i64 0, .int .i64 0, .int .i64 0] 29)) [.int .i64 0, .int .i64 0] 37 (by simp)
    go_wp2_with (first
      | (refine wpList_store_mid rfl 29 _ _ rfl u32q.heap.size _ u.all.toArray rfl rfl (h46q.out.thereOf u) (HZ.out u) (u.all_all) ?_
         have h48q : Hid (Gd n w (((u32q.alloc (.cells #[.int .i64 0, .int .i64 0, .int .i64 0, .int .i64 0, .int .i64 0, .int .i64 0, .int .i64 0, .int .i64 0, .int .i64 0, .int .i64 0, .int .i64 0, .int .i64 0, .int .i64 0, .int .i64 0, .int .i64 0, .int .i64 0] 29)).alloc (.cells #[.int .i64 0, .int .i64 0] 37)).setCells u32q.heap.size 0 u.all)) := h43q.out.asideAll (by omega) u
         have h49q : Hid (Bo (((u32q.alloc (.cells #[.int .i64 0, .int .i64 0, .int .i64 0, .int .i64 0, .int .i64 0, .int .i64 0, .int .i64 0, .int .i64 0, .int .i64 0, .int .i64 0, .int .i64 0, .int .i64 0, .int .i64 0, .int .i64 0, .int .i64 0, .int .i64 0] 29)).alloc (.cells #[.int .i64 0, .int .i64 0] 37)).setCells u32q.heap.size 0 u.all) n [.int .i64 a1, .int .i64 b1, .int .i64 c1]) := h44q.out.asideAll (by omega) u
         have h50q : Hid (TAt (((u32q.alloc (.cells #[.int .i64 0, .int .i64 0, .int .i64 0, .int .i64 0, .int .i64 0, .int .i64 0, .int .i64 0, .int .i64 0, .int .i64 0, .int .i64 0, .int .i64 0, .int .i64 0, .int .i64 0, .int .i64 0, .int .i64 0, .int .i64 0] 29)).alloc (.cells #[.int .i64 0, .int .i64 0] 37)).setCells u32q.heap.size 0 u.all) u6q.heap.size t) := h45q.out.asideAll (by omega) u
         have h51q : Hid (TAt (((u32q.alloc (.cells #[.int .i64 0, .int .i64 0, .int .i64 0, .int .i64 0, .int .i64 0, .int .i64 0, .int .i64 0, .int .i64 0, .int .i64 0, .int .i64 0, .int .i64 0, .int .i64 0, .int .i64 0, .int .i64 0, .int .i64 0, .int .i64 0] 29)).alloc (.cells #[.int .i64 0, .int .i64 0] 37)).setCells u32q.heap.size 0 u.all) u32q.heap.size u) := h46q.out.setAll u
         have h52q : Hid (Bo (((u32q.alloc (.cells #[.int .i64 0, .int .i64 0, .int .i64 0, .int .i64 0, .int .i64 0, .int .i64 0, .int .i64 0, .int .i64 0, .int .i64 0, .int .i64 0, .int .i64 0, .int .i64 0, .int .i64 0, .int .i64 0, .int .i64 0, .int .i64 0] 29)).alloc (.cells #[.int .i64 0, .int .i64 0] 37)).setCells u32q.heap.size 0 u.all) (u32q.heap.size + 1) [.int .i64 0, .int .i64 0]) := h47q.out.asideAll (by omega) u
         clear h43q h44q h45q h46q h47q
         generalize (((u32q.alloc (.cells #[.int .i64 0, .int .i64 0, .int .i64 0, .int .i64 0, .int .i64 0, .int .i64 0, .int .i64 0, .int .i64 0, .int .i64 0, .int .i64 0, .int .i64 0, .int .i64 0, .int .i64 0, .int .i64 0, .int .i64 0, .int .i64 0] 29)).alloc (.cells #[.int .i64 0, .int .i64 0] 37)).setCells u32q.heap.size 0 u.all) = u53q at h48q h49q h50q h51q h52q  ⊢)
      | (refine wpList_store_mid rfl 37 _ _ rfl (u32q.heap.size + 1) _ #[.int .i64 (cc), .int .i64 (yy)] rfl rfl h52q.out.there2 HA.out (two_one _ _) ?_
         have h54q : Hid (Gd n w (u53q.setCells (u32q.heap.size + 1) 0 [.int .i64 (cc), .int .i64 (yy)])) := h48q.out.asideL (by omega) 0 [.int .i64 (cc), .int .i64 (yy)]
         have h55q : Hid (Bo (u53q.setCells (u32q.heap.size + 1) 0 [.int .i64 (cc), .int .i64 (yy)]) n [.int .i64 a1, .int .i64 b1, .int .i64 c1]) := h49q.out.asideL (by omega) 0 [.int .i64 (cc), .int .i64 (yy)]
         have h56q : Hid (TAt (u53q.setCells (u32q.heap.size + 1) 0 [.int .i64 (cc), .int .i64 (yy)]) u6q.heap.size t) := h50q.out.asideL (by omega) 0 [.int .i64 (cc), .int .i64 (yy)]
         have h57q : Hid (TAt (u53q.setCells (u32q.heap.size + 1) 0 [.int .i64 (cc), .int .i64 (yy)]) u32q.heap.size u) := h51q.out.asideL (by omega) 0 [.int .i64 (cc), .int .i64 (yy)]
         have h58q : Hid (Bo (u53q.setCells (u32q.heap.size + 1) 0 [.int .i64 (cc), .int .i64 (yy)]) (u32q.heap.size + 1) [.int .i64 (cc), .int .i64 (yy)]) := h52q.out.set2 (.int .i64 (cc)) (.int .i64 (yy))
         clear h48q h49q h50q h51q h52q
         generalize (u53q.setCells (u32q.heap.size + 1) 0 [.int .i64 (cc), .int .i64 (yy)]) = u59q at h54q h55q h56q h57q h58q  ⊢))
    have h60q : Hid (Gd n w u59q.drew) := h54q.out.drew
    have h61q : Hid (Bo u59q.drew n [.int .i64 a1, .int .i64 b1, .int .i64 c1]) := h55q.out.drew
    have h62q : Hid (TAt u59q.drew u6q.heap.size t) := h56q.out.drew
    have h63q : Hid (TAt u59q.drew u32q.heap.size u) := h57q.out.drew
    have h64q : Hid (Bo u59q.drew (u32q.heap.size + 1) [.int .i64 (cc), .int .i64 (yy)]) := h58q.out.drew
    clear h54q h55q h56q h57q h58q
    refine wp_region_held_drew (S := fun w' => TAt w' u32q.heap.size u ∧ TAt w' u6q.heap.size t) (by kernel_rfl) ⟨h63q.out, h62q.out⟩ (fun hH => ?_)
    generalize u59q.drew = u65q at h60q h61q h62q h63q h64q hH ⊢
    refine wpAnyH_take (i := 0) (oi := { dst := some 25, op := .load _ (.tmp 6), type := _, pos := _, after := _, guard := _ }) (v := _) rfl (by kernel_rfl) (by kernel_rfl) (by kernel_rfl) (fun _ _ _ h => h) (yieldsIf_load_mid (by rfl) _ _ rfl u32q.heap.size _ rfl u.all _ (fun _ h => (h.1).range) HD.out rfl (HS.out u)) hH ?_
    simp only [Act.put, List.setIfInBounds_toArray, List.set_cons_zero, List.set_cons_succ]
    refine wpAnyH_take (i := 2) (oi := { dst := some 27, op := .load _ (.tmp 5), type := _, pos := _, after := _, guard := _ }) (v := _) rfl (by kernel_rfl) (by kernel_rfl) (by kernel_rfl) (fun _ _ _ h => h) (yieldsIf_load_mid (by rfl) _ _ rfl u6q.heap.size _ rfl t.all _ (fun _ h => (h.2).range) HD.out rfl (HS.out t)) hH ?_
    simp only [Act.put, List.setIfInBounds_toArray, List.set_cons_zero, List.set_cons_succ]
    refine wpAnyH_ready (rs := [1]) (by kernel_rfl) (by simp) ?_
    refine AllReadyH.cons (o := { dst := some 26, op := _, type := _, pos := _, after := _, guard := _ }) rfl (fun K hK => ?_) AllReadyH.nil
    go_simp
    refine (LU _).mono ?_
    rintro e u66q ⟨rfl, hb⟩
    have h67q : Hid (Gd n w u66q) := h60q.out.later hb
    have h68q : Hid (Bo u66q n [.int .i64 a1, .int .i64 b1, .int .i64 c1]) := h61q.out.later hb
    have h69q : Hid (TAt u66q u6q.heap.size t) := h62q.out.later hb
    have h70q : Hid (TAt u66q u32q.heap.size u) := h63q.out.later hb
    have h71q : Hid (Bo u66q (u32q.heap.size + 1) [.int .i64 (cc), .int .i64 (yy)]) := h64q.out.later hb
    clear h60q h61q h62q h63q h64q
    clear hb
    go_wp2_with fail
    refine hK.out _ _ ⟨h70q.out, h69q.out⟩ (fun hH => ?_)
    clear hK K
    try simp only [Act.put, List.setIfInBounds_toArray, List.set_cons_zero, List.set_cons_succ]
    refine wpAnyH_ready (rs := [3]) (by kernel_rfl) (by simp) ?_
    refine AllReadyH.cons (o := { dst := some 28, op := _, type := _, pos := _, after := _, guard := _ }) rfl (fun K hK => ?_) AllReadyH.nil
    go_simp
    refine (LT _).mono ?_
    rintro e u72q ⟨rfl, hb⟩
    have h73q : Hid (Gd n w u72q) := h67q.out.later hb
    have h74q : Hid (Bo u72q n [.int .i64 a1, .int .i64 b1, .int .i64 c1]) := h68q.out.later hb
    have h75q : Hid (TAt u72q u6q.heap.size t) := h69q.out.later hb
    have h76q : Hid (TAt u72q u32q.heap.size u) := h70q.out.later hb
    have h77q : Hid (Bo u72q (u32q.heap.size + 1) [.int .i64 (cc), .int .i64 (yy)]) := h71q.out.later hb
    clear h67q h68q h69q h70q h71q
    clear hb
    go_wp2_with fail
    refine hK.out _ _ ⟨h76q.out, h75q.out⟩ (fun hH => ?_)
    clear hK K
    try simp only [Act.put, List.setIfInBounds_toArray, List.set_cons_zero, List.set_cons_succ]
    refine wpAnyH_take (i := 4) (oi := { dst := some 29, op := .binOp .sub _ (.tmp 26) (.tmp 28) _, type := _, pos := _, after := _, guard := _ }) (v := ?_) rfl (by kernel_rfl) (by kernel_rfl) (by kernel_rfl) (fun _ _ _ h => h) (Or.inl ⟨by rfl, ?_⟩) hH ?_
    rotate_left
    · intro w hSw
      clear hSw
      go_simp
      try with_reducible rfl
    simp only [Act.put, List.setIfInBounds_toArray, List.set_cons_zero, List.set_cons_succ]
    refine wpAnyH_take (i := 5) (oi := { dst := some 8, op := .assign (.tmp 29), type := _, pos := _, after := _, guard := _ }) (v := ?_) rfl (by kernel_rfl) (by kernel_rfl) (by kernel_rfl) (fun _ _ _ h => h) (Or.inl ⟨by rfl, ?_⟩) hH ?_
    rotate_left
    · intro w hSw
      clear hSw
      go_simp
      try with_reducible rfl
    simp only [Act.put, List.setIfInBounds_toArray, List.set_cons_zero, List.set_cons_succ]
    refine wpAnyH_done (by kernel_rfl) ?_ _
    go_wp2_with (first
      | (refine wpList_load_mid rfl 29 _ rfl u32q.heap.size _ rfl u.all _ h76q.out.range HD.out rfl (HS.out u) ?_))
    refine (Right_is u true ⟨fun _ => RU.out, fun _ => rfl⟩ _).mono ?_
    rintro e u78q ⟨rfl, hb⟩
    have h79q : Hid (Gd n w u78q) := h73q.out.later hb
    have h80q : Hid (Bo u78q n [.int .i64 a1, .int .i64 b1, .int .i64 c1]) := h74q.out.later hb
    have h81q : Hid (TAt u78q u6q.heap.size t) := h75q.out.later hb
    have h82q : Hid (TAt u78q u32q.heap.size u) := h76q.out.later hb
    have h83q : Hid (Bo u78q (u32q.heap.size + 1) [.int .i64 (cc), .int .i64 (yy)]) := h77q.out.later hb
    clear h73q h74q h75q h76q h77q
    clear hb
    have c84q := h83q.out.at 0 rfl
    by_cases h1 : cc = 1
    · have m1 : (cc == 1) = true := by simp [h1]
      clear h1
      go_wp2
      go_ret
      exact ⟨rfl, h79q.out.2⟩
    · have m1 : (cc == 1) = false := by simp [h1]
      have e : u = t := HCU.out.resolve_left h1
      subst e
      clear h1
      go_wp2_with (first
        | (refine wpList_load_wanted (by rfl) 29 _ rfl u32q.heap.size _ rfl u.all _ h82q.out.range HD.out rfl (HS.out u) ?_)
        | (refine wpList_load_wanted (by rfl) 29 _ rfl u6q.heap.size _ rfl u.all _ h81q.out.range HD.out rfl (HS.out u) ?_))
      go_ret
      exact ⟨rfl, h79q.out.2⟩
  · have HRR : Hid _ := hr
    clear hr
    go_wp2_with fail
    refine (opRight_no HRR.out _).mono ?_
    rintro e u85q ⟨rfl, hg⟩
    have hb := hg.below
    have h86q : Hid (Gd n w u85q) := h19q.out.later hb
    have h87q : Hid (Bo u85q n [.int .i64 a1, .int .i64 b1, .int .i64 c1]) := h20q.out.later hb
    have h88q : Hid (TAt u85q u6q.heap.size t) := h21q.out.later hb
    clear h19q h20q h21q
    clear hb hg
    go_wp2
    go_ret
    exact ⟨rfl, h86q.out.2⟩


set_option maxRecDepth 100000 in
theorem lifted (os : Os) (started : os.Started) (H : Type) (enc : TypeId × Value → H) :
    ReturnsInHanded {} Try.checked os 5 .any (Rows.tableStaysSpec.pre6 enc Try.prog Try.f5 Rows.tableStaysRow.domain false) (Rows.tableStaysSpec.post enc Try.prog Try.f5 false true false false) := by
  refine returnsInHanded_of_change (C := Try.checked) own started (by kernel_rfl) Try.func5
    (ChangeSpec.witness6 (enc := enc) (C := Try.checked) false ⟨#[], #[.slice none 0 0, .agg #[.int .i64 0, .int .i64 0, .int .i64 0]], []⟩ 8 (by kernel_rfl) (by kernel_rfl) (by kernel_rfl) (by kernel_rfl)) ?_
  intro W base args ds gs before hval0 hW hcnd _
  have hval : ∀ (j : Nat) t v, Try.f5.params[j]? = some t → args[j]? = some v → Value.okWide Try.prog W .any base t v := hval0
  have hW' := hW
  obtain ⟨p, q, hA0, hV, rfl, hfz, hnd⟩ := hW
  have hA : DataW.TrodAll enc Try.prog W 0 (fun _ => true) true Try.f5.params.toList args.toList ds p := hA0
  rw [Try.params5] at hA hval
  obtain ⟨v0, vs0, d0, ds0, p0, q0, hargs, rfl, rfl, h0, r0⟩ := trodAll_cons hA
  obtain ⟨v1, vs1, d1, ds1, p1, q1, rfl, rfl, rfl, h1, r1⟩ := trodAll_cons r0
  obtain ⟨rfl, rfl, rfl⟩ := trodAll_nil r1
  obtain rfl : args = #[v0, v1] := by cases args; simp_all
  obtain ⟨rfl, rfl⟩ := trodVars_none hV
  obtain ⟨n0, D0⟩ := ops_of_trod (hval 0 43 v0 rfl rfl) h0
  obtain ⟨a1, b1, c1, rfl, wa1, wb1, wc1⟩ := op_of_trod (hval 1 35 v1 rfl rfl) h1
  have hlt := hW'.lt
  clear hA0 hval0
  refine (walk v0 n0 a1 b1 c1 wa1 wb1 wc1 W  D0).mono fun e W' ⟨he, hg⟩ => ?_
  subst he
  exact ⟨_, rfl, post_below (pv := []) hW' (fun _ _ _ => (trodAll_cons_mk (shut_bool Try.underlying4 _) trodAll_mk0)) (fun sp hsp => (trodAll_cons_mk (ops_stay h0 hg (fun x hx => hlt x (by simp [hx])) (fun x hx => hsp x (by simp [hx]))) (trodAll_cons_mk (op_stay h1 hg (fun x hx => hlt x (by simp [hx])) (fun x hx => hsp x (by simp [hx]))) trodAll_mk0))) (fun _ _ => rfl) (by simp) (hg.frame _)⟩

theorem over : Rows.tableStaysRow.holds Try.pinned (OpenSpec.ofChange Rows.tableStaysSpec) :=
  OpenClaim.holds_of_wide 5 Try.f5 rfl rfl rfl rfl rfl rfl rfl ⟨rfl, rfl, rfl, rfl, rfl⟩ rfl rfl rfl rfl rfl (by kernel_rfl) Try.func5 (by kernel_rfl)
    (of_decide_eq_true (by kernel_rfl)) (by unfold Func.isWrapper; first | (rw [if_pos (by decide +kernel)]; kernel_rfl) | (rw [if_neg (by decide +kernel)]; exact ⟨rfl, rfl⟩))
    (fun os started H enc _ => lifted os started H enc)

theorem proved : Rows.TableStaysSaid :=
  over
#print axioms proved
end Go.Proofs.Ytojnkfdodjcnfaa.tableStays
