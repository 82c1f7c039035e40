/- Texts laid together: Package object: the words of slots; Package object: withTable, by its contract; Package object: the words of a list; Package object: withList, by its contract: of queues, stacks, deques, heaps; Package object: Do, by its contract. -/
import Derived.Test.YteogbpaaacmllaaDoorPk01
import Derived.Test.YteogbpaaacmllaaDoorPk04
import Derived.Test.YteogbpaaacmllaaDoorPk02
import Derived.Deep.DeepCutAuto
import Derived.Deep.RegionHeld3
import Derived.Test.YteogbpaaacmllaaDoorPk03
namespace Go.Proofs.YteogbpaaacmllaaDoor.Tab
set_option maxRecDepth 20000
open Go.RowKit

def twp (t : Tb) (i : Nat) : Nat → Nat := fun j => if j < 2 * i then tw t j else 0
theorem twp_zero (t : Tb) : wl (twp t 0) = wl wz := wl_congr fun j _ => by simp [twp, wz]
theorem twp_next (t : Tb) {i : Nat} (hi : i < 8) : wl (upw (upw (twp t i) (2 * i) (t.k i).toNat) (2 * i + 1) (t.v i).toNat) = wl (twp t (i + 1)) := by
  refine wl_congr fun j _ => ?_
  unfold upw twp tw
  by_cases e1 : j = 2 * i + 1
  · subst e1
    rw [if_pos rfl, if_pos (by omega), if_pos (by omega), if_neg (by omega), show (2 * i + 1) / 2 = i by omega]
  · rw [if_neg e1]
    by_cases e0 : j = 2 * i
    · subst e0
      rw [if_pos rfl, if_pos (by omega), if_pos (by omega), if_pos (by omega), show (2 * i) / 2 = i by omega]
    · rw [if_neg e0]
      by_cases h : j < 2 * i
      · have h2 : j < 2 * (i + 1) := by omega
        simp only [h, h2, if_true]
      · have h2 : ¬ j < 2 * (i + 1) := by omega
        simp only [h, h2, if_false]
theorem twp_all (t : Tb) : wl (twp t 8) = wl (tw t) := wl_congr fun j hj => by
  unfold twp
  by_cases h : j < 16
  · rw [if_pos (by omega)]
  · rw [if_neg (by omega)]; unfold tw; rw [if_neg h]

set_option maxHeartbeats 4000000 in
theorem tableWords_is (t : Tb) (hk : ∀ i, i < 8 → 0 ≤ t.k i ∧ t.k i ≤ 4294967295) (hv : ∀ i, i < 8 → 0 ≤ t.v i ∧ t.v i ≤ 4294967295) (w : World) :
    Calls Tryd.prog 77 #[.agg t.all.toArray] w fun e w' => e = .returned (.agg (wl (tw t)).toArray) ∧ Below w.heap.size w w' := by
  obtain ⟨na, ea, hd⟩ := slots_array
  have HD : Hid _ := hd
  clear hd
  obtain ⟨nb, eb, hd⟩ := cells_array
  have HC : Hid _ := hd
  clear hd
  have HS : Hid (∀ t : Tb, (Tryd.prog.info? 120).map (·.size) = some t.all.length) := slots_size
  have HCS : Hid _ := cells_size
  have HCZ : Hid _ := cells_size2
  have HX : Hid (∀ i : Nat, i < 8 → ∀ w, (Instr.index 120 (.agg t.all.toArray) (.int .i64 (i : Nat))).run Tryd.prog w = .ok (.agg #[.int .i64 (t.k i), .int .i64 (t.v i)]) w) := slot_at t
  have HK : Hid _ := hk
  have HV : Hid _ := hv
  clear hk hv
  have G : Hid (Gd w.heap.size w (((w.alloc (.cells t.all.toArray 120)).alloc (.cells #[.int .u64 0, .int .u64 0, .int .u64 0, .int .u64 0, .int .u64 0, .int .u64 0, .int .u64 0, .int .u64 0, .int .u64 0, .int .u64 0, .int .u64 0, .int .u64 0, .int .u64 0, .int .u64 0, .int .u64 0, .int .u64 0, .int .u64 0] 75)).alloc (.cells #[.int .u64 0, .int .u64 0, .int .u64 0, .int .u64 0, .int .u64 0, .int .u64 0, .int .u64 0, .int .u64 0, .int .u64 0, .int .u64 0, .int .u64 0, .int .u64 0, .int .u64 0, .int .u64 0, .int .u64 0, .int .u64 0, .int .u64 0] 75))) := (((Gd.refl w).new _).new _).new _
  have T : Hid (TAt (((w.alloc (.cells t.all.toArray 120)).alloc (.cells #[.int .u64 0, .int .u64 0, .int .u64 0, .int .u64 0, .int .u64 0, .int .u64 0, .int .u64 0, .int .u64 0, .int .u64 0, .int .u64 0, .int .u64 0, .int .u64 0, .int .u64 0, .int .u64 0, .int .u64 0, .int .u64 0, .int .u64 0] 75)).alloc (.cells #[.int .u64 0, .int .u64 0, .int .u64 0, .int .u64 0, .int .u64 0, .int .u64 0, .int .u64 0, .int .u64 0, .int .u64 0, .int .u64 0, .int .u64 0, .int .u64 0, .int .u64 0, .int .u64 0, .int .u64 0, .int .u64 0, .int .u64 0] 75)) w.heap.size t) := ((TAt.born w t _).new _).new _
  have R : Hid (Bo (((w.alloc (.cells t.all.toArray 120)).alloc (.cells #[.int .u64 0, .int .u64 0, .int .u64 0, .int .u64 0, .int .u64 0, .int .u64 0, .int .u64 0, .int .u64 0, .int .u64 0, .int .u64 0, .int .u64 0, .int .u64 0, .int .u64 0, .int .u64 0, .int .u64 0, .int .u64 0, .int .u64 0] 75)).alloc (.cells #[.int .u64 0, .int .u64 0, .int .u64 0, .int .u64 0, .int .u64 0, .int .u64 0, .int .u64 0, .int .u64 0, .int .u64 0, .int .u64 0, .int .u64 0, .int .u64 0, .int .u64 0, .int .u64 0, .int .u64 0, .int .u64 0, .int .u64 0] 75)) (w.heap.size + 1) (wl wz)) := (Bo.born _ (wl wz) _ (by simp)).new _
  have L : Hid (Bo (((w.alloc (.cells t.all.toArray 120)).alloc (.cells #[.int .u64 0, .int .u64 0, .int .u64 0, .int .u64 0, .int .u64 0, .int .u64 0, .int .u64 0, .int .u64 0, .int .u64 0, .int .u64 0, .int .u64 0, .int .u64 0, .int .u64 0, .int .u64 0, .int .u64 0, .int .u64 0, .int .u64 0] 75)).alloc (.cells #[.int .u64 0, .int .u64 0, .int .u64 0, .int .u64 0, .int .u64 0, .int .u64 0, .int .u64 0, .int .u64 0, .int .u64 0, .int .u64 0, .int .u64 0, .int .u64 0, .int .u64 0, .int .u64 0, .int .u64 0, .int .u64 0, .int .u64 0] 75)) (w.heap.size + 2) (wl (twp t 0))) := by rw [twp_zero]; exact Bo.born _ (wl wz) _ (by simp)
  have NX : Hid _ := @twp_next t
  have AL : Hid _ := twp_all t
  obtain ⟨cs, hcs⟩ : ∃ cs, cs = t.all := ⟨_, rfl⟩
  have RG : Hid _ := T.out.range
  rw [← hcs] at RG HX G R L ⊢
  have HS1 : Hid ((Tryd.prog.info? 120).map (·.size) = some cs.length) := by rw [hcs]; exact HS.out t
  clear T hcs HS
  go_enter Tryd.func77, Tryd.ntmps77
  go_wp2_with (refine wpList_load_mid rfl 120 _ rfl w.heap.size _ rfl cs _ RG.out HD.out rfl HS1.out ?_)
  generalize World.alloc _ _ = W at G R L RG ⊢
  generalize hsz : w.heap.size = n at G R L RG ⊢
  have HSZ : Hid (w.heap.size = n) := hsz
  clear hsz RG
  go_loopg [7] 8 (fun gg s7 wt => ∃ i : Nat, i ≤ 8 ∧ 8 - i ≤ gg ∧ s7 = .int .i64 i ∧ Hid (Bo wt (n + 1) (wl wz)) ∧ Hid (Bo wt (n + 2) (wl (twp t i))) ∧ Hid (Gd n w wt))
  case atStart => exact ⟨0, by omega, by omega, rfl, R, L, G⟩
  case round =>
    clear R L G
    obtain ⟨i, hi, hgg, rfl, R, L, G⟩ := hrel
    by_cases hlt : i < 8
    · have hx := HX.out i hlt
      have k0 := HK.out i hlt
      have v0 := HV.out i hlt
      have nx := NX.out hlt
      generalize t.k i = x at hx k0 nx
      generalize t.v i = y at hx v0 nx
      obtain ⟨a, rfl⟩ : ∃ a : Nat, (a : Int) = x := ⟨x.toNat, by omega⟩
      obtain ⟨b, rfl⟩ : ∃ b : Nat, (b : Int) = y := ⟨y.toNat, by omega⟩
      rw [Int.toNat_natCast, Int.toNat_natCast] at nx
      have NX1 : Hid _ := nx
      clear nx
      have ex1 : IntKind.u64.wrap (a : Int) = a := by rw [IntKind.wrap_u64]; omega
      have ey1 : IntKind.u64.wrap (b : Int) = b := by rw [IntKind.wrap_u64]; omega
      have i1 : (i : Int) < 8 := by omega
      have i0 : (0 : Int) ≤ (i : Int) := by omega
      have i2 : 2 * (i : Int) < 17 := by omega
      have i3 : 2 * (i : Int) + 1 < 17 := by omega
      have i4 : (0 : Int) ≤ 2 * (i : Int) := by omega
      have i5 : (0 : Int) ≤ 2 * (i : Int) + 1 := by omega
      have ls : n + 2 < wr.heap.size := L.out.lt
      have R1 : Hid (Bo (wr.alloc (.cells #[.int .i64 a, .int .i64 b] 118)) (n + 1) (wl wz)) := R.out.new _
      have L1 : Hid (Bo (wr.alloc (.cells #[.int .i64 a, .int .i64 b] 118)) (n + 2) (wl (twp t i))) := L.out.new _
      have G1 : Hid (Gd n w (wr.alloc (.cells #[.int .i64 a, .int .i64 b] 118))) := G.out.new _
      have S1 : Hid (Bo (wr.alloc (.cells #[.int .i64 a, .int .i64 b] 118)) wr.heap.size [.int .i64 a, .int .i64 b]) := Bo.born wr [.int .i64 a, .int .i64 b] _ rfl
      clear R L G k0 v0
      go_wp2_with fail
      generalize wr.alloc (.cells #[.int .i64 a, .int .i64 b] 118) = V at R1 L1 G1 S1 ⊢
      have c0 := L1.out.word (show 2 * i < 17 by omega)
      have c1 := L1.out.word (show 2 * i + 1 < 17 by omega)
      have f0 := L1.out.froz (2 * i)
      have f1 := L1.out.froz (2 * i + 1)
      have s0 := S1.out.at 0 rfl
      have s1 := S1.out.at 1 rfl
      have ne : wr.heap.size ≠ n + 2 := by omega
      generalize wr.heap.size = q at S1 s0 s1 ne ⊢
      go_region
      all_goals go_wp2
      all_goals go_roundg (8 - (i + 1))
      case measure => omega
      case rel => exact ⟨i + 1, by omega, by omega, by go_num, (R1.out.drew.aside (show n + 1 ≠ n + 2 by omega) _).aside (show n + 1 ≠ n + 2 by omega) _, by rw [← NX1.out]; exact (L1.out.drew.setw a (by omega)).setw b (by omega), (G1.out.drew.aside (show n ≤ n + 2 by omega) _).aside (show n ≤ n + 2 by omega) _⟩
    · have ei : i = 8 := by omega
      subst ei
      rw [AL.out] at L
      clear hlt
      go_wp2_with (first
        | (refine wpList_load_mid rfl 75 _ rfl (n + 2) _ rfl (wl (tw t)) _ L.out.range HC.out rfl (HCS.out (tw t)) ?_)
        | (refine wpList_store_mid rfl 75 _ _ rfl (n + 1) _ (wl (tw t)).toArray rfl rfl (R.out.thereW (tw t)) (HCZ.out (tw t)) (wl_all (tw t)) ?_
           have R1 : Hid (Bo (wr.setCells (n + 1) 0 (wl (tw t))) (n + 1) (wl (tw t))) := R.out.setW (tw t)
           have G1 : Hid (Gd n w (wr.setCells (n + 1) 0 (wl (tw t)))) := G.out.asideL (by omega) _ _
           clear R G L
           generalize wr.setCells (n + 1) 0 (wl (tw t)) = V at R1 G1 ⊢))
      exact bodyPost_ret (results_row Tryd.results77 _ _ (n + 1) (wl (tw t)) _ rfl R1.out.range HC.out rfl (HCS.out (tw t))) rfl ⟨rfl, G1.out.2⟩
end Go.Proofs.YteogbpaaacmllaaDoor.Tab
namespace Go.Proofs.YteogbpaaacmllaaDoor.Tab
set_option maxRecDepth 20000
open Go.RowKit
set_option linter.unusedVariables false

set_option maxHeartbeats 4000000 in
theorem withTable_is {c : Nat → Nat} {u : Tb} {o k x cc y : Int} (hc : ∀ j, j < 16 → c j ≤ 4294967295) (hu : tdo (tbl c) o k x = (u, cc, y)) (hk : ∀ i, i < 8 → 0 ≤ u.k i ∧ u.k i ≤ 4294967295) (hv : ∀ i, i < 8 → 0 ≤ u.v i ∧ u.v i ≤ 4294967295) (w : World) :
    Calls Tryd.prog 59 #[.agg (wl c).toArray, .agg #[.int .i64 o, .int .i64 k, .int .i64 x]] w (fun e w' => e = .returned (.tuple #[.agg (wl (tw u)).toArray, .agg #[.int .i64 cc, .int .i64 y]]) ∧ Below w.heap.size w w') := by
  have S : Hid (∀ w : World, _) := fun w => slots_is c hc w
  have D : Hid (∀ w : World, Calls Tryd.prog 76 #[.agg (tbl c).all.toArray, .agg #[.int .i64 o, .int .i64 k, .int .i64 x]] w fun e w' => e = .returned (.tuple #[.agg u.all.toArray, .agg #[.int .i64 cc, .int .i64 y]]) ∧ Below w.heap.size w w') := fun w => by have := tDo_eq (tbl c) o k x w; rw [hu] at this; exact this
  have TW : Hid (∀ w : World, _) := fun w => tableWords_is u hk hv w
  generalize tbl c = t0 at *
  clear hc hu hk hv
  have hM : Hid _ := (((((Ms.nil w).born (wl c) 75 (b := w.heap.size) rfl).born [.int .i64 o, .int .i64 k, .int .i64 x] 26 (b := w.heap.size + 1) (by simp)).bornR wz_all.symm 75 (b := w.heap.size + 2) (by simp)).born [.int .i64 0, .int .i64 0] 57 (b := w.heap.size + 3) (by simp))
  go_enter Tryd.func59, Tryd.ntmps59
  go_wp2_with fail
  generalize World.alloc _ _ = W at hM ⊢
  generalize hsz : w.heap.size = n at hM ⊢
  clear hsz
  go_cut [6, 7] (fun s6 s7 wx => ∃ bz6 bz7 : Nat, s6 = .pointer (some ⟨bz6, 0, none⟩) ∧ s7 = .pointer (some ⟨bz7, 0, none⟩) ∧ Hid (Ms n w wx [((n + 2), (wl wz)), ((n + 3), [.int .i64 0, .int .i64 0]), (bz6, u.all), (bz7, [.int .i64 cc, .int .i64 y])] []))
  case first =>
    replace hM := hid (hM.out.drew)
    refine wp_region_held_drew (S := fun w' => Bo w' n (wl c) ∧ Bo w' (n + 1) [.int .i64 o, .int .i64 k, .int .i64 x]) (by kernel_rfl) ⟨hM.out.at 3 rfl, hM.out.at 2 rfl⟩ (fun hH => ?_)
    generalize World.drew _ = W at hM hH  ⊢
    refine tkR 0 rfl hH (fun _ h => h.1) (rwC c) ?_
    simp only [Act.put, p1, p2, p3]
    refine tk 2 rfl hH ?_ (by intro w h; have c0 := h.2.at 0 rfl; have c1 := h.2.at 1 rfl; have c2 := h.2.at 2 rfl; clear h; go_simp; try with_reducible rfl)
    simp only [Act.put, p1, p2, p3]
    refine rdn [1, 7, 8] ?_
    refine rdc rfl (fun K hK => ?_) ?_
    · go_simp
      refine (S.out _).mono ?_
      rintro e W ⟨rfl, hb⟩
      replace hM := hid (hM.out.later hb)
      clear hb
      go_wp2_with fail
      refine hK.out _ _ ⟨hM.out.at 3 rfl, hM.out.at 2 rfl⟩ (fun hH => ?_)
      clear hK K
      try simp only [Act.put, p1, p2, p3]
      refine rdn [3, 7, 8] ?_
      refine rdc rfl (fun K hK => ?_) ?_
      · go_simp
        refine (D.out _).mono ?_
        rintro e W ⟨rfl, hb⟩
        replace hM := hid (hM.out.later hb)
        clear hb
        go_wp2_with fail
        refine hK.out _ _ ⟨hM.out.at 3 rfl, hM.out.at 2 rfl⟩ (fun hH => ?_)
        clear hK K
        try simp only [Act.put, p1, p2, p3]
        refine tk 4 rfl hH ?_
        simp only [Act.put, p1, p2, p3]
        refine tk 5 rfl hH ?_
        simp only [Act.put, p1, p2, p3]
        refine tk 6 rfl hH ?_
        simp only [Act.put, p1, p2, p3]
        refine rdn [7, 8] ?_
        refine rdc rfl (fun K hK => ?_) ?_
        · go_simp
          replace hM := hid (hM.out.bornR Tb.zero_all.symm 120 rfl)
          refine hK.out _ _ ⟨hM.out.at 4 rfl, hM.out.at 3 rfl⟩ (fun hH => ?_)
          clear hK K
          generalize W.heap.size = bq1 at hM hH ⊢
          generalize World.alloc _ _ = W at hM hH  ⊢
          try simp only [Act.put, p1, p2, p3]
          refine rd1 8 rfl (fun K hK => ?_)
          go_simp
          replace hM := hid (hM.out.born [.int .i64 0, .int .i64 0] 57 rfl)
          refine hK.out _ _ ⟨hM.out.at 5 rfl, hM.out.at 4 rfl⟩ (fun hH => ?_)
          clear hK K
          generalize W.heap.size = bq2 at hM hH ⊢
          generalize World.alloc _ _ = W at hM hH  ⊢
          try simp only [Act.put, p1, p2, p3]
          refine rd1 9 rfl (fun K hK => ?_)
          refine stR rfl (hM.out.at 1 rfl) ((rwS Tb.zero).len (rwS u)) (rwS u) ?_
          simp only [Act.put]
          replace hM := hid (hM.out.put 1 rfl u.all ((rwS Tb.zero).len (rwS u)))
          refine hK.out _ _ ⟨hM.out.at 5 rfl, hM.out.at 4 rfl⟩ (fun hH => ?_)
          clear hK K
          generalize World.setCells _ _ _ _ = W at hM hH ⊢
          try simp only [Act.put, p1, p2, p3]
          refine rd1 10 rfl (fun K hK => ?_)
          refine stR rfl (hM.out.at 0 rfl) ((rwA 0 0).len (rwA cc y)) (rwA cc y) ?_
          simp only [Act.put]
          replace hM := hid (hM.out.put 0 rfl [.int .i64 cc, .int .i64 y] ((rwA 0 0).len (rwA cc y)))
          refine hK.out _ _ ⟨hM.out.at 5 rfl, hM.out.at 4 rfl⟩ (fun hH => ?_)
          clear hK K
          generalize World.setCells _ _ _ _ = W at hM hH ⊢
          try simp only [Act.put, p1, p2, p3]
          refine wpAnyH_done (by kernel_rfl) ?_ _
          go_wp2_with fail
          go_meet
          case rel => exact ⟨bq1, bq2, rfl, rfl, (hM.out.pick [3, 2, 1, 0]).pickL []⟩
        refine rdc rfl (fun K hK => ?_) AllReadyH.nil
        go_simp
        replace hM := hid (hM.out.born [.int .i64 0, .int .i64 0] 57 rfl)
        refine hK.out _ _ ⟨hM.out.at 4 rfl, hM.out.at 3 rfl⟩ (fun hH => ?_)
        clear hK K
        generalize W.heap.size = bq1 at hM hH ⊢
        generalize World.alloc _ _ = W at hM hH  ⊢
        try simp only [Act.put, p1, p2, p3]
        refine rd1 7 rfl (fun K hK => ?_)
        go_simp
        replace hM := hid (hM.out.bornR Tb.zero_all.symm 120 rfl)
        refine hK.out _ _ ⟨hM.out.at 5 rfl, hM.out.at 4 rfl⟩ (fun hH => ?_)
        clear hK K
        generalize W.heap.size = bq2 at hM hH ⊢
        generalize World.alloc _ _ = W at hM hH  ⊢
        try simp only [Act.put, p1, p2, p3]
        refine rd1 9 rfl (fun K hK => ?_)
        refine stR rfl (hM.out.at 0 rfl) ((rwS Tb.zero).len (rwS u)) (rwS u) ?_
        simp only [Act.put]
        replace hM := hid (hM.out.put 0 rfl u.all ((rwS Tb.zero).len (rwS u)))
        refine hK.out _ _ ⟨hM.out.at 5 rfl, hM.out.at 4 rfl⟩ (fun hH => ?_)
        clear hK K
        generalize World.setCells _ _ _ _ = W at hM hH ⊢
        try simp only [Act.put, p1, p2, p3]
        refine rd1 10 rfl (fun K hK => ?_)
        refine stR rfl (hM.out.at 1 rfl) ((rwA 0 0).len (rwA cc y)) (rwA cc y) ?_
        simp only [Act.put]
        replace hM := hid (hM.out.put 1 rfl [.int .i64 cc, .int .i64 y] ((rwA 0 0).len (rwA cc y)))
        refine hK.out _ _ ⟨hM.out.at 5 rfl, hM.out.at 4 rfl⟩ (fun hH => ?_)
        clear hK K
        generalize World.setCells _ _ _ _ = W at hM hH ⊢
        try simp only [Act.put, p1, p2, p3]
        refine wpAnyH_done (by kernel_rfl) ?_ _
        go_wp2_with fail
        go_meet
        case rel => exact ⟨bq2, bq1, rfl, rfl, (hM.out.pick [3, 2, 0, 1]).pickL []⟩
      refine rdc rfl (fun K hK => ?_) ?_
      · go_simp
        replace hM := hid (hM.out.bornR Tb.zero_all.symm 120 rfl)
        refine hK.out _ _ ⟨hM.out.at 4 rfl, hM.out.at 3 rfl⟩ (fun hH => ?_)
        clear hK K
        generalize W.heap.size = bq1 at hM hH ⊢
        generalize World.alloc _ _ = W at hM hH  ⊢
        try simp only [Act.put, p1, p2, p3]
        refine rdn [3, 8] ?_
        refine rdc rfl (fun K hK => ?_) ?_
        · go_simp
          refine (D.out _).mono ?_
          rintro e W ⟨rfl, hb⟩
          replace hM := hid (hM.out.later hb)
          clear hb
          go_wp2_with fail
          refine hK.out _ _ ⟨hM.out.at 4 rfl, hM.out.at 3 rfl⟩ (fun hH => ?_)
          clear hK K
          try simp only [Act.put, p1, p2, p3]
          refine tk 4 rfl hH ?_
          simp only [Act.put, p1, p2, p3]
          refine tk 5 rfl hH ?_
          simp only [Act.put, p1, p2, p3]
          refine tk 6 rfl hH ?_
          simp only [Act.put, p1, p2, p3]
          refine rd1 8 rfl (fun K hK => ?_)
          go_simp
          replace hM := hid (hM.out.born [.int .i64 0, .int .i64 0] 57 rfl)
          refine hK.out _ _ ⟨hM.out.at 5 rfl, hM.out.at 4 rfl⟩ (fun hH => ?_)
          clear hK K
          generalize W.heap.size = bq2 at hM hH ⊢
          generalize World.alloc _ _ = W at hM hH  ⊢
          try simp only [Act.put, p1, p2, p3]
          refine rd1 9 rfl (fun K hK => ?_)
          refine stR rfl (hM.out.at 1 rfl) ((rwS Tb.zero).len (rwS u)) (rwS u) ?_
          simp only [Act.put]
          replace hM := hid (hM.out.put 1 rfl u.all ((rwS Tb.zero).len (rwS u)))
          refine hK.out _ _ ⟨hM.out.at 5 rfl, hM.out.at 4 rfl⟩ (fun hH => ?_)
          clear hK K
          generalize World.setCells _ _ _ _ = W at hM hH ⊢
          try simp only [Act.put, p1, p2, p3]
          refine rd1 10 rfl (fun K hK => ?_)
          refine stR rfl (hM.out.at 0 rfl) ((rwA 0 0).len (rwA cc y)) (rwA cc y) ?_
          simp only [Act.put]
          replace hM := hid (hM.out.put 0 rfl [.int .i64 cc, .int .i64 y] ((rwA 0 0).len (rwA cc y)))
          refine hK.out _ _ ⟨hM.out.at 5 rfl, hM.out.at 4 rfl⟩ (fun hH => ?_)
          clear hK K
          generalize World.setCells _ _ _ _ = W at hM hH ⊢
          try simp only [Act.put, p1, p2, p3]
          refine wpAnyH_done (by kernel_rfl) ?_ _
          go_wp2_with fail
          go_meet
          case rel => exact ⟨bq1, bq2, rfl, rfl, (hM.out.pick [3, 2, 1, 0]).pickL []⟩
        refine rdc rfl (fun K hK => ?_) AllReadyH.nil
        go_simp
        replace hM := hid (hM.out.born [.int .i64 0, .int .i64 0] 57 rfl)
        refine hK.out _ _ ⟨hM.out.at 5 rfl, hM.out.at 4 rfl⟩ (fun hH => ?_)
        clear hK K
        generalize W.heap.size = bq2 at hM hH ⊢
        generalize World.alloc _ _ = W at hM hH  ⊢
        try simp only [Act.put, p1, p2, p3]
        refine rd1 3 rfl (fun K hK => ?_)
        go_simp
        refine (D.out _).mono ?_
        rintro e W ⟨rfl, hb⟩
        replace hM := hid (hM.out.later hb)
        clear hb
        go_wp2_with fail
        refine hK.out _ _ ⟨hM.out.at 5 rfl, hM.out.at 4 rfl⟩ (fun hH => ?_)
        clear hK K
        try simp only [Act.put, p1, p2, p3]
        refine tk 4 rfl hH ?_
        simp only [Act.put, p1, p2, p3]
        refine tk 5 rfl hH ?_
        simp only [Act.put, p1, p2, p3]
        refine tk 6 rfl hH ?_
        simp only [Act.put, p1, p2, p3]
        refine rd1 9 rfl (fun K hK => ?_)
        refine stR rfl (hM.out.at 1 rfl) ((rwS Tb.zero).len (rwS u)) (rwS u) ?_
        simp only [Act.put]
        replace hM := hid (hM.out.put 1 rfl u.all ((rwS Tb.zero).len (rwS u)))
        refine hK.out _ _ ⟨hM.out.at 5 rfl, hM.out.at 4 rfl⟩ (fun hH => ?_)
        clear hK K
        generalize World.setCells _ _ _ _ = W at hM hH ⊢
        try simp only [Act.put, p1, p2, p3]
        refine rd1 10 rfl (fun K hK => ?_)
        refine stR rfl (hM.out.at 0 rfl) ((rwA 0 0).len (rwA cc y)) (rwA cc y) ?_
        simp only [Act.put]
        replace hM := hid (hM.out.put 0 rfl [.int .i64 cc, .int .i64 y] ((rwA 0 0).len (rwA cc y)))
        refine hK.out _ _ ⟨hM.out.at 5 rfl, hM.out.at 4 rfl⟩ (fun hH => ?_)
        clear hK K
        generalize World.setCells _ _ _ _ = W at hM hH ⊢
        try simp only [Act.put, p1, p2, p3]
        refine wpAnyH_done (by kernel_rfl) ?_ _
        go_wp2_with fail
        go_meet
        case rel => exact ⟨bq1, bq2, rfl, rfl, (hM.out.pick [3, 2, 1, 0]).pickL []⟩
      refine rdc rfl (fun K hK => ?_) AllReadyH.nil
      go_simp
      replace hM := hid (hM.out.born [.int .i64 0, .int .i64 0] 57 rfl)
      refine hK.out _ _ ⟨hM.out.at 4 rfl, hM.out.at 3 rfl⟩ (fun hH => ?_)
      clear hK K
      generalize W.heap.size = bq1 at hM hH ⊢
      generalize World.alloc _ _ = W at hM hH  ⊢
      try simp only [Act.put, p1, p2, p3]
      refine rdn [3, 7] ?_
      refine rdc rfl (fun K hK => ?_) ?_
      · go_simp
        refine (D.out _).mono ?_
        rintro e W ⟨rfl, hb⟩
        replace hM := hid (hM.out.later hb)
        clear hb
        go_wp2_with fail
        refine hK.out _ _ ⟨hM.out.at 4 rfl, hM.out.at 3 rfl⟩ (fun hH => ?_)
        clear hK K
        try simp only [Act.put, p1, p2, p3]
        refine tk 4 rfl hH ?_
        simp only [Act.put, p1, p2, p3]
        refine tk 5 rfl hH ?_
        simp only [Act.put, p1, p2, p3]
        refine tk 6 rfl hH ?_
        simp only [Act.put, p1, p2, p3]
        refine rd1 7 rfl (fun K hK => ?_)
        go_simp
        replace hM := hid (hM.out.bornR Tb.zero_all.symm 120 rfl)
        refine hK.out _ _ ⟨hM.out.at 5 rfl, hM.out.at 4 rfl⟩ (fun hH => ?_)
        clear hK K
        generalize W.heap.size = bq2 at hM hH ⊢
        generalize World.alloc _ _ = W at hM hH  ⊢
        try simp only [Act.put, p1, p2, p3]
        refine rd1 9 rfl (fun K hK => ?_)
        refine stR rfl (hM.out.at 0 rfl) ((rwS Tb.zero).len (rwS u)) (rwS u) ?_
        simp only [Act.put]
        replace hM := hid (hM.out.put 0 rfl u.all ((rwS Tb.zero).len (rwS u)))
        refine hK.out _ _ ⟨hM.out.at 5 rfl, hM.out.at 4 rfl⟩ (fun hH => ?_)
        clear hK K
        generalize World.setCells _ _ _ _ = W at hM hH ⊢
        try simp only [Act.put, p1, p2, p3]
        refine rd1 10 rfl (fun K hK => ?_)
        refine stR rfl (hM.out.at 1 rfl) ((rwA 0 0).len (rwA cc y)) (rwA cc y) ?_
        simp only [Act.put]
        replace hM := hid (hM.out.put 1 rfl [.int .i64 cc, .int .i64 y] ((rwA 0 0).len (rwA cc y)))
        refine hK.out _ _ ⟨hM.out.at 5 rfl, hM.out.at 4 rfl⟩ (fun hH => ?_)
        clear hK K
        generalize World.setCells _ _ _ _ = W at hM hH ⊢
        try simp only [Act.put, p1, p2, p3]
        refine wpAnyH_done (by kernel_rfl) ?_ _
        go_wp2_with fail
        go_meet
        case rel => exact ⟨bq2, bq1, rfl, rfl, (hM.out.pick [3, 2, 0, 1]).pickL []⟩
      refine rdc rfl (fun K hK => ?_) AllReadyH.nil
      go_simp
      replace hM := hid (hM.out.bornR Tb.zero_all.symm 120 rfl)
      refine hK.out _ _ ⟨hM.out.at 5 rfl, hM.out.at 4 rfl⟩ (fun hH => ?_)
      clear hK K
      generalize W.heap.size = bq2 at hM hH ⊢
      generalize World.alloc _ _ = W at hM hH  ⊢
      try simp only [Act.put, p1, p2, p3]
      refine rd1 3 rfl (fun K hK => ?_)
      go_simp
      refine (D.out _).mono ?_
      rintro e W ⟨rfl, hb⟩
      replace hM := hid (hM.out.later hb)
      clear hb
      go_wp2_with fail
      refine hK.out _ _ ⟨hM.out.at 5 rfl, hM.out.at 4 rfl⟩ (fun hH => ?_)
      clear hK K
      try simp only [Act.put, p1, p2, p3]
      refine tk 4 rfl hH ?_
      simp only [Act.put, p1, p2, p3]
      refine tk 5 rfl hH ?_
      simp only [Act.put, p1, p2, p3]
      refine tk 6 rfl hH ?_
      simp only [Act.put, p1, p2, p3]
      refine rd1 9 rfl (fun K hK => ?_)
      refine stR rfl (hM.out.at 0 rfl) ((rwS Tb.zero).len (rwS u)) (rwS u) ?_
      simp only [Act.put]
      replace hM := hid (hM.out.put 0 rfl u.all ((rwS Tb.zero).len (rwS u)))
      refine hK.out _ _ ⟨hM.out.at 5 rfl, hM.out.at 4 rfl⟩ (fun hH => ?_)
      clear hK K
      generalize World.setCells _ _ _ _ = W at hM hH ⊢
      try simp only [Act.put, p1, p2, p3]
      refine rd1 10 rfl (fun K hK => ?_)
      refine stR rfl (hM.out.at 1 rfl) ((rwA 0 0).len (rwA cc y)) (rwA cc y) ?_
      simp only [Act.put]
      replace hM := hid (hM.out.put 1 rfl [.int .i64 cc, .int .i64 y] ((rwA 0 0).len (rwA cc y)))
      refine hK.out _ _ ⟨hM.out.at 5 rfl, hM.out.at 4 rfl⟩ (fun hH => ?_)
      clear hK K
      generalize World.setCells _ _ _ _ = W at hM hH ⊢
      try simp only [Act.put, p1, p2, p3]
      refine wpAnyH_done (by kernel_rfl) ?_ _
      go_wp2_with fail
      go_meet
      case rel => exact ⟨bq2, bq1, rfl, rfl, (hM.out.pick [3, 2, 0, 1]).pickL []⟩
    refine rdc rfl (fun K hK => ?_) ?_
    · go_simp
      replace hM := hid (hM.out.bornR Tb.zero_all.symm 120 rfl)
      refine hK.out _ _ ⟨hM.out.at 4 rfl, hM.out.at 3 rfl⟩ (fun hH => ?_)
      clear hK K
      generalize W.heap.size = bq1 at hM hH ⊢
      generalize World.alloc _ _ = W at hM hH  ⊢
      try simp only [Act.put, p1, p2, p3]
      refine rdn [1, 8] ?_
      refine rdc rfl (fun K hK => ?_) ?_
      · go_simp
        refine (S.out _).mono ?_
        rintro e W ⟨rfl, hb⟩
        replace hM := hid (hM.out.later hb)
        clear hb
        go_wp2_with fail
        refine hK.out _ _ ⟨hM.out.at 4 rfl, hM.out.at 3 rfl⟩ (fun hH => ?_)
        clear hK K
        try simp only [Act.put, p1, p2, p3]
        refine rdn [3, 8] ?_
        refine rdc rfl (fun K hK => ?_) ?_
        · go_simp
          refine (D.out _).mono ?_
          rintro e W ⟨rfl, hb⟩
          replace hM := hid (hM.out.later hb)
          clear hb
          go_wp2_with fail
          refine hK.out _ _ ⟨hM.out.at 4 rfl, hM.out.at 3 rfl⟩ (fun hH => ?_)
          clear hK K
          try simp only [Act.put, p1, p2, p3]
          refine tk 4 rfl hH ?_
          simp only [Act.put, p1, p2, p3]
          refine tk 5 rfl hH ?_
          simp only [Act.put, p1, p2, p3]
          refine tk 6 rfl hH ?_
          simp only [Act.put, p1, p2, p3]
          refine rd1 8 rfl (fun K hK => ?_)
          go_simp
          replace hM := hid (hM.out.born [.int .i64 0, .int .i64 0] 57 rfl)
          refine hK.out _ _ ⟨hM.out.at 5 rfl, hM.out.at 4 rfl⟩ (fun hH => ?_)
          clear hK K
          generalize W.heap.size = bq2 at hM hH ⊢
          generalize World.alloc _ _ = W at hM hH  ⊢
          try simp only [Act.put, p1, p2, p3]
          refine rd1 9 rfl (fun K hK => ?_)
          refine stR rfl (hM.out.at 1 rfl) ((rwS Tb.zero).len (rwS u)) (rwS u) ?_
          simp only [Act.put]
          replace hM := hid (hM.out.put 1 rfl u.all ((rwS Tb.zero).len (rwS u)))
          refine hK.out _ _ ⟨hM.out.at 5 rfl, hM.out.at 4 rfl⟩ (fun hH => ?_)
          clear hK K
          generalize World.setCells _ _ _ _ = W at hM hH ⊢
          try simp only [Act.put, p1, p2, p3]
          refine rd1 10 rfl (fun K hK => ?_)
          refine stR rfl (hM.out.at 0 rfl) ((rwA 0 0).len (rwA cc y)) (rwA cc y) ?_
          simp only [Act.put]
          replace hM := hid (hM.out.put 0 rfl [.int .i64 cc, .int .i64 y] ((rwA 0 0).len (rwA cc y)))
          refine hK.out _ _ ⟨hM.out.at 5 rfl, hM.out.at 4 rfl⟩ (fun hH => ?_)
          clear hK K
          generalize World.setCells _ _ _ _ = W at hM hH ⊢
          try simp only [Act.put, p1, p2, p3]
          refine wpAnyH_done (by kernel_rfl) ?_ _
          go_wp2_with fail
          go_meet
          case rel => exact ⟨bq1, bq2, rfl, rfl, (hM.out.pick [3, 2, 1, 0]).pickL []⟩
        refine rdc rfl (fun K hK => ?_) AllReadyH.nil
        go_simp
        replace hM := hid (hM.out.born [.int .i64 0, .int .i64 0] 57 rfl)
        refine hK.out _ _ ⟨hM.out.at 5 rfl, hM.out.at 4 rfl⟩ (fun hH => ?_)
        clear hK K
        generalize W.heap.size = bq2 at hM hH ⊢
        generalize World.alloc _ _ = W at hM hH  ⊢
        try simp only [Act.put, p1, p2, p3]
        refine rd1 3 rfl (fun K hK => ?_)
        go_simp
        refine (D.out _).mono ?_
        rintro e W ⟨rfl, hb⟩
        replace hM := hid (hM.out.later hb)
        clear hb
        go_wp2_with fail
        refine hK.out _ _ ⟨hM.out.at 5 rfl, hM.out.at 4 rfl⟩ (fun hH => ?_)
        clear hK K
        try simp only [Act.put, p1, p2, p3]
        refine tk 4 rfl hH ?_
        simp only [Act.put, p1, p2, p3]
        refine tk 5 rfl hH ?_
        simp only [Act.put, p1, p2, p3]
        refine tk 6 rfl hH ?_
        simp only [Act.put, p1, p2, p3]
        refine rd1 9 rfl (fun K hK => ?_)
        refine stR rfl (hM.out.at 1 rfl) ((rwS Tb.zero).len (rwS u)) (rwS u) ?_
        simp only [Act.put]
        replace hM := hid (hM.out.put 1 rfl u.all ((rwS Tb.zero).len (rwS u)))
        refine hK.out _ _ ⟨hM.out.at 5 rfl, hM.out.at 4 rfl⟩ (fun hH => ?_)
        clear hK K
        generalize World.setCells _ _ _ _ = W at hM hH ⊢
        try simp only [Act.put, p1, p2, p3]
        refine rd1 10 rfl (fun K hK => ?_)
        refine stR rfl (hM.out.at 0 rfl) ((rwA 0 0).len (rwA cc y)) (rwA cc y) ?_
        simp only [Act.put]
        replace hM := hid (hM.out.put 0 rfl [.int .i64 cc, .int .i64 y] ((rwA 0 0).len (rwA cc y)))
        refine hK.out _ _ ⟨hM.out.at 5 rfl, hM.out.at 4 rfl⟩ (fun hH => ?_)
        clear hK K
        generalize World.setCells _ _ _ _ = W at hM hH ⊢
        try simp only [Act.put, p1, p2, p3]
        refine wpAnyH_done (by kernel_rfl) ?_ _
        go_wp2_with fail
        go_meet
        case rel => exact ⟨bq1, bq2, rfl, rfl, (hM.out.pick [3, 2, 1, 0]).pickL []⟩
      refine rdc rfl (fun K hK => ?_) AllReadyH.nil
      go_simp
      replace hM := hid (hM.out.born [.int .i64 0, .int .i64 0] 57 rfl)
      refine hK.out _ _ ⟨hM.out.at 5 rfl, hM.out.at 4 rfl⟩ (fun hH => ?_)
      clear hK K
      generalize W.heap.size = bq2 at hM hH ⊢
      generalize World.alloc _ _ = W at hM hH  ⊢
      try simp only [Act.put, p1, p2, p3]
      refine rd1 1 rfl (fun K hK => ?_)
      go_simp
      refine (S.out _).mono ?_
      rintro e W ⟨rfl, hb⟩
      replace hM := hid (hM.out.later hb)
      clear hb
      go_wp2_with fail
      refine hK.out _ _ ⟨hM.out.at 5 rfl, hM.out.at 4 rfl⟩ (fun hH => ?_)
      clear hK K
      try simp only [Act.put, p1, p2, p3]
      refine rd1 3 rfl (fun K hK => ?_)
      go_simp
      refine (D.out _).mono ?_
      rintro e W ⟨rfl, hb⟩
      replace hM := hid (hM.out.later hb)
      clear hb
      go_wp2_with fail
      refine hK.out _ _ ⟨hM.out.at 5 rfl, hM.out.at 4 rfl⟩ (fun hH => ?_)
      clear hK K
      try simp only [Act.put, p1, p2, p3]
      refine tk 4 rfl hH ?_
      simp only [Act.put, p1, p2, p3]
      refine tk 5 rfl hH ?_
      simp only [Act.put, p1, p2, p3]
      refine tk 6 rfl hH ?_
      simp only [Act.put, p1, p2, p3]
      refine rd1 9 rfl (fun K hK => ?_)
      refine stR rfl (hM.out.at 1 rfl) ((rwS Tb.zero).len (rwS u)) (rwS u) ?_
      simp only [Act.put]
      replace hM := hid (hM.out.put 1 rfl u.all ((rwS Tb.zero).len (rwS u)))
      refine hK.out _ _ ⟨hM.out.at 5 rfl, hM.out.at 4 rfl⟩ (fun hH => ?_)
      clear hK K
      generalize World.setCells _ _ _ _ = W at hM hH ⊢
      try simp only [Act.put, p1, p2, p3]
      refine rd1 10 rfl (fun K hK => ?_)
      refine stR rfl (hM.out.at 0 rfl) ((rwA 0 0).len (rwA cc y)) (rwA cc y) ?_
      simp only [Act.put]
      replace hM := hid (hM.out.put 0 rfl [.int .i64 cc, .int .i64 y] ((rwA 0 0).len (rwA cc y)))
      refine hK.out _ _ ⟨hM.out.at 5 rfl, hM.out.at 4 rfl⟩ (fun hH => ?_)
      clear hK K
      generalize World.setCells _ _ _ _ = W at hM hH ⊢
      try simp only [Act.put, p1, p2, p3]
      refine wpAnyH_done (by kernel_rfl) ?_ _
      go_wp2_with fail
      go_meet
      case rel => exact ⟨bq1, bq2, rfl, rfl, (hM.out.pick [3, 2, 1, 0]).pickL []⟩
    refine rdc rfl (fun K hK => ?_) AllReadyH.nil
    go_simp
    replace hM := hid (hM.out.born [.int .i64 0, .int .i64 0] 57 rfl)
    refine hK.out _ _ ⟨hM.out.at 4 rfl, hM.out.at 3 rfl⟩ (fun hH => ?_)
    clear hK K
    generalize W.heap.size = bq1 at hM hH ⊢
    generalize World.alloc _ _ = W at hM hH  ⊢
    try simp only [Act.put, p1, p2, p3]
    refine rdn [1, 7] ?_
    refine rdc rfl (fun K hK => ?_) ?_
    · go_simp
      refine (S.out _).mono ?_
      rintro e W ⟨rfl, hb⟩
      replace hM := hid (hM.out.later hb)
      clear hb
      go_wp2_with fail
      refine hK.out _ _ ⟨hM.out.at 4 rfl, hM.out.at 3 rfl⟩ (fun hH => ?_)
      clear hK K
      try simp only [Act.put, p1, p2, p3]
      refine rdn [3, 7] ?_
      refine rdc rfl (fun K hK => ?_) ?_
      · go_simp
        refine (D.out _).mono ?_
        rintro e W ⟨rfl, hb⟩
        replace hM := hid (hM.out.later hb)
        clear hb
        go_wp2_with fail
        refine hK.out _ _ ⟨hM.out.at 4 rfl, hM.out.at 3 rfl⟩ (fun hH => ?_)
        clear hK K
        try simp only [Act.put, p1, p2, p3]
        refine tk 4 rfl hH ?_
        simp only [Act.put, p1, p2, p3]
        refine tk 5 rfl hH ?_
        simp only [Act.put, p1, p2, p3]
        refine tk 6 rfl hH ?_
        simp only [Act.put, p1, p2, p3]
        refine rd1 7 rfl (fun K hK => ?_)
        go_simp
        replace hM := hid (hM.out.bornR Tb.zero_all.symm 120 rfl)
        refine hK.out _ _ ⟨hM.out.at 5 rfl, hM.out.at 4 rfl⟩ (fun hH => ?_)
        clear hK K
        generalize W.heap.size = bq2 at hM hH ⊢
        generalize World.alloc _ _ = W at hM hH  ⊢
        try simp only [Act.put, p1, p2, p3]
        refine rd1 9 rfl (fun K hK => ?_)
        refine stR rfl (hM.out.at 0 rfl) ((rwS Tb.zero).len (rwS u)) (rwS u) ?_
        simp only [Act.put]
        replace hM := hid (hM.out.put 0 rfl u.all ((rwS Tb.zero).len (rwS u)))
        refine hK.out _ _ ⟨hM.out.at 5 rfl, hM.out.at 4 rfl⟩ (fun hH => ?_)
        clear hK K
        generalize World.setCells _ _ _ _ = W at hM hH ⊢
        try simp only [Act.put, p1, p2, p3]
        refine rd1 10 rfl (fun K hK => ?_)
        refine stR rfl (hM.out.at 1 rfl) ((rwA 0 0).len (rwA cc y)) (rwA cc y) ?_
        simp only [Act.put]
        replace hM := hid (hM.out.put 1 rfl [.int .i64 cc, .int .i64 y] ((rwA 0 0).len (rwA cc y)))
        refine hK.out _ _ ⟨hM.out.at 5 rfl, hM.out.at 4 rfl⟩ (fun hH => ?_)
        clear hK K
        generalize World.setCells _ _ _ _ = W at hM hH ⊢
        try simp only [Act.put, p1, p2, p3]
        refine wpAnyH_done (by kernel_rfl) ?_ _
        go_wp2_with fail
        go_meet
        case rel => exact ⟨bq2, bq1, rfl, rfl, (hM.out.pick [3, 2, 0, 1]).pickL []⟩
      refine rdc rfl (fun K hK => ?_) AllReadyH.nil
      go_simp
      replace hM := hid (hM.out.bornR Tb.zero_all.symm 120 rfl)
      refine hK.out _ _ ⟨hM.out.at 5 rfl, hM.out.at 4 rfl⟩ (fun hH => ?_)
      clear hK K
      generalize W.heap.size = bq2 at hM hH ⊢
      generalize World.alloc _ _ = W at hM hH  ⊢
      try simp only [Act.put, p1, p2, p3]
      refine rd1 3 rfl (fun K hK => ?_)
      go_simp
      refine (D.out _).mono ?_
      rintro e W ⟨rfl, hb⟩
      replace hM := hid (hM.out.later hb)
      clear hb
      go_wp2_with fail
      refine hK.out _ _ ⟨hM.out.at 5 rfl, hM.out.at 4 rfl⟩ (fun hH => ?_)
      clear hK K
      try simp only [Act.put, p1, p2, p3]
      refine tk 4 rfl hH ?_
      simp only [Act.put, p1, p2, p3]
      refine tk 5 rfl hH ?_
      simp only [Act.put, p1, p2, p3]
      refine tk 6 rfl hH ?_
      simp only [Act.put, p1, p2, p3]
      refine rd1 9 rfl (fun K hK => ?_)
      refine stR rfl (hM.out.at 0 rfl) ((rwS Tb.zero).len (rwS u)) (rwS u) ?_
      simp only [Act.put]
      replace hM := hid (hM.out.put 0 rfl u.all ((rwS Tb.zero).len (rwS u)))
      refine hK.out _ _ ⟨hM.out.at 5 rfl, hM.out.at 4 rfl⟩ (fun hH => ?_)
      clear hK K
      generalize World.setCells _ _ _ _ = W at hM hH ⊢
      try simp only [Act.put, p1, p2, p3]
      refine rd1 10 rfl (fun K hK => ?_)
      refine stR rfl (hM.out.at 1 rfl) ((rwA 0 0).len (rwA cc y)) (rwA cc y) ?_
      simp only [Act.put]
      replace hM := hid (hM.out.put 1 rfl [.int .i64 cc, .int .i64 y] ((rwA 0 0).len (rwA cc y)))
      refine hK.out _ _ ⟨hM.out.at 5 rfl, hM.out.at 4 rfl⟩ (fun hH => ?_)
      clear hK K
      generalize World.setCells _ _ _ _ = W at hM hH ⊢
      try simp only [Act.put, p1, p2, p3]
      refine wpAnyH_done (by kernel_rfl) ?_ _
      go_wp2_with fail
      go_meet
      case rel => exact ⟨bq2, bq1, rfl, rfl, (hM.out.pick [3, 2, 0, 1]).pickL []⟩
    refine rdc rfl (fun K hK => ?_) AllReadyH.nil
    go_simp
    replace hM := hid (hM.out.bornR Tb.zero_all.symm 120 rfl)
    refine hK.out _ _ ⟨hM.out.at 5 rfl, hM.out.at 4 rfl⟩ (fun hH => ?_)
    clear hK K
    generalize W.heap.size = bq2 at hM hH ⊢
    generalize World.alloc _ _ = W at hM hH  ⊢
    try simp only [Act.put, p1, p2, p3]
    refine rd1 1 rfl (fun K hK => ?_)
    go_simp
    refine (S.out _).mono ?_
    rintro e W ⟨rfl, hb⟩
    replace hM := hid (hM.out.later hb)
    clear hb
    go_wp2_with fail
    refine hK.out _ _ ⟨hM.out.at 5 rfl, hM.out.at 4 rfl⟩ (fun hH => ?_)
    clear hK K
    try simp only [Act.put, p1, p2, p3]
    refine rd1 3 rfl (fun K hK => ?_)
    go_simp
    refine (D.out _).mono ?_
    rintro e W ⟨rfl, hb⟩
    replace hM := hid (hM.out.later hb)
    clear hb
    go_wp2_with fail
    refine hK.out _ _ ⟨hM.out.at 5 rfl, hM.out.at 4 rfl⟩ (fun hH => ?_)
    clear hK K
    try simp only [Act.put, p1, p2, p3]
    refine tk 4 rfl hH ?_
    simp only [Act.put, p1, p2, p3]
    refine tk 5 rfl hH ?_
    simp only [Act.put, p1, p2, p3]
    refine tk 6 rfl hH ?_
    simp only [Act.put, p1, p2, p3]
    refine rd1 9 rfl (fun K hK => ?_)
    refine stR rfl (hM.out.at 0 rfl) ((rwS Tb.zero).len (rwS u)) (rwS u) ?_
    simp only [Act.put]
    replace hM := hid (hM.out.put 0 rfl u.all ((rwS Tb.zero).len (rwS u)))
    refine hK.out _ _ ⟨hM.out.at 5 rfl, hM.out.at 4 rfl⟩ (fun hH => ?_)
    clear hK K
    generalize World.setCells _ _ _ _ = W at hM hH ⊢
    try simp only [Act.put, p1, p2, p3]
    refine rd1 10 rfl (fun K hK => ?_)
    refine stR rfl (hM.out.at 1 rfl) ((rwA 0 0).len (rwA cc y)) (rwA cc y) ?_
    simp only [Act.put]
    replace hM := hid (hM.out.put 1 rfl [.int .i64 cc, .int .i64 y] ((rwA 0 0).len (rwA cc y)))
    refine hK.out _ _ ⟨hM.out.at 5 rfl, hM.out.at 4 rfl⟩ (fun hH => ?_)
    clear hK K
    generalize World.setCells _ _ _ _ = W at hM hH ⊢
    try simp only [Act.put, p1, p2, p3]
    refine wpAnyH_done (by kernel_rfl) ?_ _
    go_wp2_with fail
    go_meet
    case rel => exact ⟨bq2, bq1, rfl, rfl, (hM.out.pick [3, 2, 0, 1]).pickL []⟩
  case rest =>
    obtain ⟨bz6, bz7, rfl, rfl, hM⟩ := hcut
    generalize wc = W at hM ⊢
    go_wp2_with fail
    replace hM := hid (hM.out.drew)
    refine wp_region_held_drew (S := fun w' => Bo w' bz6 u.all ∧ Bo w' bz7 [.int .i64 cc, .int .i64 y]) (by kernel_rfl) ⟨hM.out.at 2 rfl, hM.out.at 3 rfl⟩ (fun hH => ?_)
    generalize World.drew _ = W at hM hH  ⊢
    refine tkR 0 rfl hH (fun _ h => h.1) (rwS u) ?_
    simp only [Act.put, p1, p2, p3]
    refine tk 2 rfl hH ?_ (by intro w h; have c0 := h.2.at 0 rfl; have c1 := h.2.at 1 rfl; clear h; go_simp; try with_reducible rfl)
    simp only [Act.put, p1, p2, p3]
    refine rd1 1 rfl (fun K hK => ?_)
    go_simp
    refine (TW.out _).mono ?_
    rintro e W ⟨rfl, hb⟩
    replace hM := hid (hM.out.later hb)
    clear hb
    go_wp2_with fail
    refine hK.out _ _ ⟨hM.out.at 2 rfl, hM.out.at 3 rfl⟩ (fun hH => ?_)
    clear hK K
    try simp only [Act.put, p1, p2, p3]
    refine rd1 3 rfl (fun K hK => ?_)
    refine stR rfl (hM.out.at 0 rfl) ((rwC wz).len (rwC (tw u))) (rwC (tw u)) ?_
    simp only [Act.put]
    replace hM := hid (hM.out.put 0 rfl (wl (tw u)) ((rwC wz).len (rwC (tw u))))
    refine hK.out _ _ ⟨hM.out.at 2 rfl, hM.out.at 3 rfl⟩ (fun hH => ?_)
    clear hK K
    generalize World.setCells _ _ _ _ = W at hM hH ⊢
    try simp only [Act.put, p1, p2, p3]
    refine rd1 4 rfl (fun K hK => ?_)
    refine stR rfl (hM.out.at 1 rfl) ((rwA 0 0).len (rwA cc y)) (rwA cc y) ?_
    simp only [Act.put]
    replace hM := hid (hM.out.put 1 rfl [.int .i64 cc, .int .i64 y] ((rwA 0 0).len (rwA cc y)))
    refine hK.out _ _ ⟨hM.out.at 2 rfl, hM.out.at 3 rfl⟩ (fun hH => ?_)
    clear hK K
    generalize World.setCells _ _ _ _ = W at hM hH ⊢
    try simp only [Act.put, p1, p2, p3]
    refine wpAnyH_done (by kernel_rfl) ?_ _
    go_wp2
    exact bodyPost_ret (res2 Tryd.results59 (hM.out.at 0 rfl) (rwC (tw u)) (hM.out.at 1 rfl) (rwA _ _)) rfl ⟨rfl, hM.out.below⟩
end Go.Proofs.YteogbpaaacmllaaDoor.Tab
namespace Go.Proofs.YteogbpaaacmllaaDoor.Tab
set_option maxRecDepth 20000
open Go.RowKit

def lwp (l : List Int) (i : Nat) : Nat → Nat := fun j => if j = 0 then l.length else if j ≤ i then (l.getD (j - 1) 0).toNat else 0
theorem lwp_next (l : List Int) (i : Nat) : wl (upw (lwp l i) (1 + i) (l.getD i 0).toNat) = wl (lwp l (i + 1)) := by
  refine wl_congr fun j _ => ?_
  unfold upw lwp
  by_cases e : j = 1 + i
  · subst e
    rw [if_pos rfl, if_neg (by omega), if_pos (by omega), show 1 + i - 1 = i by omega]
  · rw [if_neg e]
    by_cases e0 : j = 0
    · rw [if_pos e0, if_pos e0]
    · rw [if_neg e0, if_neg e0]
      by_cases e1 : j ≤ i
      · rw [if_pos e1, if_pos (by omega)]
      · rw [if_neg e1, if_neg (by omega)]
theorem lwp_all (l : List Int) : wl (lwp l l.length) = wl (lw l) := by
  refine wl_congr fun j _ => ?_
  unfold lwp lw
  by_cases e0 : j = 0
  · rw [if_pos e0, if_pos e0]
  · rw [if_neg e0, if_neg e0]
    by_cases e1 : j ≤ l.length
    · rw [if_pos e1]
    · rw [if_neg e1, List.getD_eq_getElem?_getD, List.getElem?_eq_none (by omega)]; rfl
theorem lwp_zero (l : List Int) : wl (lwp l 0) = [.int .u64 (l.length : Nat), .int .u64 0, .int .u64 0, .int .u64 0, .int .u64 0, .int .u64 0, .int .u64 0, .int .u64 0, .int .u64 0, .int .u64 0, .int .u64 0, .int .u64 0, .int .u64 0, .int .u64 0, .int .u64 0, .int .u64 0, .int .u64 0] := by
  have : wl (lwp l 0) = wl (upw wz 0 l.length) := wl_congr fun j _ => by
    unfold lwp upw wz
    by_cases e0 : j = 0
    · rw [if_pos e0, if_pos e0]
    · rw [if_neg e0, if_neg e0, if_neg (by omega)]
  rw [this]; rfl
theorem w17 (a : Nat) : (#[.int .u64 (a : Nat), .int .u64 0, .int .u64 0, .int .u64 0, .int .u64 0, .int .u64 0, .int .u64 0, .int .u64 0, .int .u64 0, .int .u64 0, .int .u64 0, .int .u64 0, .int .u64 0, .int .u64 0, .int .u64 0, .int .u64 0, .int .u64 0] : Array Value).all (·.oneCell') = true := by simp [Value.oneCell']
set_option maxHeartbeats 2000000 in
theorem listWords_is {B : Nat} {v : Value} {l : List Int} {w : World} (h : IsL B w v l) (h6 : l.length ≤ 6) (hv : ∀ x ∈ l, 0 ≤ x ∧ x ≤ 4294967295) :
    Calls Tryd.prog 69 #[v] w fun e w' => e = .returned (.agg (wl (lw l)).toArray) ∧ Below w.heap.size w w' := by
  obtain ⟨na, ea, hd⟩ := cells_array
  have HD : Hid _ := hd
  clear hd
  have HS : Hid _ := cells_size
  have HZ : Hid _ := cells_size2
  have HZ0 : Hid ((Tryd.prog.info? 75).map (·.size) = some 17) := (by kernel_rfl : (Tryd.prog.info? 75).map (·.size) = some 17)
  obtain ⟨a, k, rfl⟩ := h.form
  have H : Hid (IsL B w (.slice a l.length k) l) := h
  have HL : Hid (∀ i, i < l.length → ∃ b off, a = some ⟨b, off, none⟩ ∧ (∀ W, Below w.heap.size w W → W.cell? ⟨b, off + i, none⟩ = some (.int .i64 ((l.getD i 0).toNat : Nat)))) := fun i hi => by
    rcases h with ⟨rfl, _⟩ | ⟨b, off, c, h1, hB, h0, hc, hcell, _⟩
    · simp at hi
    · injection h1 with h1 _ _
      refine ⟨b, off, h1, fun W hW => ?_⟩
      have hx := hv (l.getD i 0) (by rw [List.getD_eq_getElem?_getD, List.getElem?_eq_getElem hi]; exact List.getElem_mem hi)
      rw [hW.cell (p := ⟨b, off + i, none⟩) (World.block_lt_of_cell? _ _ (hcell i hi)), hcell i hi]
      congr 2; omega
  have HX : Hid (∀ i, i < l.length → (l.getD i 0).toNat ≤ 4294967295) := fun i hi => by
    have hx := hv (l.getD i 0) (by rw [List.getD_eq_getElem?_getD, List.getElem?_eq_getElem hi]; exact List.getElem_mem hi)
    omega
  clear hv
  have G0 : Hid (Gd w.heap.size w (w.alloc (.cells #[.int .u64 0, .int .u64 0, .int .u64 0, .int .u64 0, .int .u64 0, .int .u64 0, .int .u64 0, .int .u64 0, .int .u64 0, .int .u64 0, .int .u64 0, .int .u64 0, .int .u64 0, .int .u64 0, .int .u64 0, .int .u64 0, .int .u64 0] 75))) := (Gd.refl w).new _
  have T0 : Hid (Bo (w.alloc (.cells #[.int .u64 0, .int .u64 0, .int .u64 0, .int .u64 0, .int .u64 0, .int .u64 0, .int .u64 0, .int .u64 0, .int .u64 0, .int .u64 0, .int .u64 0, .int .u64 0, .int .u64 0, .int .u64 0, .int .u64 0, .int .u64 0, .int .u64 0] 75)) w.heap.size (wl wz)) := Bo.born w (wl wz) _ rfl
  clear h
  have ew1 : IntKind.u64.wrap (l.length : Int) = l.length := by rw [IntKind.wrap_u64]; omega
  generalize hN : l.length = N at *
  have HN : Hid (l.length = N) := hN
  clear hN
  go_enter Tryd.func69, Tryd.ntmps69
  go_wp2_with (first
    | (have T1 : Hid (Bo ((w.alloc (.cells #[.int .u64 0, .int .u64 0, .int .u64 0, .int .u64 0, .int .u64 0, .int .u64 0, .int .u64 0, .int .u64 0, .int .u64 0, .int .u64 0, .int .u64 0, .int .u64 0, .int .u64 0, .int .u64 0, .int .u64 0, .int .u64 0, .int .u64 0] 75)).alloc (.cells #[.int .u64 0, .int .u64 0, .int .u64 0, .int .u64 0, .int .u64 0, .int .u64 0, .int .u64 0, .int .u64 0, .int .u64 0, .int .u64 0, .int .u64 0, .int .u64 0, .int .u64 0, .int .u64 0, .int .u64 0, .int .u64 0, .int .u64 0] 75)) (w.heap.size + 1) (wl wz)) := Bo.born _ (wl wz) _ (by simp)
       have T0' : Hid (Bo ((w.alloc (.cells #[.int .u64 0, .int .u64 0, .int .u64 0, .int .u64 0, .int .u64 0, .int .u64 0, .int .u64 0, .int .u64 0, .int .u64 0, .int .u64 0, .int .u64 0, .int .u64 0, .int .u64 0, .int .u64 0, .int .u64 0, .int .u64 0, .int .u64 0] 75)).alloc (.cells #[.int .u64 0, .int .u64 0, .int .u64 0, .int .u64 0, .int .u64 0, .int .u64 0, .int .u64 0, .int .u64 0, .int .u64 0, .int .u64 0, .int .u64 0, .int .u64 0, .int .u64 0, .int .u64 0, .int .u64 0, .int .u64 0, .int .u64 0] 75)) w.heap.size (wl wz)) := T0.out.new _
       have G1 : Hid (Gd w.heap.size w ((w.alloc (.cells #[.int .u64 0, .int .u64 0, .int .u64 0, .int .u64 0, .int .u64 0, .int .u64 0, .int .u64 0, .int .u64 0, .int .u64 0, .int .u64 0, .int .u64 0, .int .u64 0, .int .u64 0, .int .u64 0, .int .u64 0, .int .u64 0, .int .u64 0] 75)).alloc (.cells #[.int .u64 0, .int .u64 0, .int .u64 0, .int .u64 0, .int .u64 0, .int .u64 0, .int .u64 0, .int .u64 0, .int .u64 0, .int .u64 0, .int .u64 0, .int .u64 0, .int .u64 0, .int .u64 0, .int .u64 0, .int .u64 0, .int .u64 0] 75))) := G0.out.new _
       clear T0 G0
       generalize ((w.alloc (.cells #[.int .u64 0, .int .u64 0, .int .u64 0, .int .u64 0, .int .u64 0, .int .u64 0, .int .u64 0, .int .u64 0, .int .u64 0, .int .u64 0, .int .u64 0, .int .u64 0, .int .u64 0, .int .u64 0, .int .u64 0, .int .u64 0, .int .u64 0] 75)).alloc (.cells #[.int .u64 0, .int .u64 0, .int .u64 0, .int .u64 0, .int .u64 0, .int .u64 0, .int .u64 0, .int .u64 0, .int .u64 0, .int .u64 0, .int .u64 0, .int .u64 0, .int .u64 0, .int .u64 0, .int .u64 0, .int .u64 0, .int .u64 0] 75)) = W at T1 T0' G1 ⊢
       refine wpList_store_mid rfl 75 _ _ rfl (w.heap.size + 1) _ #[.int .u64 (N : Nat), .int .u64 0, .int .u64 0, .int .u64 0, .int .u64 0, .int .u64 0, .int .u64 0, .int .u64 0, .int .u64 0, .int .u64 0, .int .u64 0, .int .u64 0, .int .u64 0, .int .u64 0, .int .u64 0, .int .u64 0, .int .u64 0] rfl rfl (T1.out.thereL (by rw [wl_length]; rfl)) HZ0.out (w17 N) ?_
       have T2 : Hid (Bo (W.setCells (w.heap.size + 1) 0 [.int .u64 (N : Nat), .int .u64 0, .int .u64 0, .int .u64 0, .int .u64 0, .int .u64 0, .int .u64 0, .int .u64 0, .int .u64 0, .int .u64 0, .int .u64 0, .int .u64 0, .int .u64 0, .int .u64 0, .int .u64 0, .int .u64 0, .int .u64 0]) (w.heap.size + 1) (wl (lwp l 0))) := by
         have e := lwp_zero l; rw [HN.out] at e; rw [e]; exact T1.out.setL (by rw [wl_length]; rfl)
       have T3 : Hid (Bo (W.setCells (w.heap.size + 1) 0 [.int .u64 (N : Nat), .int .u64 0, .int .u64 0, .int .u64 0, .int .u64 0, .int .u64 0, .int .u64 0, .int .u64 0, .int .u64 0, .int .u64 0, .int .u64 0, .int .u64 0, .int .u64 0, .int .u64 0, .int .u64 0, .int .u64 0, .int .u64 0]) w.heap.size (wl wz)) := T0'.out.asideL (by omega) _ _
       have G2 : Hid (Gd w.heap.size w (W.setCells (w.heap.size + 1) 0 [.int .u64 (N : Nat), .int .u64 0, .int .u64 0, .int .u64 0, .int .u64 0, .int .u64 0, .int .u64 0, .int .u64 0, .int .u64 0, .int .u64 0, .int .u64 0, .int .u64 0, .int .u64 0, .int .u64 0, .int .u64 0, .int .u64 0, .int .u64 0])) := G1.out.asideL (by omega) _ _
       clear T1 T0' G1
       generalize W.setCells (w.heap.size + 1) 0 [.int .u64 (N : Nat), .int .u64 0, .int .u64 0, .int .u64 0, .int .u64 0, .int .u64 0, .int .u64 0, .int .u64 0, .int .u64 0, .int .u64 0, .int .u64 0, .int .u64 0, .int .u64 0, .int .u64 0, .int .u64 0, .int .u64 0, .int .u64 0] = U at T2 T3 G2 ⊢))
  generalize hsz : w.heap.size = n at T2 T3 G2 ⊢
  have HSZ : Hid (w.heap.size = n) := hsz
  clear hsz
  go_loopg [12] N (fun gg s12 wt => ∃ i : Nat, i ≤ N ∧ N - i ≤ gg ∧ s12 = .int .i64 i ∧ Hid (Bo wt (n + 1) (wl (lwp l i))) ∧ Hid (Bo wt n (wl wz)) ∧ Hid (Gd n w wt))
  case atStart => exact ⟨0, by omega, by omega, rfl, T2, T3, G2⟩
  case round =>
    clear T2 T3 G2
    obtain ⟨i, hi, hgg, rfl, T, S, G⟩ := hrel
    by_cases hlt : i < N
    · obtain ⟨b, off, rfl, hc⟩ := HL.out i hlt
      have c0 := hc wr G.out.2
      have NX : Hid _ := lwp_next l i
      have c1 := T.out.word (show 1 + i < 17 by omega)
      have f1 := T.out.froz (1 + i)
      have j1 : 1 + (i : Int) < 17 := by omega
      have j0 : (0 : Int) ≤ 1 + (i : Int) := by omega
      have i1 : (i : Int) < (N : Int) := by omega
      have i0 : (0 : Int) ≤ (i : Int) := by omega
      have T1 : Hid (Bo (wr.setCell ⟨n + 1, 1 + i, none⟩ (.int .u64 ((l.getD i 0).toNat : Nat))) (n + 1) (wl (lwp l (i + 1)))) := by
        rw [← NX.out]; exact T.out.setw _ (by omega)
      have S1 : Hid (Bo (wr.setCell ⟨n + 1, 1 + i, none⟩ (.int .u64 ((l.getD i 0).toNat : Nat))) n (wl wz)) := S.out.aside (by simp) _
      have G1 : Hid (Gd n w (wr.setCell ⟨n + 1, 1 + i, none⟩ (.int .u64 ((l.getD i 0).toNat : Nat)))) := G.out.aside (by simp) _
      clear hc NX T S G
      generalize lwp l i (1 + i) = z at c1
      have hx : (l.getD i 0).toNat ≤ 4294967295 := HX.out i (by omega)
      generalize (l.getD i 0).toNat = x at c0 T1 S1 G1 hx
      have ew2 : IntKind.u64.wrap (x : Int) = x := by rw [IntKind.wrap_u64]; omega
      go_wp2
      go_roundg (N - (i + 1))
      case measure => omega
      case rel => exact ⟨i + 1, by omega, by omega, by go_num, T1, S1, G1⟩
    · have ei : i = N := by omega
      have LA := lwp_all l
      rw [HN.out, ← ei] at LA
      rw [LA] at T
      clear LA
      go_wp2_with (first
        | (refine wpList_load_mid rfl 75 _ rfl (n + 1) _ rfl (wl (lw l)) _ T.out.range HD.out rfl (HS.out (lw l)) ?_)
        | (refine wpList_store_mid rfl 75 _ _ rfl n _ (wl (lw l)).toArray rfl rfl (S.out.thereW (lw l)) (HZ.out (lw l)) (wl_all (lw l)) ?_
           have S1 : Hid (Bo (wr.setCells n 0 (wl (lw l))) n (wl (lw l))) := S.out.setW (lw l)
           have G1 : Hid (Gd n w (wr.setCells n 0 (wl (lw l)))) := G.out.asideL (by omega) _ _
           clear T S G
           generalize wr.setCells n 0 (wl (lw l)) = V at S1 G1 ⊢))
      exact bodyPost_ret (results_row Tryd.results69 _ _ n (wl (lw l)) _ rfl S1.out.range HD.out rfl (HS.out (lw l))) rfl ⟨rfl, G1.out.2⟩
end Go.Proofs.YteogbpaaacmllaaDoor.Tab
namespace Go.Proofs.YteogbpaaacmllaaDoor.Tab
set_option maxRecDepth 20000
open Go.RowKit
set_option linter.unusedVariables false

set_option maxHeartbeats 4000000 in
theorem wlist_any {c : Nat → Nat} {b fk : Nat} {ys : List Int} {o k x cc y : Int} (he : ∀ args (w : World), (callFunc fk args).run Tryd.prog w = .ok (.enter fk args) w) (hW : WList c) (hD : ∀ B W v, IsL B W v (lst c) → Calls Tryd.prog fk #[v, .agg #[.int .i64 o, .int .i64 k, .int .i64 x]] W (Made W ys cc y)) (hl : ys.length ≤ 6) (hv : ∀ z ∈ ys, 0 ≤ z ∧ z ≤ 4294967295) (w : World) (hb : Bo w b [fv fk]) :
    Calls Tryd.prog 68 #[.agg (wl c).toArray, .agg #[.int .i64 o, .int .i64 k, .int .i64 x], .pointer (some ⟨b, 0, none⟩)] w (fun e w' => e = .returned (.tuple #[.agg (wl (lw ys)).toArray, .agg #[.int .i64 cc, .int .i64 y]]) ∧ Below w.heap.size w w') := by
  have LI : Hid (∀ w : World, _) := fun w => list_is hW w
  have DD : Hid _ := hD
  have LW : Hid (∀ B W v, IsL B W v ys → _) := fun B W v h => listWords_is (B := B) (w := W) (v := v) h hl hv
  generalize lst c = xs at *
  clear hW hD hl hv
  have hF : Hid (Bo w b [.func (.func fk) #[] #[]]) := hb
  clear hb
  have hM : Hid _ := (((((Ms.nil w).born (wl c) 75 (b := w.heap.size) rfl).born [.int .i64 o, .int .i64 k, .int .i64 x] 26 (b := w.heap.size + 1) (by simp)).bornR wz_all.symm 75 (b := w.heap.size + 2) (by simp)).born [.int .i64 0, .int .i64 0] 57 (b := w.heap.size + 3) (by simp))
  go_enter Tryd.func68, Tryd.ntmps68
  go_wp2_with fail
  generalize World.alloc _ _ = W at hM ⊢
  generalize hsz : w.heap.size = n at hM ⊢
  clear hsz
  go_cut [7, 8] (fun s7 s8 wx => ∃ bz8 B7 : Nat, s8 = .pointer (some ⟨bz8, 0, none⟩) ∧ Hid (Ms n w wx [((n + 2), (wl wz)), ((n + 3), [.int .i64 0, .int .i64 0]), (bz8, [.int .i64 cc, .int .i64 y])] [(B7, s7, ys)]))
  case first =>
    replace hM := hid (hM.out.drew)
    refine wp_region_held_drew (S := fun w' => Bo w' b [.func (.func fk) #[] #[]] ∧ Bo w' n (wl c) ∧ Bo w' (n + 1) [.int .i64 o, .int .i64 k, .int .i64 x]) (by kernel_rfl) ⟨hF.out.later hM.out.below, hM.out.at 3 rfl, hM.out.at 2 rfl⟩ (fun hH => ?_)
    generalize World.drew _ = W at hM hH  ⊢
    refine tk 0 rfl hH ?_ (by intro w h; have c0 := h.1.at 0 rfl; clear h; go_simp; try with_reducible rfl)
    simp only [Act.put, p1, p2, p3]
    refine tkR 1 rfl hH (fun _ h => h.2.1) (rwC c) ?_
    simp only [Act.put, p1, p2, p3]
    refine tk 3 rfl hH ?_ (by intro w h; have c0 := h.2.2.at 0 rfl; have c1 := h.2.2.at 1 rfl; have c2 := h.2.2.at 2 rfl; clear h; go_simp; try with_reducible rfl)
    simp only [Act.put, p1, p2, p3]
    refine rdn [2, 8] ?_
    refine rdc rfl (fun K hK => ?_) ?_
    · go_simp
      refine (LI.out _).mono ?_
      rintro e W ⟨v1, rfl, I, hb⟩
      replace hM := hid (hM.out.laterL hb I (Nat.le_refl _))
      clear hb
      go_wp2_with fail
      refine hK.out _ _ ⟨hF.out.later hM.out.below, hM.out.at 3 rfl, hM.out.at 2 rfl⟩ (fun hH => ?_)
      clear hK K
      try simp only [Act.put, p1, p2, p3]
      refine rdn [4, 8] ?_
      refine rdc rfl (fun K hK => ?_) ?_
      · go_simp
        refine (DD.out _ _ _ (hM.out.isL 0 rfl)).mono ?_
        rintro e W ⟨v2, rfl, I, hb⟩
        replace hM := hid (hM.out.laterL hb I (Nat.le_refl _))
        clear hb
        go_wp2_with fail
        refine hK.out _ _ ⟨hF.out.later hM.out.below, hM.out.at 3 rfl, hM.out.at 2 rfl⟩ (fun hH => ?_)
        clear hK K
        try simp only [Act.put, p1, p2, p3]
        refine tk 5 rfl hH ?_
        simp only [Act.put, p1, p2, p3]
        refine tk 6 rfl hH ?_
        simp only [Act.put, p1, p2, p3]
        refine tk 7 rfl hH ?_
        simp only [Act.put, p1, p2, p3]
        refine rd1 8 rfl (fun K hK => ?_)
        go_simp
        replace hM := hid (hM.out.born [.int .i64 0, .int .i64 0] 57 rfl)
        refine hK.out _ _ ⟨hF.out.later hM.out.below, hM.out.at 4 rfl, hM.out.at 3 rfl⟩ (fun hH => ?_)
        clear hK K
        generalize W.heap.size = bq1 at hM hH ⊢
        generalize World.alloc _ _ = W at hM hH  ⊢
        try simp only [Act.put, p1, p2, p3]
        refine tk 9 rfl hH ?_
        simp only [Act.put, p1, p2, p3]
        refine rd1 10 rfl (fun K hK => ?_)
        refine stR rfl (hM.out.at 0 rfl) ((rwA 0 0).len (rwA cc y)) (rwA cc y) ?_
        simp only [Act.put]
        replace hM := hid (hM.out.put 0 rfl [.int .i64 cc, .int .i64 y] ((rwA 0 0).len (rwA cc y)))
        refine hK.out _ _ ⟨hF.out.later hM.out.below, hM.out.at 4 rfl, hM.out.at 3 rfl⟩ (fun hH => ?_)
        clear hK K
        generalize World.setCells _ _ _ _ = W at hM hH ⊢
        try simp only [Act.put, p1, p2, p3]
        refine wpAnyH_done (by kernel_rfl) ?_ _
        go_wp2_with fail
        go_meet
        case rel => exact ⟨bq1, _, rfl, (hM.out.pick [2, 1, 0]).pickL [0]⟩
      refine rdc rfl (fun K hK => ?_) AllReadyH.nil
      go_simp
      replace hM := hid (hM.out.born [.int .i64 0, .int .i64 0] 57 rfl)
      refine hK.out _ _ ⟨hF.out.later hM.out.below, hM.out.at 4 rfl, hM.out.at 3 rfl⟩ (fun hH => ?_)
      clear hK K
      generalize W.heap.size = bq1 at hM hH ⊢
      generalize World.alloc _ _ = W at hM hH  ⊢
      try simp only [Act.put, p1, p2, p3]
      refine rd1 4 rfl (fun K hK => ?_)
      go_simp
      refine (DD.out _ _ _ (hM.out.isL 0 rfl)).mono ?_
      rintro e W ⟨v2, rfl, I, hb⟩
      replace hM := hid (hM.out.laterL hb I (Nat.le_refl _))
      clear hb
      go_wp2_with fail
      refine hK.out _ _ ⟨hF.out.later hM.out.below, hM.out.at 4 rfl, hM.out.at 3 rfl⟩ (fun hH => ?_)
      clear hK K
      try simp only [Act.put, p1, p2, p3]
      refine tk 5 rfl hH ?_
      simp only [Act.put, p1, p2, p3]
      refine tk 6 rfl hH ?_
      simp only [Act.put, p1, p2, p3]
      refine tk 7 rfl hH ?_
      simp only [Act.put, p1, p2, p3]
      refine tk 9 rfl hH ?_
      simp only [Act.put, p1, p2, p3]
      refine rd1 10 rfl (fun K hK => ?_)
      refine stR rfl (hM.out.at 0 rfl) ((rwA 0 0).len (rwA cc y)) (rwA cc y) ?_
      simp only [Act.put]
      replace hM := hid (hM.out.put 0 rfl [.int .i64 cc, .int .i64 y] ((rwA 0 0).len (rwA cc y)))
      refine hK.out _ _ ⟨hF.out.later hM.out.below, hM.out.at 4 rfl, hM.out.at 3 rfl⟩ (fun hH => ?_)
      clear hK K
      generalize World.setCells _ _ _ _ = W at hM hH ⊢
      try simp only [Act.put, p1, p2, p3]
      refine wpAnyH_done (by kernel_rfl) ?_ _
      go_wp2_with fail
      go_meet
      case rel => exact ⟨bq1, _, rfl, (hM.out.pick [2, 1, 0]).pickL [0]⟩
    refine rdc rfl (fun K hK => ?_) AllReadyH.nil
    go_simp
    replace hM := hid (hM.out.born [.int .i64 0, .int .i64 0] 57 rfl)
    refine hK.out _ _ ⟨hF.out.later hM.out.below, hM.out.at 4 rfl, hM.out.at 3 rfl⟩ (fun hH => ?_)
    clear hK K
    generalize W.heap.size = bq1 at hM hH ⊢
    generalize World.alloc _ _ = W at hM hH  ⊢
    try simp only [Act.put, p1, p2, p3]
    refine rd1 2 rfl (fun K hK => ?_)
    go_simp
    refine (LI.out _).mono ?_
    rintro e W ⟨v1, rfl, I, hb⟩
    replace hM := hid (hM.out.laterL hb I (Nat.le_refl _))
    clear hb
    go_wp2_with fail
    refine hK.out _ _ ⟨hF.out.later hM.out.below, hM.out.at 4 rfl, hM.out.at 3 rfl⟩ (fun hH => ?_)
    clear hK K
    try simp only [Act.put, p1, p2, p3]
    refine rd1 4 rfl (fun K hK => ?_)
    go_simp
    refine (DD.out _ _ _ (hM.out.isL 0 rfl)).mono ?_
    rintro e W ⟨v2, rfl, I, hb⟩
    replace hM := hid (hM.out.laterL hb I (Nat.le_refl _))
    clear hb
    go_wp2_with fail
    refine hK.out _ _ ⟨hF.out.later hM.out.below, hM.out.at 4 rfl, hM.out.at 3 rfl⟩ (fun hH => ?_)
    clear hK K
    try simp only [Act.put, p1, p2, p3]
    refine tk 5 rfl hH ?_
    simp only [Act.put, p1, p2, p3]
    refine tk 6 rfl hH ?_
    simp only [Act.put, p1, p2, p3]
    refine tk 7 rfl hH ?_
    simp only [Act.put, p1, p2, p3]
    refine tk 9 rfl hH ?_
    simp only [Act.put, p1, p2, p3]
    refine rd1 10 rfl (fun K hK => ?_)
    refine stR rfl (hM.out.at 0 rfl) ((rwA 0 0).len (rwA cc y)) (rwA cc y) ?_
    simp only [Act.put]
    replace hM := hid (hM.out.put 0 rfl [.int .i64 cc, .int .i64 y] ((rwA 0 0).len (rwA cc y)))
    refine hK.out _ _ ⟨hF.out.later hM.out.below, hM.out.at 4 rfl, hM.out.at 3 rfl⟩ (fun hH => ?_)
    clear hK K
    generalize World.setCells _ _ _ _ = W at hM hH ⊢
    try simp only [Act.put, p1, p2, p3]
    refine wpAnyH_done (by kernel_rfl) ?_ _
    go_wp2_with fail
    go_meet
    case rel => exact ⟨bq1, _, rfl, (hM.out.pick [2, 1, 0]).pickL [0]⟩
  case rest =>
    obtain ⟨bz8, B7, rfl, hM⟩ := hcut
    generalize wc = W at hM ⊢
    go_wp2_with fail
    replace hM := hid (hM.out.drew)
    refine wp_region_held_drew (S := fun w' => Bo w' bz8 [.int .i64 cc, .int .i64 y]) (by kernel_rfl) (hM.out.at 2 rfl) (fun hH => ?_)
    generalize World.drew _ = W at hM hH  ⊢
    refine tk 0 rfl hH ?_
    simp only [Act.put, p1, p2, p3]
    refine tk 2 rfl hH ?_ (by intro w h; have c0 := h.at 0 rfl; have c1 := h.at 1 rfl; clear h; go_simp; try with_reducible rfl)
    simp only [Act.put, p1, p2, p3]
    refine rd1 1 rfl (fun K hK => ?_)
    go_simp
    refine (LW.out _ _ _ (hM.out.isL 0 rfl)).mono ?_
    rintro e W ⟨rfl, hb⟩
    replace hM := hid (hM.out.later hb)
    clear hb
    go_wp2_with fail
    refine hK.out _ _ (hM.out.at 2 rfl) (fun hH => ?_)
    clear hK K
    try simp only [Act.put, p1, p2, p3]
    refine rd1 3 rfl (fun K hK => ?_)
    refine stR rfl (hM.out.at 0 rfl) ((rwC wz).len (rwC (lw ys))) (rwC (lw ys)) ?_
    simp only [Act.put]
    replace hM := hid (hM.out.put 0 rfl (wl (lw ys)) ((rwC wz).len (rwC (lw ys))))
    refine hK.out _ _ (hM.out.at 2 rfl) (fun hH => ?_)
    clear hK K
    generalize World.setCells _ _ _ _ = W at hM hH ⊢
    try simp only [Act.put, p1, p2, p3]
    refine rd1 4 rfl (fun K hK => ?_)
    refine stR rfl (hM.out.at 1 rfl) ((rwA 0 0).len (rwA cc y)) (rwA cc y) ?_
    simp only [Act.put]
    replace hM := hid (hM.out.put 1 rfl [.int .i64 cc, .int .i64 y] ((rwA 0 0).len (rwA cc y)))
    refine hK.out _ _ (hM.out.at 2 rfl) (fun hH => ?_)
    clear hK K
    generalize World.setCells _ _ _ _ = W at hM hH ⊢
    try simp only [Act.put, p1, p2, p3]
    refine wpAnyH_done (by kernel_rfl) ?_ _
    go_wp2
    exact bodyPost_ret (res2 Tryd.results68 (hM.out.at 0 rfl) (rwC (lw ys)) (hM.out.at 1 rfl) (rwA _ _)) rfl ⟨rfl, hM.out.below⟩
theorem he_q (args : Array Value) (w : World) : (callFunc 55 args).run Tryd.prog w = .ok (.enter 55 args) w := by kernel_rfl
theorem wlist_q {c : Nat → Nat} {b : Nat} {ys : List Int} {o k x cc y : Int} (hW : WList c) (hD : ∀ B W v, IsL B W v (lst c) → Calls Tryd.prog 55 #[v, .agg #[.int .i64 o, .int .i64 k, .int .i64 x]] W (Made W ys cc y)) (hl : ys.length ≤ 6) (hv : ∀ z ∈ ys, 0 ≤ z ∧ z ≤ 4294967295) (w : World) (hb : Bo w b [fv 55]) :
    Calls Tryd.prog 68 #[.agg (wl c).toArray, .agg #[.int .i64 o, .int .i64 k, .int .i64 x], .pointer (some ⟨b, 0, none⟩)] w (fun e w' => e = .returned (.tuple #[.agg (wl (lw ys)).toArray, .agg #[.int .i64 cc, .int .i64 y]]) ∧ Below w.heap.size w w') := wlist_any he_q hW hD hl hv w hb
theorem he_s (args : Array Value) (w : World) : (callFunc 56 args).run Tryd.prog w = .ok (.enter 56 args) w := by kernel_rfl
theorem wlist_s {c : Nat → Nat} {b : Nat} {ys : List Int} {o k x cc y : Int} (hW : WList c) (hD : ∀ B W v, IsL B W v (lst c) → Calls Tryd.prog 56 #[v, .agg #[.int .i64 o, .int .i64 k, .int .i64 x]] W (Made W ys cc y)) (hl : ys.length ≤ 6) (hv : ∀ z ∈ ys, 0 ≤ z ∧ z ≤ 4294967295) (w : World) (hb : Bo w b [fv 56]) :
    Calls Tryd.prog 68 #[.agg (wl c).toArray, .agg #[.int .i64 o, .int .i64 k, .int .i64 x], .pointer (some ⟨b, 0, none⟩)] w (fun e w' => e = .returned (.tuple #[.agg (wl (lw ys)).toArray, .agg #[.int .i64 cc, .int .i64 y]]) ∧ Below w.heap.size w w') := wlist_any he_s hW hD hl hv w hb
theorem he_d (args : Array Value) (w : World) : (callFunc 57 args).run Tryd.prog w = .ok (.enter 57 args) w := by kernel_rfl
theorem wlist_d {c : Nat → Nat} {b : Nat} {ys : List Int} {o k x cc y : Int} (hW : WList c) (hD : ∀ B W v, IsL B W v (lst c) → Calls Tryd.prog 57 #[v, .agg #[.int .i64 o, .int .i64 k, .int .i64 x]] W (Made W ys cc y)) (hl : ys.length ≤ 6) (hv : ∀ z ∈ ys, 0 ≤ z ∧ z ≤ 4294967295) (w : World) (hb : Bo w b [fv 57]) :
    Calls Tryd.prog 68 #[.agg (wl c).toArray, .agg #[.int .i64 o, .int .i64 k, .int .i64 x], .pointer (some ⟨b, 0, none⟩)] w (fun e w' => e = .returned (.tuple #[.agg (wl (lw ys)).toArray, .agg #[.int .i64 cc, .int .i64 y]]) ∧ Below w.heap.size w w') := wlist_any he_d hW hD hl hv w hb
theorem he_h (args : Array Value) (w : World) : (callFunc 58 args).run Tryd.prog w = .ok (.enter 58 args) w := by kernel_rfl
theorem wlist_h {c : Nat → Nat} {b : Nat} {ys : List Int} {o k x cc y : Int} (hW : WList c) (hD : ∀ B W v, IsL B W v (lst c) → Calls Tryd.prog 58 #[v, .agg #[.int .i64 o, .int .i64 k, .int .i64 x]] W (Made W ys cc y)) (hl : ys.length ≤ 6) (hv : ∀ z ∈ ys, 0 ≤ z ∧ z ≤ 4294967295) (w : World) (hb : Bo w b [fv 58]) :
    Calls Tryd.prog 68 #[.agg (wl c).toArray, .agg #[.int .i64 o, .int .i64 k, .int .i64 x], .pointer (some ⟨b, 0, none⟩)] w (fun e w' => e = .returned (.tuple #[.agg (wl (lw ys)).toArray, .agg #[.int .i64 cc, .int .i64 y]]) ∧ Below w.heap.size w w') := wlist_any he_h hW hD hl hv w hb
end Go.Proofs.YteogbpaaacmllaaDoor.Tab
namespace Go.Proofs.YteogbpaaacmllaaDoor.Tab
set_option maxRecDepth 20000
open Go.RowKit
set_option linter.unusedVariables false

theorem he_list (args : Array Value) (w : World) : (callFunc 68 args).run Tryd.prog w = .ok (.enter 68 args) w := by kernel_rfl
theorem he_table (args : Array Value) (w : World) : (callFunc 59 args).run Tryd.prog w = .ok (.enter 59 args) w := by kernel_rfl
theorem he_tally (args : Array Value) (w : World) : (callFunc 60 args).run Tryd.prog w = .ok (.enter 60 args) w := by kernel_rfl
theorem wl_tyw (r : Nat) : wl (upw wz 0 r) = wl (tyw (r : Nat)) := wl_congr fun j hj => by
  unfold upw tyw wz
  by_cases e : j = 0
  · subst e; simp
  · rw [if_neg e, if_neg e]

def ptr (b : Nat) : Array Value := #[.pointer (some ⟨b, 0, none⟩)]
theorem obDo_is {kind o k x : Int} {c : Nat → Nat} (hO : isOb kind c) (hR : Rt o k x) (w : World) :
    Calls Tryd.prog 29 #[.int .i64 kind, .agg (wl c).toArray, .agg #[.int .i64 o, .int .i64 k, .int .i64 x]] w (DidD w (odo kind c o k x).1 (odo kind c o k x).2.1 (odo kind c o k x).2.2) := by
  obtain ⟨b1, b6⟩ := isOb_kind hO
  by_cases e5 : kind = 5
  · subst e5
    obtain ⟨h1, h2, h3⟩ : WTab c := by
      rcases hO with ⟨hk, _⟩ | ⟨hk, _⟩ | ⟨_, h⟩ | ⟨hk, _⟩ <;> first | exact h | omega
    have f := tdo_facts h3 hR.w1 hR.w6 hR.k0 hR.k1 hR.v0 hR.v1
    have e : odo 5 c o k x = (tw (tdo (tbl c) o k x).1, (tdo (tbl c) o k x).2) := by rw [odo, if_pos rfl]
    rw [e]
    refine obDo_any (cp := fun _ _ _ _ => #[]) he_table hR hO (fun u m b1 b2 b3 b4 D => D.mp.look 5 (by decide) (by decide) (deeds_5 b1 b2 b3 b4)) (fun u m b1 b2 b3 b4 D => ?_) w
    exact withTable_is (u := (tdo (tbl c) o k x).1) (cc := (tdo (tbl c) o k x).2.1) (y := (tdo (tbl c) o k x).2.2) (fun j hj => by have := upC_all h1 (j := j) (by omega) (by omega); omega) rfl (fun i hi => by have := f.rt.keys i hi; omega) (fun i hi => f.rt.vals i hi) u
  by_cases e6 : kind = 6
  · subst e6
    have h1 : isTb c = true := by
      rcases hO with ⟨hk, _⟩ | ⟨hk, _⟩ | ⟨hk, _⟩ | ⟨_, h⟩ <;> first | exact h | omega
    have hc : 0 ≤ ((c 0 : Nat) : Int) ∧ ((c 0 : Nat) : Int) ≤ 4294967295 := by
      unfold isTb at h1
      simp only [Bool.and_eq_true] at h1
      have := upC_all h1.1 (j := 0) (by omega) (by omega)
      omega
    have f := ado_facts hc.1 hc.2 hR.w1 hR.w6 hR.v0 hR.v1
    have e : odo 6 c o k x = (tyw (ado (c 0) o x).1, (ado (c 0) o x).2) := by rw [odo, if_neg (by decide), if_pos rfl]
    rw [e]
    refine obDo_any (cp := fun _ _ _ _ => #[]) he_tally hR hO (fun u m b1 b2 b3 b4 D => D.mp.look 6 (by decide) (by decide) (deeds_6 b1 b2 b3 b4)) (fun u m b1 b2 b3 b4 D => ?_) w
    have hr : (((ado (c 0) o x).1.toNat : Nat) : Int) = (ado (c 0) o x).1 := by have := f.rt.1; omega
    have := withTally_is (c := c) (m := c 0) (r := (ado (c 0) o x).1.toNat) (o := o) (k := k) (x := x) (cc := (ado (c 0) o x).2.1) (y := (ado (c 0) o x).2.2) rfl (by omega) hR.v0 hR.v1 (by have := f.rt.2; omega) (by rw [hr]) u
    rw [wl_tyw, hr] at this
    exact this
  have h4 : kind ≤ 4 := by omega
  obtain ⟨hb, hp⟩ := isOb_list h4 hO
  have hw := isLb_w hb
  have h6 : (lst c).length ≤ 6 := by rw [lst_length]; exact hw.len
  obtain ⟨f, g⟩ := ldo_facts (k := k) b1 h4 h6 (lst_val hw) hp hR.w1 hR.w6 hR.v0 hR.v1
  have e : odo kind c o k x = (lw (ldo kind (lst c) o x).1, (ldo kind (lst c) o x).2) := by rw [odo, if_neg e5, if_neg e6]
  rw [e]
  have : kind = 1 ∨ kind = 2 ∨ kind = 3 ∨ kind = 4 := by omega
  rcases this with rfl | rfl | rfl | rfl
  · exact obDo_any (cp := fun b1 _ _ _ => ptr b1) he_list hR hO (fun u m b1 b2 b3 b4 D => D.mp.look 1 (by decide) (by decide) (deeds_1 b1 b2 b3 b4)) (fun u m b1 b2 b3 b4 D => wlist_q hw (fun B W v h => qDo_eq k h (by omega) rfl) f.len f.val u D.q) w
  · exact obDo_any (cp := fun _ b2 _ _ => ptr b2) he_list hR hO (fun u m b1 b2 b3 b4 D => D.mp.look 2 (by decide) (by decide) (deeds_2 b1 b2 b3 b4)) (fun u m b1 b2 b3 b4 D => wlist_s hw (fun B W v h => sDo_eq k h (by omega) rfl) f.len f.val u D.s) w
  · exact obDo_any (cp := fun _ _ b3 _ => ptr b3) he_list hR hO (fun u m b1 b2 b3 b4 D => D.mp.look 3 (by decide) (by decide) (deeds_3 b1 b2 b3 b4)) (fun u m b1 b2 b3 b4 D => wlist_d hw (fun B W v h => dDo_eq k h (by omega) rfl) f.len f.val u D.d) w
  · exact obDo_any (cp := fun _ _ _ b4 => ptr b4) he_list hR hO (fun u m b1 b2 b3 b4 D => D.mp.look 4 (by decide) (by decide) (deeds_4 b1 b2 b3 b4)) (fun u m b1 b2 b3 b4 D => wlist_h hw (fun B W v h => hDo_eq k h (by omega) rfl) f.len f.val u D.h) w
theorem obDo_no {kind o k x : Int} {c : Nat → Nat} (h : ¬ (Rt o k x ∧ isOb kind c)) (w : World) :
    Calls Tryd.prog 29 #[.int .i64 kind, .agg (wl c).toArray, .agg #[.int .i64 o, .int .i64 k, .int .i64 x]] w (Refd w) := by
  by_cases hR : Rt o k x
  · exact obDo_isnt hR (fun hO => h ⟨hR, hO⟩) w
  · exact obDo_wrong hR w
end Go.Proofs.YteogbpaaacmllaaDoor.Tab
