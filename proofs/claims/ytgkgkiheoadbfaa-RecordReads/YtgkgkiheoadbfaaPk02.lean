/- Texts laid together: Package table: Do, by its contract; What slots take in memory: the text that has it here; The reference's row, within, said, TableLen, by their contracts; Rows of this program's types: the reference's tables; A thing of the reference's, as it lies: its kind, its list, its slots, its number; Heaps as lists: what rises, what sinks; facts of no program; A thing of the reference's as a row of cells; what words are a thing; Package object: words up to a bound; tallies and lists as words; Rows of this program's types; Package record: Kind, Object, by their contracts; Words of objects held against each other; The law's cellsOf, by its contract; The reference's digits and number, by their contracts; The reference's Bit and Flip, by their contracts; Arguments that are arrays of words, as it lies in. -/
import Derived.Test.YtgkgkiheoadbfaaPk01
import Derived.Test.YtgkgkiheoadbfaaRows
import Derived.Test.YtgkgkiheoadbfaaPk00
import Derived.WalkKit
import Derived.Deep.DeepCutAuto
import Derived.Deep.RegionHeld3
import Derived.ChangeKeysEq
import Derived.Deep.LoopGhost
import Derived.Carry
namespace Go.Proofs.Ytgkgkiheoadbfaa.Tab
set_option maxRecDepth 20000
open Go.RowKit

/-- What Do hands back. -/
def Told (w : World) (r : Tb × Int × Int) (e : Ending) (w' : World) : Prop := e = .returned (.tuple #[.agg r.1.all.toArray, .agg #[.int .i64 r.2.1, .int .i64 r.2.2]]) ∧ Below w.heap.size w w'

set_option maxHeartbeats 2000000 in
theorem tDo_count (t : Tb) (k x : Int) (w : World) :
    Calls Try.prog 80 #[.agg t.all.toArray, .agg #[.int .i64 6, .int .i64 k, .int .i64 x]] w (Told w (t, 1, (len t : Int))) := by
  have L := Len_is t
  have hM : Hid _ := (((((Ms.nil w).born t.all 109 (b := w.heap.size) rfl).born [.int .i64 6, .int .i64 k, .int .i64 x] 54 (b := w.heap.size + 1) (by simp)).bornR Tb.zero_all.symm 109 (b := w.heap.size + 2) (by simp)).born [.int .i64 0, .int .i64 0] 42 (b := w.heap.size + 3) (by simp))
  have c1 := hM.out.cell 2 0 rfl rfl
  have c2 := hM.out.cell 2 1 rfl rfl
  have c3 := hM.out.cell 2 2 rfl rfl
  go_enter Try.func80, Try.ntmps80
  go_wp2_with fail
  clear c1 c2 c3
  generalize World.alloc _ _ = W at hM ⊢
  generalize hsz : w.heap.size = n at hM ⊢
  clear hsz
  replace hM := hid (hM.out.drew)
  refine wp_region_held_drew (S := fun w' => Bo w' n t.all) (by kernel_rfl) (hM.out.at 3 rfl) (fun hH => ?_)
  generalize World.drew _ = W at hM hH  ⊢
  refine tkR 0 rfl hH (fun _ h => h) (rwS t) ?_
  simp only [Act.put, p1, p2, p3]
  refine tkR 1 rfl hH (fun _ h => h) (rwS t) ?_
  simp only [Act.put, p1, p2, p3]
  refine rd1 2 rfl (fun K hK => ?_)
  go_simp
  refine (L _).mono ?_
  rintro e W ⟨rfl, hb⟩
  replace hM := hid (hM.out.later hb)
  clear hb
  go_wp2_with fail
  refine hK.out _ _ (hM.out.at 3 rfl) (fun hH => ?_)
  clear hK K
  try simp only [Act.put, p1, p2, p3]
  refine tk 3 rfl hH ?_
  simp only [Act.put, p1, p2, p3]
  refine rd1 4 rfl (fun K hK => ?_)
  refine stR rfl (hM.out.at 1 rfl) ((rwS Tb.zero).len (rwS t)) (rwS t) ?_
  simp only [Act.put]
  replace hM := hid (hM.out.put 1 rfl t.all ((rwS Tb.zero).len (rwS t)))
  refine hK.out _ _ (hM.out.at 3 rfl) (fun hH => ?_)
  clear hK K
  generalize World.setCells _ _ _ _ = W at hM hH ⊢
  try simp only [Act.put, p1, p2, p3]
  refine rd1 5 rfl (fun K hK => ?_)
  refine stR rfl (hM.out.at 0 rfl) ((rwA 0 0).len (rwA _ _)) (rwA _ _) ?_
  simp only [Act.put]
  replace hM := hid (hM.out.put 0 rfl [.int .i64 1, .int .i64 (len t : Nat)] ((rwA 0 0).len (rwA _ _)))
  refine hK.out _ _ (hM.out.at 3 rfl) (fun hH => ?_)
  clear hK K
  generalize World.setCells _ _ _ _ = W at hM hH ⊢
  try simp only [Act.put, p1, p2, p3]
  refine wpAnyH_done (by kernel_rfl) ?_ _
  go_wp2
  exact bodyPost_ret (res2 Try.results80 (hM.out.at 1 rfl) (rwS t) (hM.out.at 0 rfl) (rwA _ _)) rfl ⟨rfl, hM.out.below⟩

set_option maxHeartbeats 2000000 in
theorem tDo_wrong (t : Tb) (o k x : Int) (h6 : o ≠ 6) (hb : ¬ byKey o k) (w : World) :
    Calls Try.prog 80 #[.agg t.all.toArray, .agg #[.int .i64 o, .int .i64 k, .int .i64 x]] w (Told w (t, 5, 0)) := by
  have m6 : (o == 6) = false := by simp [h6]
  have L := byKey_is o k x
  rw [decide_eq_false hb] at L
  clear h6 hb
  have hM : Hid _ := (((((Ms.nil w).born t.all 109 (b := w.heap.size) rfl).born [.int .i64 o, .int .i64 k, .int .i64 x] 54 (b := w.heap.size + 1) (by simp)).bornR Tb.zero_all.symm 109 (b := w.heap.size + 2) (by simp)).born [.int .i64 0, .int .i64 0] 42 (b := w.heap.size + 3) (by simp))
  have c1 := hM.out.cell 2 0 rfl rfl
  have c2 := hM.out.cell 2 1 rfl rfl
  have c3 := hM.out.cell 2 2 rfl rfl
  go_enter Try.func80, Try.ntmps80
  go_wp2_with fail
  clear c1 c2 c3
  generalize World.alloc _ _ = W at hM ⊢
  generalize hsz : w.heap.size = n at hM ⊢
  clear hsz
  refine (L _).mono ?_
  rintro e W ⟨rfl, hb⟩
  replace hM := hid (hM.out.later hb)
  clear hb
  go_wp2_with (first
    | (refine lR rfl (hM.out.at 3 rfl) rfl (rwS t) ?_)
    | (refine sR rfl (hM.out.at 1 rfl) rfl ((rwS Tb.zero).len (rwS t)) (rwS t) ?_
       replace hM := hid (hM.out.put 1 rfl t.all ((rwS Tb.zero).len (rwS t)))
       generalize World.setCells _ _ _ _ = W at hM ⊢)
    | (refine sR rfl (hM.out.at 0 rfl) rfl ((rwA 0 0).len (rwA _ _)) (rwA _ _) ?_
       replace hM := hid (hM.out.put 0 rfl [.int .i64 5, .int .i64 0] ((rwA 0 0).len (rwA _ _)))
       generalize World.setCells _ _ _ _ = W at hM ⊢))
  exact bodyPost_ret (res2 Try.results80 (hM.out.at 1 rfl) (rwS t) (hM.out.at 0 rfl) (rwA _ _)) rfl ⟨rfl, hM.out.below⟩

set_option maxHeartbeats 2000000 in
theorem tDo_full (t : Tb) (k x : Int) (hn : t.k (place t k) ≠ k) (hl : 6 ≤ len t) (hk1 : 1 ≤ k) (hk2 : k ≤ 1000) (w : World) :
    Calls Try.prog 80 #[.agg t.all.toArray, .agg #[.int .i64 1, .int .i64 k, .int .i64 x]] w (Told w (t, 3, 0)) := by
  have L := byKey_is 1 k x
  rw [decide_eq_true (show byKey 1 k from ⟨by omega, hk1, hk2⟩)] at L
  have PL := place_eq t k
  unfold Placed at PL
  have hp := place_lt t k
  have LL := Len_is t
  rw [show (t.k (place t k) == k) = false by simp [hn]] at PL
  generalize len t = l at *
  have hl1 : (6 : Int) ≤ (l : Int) := by omega
  clear hn hl
  generalize place t k = p at *
  have hp1 : (p : Int) < 8 := by omega
  have hp0 : (0 : Int) ≤ (p : Int) := by omega
  clear hk1 hk2
  have hM : Hid _ := (((((Ms.nil w).born t.all 109 (b := w.heap.size) rfl).born [.int .i64 1, .int .i64 k, .int .i64 x] 54 (b := w.heap.size + 1) (by simp)).bornR Tb.zero_all.symm 109 (b := w.heap.size + 2) (by simp)).born [.int .i64 0, .int .i64 0] 42 (b := w.heap.size + 3) (by simp))
  have c1 := hM.out.cell 2 0 rfl rfl
  have c2 := hM.out.cell 2 1 rfl rfl
  have c3 := hM.out.cell 2 2 rfl rfl
  go_enter Try.func80, Try.ntmps80
  go_wp2_with fail
  clear c1 c2 c3
  generalize World.alloc _ _ = W at hM ⊢
  generalize hsz : w.heap.size = n at hM ⊢
  clear hsz
  refine (L _).mono ?_
  rintro e W ⟨rfl, hb⟩
  replace hM := hid (hM.out.later hb)
  clear hb
  have c4 := hM.out.cell 2 1 rfl rfl
  go_wp2_with (first
    | (refine lR rfl (hM.out.at 3 rfl) rfl (rwS t) ?_))
  refine (PL _).mono ?_
  rintro e W ⟨rfl, hb⟩
  replace hM := hid (hM.out.later hb)
  clear hb
  clear c4
  clear PL L
  have c5 := hM.out.cell 2 0 rfl rfl
  go_wp2_with (first
    | (refine lW rfl (hM.out.at 3 rfl) rfl (rwS t) ?_))
  refine (LL _).mono ?_
  rintro e W ⟨rfl, hb⟩
  replace hM := hid (hM.out.later hb)
  clear hb
  clear c5
  clear LL
  go_wp2_with (first
    | (refine lR rfl (hM.out.at 3 rfl) rfl (rwS t) ?_)
    | (refine sR rfl (hM.out.at 1 rfl) rfl ((rwS Tb.zero).len (rwS t)) (rwS t) ?_
       replace hM := hid (hM.out.put 1 rfl t.all ((rwS Tb.zero).len (rwS t)))
       generalize World.setCells _ _ _ _ = W at hM ⊢)
    | (refine sR rfl (hM.out.at 0 rfl) rfl ((rwA 0 0).len (rwA _ _)) (rwA _ _) ?_
       replace hM := hid (hM.out.put 0 rfl [.int .i64 3, .int .i64 0] ((rwA 0 0).len (rwA _ _)))
       generalize World.setCells _ _ _ _ = W at hM ⊢))
  exact bodyPost_ret (res2 Try.results80 (hM.out.at 1 rfl) (rwS t) (hM.out.at 0 rfl) (rwA _ _)) rfl ⟨rfl, hM.out.below⟩

set_option maxHeartbeats 2000000 in
theorem tDo_put_has (t : Tb) (k x : Int) (hn : t.k (place t k) = k) (hk1 : 1 ≤ k) (hk2 : k ≤ 1000) (w : World) :
    Calls Try.prog 80 #[.agg t.all.toArray, .agg #[.int .i64 1, .int .i64 k, .int .i64 x]] w (Told w (t.set (place t k) k x, 1, 0)) := by
  have L := byKey_is 1 k x
  rw [decide_eq_true (show byKey 1 k from ⟨by omega, hk1, hk2⟩)] at L
  have PL := place_eq t k
  unfold Placed at PL
  have hp := place_lt t k
  rw [show (t.k (place t k) == k) = true by simp [hn]] at PL
  clear hn
  generalize place t k = p at *
  have hp1 : (p : Int) < 8 := by omega
  have hp0 : (0 : Int) ≤ (p : Int) := by omega
  clear hk1 hk2
  have hM : Hid _ := (((((Ms.nil w).born t.all 109 (b := w.heap.size) rfl).born [.int .i64 1, .int .i64 k, .int .i64 x] 54 (b := w.heap.size + 1) (by simp)).bornR Tb.zero_all.symm 109 (b := w.heap.size + 2) (by simp)).born [.int .i64 0, .int .i64 0] 42 (b := w.heap.size + 3) (by simp))
  have c1 := hM.out.cell 2 0 rfl rfl
  have c2 := hM.out.cell 2 1 rfl rfl
  have c3 := hM.out.cell 2 2 rfl rfl
  go_enter Try.func80, Try.ntmps80
  go_wp2_with fail
  clear c1 c2 c3
  generalize World.alloc _ _ = W at hM ⊢
  generalize hsz : w.heap.size = n at hM ⊢
  clear hsz
  refine (L _).mono ?_
  rintro e W ⟨rfl, hb⟩
  replace hM := hid (hM.out.later hb)
  clear hb
  have c4 := hM.out.cell 2 1 rfl rfl
  go_wp2_with (first
    | (refine lR rfl (hM.out.at 3 rfl) rfl (rwS t) ?_))
  refine (PL _).mono ?_
  rintro e W ⟨rfl, hb⟩
  replace hM := hid (hM.out.later hb)
  clear hb
  clear c4
  clear PL L
  have c5 := hM.out.cell 2 0 rfl rfl
  have c6 := hM.out.cell 2 1 rfl rfl
  have c7 := hM.out.cell 2 2 rfl rfl
  go_wp2_with (first
    | (refine sO rfl ((hM.out.at 3 rfl).tthere hp) rfl (rwSl k x) ?_
       replace hM := hid (hM.out.putAt 3 (p * 2) rfl [.int .i64 k, .int .i64 x] (t.set p k x).all ((hM.out.at 3 rfl).tset hp k x))
       generalize World.setCells _ _ _ _ = W at hM ⊢)
    | (refine lR rfl (hM.out.at 3 rfl) rfl (rwS (t.set p k x)) ?_)
    | (refine sR rfl (hM.out.at 1 rfl) rfl ((rwS Tb.zero).len (rwS (t.set p k x))) (rwS (t.set p k x)) ?_
       replace hM := hid (hM.out.put 1 rfl (t.set p k x).all ((rwS Tb.zero).len (rwS (t.set p k x))))
       generalize World.setCells _ _ _ _ = W at hM ⊢)
    | (refine sR rfl (hM.out.at 0 rfl) rfl ((rwA 0 0).len (rwA _ _)) (rwA _ _) ?_
       replace hM := hid (hM.out.put 0 rfl [.int .i64 1, .int .i64 0] ((rwA 0 0).len (rwA _ _)))
       generalize World.setCells _ _ _ _ = W at hM ⊢))
  exact bodyPost_ret (res2 Try.results80 (hM.out.at 1 rfl) (rwS (t.set p k x)) (hM.out.at 0 rfl) (rwA _ _)) rfl ⟨rfl, hM.out.below⟩

set_option maxHeartbeats 2000000 in
theorem tDo_put_new (t : Tb) (k x : Int) (hn : t.k (place t k) ≠ k) (hl : len t < 6) (hk1 : 1 ≤ k) (hk2 : k ≤ 1000) (w : World) :
    Calls Try.prog 80 #[.agg t.all.toArray, .agg #[.int .i64 1, .int .i64 k, .int .i64 x]] w (Told w (t.set (place t k) k x, 1, 0)) := by
  have L := byKey_is 1 k x
  rw [decide_eq_true (show byKey 1 k from ⟨by omega, hk1, hk2⟩)] at L
  have PL := place_eq t k
  unfold Placed at PL
  have hp := place_lt t k
  have LL := Len_is t
  rw [show (t.k (place t k) == k) = false by simp [hn]] at PL
  generalize len t = l at *
  have hl1 : ¬ (6 : Int) ≤ (l : Int) := by omega
  clear hn hl
  generalize place t k = p at *
  have hp1 : (p : Int) < 8 := by omega
  have hp0 : (0 : Int) ≤ (p : Int) := by omega
  clear hk1 hk2
  have hM : Hid _ := (((((Ms.nil w).born t.all 109 (b := w.heap.size) rfl).born [.int .i64 1, .int .i64 k, .int .i64 x] 54 (b := w.heap.size + 1) (by simp)).bornR Tb.zero_all.symm 109 (b := w.heap.size + 2) (by simp)).born [.int .i64 0, .int .i64 0] 42 (b := w.heap.size + 3) (by simp))
  have c1 := hM.out.cell 2 0 rfl rfl
  have c2 := hM.out.cell 2 1 rfl rfl
  have c3 := hM.out.cell 2 2 rfl rfl
  go_enter Try.func80, Try.ntmps80
  go_wp2_with fail
  clear c1 c2 c3
  generalize World.alloc _ _ = W at hM ⊢
  generalize hsz : w.heap.size = n at hM ⊢
  clear hsz
  refine (L _).mono ?_
  rintro e W ⟨rfl, hb⟩
  replace hM := hid (hM.out.later hb)
  clear hb
  have c4 := hM.out.cell 2 1 rfl rfl
  go_wp2_with (first
    | (refine lR rfl (hM.out.at 3 rfl) rfl (rwS t) ?_))
  refine (PL _).mono ?_
  rintro e W ⟨rfl, hb⟩
  replace hM := hid (hM.out.later hb)
  clear hb
  clear c4
  clear PL L
  have c5 := hM.out.cell 2 0 rfl rfl
  go_wp2_with (first
    | (refine lW rfl (hM.out.at 3 rfl) rfl (rwS t) ?_))
  refine (LL _).mono ?_
  rintro e W ⟨rfl, hb⟩
  replace hM := hid (hM.out.later hb)
  clear hb
  clear c5
  clear LL
  have c6 := hM.out.cell 2 0 rfl rfl
  have c7 := hM.out.cell 2 1 rfl rfl
  have c8 := hM.out.cell 2 2 rfl rfl
  go_wp2_with (first
    | (refine sO rfl ((hM.out.at 3 rfl).tthere hp) rfl (rwSl k x) ?_
       replace hM := hid (hM.out.putAt 3 (p * 2) rfl [.int .i64 k, .int .i64 x] (t.set p k x).all ((hM.out.at 3 rfl).tset hp k x))
       generalize World.setCells _ _ _ _ = W at hM ⊢)
    | (refine lR rfl (hM.out.at 3 rfl) rfl (rwS (t.set p k x)) ?_)
    | (refine sR rfl (hM.out.at 1 rfl) rfl ((rwS Tb.zero).len (rwS (t.set p k x))) (rwS (t.set p k x)) ?_
       replace hM := hid (hM.out.put 1 rfl (t.set p k x).all ((rwS Tb.zero).len (rwS (t.set p k x))))
       generalize World.setCells _ _ _ _ = W at hM ⊢)
    | (refine sR rfl (hM.out.at 0 rfl) rfl ((rwA 0 0).len (rwA _ _)) (rwA _ _) ?_
       replace hM := hid (hM.out.put 0 rfl [.int .i64 1, .int .i64 0] ((rwA 0 0).len (rwA _ _)))
       generalize World.setCells _ _ _ _ = W at hM ⊢))
  exact bodyPost_ret (res2 Try.results80 (hM.out.at 1 rfl) (rwS (t.set p k x)) (hM.out.at 0 rfl) (rwA _ _)) rfl ⟨rfl, hM.out.below⟩

set_option maxHeartbeats 2000000 in
theorem tDo_absent (t : Tb) (o k x : Int) (ho : o = 2 ∨ o = 5) (hn : t.k (place t k) ≠ k) (hk1 : 1 ≤ k) (hk2 : k ≤ 1000) (w : World) :
    Calls Try.prog 80 #[.agg t.all.toArray, .agg #[.int .i64 o, .int .i64 k, .int .i64 x]] w (Told w (t, 4, 0)) := by
  have L := byKey_is o k x
  rw [decide_eq_true (show byKey o k from ⟨by omega, hk1, hk2⟩)] at L
  have PL := place_eq t k
  unfold Placed at PL
  have hp := place_lt t k
  rw [show (t.k (place t k) == k) = false by simp [hn]] at PL
  have m1 : (o == 1) = false := by rcases ho with rfl | rfl <;> rfl
  have m6 : (o == 6) = false := by rcases ho with rfl | rfl <;> rfl
  clear hn ho
  generalize place t k = p at *
  have hp1 : (p : Int) < 8 := by omega
  have hp0 : (0 : Int) ≤ (p : Int) := by omega
  clear hk1 hk2
  have hM : Hid _ := (((((Ms.nil w).born t.all 109 (b := w.heap.size) rfl).born [.int .i64 o, .int .i64 k, .int .i64 x] 54 (b := w.heap.size + 1) (by simp)).bornR Tb.zero_all.symm 109 (b := w.heap.size + 2) (by simp)).born [.int .i64 0, .int .i64 0] 42 (b := w.heap.size + 3) (by simp))
  have c1 := hM.out.cell 2 0 rfl rfl
  have c2 := hM.out.cell 2 1 rfl rfl
  have c3 := hM.out.cell 2 2 rfl rfl
  go_enter Try.func80, Try.ntmps80
  go_wp2_with fail
  clear c1 c2 c3
  generalize World.alloc _ _ = W at hM ⊢
  generalize hsz : w.heap.size = n at hM ⊢
  clear hsz
  refine (L _).mono ?_
  rintro e W ⟨rfl, hb⟩
  replace hM := hid (hM.out.later hb)
  clear hb
  have c4 := hM.out.cell 2 1 rfl rfl
  go_wp2_with (first
    | (refine lR rfl (hM.out.at 3 rfl) rfl (rwS t) ?_))
  refine (PL _).mono ?_
  rintro e W ⟨rfl, hb⟩
  replace hM := hid (hM.out.later hb)
  clear hb
  clear c4
  clear PL L
  have c5 := hM.out.cell 2 0 rfl rfl
  go_wp2_with (first
    | (refine lR rfl (hM.out.at 3 rfl) rfl (rwS t) ?_)
    | (refine sR rfl (hM.out.at 1 rfl) rfl ((rwS Tb.zero).len (rwS t)) (rwS t) ?_
       replace hM := hid (hM.out.put 1 rfl t.all ((rwS Tb.zero).len (rwS t)))
       generalize World.setCells _ _ _ _ = W at hM ⊢)
    | (refine sR rfl (hM.out.at 0 rfl) rfl ((rwA 0 0).len (rwA _ _)) (rwA _ _) ?_
       replace hM := hid (hM.out.put 0 rfl [.int .i64 4, .int .i64 0] ((rwA 0 0).len (rwA _ _)))
       generalize World.setCells _ _ _ _ = W at hM ⊢))
  exact bodyPost_ret (res2 Try.results80 (hM.out.at 1 rfl) (rwS t) (hM.out.at 0 rfl) (rwA _ _)) rfl ⟨rfl, hM.out.below⟩

set_option maxHeartbeats 2000000 in
theorem tDo_peek (t : Tb) (k x : Int) (hn : t.k (place t k) = k) (hk1 : 1 ≤ k) (hk2 : k ≤ 1000) (w : World) :
    Calls Try.prog 80 #[.agg t.all.toArray, .agg #[.int .i64 5, .int .i64 k, .int .i64 x]] w (Told w (t, 1, t.v (place t k))) := by
  have L := byKey_is 5 k x
  rw [decide_eq_true (show byKey 5 k from ⟨by omega, hk1, hk2⟩)] at L
  have PL := place_eq t k
  unfold Placed at PL
  have hp := place_lt t k
  rw [show (t.k (place t k) == k) = true by simp [hn]] at PL
  clear hn
  generalize place t k = p at *
  have hp1 : (p : Int) < 8 := by omega
  have hp0 : (0 : Int) ≤ (p : Int) := by omega
  clear hk1 hk2
  have hM : Hid _ := (((((Ms.nil w).born t.all 109 (b := w.heap.size) rfl).born [.int .i64 5, .int .i64 k, .int .i64 x] 54 (b := w.heap.size + 1) (by simp)).bornR Tb.zero_all.symm 109 (b := w.heap.size + 2) (by simp)).born [.int .i64 0, .int .i64 0] 42 (b := w.heap.size + 3) (by simp))
  have c1 := hM.out.cell 2 0 rfl rfl
  have c2 := hM.out.cell 2 1 rfl rfl
  have c3 := hM.out.cell 2 2 rfl rfl
  go_enter Try.func80, Try.ntmps80
  go_wp2_with fail
  clear c1 c2 c3
  generalize World.alloc _ _ = W at hM ⊢
  generalize hsz : w.heap.size = n at hM ⊢
  clear hsz
  refine (L _).mono ?_
  rintro e W ⟨rfl, hb⟩
  replace hM := hid (hM.out.later hb)
  clear hb
  have c4 := hM.out.cell 2 1 rfl rfl
  go_wp2_with (first
    | (refine lR rfl (hM.out.at 3 rfl) rfl (rwS t) ?_))
  refine (PL _).mono ?_
  rintro e W ⟨rfl, hb⟩
  replace hM := hid (hM.out.later hb)
  clear hb
  clear c4
  clear PL L
  have c5 := hM.out.cell 2 0 rfl rfl
  have x6 := (hM.out.at 3 rfl).tval hp
  replace hM := hid (hM.out.born [.int .i64 1, .int .i64 (t.v p)] 42 rfl)
  have c7 := hM.out.cell 3 0 rfl rfl
  go_wp2_with fail
  clear c5 x6 c7
  generalize W.heap.size = ba at hM ⊢
  generalize World.alloc _ _ = W at hM ⊢
  replace hM := hid (hM.out.drew)
  refine wp_region_held_drew (S := fun w' => Bo w' n t.all ∧ Bo w' ba [.int .i64 1, .int .i64 (t.v p)]) (by kernel_rfl) ⟨hM.out.at 4 rfl, hM.out.at 0 rfl⟩ (fun hH => ?_)
  generalize World.drew _ = W at hM hH  ⊢
  refine tkR 0 rfl hH (fun _ h => h.1) (rwS t) ?_
  simp only [Act.put, p1, p2, p3]
  refine tk 1 rfl hH ?_ (by intro w h; have c0 := h.2.at 0 rfl; have c1 := h.2.at 1 rfl; clear h; go_simp; try with_reducible rfl)
  simp only [Act.put, p1, p2, p3]
  refine rd1 2 rfl (fun K hK => ?_)
  refine stR rfl (hM.out.at 2 rfl) ((rwS Tb.zero).len (rwS t)) (rwS t) ?_
  simp only [Act.put]
  replace hM := hid (hM.out.put 2 rfl t.all ((rwS Tb.zero).len (rwS t)))
  refine hK.out _ _ ⟨hM.out.at 4 rfl, hM.out.at 0 rfl⟩ (fun hH => ?_)
  clear hK K
  generalize World.setCells _ _ _ _ = W at hM hH ⊢
  try simp only [Act.put, p1, p2, p3]
  refine rd1 3 rfl (fun K hK => ?_)
  refine stR rfl (hM.out.at 1 rfl) ((rwA 0 0).len (rwA _ _)) (rwA _ _) ?_
  simp only [Act.put]
  replace hM := hid (hM.out.put 1 rfl [.int .i64 1, .int .i64 (t.v p)] ((rwA 0 0).len (rwA _ _)))
  refine hK.out _ _ ⟨hM.out.at 4 rfl, hM.out.at 0 rfl⟩ (fun hH => ?_)
  clear hK K
  generalize World.setCells _ _ _ _ = W at hM hH ⊢
  try simp only [Act.put, p1, p2, p3]
  refine wpAnyH_done (by kernel_rfl) ?_ _
  go_wp2
  exact bodyPost_ret (res2 Try.results80 (hM.out.at 2 rfl) (rwS t) (hM.out.at 1 rfl) (rwA _ _)) rfl ⟨rfl, hM.out.below⟩

set_option maxHeartbeats 2000000 in
theorem tDo_take (t : Tb) (k x : Int) (hn : t.k (place t k) = k) (hk1 : 1 ≤ k) (hk2 : k ≤ 1000) (w : World) :
    Calls Try.prog 80 #[.agg t.all.toArray, .agg #[.int .i64 2, .int .i64 k, .int .i64 x]] w (Told w (without t (place t k), 1, t.v (place t k))) := by
  have L := byKey_is 2 k x
  rw [decide_eq_true (show byKey 2 k from ⟨by omega, hk1, hk2⟩)] at L
  have PL := place_eq t k
  unfold Placed at PL
  have hp := place_lt t k
  rw [show (t.k (place t k) == k) = true by simp [hn]] at PL
  clear hn
  generalize place t k = p at *
  have hp1 : (p : Int) < 8 := by omega
  have hp0 : (0 : Int) ≤ (p : Int) := by omega
  clear hk1 hk2
  have hM : Hid _ := (((((Ms.nil w).born t.all 109 (b := w.heap.size) rfl).born [.int .i64 2, .int .i64 k, .int .i64 x] 54 (b := w.heap.size + 1) (by simp)).bornR Tb.zero_all.symm 109 (b := w.heap.size + 2) (by simp)).born [.int .i64 0, .int .i64 0] 42 (b := w.heap.size + 3) (by simp))
  have c1 := hM.out.cell 2 0 rfl rfl
  have c2 := hM.out.cell 2 1 rfl rfl
  have c3 := hM.out.cell 2 2 rfl rfl
  go_enter Try.func80, Try.ntmps80
  go_wp2_with fail
  clear c1 c2 c3
  generalize World.alloc _ _ = W at hM ⊢
  generalize hsz : w.heap.size = n at hM ⊢
  clear hsz
  refine (L _).mono ?_
  rintro e W ⟨rfl, hb⟩
  replace hM := hid (hM.out.later hb)
  clear hb
  have c4 := hM.out.cell 2 1 rfl rfl
  go_wp2_with (first
    | (refine lR rfl (hM.out.at 3 rfl) rfl (rwS t) ?_))
  refine (PL _).mono ?_
  rintro e W ⟨rfl, hb⟩
  replace hM := hid (hM.out.later hb)
  clear hb
  clear c4
  clear PL L
  have c5 := hM.out.cell 2 0 rfl rfl
  have x6 := (hM.out.at 3 rfl).tval hp
  have hWB : ∃ q, q = W.heap.size := ⟨_, rfl⟩
  obtain ⟨ba, hba⟩ := hWB
  replace hM := hid (hM.out.born [.int .i64 1, .int .i64 (t.v p)] 42 hba)
  have HBA : Hid _ := hba
  clear hba
  have c7 := hM.out.cell 3 0 rfl rfl
  have WO := without_is t p hp
  go_wp2_with (first
    | (rw [← HBA.out]; refine lR rfl (hM.out.at 4 rfl) rfl (rwS t) ?_))
  refine (WO _).mono ?_
  rintro e W ⟨rfl, hb⟩
  replace hM := hid (hM.out.later hb)
  clear hb
  clear c5 x6 c7
  clear WO HBA
  go_wp2_with (first
    | (refine sR rfl (hM.out.at 4 rfl) rfl ((rwS t).len (rwS (without t p))) (rwS (without t p)) ?_
       replace hM := hid (hM.out.put 4 rfl (without t p).all ((rwS t).len (rwS (without t p))))
       generalize World.setCells _ _ _ _ = W at hM ⊢))
  replace hM := hid (hM.out.drew)
  refine wp_region_held_drew (S := fun w' => Bo w' n (without t p).all ∧ Bo w' ba [.int .i64 1, .int .i64 (t.v p)]) (by kernel_rfl) ⟨hM.out.at 4 rfl, hM.out.at 0 rfl⟩ (fun hH => ?_)
  generalize World.drew _ = W at hM hH  ⊢
  refine tkR 0 rfl hH (fun _ h => h.1) (rwS (without t p)) ?_
  simp only [Act.put, p1, p2, p3]
  refine tk 1 rfl hH ?_ (by intro w h; have c0 := h.2.at 0 rfl; have c1 := h.2.at 1 rfl; clear h; go_simp; try with_reducible rfl)
  simp only [Act.put, p1, p2, p3]
  refine rd1 2 rfl (fun K hK => ?_)
  refine stR rfl (hM.out.at 2 rfl) ((rwS Tb.zero).len (rwS (without t p))) (rwS (without t p)) ?_
  simp only [Act.put]
  replace hM := hid (hM.out.put 2 rfl (without t p).all ((rwS Tb.zero).len (rwS (without t p))))
  refine hK.out _ _ ⟨hM.out.at 4 rfl, hM.out.at 0 rfl⟩ (fun hH => ?_)
  clear hK K
  generalize World.setCells _ _ _ _ = W at hM hH ⊢
  try simp only [Act.put, p1, p2, p3]
  refine rd1 3 rfl (fun K hK => ?_)
  refine stR rfl (hM.out.at 1 rfl) ((rwA 0 0).len (rwA _ _)) (rwA _ _) ?_
  simp only [Act.put]
  replace hM := hid (hM.out.put 1 rfl [.int .i64 1, .int .i64 (t.v p)] ((rwA 0 0).len (rwA _ _)))
  refine hK.out _ _ ⟨hM.out.at 4 rfl, hM.out.at 0 rfl⟩ (fun hH => ?_)
  clear hK K
  generalize World.setCells _ _ _ _ = W at hM hH ⊢
  try simp only [Act.put, p1, p2, p3]
  refine wpAnyH_done (by kernel_rfl) ?_ _
  go_wp2
  exact bodyPost_ret (res2 Try.results80 (hM.out.at 2 rfl) (rwS (without t p)) (hM.out.at 1 rfl) (rwA _ _)) rfl ⟨rfl, hM.out.below⟩

theorem tDo_eq (t : Tb) (o k x : Int) (w : World) : Calls Try.prog 80 #[.agg t.all.toArray, .agg #[.int .i64 o, .int .i64 k, .int .i64 x]] w (Told w (tdo t o k x)) := by
  by_cases h6 : o = 6
  · subst h6
    exact tDo_count t k x w
  by_cases hb : byKey o k
  · obtain ⟨ho, h1, h2⟩ := hb
    by_cases hh : t.k (place t k) = k
    · rcases ho with rfl | rfl | rfl
      · rw [tdo_put x h1 h2 (Or.inl hh)]; exact tDo_put_has t k x hh h1 h2 w
      · rw [tdo_take x h1 h2 hh]; exact tDo_take t k x hh h1 h2 w
      · rw [tdo_peek x h1 h2, look, if_pos hh]; exact tDo_peek t k x hh h1 h2 w
    · rcases ho with rfl | ho
      · by_cases hl : 6 ≤ len t
        · rw [tdo_full x h1 h2 hh hl]; exact tDo_full t k x hh hl h1 h2 w
        · rw [tdo_put x h1 h2 (Or.inr (by omega))]; exact tDo_put_new t k x hh (by omega) h1 h2 w
      · rw [tdo_absent x ho h1 h2 hh]; exact tDo_absent t o k x ho hh h1 h2 w
  · rw [tdo_wrong t x h6 hb]; exact tDo_wrong t o k x h6 hb w
end Go.Proofs.Ytgkgkiheoadbfaa.Tab
namespace Go.Proofs.Ytgkgkiheoadbfaa.Tab
set_option maxRecDepth 20000
open Go.RowKit

theorem own_new {B : Nat} {w : World} {v : Value} {xs : List Int} (h : Own B w v xs) (o : Obj) : Own B (w.alloc o) v xs := World.ownsRow.alloc h o
theorem rwithin_yes (n a b : Int) (w : World) (h1 : a ≤ n) (h2 : n ≤ b) :
    Calls Try.prog 19 #[.int .i64 n, .int .i64 a, .int .i64 b] w fun e w' => e = .returned (.bool true) ∧ w' = w := by
  go_enter Try.func19, Try.ntmps19
  go_wp2
  go_ret
  exact ⟨rfl, rfl⟩
theorem rwithin_no (n a b : Int) (w : World) (h : n < a ∨ b < n) :
    Calls Try.prog 19 #[.int .i64 n, .int .i64 a, .int .i64 b] w fun e w' => e = .returned (.bool false) ∧ w' = w := by
  by_cases h1 : a ≤ n
  · have h2 : ¬ n ≤ b := by omega
    clear h
    go_enter Try.func19, Try.ntmps19
    go_wp2
    go_ret
    exact ⟨rfl, rfl⟩
  · clear h
    go_enter Try.func19, Try.ntmps19
    go_wp2
    go_ret
    exact ⟨rfl, rfl⟩

/-- The first i slots of a key's row. -/
def rowL (k : Int) (i : Nat) : List Int := (List.range i).map fun j => (rowAt k j : Int)
theorem rowL_len (k : Int) (i : Nat) : (rowL k i).length = i := by simp [rowL]
theorem rowL_succ (k : Int) (i : Nat) : rowL k (i + 1) = rowL k i ++ [(rowAt k i : Int)] := by simp [rowL, List.range_succ]
theorem rowL_at (k : Int) {i n : Nat} (h : i < n) : (rowL k n).getD i 0 = (rowAt k i : Int) := by simp [rowL, List.getD, h]

set_option maxHeartbeats 1000000 in
theorem row_is (k : Int) (h0 : 0 ≤ k) (h1 : k ≤ 1000) (w : World) :
    Calls Try.prog 54 #[.int .i64 k] w fun e w' => ∃ v, e = .returned v ∧ IsL w.heap.size w' v (rowL k 8) ∧ Below w.heap.size w w' := by
  have N0 : Hid (Own w.heap.size w (.slice none 0 0) []) := World.ownsRow_nil w _ _ 1
  go_enter Try.func54, Try.ntmps54
  go_wp2_with fail
  go_loopg [3, 5] 8 (fun gg s3 s5 wt => ∃ i : Nat, i ≤ 8 ∧ 8 - i ≤ gg ∧ s5 = .int .i64 i ∧ Hid (Own w.heap.size wt s3 (rowL k i)) ∧ Hid (Below w.heap.size w wt))
  case atStart => exact ⟨0, by omega, by omega, rfl, N0, Below.refl _ _⟩
  case round =>
    obtain ⟨i, hi, hgg, rfl, O, B⟩ := hrel
    clear N0
    by_cases hlt : i < 8
    · have RS : Hid (rowL k (i + 1) = rowL k i ++ [(rowAt k i : Int)]) := rowL_succ k i
      have ep : (k * 5 % 8 + (i : Int)) % 8 = (rowAt k i : Nat) := by unfold rowAt home; omega
      have hl : Hid ((rowL k i).length + 1 ≤ 1000000) := by have := rowL_len k i; show (rowL k i).length + 1 ≤ 1000000; omega
      generalize rowAt k i = p at *
      have L : Hid (IsL 0 (wr.alloc (.cells #[.int .i64 (p : Int)] 3)) (.slice (some ⟨wr.heap.size, 0, none⟩) 1 1) [(p : Int)]) := IsL.lit wr [(p : Int)] Nat.zero_lt_one
      have O' : Hid (Own w.heap.size (wr.alloc (.cells #[.int .i64 (p : Int)] 3)) u3 (rowL k i)) := own_new O.out _
      have B' : Hid (Below w.heap.size w (wr.alloc (.cells #[.int .i64 (p : Int)] 3))) := B.out.alloc B.out.size _
      clear O B
      go_wp2_with (at_builtin; refine wpList_onto rfl rfl (.tmp 8) (.tmp 15) rfl rfl rfl B'.out.size O'.out L.out hl.out ?_; intro v3 w3 hO3 hb3; have Q3 : Hid (Own w.heap.size w3 v3 (rowL k i ++ [(p : Int)]) ∧ Below w.heap.size w w3) := ⟨hO3, B'.out.trans hb3⟩; clear hO3 hb3)
      go_roundg (8 - (i + 1))
      case measure => omega
      case rel => exact ⟨i + 1, by omega, by omega, by go_num, RS.out ▸ Q3.out.1, Q3.out.2⟩
    · obtain rfl : i = 8 := by omega
      go_wp2
      go_ret
      exact ⟨_, rfl, O.out.isL, B.out⟩
theorem rslot_at0 (t : Tb) (w : World) : (Instr.index 38 (.agg t.all.toArray) (.int .i64 0)).run Try.prog w = .ok (.agg #[.int .i64 (t.k 0), .int .i64 (t.v 0)]) w := by kernel_rfl
theorem rslot_at1 (t : Tb) (w : World) : (Instr.index 38 (.agg t.all.toArray) (.int .i64 1)).run Try.prog w = .ok (.agg #[.int .i64 (t.k 1), .int .i64 (t.v 1)]) w := by kernel_rfl
theorem rslot_at2 (t : Tb) (w : World) : (Instr.index 38 (.agg t.all.toArray) (.int .i64 2)).run Try.prog w = .ok (.agg #[.int .i64 (t.k 2), .int .i64 (t.v 2)]) w := by kernel_rfl
theorem rslot_at3 (t : Tb) (w : World) : (Instr.index 38 (.agg t.all.toArray) (.int .i64 3)).run Try.prog w = .ok (.agg #[.int .i64 (t.k 3), .int .i64 (t.v 3)]) w := by kernel_rfl
theorem rslot_at4 (t : Tb) (w : World) : (Instr.index 38 (.agg t.all.toArray) (.int .i64 4)).run Try.prog w = .ok (.agg #[.int .i64 (t.k 4), .int .i64 (t.v 4)]) w := by kernel_rfl
theorem rslot_at5 (t : Tb) (w : World) : (Instr.index 38 (.agg t.all.toArray) (.int .i64 5)).run Try.prog w = .ok (.agg #[.int .i64 (t.k 5), .int .i64 (t.v 5)]) w := by kernel_rfl
theorem rslot_at6 (t : Tb) (w : World) : (Instr.index 38 (.agg t.all.toArray) (.int .i64 6)).run Try.prog w = .ok (.agg #[.int .i64 (t.k 6), .int .i64 (t.v 6)]) w := by kernel_rfl
theorem rslot_at7 (t : Tb) (w : World) : (Instr.index 38 (.agg t.all.toArray) (.int .i64 7)).run Try.prog w = .ok (.agg #[.int .i64 (t.k 7), .int .i64 (t.v 7)]) w := by kernel_rfl
theorem rslot_at (t : Tb) (i : Nat) (hi : i < 8) (w : World) :
    (Instr.index 38 (.agg t.all.toArray) (.int .i64 (i : Nat))).run Try.prog w = .ok (.agg #[.int .i64 (t.k i), .int .i64 (t.v i)]) w := by
  have : i = 0 ∨ i = 1 ∨ i = 2 ∨ i = 3 ∨ i = 4 ∨ i = 5 ∨ i = 6 ∨ i = 7 := by omega
  rcases this with rfl | rfl | rfl | rfl | rfl | rfl | rfl | rfl
  · exact rslot_at0 t w
  · exact rslot_at1 t w
  · exact rslot_at2 t w
  · exact rslot_at3 t w
  · exact rslot_at4 t w
  · exact rslot_at5 t w
  · exact rslot_at6 t w
  · exact rslot_at7 t w
theorem rslots_array : ∃ n e, Try.prog.underlying 38 = some (.array n e) := ⟨_, _, Try.underlying38⟩
theorem rslots_size (t : Tb) : (Try.prog.info? 38).map (·.size) = some t.all.length := by rw [t.all_length]; kernel_rfl
theorem rslots_size2 (t : Tb) : (Try.prog.info? 38).map (·.size) = some t.all.toArray.size := by rw [List.size_toArray]; exact rslots_size t
theorem rslot_size : (Try.prog.info? 36).map (·.size) = some 2 := by kernel_rfl

set_option maxHeartbeats 1000000 in
theorem RLen_is (t : Tb) (w : World) : Calls Try.prog 55 #[.agg t.all.toArray] w fun e w' => e = .returned (.int .i64 (len t : Nat)) ∧ Below w.heap.size w w' := by
  have T0 : Hid (TAt (w.alloc (.cells t.all.toArray 38)) w.heap.size t) := TAt.born w t _
  have B0 : Hid (Below w.heap.size w (w.alloc (.cells t.all.toArray 38))) := new_below w _
  have HL : Hid (cnt t 8 = len t) := cnt_len t
  go_enter Try.func55, Try.ntmps55
  go_wp2_with fail
  generalize w.alloc (.cells t.all.toArray 38) = W at T0 B0 ⊢
  generalize hn : w.heap.size = n at T0 ⊢
  have HN : Hid (w.heap.size = n) := hn
  clear hn
  go_loopg [3, 5] 8 (fun gg s3 s5 wt => W = wt ∧ ∃ i : Nat, i ≤ 8 ∧ 8 - i ≤ gg ∧ s5 = .int .i64 i ∧ ∃ c : Nat, c ≤ i ∧ s3 = .int .i64 c ∧ Hid (cnt t i = c))
  case atStart => exact ⟨rfl, 0, by omega, by omega, rfl, 0, by omega, rfl, rfl⟩
  case round =>
    obtain ⟨rfl, i, hi, hgg, rfl, c, hc, rfl, C⟩ := hrel
    by_cases hlt : i < 8
    · have hi1 : (i : Int) < 8 := by omega
      have hi0 : (0 : Int) ≤ (i : Int) := by omega
      have c0 := T0.out.key hlt
      by_cases h0 : t.k i = 0
      · have C' : Hid (cnt t (i + 1) = c) := by show cnt t i + ind t i = c; rw [C.out]; unfold ind; rw [if_pos h0]; rfl
        rw [h0] at c0
        clear h0
        go_wp2
        go_roundg (8 - (i + 1))
        case measure => omega
        case rel => exact ⟨rfl, i + 1, by omega, by omega, by go_num, c, by omega, rfl, C'⟩
      · have C' : Hid (cnt t (i + 1) = c + 1) := by show cnt t i + ind t i = c + 1; rw [C.out]; unfold ind; rw [if_neg h0]
        have m0 : (t.k i == 0) = false := by simp [h0]
        have m1 : (t.k i != 0) = true := by simp [h0]
        clear h0
        go_wp2
        go_roundg (8 - (i + 1))
        case measure => omega
        case rel => exact ⟨rfl, i + 1, by omega, by omega, by go_num, c + 1, by omega, by go_num, C'⟩
    · obtain rfl : i = 8 := by omega
      go_wp2
      go_ret
      refine ⟨by rw [← HL.out, C.out]; rfl, ?_⟩
      first | exact B0.out | exact HN.out ▸ B0.out
end Go.Proofs.Ytgkgkiheoadbfaa.Tab
namespace Go.Proofs.Ytgkgkiheoadbfaa.Tab
set_option maxRecDepth 20000
open Go.RowKit
theorem rwRS (t : Tb) : Rw Try.prog 38 t.all := ⟨let ⟨_, _, h⟩ := rslots_array; ⟨_, h, rfl⟩, rslots_size t, t.all_one⟩
theorem rwRl (x y : Int) : Rw Try.prog 36 [.int .i64 x, .int .i64 y] := two_row x y ⟨_, Try.underlying36, rfl⟩ rslot_size
end Go.Proofs.Ytgkgkiheoadbfaa.Tab
namespace Go.Proofs.Ytgkgkiheoadbfaa.Tab
set_option maxRecDepth 20000
open Go.RowKit

def tg (kind : Int) (v : Value) (t : Tb) (n : Int) : List Value := .int .i64 kind :: v :: (t.all ++ [.int .i64 n])
theorem tg_length (kind : Int) (v : Value) (t : Tb) (n : Int) : (tg kind v t n).length = 19 := by simp [tg, Tb.all_length]
theorem tg_0 (kind : Int) (v : Value) (t : Tb) (n : Int) : (tg kind v t n)[0]? = some (.int .i64 kind) := rfl
theorem tg_1 (kind : Int) (v : Value) (t : Tb) (n : Int) : (tg kind v t n)[1]? = some v := rfl
theorem tg_18 (kind : Int) (v : Value) (t : Tb) (n : Int) : (tg kind v t n)[18]? = some (.int .i64 n) := by
  simp [tg, Tb.all_length]
theorem tg_at (kind : Int) (v : Value) (t : Tb) (n : Int) {j : Nat} (hj : j < 16) : (tg kind v t n)[2 + j]? = some (t.at j) := by
  rw [show 2 + j = j + 1 + 1 by omega, tg, List.getElem?_cons_succ, List.getElem?_cons_succ, List.getElem?_append, if_pos (by rw [Tb.all_length]; exact hj), Tb.all_at t j hj]
theorem tg_one (kind : Int) {v : Value} (hv : v.oneCell' = true) (t : Tb) (n : Int) : ∀ u ∈ tg kind v t n, u.oneCell' = true := by
  intro u hu
  simp only [tg, List.mem_cons, List.mem_append, List.not_mem_nil, or_false] at hu
  rcases hu with rfl | rfl | hu | rfl
  · rfl
  · exact hv
  · exact t.all_one u hu
  · rfl
theorem slice_one (a : Option Addr) (n c : Nat) : (Value.slice a n c).oneCell' = true := rfl
theorem tg_zero (kind : Int) : (tg kind (.slice none 0 0) Tb.zero 0).toArray = #[.int .i64 kind, .slice none 0 0, .int .i64 0, .int .i64 0, .int .i64 0, .int .i64 0, .int .i64 0, .int .i64 0, .int .i64 0, .int .i64 0, .int .i64 0, .int .i64 0, .int .i64 0, .int .i64 0, .int .i64 0, .int .i64 0, .int .i64 0, .int .i64 0, .int .i64 0] := rfl
/-- The slots of a thing, as a row within it. -/
theorem Bo.slots {w : World} {b : Nat} {kind : Int} {v : Value} {t : Tb} {n : Int} (h : Bo w b (tg kind v t n)) : w.rangeAt b 2 t.all := fun j u hu => by
  have hj : j < 16 := by have := (List.getElem?_eq_some_iff.1 hu).1; rwa [Tb.all_length] at this
  rw [Tb.all_at t j hj] at hu
  exact h.cell (2 + j) u (by rw [tg_at _ _ _ _ hj]; exact hu)
theorem Bo.tcell {w : World} {b : Nat} {kind : Int} {v : Value} {t : Tb} {n : Int} (h : Bo w b (tg kind v t n)) : w.cell? ⟨b, 0, none⟩ = some (.int .i64 kind) ∧ w.cell? ⟨b, 1, none⟩ = some v ∧ w.cell? ⟨b, 18, none⟩ = some (.int .i64 n) :=
  ⟨h.cell 0 _ rfl, h.cell 1 _ rfl, h.cell 18 _ (tg_18 _ _ _ _)⟩
/-- Another list, another number, another slot. -/
theorem tg_list (kind : Int) (v u : Value) (t : Tb) (n : Int) : (tg kind v t n).set 1 u = tg kind u t n := rfl
theorem tg_num (kind : Int) (v : Value) (t : Tb) (n m : Int) : (tg kind v t n).set 18 (.int .i64 m) = tg kind v t m := by
  simp [tg, Tb.all_length]
end Go.Proofs.Ytgkgkiheoadbfaa.Tab
namespace Go.Proofs.Ytgkgkiheoadbfaa
set_option maxRecDepth 20000

/-- The thing at a place. -/
def gt (l : List Int) (i : Nat) : Int := l.getD i 0
/-- Two things that change places. -/
def swp (l : List Int) (i j : Nat) : List Int := (l.set i (gt l j)).set j (gt l i)
theorem swp_len (l : List Int) (i j : Nat) : (swp l i j).length = l.length := by simp [swp]
theorem gt_set (l : List Int) (i k : Nat) (x : Int) (hi : i < l.length) : gt (l.set i x) k = if k = i then x else gt l k := by
  unfold gt
  rw [List.getD_eq_getElem?_getD, List.getD_eq_getElem?_getD, List.getElem?_set]
  by_cases h : k = i
  · subst h; simp [hi]
  · simp [h, Ne.symm h]
theorem gt_swp (l : List Int) (i j k : Nat) (hi : i < l.length) (hj : j < l.length) : gt (swp l i j) k = if k = j then gt l i else if k = i then gt l j else gt l k := by
  unfold swp
  rw [gt_set _ _ _ _ (by simpa using hj), gt_set _ _ _ _ hi]
theorem swp_perm (l : List Int) (i j : Nat) (hi : i < l.length) (hj : j < l.length) : (swp l i j).Perm l := by
  have h := List.set_set_perm hi hj
  simpa [swp, gt, List.getD, hi, hj] using h

/-- What rises from place i: while it is less than the one above. -/
def riseF : Nat → List Int → Nat → List Int
  | 0, l, _ => l
  | n + 1, l, i => if 0 < i ∧ gt l i < gt l ((i - 1) / 2) then riseF n (swp l i ((i - 1) / 2)) ((i - 1) / 2) else l
/-- The place of the lesser one below place i. -/
def blw (l : List Int) (i : Nat) : Nat := if 2 * i + 2 < l.length ∧ gt l (2 * i + 2) < gt l (2 * i + 1) then 2 * i + 2 else 2 * i + 1
/-- What sinks from place i: while the lesser one below it is less. -/
def sinkF : Nat → List Int → Nat → List Int
  | 0, l, _ => l
  | n + 1, l, i => if blw l i < l.length ∧ gt l (blw l i) < gt l i then sinkF n (swp l i (blw l i)) (blw l i) else l

/-- A heap, but for how many. -/
def Hp (l : List Int) : Prop := ∀ i, 0 < i → i < l.length → gt l ((i - 1) / 2) ≤ gt l i
/-- A heap, but for what stands above place i. -/
structure Hu (l : List Int) (i : Nat) : Prop where
  lt : i < l.length
  a : ∀ k, 0 < k → k < l.length → k ≠ i → gt l ((k - 1) / 2) ≤ gt l k
  b : 0 < i → ∀ k, 0 < k → k < l.length → (k - 1) / 2 = i → gt l ((i - 1) / 2) ≤ gt l k
/-- A heap, but for what stands below place i. -/
structure Hd (l : List Int) (i : Nat) : Prop where
  lt : i < l.length
  a : ∀ k, 0 < k → k < l.length → (k - 1) / 2 ≠ i → gt l ((k - 1) / 2) ≤ gt l k
  b : 0 < i → ∀ k, 0 < k → k < l.length → (k - 1) / 2 = i → gt l ((i - 1) / 2) ≤ gt l k

theorem riseF_perm : ∀ (n : Nat) (l : List Int) (i : Nat), i < l.length → (riseF n l i).Perm l
  | 0, l, _, _ => .refl l
  | n + 1, l, i, hi => by
    unfold riseF
    split
    · exact (riseF_perm n _ _ (by rw [swp_len]; omega)).trans (swp_perm l _ _ hi (by omega))
    · exact .refl l
theorem riseF_heap : ∀ (n : Nat) (l : List Int) (i : Nat), i ≤ n → Hu l i → Hp (riseF n l i)
  | 0, l, i, hn, h => by
    intro k h0 hk
    exact h.a k h0 hk (by omega)
  | n + 1, l, i, hn, h => by
    have hi := h.lt
    unfold riseF
    split
    · rename_i hc
      obtain ⟨h0, hlt⟩ := hc
      have hp : (i - 1) / 2 < l.length := by omega
      refine riseF_heap n _ _ (by omega) ⟨by rw [swp_len]; exact hp, fun k k0 kl kn => ?_, fun p0 k k0 kl kp => ?_⟩
      · rw [swp_len] at kl
        rw [gt_swp l i _ _ hi hp, gt_swp l i _ _ hi hp, if_neg kn]
        by_cases e1 : k = i
        · subst e1
          rw [if_pos rfl, if_pos rfl]; omega
        · rw [if_neg e1]
          by_cases e2 : (k - 1) / 2 = (i - 1) / 2
          · rw [if_pos e2]
            have := h.a k k0 kl e1
            rw [e2] at this; omega
          · rw [if_neg e2]
            by_cases e3 : (k - 1) / 2 = i
            · rw [if_pos e3]; exact h.b h0 k k0 kl e3
            · rw [if_neg e3]; exact h.a k k0 kl e1
      · rw [swp_len] at kl
        have q := h.a ((i - 1) / 2) p0 hp (by omega)
        rw [gt_swp l i _ _ hi hp, gt_swp l i _ _ hi hp, if_neg (show k ≠ (i - 1) / 2 by omega), if_neg (show ((i - 1) / 2 - 1) / 2 ≠ (i - 1) / 2 by omega), if_neg (show ((i - 1) / 2 - 1) / 2 ≠ i by omega)]
        by_cases e1 : k = i
        · rw [if_pos e1]; exact q
        · rw [if_neg e1]
          have := h.a k k0 kl e1
          rw [kp] at this; omega
    · rename_i hc
      intro k h0 hk
      by_cases e : k = i
      · subst e; exact Int.not_lt.1 fun hh => hc ⟨h0, hh⟩
      · exact h.a k h0 hk e
theorem riseF_len (n : Nat) (l : List Int) (i : Nat) (h : i < l.length) : (riseF n l i).length = l.length := (riseF_perm n l i h).length_eq

theorem blw_gt (l : List Int) (i : Nat) : i < blw l i := by unfold blw; split <;> omega
theorem blw_par (l : List Int) (i : Nat) : (blw l i - 1) / 2 = i := by unfold blw; split <;> omega
theorem blw_least (l : List Int) (i k : Nat) (hk : k < l.length) (h0 : 0 < k) (hp : (k - 1) / 2 = i) : blw l i < l.length ∧ gt l (blw l i) ≤ gt l k := by
  have : k = 2 * i + 1 ∨ k = 2 * i + 2 := by omega
  unfold blw
  split
  · rename_i hc
    refine ⟨hc.1, ?_⟩
    rcases this with rfl | rfl <;> omega
  · rename_i hc
    refine ⟨by omega, ?_⟩
    rcases this with rfl | rfl
    · exact Int.le_refl _
    · exact Int.not_lt.1 fun hh => hc ⟨hk, hh⟩
theorem sinkF_perm : ∀ (n : Nat) (l : List Int) (i : Nat), i < l.length → (sinkF n l i).Perm l
  | 0, l, _, _ => .refl l
  | n + 1, l, i, hi => by
    unfold sinkF
    split
    · rename_i hc
      exact (sinkF_perm n _ _ (by rw [swp_len]; exact hc.1)).trans (swp_perm l _ _ hi hc.1)
    · exact .refl l
theorem sinkF_heap : ∀ (n : Nat) (l : List Int) (i : Nat), l.length ≤ n + i + 1 → Hd l i → Hp (sinkF n l i)
  | 0, l, i, hn, h => by
    intro k h0 hk
    have hk' : k < l.length := hk
    exact h.a k h0 hk' (by omega)
  | n + 1, l, i, hn, h => by
    have hi := h.lt
    have hg := blw_gt l i
    have hp := blw_par l i
    unfold sinkF
    split
    · rename_i hc
      obtain ⟨hl, hlt⟩ := hc
      have hb := blw_least l i
      generalize blw l i = c at *
      refine sinkF_heap n _ _ (by rw [swp_len]; omega) ⟨by rw [swp_len]; exact hl, fun k k0 kl kn => ?_, fun p0 k k0 kl kp => ?_⟩
      · rw [swp_len] at kl
        rw [gt_swp l i _ _ hi hl, gt_swp l i _ _ hi hl, if_neg kn]
        by_cases e1 : k = c
        · subst e1
          rw [if_pos rfl, if_pos hp]; omega
        · rw [if_neg e1]
          by_cases e2 : (k - 1) / 2 = i
          · rw [if_pos e2, if_neg (show k ≠ i by omega)]
            exact (hb k kl k0 e2).2
          · rw [if_neg e2]
            by_cases e3 : k = i
            · rw [if_pos e3]
              subst e3
              exact h.b k0 c (by omega) hl hp
            · rw [if_neg e3]; exact h.a k k0 kl e2
      · rw [swp_len] at kl
        rw [gt_swp l i _ _ hi hl, gt_swp l i _ _ hi hl, if_neg (show k ≠ c by omega), if_neg (show k ≠ i by omega), if_neg (show (c - 1) / 2 ≠ c by omega), if_pos hp]
        have := h.a k k0 kl (by omega)
        rw [kp] at this; exact this
    · rename_i hc
      intro k h0 hk
      by_cases e : (k - 1) / 2 = i
      · obtain ⟨q1, q2⟩ := blw_least l i k hk h0 e
        have : gt l i ≤ gt l (blw l i) := Int.not_lt.1 fun hh => hc ⟨q1, hh⟩
        rw [e]; omega
      · exact h.a k h0 hk e

theorem Hp.least {l : List Int} (h : Hp l) : ∀ (n i : Nat), i ≤ n → i < l.length → gt l 0 ≤ gt l i
  | 0, i, hn, _ => by rw [show i = 0 by omega]; exact Int.le_refl _
  | n + 1, i, hn, hi => by
    by_cases h0 : i = 0
    · rw [h0]; exact Int.le_refl _
    · have := h.least n ((i - 1) / 2) (by omega) (by omega)
      have := h i (by omega) hi
      omega
theorem gt_mem (l : List Int) (x : Int) (h : x ∈ l) : ∃ i, i < l.length ∧ gt l i = x := by
  obtain ⟨i, hi, e⟩ := List.mem_iff_getElem.1 h
  exact ⟨i, hi, by simp [gt, List.getD, hi, e]⟩
theorem Hp.head {x : Int} {r : List Int} (h : Hp (x :: r)) : ∀ y ∈ x :: r, x ≤ y := by
  intro y hy
  obtain ⟨i, hi, rfl⟩ := gt_mem _ _ hy
  exact h.least i i (Nat.le_refl _) hi

/-- One more. -/
def rise (l : List Int) : List Int := riseF l.length l (l.length - 1)
theorem rise_perm (l : List Int) : (rise l).Perm l := by
  unfold rise
  cases l with
  | nil => simp [riseF]
  | cons x r => exact riseF_perm _ _ _ (by simp)
theorem rise_heap (l : List Int) (x : Int) (h : Hp l) : Hp (rise (l ++ [x])) := by
  unfold rise
  refine riseF_heap _ _ _ (by simp) ⟨by simp, fun k k0 kl kn => ?_, fun p0 k k0 kl kp => ?_⟩
  · have hk : k < l.length := by simp at kl kn; omega
    have e : ∀ j, j < l.length → gt (l ++ [x]) j = gt l j := fun j hj => by simp [gt, List.getD, List.getElem?_append_left hj]
    rw [e _ hk, e _ (by omega)]
    exact h k k0 hk
  · simp at kl kp; omega
/-- One less, another one at the top. -/
def sink (l : List Int) : List Int := sinkF l.length l 0
theorem sink_perm (l : List Int) : (sink l).Perm l := by
  unfold sink
  cases l with
  | nil => simp [sinkF]
  | cons x r => exact sinkF_perm _ _ _ (by simp)
theorem sink_heap (x z : Int) (r : List Int) (h : Hp (x :: r)) : Hp (sink (z :: r)) := by
  unfold sink
  refine sinkF_heap _ _ _ (by omega) ⟨by simp, fun k k0 kl kn => ?_, fun p0 => by omega⟩
  have e : ∀ j, 0 < j → gt (z :: r) j = gt (x :: r) j := fun j hj => by
    obtain ⟨m, rfl⟩ : ∃ m, j = m + 1 := ⟨j - 1, by omega⟩
    simp [gt, List.getD]
  rw [e _ k0, e _ (by omega)]
  exact h k k0 (by simpa using kl)
theorem Hp.cut {l r : List Int} (h : Hp (l ++ r)) : Hp l := by
  intro i h0 hi
  have e : ∀ j, j < l.length → gt (l ++ r) j = gt l j := fun j hj => by simp [gt, List.getD, List.getElem?_append_left hj]
  have := h i h0 (by simp; omega)
  rwa [e _ hi, e _ (by omega)] at this

/-- In order. -/
def srt (l : List Int) : List Int := l.mergeSort fun x y => decide (x ≤ y)
theorem srt_perm (l : List Int) : (srt l).Perm l := List.mergeSort_perm l _
theorem srt_rises (l : List Int) : (srt l).Pairwise (· ≤ ·) := by
  have := List.pairwise_mergeSort (le := fun x y : Int => decide (x ≤ y)) (fun a b c => by simp; omega) (fun a b => by simp; omega) l
  unfold srt
  simpa using this
theorem srt_eq {l m : List Int} (h : l.Perm m) : srt l = srt m :=
  List.Perm.eq_of_pairwise (le := (· ≤ ·)) (fun _ _ _ _ h1 h2 => Int.le_antisymm h1 h2) (srt_rises l) (srt_rises m) ((srt_perm l).trans (h.trans (srt_perm m).symm))
theorem srt_len (l : List Int) : (srt l).length = l.length := (srt_perm l).length_eq
end Go.Proofs.Ytgkgkiheoadbfaa
namespace Go.Proofs.Ytgkgkiheoadbfaa.Tab
set_option maxRecDepth 20000
open Go.RowKit
set_option linter.unusedVariables false

theorem thing_struct : ∃ fs, Try.prog.underlying 40 = some (.struct fs) := ⟨_, Try.underlying40⟩
theorem thing_size (kind : Int) (v : Value) (t : Tb) (n : Int) : (Try.prog.info? 40).map (·.size) = some (tg kind v t n).length := by rw [tg_length]; kernel_rfl
theorem thing_size2 (kind : Int) (v : Value) (t : Tb) (n : Int) : (Try.prog.info? 40).map (·.size) = some (tg kind v t n).toArray.size := by rw [List.size_toArray, tg_length]; kernel_rfl
theorem thing_size3 : (Try.prog.info? 40).map (·.size) = some 19 := by kernel_rfl
theorem tg_all (kind : Int) {v : Value} (hv : v.oneCell' = true) (t : Tb) (n : Int) : (tg kind v t n).toArray.all (·.oneCell') = true := all_oneCell_toArray (tg_one kind hv t n)
theorem results_rowS {P : Program} {fn : Func} {p q : Tmp} {ty : TypeId} (h : fn.results = #[.cell p ty, .tmp q]) (tmps : Array Value) (w : World) (b : Nat) (cs : List Value) (d : TypeDesc) (r : Value) (hp : tmps.getD p undef = .pointer (some ⟨b, 0, none⟩)) (hq : tmps.getD q undef = r)
    (hc : w.rangeAt b 0 cs) (hu : P.underlying ty = some d) (hd : d.isRow = true) (hi : (P.info? ty).map (·.size) = some cs.length) :
    (results fn tmps).run P w = .ok (.tuple #[.agg cs.toArray, r]) w := by
  have hp' : tmps[p]?.getD undef = .pointer (some ⟨b, 0, none⟩) := by simpa using hp
  have hq' : tmps[q]?.getD undef = r := by simpa using hq
  simp [results, h, hp', hq', asAddr, run_loadVar_mid w b 0 ty cs d hc hu hd hi]

theorem Bo.bornTh (w : World) (kind : Int) (ty : TypeId) {n : Nat} (hn : n = w.heap.size) : Bo (w.alloc (.cells #[.int .i64 kind, .slice none 0 0, .int .i64 0, .int .i64 0, .int .i64 0, .int .i64 0, .int .i64 0, .int .i64 0, .int .i64 0, .int .i64 0, .int .i64 0, .int .i64 0, .int .i64 0, .int .i64 0, .int .i64 0, .int .i64 0, .int .i64 0, .int .i64 0, .int .i64 0] ty)) n (tg kind (.slice none 0 0) Tb.zero 0) := by
  rw [← tg_zero]; exact Bo.born w _ ty hn
theorem tg_nil (kind : Int) : tg kind (.slice none 0 0) Tb.zero 0 = [.int .i64 kind, .slice none 0 0, .int .i64 0, .int .i64 0, .int .i64 0, .int .i64 0, .int .i64 0, .int .i64 0, .int .i64 0, .int .i64 0, .int .i64 0, .int .i64 0, .int .i64 0, .int .i64 0, .int .i64 0, .int .i64 0, .int .i64 0, .int .i64 0, .int .i64 0] := congrArg Array.toList (tg_zero kind)
theorem Bo.setZ {w : World} {b : Nat} {k : Int} {v : Value} {t : Tb} {n : Int} (h : Bo w b (tg k v t n)) (kind : Int) : Bo (w.setCells b 0 [.int .i64 kind, .slice none 0 0, .int .i64 0, .int .i64 0, .int .i64 0, .int .i64 0, .int .i64 0, .int .i64 0, .int .i64 0, .int .i64 0, .int .i64 0, .int .i64 0, .int .i64 0, .int .i64 0, .int .i64 0, .int .i64 0, .int .i64 0, .int .i64 0, .int .i64 0]) b (tg kind (.slice none 0 0) Tb.zero 0) := by
  rw [← tg_nil]; exact h.setL (by rw [tg_length, tg_length])
theorem nil_all (kind : Int) : (#[.int .i64 kind, .slice none 0 0, .int .i64 0, .int .i64 0, .int .i64 0, .int .i64 0, .int .i64 0, .int .i64 0, .int .i64 0, .int .i64 0, .int .i64 0, .int .i64 0, .int .i64 0, .int .i64 0, .int .i64 0, .int .i64 0, .int .i64 0, .int .i64 0, .int .i64 0] : Array Value).all (·.oneCell') = true := by
  rw [← tg_zero]; exact all_oneCell_toArray (tg_one kind rfl Tb.zero 0)
theorem Bo.setT {w : World} {b : Nat} {k : Int} {v : Value} {t : Tb} {n : Int} (h : Bo w b (tg k v t n)) (k' : Int) (v' : Value) (t' : Tb) (n' : Int) : Bo (w.setCells b 0 (tg k' v' t' n')) b (tg k' v' t' n') := h.setL (by rw [tg_length, tg_length])
theorem Bo.thereT {w : World} {b : Nat} {k : Int} {v : Value} {t : Tb} {n : Int} (h : Bo w b (tg k v t n)) (k' : Int) (v' : Value) (t' : Tb) (n' : Int) : w.there b 0 (tg k' v' t' n').toArray.size := by
  rw [List.size_toArray, tg_length]; exact h.thereL (tg_length _ _ _ _).symm

/-- Seventeen words lie in block b, from o on. -/
structure Wf (w : World) (b o : Nat) (c : Nat → Nat) : Prop where
  cell : ∀ j, j < 17 → w.cell? ⟨b, o + j, none⟩ = some (.int .u64 (c j : Nat))
theorem Wf.lt {w : World} {b o : Nat} {c : Nat → Nat} (h : Wf w b o c) : b < w.heap.size := World.block_lt_of_cell? w _ (h.cell 0 (by decide))
theorem Wf.later {w w' : World} {b o : Nat} {c : Nat → Nat} (h : Wf w b o c) (hb : Below w.heap.size w w') : Wf w' b o c :=
  ⟨fun j hj => by rw [hb.cell (p := ⟨b, o + j, none⟩) h.lt]; exact h.cell j hj⟩
theorem Wf.keep {w w' : World} {b o : Nat} {c : Nat → Nat} (h : Wf w b o c) (hb : w'.heap[b]? = w.heap[b]?) : Wf w' b o c :=
  ⟨fun j hj => by rw [World.cell?_of_block (w := w) hb]; exact h.cell j hj⟩
theorem Wf.of_bo {w : World} {b : Nat} {c : Nat → Nat} (h : Bo w b (wl c)) : Wf w b 0 c := ⟨fun j hj => by rw [Nat.zero_add]; exact h.word hj⟩

theorem Wf.new {w : World} {b o : Nat} {c : Nat → Nat} (h : Wf w b o c) (x : Obj) : Wf (w.alloc x) b o c := h.later (new_below w x)
theorem Wf.drew {w : World} {b o : Nat} {c : Nat → Nat} (h : Wf w b o c) : Wf w.drew b o c := ⟨h.cell⟩
theorem Wf.asideL {w : World} {b o k : Nat} {c : Nat → Nat} (h : Wf w b o c) (hk : b ≠ k) (p : Nat) (vs : List Value) : Wf (w.setCells k p vs) b o c := h.keep (heap_setCells hk _ _ _)
theorem Wf.aside {w : World} {b o : Nat} {c : Nat → Nat} (h : Wf w b o c) {p : Addr} (hp : b ≠ p.block) (v : Value) : Wf (w.setCell p v) b o c := h.keep (Below.heap_setCell _ _ _ _ hp)
theorem isL_block {B : Nat} {w w' : World} {v : Value} {xs : List Int} (h : IsL B w v xs) (hb : ∀ b, B ≤ b → w'.heap[b]? = w.heap[b]?) : IsL B w' v xs := by
  rcases h with h | ⟨b, off, c, h1, hB, h2, h3, h4, h5⟩
  · exact Or.inl h
  · refine Or.inr ⟨b, off, c, h1, hB, h2, h3, fun j hj => ?_, fun h0 j hj => ?_⟩
    · rw [World.cell?_of_block (w := w) (hb b hB)]; exact h4 j hj
    · rw [World.frozen?_of_block (w := w) (hb b hB)]; exact h5 h0 j hj
end Go.Proofs.Ytgkgkiheoadbfaa.Tab
namespace Go.Proofs.Ytgkgkiheoadbfaa
set_option maxRecDepth 20000
open Go.RowKit
theorem IsL.drew {B : Nat} {w : World} {v : Value} {xs : List Int} (h : IsL B w v xs) : IsL B w.drew v xs := Tab.isL_block h fun _ _ => rfl
theorem IsL.asideL {B k : Nat} {w : World} {v : Value} {xs : List Int} (h : IsL B w v xs) (hk : k < B) (p : Nat) (vs : List Value) : IsL B (w.setCells k p vs) v xs := Tab.isL_block h fun b hb => Tab.heap_setCells (by omega) _ _ _
theorem IsL.aside {B : Nat} {w : World} {v : Value} {xs : List Int} (h : IsL B w v xs) {p : Addr} (hp : p.block < B) (u : Value) : IsL B (w.setCell p u) v xs := h.setCell hp u
theorem Own.new {B : Nat} {w : World} {v : Value} {xs : List Int} (h : Own B w v xs) (o : Obj) : Own B (w.alloc o) v xs := World.ownsRow.alloc h o
theorem Own.drew {B : Nat} {w : World} {v : Value} {xs : List Int} (h : Own B w v xs) : Own B w.drew v xs := h
theorem Own.aside {B : Nat} {w : World} {v : Value} {xs : List Int} (h : Own B w v xs) {p : Addr} (hp : p.block < B) (u : Value) : Own B (w.setCell p u) v xs := ownsRow_setCell_below h hp u
end Go.Proofs.Ytgkgkiheoadbfaa
namespace Go.Proofs.Ytgkgkiheoadbfaa.Tab
set_option maxRecDepth 20000
open Go.RowKit
theorem Bo.laterB {B : Nat} {w w' : World} {b : Nat} {cs : List Value} (h : Bo w b cs) (hB : b < B) (hb : Below B w w') : Bo w' b cs := h.keep (hb.block b hB) (Nat.lt_of_lt_of_le h.lt hb.size)
theorem Wf.laterB {B : Nat} {w w' : World} {b o : Nat} {c : Nat → Nat} (h : Wf w b o c) (hB : b < B) (hb : Below B w w') : Wf w' b o c := h.keep (hb.block b hB)
theorem Gd.laterB {B n : Nat} {w a b : World} (h : Gd n w a) (hB : n ≤ B) (hb : Below B a b) : Gd n w b := ⟨h.1, h.2.trans (hb.mono (h.1 ▸ hB))⟩

/-- What words are a thing of a kind. -/
def WT (c : Nat → Nat) : Prop := (∀ j, j < 16 → c j ≤ 4294967295) ∧ c 16 = 0 ∧ RT (tbl c)
def WN (c : Nat → Nat) : Prop := c 0 ≤ 4294967295 ∧ ∀ j, 1 ≤ j → j < 17 → c j = 0
def isTh (kind : Int) (c : Nat → Nat) : Prop :=
  ((kind = 1 ∨ kind = 2 ∨ kind = 3) ∧ WList c) ∨ (kind = 4 ∧ WList c ∧ Hp (lst c)) ∨ (kind = 5 ∧ WT c) ∨ (kind = 6 ∧ WN c)
theorem isTh.kind {k : Int} {c : Nat → Nat} (h : isTh k c) : 1 ≤ k ∧ k ≤ 6 := by
  rcases h with ⟨h, _⟩ | ⟨h, _⟩ | ⟨h, _⟩ | ⟨h, _⟩ <;> omega
theorem WList.le {c : Nat → Nat} (h : WList c) : ∀ j, j < 17 → c j ≤ 4294967295 := fun j hj => by
  have := h.len
  by_cases e : j = 0
  · subst e; omega
  · by_cases e1 : j ≤ c 0
    · exact h.val j (by omega) e1
    · rw [h.rest j (by omega) hj]; omega
theorem isTh.le {k : Int} {c : Nat → Nat} (h : isTh k c) : ∀ j, j < 17 → c j ≤ 4294967295 := fun j hj => by
  rcases h with ⟨_, h⟩ | ⟨_, h, _⟩ | ⟨_, h⟩ | ⟨_, h⟩
  · exact h.le j hj
  · exact h.le j hj
  · by_cases e : j < 16
    · exact h.1 j e
    · rw [show j = 16 by omega, h.2.1]; omega
  · by_cases e : j = 0
    · subst e; exact h.1
    · rw [h.2 j (by omega) hj]; omega
end Go.Proofs.Ytgkgkiheoadbfaa.Tab
namespace Go.Proofs.Ytgkgkiheoadbfaa.Tab
set_option maxRecDepth 20000
open Go.RowKit

theorem cells_array : ∃ n e, Try.prog.underlying 28 = some (.array n e) := ⟨_, _, Try.underlying28⟩
theorem cells_size (c : Nat → Nat) : (Try.prog.info? 28).map (·.size) = some (wl c).length := by rw [wl_length]; kernel_rfl
theorem cells_size2 (c : Nat → Nat) : (Try.prog.info? 28).map (·.size) = some (wl c).toArray.size := by rw [List.size_toArray, wl_length]; kernel_rfl

/-- No word from off on, n of them, is above m. -/
def upC (c : Nat → Nat) (off n : Nat) (m : Int) : Bool := (List.range n).all fun j => decide (((c (off + j) : Nat) : Int) ≤ m)
theorem upC_iff {c : Nat → Nat} {off n : Nat} {m : Int} : upC c off n m = true ↔ ∀ j, j < n → ((c (off + j) : Nat) : Int) ≤ m := by simp [upC]
theorem upC_yes {c : Nat → Nat} {off n : Nat} {m : Int} {v : Bool} (hv : upC c off n m = v) (h : ∀ j, j < n → ((c (off + j) : Nat) : Int) ≤ m) : true = v := by rw [← hv]; exact (upC_iff.2 h).symm
theorem upC_no {c : Nat → Nat} {off n : Nat} {m : Int} {v : Bool} (hv : upC c off n m = v) {i : Nat} (hi : i < n) (h : ¬ ((c (off + i) : Nat) : Int) ≤ m) : false = v := by
  cases v
  · rfl
  · exact absurd (upC_iff.1 hv i hi) h

set_option maxHeartbeats 1000000 in
theorem upTo_is {w : World} {b off n k : Nat} {m : Int} {c : Nat → Nat} {v : Bool} (h : Bo w b (wl c)) (hn : off + n ≤ 17) (hv : upC c off n m = v) :
    Calls Try.prog 57 #[.slice (some ⟨b, off, none⟩) n k, .int .u64 m] w fun e w' => e = .returned (.bool v) ∧ w' = w := by
  have H : Hid (Bo w b (wl c)) := h
  have HV : Hid _ := hv
  clear h hv
  go_enter Try.func57, Try.ntmps57
  go_wp2_with fail
  go_loopg [9] n (fun gg s9 wt => wt = w ∧ ∃ i : Nat, i ≤ n ∧ n - i ≤ gg ∧ s9 = .int .i64 i ∧ Hid (∀ j, j < i → ((c (off + j) : Nat) : Int) ≤ m))
  case atStart => exact ⟨rfl, 0, by omega, by omega, rfl, fun j hj => absurd hj (by omega)⟩
  case round =>
    obtain ⟨rfl, i, hi, hgg, rfl, U⟩ := hrel
    by_cases hlt : i < n
    · have g0 := H.out.word (show off + i < 17 by omega)
      have hi1 : (i : Int) < (n : Int) := by omega
      have hi0 : (0 : Int) ≤ (i : Int) := by omega
      by_cases hle : ((c (off + i) : Nat) : Int) ≤ m
      · have U' : Hid (∀ j, j < i + 1 → ((c (off + j) : Nat) : Int) ≤ m) := fun j hj => by
          by_cases e : j = i
          · subst e; exact hle
          · exact U.out j (by omega)
        have hd : ¬ m < ((c (off + i) : Nat) : Int) := by omega
        generalize c (off + i) = x at g0 hd hle
        clear hle
        go_wp2
        go_roundg (n - (i + 1))
        case measure => omega
        case rel => exact ⟨rfl, i + 1, by omega, by omega, by go_num, U'⟩
      · have E : Hid (false = v) := upC_no HV.out hlt hle
        have hd : m < ((c (off + i) : Nat) : Int) := by omega
        generalize c (off + i) = x at g0 hd hle
        clear hle
        go_wp2
        go_ret
        exact ⟨by rw [← E.out]; rfl, rfl⟩
    · have ei : i = n := by omega
      subst ei
      have E : Hid (true = v) := upC_yes HV.out U.out
      go_wp2
      go_ret
      exact ⟨by rw [← E.out]; rfl, rfl⟩

set_option maxHeartbeats 1000000 in
theorem isTally_is (c : Nat → Nat) (w : World) : Calls Try.prog 49 #[.agg (wl c).toArray] w fun e w' => e = .returned (.bool (upC c 0 1 4294967295 && upC c 1 16 0)) ∧ Below w.heap.size w w' := by
  have G : Hid (Below w.heap.size w (w.alloc (.cells (wl c).toArray 28))) := new_below w _
  have T : Hid (Bo (w.alloc (.cells (wl c).toArray 28)) w.heap.size (wl c)) := Bo.born w (wl c) _ rfl
  rcases h1 : upC c 0 1 4294967295 with _ | _
  · go_enter Try.func49, Try.ntmps49
    go_wp2_with fail
    refine (upTo_is T.out (by decide) h1).mono ?_
    rintro e w1 ⟨rfl, rfl⟩
    go_wp2
    go_ret
    exact ⟨rfl, G.out⟩
  · rcases h2 : upC c 1 16 0 with _ | _
    all_goals
      go_enter Try.func49, Try.ntmps49
      go_wp2_with fail
      refine (upTo_is T.out (by decide) h1).mono ?_
      rintro e w1 ⟨rfl, rfl⟩
      go_wp2_with fail
      refine (upTo_is T.out (by decide) h2).mono ?_
      rintro e w1 ⟨rfl, rfl⟩
      go_wp2
      go_ret
      exact ⟨rfl, G.out⟩

/-- Lists as words. -/
def isLb (c : Nat → Nat) : Bool := decide (c 0 ≤ 6) && (upC c 1 (c 0) 4294967295 && upC c (1 + c 0) (16 - c 0) 0)
set_option maxHeartbeats 1000000 in
theorem isList_no (c : Nat → Nat) (h : ¬ c 0 ≤ 6) (w : World) : Calls Try.prog 45 #[.agg (wl c).toArray] w fun e w' => e = .returned (.bool false) ∧ Below w.heap.size w w' := by
  have G : Hid (Below w.heap.size w (w.alloc (.cells (wl c).toArray 28))) := new_below w _
  have T : Hid (Bo (w.alloc (.cells (wl c).toArray 28)) w.heap.size (wl c)) := Bo.born w (wl c) _ rfl
  have g0 := T.out.word (show 0 < 17 by decide)
  have hd : decide (((c 0 : Nat) : Int) ≤ 6) = false := by simp; omega
  go_enter Try.func45, Try.ntmps45
  go_wp2_with fail
  generalize w.alloc (.cells (wl c).toArray 28) = W at T G g0 ⊢
  generalize c 0 = k at g0 hd ⊢
  go_region
  all_goals go_wp2
  all_goals go_ret
  all_goals exact ⟨rfl, Below.drew G.out⟩
set_option maxHeartbeats 2000000 in
theorem isList_0 (c : Nat → Nat) (h : c 0 = 0) {v1 v2 : Bool} (h1 : upC c 1 0 4294967295 = v1) (h2 : upC c 1 16 0 = v2) (w : World) : Calls Try.prog 45 #[.agg (wl c).toArray] w fun e w' => e = .returned (.bool (v1 && v2)) ∧ Below w.heap.size w w' := by
  have G : Hid (Below w.heap.size w (w.alloc (.cells (wl c).toArray 28))) := new_below w _
  have T : Hid (Bo (w.alloc (.cells (wl c).toArray 28)) w.heap.size (wl c)) := Bo.born w (wl c) _ rfl
  have g0 : (w.alloc (.cells (wl c).toArray 28)).cell? ⟨w.heap.size, 0, none⟩ = some (.int .u64 0) := by have := T.out.word (show 0 < 17 by decide); rw [h] at this; exact this
  have H1 : Hid _ := h1
  have H2 : Hid _ := h2
  clear h h1 h2
  go_enter Try.func45, Try.ntmps45
  go_wp2_with fail
  generalize w.alloc (.cells (wl c).toArray 28) = W at T G g0 ⊢
  have T1 : Hid (Bo W.drew w.heap.size (wl c)) := T.out.drew
  have G1 : Hid (Below w.heap.size w W.drew) := Below.drew G.out
  go_region
  all_goals go_wp2_with fail
  all_goals
    refine (upTo_is T1.out (by decide) H1.out).mono ?_
    rintro e w1 ⟨rfl, rfl⟩
  all_goals cases v1
  all_goals go_wp2_with fail
  all_goals first
    | (refine (upTo_is T1.out (by decide) H2.out).mono ?_
       rintro e w1 ⟨rfl, rfl⟩
       go_wp2)
    | skip
  all_goals go_ret
  all_goals exact ⟨rfl, G1.out⟩
set_option maxHeartbeats 2000000 in
theorem isList_1 (c : Nat → Nat) (h : c 0 = 1) {v1 v2 : Bool} (h1 : upC c 1 1 4294967295 = v1) (h2 : upC c 2 15 0 = v2) (w : World) : Calls Try.prog 45 #[.agg (wl c).toArray] w fun e w' => e = .returned (.bool (v1 && v2)) ∧ Below w.heap.size w w' := by
  have G : Hid (Below w.heap.size w (w.alloc (.cells (wl c).toArray 28))) := new_below w _
  have T : Hid (Bo (w.alloc (.cells (wl c).toArray 28)) w.heap.size (wl c)) := Bo.born w (wl c) _ rfl
  have g0 : (w.alloc (.cells (wl c).toArray 28)).cell? ⟨w.heap.size, 0, none⟩ = some (.int .u64 1) := by have := T.out.word (show 0 < 17 by decide); rw [h] at this; exact this
  have H1 : Hid _ := h1
  have H2 : Hid _ := h2
  clear h h1 h2
  go_enter Try.func45, Try.ntmps45
  go_wp2_with fail
  generalize w.alloc (.cells (wl c).toArray 28) = W at T G g0 ⊢
  have T1 : Hid (Bo W.drew w.heap.size (wl c)) := T.out.drew
  have G1 : Hid (Below w.heap.size w W.drew) := Below.drew G.out
  go_region
  all_goals go_wp2_with fail
  all_goals
    refine (upTo_is T1.out (by decide) H1.out).mono ?_
    rintro e w1 ⟨rfl, rfl⟩
  all_goals cases v1
  all_goals go_wp2_with fail
  all_goals first
    | (refine (upTo_is T1.out (by decide) H2.out).mono ?_
       rintro e w1 ⟨rfl, rfl⟩
       go_wp2)
    | skip
  all_goals go_ret
  all_goals exact ⟨rfl, G1.out⟩
set_option maxHeartbeats 2000000 in
theorem isList_2 (c : Nat → Nat) (h : c 0 = 2) {v1 v2 : Bool} (h1 : upC c 1 2 4294967295 = v1) (h2 : upC c 3 14 0 = v2) (w : World) : Calls Try.prog 45 #[.agg (wl c).toArray] w fun e w' => e = .returned (.bool (v1 && v2)) ∧ Below w.heap.size w w' := by
  have G : Hid (Below w.heap.size w (w.alloc (.cells (wl c).toArray 28))) := new_below w _
  have T : Hid (Bo (w.alloc (.cells (wl c).toArray 28)) w.heap.size (wl c)) := Bo.born w (wl c) _ rfl
  have g0 : (w.alloc (.cells (wl c).toArray 28)).cell? ⟨w.heap.size, 0, none⟩ = some (.int .u64 2) := by have := T.out.word (show 0 < 17 by decide); rw [h] at this; exact this
  have H1 : Hid _ := h1
  have H2 : Hid _ := h2
  clear h h1 h2
  go_enter Try.func45, Try.ntmps45
  go_wp2_with fail
  generalize w.alloc (.cells (wl c).toArray 28) = W at T G g0 ⊢
  have T1 : Hid (Bo W.drew w.heap.size (wl c)) := T.out.drew
  have G1 : Hid (Below w.heap.size w W.drew) := Below.drew G.out
  go_region
  all_goals go_wp2_with fail
  all_goals
    refine (upTo_is T1.out (by decide) H1.out).mono ?_
    rintro e w1 ⟨rfl, rfl⟩
  all_goals cases v1
  all_goals go_wp2_with fail
  all_goals first
    | (refine (upTo_is T1.out (by decide) H2.out).mono ?_
       rintro e w1 ⟨rfl, rfl⟩
       go_wp2)
    | skip
  all_goals go_ret
  all_goals exact ⟨rfl, G1.out⟩
set_option maxHeartbeats 2000000 in
theorem isList_3 (c : Nat → Nat) (h : c 0 = 3) {v1 v2 : Bool} (h1 : upC c 1 3 4294967295 = v1) (h2 : upC c 4 13 0 = v2) (w : World) : Calls Try.prog 45 #[.agg (wl c).toArray] w fun e w' => e = .returned (.bool (v1 && v2)) ∧ Below w.heap.size w w' := by
  have G : Hid (Below w.heap.size w (w.alloc (.cells (wl c).toArray 28))) := new_below w _
  have T : Hid (Bo (w.alloc (.cells (wl c).toArray 28)) w.heap.size (wl c)) := Bo.born w (wl c) _ rfl
  have g0 : (w.alloc (.cells (wl c).toArray 28)).cell? ⟨w.heap.size, 0, none⟩ = some (.int .u64 3) := by have := T.out.word (show 0 < 17 by decide); rw [h] at this; exact this
  have H1 : Hid _ := h1
  have H2 : Hid _ := h2
  clear h h1 h2
  go_enter Try.func45, Try.ntmps45
  go_wp2_with fail
  generalize w.alloc (.cells (wl c).toArray 28) = W at T G g0 ⊢
  have T1 : Hid (Bo W.drew w.heap.size (wl c)) := T.out.drew
  have G1 : Hid (Below w.heap.size w W.drew) := Below.drew G.out
  go_region
  all_goals go_wp2_with fail
  all_goals
    refine (upTo_is T1.out (by decide) H1.out).mono ?_
    rintro e w1 ⟨rfl, rfl⟩
  all_goals cases v1
  all_goals go_wp2_with fail
  all_goals first
    | (refine (upTo_is T1.out (by decide) H2.out).mono ?_
       rintro e w1 ⟨rfl, rfl⟩
       go_wp2)
    | skip
  all_goals go_ret
  all_goals exact ⟨rfl, G1.out⟩
set_option maxHeartbeats 2000000 in
theorem isList_4 (c : Nat → Nat) (h : c 0 = 4) {v1 v2 : Bool} (h1 : upC c 1 4 4294967295 = v1) (h2 : upC c 5 12 0 = v2) (w : World) : Calls Try.prog 45 #[.agg (wl c).toArray] w fun e w' => e = .returned (.bool (v1 && v2)) ∧ Below w.heap.size w w' := by
  have G : Hid (Below w.heap.size w (w.alloc (.cells (wl c).toArray 28))) := new_below w _
  have T : Hid (Bo (w.alloc (.cells (wl c).toArray 28)) w.heap.size (wl c)) := Bo.born w (wl c) _ rfl
  have g0 : (w.alloc (.cells (wl c).toArray 28)).cell? ⟨w.heap.size, 0, none⟩ = some (.int .u64 4) := by have := T.out.word (show 0 < 17 by decide); rw [h] at this; exact this
  have H1 : Hid _ := h1
  have H2 : Hid _ := h2
  clear h h1 h2
  go_enter Try.func45, Try.ntmps45
  go_wp2_with fail
  generalize w.alloc (.cells (wl c).toArray 28) = W at T G g0 ⊢
  have T1 : Hid (Bo W.drew w.heap.size (wl c)) := T.out.drew
  have G1 : Hid (Below w.heap.size w W.drew) := Below.drew G.out
  go_region
  all_goals go_wp2_with fail
  all_goals
    refine (upTo_is T1.out (by decide) H1.out).mono ?_
    rintro e w1 ⟨rfl, rfl⟩
  all_goals cases v1
  all_goals go_wp2_with fail
  all_goals first
    | (refine (upTo_is T1.out (by decide) H2.out).mono ?_
       rintro e w1 ⟨rfl, rfl⟩
       go_wp2)
    | skip
  all_goals go_ret
  all_goals exact ⟨rfl, G1.out⟩
set_option maxHeartbeats 2000000 in
theorem isList_5 (c : Nat → Nat) (h : c 0 = 5) {v1 v2 : Bool} (h1 : upC c 1 5 4294967295 = v1) (h2 : upC c 6 11 0 = v2) (w : World) : Calls Try.prog 45 #[.agg (wl c).toArray] w fun e w' => e = .returned (.bool (v1 && v2)) ∧ Below w.heap.size w w' := by
  have G : Hid (Below w.heap.size w (w.alloc (.cells (wl c).toArray 28))) := new_below w _
  have T : Hid (Bo (w.alloc (.cells (wl c).toArray 28)) w.heap.size (wl c)) := Bo.born w (wl c) _ rfl
  have g0 : (w.alloc (.cells (wl c).toArray 28)).cell? ⟨w.heap.size, 0, none⟩ = some (.int .u64 5) := by have := T.out.word (show 0 < 17 by decide); rw [h] at this; exact this
  have H1 : Hid _ := h1
  have H2 : Hid _ := h2
  clear h h1 h2
  go_enter Try.func45, Try.ntmps45
  go_wp2_with fail
  generalize w.alloc (.cells (wl c).toArray 28) = W at T G g0 ⊢
  have T1 : Hid (Bo W.drew w.heap.size (wl c)) := T.out.drew
  have G1 : Hid (Below w.heap.size w W.drew) := Below.drew G.out
  go_region
  all_goals go_wp2_with fail
  all_goals
    refine (upTo_is T1.out (by decide) H1.out).mono ?_
    rintro e w1 ⟨rfl, rfl⟩
  all_goals cases v1
  all_goals go_wp2_with fail
  all_goals first
    | (refine (upTo_is T1.out (by decide) H2.out).mono ?_
       rintro e w1 ⟨rfl, rfl⟩
       go_wp2)
    | skip
  all_goals go_ret
  all_goals exact ⟨rfl, G1.out⟩
set_option maxHeartbeats 2000000 in
theorem isList_6 (c : Nat → Nat) (h : c 0 = 6) {v1 v2 : Bool} (h1 : upC c 1 6 4294967295 = v1) (h2 : upC c 7 10 0 = v2) (w : World) : Calls Try.prog 45 #[.agg (wl c).toArray] w fun e w' => e = .returned (.bool (v1 && v2)) ∧ Below w.heap.size w w' := by
  have G : Hid (Below w.heap.size w (w.alloc (.cells (wl c).toArray 28))) := new_below w _
  have T : Hid (Bo (w.alloc (.cells (wl c).toArray 28)) w.heap.size (wl c)) := Bo.born w (wl c) _ rfl
  have g0 : (w.alloc (.cells (wl c).toArray 28)).cell? ⟨w.heap.size, 0, none⟩ = some (.int .u64 6) := by have := T.out.word (show 0 < 17 by decide); rw [h] at this; exact this
  have H1 : Hid _ := h1
  have H2 : Hid _ := h2
  clear h h1 h2
  go_enter Try.func45, Try.ntmps45
  go_wp2_with fail
  generalize w.alloc (.cells (wl c).toArray 28) = W at T G g0 ⊢
  have T1 : Hid (Bo W.drew w.heap.size (wl c)) := T.out.drew
  have G1 : Hid (Below w.heap.size w W.drew) := Below.drew G.out
  go_region
  all_goals go_wp2_with fail
  all_goals
    refine (upTo_is T1.out (by decide) H1.out).mono ?_
    rintro e w1 ⟨rfl, rfl⟩
  all_goals cases v1
  all_goals go_wp2_with fail
  all_goals first
    | (refine (upTo_is T1.out (by decide) H2.out).mono ?_
       rintro e w1 ⟨rfl, rfl⟩
       go_wp2)
    | skip
  all_goals go_ret
  all_goals exact ⟨rfl, G1.out⟩
theorem isList_is (c : Nat → Nat) (w : World) : Calls Try.prog 45 #[.agg (wl c).toArray] w fun e w' => e = .returned (.bool (isLb c)) ∧ Below w.heap.size w w' := by
  by_cases h : c 0 ≤ 6
  · have hd : decide (c 0 ≤ 6) = true := by simp [h]
    have hh : c 0 = 0 ∨ c 0 = 1 ∨ c 0 = 2 ∨ c 0 = 3 ∨ c 0 = 4 ∨ c 0 = 5 ∨ c 0 = 6 := by omega
    unfold isLb
    rw [hd, Bool.true_and]
    rcases hh with e | e | e | e | e | e | e <;> rw [e]
    · exact isList_0 c e rfl rfl w
    · exact isList_1 c e rfl rfl w
    · exact isList_2 c e rfl rfl w
    · exact isList_3 c e rfl rfl w
    · exact isList_4 c e rfl rfl w
    · exact isList_5 c e rfl rfl w
    · exact isList_6 c e rfl rfl w
  · have hd : decide (c 0 ≤ 6) = false := by simp; omega
    unfold isLb
    rw [hd, Bool.false_and]
    exact isList_no c h w
end Go.Proofs.Ytgkgkiheoadbfaa.Tab
namespace Go.Proofs.Ytgkgkiheoadbfaa.Tab
set_option maxRecDepth 20000
open Go.RowKit
theorem rwTh (k : Int) {v : Value} (hv : v.oneCell' = true) (t : Tb) (n : Int) : Rw Try.prog 40 (tg k v t n) := ⟨let ⟨_, h⟩ := thing_struct; ⟨_, h, rfl⟩, thing_size k v t n, tg_one k hv t n⟩
theorem rwN : Rw Try.prog 40 (tg 0 (.slice none 0 0) Tb.zero 0) := rwTh 0 rfl _ _
theorem rwC (c : Nat → Nat) : Rw Try.prog 28 (wl c) := ⟨let ⟨_, _, h⟩ := cells_array; ⟨_, h, rfl⟩, cells_size c, wl_one c⟩
theorem sz_sl : (Try.prog.info? 34).map (·.size) = some 1 := by kernel_rfl
theorem sz_i : (Try.prog.info? 3).map (·.size) = some 1 := by kernel_rfl
end Go.Proofs.Ytgkgkiheoadbfaa.Tab
namespace Go.Proofs.Ytgkgkiheoadbfaa.Tab
set_option maxRecDepth 20000
open Go.RowKit
set_option linter.unusedVariables false

theorem rwO (o k x : Int) : Rw Try.prog 54 [.int .i64 o, .int .i64 k, .int .i64 x] := ⟨⟨_, Try.underlying54, rfl⟩, by kernel_rfl, by intro v hv; simp at hv; rcases hv with rfl | rfl | rfl <;> rfl⟩
set_option maxHeartbeats 2000000 in
theorem recKind_is (r : Nat → Nat) {q : Nat} (hq : q = min (r 0) 4294967296) (w : World) :
    Calls Try.prog 7 #[.agg (rl r).toArray] w (fun e w' => e = .returned (.int .i64 (q : Nat)) ∧ Below w.heap.size w w') := by
  have e1 : min ((r 0 : Nat) : Int) 4294967296 = (q : Int) := by omega
  have e2 : (if (4294967296 : Int) < ((r 0 : Nat) : Int) then (4294967296 : Int) else ((r 0 : Nat) : Int)) = (q : Int) := by split <;> omega
  have e3 : wrap64 (q : Int) = q := by unfold wrap64; omega
  have hM : Hid _ := ((Ms.nil w).born (rl r) 24 (b := w.heap.size) rfl)
  have x1 := (hM.out.at 0 rfl).rword (show 0 < 32 by decide)
  clear hq
  go_enter Try.func7, Try.ntmps7
  go_wp2
  go_ret
  exact ⟨ret_int (by omega), hM.out.below⟩
set_option maxHeartbeats 4000000 in
theorem recObject_is (r : Nat → Nat) (w : World) :
    Calls Try.prog 8 #[.agg (rl r).toArray] w (fun e w' => e = .returned (.agg (wl (ob r)).toArray) ∧ Below w.heap.size w w') := by
  have hM : Hid _ := ((((Ms.nil w).born (rl r) 24 (b := w.heap.size) rfl).bornR wz_all.symm 28 (b := w.heap.size + 1) (by simp)).bornR wz_all.symm 28 (b := w.heap.size + 2) (by simp))
  go_enter Try.func8, Try.ntmps8
  go_wp2_with fail
  generalize World.alloc _ _ = W at hM ⊢
  generalize hsz : w.heap.size = n at hM ⊢
  clear hsz
  replace hM := hid (hM.out.drew)
  refine wp_region_held_drew (S := fun w' => Bo w' n (rl r)) (by kernel_rfl) (hM.out.at 2 rfl) (fun hH => ?_)
  generalize World.drew _ = W at hM hH  ⊢
  refine tk 0 rfl hH ?_
  simp only [Act.put, p1, p2, p3]
  refine tk 1 rfl hH ?_
  simp only [Act.put, p1, p2, p3]
  refine rd1 2 rfl (fun K hK => ?_)
  refine cpR rfl Try.underlying31 sz_u (vs := wl (ob r)) (dLen := 17) (sLen := 31) (by rw [wl_length]; rfl) ((hM.out.at 2 rfl).objCells) ((hM.out.at 0 rfl).thereL (by rw [wl_length, wl_length])) (wl_one _) ?_
  replace hM := hid (hM.out.put 0 rfl (wl (ob r)) (by rw [wl_length, wl_length]))
  refine hK.out _ _ (hM.out.at 2 rfl) (fun hH => ?_)
  clear hK K
  generalize World.setCells _ _ _ _ = W at hM hH ⊢
  try simp only [Act.put, p1, p2, p3]
  refine wpAnyH_done (by kernel_rfl) ?_ _
  go_wp2_with (first
    | (refine lR rfl (hM.out.at 0 rfl) rfl (rwC (ob r)) ?_)
    | (refine sR rfl (hM.out.at 1 rfl) rfl ((rwC wz).len (rwC (ob r))) (rwC (ob r)) ?_
       replace hM := hid (hM.out.put 1 rfl (wl (ob r)) ((rwC wz).len (rwC (ob r))))
       generalize World.setCells _ _ _ _ = W at hM ⊢))
  exact bodyPost_ret (res1 Try.results8 (hM.out.at 1 rfl) (rwC (ob r))) rfl ⟨rfl, hM.out.below⟩
end Go.Proofs.Ytgkgkiheoadbfaa.Tab
namespace Go.Proofs.Ytgkgkiheoadbfaa.Tab
set_option maxRecDepth 20000
open Go.RowKit
set_option linter.unusedVariables false

theorem cells_desc : Try.prog.underlying 28 = some (.array 17 22) := by kernel_rfl
theorem wpart0 (c : Nat → Nat) (w : World) : (part 22 (wl c).toArray 0).run Try.prog w = .ok (.int .u64 (c 0 : Nat)) w := by kernel_rfl
theorem wpart1 (c : Nat → Nat) (w : World) : (part 22 (wl c).toArray 1).run Try.prog w = .ok (.int .u64 (c 1 : Nat)) w := by kernel_rfl
theorem wpart2 (c : Nat → Nat) (w : World) : (part 22 (wl c).toArray 2).run Try.prog w = .ok (.int .u64 (c 2 : Nat)) w := by kernel_rfl
theorem wpart3 (c : Nat → Nat) (w : World) : (part 22 (wl c).toArray 3).run Try.prog w = .ok (.int .u64 (c 3 : Nat)) w := by kernel_rfl
theorem wpart4 (c : Nat → Nat) (w : World) : (part 22 (wl c).toArray 4).run Try.prog w = .ok (.int .u64 (c 4 : Nat)) w := by kernel_rfl
theorem wpart5 (c : Nat → Nat) (w : World) : (part 22 (wl c).toArray 5).run Try.prog w = .ok (.int .u64 (c 5 : Nat)) w := by kernel_rfl
theorem wpart6 (c : Nat → Nat) (w : World) : (part 22 (wl c).toArray 6).run Try.prog w = .ok (.int .u64 (c 6 : Nat)) w := by kernel_rfl
theorem wpart7 (c : Nat → Nat) (w : World) : (part 22 (wl c).toArray 7).run Try.prog w = .ok (.int .u64 (c 7 : Nat)) w := by kernel_rfl
theorem wpart8 (c : Nat → Nat) (w : World) : (part 22 (wl c).toArray 8).run Try.prog w = .ok (.int .u64 (c 8 : Nat)) w := by kernel_rfl
theorem wpart9 (c : Nat → Nat) (w : World) : (part 22 (wl c).toArray 9).run Try.prog w = .ok (.int .u64 (c 9 : Nat)) w := by kernel_rfl
theorem wpart10 (c : Nat → Nat) (w : World) : (part 22 (wl c).toArray 10).run Try.prog w = .ok (.int .u64 (c 10 : Nat)) w := by kernel_rfl
theorem wpart11 (c : Nat → Nat) (w : World) : (part 22 (wl c).toArray 11).run Try.prog w = .ok (.int .u64 (c 11 : Nat)) w := by kernel_rfl
theorem wpart12 (c : Nat → Nat) (w : World) : (part 22 (wl c).toArray 12).run Try.prog w = .ok (.int .u64 (c 12 : Nat)) w := by kernel_rfl
theorem wpart13 (c : Nat → Nat) (w : World) : (part 22 (wl c).toArray 13).run Try.prog w = .ok (.int .u64 (c 13 : Nat)) w := by kernel_rfl
theorem wpart14 (c : Nat → Nat) (w : World) : (part 22 (wl c).toArray 14).run Try.prog w = .ok (.int .u64 (c 14 : Nat)) w := by kernel_rfl
theorem wpart15 (c : Nat → Nat) (w : World) : (part 22 (wl c).toArray 15).run Try.prog w = .ok (.int .u64 (c 15 : Nat)) w := by kernel_rfl
theorem wpart16 (c : Nat → Nat) (w : World) : (part 22 (wl c).toArray 16).run Try.prog w = .ok (.int .u64 (c 16 : Nat)) w := by kernel_rfl
theorem word_equal (x : Int) (w : World) : (Op.equalIn 9999 22 (.int .u64 x) (.int .u64 x)).run Try.prog w = .ok true w := by
  go_simp
theorem cells_equal (c : Nat → Nat) (w : World) : (Op.equalIn 10000 28 (.agg (wl c).toArray) (.agg (wl c).toArray)).run Try.prog w = .ok true w := by
  have hc : Try.prog.cellsOf 22 = 1 := by kernel_rfl
  cases hi : Try.prog.info? 22 with
  | none => simp [Program.cellsOf, hi] at hc
  | some i =>
    have h := run_equalIn_array (w := w) 9999 (wl c).toArray (wl c).toArray cells_desc hi
    rw [h, hc]
    have hr : List.range 17 = [0, 1, 2, 3, 4, 5, 6, 7, 8, 9, 10, 11, 12, 13, 14, 15, 16] := by decide
    rw [hr]
    simp [Op.eqItems, wpart0 c w, wpart1 c w, wpart2 c w, wpart3 c w, wpart4 c w, wpart5 c w, wpart6 c w, wpart7 c w, wpart8 c w, wpart9 c w, wpart10 c w, wpart11 c w, wpart12 c w, wpart13 c w, wpart14 c w, wpart15 c w, wpart16 c w, word_equal]
theorem cells_zero (w : World) : (Op.equalIn 10000 28 (.agg (wl wz).toArray) (.agg #[.int .u64 0, .int .u64 0, .int .u64 0, .int .u64 0, .int .u64 0, .int .u64 0, .int .u64 0, .int .u64 0, .int .u64 0, .int .u64 0, .int .u64 0, .int .u64 0, .int .u64 0, .int .u64 0, .int .u64 0, .int .u64 0, .int .u64 0])).run Try.prog w = .ok true w := cells_equal wz w
theorem afield0 (c y : Int) (w : World) : (Instr.field 42 (.agg #[.int .i64 c, .int .i64 y]) 0).run Try.prog w = .ok (.int .i64 c) w := by kernel_rfl
theorem afield1 (c y : Int) (w : World) : (Instr.field 42 (.agg #[.int .i64 c, .int .i64 y]) 1).run Try.prog w = .ok (.int .i64 y) w := by kernel_rfl
end Go.Proofs.Ytgkgkiheoadbfaa.Tab
namespace Go.Proofs.Ytgkgkiheoadbfaa.Tab
set_option maxRecDepth 20000
open Go.RowKit
set_option linter.unusedVariables false

def cpw (d : Nat → Nat) (i : Nat) : Nat → Nat := fun j => if j < i then d j else 0
theorem cpw_zero (d : Nat → Nat) : wl (cpw d 0) = wl wz := wl_congr fun j _ => by simp [cpw, wz]
theorem cpw_all (d : Nat → Nat) : wl (cpw d 17) = wl d := wl_congr fun j hj => by unfold cpw; rw [if_pos hj]
theorem cpw_next (d : Nat → Nat) (i : Nat) : wl (upw (cpw d i) i (d i)) = wl (cpw d (i + 1)) := wl_congr fun j _ => by
  unfold upw cpw
  by_cases e : j = i
  · subst e; rw [if_pos rfl, if_pos (by omega)]
  · rw [if_neg e]
    by_cases h : j < i
    · rw [if_pos h, if_pos (by omega)]
    · rw [if_neg h, if_neg (by omega)]

set_option maxHeartbeats 2000000 in
theorem cellsOf_is {b o k : Nat} {d : Nat → Nat} {w : World} (h : Wf w b o d) :
    Calls Try.prog 9 #[.slice (some ⟨b, o, none⟩) 17 k] w fun e w' => e = .returned (.agg (wl d).toArray) ∧ Below w.heap.size w w' := by
  obtain ⟨nb, eb, hd⟩ := cells_array
  have HC : Hid _ := hd
  clear hd
  have HCS : Hid _ := cells_size
  have HCZ : Hid _ := cells_size2
  have hb := h.lt
  have S : Hid (Wf ((w.alloc (.cells (wl wz).toArray 28)).alloc (.cells (wl wz).toArray 28)) b o d) := (h.new _).new _
  have R : Hid (Bo ((w.alloc (.cells (wl wz).toArray 28)).alloc (.cells (wl wz).toArray 28)) w.heap.size (wl wz)) := (Bo.born w (wl wz) _ rfl).new _
  have T : Hid (Bo ((w.alloc (.cells (wl wz).toArray 28)).alloc (.cells (wl wz).toArray 28)) (w.heap.size + 1) (wl (cpw d 0))) := by rw [cpw_zero]; exact Bo.born _ (wl wz) _ (by simp)
  have G : Hid (Gd w.heap.size w ((w.alloc (.cells (wl wz).toArray 28)).alloc (.cells (wl wz).toArray 28))) := ((Gd.refl w).new _).new _
  have NX : Hid (∀ i, _) := fun i => cpw_next d i
  have AL : Hid _ := cpw_all d
  rw [wz_all] at S R T G
  clear h
  go_enter Try.func9, Try.ntmps9
  go_wp2_with fail
  generalize World.alloc _ _ = W at S R T G ⊢
  generalize hsz : w.heap.size = n at hb S R T G ⊢
  have HSZ : Hid (w.heap.size = n) := hsz
  clear hsz
  go_loopg [4] 17 (fun gg s4 wt => ∃ i : Nat, i ≤ 17 ∧ 17 - i ≤ gg ∧ s4 = .int .i64 i ∧ Hid (Wf wt b o d) ∧ Hid (Bo wt n (wl wz)) ∧ Hid (Bo wt (n + 1) (wl (cpw d i))) ∧ Hid (Gd n w wt))
  case atStart => exact ⟨0, by omega, by omega, rfl, S, R, T, G⟩
  case round =>
    clear S R T G
    obtain ⟨i, hi, hgg, rfl, S, R, T, G⟩ := hrel
    by_cases hlt : i < 17
    · have g0 := S.out.cell i hlt
      have c1 := T.out.word hlt
      have f1 := T.out.froz i
      have i1 : (i : Int) < 17 := by omega
      have i0 : (0 : Int) ≤ (i : Int) := by omega
      have NI : Hid _ := NX.out i
      have S1 : Hid (Wf (wr.setCell ⟨n + 1, i, none⟩ (.int .u64 (d i : Nat))) b o d) := S.out.aside (by simp; omega) _
      have R1 : Hid (Bo (wr.setCell ⟨n + 1, i, none⟩ (.int .u64 (d i : Nat))) n (wl wz)) := R.out.aside (by simp) _
      have T1 : Hid (Bo (wr.setCell ⟨n + 1, i, none⟩ (.int .u64 (d i : Nat))) (n + 1) (wl (cpw d (i + 1)))) := by rw [← NI.out]; exact T.out.setw _ hlt
      have G1 : Hid (Gd n w (wr.setCell ⟨n + 1, i, none⟩ (.int .u64 (d i : Nat)))) := G.out.aside (by simp) _
      clear S R T G NI
      generalize cpw d i i = z at c1
      go_wp2
      go_roundg (17 - (i + 1))
      case measure => omega
      case rel => exact ⟨i + 1, by omega, by omega, by go_num, S1, R1, T1, G1⟩
    · obtain rfl : i = 17 := by omega
      rw [AL.out] at T
      go_wp2_with (first
        | (refine wpList_load_mid rfl 28 _ rfl (n + 1) _ rfl (wl d) _ T.out.range HC.out rfl (HCS.out d) ?_)
        | (refine wpList_store_mid rfl 28 _ _ rfl n _ (wl d).toArray rfl rfl (R.out.thereW d) (HCZ.out d) (wl_all d) ?_
           have R1 : Hid (Bo (wr.setCells n 0 (wl d)) n (wl d)) := R.out.setW d
           have G1 : Hid (Gd n w (wr.setCells n 0 (wl d))) := G.out.asideL (by omega) _ _
           clear T R G S
           generalize wr.setCells n 0 (wl d) = V at R1 G1 ⊢))
      exact bodyPost_ret (results_row Try.results9 _ _ n (wl d) _ rfl R1.out.range HC.out rfl (HCS.out d)) rfl ⟨rfl, G1.out.2⟩
end Go.Proofs.Ytgkgkiheoadbfaa.Tab
namespace Go.Proofs.Ytgkgkiheoadbfaa
set_option maxRecDepth 20000
open Go.RowKit

theorem mk64 (w : World) : (Instr.makeSlice 34 (.int .i64 64) (.int .i64 64)).run Try.prog w = .ok (.slice (some ⟨w.heap.size, 0, none⟩) 64 64) (w.alloc (.cells z64 3)) :=
  run_make w 34 3 _ (.int .i64 0) Try.underlying34 rfl rfl .i64 .i64 64 64 (by decide) (by decide) (by decide) (by decide)

set_option maxHeartbeats 400000 in
theorem digits_any (x : Nat) (w : World) (hx : x < 18446744073709551616) :
    Calls Try.prog 20 #[.int .u64 x] w fun e w' => e = .returned (.slice (some ⟨w.heap.size, 0, none⟩) 64 64) ∧ Dg (bt x) w w' := by
  have hmk := mk64
  go_enter Try.func20, Try.ntmps20
  go_wp2
  clear hmk
  go_loopw [0, 8] (fun v i wr => ∃ k y : Nat, k ≤ 64 ∧ y < 18446744073709551616 ∧ Hid (y = x / 2 ^ k) ∧ v = .int .u64 y ∧ i = .int .i64 k ∧ Dg (fun j => if j < k then bt x j else 0) w wr)
    (fun _ i _ => 64 - (intOf i).toNat)
  case atStart => exact ⟨0, x, by omega, hx, (by simp [Hid]), rfl, rfl, by simpa using Dg.start w _⟩
  case round =>
    obtain ⟨k, y, hk, hy, HY, rfl, rfl, hd⟩ := hrel
    by_cases hlt : k < 64
    · have hc := hd.cell k hlt
      have hfz := hd.froz k
      simp only [Nat.lt_irrefl, if_false] at hc
      go_wp2
      go_roundw
      case rel =>
        have e1 : (y : Int) % 2 = ((bt x k : Nat) : Int) := by simp [bt, HY.out]
        refine ⟨k + 1, y / 2, by omega, by omega, ?_, by go_num, by go_num, ?_⟩
        · show y / 2 = _
          rw [HY.out, Nat.pow_succ, Nat.div_div_eq_div_mul]
        · rw [e1]; exact hd.set k (bt x k) hlt _ (fun i _ => by
            by_cases h1 : i = k
            · subst h1; simp
            · by_cases h2 : i < k
              · simp [h1, h2, Nat.lt_succ_of_lt h2]
              · simp [h1, h2, show ¬ i < k + 1 by omega])
      case measure => simp [intOf]; omega
    · go_wp2
      go_ret
      have : k = 64 := by omega
      subst this
      refine ⟨rfl, hd.gr, hd.size, fun i hi => ?_⟩
      have := hd.cell i hi
      simpa [hi] using this

set_option maxHeartbeats 400000 in
theorem number_any (b off n cap : Nat) (f : Nat → Nat) (w : World) (hn : n ≤ 64) (hf : ∀ i, f i < 2)
    (hc : ∀ i, i < n → w.cell? ⟨b, off + i, none⟩ = some (.int .i64 (f i : Nat))) :
    Calls Try.prog 56 #[.slice (some ⟨b, off, none⟩) n cap] w fun e w' => e = .returned (.int .u64 (tp f 0 n : Nat)) ∧ w' = w := by
  go_enter Try.func56, Try.ntmps56
  go_wp2
  go_loop [3, 4] (fun v i => ∃ (j : Int) (y : Nat), -1 ≤ j ∧ j < n ∧ Hid (y = tp f (j + 1).toNat (n - (j + 1).toNat)) ∧ v = .int .u64 y ∧ i = .int .i64 j)
    (fun _ i => (intOf i + 1).toNat)
  case atStart => exact ⟨(n : Int) - 1, 0, by omega, by omega, (by simp [Hid, tp]), rfl, rfl⟩
  case round =>
    obtain ⟨j, y, h1, h2, HY, rfl, rfl⟩ := hrel
    by_cases h0 : 0 ≤ j
    · obtain ⟨k, rfl⟩ := Int.eq_ofNat_of_zero_le h0
      have hk : k < n := by omega
      have hcell := hc k hk
      have hfk := hf k
      have hy : y < 9223372036854775808 := by
        have := tp_lt f hf (n - ((k : Int) + 1).toNat) ((k : Int) + 1).toNat
        rw [← HY.out] at this
        have : 2 ^ (n - ((k : Int) + 1).toNat) ≤ 2 ^ 63 := Nat.pow_le_pow_right (by decide) (by omega)
        omega
      clear hc
      go_wp2
      go_round
      case rel =>
        refine ⟨(k : Int) - 1, f k + 2 * y, by omega, by omega, ?_, by go_num, by go_num⟩
        show _ = _
        rw [HY.out, show ((k : Int) - 1 + 1).toNat = k by omega, show n - k = (n - ((k : Int) + 1).toNat) + 1 by omega, tp, show ((k : Int) + 1).toNat = k + 1 by omega]
      case measure => simp [intOf]
    · have e : j = -1 := by omega
      subst e
      go_wp2
      go_ret
      refine ⟨?_, rfl⟩
      rw [HY.out]; simp
end Go.Proofs.Ytgkgkiheoadbfaa
namespace Go.Proofs.Ytgkgkiheoadbfaa
set_option maxRecDepth 20000
open Go.RowKit

theorem bwithin_yes (a : Int) (w : World) (h0 : 0 ≤ a) (h1 : a ≤ 63) :
    Calls Try.prog 19 #[.int .i64 a, .int .i64 0, .int .i64 63] w fun e w' => e = .returned (.bool true) ∧ w' = w := by
  go_enter Try.func19, Try.ntmps19
  go_wp2
  go_ret
  exact ⟨rfl, rfl⟩

theorem bwithin_no (a : Int) (w : World) (h : a < 0 ∨ 63 < a) :
    Calls Try.prog 19 #[.int .i64 a, .int .i64 0, .int .i64 63] w fun e w' => e = .returned (.bool false) ∧ w' = w := by
  by_cases h1 : a < 0
  · have : ¬ 0 ≤ a := by omega
    clear h
    go_enter Try.func19, Try.ntmps19
    go_wp2
    go_ret
    exact ⟨rfl, rfl⟩
  · have h2 : 0 ≤ a := by omega
    have : ¬ a ≤ 63 := by omega
    clear h h1
    go_enter Try.func19, Try.ntmps19
    go_wp2
    go_ret
    exact ⟨rfl, rfl⟩

theorem refBit_no (x : Nat) (a : Int) (w : World) (h : a < 0 ∨ 63 < a) :
    Calls Try.prog 6 #[.int .u64 x, .int .i64 a] w fun e w' => e = .returned (.bool false) ∧ Gr w w' := by
  go_enter Try.func6, Try.ntmps6
  go_wp2_with (go_at_call 19; refine (bwithin_no _ _ h).mono ?_; rintro e w' ⟨rfl, rfl⟩)
  go_ret
  exact ⟨rfl, Gr.refl _⟩

theorem refBit_yes (x k : Nat) (w : World) (hx : x < 18446744073709551616) (hk : k < 64) :
    Calls Try.prog 6 #[.int .u64 x, .int .i64 k] w fun e w' => e = .returned (.bool (x.testBit k)) ∧ Gr w w' := by
  go_enter Try.func6, Try.ntmps6
  go_wp2_with fail
  refine (bwithin_yes _ _ (by omega) (by omega)).mono ?_
  rintro e w' ⟨rfl, rfl⟩
  go_wp2_with fail
  refine (digits_any x _ hx).mono ?_
  rintro e w1 ⟨rfl, hd⟩
  have hc := hd.cell k hk
  go_wp2
  go_ret
  refine ⟨ret_bool ?_, hd.gr⟩
  rw [bt_test]
  cases x.testBit k <;> rfl

end Go.Proofs.Ytgkgkiheoadbfaa
namespace Go.Proofs.Ytgkgkiheoadbfaa
set_option maxRecDepth 20000
open Go.ChangeShapes Go.WideShapes Go.ChangeAt Go.RowKit

theorem okWide_arr {P : Program} {w : World} {r : Reach} {base : Nat} {t e : TypeId} {n : Nat} {v : Value} (ht : P.underlying t = some (.array n e)) (h : Value.okWide P w r base t v) : ∃ cs, v = .agg cs ∧ cs.size = P.cellsOf t := by
  simp only [Value.okWide, ht] at h
  obtain ⟨cs, h1, h2, _⟩ := h
  exact ⟨cs, h1, h2⟩
theorem wf_u64 {x : Int} (h : (Lit.int .u64 x).wf = true) : 0 ≤ x ∧ x < 18446744073709551616 := by
  simp [Lit.wf, IntKind.min, IntKind.max] at h
  exact ⟨of_decide_eq_true h.1, by have := of_decide_eq_true h.2; simp [IntKind.signed, IntKind.bits] at this; omega⟩

theorem warr_of_trod {H : Type} {enc : TypeId × Value → H} {W : World} {r : Reach} {b0 n : Nat} {T : TypeId} {v : Value} {d : DataW H} {p : List MemPlace} (hu : Try.prog.underlying T = some (.array n 22)) (cn : Try.prog.cellsOf T = n) (hval : Value.okWide Try.prog W r b0 T v)
    (h : DataW.Trod enc Try.prog W 0 (fun _ => true) true T v d p) : ∃ c : Nat → Nat, v = .agg ((List.range n).map fun j => Value.int .u64 (c j : Nat)).toArray ∧ ∀ j, j < n → c j < 18446744073709551616 := by
  have ci : Try.prog.cellsOf 22 = 1 := by kernel_rfl
  obtain ⟨cs, rfl, hsz⟩ := okWide_arr hu hval
  rw [cn] at hsz
  obtain ⟨fuel, hf⟩ := h
  obtain ⟨xs, m, _, _, _, hxl, hx⟩ := DataW.trod_array hu hf
  rw [ci] at hx
  have key : ∀ i, i < n → ∃ k : Nat, cs[i]? = some (.int .u64 (k : Nat)) ∧ k < 18446744073709551616 := by
    intro i hi
    have h2 := hx i hi
    rw [List.getElem?_eq_getElem (by omega)] at h2
    obtain ⟨n0, e0, _, hw⟩ := DataW.trod_int Try.underlying22 h2
    obtain ⟨b1, b2⟩ := wf_u64 hw
    refine ⟨n0.toNat, ?_, by omega⟩
    have g : (Value.agg cs).cells.toList = cs.toList := rfl
    rw [g] at e0
    have := congrArg (·[0]?) e0
    simp [List.getElem?_drop] at this
    rw [this]; congr 2; omega
  obtain ⟨c, hc⟩ : ∃ c : Nat → Nat, ∀ i, i < n → cs[i]? = some (.int .u64 (c i : Nat)) ∧ c i < 18446744073709551616 := by
    refine ⟨fun i => if h : i < n then Classical.choose (key i h) else 0, fun i hi => ?_⟩
    simp only [hi, dif_pos]
    exact Classical.choose_spec (key i hi)
  refine ⟨c, ?_, fun j hj => (hc j hj).2⟩
  congr 1
  apply Array.ext'
  apply List.ext_getElem?
  intro j
  by_cases hj : j < n
  · have := (hc j hj).1
    simp [hj]
    simpa using this
  · rw [List.getElem?_eq_none (by simpa using (by omega : cs.size ≤ j)), List.getElem?_eq_none (by simpa using hj)]
theorem laid_outc : laidOutB Try.prog = true := by kernel_rfl
end Go.Proofs.Ytgkgkiheoadbfaa
namespace Go.Proofs.Ytgkgkiheoadbfaa
set_option maxRecDepth 20000
open Go.ChangeShapes Go.WideShapes Go.ChangeAt Go.RowKit

theorem record_of_trod {H : Type} {enc : TypeId × Value → H} {W : World} {r : Reach} {b0 : Nat} {v : Value} {d : DataW H} {p : List MemPlace} (hval : Value.okWide Try.prog W r b0 24 v)
    (h : DataW.Trod enc Try.prog W 0 (fun _ => true) true 24 v d p) : ∃ c : Nat → Nat, v = .agg (Tab.rl c).toArray ∧ ∀ j, j < 32 → c j < 18446744073709551616 :=
  warr_of_trod (n := 32) (by kernel_rfl) (by kernel_rfl) hval h
theorem record_stay {H : Type} {enc : TypeId × Value → H} {W W' : World} {sp : Nat → Bool} {v : Value} {d : DataW H} {p : List MemPlace}
    (h : DataW.Trod enc Try.prog W 0 (fun _ => true) true 24 v d p) (hb : Below W.heap.size W W') (hlt : ∀ x ∈ p, x.block < W.heap.size) (hs : ∀ x ∈ p, sp x.block = true) :
    DataW.Trod enc Try.prog W' 0 sp true 24 v d p :=
  WideElems.Trod_stays laid_outc (by kernel_rfl) (of_decide_eq_true (by kernel_rfl)) h (fun x hx => hb.same (hlt x hx)) hs
end Go.Proofs.Ytgkgkiheoadbfaa
