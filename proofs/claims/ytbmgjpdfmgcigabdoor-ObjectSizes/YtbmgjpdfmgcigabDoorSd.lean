/- Package stack's Do, by its contract. -/
import Derived.Test.YtbmgjpdfmgcigabDoorKf
namespace Go.Proofs.YtbmgjpdfmgcigabDoor
set_option maxRecDepth 20000
open Go.RowKit

/-- What an operation makes of a stack, and its answer: 6.1. -/
def sdo (xs : List Int) (what value : Int) : List Int × Int × Int :=
  if what = 2 ∧ xs ≠ [] then (xs.dropLast, 1, xs.getLastD 0) else if what = 5 ∧ xs ≠ [] then (xs, 1, xs.getLastD 0) else qdo xs what value
theorem sdo_take (r : List Int) (z x : Int) : sdo (r ++ [z]) 2 x = (r, 1, z) := by simp [sdo]
theorem sdo_peek (r : List Int) (z x : Int) : sdo (r ++ [z]) 5 x = (r ++ [z], 1, z) := by simp [sdo]
theorem sdo_nil (o x : Int) : sdo [] o x = qdo [] o x := by simp [sdo]
theorem sdo_other (xs : List Int) (o x : Int) (h2 : o ≠ 2) (h5 : o ≠ 5) : sdo xs o x = qdo xs o x := by simp [sdo, h2, h5]
theorem sdo_full {ys : List Int} (x : Int) (h : 6 ≤ ys.length) : sdo ys 1 x = (ys, 3, 0) := by simp [sdo, qdo, h]
theorem sdo_put {ys : List Int} (x : Int) (h : ys.length < 6) : sdo ys 1 x = (ys ++ [x], 1, 0) := by simp [sdo, qdo, show ¬ 6 ≤ ys.length by omega]
theorem sdo_count (ys : List Int) (x : Int) : sdo ys 6 x = (ys, 1, (ys.length : Int)) := by simp [sdo, qdo]
theorem sdo_looks (ys : List Int) : ∃ r c y, sdo ys 5 0 = (ys, c, y) ∧ sdo ys 2 0 = (r, c, y) := by
  rcases List.eq_nil_or_concat ys with rfl | ⟨r, z, rfl⟩
  · exact ⟨[], 2, 0, rfl, rfl⟩
  · exact ⟨r, 1, z, by rw [List.concat_eq_append]; exact sdo_peek r z 0, by rw [List.concat_eq_append]; exact sdo_take r z 0⟩

set_option maxHeartbeats 1000000 in
theorem sDo_else {B : Nat} {v : Value} {xs ys : List Int} {w : World} {o x c y : Int} (k : Int) (h : IsL B w v xs) (hx : xs.length ≤ 1000000) (ho : xs.length = 0 ∨ (o ≠ 2 ∧ o ≠ 5)) (hq : qdo xs o x = (ys, c, y)) :
    Calls Tryd.prog 37 #[v, .agg #[.int .i64 o, .int .i64 k, .int .i64 x]] w (Made w ys c y) := by
  have F0 : Hid (Fr w (two w o k x) o k x) := Fr.start w o k x
  obtain ⟨a, cp, rfl⟩ := h.form
  have X : Hid (IsL B (two w o k x) (.slice a xs.length cp) xs) := h.later F0.out.gr
  have Q : Hid (qdo xs o x = (ys, c, y)) := hq
  clear h hq
  rcases ho with h0 | ⟨n2, n5⟩
  · have H0 : Hid (xs.length ≤ 1000000) := hx
    rw [h0] at X ⊢
    clear h0 hx
    go_enter Tryd.func37, Tryd.ntmps37
    go_wp2_with fail
    refine (qDo_eq (w := two w o k x) k X.out H0.out Q.out).mono ?_
    rintro e w1 ⟨v1, rfl, hi, hb⟩
    rw [two_size] at hi hb
    have F1 : Hid (Fr w w1 o k x) := F0.out.later hb
    have I1 : Hid (IsL (w.heap.size + 2) w1 v1 ys) := hi
    clear hi hb F0 X Q
    have r0 := F1.out.r0
    have r1 := F1.out.r1
    have f0 := F1.out.f0
    have f1 := F1.out.f1
    go_wp2
    refine bodyPost_ret (v := .tuple #[v1, .agg #[.int .i64 c, .int .i64 y]]) ?_ rfl (F1.out.made c y I1.out)
    have E := F1.out.ends c y
    unfold wr at E
    simp [results, Tryd.results37, go_sem, E.1, E.2.1]
  · have m2 : (o != 2) = true := by simp [n2]
    have m5 : (o != 5) = true := by simp [n5]
    have hp : 0 ≤ (xs.length : Int) := by omega
    go_enter Tryd.func37, Tryd.ntmps37
    go_wp2_with fail
    all_goals
      refine (qDo_eq (w := two w o k x) k X.out hx Q.out).mono ?_
      rintro e w1 ⟨v1, rfl, hi, hb⟩
      rw [two_size] at hi hb
      have F1 : Hid (Fr w w1 o k x) := F0.out.later hb
      have I1 : Hid (IsL (w.heap.size + 2) w1 v1 ys) := hi
      clear hi hb F0 X Q
      have r0 := F1.out.r0
      have r1 := F1.out.r1
      have f0 := F1.out.f0
      have f1 := F1.out.f1
      go_wp2
      refine bodyPost_ret (v := .tuple #[v1, .agg #[.int .i64 c, .int .i64 y]]) ?_ rfl (F1.out.made c y I1.out)
      have E := F1.out.ends c y
      unfold wr at E
      simp [results, Tryd.results37, go_sem, E.1, E.2.1]

theorem Fr.made3 {w W : World} {o k x : Int} {v : Value} {ys : List Int} (h : Fr w W o k x) (c y : Int) (I : IsL (w.heap.size + 2) W v ys) : Made w ys c y (.returned (.tuple #[v, .agg #[.int .i64 c, .int .i64 y]])) (wr w W c y).drew :=
  ⟨v, rfl, (I.wr c y).later (Below.refl _ _).drew, (h.ends c y).2.2.drew⟩

set_option maxHeartbeats 1000000 in
theorem sDo_take {B : Nat} {v : Value} {r : List Int} {z : Int} {w : World} (k x : Int) (h : IsL B w v (r ++ [z])) (hx : (r ++ [z]).length ≤ 1000000) :
    Calls Tryd.prog 37 #[v, .agg #[.int .i64 2, .int .i64 k, .int .i64 x]] w (Made w r 1 z) := by
  have F0 : Hid (Fr w (two w 2 k x) 2 k x) := Fr.start w 2 k x
  have X : Hid (IsL B (two w 2 k x) v (r ++ [z])) := h.later F0.out.gr
  have HX : Hid ((r ++ [z]).length ≤ 1000000) := hx
  rcases h with ⟨h, _⟩ | ⟨b, off, c, rfl, hB, h0, hc, hcell, _⟩
  · simp at h
  have hz : w.cell? ⟨b, off + r.length, none⟩ = some (.int .i64 z) := by
    rw [hcell r.length (by simp)]
    simp [List.getD]
  have Z : Hid (w.cell? ⟨b, off + r.length, none⟩ = some (.int .i64 z)) := hz
  have hbl : b < w.heap.size := World.block_lt_of_cell? _ _ hz
  clear hz hcell
  have en : (r ++ [z]).length = r.length + 1 := by simp
  rw [en] at h0 hc hx X ⊢
  clear en
  obtain ⟨m, hm⟩ : ∃ m, m = r.length := ⟨_, rfl⟩
  have M : Hid (r.length = m) := hm.symm
  rw [← hm] at h0 hc hx X Z ⊢
  clear hm
  go_enter Tryd.func37, Tryd.ntmps37
  go_wp2_with fail
  refine (Clone_is (w := two w 2 k x) X.out HX.out).mono ?_
  rintro e w1 ⟨v1, rfl, hown, hb⟩
  rw [two_size] at hown hb
  have F1 : Hid (Fr w w1 2 k x) := F0.out.later hb
  obtain ⟨g, off1, c1, rfl, hc1, hcut⟩ := hown.isL.cut (by simp)
  have I0 : Hid (IsL (w.heap.size + 2) w1 (.slice (some ⟨g, off1, none⟩) (r.length + [z].length) c1) (r ++ [z])) := hown.isL
  have I1 : Hid (IsL (w.heap.size + 2) w1 (.slice (some ⟨g, off1, none⟩) r.length c1) r) := hcut
  have hz1 : w1.cell? ⟨b, off + m, none⟩ = some (.int .i64 z) := by
    have h1 : (two w 2 k x).cell? ⟨b, off + m, none⟩ = some (.int .i64 z) := by rw [F0.out.gr.cell (p := ⟨b, off + m, none⟩) hbl]; exact Z.out
    rw [hb.cell (p := ⟨b, off + m, none⟩) (show b < w.heap.size + 2 by omega)]
    exact h1
  have el : r.length + [z].length = m + 1 := by rw [M.out]; rfl
  rw [el] at hc1 I0 ⊢
  rw [M.out] at I1
  clear hown hcut hb F0 X Z el
  have hcm : (m : Int) ≤ (c1 : Int) := by omega
  have o0 := F1.out.o0
  have r0 := F1.out.r0
  have r1 := F1.out.r1
  have f0 := F1.out.f0
  have f1 := F1.out.f1
  go_wp2_with fail
  go_region
  all_goals go_wp2
  refine bodyPost_ret (v := .tuple #[.slice (some ⟨g, off1, none⟩) m c1, .agg #[.int .i64 1, .int .i64 z]]) ?_ rfl (F1.out.made3 1 z I1.out)
  have E := F1.out.ends 1 z
  unfold wr at E
  simp [results, Tryd.results37, go_sem, E.1, E.2.1]

set_option maxHeartbeats 1000000 in
theorem sDo_peek {B : Nat} {v : Value} {r : List Int} {z : Int} {w : World} (k x : Int) (h : IsL B w v (r ++ [z])) (hx : (r ++ [z]).length ≤ 1000000) :
    Calls Tryd.prog 37 #[v, .agg #[.int .i64 5, .int .i64 k, .int .i64 x]] w (Made w (r ++ [z]) 1 z) := by
  have F0 : Hid (Fr w (two w 5 k x) 5 k x) := Fr.start w 5 k x
  have X : Hid (IsL B (two w 5 k x) v (r ++ [z])) := h.later F0.out.gr
  have HX : Hid ((r ++ [z]).length ≤ 1000000) := hx
  rcases h with ⟨h, _⟩ | ⟨b, off, c, rfl, hB, h0, hc, hcell, _⟩
  · simp at h
  have hz : w.cell? ⟨b, off + r.length, none⟩ = some (.int .i64 z) := by
    rw [hcell r.length (by simp)]
    simp [List.getD]
  have Z : Hid (w.cell? ⟨b, off + r.length, none⟩ = some (.int .i64 z)) := hz
  have hbl : b < w.heap.size := World.block_lt_of_cell? _ _ hz
  clear hz hcell
  have en : (r ++ [z]).length = r.length + 1 := by simp
  rw [en] at h0 hc hx X ⊢
  clear en
  obtain ⟨m, hm⟩ : ∃ m, m = r.length := ⟨_, rfl⟩
  have M : Hid (r.length = m) := hm.symm
  rw [← hm] at h0 hc hx X Z ⊢
  clear hm
  go_enter Tryd.func37, Tryd.ntmps37
  go_wp2_with fail
  refine (Clone_is (w := two w 5 k x) X.out HX.out).mono ?_
  rintro e w1 ⟨v1, rfl, hown, hb⟩
  rw [two_size] at hown hb
  have F1 : Hid (Fr w w1 5 k x) := F0.out.later hb
  obtain ⟨g, off1, c1, rfl, hc1, hcut⟩ := hown.isL.cut (by simp)
  have I0 : Hid (IsL (w.heap.size + 2) w1 (.slice (some ⟨g, off1, none⟩) (r.length + [z].length) c1) (r ++ [z])) := hown.isL
  have I1 : Hid (IsL (w.heap.size + 2) w1 (.slice (some ⟨g, off1, none⟩) r.length c1) r) := hcut
  have hz1 : w1.cell? ⟨b, off + m, none⟩ = some (.int .i64 z) := by
    have h1 : (two w 5 k x).cell? ⟨b, off + m, none⟩ = some (.int .i64 z) := by rw [F0.out.gr.cell (p := ⟨b, off + m, none⟩) hbl]; exact Z.out
    rw [hb.cell (p := ⟨b, off + m, none⟩) (show b < w.heap.size + 2 by omega)]
    exact h1
  have el : r.length + [z].length = m + 1 := by rw [M.out]; rfl
  rw [el] at hc1 I0 ⊢
  rw [M.out] at I1
  clear hown hcut hb F0 X Z el
  have hcm : (m : Int) ≤ (c1 : Int) := by omega
  have o0 := F1.out.o0
  have r0 := F1.out.r0
  have r1 := F1.out.r1
  have f0 := F1.out.f0
  have f1 := F1.out.f1
  go_wp2_with fail
  go_region
  all_goals go_wp2
  refine bodyPost_ret (v := .tuple #[.slice (some ⟨g, off1, none⟩) (m + 1) c1, .agg #[.int .i64 1, .int .i64 z]]) ?_ rfl (F1.out.made3 1 z I0.out)
  have E := F1.out.ends 1 z
  unfold wr at E
  simp [results, Tryd.results37, go_sem, E.1, E.2.1]

theorem sDo_eq {B : Nat} {v : Value} {xs ys : List Int} {w : World} {o x c y : Int} (k : Int) (h : IsL B w v xs) (hx : xs.length ≤ 1000000) (hq : sdo xs o x = (ys, c, y)) :
    Calls Tryd.prog 37 #[v, .agg #[.int .i64 o, .int .i64 k, .int .i64 x]] w (Made w ys c y) := by
  rcases List.eq_nil_or_concat xs with rfl | ⟨r, z, rfl⟩
  · rw [sdo_nil] at hq
    exact sDo_else k h hx (Or.inl rfl) hq
  · rw [List.concat_eq_append] at h hx hq
    by_cases n2 : o = 2
    · subst n2
      rw [sdo_take] at hq
      simp only [Prod.mk.injEq] at hq
      obtain ⟨rfl, rfl, rfl⟩ := hq
      exact sDo_take k x h hx
    by_cases n5 : o = 5
    · subst n5
      rw [sdo_peek] at hq
      simp only [Prod.mk.injEq] at hq
      obtain ⟨rfl, rfl, rfl⟩ := hq
      exact sDo_peek k x h hx
    · rw [sdo_other _ _ _ n2 n5] at hq
      exact sDo_else k h hx (Or.inr ⟨n2, n5⟩) hq
end Go.Proofs.YtbmgjpdfmgcigabDoor
