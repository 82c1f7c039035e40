/- The reference's Thing.Cells, by its contract: a list. -/
import Derived.Test.YtbmgjpdfmgcigabDoorTc6
namespace Go.Proofs.YtbmgjpdfmgcigabDoor.Tab
set_option maxRecDepth 20000
open Go.RowKit
set_option linter.unusedVariables false

def lwq (l : List Int) (i : Nat) : Nat → Nat := fun j => if j = 0 then l.length else if j ≤ i then (l.getD (j - 1) 0).toNat else 0
theorem lwq_next (l : List Int) (i : Nat) : wl (upw (lwq l i) (1 + i) (l.getD i 0).toNat) = wl (lwq l (i + 1)) := by
  refine wl_congr fun j _ => ?_
  unfold upw lwq
  by_cases e : j = 1 + i
  · subst e
    rw [if_pos rfl, if_neg (by omega), if_pos (by omega), show 1 + i - 1 = i by omega]
  · rw [if_neg e]
    by_cases e0 : j = 0
    · rw [if_pos e0, if_pos e0]
    · rw [if_neg e0, if_neg e0]
      by_cases e1 : j ≤ i
      · rw [if_pos e1, if_pos (by omega)]
      · rw [if_neg e1, if_neg (by omega)]
theorem lwq_all (l : List Int) : wl (lwq l l.length) = wl (lw l) := by
  refine wl_congr fun j _ => ?_
  unfold lwq lw
  by_cases e0 : j = 0
  · rw [if_pos e0, if_pos e0]
  · rw [if_neg e0, if_neg e0]
    by_cases e1 : j ≤ l.length
    · rw [if_pos e1]
    · rw [if_neg e1, List.getD_eq_getElem?_getD, List.getElem?_eq_none (by omega)]; rfl
theorem lwq_zero (l : List Int) : wl (lwq l 0) = (wl wz).set 0 (.int .u64 (l.length : Nat)) := by
  rw [wl_set wz l.length (by decide)]
  refine wl_congr fun j _ => ?_
  unfold lwq upw wz
  by_cases e0 : j = 0
  · rw [if_pos e0, if_pos e0]
  · rw [if_neg e0, if_neg e0, if_neg (by omega)]

set_option maxHeartbeats 2000000 in
theorem Cells_list {B : Nat} {k : Int} (k5 : k ≠ 5) (k6 : k ≠ 6) {v : Value} {l : List Int} (t : Tb) (x : Int) {w : World} (h : IsL B w v l) (h6 : l.length ≤ 6) (hv : ∀ x ∈ l, 0 ≤ x ∧ x ≤ 4294967295) :
    Calls Tryd.prog 11 #[.agg (tg k v t x).toArray] w fun e w' => Wd w.heap.size e w' (lw l) ∧ Below w.heap.size w w' := by
  obtain ⟨a, c, rfl⟩ := h.form
  have HL : Hid (∀ i, i < l.length → ∃ b off, a = some ⟨b, off, none⟩ ∧ (∀ W, Below w.heap.size w W → W.cell? ⟨b, off + i, none⟩ = some (.int .i64 ((l.getD i 0).toNat : Nat)))) := fun i hi => by
    rcases h with ⟨rfl, _⟩ | ⟨b, off, c, h1, hB, h0, hc, hcell, _⟩
    · simp at hi
    · injection h1 with h1 _ _
      refine ⟨b, off, h1, fun W hW => ?_⟩
      have hx := hv (l.getD i 0) (by rw [List.getD_eq_getElem?_getD, List.getElem?_eq_getElem hi]; exact List.getElem_mem hi)
      rw [hW.cell (p := ⟨b, off + i, none⟩) (World.block_lt_of_cell? _ _ (hcell i hi)), hcell i hi]
      congr 2; omega
  have HX : Hid (∀ i, i < l.length → (l.getD i 0).toNat ≤ 4294967295) := fun i hi => by
    have hx := hv (l.getD i 0) (by rw [List.getD_eq_getElem?_getD, List.getElem?_eq_getElem hi]; exact List.getElem_mem hi)
    omega
  clear hv h
  have LZ : Hid _ := lwq_zero l
  obtain ⟨N, hN⟩ : ∃ N, l.length = N := ⟨_, rfl⟩
  have HN : Hid (l.length = N) := hN
  have m5 : (k == 5) = false := by simp [k5]
  have m6 : (k == 6) = false := by simp [k6]
  rw [hN] at HL HX LZ h6 ⊢
  clear k5 k6 hN
  have mk := mk17b w (.cells (tg k (.slice a N c) t x).toArray 33)
  have S0 : Hid (Bo ((w.alloc (.cells (tg k (.slice a N c) t x).toArray 33)).alloc (.cells (wl wz).toArray 22)) w.heap.size (tg k (.slice a N c) t x)) := (Bo.born w (tg k (.slice a N c) t x) _ rfl).new _
  have T0 : Hid (Bo ((w.alloc (.cells (tg k (.slice a N c) t x).toArray 33)).alloc (.cells (wl wz).toArray 22)) (w.heap.size + 1) (wl wz)) := Bo.born _ (wl wz) _ (by simp)
  have S1 : Hid (Bo ((w.alloc (.cells (tg k (.slice a N c) t x).toArray 33)).alloc (.cells ((wl wz).set 0 (.int .u64 N)).toArray 22)) w.heap.size (tg k (.slice a N c) t x)) := (Bo.born w (tg k (.slice a N c) t x) _ rfl).new _
  have T1 : Hid (Bo ((w.alloc (.cells (tg k (.slice a N c) t x).toArray 33)).alloc (.cells ((wl wz).set 0 (.int .u64 N)).toArray 22)) (w.heap.size + 1) (wl (lwq l 0))) := by
    rw [LZ.out]; exact Bo.born _ _ _ (by simp)
  have G1 : Hid (Gd w.heap.size w ((w.alloc (.cells (tg k (.slice a N c) t x).toArray 33)).alloc (.cells ((wl wz).set 0 (.int .u64 N)).toArray 22))) := ((Gd.refl w).new _).new _
  have c0 := S0.out.tcell.1
  have c1 := S0.out.tcell.2.1
  have c2 := S1.out.tcell.2.1
  have d0 := T0.out.word (show 0 < 17 by decide)
  have d1 := T0.out.froz 0
  have ew : IntKind.u64.wrap (N : Int) = N := by rw [IntKind.wrap_u64]; omega
  go_enter Tryd.func11, Tryd.ntmps11
  go_wp2_with fail
  clear c0 c1 c2 d0 d1 S0 T0 mk
  generalize (w.alloc (.cells (tg k (.slice a N c) t x).toArray 33)).alloc (.cells ((wl wz).set 0 (.int .u64 N)).toArray 22) = W at S1 T1 G1 ⊢
  generalize hsz : w.heap.size = n at S1 T1 G1 ⊢
  have HSZ : Hid (w.heap.size = n) := hsz
  clear hsz
  go_loopg [20] N (fun gg s20 wt => ∃ i : Nat, i ≤ N ∧ N - i ≤ gg ∧ s20 = .int .i64 i ∧ Hid (Bo wt (n + 1) (wl (lwq l i))) ∧ Hid (Bo wt n (tg k (.slice a N c) t x)) ∧ Hid (Gd n w wt))
  case atStart => exact ⟨0, by omega, by omega, rfl, T1, S1, G1⟩
  case round =>
    clear T1 S1 G1
    obtain ⟨i, hi, hgg, rfl, T, S, G⟩ := hrel
    by_cases hlt : i < N
    · obtain ⟨b, off, rfl, hc⟩ := HL.out i hlt
      have c0 := hc wr G.out.2
      have NX : Hid _ := lwq_next l i
      have e1 := T.out.word (show 1 + i < 17 by omega)
      have f1 := T.out.froz (1 + i)
      have j1 : (i : Int) + 1 < 17 := by omega
      have j0 : (0 : Int) ≤ (i : Int) + 1 := by omega
      have i1 : (i : Int) < (N : Int) := by omega
      have i0 : (0 : Int) ≤ (i : Int) := by omega
      have T1 : Hid (Bo (wr.setCell ⟨n + 1, 1 + i, none⟩ (.int .u64 ((l.getD i 0).toNat : Nat))) (n + 1) (wl (lwq l (i + 1)))) := by
        rw [← NX.out]; exact T.out.setw _ (by omega)
      have S1 : Hid (Bo (wr.setCell ⟨n + 1, 1 + i, none⟩ (.int .u64 ((l.getD i 0).toNat : Nat))) n (tg k (.slice (some ⟨b, off, none⟩) N c) t x)) := S.out.aside (by simp) _
      have G1 : Hid (Gd n w (wr.setCell ⟨n + 1, 1 + i, none⟩ (.int .u64 ((l.getD i 0).toNat : Nat)))) := G.out.aside (by simp) _
      have hx : (l.getD i 0).toNat ≤ 4294967295 := HX.out i hlt
      rw [Nat.add_comm 1 i] at e1 f1 T1 S1 G1
      clear hc NX T S G
      generalize lwq l i (i + 1) = z at e1
      generalize (l.getD i 0).toNat = y at c0 T1 S1 G1 hx
      have ew2 : IntKind.u64.wrap (y : Int) = y := by rw [IntKind.wrap_u64]; omega
      go_wp2
      go_roundg (N - (i + 1))
      case measure => omega
      case rel => exact ⟨i + 1, by omega, by omega, by go_num, T1, S1, G1⟩
    · have ei : i = N := by omega
      have LA := lwq_all l
      rw [HN.out, ← ei] at LA
      rw [LA] at T
      clear LA
      go_wp2
      go_ret
      exact ⟨⟨n + 1, rfl, by have := HSZ.out; omega, T.out⟩, G.out.2⟩
end Go.Proofs.YtbmgjpdfmgcigabDoor.Tab
