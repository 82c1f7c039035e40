/- The reference's store: within, There, Bit, NewStore, Lands, Flush, by their contracts. -/
import Derived.Test.YthgkmbimmelglaaDoorRfMem
import Derived.Test.YthgkmbimmelglaaDoorLoc
import Derived.Test.YthgkmbimmelglaaDoorCopy
import Derived.Deep.RegionHeld3
import Derived.Carry
namespace Go.Proofs.YthgkmbimmelglaaDoor
open Go.RowKit

theorem within_yes (a lo hi : Int) (w : World) (h0 : lo ≤ a) (h1 : a ≤ hi) :
    Calls Tryd.prog 27 #[.int .i64 a, .int .i64 lo, .int .i64 hi] w fun e w' => e = .returned (.bool true) ∧ w' = w := by
  go_enter Tryd.func27, Tryd.ntmps27
  go_wp2
  go_ret
  exact ⟨rfl, rfl⟩

theorem within_no (a lo hi : Int) (w : World) (h : a < lo ∨ hi < a) :
    Calls Tryd.prog 27 #[.int .i64 a, .int .i64 lo, .int .i64 hi] w fun e w' => e = .returned (.bool false) ∧ w' = w := by
  by_cases h1 : a < lo
  · have : ¬ lo ≤ a := by omega
    clear h
    go_enter Tryd.func27, Tryd.ntmps27
    go_wp2
    go_ret
    exact ⟨rfl, rfl⟩
  · have h2 : lo ≤ a := by omega
    have : ¬ a ≤ hi := by omega
    clear h h1
    go_enter Tryd.func27, Tryd.ntmps27
    go_wp2
    go_ret
    exact ⟨rfl, rfl⟩

theorem There_yes (r a : Nat) (w : World) (ha : a < 72) :
    Calls Tryd.prog 8 #[.pointer (some ⟨r, 0, none⟩), .int .i64 a] w fun e w' => e = .returned (.bool true) ∧ w' = w := by
  go_enter Tryd.func8, Tryd.ntmps8
  go_wp2_with fail
  refine (within_yes _ _ _ _ (by omega) (by omega)).mono ?_
  rintro e ux ⟨rfl, hw⟩
  rw [hw]; clear hw ux
  go_wp2
  go_ret
  exact ⟨rfl, rfl⟩
theorem There_no (r : Nat) (a : Int) (w : World) (ha : a < 0 ∨ 72 ≤ a) :
    Calls Tryd.prog 8 #[.pointer (some ⟨r, 0, none⟩), .int .i64 a] w fun e w' => e = .returned (.bool false) ∧ w' = w := by
  go_enter Tryd.func8, Tryd.ntmps8
  go_wp2_with fail
  refine (within_no _ _ _ _ (by omega)).mono ?_
  rintro e ux ⟨rfl, hw⟩
  rw [hw]; clear hw ux
  go_wp2
  go_ret
  exact ⟨rfl, rfl⟩

set_option maxRecDepth 20000 in
theorem mk64 (w : World) : (Instr.makeSlice 79 (.int .i64 64) (.int .i64 64)).run Tryd.prog w = .ok (.slice (some ⟨w.heap.size, 0, none⟩) 64 64) (w.alloc (.cells z64 3)) :=
  run_make w 79 3 _ (.int .i64 0) Tryd.underlying79 rfl rfl .i64 .i64 64 64 (by decide) (by decide) (by decide) (by decide)

set_option maxHeartbeats 400000 in
theorem digits_any (x : Nat) (w : World) (hx : x < 18446744073709551616) :
    Calls Tryd.prog 35 #[.int .u64 x] w fun e w' => e = .returned (.slice (some ⟨w.heap.size, 0, none⟩) 64 64) ∧ Dg (bt x) w w' := by
  have hmk := mk64
  go_enter Tryd.func35, Tryd.ntmps35
  go_wp2
  clear hmk
  go_loopw [0, 8] (fun v i wr => ∃ k y : Nat, k ≤ 64 ∧ y < 18446744073709551616 ∧ Hid (y = x / 2 ^ k) ∧ v = .int .u64 y ∧ i = .int .i64 k ∧ Dg (fun j => if j < k then bt x j else 0) w wr)
    (fun _ i _ => 64 - (intOf i).toNat)
  case atStart => exact ⟨0, x, by omega, hx, (by simp [Hid]), rfl, rfl, by simpa using Dg.start w _⟩
  case round =>
    obtain ⟨k, y, hk, hy, HY, rfl, rfl, hd⟩ := hrel
    by_cases hlt : k < 64
    · have hc := hd.cell k hlt
      have hfz := hd.froz k
      simp only [Nat.lt_irrefl, if_false] at hc
      go_wp2
      go_roundw
      case rel =>
        have e1 : (y : Int) % 2 = ((bt x k : Nat) : Int) := by simp [bt, HY.out]
        refine ⟨k + 1, y / 2, by omega, by omega, ?_, by go_num, by go_num, ?_⟩
        · show y / 2 = _
          rw [HY.out, Nat.pow_succ, Nat.div_div_eq_div_mul]
        · rw [e1]; exact hd.set k (bt x k) hlt _ (fun i _ => by
            by_cases h1 : i = k
            · subst h1; simp
            · by_cases h2 : i < k
              · simp [h1, h2, Nat.lt_succ_of_lt h2]
              · simp [h1, h2, show ¬ i < k + 1 by omega])
      case measure => simp [intOf]; omega
    · go_wp2
      go_ret
      have : k = 64 := by omega
      subst this
      refine ⟨rfl, hd.gr, hd.size, fun i hi => ?_⟩
      have := hd.cell i hi
      simpa [hi] using this

theorem refBit_yes (x k : Nat) (w : World) (hx : x < 18446744073709551616) (hk : k < 64) :
    Calls Tryd.prog 32 #[.int .u64 x, .int .i64 k] w fun e w' => e = .returned (.bool (x.testBit k)) ∧ Gr w w' := by
  go_enter Tryd.func32, Tryd.ntmps32
  go_wp2_with fail
  refine (within_yes _ _ _ _ (by omega) (by omega)).mono ?_
  rintro e w' ⟨rfl, rfl⟩
  go_wp2_with fail
  refine (digits_any x _ hx).mono ?_
  rintro e w1 ⟨rfl, hd⟩
  have hc := hd.cell k hk
  go_wp2
  go_ret
  refine ⟨ret_bool ?_, hd.gr⟩
  rw [bt_test]
  cases x.testBit k <;> rfl

/-! A new one. -/
def zrf (m : Nat) : Array Value := ((List.range 147).map (St.zero.rat m)).toArray
def nrf : Array Value := ((List.range 147).map fun j => if j = 144 then .map none else St.zero.rat 0 j).toArray
theorem nrf_size : nrf.size = 147 := by simp [nrf]
theorem nrf_ne : ¬ nrf = #[] := fun h => by have := nrf_size; rw [h] at this; simp at this
theorem zero_ref (w : World) : (zeroValue 33).run Tryd.prog w = .ok (.agg nrf) w := by
  have h : (Tryd.prog.info? 33).map (·.zero) = some (some (.agg nrf)) := by kernel_rfl
  cases hi : Tryd.prog.info? 33 with
  | none => simp [hi] at h
  | some i =>
    have hz : i.zero = some (.agg nrf) := by simpa [hi] using h
    simp [zeroValue, typeInfo, hi, hz]

theorem Gr.allocMap {a b : World} (h : Gr a b) (es : Array MapEntry) (c : Nat) : Gr a (b.alloc (.map es c)) :=
  ⟨h.below.alloc h.below.size _, fun x => (frozen?_alloc_map _ _ _ x).trans (h.froz x)⟩
theorem Wants.none {w : World} {m c : Nat} (h : w.heap[m]? = some (.map #[] c)) : Wants w m (fun _ => false) :=
  ⟨#[], c, [], h, ⟨rfl, by simp⟩, by simp, fun t l _ _ => by simp⟩
theorem heap_alloc_new (w : World) (o : Obj) : (w.alloc o).heap[w.heap.size]? = some o := by
  show (w.heap.push o)[w.heap.size]? = some o
  simp
theorem RfAt.born (w : World) (t : TypeId) : RfAt ((w.alloc (.map #[] 0)).alloc (.cells (nrf.setIfInBounds 144 (.map (some w.heap.size))) t)) (w.heap.size + 1) w.heap.size St.zero where
  cell j hj := by
    have e : w.heap.size + 1 = (w.alloc (.map #[] 0)).heap.size := by simp
    rw [e, World.cell?_alloc_new]
    by_cases h : j = 144
    · subst h; simp [nrf_size, St.rat]
    · have h' : ¬ 144 = j := fun e => h e.symm
      have hn : nrf[j]? = some (St.zero.rat 0 j) := by simp [nrf, hj, h]
      rw [Array.getElem?_setIfInBounds_ne h', hn]
      unfold St.rat
      by_cases k1 : j < 72
      · simp [k1]
      · by_cases k2 : j < 144
        · simp [k1, k2]
        · simp [k1, k2, h]
  froz j := by
    have e : w.heap.size + 1 = (w.alloc (.map #[] 0)).heap.size := by simp
    rw [frozen?_alloc_cells, e]; exact frozen_past _ (Nat.le_refl _)
  wants := by
    refine Wants.none (c := 0) ?_
    rw [Below.heap_alloc _ _ _ (by simp)]
    exact heap_alloc_new w _

theorem NewStore_any (w : World) :
    Calls Tryd.prog 19 #[] w fun e w' => ∃ r m, e = .returned (.pointer (some ⟨r, 0, none⟩)) ∧ w.heap.size ≤ r ∧ w.heap.size ≤ m ∧ RfAt w' r m St.zero ∧ Gr w w' := by
  have hz := zero_ref
  have hs := nrf_size
  have hn := nrf_ne
  have hm := @run_makeMap Tryd.prog
  go_enter Tryd.func19, Tryd.ntmps19
  go_wp2
  go_ret
  exact ⟨_, _, rfl, Nat.le_succ _, Nat.le_refl _, RfAt.born w _, ((Gr.refl w).allocMap _ _).alloc _ _⟩

/-! Lands. -/
def St.landsTo (s : St) (l k : Nat) : St := { s with good := fun i => if i < k ∧ i / 8 = l then s.now i else s.good i }
theorem St.landsTo_zero (s : St) (l : Nat) : s.landsTo l 0 = s := by simp [St.landsTo]
theorem St.landsTo_no (s : St) (l k : Nat) (h : ¬ k / 8 = l) : s.landsTo l k = s.landsTo l (k + 1) := by
  simp only [St.landsTo, St.mk.injEq, true_and, and_true]
  funext i
  by_cases e : i = k
  · subst e; simp [h]
  · by_cases e2 : i < k
    · simp [e2, show i < k + 1 by omega]
    · simp [e2, show ¬ i < k + 1 by omega]
theorem St.landsTo_yes (s : St) (l k m : Nat) (hk : k < 72) (h : k / 8 = l) (j : Nat) (_ : j < 147) : (s.landsTo l (k + 1)).rat m j = if j = 72 + k then .int .u64 (s.now k) else (s.landsTo l k).rat m j := by
  unfold St.rat St.landsTo
  by_cases k1 : j < 72
  · simp [k1, show ¬ j = 72 + k by omega]
  · by_cases k2 : j < 144
    · by_cases e : j = 72 + k
      · subst e; simp [show ¬ 72 + k < 72 by omega, show 72 + k < 144 by omega, h]
      · have e3 : ¬ j - 72 = k := by omega
        by_cases e2 : j - 72 < k
        · simp [k1, k2, e, e2, show j - 72 < k + 1 by omega]
        · simp [k1, k2, e, e2, show ¬ j - 72 < k + 1 by omega]
    · simp [k1, k2, show ¬ j = 72 + k by omega]

set_option maxHeartbeats 1000000 in
theorem Lands_any (l r m : Nat) (s : St) (w : World) (hs : RfAt w r m s) :
    Calls Tryd.prog 24 #[.pointer (some ⟨r, 0, none⟩), .int .i64 l] w fun e w' => e = .returned (.tuple #[]) ∧ RfAt w' r m (s.stay l) ∧ Only r w w' := by
  go_enter Tryd.func24, Tryd.ntmps24
  go_wp2
  go_loopw [5] (fun i wr => ∃ k : Nat, k ≤ 72 ∧ i = .int .i64 k ∧ RfAt wr r m (s.landsTo l k) ∧ Only r w wr)
    (fun i _ => 72 - (intOf i).toNat)
  case atStart => exact ⟨0, by omega, rfl, by rw [St.landsTo_zero]; exact hs, Only.refl _ _⟩
  case round =>
    obtain ⟨k, hk, rfl, h1, o1⟩ := hrel
    by_cases hlt : k < 72
    · by_cases hq : k / 8 = l
      · have hq' : (k : Int) / 8 = (l : Int) := by omega
        have h0 : (0 : Int) ≤ (k : Int) := by omega
        have h9 : (k : Int) < 72 := by omega
        have c := h1.nowc hlt
        have cg := h1.goodc hlt
        have hf := h1.froz (72 + k)
        have SN : (s.landsTo l k).now k = s.now k := rfl
        rw [SN] at c
        have E : Hid _ := h1.drew.setCell (72 + k) _ (by omega) _ (s.landsTo_yes l k m hlt hq) rfl
        have O : Hid (Only r w (wr.drew.setCell ⟨r, 72 + k, none⟩ (.int .u64 (s.now k)))) := o1.drew.setCell _ _
        clear h1 o1 SN hq
        go_wp2_with fail
        go_region
        go_wp2
        go_roundw
        case rel => exact ⟨k + 1, by omega, by go_num, E.out, O.out⟩
        case measure => simp [intOf]; omega
      · have hq' : ¬ ((k : Int) / 8 = (l : Int)) := by omega
        have N : Hid _ := s.landsTo_no l k hq
        clear hq
        go_wp2
        go_roundw
        case rel => exact ⟨k + 1, by omega, by go_num, by rw [← N.out]; exact h1, o1⟩
        case measure => simp [intOf]; omega
    · obtain rfl : k = 72 := by omega
      go_wp2
      go_end0
      exact ⟨rfl, h1.congr (fun _ _ => rfl) (fun i hi => by simp [St.stay, St.landsTo, hi]) (fun _ _ => rfl) rfl rfl, o1⟩
end Go.Proofs.YthgkmbimmelglaaDoor
