/- The keepers' pick and lineNow, by their contracts. -/
import Derived.Test.YthgkmbimmelglabSt3
namespace Go.Proofs.Ythgkmbimmelglab
open Go.RowKit

theorem pick_num (a : Int) (n : Nat) (h0 : 0 < n) (h : n < 4611686018427387904) : ∃ r : Nat, r < n ∧ wrap64 ((IntKind.u64.wrap a).tmod (n : Int)) = (r : Int) := by
  have hw : 0 ≤ IntKind.u64.wrap a := wrap_u64_nonneg a
  rw [Int.tmod_eq_emod_of_nonneg hw]
  have h1 : 0 ≤ IntKind.u64.wrap a % (n : Int) := Int.emod_nonneg _ (by omega)
  have h2 : IntKind.u64.wrap a % (n : Int) < n := Int.emod_lt_of_pos _ (by omega)
  refine ⟨(IntKind.u64.wrap a % (n : Int)).toNat, by omega, ?_⟩
  rw [IntWalk.wrap64_in _ (by omega)]
  omega

/-- pick is a function of its arguments, and below n. -/
theorem pick_fun (a : Int) (n : Nat) (h0 : 0 < n) (h : n < 4611686018427387904) : ∃ r : Nat, r < n ∧ ∀ w : World,
    Calls Try.prog 11 #[.int .i64 a, .int .i64 n] w fun e w' => e = .returned (.int .i64 (r : Nat)) ∧ w' = w := by
  obtain ⟨r, hr, he⟩ := pick_num a n h0 h
  refine ⟨r, hr, fun w => ?_⟩
  have HE : Hid _ := he
  clear he
  go_enter Try.func11, Try.ntmps11
  go_wp2
  go_ret
  exact ⟨ret_int HE.out, rfl⟩

/-- The blocks of a line that is read word by word. -/
structure Ln (f : Nat → Int) (l k : Nat) (w wr : World) : Prop where
  gr : Gr w wr
  size : wr.heap.size = w.heap.size + 2
  cell : ∀ j, j < 8 → wr.cell? ⟨w.heap.size + 1, j, none⟩ = some (.int .u64 (if j < k then f (l * 8 + j) else 0))
  res : ∀ j, j < 8 → (wr.cell? ⟨w.heap.size, j, none⟩).isSome = true

theorem Ln.froz {f : Nat → Int} {l k : Nat} {w wr : World} (h : Ln f l k w wr) {n : Nat} (hn : w.heap.size ≤ n) (j : Nat) : wr.frozen? ⟨n, j, none⟩ = false :=
  (h.gr.froz _).trans (frozen_past w hn)
theorem Ln.set {f : Nat → Int} {l k : Nat} {w wr : World} (h : Ln f l k w wr) (hk : k < 8) : Ln f l (k + 1) w (wr.setCell ⟨w.heap.size + 1, k, none⟩ (.int .u64 (f (l * 8 + k)))) where
  gr := h.gr.setCell (Nat.le_succ _) _
  size := by simpa using h.size
  cell j hj := by
    by_cases e : j = k
    · subst e; rw [World.cell?_setCell_same _ _ _ (h.cell j hj)]; simp
    · rw [World.cell?_setCell_other, h.cell j hj]
      · by_cases e2 : j < k
        · simp [e2, show j < k + 1 by omega]
        · simp [e2, show ¬ j < k + 1 by omega]
      · intro h; injection h with h1 h2; exact e h2.symm
  res j hj := by
    rw [World.cell?_setCell_other]
    · exact h.res j hj
    · intro h; injection h with h1 h2; omega
theorem Ln.start (f : Nat → Int) (l : Nat) (w : World) (c : Array Value) (hc : c = (List.replicate 8 (Value.int .u64 0)).toArray) (t : TypeId) : Ln f l 0 w ((w.alloc (.cells c t)).alloc (.cells c t)) where
  gr := ((Gr.refl w).alloc _ _).alloc _ _
  size := by simp
  cell j hj := by
    have e : w.heap.size + 1 = (w.alloc (.cells c t)).heap.size := by simp
    rw [e, World.cell?_alloc_new, hc]
    simp only [List.getElem?_toArray, List.getElem?_replicate, hj, if_true, Nat.not_lt_zero, if_false]
  res j hj := by
    rw [World.cell?_alloc_lt _ _ _ (by simp), World.cell?_alloc_new, hc]
    simp [hj]
theorem Ln.row {f : Nat → Int} {l : Nat} {w wr : World} (h : Ln f l 8 w wr) : wr.rangeAt (w.heap.size + 1) 0 (row f (l * 8) 8) := fun j v hv => by
  have hj : j < 8 := by simpa using (List.getElem?_eq_some_iff.1 hv).1
  rw [row_at _ _ _ _ hj] at hv; cases hv
  rw [Nat.zero_add, h.cell j hj]; simp [hj]
theorem Ln.there {f : Nat → Int} {l k : Nat} {w wr : World} (h : Ln f l k w wr) (n : Nat) (hn : n = 8) : wr.there w.heap.size 0 n := fun j hj =>
  ⟨by rw [Nat.zero_add]; exact h.res j (by omega), h.froz (Nat.le_refl _) _⟩

theorem Load_at (z : Int) (a b : Nat) (s : St) (w : World) (hz : z = (a : Nat)) (ha : a < 72) (hs : StAt w b s) :
    Calls Try.prog 20 #[.pointer (some ⟨b, 0, none⟩), .int .i64 z] w fun e w' => e = .returned (.tuple #[.int .u64 (s.now a), .nilIface]) ∧ w' = w := by
  subst hz; exact Load_yes a b s w ha hs

set_option maxHeartbeats 400000 in
theorem lineNow_yes (l b : Nat) (s : St) (w : World) (hl : l < 9) (hs : StAt w b s) :
    Calls Try.prog 12 #[.pointer (some ⟨b, 0, none⟩), .int .i64 l] w fun e w' => e = .returned (.agg (row s.now (l * 8) 8).toArray) ∧ Gr w w' := by
  go_enter Try.func12, Try.ntmps12
  go_wp2
  go_loopw [6] (fun i wr => ∃ k : Nat, k ≤ 8 ∧ i = .int .i64 k ∧ Ln s.now l k w wr)
    (fun i _ => 8 - (intOf i).toNat)
  case atStart => exact ⟨0, by omega, rfl, Ln.start s.now l w _ rfl _⟩
  case round =>
    obtain ⟨k, hk, rfl, h1⟩ := hrel
    by_cases hlt : k < 8
    · have hc := h1.cell k hlt
      simp only [Nat.lt_irrefl, if_false] at hc
      have hf := h1.froz (n := w.heap.size + 1) (Nat.le_succ _) k
      go_wp2_with (go_at_call 20; refine (Load_at _ (l * 8 + k) b s _ (by omega) (by omega) (hs.gr h1.gr)).mono ?_; rintro e w2 ⟨rfl, hw⟩; rw [hw]; clear hw)
      go_roundw
      case rel => exact ⟨k + 1, by omega, by go_num, h1.set hlt⟩
      case measure => simp [intOf]; omega
    · obtain rfl : k = 8 := by omega
      clear hk hlt
      have R := h1.row
      have hd := line_desc
      have hi := line_size s.now (l * 8)
      have h8 := row_length s.now (l * 8) 8
      have HO := all_oneCell_toArray (row_one s.now (l * 8) 8)
      have TH := h1.there (row s.now (l * 8) 8).toArray.size (by simp)
      have G : Hid _ := Gr.setCells (a := w) (Nat.le_refl _) (row s.now (l * 8) 8) 0 h1.gr
      generalize hcs : row s.now (l * 8) 8 = cs at *
      have HC : Hid _ := hcs
      clear hcs
      have HI : (Try.prog.info? 29).map (·.size) = some cs.toArray.size := by rw [List.size_toArray]; exact hi
      have BK : Hid ((loadVar 29 ⟨w.heap.size, 0, none⟩).run Try.prog (wr.setCells w.heap.size 0 cs) = .ok (.agg cs.toArray) (wr.setCells w.heap.size 0 cs)) :=
        run_loadVar_mid _ _ 0 _ cs _ (World.rangeAt_setCells_same _ _ _ _ (by simpa using TH)) line_desc rfl hi
      have A1 : Hid _ := And.intro R (And.intro hi (And.intro TH (And.intro HI HO)))
      clear R hi TH HI HO h8 h1
      go_wp2_with (first
        | (refine wpList_load_mid rfl 29 _ rfl _ _ rfl cs _ A1.out.1 hd rfl A1.out.2.1 ?_)
        | (refine wpList_store_mid rfl 29 _ _ rfl _ _ cs.toArray rfl rfl A1.out.2.2.1 A1.out.2.2.2.1 A1.out.2.2.2.2 ?_))
      refine bodyPost_ret (v := .agg cs.toArray) ?_ rfl ⟨by rw [HC.out], G.out⟩
      simp [results, asAddr, BK.out]
end Go.Proofs.Ythgkmbimmelglab
