/- The library's Sort at lists of numbers, by its contract. -/
import Derived.Test.YtenkjkfnampkiabHd
namespace Go.Proofs.Ytenkjkfnampkiab
open Go.RowKit Go.Sort

theorem Row.holds {b off : Nat} {l : List Int} {w : World} (h : Row b off l w) : Holds (Value.int .i64) w b off l.toArray := by
  intro j hj
  have hj' : j < l.length := by simpa using hj
  refine ⟨?_, h.froz j hj'⟩
  rw [h.cell j hj']
  simp [gt, List.getD, hj']

theorem row_put {b off : Nat} {xs l : List Int} {w : World} (h : Row b off xs w) (n : Nat) (os : Array Obj) (hl : l.length = xs.length) (hb : b < w.heap.size) :
    Row b off l (Go.Sort.grow (putRow (Value.int .i64) (Go.Sort.ahead w n) b off l.toArray) os) ∧ w.grownBy (Go.Sort.grow (putRow (Value.int .i64) (Go.Sort.ahead w n) b off l.toArray) os) (some b) := by
  have hsz : (putRow (Value.int .i64) (Go.Sort.ahead w n) b off l.toArray).heap.size = w.heap.size := by simp [putRow, mapBlock, Go.Sort.ahead]
  have hblk : ∀ k, k < w.heap.size → (Go.Sort.grow (putRow (Value.int .i64) (Go.Sort.ahead w n) b off l.toArray) os).heap[k]? = (putRow (Value.int .i64) (Go.Sort.ahead w n) b off l.toArray).heap[k]? := by
    intro k hk
    simp only [Go.Sort.grow]
    rw [Array.getElem?_append_left (by rw [hsz]; exact hk)]
  refine ⟨⟨fun j hj => ?_, fun j hj => ?_⟩, ⟨rfl, rfl, rfl, ?_, fun k hk hne => ?_⟩⟩
  · rw [World.cell?_of_block (hblk b hb), cell?_putRow (Value.int .i64) (Go.Sort.ahead w n) b off xs.toArray l.toArray h.holds (by simp [hl]) j (by simpa using hj)]
    simp [gt, List.getD, hj]
  · rw [World.frozen?_of_block (hblk b hb), frozen?_putRow]
    exact h.froz j (by omega)
  · simp only [Go.Sort.grow, Array.size_append, hsz]; omega
  · rw [hblk k hk]
    have : b ≠ k := fun e => hne (by rw [e])
    simp [putRow, mapBlock, Go.Sort.ahead, Array.getElem?_modify, this]

theorem Sort_is {B : Nat} {v : Value} {xs : List Int} {u w : World} (k : IsL B u v xs) (h : IsL B w v xs) (hB : 0 < B) (hx : xs.length ≤ 1000000) :
    Calls Try.prog 11 #[v] w fun e w' => e = .returned (.tuple #[]) ∧ IsL B w' v (srt xs) ∧ ∃ row, (∀ n, row = some n → B ≤ n ∧ n < u.heap.size) ∧ w.grownBy w' row := by
  by_cases h0 : xs.length = 0
  · have : xs = [] := List.eq_nil_of_length_eq_zero h0
    subst this
    obtain ⟨a, c, rfl⟩ := h.form
    exact (sh_slices_Sort_int_none a c w).mono fun e w' ⟨he, hw⟩ => ⟨he, by rw [srt, List.mergeSort_nil]; exact IsL.nil _ _ _ _, none, fun n hn => (by cases hn), hw ▸ World.grownBy.refl _ _⟩
  · obtain ⟨b, off, c, rfl, hb, hbl, hc, hR⟩ := h.row hB (by omega)
    have hu : b < u.heap.size := World.block_lt_of_cell? _ _ (k.at (show 0 < xs.length by omega))
    refine (sh_slices_Sort_int b off c xs w hR.holds hbl (by omega)).mono fun e w' ⟨he, n, os, hw⟩ => ?_
    obtain ⟨h1, h2⟩ := row_put hR n os (srt_len xs) hbl
    have hw' : w' = Go.Sort.grow (putRow (Value.int .i64) (Go.Sort.ahead w n) b off (srt xs).toArray) os := hw
    rw [← hw'] at h1 h2
    refine ⟨he, ?_, some b, fun n hn => ?_, h2⟩
    · have := h1.isL (B := B) (c := c) hb (by rw [srt_len]; omega) (by rw [srt_len]; exact hc)
      rwa [srt_len] at this
    · injection hn with hn
      subst hn
      exact ⟨hb, hu⟩

theorem IsL.aside {B : Nat} {v : Value} {xs : List Int} {w w' : World} {row : Option Nat} (h : IsL B w v xs) (hg : w.grownBy w' row) (hn : ∀ n, row = some n → n < B) : IsL B w' v xs := by
  rcases h with h | ⟨b, off, c, h1, hb, h0, hc, hcell, hfz⟩
  · exact Or.inl h
  · have hl := World.block_lt_of_cell? _ _ (hcell 0 h0)
    have hk := hg.block b hl (fun e => by have := hn b e.symm; omega)
    refine Or.inr ⟨b, off, c, h1, hb, h0, hc, fun j hj => ?_, fun hB j hj => ?_⟩
    · rw [World.cell?_of_block hk]; exact hcell j hj
    · rw [World.frozen?_of_block hk]; exact hfz hB j hj

theorem Equal_quiet {B C : Nat} {u v : Value} {xs : List Int} {w : World} (h : IsL B w u xs) (k : IsL C w v xs) (hx : xs.length ≤ 1000000) :
    Calls Try.prog 12 #[u, v] w fun e w' => e = .returned (.bool true) ∧ ∃ m, w' = w.drewN m := by
  rcases h with ⟨rfl, a, c, rfl⟩ | ⟨b, off, c, rfl, _, h0, hc, hcell, _⟩
  · rcases k with ⟨_, a', c', rfl⟩ | ⟨b', off', c', _, _, h0', _⟩
    · exact (sh_slices_Equal_int_empty a a' c 0 c' w (by omega)).mono fun e w' ⟨he, hw⟩ => ⟨he, 0, hw⟩
    · simp at h0'
  · rcases k with ⟨rfl, _⟩ | ⟨b', off', c', rfl, _, _, hc', hcell', _⟩
    · simp at h0
    · refine (sh_slices_Equal_int b off xs.length c b' off' xs.length c' xs xs w (Nat.le_refl _) (Nat.le_refl _) (by omega) (by omega) hcell hcell').mono fun e w' ⟨he, q, hw⟩ => ⟨?_, q, hw⟩
      rw [he]; simp
end Go.Proofs.Ytenkjkfnampkiab
