/- The library's Reverse at lists of numbers, by its contract; what a deque does, turned round. -/
import Derived.Test.YtdheglnbdokjcaaDl
namespace Go.Proofs.Ytdheglnbdokjcaa
open Go.RowKit Go.Sort

theorem Reverse_core {w : World} {b off c : Nat} {xs : List Int} (hcell : ∀ j, j < xs.length → w.cell? ⟨b, off + j, none⟩ = some (.int .i64 (xs.getD j 0))) (hfz : ∀ j, j < xs.length → w.frozen? ⟨b, off + j, none⟩ = false) (hx : xs.length ≤ 1000000) :
    Calls Try.prog 15 #[.slice (some ⟨b, off, none⟩) xs.length c] w fun e w' => e = .returned (.tuple #[]) ∧
      (∀ j, j < xs.length → w'.cell? ⟨b, off + j, none⟩ = some (.int .i64 (xs.reverse.getD j 0))) ∧ (∀ j, j < xs.length → w'.frozen? ⟨b, off + j, none⟩ = false) ∧ w.grownBy w' (some b) := by
  have hH : Holds (Value.int .i64) w b off xs.toArray := by
    intro j hj
    have hj' : j < xs.length := by simpa using hj
    refine ⟨?_, hfz j hj'⟩
    rw [hcell j hj']
    simp [List.getD, hj']
  refine (sh_slices_Reverse_int b off c xs w hH (by omega)).mono fun e w' ⟨he, n, hw⟩ => ⟨he, fun j hj => ?_, fun j hj => ?_, ?_⟩
  · rw [hw, cell?_putRow (Value.int .i64) (Sort.ahead w n) b off xs.toArray xs.reverse.toArray hH (by simp) j (by simpa using hj)]
    simp [List.getD, hj]
  · rw [hw, frozen?_putRow]
    exact hfz j hj
  · rw [hw]
    refine ⟨rfl, rfl, rfl, by simp [Sort.ahead], fun k hk hne => ?_⟩
    have : b ≠ k := fun e => hne (by rw [e])
    simp [putRow, mapBlock, Sort.ahead, Array.getElem?_modify, this]

theorem grown_same (w : World) : w.grownBy w none := ⟨rfl, rfl, rfl, Nat.le_refl _, fun _ _ _ => rfl⟩

theorem Reverse_is {B : Nat} {v : Value} {xs : List Int} {u w : World} (k : IsL B u v xs) (h : IsL B w v xs) (hB : 0 < B) (hx : xs.length ≤ 1000000) :
    Calls Try.prog 15 #[v] w fun e w' => e = .returned (.tuple #[]) ∧ IsL B w' v xs.reverse ∧ ∃ row, (∀ n, row = some n → B ≤ n ∧ n < u.heap.size) ∧ w.grownBy w' row := by
  rcases h with ⟨rfl, a, c, rfl⟩ | ⟨b, off, c, rfl, hb, h0, hc, hcell, hfz⟩
  · exact (sh_slices_Reverse_int_empty a c w).mono fun e w' ⟨he, hw⟩ => ⟨he, IsL.nil _ _ _ _, none, fun n hn => (by cases hn), hw ▸ grown_same w⟩
  · have hu : b < u.heap.size := by
      have := k.at h0
      exact World.block_lt_of_cell? _ _ this
    refine (Reverse_core hcell (hfz hB) hx).mono fun e w' ⟨he, h1, h2, h3⟩ => ⟨he, Or.inr ⟨b, off, c, by rw [List.length_reverse], hb, by rw [List.length_reverse]; exact h0, by rw [List.length_reverse]; exact hc, fun j hj => h1 j (by rwa [List.length_reverse] at hj), fun _ j hj => h2 j (by rwa [List.length_reverse] at hj)⟩, some b, fun n hn => ?_, h3⟩
    injection hn with hn
    subst hn
    exact ⟨hb, hu⟩

theorem Reverse_own {B : Nat} {v : Value} {xs : List Int} {w : World} (h : Own B w v xs) (hB : B ≤ w.heap.size) (hx : xs.length ≤ 1000000) :
    Calls Try.prog 15 #[v] w fun e w' => e = .returned (.tuple #[]) ∧ IsL 0 w' v xs.reverse ∧ Below B w w' := by
  have hI := h.isL
  have hlt := h.lt
  rcases hI with ⟨rfl, a, c, rfl⟩ | ⟨b, off, c, rfl, hb, h0, hc, hcell, _⟩
  · exact (sh_slices_Reverse_int_empty a c w).mono fun e w' ⟨he, hw⟩ => ⟨he, IsL.nil _ _ _ _, hw ▸ Below.refl _ _⟩
  · have hfz : ∀ j, j < xs.length → w.frozen? ⟨b, off + j, none⟩ = false := by
      rcases h.2 with ⟨h, _⟩ | ⟨g, cap, cur, he, _⟩
      · cases h
      · injection he with he _ hc
        injection he with he
        injection he with e1 e2
        subst e1 e2 hc
        exact fun j _ => World.ownsRow.frozenAt h _
    refine (Reverse_core hcell hfz hx).mono fun e w' ⟨he, h1, h2, h3⟩ => ⟨he, Or.inr ⟨b, off, c, by rw [List.length_reverse], Nat.zero_le _, by rw [List.length_reverse]; exact h0, by rw [List.length_reverse]; exact hc, fun j hj => h1 j (by rwa [List.length_reverse] at hj), fun _ j hj => h2 j (by rwa [List.length_reverse] at hj)⟩, (Below.refl _ w).grown h3 hB (fun k hk => ?_)⟩
    injection hk with hk
    subst hk
    exact hb

theorem Bx.aside {n : Nat} {c y : Int} {w w' : World} {row : Option Nat} (h : Bx n c y w) (hg : w.grownBy w' row) (hn : some n ≠ row) : Bx n c y w' where
  lt := Nat.lt_of_lt_of_le h.lt hg.size
  c0 := by rw [World.cell?_of_block (hg.block n h.lt hn)]; exact h.c0
  c1 := by rw [World.cell?_of_block (hg.block n h.lt hn)]; exact h.c1
  f0 := by rw [World.frozen?_of_block (hg.block n h.lt hn)]; exact h.f0
  f1 := by rw [World.frozen?_of_block (hg.block n h.lt hn)]; exact h.f1

theorem turn13 {ys zs : List Int} {x c y : Int} (h : ddo ys 1 x = (zs, c, y)) : ddo ys.reverse 3 x = (zs.reverse, c, y) := by
  by_cases h6 : 6 ≤ ys.length
  · rw [ddo_full x h6] at h
    rw [ddo_ffull x (by simpa using h6)]
    simp only [Prod.mk.injEq] at h ⊢
    obtain ⟨rfl, rfl, rfl⟩ := h
    simp
  · rw [ddo_put x (by omega)] at h
    rw [ddo_front x (by simp; omega)]
    simp only [Prod.mk.injEq] at h ⊢
    obtain ⟨rfl, rfl, rfl⟩ := h
    simp
theorem turn31 {ys zs : List Int} {x c y : Int} (h : ddo ys 3 x = (zs, c, y)) : ddo ys.reverse 1 x = (zs.reverse, c, y) := by
  by_cases h6 : 6 ≤ ys.length
  · rw [ddo_ffull x h6] at h
    rw [ddo_full x (by simpa using h6)]
    simp only [Prod.mk.injEq] at h ⊢
    obtain ⟨rfl, rfl, rfl⟩ := h
    simp
  · rw [ddo_front x (by omega)] at h
    rw [ddo_put x (by simp; omega)]
    simp only [Prod.mk.injEq] at h ⊢
    obtain ⟨rfl, rfl, rfl⟩ := h
    simp
theorem turn24 {ys zs : List Int} {x c y : Int} (h : ddo ys 2 x = (zs, c, y)) : ddo ys.reverse 4 x = (zs.reverse, c, y) := by
  cases ys with
  | nil =>
    rw [show ddo [] 2 x = ([], 2, 0) by simp [ddo, qdo]] at h
    rw [List.reverse_nil, show ddo [] 4 x = ([], 2, 0) by simp [ddo, sdo, qdo]]
    simp only [Prod.mk.injEq] at h ⊢
    obtain ⟨rfl, rfl, rfl⟩ := h
    simp
  | cons z r =>
    rw [ddo_take] at h
    rw [List.reverse_cons, ddo_last]
    simp only [Prod.mk.injEq] at h ⊢
    obtain ⟨rfl, rfl, rfl⟩ := h
    simp
theorem turn42 {ys zs : List Int} {x c y : Int} (h : ddo ys 4 x = (zs, c, y)) : ddo ys.reverse 2 x = (zs.reverse, c, y) := by
  rcases List.eq_nil_or_concat ys with rfl | ⟨r, z, rfl⟩
  · rw [show ddo [] 4 x = ([], 2, 0) by simp [ddo, sdo, qdo]] at h
    rw [List.reverse_nil, show ddo [] 2 x = ([], 2, 0) by simp [ddo, qdo]]
    simp only [Prod.mk.injEq] at h ⊢
    obtain ⟨rfl, rfl, rfl⟩ := h
    simp
  · rw [List.concat_eq_append] at h ⊢
    rw [ddo_last] at h
    rw [List.reverse_append, List.reverse_singleton, List.singleton_append, ddo_take]
    simp only [Prod.mk.injEq] at h ⊢
    obtain ⟨rfl, rfl, rfl⟩ := h
    simp
end Go.Proofs.Ytdheglnbdokjcaa
