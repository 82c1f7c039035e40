/- Package queue, by its contracts. -/
import Derived.Test.YtbmgjpdfmgcigabDoorLc
import Derived.Maps.AppendAt
namespace Go.Proofs.YtbmgjpdfmgcigabDoor
set_option maxRecDepth 20000
open Go.RowKit

theorem info_int : (Tryd.prog.info? 3).map (fun i => (i.zero, i.size, i.bytes)) = some (some (.int .i64 0), 1, 8) := by kernel_rfl

theorem qput_full {B : Nat} {v : Value} {xs : List Int} {w : World} (x : Int) (h : IsL B w v xs) (h6 : 6 ≤ xs.length) :
    Calls Tryd.prog 53 #[v, .int .i64 x] w fun e w' => e = .returned (.tuple #[v, .agg #[.int .i64 3, .int .i64 0]]) ∧ Below w.heap.size w w' := by
  rcases h with ⟨rfl, a, c, rfl⟩ | ⟨b, off, c, rfl, hB, h0, hc, hcell, hfz⟩
  · simp at h6
  · clear hcell hfz
    generalize xs.length = n at *
    have h6' : (6 : Int) ≤ (n : Int) := by omega
    go_enter Tryd.func53, Tryd.ntmps53
    go_wp2
    exact bodyPost_ret (v := .tuple #[.slice (some ⟨b, off, none⟩) n c, .agg #[.int .i64 3, .int .i64 0]]) (by simp [results, Tryd.results53, go_sem]) rfl ⟨rfl, (Below.refl _ w).alloc (Nat.le_refl _) _⟩

theorem qput_room {B : Nat} {v : Value} {xs : List Int} {w : World} (x : Int) (h : Own B w v xs) (hB : B ≤ w.heap.size) (h6 : xs.length < 6) :
    Calls Tryd.prog 53 #[v, .int .i64 x] w fun e w' => ∃ v', e = .returned (.tuple #[v', .agg #[.int .i64 1, .int .i64 0]]) ∧ Own B w' v' (xs ++ [x]) ∧ Below B w w' := by
  obtain ⟨i0, hi, hz0, hz1, hz2⟩ := info_parts info_int
  obtain ⟨a, c, rfl⟩ := h.form
  have X : Hid (Own B w (.slice a xs.length c) xs) := h
  have hlt : Hid (∀ k, (Value.slice a xs.length c).ownBlock = some k → B ≤ k ∧ k < w.heap.size) := h.lt
  clear h
  have h6' : (xs.length : Int) < 6 := by omega
  go_enter Tryd.func53, Tryd.ntmps53
  go_wp2_with (at_builtin; refine wpList_append_own_at _ rfl _ _ 27 rfl B 3 i0 (.int .i64 0) 1 8 Tryd.underlying27 hi hz0 hz1 hz2 rfl (by decide) _ _ _ rfl ((X.out.alloc _).alloc _) ⟨w.heap.size + 1, 0, none⟩ 1 1 [.int .i64 x] rfl rfl ?c1 ?c2 ?c3 ?c4 ?c5 ?_)
  case c1 => intro j u hj; simpa using cell_one_new (w.alloc (.cells #[.int .i64 0, .int .i64 0] 38)) (.int .i64 x) 3 j u hj
  case c2 => intro u hu; simp at hu; subst hu; rfl
  case c3 => unfold maxLen; omega
  case c4 => omega
  case c5 => simp; omega
  intro v' w1 hown hgrow _ hat
  have hne : some w.heap.size ≠ (Value.slice a xs.length c).ownBlock := fun e => by have := hlt.out _ e.symm; omega
  have hblk := hgrow.block w.heap.size (by simp; omega) hne
  have hne' : v'.ownBlock ≠ some w.heap.size := by
    rcases hat with h | h
    · rw [h]; exact hne.symm
    · rw [h]; simp; omega
  have c0 : w1.cell? ⟨w.heap.size, 0, none⟩ = some (.int .i64 0) := by rw [World.cell?_of_block hblk]; simp
  have c1 : w1.cell? ⟨w.heap.size, 1, none⟩ = some (.int .i64 0) := by rw [World.cell?_of_block hblk]; simp
  have f0 : w1.frozen? ⟨w.heap.size, 0, none⟩ = false := by rw [World.frozen?_of_block hblk]; simp
  have f1 : w1.frozen? ⟨w.heap.size, 1, none⟩ = false := by rw [World.frozen?_of_block hblk]; simp
  have O : Hid (Own B w1 v' (xs ++ [x])) := by
    show w1.ownsRow B _ 1 v' _ _
    simpa using hown
  have G : Hid (Below B w w1) := (((Below.refl B w).alloc hB _).alloc (by simp; omega) _).grown hgrow (by simp; omega) (fun k hk => (hlt.out k hk).1)
  clear hown hgrow hat hblk hne
  go_wp2
  refine bodyPost_ret (v := .tuple #[v', .agg #[.int .i64 1, .int .i64 0]]) ?_ rfl ⟨v', rfl, ?_, ?_⟩
  · have d0 := World.cell?_setCell_same w1 ⟨w.heap.size, 0, none⟩ (.int .i64 1) c0
    have d1 : (w1.setCell ⟨w.heap.size, 0, none⟩ (.int .i64 1)).cell? ⟨w.heap.size, 1, none⟩ = some (.int .i64 0) := by rw [World.cell?_setCell_other]; exact c1; simp
    simp [results, Tryd.results53, go_sem, d0, d1]
  · exact ownsRow_setCell_other (ownsRow_setCell_other O.out hne' _) hne' _
  · exact (G.out.setCell hB _).setCell hB _

theorem qtake_none (a : Option Addr) (c : Nat) (w : World) :
    Calls Tryd.prog 54 #[.slice a 0 c] w fun e w' => e = .returned (.tuple #[.slice a 0 c, .agg #[.int .i64 2, .int .i64 0]]) ∧ Below w.heap.size w w' := by
  go_enter Tryd.func54, Tryd.ntmps54
  go_wp2
  exact bodyPost_ret (v := .tuple #[.slice a 0 c, .agg #[.int .i64 2, .int .i64 0]]) (by simp [results, Tryd.results54, go_sem]) rfl ⟨rfl, (Below.refl _ w).alloc (Nat.le_refl _) _⟩

theorem tail_is {B : Nat} {w : World} {b off n c : Nat} {r : List Int} (hB : B ≤ b) (N : n = r.length + 1) (hc : n ≤ c) (T : ∀ j, j < r.length → w.cell? ⟨b, off + (j + 1), none⟩ = some (.int .i64 (r.getD j 0)))
    (Z : 0 < B → ∀ j, j < r.length → w.frozen? ⟨b, off + (j + 1), none⟩ = false) : IsL B w (.slice (some ⟨b, off + 1, none⟩) (n - 1) (c - 1)) r := by
  subst N
  by_cases h : r.length = 0
  · have : r = [] := List.eq_nil_of_length_eq_zero h
    subst this
    exact IsL.nil _ _ _ _
  · refine Or.inr ⟨b, off + 1, c - 1, rfl, hB, by omega, by omega, fun j hj => ?_, fun h0 j hj => ?_⟩
    rotate_left
    · have := Z h0 j hj
      rwa [show off + (j + 1) = off + 1 + j by omega] at this
    have := T j hj
    rwa [show off + (j + 1) = off + 1 + j by omega] at this

theorem qtake_one {B : Nat} {v : Value} {x : Int} {r : List Int} {w : World} (h : IsL B w v (x :: r)) :
    Calls Tryd.prog 54 #[v] w fun e w' => ∃ v', e = .returned (.tuple #[v', .agg #[.int .i64 1, .int .i64 x]]) ∧ IsL B w' v' r ∧ Below w.heap.size w w' := by
  rcases h with ⟨h, _⟩ | ⟨b, off, c, rfl, hB, h0, hc, hcell, hfz⟩
  · cases h
  have hx : w.cell? ⟨b, off, none⟩ = some (.int .i64 x) := hcell 0 (Nat.succ_pos _)
  have T : Hid (∀ j, j < r.length → w.cell? ⟨b, off + (j + 1), none⟩ = some (.int .i64 (r.getD j 0))) := fun j hj => by simpa using hcell (j + 1) (by simpa using hj)
  have Z : Hid (0 < B → ∀ j, j < r.length → w.frozen? ⟨b, off + (j + 1), none⟩ = false) := fun h0 j hj => hfz h0 (j + 1) (by simpa using hj)
  clear hcell hfz
  have hbl : b < w.heap.size := World.block_lt_of_cell? _ _ hx
  obtain ⟨n, hn⟩ : ∃ n, n = (x :: r).length := ⟨_, rfl⟩
  have N : Hid (n = r.length + 1) := show n = r.length + 1 by simpa using hn
  rw [← hn] at h0 hc ⊢
  clear hn
  have h1 : (1 : Int) ≤ (n : Int) := by omega
  have h2 : (n : Int) ≤ (c : Int) := by omega
  have h3 : (0 : Int) < (n : Int) := by omega
  have h4 : ((n : Int) == 0) = false := by simp; omega
  go_enter Tryd.func54, Tryd.ntmps54
  go_wp2_with fail
  go_region
  all_goals go_wp2
  · have hr : r = [] := List.eq_nil_of_length_eq_zero (by have := N.out; omega)
    subst hr
    have hn1 : n = 1 := N.out
    subst hn1
    exact bodyPost_ret (v := .tuple #[.slice (some ⟨b, off, none⟩) 0 0, .agg #[.int .i64 1, .int .i64 x]]) (by simp [results, Tryd.results54, go_sem]) rfl ⟨_, rfl, IsL.nil _ _ _ _, ((Below.refl _ w).alloc (Nat.le_refl _) _).drew⟩
  · have hg : Below w.heap.size w (w.alloc (.cells #[.int .i64 1, .int .i64 x] 38)).drew := ((Below.refl _ w).alloc (Nat.le_refl _) _).drew
    exact bodyPost_ret (v := .tuple #[.slice (some ⟨b, off + 1, none⟩) (n - 1) (c - 1), .agg #[.int .i64 1, .int .i64 x]]) (by simp [results, Tryd.results54, go_sem]) rfl ⟨_, rfl, (tail_is hB N.out hc T.out Z.out).later hg, hg⟩
end Go.Proofs.YtbmgjpdfmgcigabDoor
