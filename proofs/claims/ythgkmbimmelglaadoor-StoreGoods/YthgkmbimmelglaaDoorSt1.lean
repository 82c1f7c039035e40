/- Package store: among, New, Load, Save, keep, Evict, Flush, by their contracts. -/
import Derived.Test.YthgkmbimmelglaaDoorStEq
import Derived.Test.YthgkmbimmelglaaDoorBit
namespace Go.Proofs.YthgkmbimmelglaaDoor
open Go.RowKit

theorem among_yes (a n : Int) (w : World) (h0 : 0 ≤ a) (h1 : a < n) :
    Calls Tryd.prog 28 #[.int .i64 a, .int .i64 n] w fun e w' => e = .returned (.bool true) ∧ w' = w := by
  go_enter Tryd.func28, Tryd.ntmps28
  go_wp2
  go_ret
  exact ⟨rfl, rfl⟩

theorem among_no (a n : Int) (w : World) (h : a < 0 ∨ n ≤ a) :
    Calls Tryd.prog 28 #[.int .i64 a, .int .i64 n] w fun e w' => e = .returned (.bool false) ∧ w' = w := by
  by_cases h2 : a < 0
  · have : ¬ 0 ≤ a := by omega
    clear h
    go_enter Tryd.func28, Tryd.ntmps28
    go_wp2
    go_ret
    exact ⟨rfl, rfl⟩
  · have h2' : 0 ≤ a := by omega
    have : ¬ a < n := by omega
    clear h h2
    go_enter Tryd.func28, Tryd.ntmps28
    go_wp2
    go_ret
    exact ⟨rfl, rfl⟩

theorem Load_yes (a b : Nat) (s : St) (w : World) (ha : a < 72) (hs : StAt w b s) :
    Calls Tryd.prog 9 #[.pointer (some ⟨b, 0, none⟩), .int .i64 a] w fun e w' => e = .returned (.tuple #[.int .u64 (s.now a), .nilIface]) ∧ w' = w := by
  have hc : w.cell? ⟨b, a / 8 * 8 + a % 8, none⟩ = some (.int .u64 (s.now a)) := by rw [show a / 8 * 8 + a % 8 = a by omega]; exact hs.nowc ha
  go_enter Tryd.func9, Tryd.ntmps9
  go_wp2_with (go_at_call 28; refine (among_yes _ _ _ (by omega) (by omega)).mono ?_; rintro e w' ⟨rfl, rfl⟩)
  go_ret2
  exact ⟨rfl, rfl⟩

theorem St.save_at (s : St) (a : Nat) (x : Int) (ha : a < 72) (j : Nat) (_ : j < 182) : (s.save a x).at j = if j = a then .int .u64 x else s.at j := by
  unfold St.at St.save
  by_cases e : j = a
  · subst e; simp [ha]
  · simp [e]

theorem Save_yes (a b : Nat) (x : Int) (s : St) (w : World) (ha : a < 72) (hs : StAt w b s) :
    Calls Tryd.prog 16 #[.pointer (some ⟨b, 0, none⟩), .int .i64 a, .int .u64 x] w fun e w' => e = .returned .nilIface ∧ StAt w' b (s.save a x) ∧ Only b w w' := by
  have e : a / 8 * 8 + a % 8 = a := by omega
  have hc : w.cell? ⟨b, a / 8 * 8 + a % 8, none⟩ = some (.int .u64 (s.now a)) := by rw [e]; exact hs.nowc ha
  have hf := hs.froz (a / 8 * 8 + a % 8)
  have E : Hid _ := e
  clear e
  go_enter Tryd.func16, Tryd.ntmps16
  go_wp2_with (go_at_call 28; refine (among_yes _ _ _ (by omega) (by omega)).mono ?_; rintro e w' ⟨rfl, rfl⟩)
  go_ret
  rw [E.out]
  exact ⟨rfl, hs.setCell a _ (by omega) _ (s.save_at a x ha), (Only.refl _ _).setCell _ _⟩

/-- The cells of a new store. -/
def zst : Array Value := ((List.range 182).map St.zero.at).toArray
theorem zst_size : zst.size = 182 := by simp [zst]
theorem zst_ne : ¬ zst = #[] := fun h => by have := zst_size; rw [h] at this; simp at this
theorem zero_store (w : World) : (zeroValue 66).run Tryd.prog w = .ok (.agg zst) w := by
  have h : (Tryd.prog.info? 66).map (·.zero) = some (some (.agg zst)) := by kernel_rfl
  cases hi : Tryd.prog.info? 66 with
  | none => simp [hi] at h
  | some i =>
    have hz : i.zero = some (.agg zst) := by simpa [hi] using h
    simp [zeroValue, typeInfo, hi, hz]

theorem StAt.born (w : World) (t : TypeId) (c : Array Value) (s : St) (h : c = ((List.range 182).map s.at).toArray) : StAt (w.alloc (.cells c t)) w.heap.size s where
  cell j hj := by rw [World.cell?_alloc_new, h]; simp [hj]
  froz j := by rw [frozen?_alloc_cells]; exact frozen_past w (Nat.le_refl _)

theorem New_any (w : World) :
    Calls Tryd.prog 18 #[] w fun e w' => e = .returned (.pointer (some ⟨w.heap.size, 0, none⟩)) ∧ StAt w' w.heap.size St.zero ∧ Gr w w' := by
  have hz := zero_store
  have hs := zst_size
  have hn := zst_ne
  go_enter Tryd.func18, Tryd.ntmps18
  go_wp2
  go_ret
  exact ⟨rfl, StAt.born w _ _ _ (by kernel_rfl), (Gr.refl w).alloc _ _⟩

theorem St.wish_at1 (s : St) (t l : Nat) (ht : t < 4) (hl : l < 9) (j : Nat) (_ : j < 182) :
    (St.at ⟨s.now, s.good, (s.wish t l).want, s.fl, s.fe⟩ j) = if j = 144 + t * 9 + l then .bool true else s.at j := by
  unfold St.at St.wish
  by_cases e : j = 144 + t * 9 + l
  · subst e
    simp [show ¬ 144 + t * 9 + l < 72 by omega, show ¬ 144 + t * 9 + l < 144 by omega, show 144 + t * 9 + l < 180 by omega, show 144 + t * 9 + l - 144 = 9 * t + l by omega]
  · simp only [e, if_false]
    by_cases h1 : j < 72
    · simp [h1]
    · by_cases h2 : j < 144
      · simp [h1, h2]
      · by_cases h3 : j < 180
        · simp [h1, h2, h3, show ¬ j - 144 = 9 * t + l by omega]
        · simp [h1, h2, h3]
theorem St.wish_at2 (s : St) (t l : Nat) (j : Nat) (_ : j < 182) :
    (s.wish t l).at j = if j = 180 then .int .i64 (wrap64 (s.fl + 1)) else St.at ⟨s.now, s.good, (s.wish t l).want, s.fl, s.fe⟩ j := by
  unfold St.at St.wish
  by_cases e : j = 180
  · subst e; simp
  · simp only [e, if_false]

theorem Flush_yes (t l b : Nat) (s : St) (w : World) (ht : t < 4) (hl : l < 9) (hs : StAt w b s) :
    Calls Tryd.prog 20 #[.pointer (some ⟨b, 0, none⟩), .int .i64 t, .int .i64 l] w fun e w' => e = .returned .nilIface ∧ StAt w' b (s.wish t l) ∧ Only b w w' := by
  have hc : w.cell? ⟨b, 144 + t * 9 + l, none⟩ = some (.bool (s.want (9 * t + l))) := by rw [show 144 + t * 9 + l = 144 + (9 * t + l) by omega]; exact hs.wantc (by omega)
  have hf := hs.froz
  have hn : ¬ (144 + t * 9 + l = 180) := by omega
  have hfl := hs.flc
  go_enter Tryd.func20, Tryd.ntmps20
  go_wp2_with (go_at_call 28; refine (among_yes _ _ _ (by omega) (by omega)).mono ?_; rintro e w' ⟨rfl, rfl⟩)
  go_ret
  exact ⟨rfl, (hs.setCell _ _ (by omega) _ (s.wish_at1 t l ht hl)).setCell 180 _ (by decide) _ (s.wish_at2 t l), ((Only.refl _ _).setCell _ _).setCell _ _⟩
end Go.Proofs.YthgkmbimmelglaaDoor
