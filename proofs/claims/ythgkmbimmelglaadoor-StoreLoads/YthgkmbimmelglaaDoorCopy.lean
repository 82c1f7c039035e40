/- Package store: Copy, by its contract. -/
import Derived.Test.YthgkmbimmelglaaDoorLoc
namespace Go.Proofs.YthgkmbimmelglaaDoor
open Go.RowKit

/-- All cells of a store. -/
def St.all (s : St) : List Value := (List.range 182).map s.at
theorem St.all_length (s : St) : s.all.length = 182 := by simp [St.all]
theorem St.all_at (s : St) (j : Nat) (hj : j < 182) : s.all[j]? = some (s.at j) := by simp [St.all, hj]
theorem St.all_one (s : St) : ∀ v ∈ s.all, v.oneCell' = true := by
  intro v hv; simp only [St.all, List.mem_map] at hv; obtain ⟨j, _, rfl⟩ := hv; exact s.at_one j
theorem StAt.all_row {w : World} {b : Nat} {s : St} (h : StAt w b s) : w.rangeAt b 0 s.all := fun j v hv => by
  have hj : j < 182 := by simpa [St.all] using (List.getElem?_eq_some_iff.1 hv).1
  rw [s.all_at j hj] at hv; cases hv
  rw [Nat.zero_add]; exact h.cell j hj
theorem store_fields : ∃ fs, Tryd.prog.underlying 66 = some (.struct fs) := ⟨_, Tryd.underlying66⟩
theorem store_size (s : St) : (Tryd.prog.info? 66).map (·.size) = some s.all.length := by rw [s.all_length]; kernel_rfl

theorem StAt.copied (w : World) (t : TypeId) (s : St) : StAt ((w.alloc (.cells zst t)).setCells w.heap.size 0 s.all) w.heap.size s where
  cell j hj := by
    have th : (w.alloc (.cells zst t)).there w.heap.size 0 s.all.length := there_new _ _ _ _ (by rw [zst_size, s.all_length])
    have r := World.rangeAt_setCells_same _ _ _ _ th
    have := r j _ (s.all_at j hj)
    rwa [Nat.zero_add] at this
  froz j := by rw [World.frozen?_setCells, frozen?_alloc_cells]; exact frozen_past w (Nat.le_refl _)

theorem Copy_any (b : Nat) (s : St) (w : World) (hs : StAt w b s) :
    Calls Tryd.prog 15 #[.pointer (some ⟨b, 0, none⟩)] w fun e w' => e = .returned (.pointer (some ⟨w.heap.size, 0, none⟩)) ∧ StAt w' w.heap.size s ∧ Gr w w' := by
  obtain ⟨fs, hd⟩ := store_fields
  have HD : Hid _ := hd
  have R := hs.all_row
  have hz := zero_store
  have hzs := zst_size
  have hzn := zst_ne
  have A1 : Hid _ := And.intro (StAt.copied w 66 s) (Gr.setCells (Nat.le_refl _) s.all 0 ((Gr.refl w).alloc zst 66))
  have A2 : Hid _ := And.intro (store_size s) (And.intro (all_oneCell_toArray s.all_one) (there_row w zst 66 s.all (by rw [zst_size, s.all_length])))
  have HI : Hid ((Tryd.prog.info? 66).map (·.size) = some s.all.toArray.size) := by rw [List.size_toArray]; exact store_size s
  generalize s.all = cs at *
  clear hd
  go_enter Tryd.func15, Tryd.ntmps15
  go_wp2_with (first
    | (refine wpList_load_mid rfl 66 _ rfl b _ rfl cs _ R HD.out rfl A2.out.1 ?_)
    | (refine wpList_store_mid rfl 66 _ _ rfl w.heap.size _ cs.toArray rfl rfl A2.out.2.2 HI.out A2.out.2.1 ?_))
  go_ret
  exact ⟨rfl, A1.out.1, A1.out.2⟩
end Go.Proofs.YthgkmbimmelglaaDoor
