/- Package store: Good, by its contract. -/
import Derived.Test.YthgkmbimmelglaaDoorSt2
namespace Go.Proofs.YthgkmbimmelglaaDoor
open Go.RowKit

theorem Good_yes (l b : Nat) (s : St) (w : World) (hl : l < 9) (hs : StAt w b s) :
    Calls Tryd.prog 11 #[.pointer (some ⟨b, 0, none⟩), .int .i64 l] w fun e w' => e = .returned (.tuple #[.agg (row s.good (l * 8) 8).toArray, .nilIface]) ∧ Gr w w' := by
  have hd := line_desc
  have hi := line_size s.good (l * 8)
  have h1 := all_oneCell_toArray (row_one s.good (l * 8) 8)
  have h8 := row_length s.good (l * 8) 8
  have hr := hs.good_row (l * 8) 8 (by omega)
  generalize row s.good (l * 8) 8 = cs at *
  have HI : Hid ((Tryd.prog.info? 41).map (·.size) = some cs.toArray.size) := by rw [List.size_toArray]; exact hi
  go_enter Tryd.func11, Tryd.ntmps11
  go_wp2_with (first
    | (go_at_call 28; refine (among_yes _ _ _ (by omega) (by omega)).mono ?_; rintro e w' ⟨rfl, rfl⟩)
    | (refine wpList_load_mid rfl 41 _ rfl b _ rfl cs _ (World.rangeAt_alloc hr _) hd rfl hi ?_)
    | (refine wpList_store_mid rfl 41 _ _ rfl w.heap.size _ cs.toArray rfl rfl (there_row _ _ _ _ h8.symm) HI.out h1 ?_))
  refine bodyPost_ret (v := .tuple #[.agg cs.toArray, .nilIface]) ?_ rfl ⟨rfl, Gr.setCells (Nat.le_refl _) _ _ ((Gr.refl w).alloc _ _)⟩
  rw [results_cell_tmp rfl]
  simp only [asAddr, Result.andThen]
  simp
  rw [row_back _ _ _ cs ?_ hi]
  exact h8.symm
end Go.Proofs.YthgkmbimmelglaaDoor
