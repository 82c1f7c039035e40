/- The reference's Thing.Cells, by its contract: a tally. -/
import Derived.Test.YtbmgjpdfmgcigabDoorTg
import Derived.Laws.MakeOwn
import Derived.Deep.LoopGhost
import Derived.BigRegion
namespace Go.Proofs.YtbmgjpdfmgcigabDoor.Tab
set_option maxRecDepth 20000
open Go.RowKit
set_option linter.unusedVariables false

theorem info_u64 : (Tryd.prog.info? 22).map (fun i => (i.zero, i.size, i.bytes)) = some (some (.int .u64 0), 1, 8) := by kernel_rfl
theorem made17 : madeCells (Value.int .u64 0).cells 17 = (wl wz).toArray := by kernel_rfl
theorem mk17 (w : World) : (Instr.makeSlice 36 (.int .i64 17) (.int .i64 17)).run Tryd.prog w = .ok (.slice (some ⟨w.heap.size, 0, none⟩) 17 17) (w.alloc (.cells (wl wz).toArray 22)) := by
  obtain ⟨i, hi, hz, h1, h2⟩ := info_parts info_u64
  have := run_make (P := Tryd.prog) w 36 22 i _ Tryd.underlying36 hi hz .i64 .i64 17 17 (by decide) (by decide) (by rw [h2]; decide) (by decide)
  rw [h1] at this
  rw [← made17]
  exact this
theorem mk17b (w : World) (o : Obj) : (Instr.makeSlice 36 (.int .i64 17) (.int .i64 17)).run Tryd.prog (w.alloc o) = .ok (.slice (some ⟨w.heap.size + 1, 0, none⟩) 17 17) ((w.alloc o).alloc (.cells (wl wz).toArray 22)) := by
  have := mk17 (w.alloc o)
  simpa using this

theorem new_below2 (w : World) (o p : Obj) : Below w.heap.size w ((w.alloc o).alloc p) := ((Gd.refl w).new o |>.new p).2
/-- Seventeen words, in a block of the call's own. -/
def Wd (n : Nat) (e : Ending) (w' : World) (d : Nat → Nat) : Prop := ∃ b, e = .returned (.slice (some ⟨b, 0, none⟩) 17 17) ∧ n ≤ b ∧ Bo w' b (wl d)

set_option maxHeartbeats 1000000 in
theorem Cells_6 (v : Value) (t : Tb) (x : Nat) (hx : x ≤ 4294967295) (w : World) :
    Calls Tryd.prog 11 #[.agg (tg 6 v t x).toArray] w fun e w' => Wd w.heap.size e w' (tyw x) ∧ Below w.heap.size w w' := by
  have mk := mk17b w (.cells (tg 6 v t x).toArray 33)
  have S0 : Hid (Bo ((w.alloc (.cells (tg 6 v t x).toArray 33)).alloc (.cells (wl wz).toArray 22)) w.heap.size (tg 6 v t x)) := (Bo.born w (tg 6 v t x) _ rfl).new _
  have T0 : Hid (Bo ((w.alloc (.cells (tg 6 v t x).toArray 33)).alloc (.cells (wl wz).toArray 22)) (w.heap.size + 1) (wl wz)) := Bo.born _ (wl wz) _ (by simp)
  have G0 : Hid (Gd w.heap.size w ((w.alloc (.cells (tg 6 v t x).toArray 33)).alloc (.cells (wl wz).toArray 22))) := ((Gd.refl w).new _).new _
  have c0 := S0.out.tcell.1
  have c1 := S0.out.tcell.2.2
  have d0 := T0.out.word (show 0 < 17 by decide)
  have d1 := T0.out.froz 0
  go_enter Tryd.func11, Tryd.ntmps11
  go_wp2_with fail
  go_ret
  have e : wl (tyw x) = (wl wz).set 0 (.int .u64 (x : Nat)) := by
    rw [wl_set wz x (by decide)]
    exact wl_congr fun j _ => by unfold tyw upw wz; by_cases e0 : j = 0 <;> simp [e0]
  refine ⟨⟨_, rfl, by omega, ?_⟩, new_below2 _ _ _⟩
  rw [e]
  exact Bo.born _ _ _ (by simp)
end Go.Proofs.YtbmgjpdfmgcigabDoor.Tab
