/- An error taken apart: api.Tell, plain.Place, bare, at nil and at an Errno, by their contracts. -/
import Derived.Test.YtbmgjpdfmgcigabDoorAsErrno
namespace Go.Proofs.YtbmgjpdfmgcigabDoor
set_option maxRecDepth 20000
open Go.RowKit

/-- The library's handle of the type error in its variable. -/
def HandleAt (w : World) : Prop := w.cell? ⟨0, 0, none⟩ = some (.iface 128 (.agg #[.pointer (some ⟨1, 40, none⟩)]))

theorem size_of_cell' {w : World} {b o : Nat} {v : Value} (h : w.cell? ⟨b, o, none⟩ = some v) : b < w.heap.size := by
  by_cases hb : b < w.heap.size
  · exact hb
  · have e : w.heap[b]? = none := by simp; omega
    simp [World.cell?, e] at h

theorem HandleAt.later {w w' : World} (h : HandleAt w) (g : Gr w w') : HandleAt w' := (g.cell (size_of_cell' h)).trans h

theorem tell_nil (w : World) : Calls Tryd.prog 42 #[.nilIface] w fun e w' => e = .returned (.int .i64 0) ∧ w' = w := by
  go_enter Tryd.func42, Tryd.ntmps42
  go_wp2
  go_ret
  exact ⟨rfl, rfl⟩

theorem as_errno' (n : Int) (t : Addr) (old : Value) (w : World) (hg : HandleAt w) (ht0 : w.cell? t = some old) (hf0 : w.frozen? t = false) :
    Calls Tryd.prog 61 #[.iface 45 (.int .i64 n), .iface 102 (.pointer (some t))] w fun e w' => e = .returned (.bool true) ∧ ∃ W, Gr w W ∧ w' = W.setCell t (.int .i64 n) :=
  (as_errno n t old w hg ht0 hf0).mono fun _ _ ⟨he, hw⟩ => ⟨he, _, ((((Gr.refl w).alloc _ _).alloc _ _).alloc _ _).alloc _ _, hw⟩

theorem tell_errno (n : Int) (w : World) (hH : HandleAt w) :
    Calls Tryd.prog 42 #[.iface 45 (.int .i64 n)] w fun e w' => e = .returned (.int .i64 n) ∧ Gr w w' := by
  have H1 : Hid (HandleAt (w.alloc (.cells #[.int .i64 0] 45))) := hH.later ((Gr.refl w).alloc _ _)
  clear hH
  go_enter Tryd.func42, Tryd.ntmps42
  go_wp2_with fail
  refine (as_errno' n ⟨w.heap.size, 0, none⟩ (.int .i64 0) _ H1.out (by simp) ((frozen?_alloc_cells _ _ _ _).trans (frozen_past w (Nat.le_refl _)))).mono ?_
  rintro e w' ⟨rfl, W, hW, rfl⟩
  have hc : (W.setCell ⟨w.heap.size, 0, none⟩ (.int .i64 n)).cell? ⟨w.heap.size, 0, none⟩ = some (.int .i64 n) := by
    refine World.cell?_setCell_same _ _ _ (u := .int .i64 0) ?_
    rw [hW.cell (by simp)]
    simp
  have hG : Gr w (W.setCell ⟨w.heap.size, 0, none⟩ (.int .i64 n)) := (((Gr.refl w).alloc _ _).trans hW).setCell (Nat.le_refl _) _
  generalize W.setCell ⟨w.heap.size, 0, none⟩ (.int .i64 n) = W2 at hc hG
  clear hW H1
  go_wp2
  go_ret
  exact ⟨rfl, hG⟩

theorem place_nil (w : World) : Calls Tryd.prog 20 #[.nilIface] w fun e w' => e = .returned (.tuple #[.int .i64 0, .int .i64 (-1)]) ∧ w' = w := by
  go_enter Tryd.func20, Tryd.ntmps20
  go_wp2_with fail
  refine (tell_nil _).mono ?_
  rintro e w' ⟨rfl, rfl⟩
  go_wp2_with fail
  refine wp_loop_rounds 1 ?_
  rw [rounds_succ]
  go_wp2
  go_ret2
  exact ⟨rfl, rfl⟩

theorem noAt (n : Int) (w : World) : (Instr.typeAssert (.iface 45 (.int .i64 n)) 40 77 true).run Tryd.prog w = .ok (.tuple #[.pointer none, .bool false]) w := by kernel_rfl
theorem noUnwrap (n : Int) (w : World) : (Instr.typeAssert (.iface 45 (.int .i64 n)) 40 81 true).run Tryd.prog w = .ok (.tuple #[.nilIface, .bool false]) w :=
  run_typeAssert_lacksB Tryd.underlying81 (by kernel_rfl) (by kernel_rfl) _ _ w

theorem place_errno (n : Int) (w : World) (hH : HandleAt w) :
    Calls Tryd.prog 20 #[.iface 45 (.int .i64 n)] w fun e w' => e = .returned (.tuple #[.int .i64 n, .int .i64 (-1)]) ∧ Gr w w' := by
  have h1 := noAt n
  have h2 := noUnwrap n
  go_enter Tryd.func20, Tryd.ntmps20
  go_wp2_with fail
  refine (tell_errno n _ hH).mono ?_
  rintro e w' ⟨rfl, hG⟩
  clear hH
  go_wp2_with fail
  refine wp_loop_rounds 1 ?_
  rw [rounds_succ]
  go_wp2
  go_ret2
  exact ⟨rfl, hG⟩

theorem bare_nil (n : Int) (w : World) :
    Calls Tryd.prog 8 #[.nilIface, .int .i64 n] w fun e w' => e = .returned (.bool (decide (n = 0))) ∧ w' = w := by
  by_cases hn : n = 0
  · subst hn
    go_enter Tryd.func8, Tryd.ntmps8
    go_wp2_with fail
    refine (place_nil _).mono ?_
    rintro e w' ⟨rfl, rfl⟩
    go_wp2
    go_ret
    exact ⟨rfl, rfl⟩
  · have hb : ((0 : Int) == n) = false := beq_eq_false_iff_ne.2 (by omega)
    rw [decide_eq_false hn]
    go_enter Tryd.func8, Tryd.ntmps8
    go_wp2_with fail
    refine (place_nil _).mono ?_
    rintro e w' ⟨rfl, rfl⟩
    go_wp2
    go_ret
    exact ⟨rfl, rfl⟩

theorem bare_errno (n m : Int) (w : World) (hH : HandleAt w) :
    Calls Tryd.prog 8 #[.iface 45 (.int .i64 n), .int .i64 m] w fun e w' => e = .returned (.bool (decide (n = m))) ∧ Gr w w' := by
  by_cases hn : n = m
  · subst hn
    rw [decide_eq_true rfl]
    go_enter Tryd.func8, Tryd.ntmps8
    go_wp2_with fail
    refine (place_errno n _ hH).mono ?_
    rintro e w' ⟨rfl, hG⟩
    go_wp2
    go_ret
    exact ⟨rfl, hG⟩
  · have hb : (n == m) = false := beq_eq_false_iff_ne.2 hn
    rw [decide_eq_false hn]
    go_enter Tryd.func8, Tryd.ntmps8
    go_wp2_with fail
    refine (place_errno n _ hH).mono ?_
    rintro e w' ⟨rfl, hG⟩
    go_wp2
    go_ret
    exact ⟨rfl, hG⟩
end Go.Proofs.YtbmgjpdfmgcigabDoor
