/- The law's cellsOf, by its contract. -/
import Derived.Test.YtbmgjpdfmgcigabDoorObA
import Derived.Test.YtbmgjpdfmgcigabDoorTt
import Derived.Deep.LoopGhost
namespace Go.Proofs.YtbmgjpdfmgcigabDoor.Tab
set_option maxRecDepth 20000
open Go.RowKit
set_option linter.unusedVariables false

def cpw (d : Nat → Nat) (i : Nat) : Nat → Nat := fun j => if j < i then d j else 0
theorem cpw_zero (d : Nat → Nat) : wl (cpw d 0) = wl wz := wl_congr fun j _ => by simp [cpw, wz]
theorem cpw_all (d : Nat → Nat) : wl (cpw d 17) = wl d := wl_congr fun j hj => by unfold cpw; rw [if_pos hj]
theorem cpw_next (d : Nat → Nat) (i : Nat) : wl (upw (cpw d i) i (d i)) = wl (cpw d (i + 1)) := wl_congr fun j _ => by
  unfold upw cpw
  by_cases e : j = i
  · subst e; rw [if_pos rfl, if_pos (by omega)]
  · rw [if_neg e]
    by_cases h : j < i
    · rw [if_pos h, if_pos (by omega)]
    · rw [if_neg h, if_neg (by omega)]

set_option maxHeartbeats 2000000 in
theorem cellsOf_is {b o k : Nat} {d : Nat → Nat} {w : World} (h : Wf w b o d) :
    Calls Tryd.prog 10 #[.slice (some ⟨b, o, none⟩) 17 k] w fun e w' => e = .returned (.agg (wl d).toArray) ∧ Below w.heap.size w w' := by
  obtain ⟨nb, eb, hd⟩ := cells_array
  have HC : Hid _ := hd
  clear hd
  have HCS : Hid _ := cells_size
  have HCZ : Hid _ := cells_size2
  have hb := h.lt
  have S : Hid (Wf ((w.alloc (.cells (wl wz).toArray 24)).alloc (.cells (wl wz).toArray 24)) b o d) := (h.new _).new _
  have R : Hid (Bo ((w.alloc (.cells (wl wz).toArray 24)).alloc (.cells (wl wz).toArray 24)) w.heap.size (wl wz)) := (Bo.born w (wl wz) _ rfl).new _
  have T : Hid (Bo ((w.alloc (.cells (wl wz).toArray 24)).alloc (.cells (wl wz).toArray 24)) (w.heap.size + 1) (wl (cpw d 0))) := by rw [cpw_zero]; exact Bo.born _ (wl wz) _ (by simp)
  have G : Hid (Gd w.heap.size w ((w.alloc (.cells (wl wz).toArray 24)).alloc (.cells (wl wz).toArray 24))) := ((Gd.refl w).new _).new _
  have NX : Hid (∀ i, _) := fun i => cpw_next d i
  have AL : Hid _ := cpw_all d
  rw [wz_all] at S R T G
  clear h
  go_enter Tryd.func10, Tryd.ntmps10
  go_wp2_with fail
  generalize World.alloc _ _ = W at S R T G ⊢
  generalize hsz : w.heap.size = n at hb S R T G ⊢
  have HSZ : Hid (w.heap.size = n) := hsz
  clear hsz
  go_loopg [4] 17 (fun gg s4 wt => ∃ i : Nat, i ≤ 17 ∧ 17 - i ≤ gg ∧ s4 = .int .i64 i ∧ Hid (Wf wt b o d) ∧ Hid (Bo wt n (wl wz)) ∧ Hid (Bo wt (n + 1) (wl (cpw d i))) ∧ Hid (Gd n w wt))
  case atStart => exact ⟨0, by omega, by omega, rfl, S, R, T, G⟩
  case round =>
    clear S R T G
    obtain ⟨i, hi, hgg, rfl, S, R, T, G⟩ := hrel
    by_cases hlt : i < 17
    · have g0 := S.out.cell i hlt
      have c1 := T.out.word hlt
      have f1 := T.out.froz i
      have i1 : (i : Int) < 17 := by omega
      have i0 : (0 : Int) ≤ (i : Int) := by omega
      have NI : Hid _ := NX.out i
      have S1 : Hid (Wf (wr.setCell ⟨n + 1, i, none⟩ (.int .u64 (d i : Nat))) b o d) := S.out.aside (by simp; omega) _
      have R1 : Hid (Bo (wr.setCell ⟨n + 1, i, none⟩ (.int .u64 (d i : Nat))) n (wl wz)) := R.out.aside (by simp) _
      have T1 : Hid (Bo (wr.setCell ⟨n + 1, i, none⟩ (.int .u64 (d i : Nat))) (n + 1) (wl (cpw d (i + 1)))) := by rw [← NI.out]; exact T.out.setw _ hlt
      have G1 : Hid (Gd n w (wr.setCell ⟨n + 1, i, none⟩ (.int .u64 (d i : Nat)))) := G.out.aside (by simp) _
      clear S R T G NI
      generalize cpw d i i = z at c1
      go_wp2
      go_roundg (17 - (i + 1))
      case measure => omega
      case rel => exact ⟨i + 1, by omega, by omega, by go_num, S1, R1, T1, G1⟩
    · obtain rfl : i = 17 := by omega
      rw [AL.out] at T
      go_wp2_with (first
        | (refine wpList_load_mid rfl 24 _ rfl (n + 1) _ rfl (wl d) _ T.out.range HC.out rfl (HCS.out d) ?_)
        | (refine wpList_store_mid rfl 24 _ _ rfl n _ (wl d).toArray rfl rfl (R.out.thereW d) (HCZ.out d) (wl_all d) ?_
           have R1 : Hid (Bo (wr.setCells n 0 (wl d)) n (wl d)) := R.out.setW d
           have G1 : Hid (Gd n w (wr.setCells n 0 (wl d))) := G.out.asideL (by omega) _ _
           clear T R G S
           generalize wr.setCells n 0 (wl d) = V at R1 G1 ⊢))
      exact bodyPost_ret (results_row Tryd.results10 _ _ n (wl d) _ rfl R1.out.range HC.out rfl (HCS.out d)) rfl ⟨rfl, G1.out.2⟩
end Go.Proofs.YtbmgjpdfmgcigabDoor.Tab
