/- The reference's ThingOf: a list that is too long. -/
import Derived.Test.YtbmgjpdfmgcigabDoorSmf
import Derived.Test.YtbmgjpdfmgcigabDoorX1
import Derived.Test.YtbmgjpdfmgcigabDoorQu0
import Derived.Deep.LoopGhost
import Derived.Deep.RegionHeld
import Derived.Deep.MidRow
namespace Go.Proofs.YtbmgjpdfmgcigabDoor.Tab
set_option maxRecDepth 20000
open Go.RowKit
set_option linter.unusedVariables false

theorem lsq_take (c : Nat → Nat) {i : Nat} (h : i < c 0) : (lst c).take i ++ [((c (i + 1) : Nat) : Int)] = (lst c).take (i + 1) := by
  have := take_more (lst c) i (by rw [lst_length]; exact h)
  rw [lst_at c h] at this
  exact this
set_option maxHeartbeats 8000000 in
theorem ThingOf_long {bc oc kc : Nat} {c : Nat → Nat} {w : World} {b : Bool} {kind : Int} (k5 : 1 ≤ kind ∧ kind ≤ 4) (hc : Wf w bc oc c) (hm : ∀ j, j < 17 → c j ≤ 4294967295) (h6 : 6 < c 0) :
    Calls Tryd.prog 5 #[.int .i64 kind, .slice (some ⟨bc, oc, none⟩) 17 kc] w fun e w' => ∃ v t x, v.oneCell' = true ∧ e = .returned (.tuple #[.agg (tg kind v t x).toArray, .bool false]) ∧ Below w.heap.size w w' := by
  have hk : 1 ≤ kind ∧ kind ≤ 6 := by omega
  have m5 : (kind == 5) = false := by simp; omega
  have m6 : (kind == 6) = false := by simp; omega
  have HK : Hid (kind ≠ 5 ∧ kind ≠ 6) := ⟨by omega, by omega⟩
  have HM : Hid _ := hm
  have H6 : Hid _ := h6
  clear k5 hm h6
  obtain ⟨fs, hd⟩ := thing_struct
  have HTD : Hid _ := hd
  clear hd
  have HTS : Hid _ := thing_size
  have HTZ : Hid _ := thing_size2
  have HTW : Hid _ := thing_size3
  have R0 : Hid (Bo ((w.alloc (.cells #[.int .i64 0, .slice none 0 0, .int .i64 0, .int .i64 0, .int .i64 0, .int .i64 0, .int .i64 0, .int .i64 0, .int .i64 0, .int .i64 0, .int .i64 0, .int .i64 0, .int .i64 0, .int .i64 0, .int .i64 0, .int .i64 0, .int .i64 0, .int .i64 0, .int .i64 0] 33)).alloc (.cells #[.int .i64 0, .slice none 0 0, .int .i64 0, .int .i64 0, .int .i64 0, .int .i64 0, .int .i64 0, .int .i64 0, .int .i64 0, .int .i64 0, .int .i64 0, .int .i64 0, .int .i64 0, .int .i64 0, .int .i64 0, .int .i64 0, .int .i64 0, .int .i64 0, .int .i64 0] 33)) w.heap.size (tg 0 (.slice none 0 0) Tb.zero 0)) := (Bo.bornTh w 0 _ rfl).new _
  have T0 : Hid (Bo ((w.alloc (.cells #[.int .i64 0, .slice none 0 0, .int .i64 0, .int .i64 0, .int .i64 0, .int .i64 0, .int .i64 0, .int .i64 0, .int .i64 0, .int .i64 0, .int .i64 0, .int .i64 0, .int .i64 0, .int .i64 0, .int .i64 0, .int .i64 0, .int .i64 0, .int .i64 0, .int .i64 0] 33)).alloc (.cells #[.int .i64 0, .slice none 0 0, .int .i64 0, .int .i64 0, .int .i64 0, .int .i64 0, .int .i64 0, .int .i64 0, .int .i64 0, .int .i64 0, .int .i64 0, .int .i64 0, .int .i64 0, .int .i64 0, .int .i64 0, .int .i64 0, .int .i64 0, .int .i64 0, .int .i64 0] 33)) (w.heap.size + 1) (tg 0 (.slice none 0 0) Tb.zero 0)) := Bo.bornTh _ 0 _ (by simp)
  have G0 : Hid (Gd w.heap.size w ((w.alloc (.cells #[.int .i64 0, .slice none 0 0, .int .i64 0, .int .i64 0, .int .i64 0, .int .i64 0, .int .i64 0, .int .i64 0, .int .i64 0, .int .i64 0, .int .i64 0, .int .i64 0, .int .i64 0, .int .i64 0, .int .i64 0, .int .i64 0, .int .i64 0, .int .i64 0, .int .i64 0] 33)).alloc (.cells #[.int .i64 0, .slice none 0 0, .int .i64 0, .int .i64 0, .int .i64 0, .int .i64 0, .int .i64 0, .int .i64 0, .int .i64 0, .int .i64 0, .int .i64 0, .int .i64 0, .int .i64 0, .int .i64 0, .int .i64 0, .int .i64 0, .int .i64 0, .int .i64 0, .int .i64 0] 33))) := ((Gd.refl w).new _).new _
  have hbc := hc.lt
  have C0 : Hid (Wf ((w.alloc (.cells #[.int .i64 0, .slice none 0 0, .int .i64 0, .int .i64 0, .int .i64 0, .int .i64 0, .int .i64 0, .int .i64 0, .int .i64 0, .int .i64 0, .int .i64 0, .int .i64 0, .int .i64 0, .int .i64 0, .int .i64 0, .int .i64 0, .int .i64 0, .int .i64 0, .int .i64 0] 33)).alloc (.cells #[.int .i64 0, .slice none 0 0, .int .i64 0, .int .i64 0, .int .i64 0, .int .i64 0, .int .i64 0, .int .i64 0, .int .i64 0, .int .i64 0, .int .i64 0, .int .i64 0, .int .i64 0, .int .i64 0, .int .i64 0, .int .i64 0, .int .i64 0, .int .i64 0, .int .i64 0] 33)) bc oc c) := (hc.later (new_below _ _)).later (new_below _ _)
  clear hc
  go_enter Tryd.func5, Tryd.ntmps5
  go_wp2_with (first
    | (generalize ((w.alloc (.cells #[.int .i64 0, .slice none 0 0, .int .i64 0, .int .i64 0, .int .i64 0, .int .i64 0, .int .i64 0, .int .i64 0, .int .i64 0, .int .i64 0, .int .i64 0, .int .i64 0, .int .i64 0, .int .i64 0, .int .i64 0, .int .i64 0, .int .i64 0, .int .i64 0, .int .i64 0] 33)).alloc (.cells #[.int .i64 0, .slice none 0 0, .int .i64 0, .int .i64 0, .int .i64 0, .int .i64 0, .int .i64 0, .int .i64 0, .int .i64 0, .int .i64 0, .int .i64 0, .int .i64 0, .int .i64 0, .int .i64 0, .int .i64 0, .int .i64 0, .int .i64 0, .int .i64 0, .int .i64 0] 33)) = W0 at R0 T0 G0 C0 ⊢
       refine wpList_store_mid rfl 33 _ _ rfl (w.heap.size + 1) _ #[.int .i64 kind, .slice none 0 0, .int .i64 0, .int .i64 0, .int .i64 0, .int .i64 0, .int .i64 0, .int .i64 0, .int .i64 0, .int .i64 0, .int .i64 0, .int .i64 0, .int .i64 0, .int .i64 0, .int .i64 0, .int .i64 0, .int .i64 0, .int .i64 0, .int .i64 0] rfl rfl (T0.out.thereL (by rw [tg_length]; rfl)) HTW.out (nil_all kind) ?_
       have R : Hid (Bo (W0.setCells (w.heap.size + 1) 0 [.int .i64 kind, .slice none 0 0, .int .i64 0, .int .i64 0, .int .i64 0, .int .i64 0, .int .i64 0, .int .i64 0, .int .i64 0, .int .i64 0, .int .i64 0, .int .i64 0, .int .i64 0, .int .i64 0, .int .i64 0, .int .i64 0, .int .i64 0, .int .i64 0, .int .i64 0]) w.heap.size (tg 0 (.slice none 0 0) Tb.zero 0)) := R0.out.asideL (by omega) _ _
       have T : Hid (Bo (W0.setCells (w.heap.size + 1) 0 [.int .i64 kind, .slice none 0 0, .int .i64 0, .int .i64 0, .int .i64 0, .int .i64 0, .int .i64 0, .int .i64 0, .int .i64 0, .int .i64 0, .int .i64 0, .int .i64 0, .int .i64 0, .int .i64 0, .int .i64 0, .int .i64 0, .int .i64 0, .int .i64 0, .int .i64 0]) (w.heap.size + 1) (tg kind (.slice none 0 0) Tb.zero 0)) := T0.out.setZ kind
       have G : Hid (Gd w.heap.size w (W0.setCells (w.heap.size + 1) 0 [.int .i64 kind, .slice none 0 0, .int .i64 0, .int .i64 0, .int .i64 0, .int .i64 0, .int .i64 0, .int .i64 0, .int .i64 0, .int .i64 0, .int .i64 0, .int .i64 0, .int .i64 0, .int .i64 0, .int .i64 0, .int .i64 0, .int .i64 0, .int .i64 0, .int .i64 0])) := G0.out.asideL (by omega) _ _
       have C : Hid (Wf (W0.setCells (w.heap.size + 1) 0 [.int .i64 kind, .slice none 0 0, .int .i64 0, .int .i64 0, .int .i64 0, .int .i64 0, .int .i64 0, .int .i64 0, .int .i64 0, .int .i64 0, .int .i64 0, .int .i64 0, .int .i64 0, .int .i64 0, .int .i64 0, .int .i64 0, .int .i64 0, .int .i64 0, .int .i64 0]) bc oc c) := C0.out.keep (heap_setCells (by omega) _ _ _)
       clear R0 T0 G0 C0
       generalize W0.setCells (w.heap.size + 1) 0 [.int .i64 kind, .slice none 0 0, .int .i64 0, .int .i64 0, .int .i64 0, .int .i64 0, .int .i64 0, .int .i64 0, .int .i64 0, .int .i64 0, .int .i64 0, .int .i64 0, .int .i64 0, .int .i64 0, .int .i64 0, .int .i64 0, .int .i64 0, .int .i64 0, .int .i64 0] = W at R T G C ⊢))
  generalize hsz : w.heap.size = n at R T G hbc ⊢
  have HSZ : Hid (w.heap.size = n) := hsz
  clear hsz
  go_wp2_with fail
  refine (rwithin_yes kind 1 6 _ hk.1 hk.2).mono ?_
  rintro e ux ⟨rfl, hw⟩
  rw [hw]; clear hw ux
  go_wp2_with fail
  go_loopg [19] 17 (fun gg s19 wt => wt = W ∧ ∃ i : Nat, i ≤ 17 ∧ 17 - i ≤ gg ∧ s19 = .int .i64 i ∧ Hid (∀ j, j < i → c j ≤ 4294967295))
  case atStart => exact ⟨rfl, 0, by omega, by omega, rfl, fun j hj => absurd hj (by omega)⟩
  case round =>
    obtain ⟨rfl, i, hi, hgg, rfl, U⟩ := hrel
    by_cases hlt : i < 17
    · have g0 := C.out.cell i hlt
      have hi1 : (i : Int) < 17 := by omega
      have hi0 : (0 : Int) ≤ (i : Int) := by omega
      by_cases hle : c i ≤ 4294967295
      · have U' : Hid (∀ j, j < i + 1 → c j ≤ 4294967295) := fun j hj => by
          by_cases e : j = i
          · subst e; exact hle
          · exact U.out j (by omega)
        have hd : ¬ 4294967295 < ((c i : Nat) : Int) := by omega
        clear U
        generalize c i = x at g0 hd hle
        clear hle
        go_wp2
        go_roundg (17 - (i + 1))
        case measure => omega
        case rel => exact ⟨rfl, i + 1, by omega, by omega, by go_num, U'⟩
      · exact absurd (HM.out i hlt) hle
    · obtain rfl : i = 17 := by omega
      clear U hlt
      have g0 : wr.cell? ⟨bc, oc, none⟩ = _ := C.out.cell 0 (by decide)
      have h6 := H6.out
      have hd : decide ((6 : Int) < ((c 0 : Nat) : Int)) = true := by simp; omega
      generalize c 0 = z at g0 hd
      clear h6
      go_wp2_with (first
        | (refine wpList_load_mid rfl 33 _ rfl (n + 1) _ rfl (tg kind (.slice none 0 0) Tb.zero 0) _ T.out.range HTD.out rfl (HTS.out _ _ _ _) ?_)
        | (refine wpList_store_mid rfl 33 _ _ rfl n _ (tg kind (.slice none 0 0) Tb.zero 0).toArray rfl rfl (R.out.thereT kind (.slice none 0 0) Tb.zero 0) (HTZ.out _ _ _ _) (tg_all _ rfl _ _) ?_
           have RS : Hid (Bo (wr.setCells n 0 (tg kind (.slice none 0 0) Tb.zero 0)) n (tg kind (.slice none 0 0) Tb.zero 0)) := R.out.setT kind (.slice none 0 0) Tb.zero 0
           have GS : Hid (Gd n w (wr.setCells n 0 (tg kind (.slice none 0 0) Tb.zero 0))) := G.out.asideL (Nat.le_refl _) _ _
           clear R T G
           generalize wr.setCells n 0 (tg kind (.slice none 0 0) Tb.zero 0) = V at RS GS ⊢))
      exact bodyPost_ret (results_rowS Tryd.results5 _ _ n (tg kind (.slice none 0 0) Tb.zero 0) _ (.bool false) rfl rfl RS.out.range HTD.out rfl (HTS.out _ _ _ _)) rfl ⟨(.slice none 0 0), Tb.zero, 0, rfl, rfl, GS.out.2⟩
end Go.Proofs.YtbmgjpdfmgcigabDoor.Tab
