/- StoreAll is proved: for every list of deeds the call returns true (a crash at which each line lands changes no word), with no condition beyond the form's own. -/
import Derived.Test.YthgkmbimmelglacRows
import Derived.Test.YthgkmbimmelglacArgs
import Derived.Test.YthgkmbimmelglacKp3
import Derived.Test.YthgkmbimmelglacLoc
import Derived.Test.YthgkmbimmelglacCopy
import Derived.Deep.RegionHeld3
import Derived.WalkKit

namespace Go.Proofs.Ythgkmbimmelglac.storeAll
open Go.ChangeShapes Go.WideShapes Go.ChangeAt Go.RowKit
set_option linter.unusedVariables false

theorem own : ownKnob Try.prog.godebug = none := by kernel_rfl

theorem all_bits : ∀ k, k < 9 → (18446744073709551615 : Nat).testBit k = true := by decide
theorem all_same (s : St) (k : Nat) (hk : k < 9) : same s.now (k * 8) (s.crash 18446744073709551615).now (k * 8) 8 = true := same_of _ _ _ _ _ fun i hi => by
  rw [crash_now s k _ i hi, all_bits k hk]; rfl

set_option maxHeartbeats 2000000 in
theorem walk (v0 : Value) (n0 : Nat) (w : World) (D0 : Deeds w v0 n0) :
    Calls Try.prog 3 #[v0] w fun e w' => e = .returned (.bool true) ∧ Gr w w' := by
  have HL : ∃ A c, v0 = .slice A n0 c := by
    rcases D0 with ⟨h, rfl⟩ | ⟨a, c, h, _⟩
    · exact ⟨_, _, h⟩
    · exact ⟨_, _, h⟩
  by_cases hn : n0 ≤ 60
  · clear HL
    go_enter Try.func3, Try.ntmps3
    go_wp2_with fail
    refine (kept_any _).mono ?_
    rintro e u1 ⟨rfl, g1⟩
    go_wp2_with fail
    refine (done_any v0 n0 _ hn (D0.gr g1)).mono ?_
    rintro e u2 ⟨rfl, ⟨s, h2⟩, g2⟩
    have hb : Hid (w.heap.size ≤ u1.heap.size) := g1.below.size
    generalize u1.heap.size = b at *
    have G : Hid (Gr w u2) := g1.trans g2
    clear g1 g2
    go_wp2_with fail
    refine (Copy_any b _ _ h2).mono ?_
    rintro e u4 ⟨rfl, c4, g4⟩
    have h4 := h2.gr g4
    have G4 : Hid (Gr w u4) := G.out.trans g4
    have hbc : b ≠ u2.heap.size := Nat.ne_of_lt h2.lt
    have hc : Hid (w.heap.size ≤ u2.heap.size) := G.out.below.size
    generalize u2.heap.size = c at *
    clear G g4 h2
    go_wp2_with fail
    refine (Crash_any 18446744073709551615 c _ _ (by decide) c4).mono ?_
    rintro e u5 ⟨rfl, c5, o5⟩
    have h5 := h4.only hbc o5
    have G5 : Hid (Gr w u5) := G4.out.only hc.out o5
    clear G4 o5 h4 c4
    go_wp2
    go_loopw [5] (fun i wr => ∃ k : Nat, k ≤ 9 ∧ i = .int .i64 k ∧ Gr u5 wr)
      (fun i _ => 9 - (intOf i).toNat)
    case atStart => exact ⟨0, by omega, rfl, Gr.refl _⟩
    case round =>
      obtain ⟨k, hk, rfl, g⟩ := hrel
      by_cases hlt : k < 9
      · have s0 := h5.gr g
        have t0 := c5.gr g
        have he := line_equal s.now (s.crash 18446744073709551615).now (k * 8) (k * 8)
        rw [all_same s k hlt] at he
        have E2 : Hid _ := crash_clean s k 18446744073709551615
        go_wp2_with fail
        refine (lineNow_yes k b s _ hlt s0).mono ?_
        rintro e u6 ⟨rfl, g6⟩
        have t6 := t0.gr g6
        have G6 : Hid (Gr u5 u6) := g.trans g6
        clear s0 t0 g g6
        go_wp2_with fail
        refine (lineNow_yes k c _ _ hlt t6).mono ?_
        rintro e u7 ⟨rfl, g7⟩
        have t7 := t6.gr g7
        have G7 : Hid (Gr u5 u7) := G6.out.trans g7
        clear t6 g7 G6
        go_wp2_with fail
        refine (Dirty_yes k c _ _ hlt t7).mono ?_
        rintro e u8 ⟨rfl, q, hu⟩
        rw [E2.out]
        have G8 : Hid (Gr u5 u8) := by rw [hu]; exact G7.out.drewN q
        clear hu t7 G7
        go_wp2
        go_roundw
        case rel => exact ⟨k + 1, by omega, by go_num, G8.out⟩
        case measure => simp [intOf]; omega
      · go_wp2
        go_ret
        exact ⟨rfl, G5.out.trans g⟩
  · obtain ⟨A, c, rfl⟩ := HL
    have hn' : (60 : Int) < (n0 : Int) := by omega
    go_enter Try.func3, Try.ntmps3
    go_wp2_with fail
    refine (kept_any _).mono ?_
    rintro e u1 ⟨rfl, g1⟩
    go_wp2_with fail
    refine (done_many _ n0 _ (by omega) (D0.gr g1)).mono ?_
    rintro e u2 ⟨rfl, g2⟩
    go_wp2
    go_ret
    exact ⟨rfl, g1.trans g2⟩


set_option maxRecDepth 100000 in
theorem lifted (os : Os) (started : os.Started) (H : Type) (enc : TypeId × Value → H) :
    ReturnsInHanded {} Try.checked os 3 .any (Rows.storeAllSpec.pre6 enc Try.prog Try.f3 Rows.storeAllRow.domain false) (Rows.storeAllSpec.post enc Try.prog Try.f3 false true false false) := by
  refine returnsInHanded_of_change (C := Try.checked) own started (by kernel_rfl) Try.func3
    (ChangeSpec.witness6 (enc := enc) (C := Try.checked) false ⟨#[], #[.slice none 0 0], []⟩ 8 (by kernel_rfl) (by kernel_rfl) (by kernel_rfl) (by kernel_rfl)) ?_
  intro W base args ds gs before hval0 hW hcnd _
  have hval : ∀ (j : Nat) t v, Try.f3.params[j]? = some t → args[j]? = some v → Value.okWide Try.prog W .any base t v := hval0
  have hW' := hW
  obtain ⟨p, q, hA0, hV, rfl, hfz, hnd⟩ := hW
  have hA : DataW.TrodAll enc Try.prog W 0 (fun _ => true) true Try.f3.params.toList args.toList ds p := hA0
  rw [Try.params3] at hA hval
  obtain ⟨v0, vs0, d0, ds0, p0, q0, hargs, rfl, rfl, h0, r0⟩ := trodAll_cons hA
  obtain ⟨rfl, rfl, rfl⟩ := trodAll_nil r0
  obtain rfl : args = #[v0] := by cases args; simp_all
  obtain ⟨rfl, rfl⟩ := trodVars_none hV
  obtain ⟨n0, D0⟩ := deeds_of_trod (hval 0 22 v0 rfl rfl) h0
  have hlt := hW'.lt
  clear hA0 hval0
  refine (walk v0 n0  W D0).mono fun e W' ⟨he, hg⟩ => ?_
  subst he
  exact ⟨_, rfl, post_of_same (pv := []) hW' (fun _ _ _ => (trodAll_cons_mk (shut_bool Try.underlying4 _) trodAll_mk0)) (fun sp hsp => (trodAll_cons_mk (deeds_stay h0 hg.below (fun x hx => hlt x (by simp [hx])) (fun x hx => hsp x (by simp [hx]))) trodAll_mk0)) (fun _ _ => rfl) (by simp)
    (hg.grown.frame _) hg.froz (ok_one (by kernel_rfl) rfl (okWide_bool_mk Try.underlying4 _))⟩

theorem over : Rows.storeAllRow.holds Try.pinned (OpenSpec.ofChange Rows.storeAllSpec) :=
  OpenClaim.holds_of_wide 3 Try.f3 rfl rfl rfl rfl rfl rfl rfl ⟨rfl, rfl, rfl, rfl, rfl⟩ rfl rfl rfl rfl rfl (by kernel_rfl) Try.func3 (by kernel_rfl)
    (of_decide_eq_true (by kernel_rfl)) (by unfold Func.isWrapper; first | (rw [if_pos (by decide +kernel)]; kernel_rfl) | (rw [if_neg (by decide +kernel)]; exact ⟨rfl, rfl⟩))
    (fun os started H enc _ => lifted os started H enc)

theorem proved : Rows.StoreAllSaid :=
  over
#print axioms proved
end Go.Proofs.Ythgkmbimmelglac.storeAll
