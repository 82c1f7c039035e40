/- Texts laid together: The reference's Batch, by its contracts; The law recordOf of nothing, sameDeeds, by their contracts; A row of asks of the call's own, as it lies; The law asksOf, by its contract; Batch, the reference's and the program's, of whatever list of asks; errors.As at an error at a place, by its contract; An error taken apart, at a place; the law placed, by its contracts; The law's recordOf, by its contract. -/
import Derived.Test.YteogbpaaacmllaaGreatDoorPk10
import Derived.Test.YteogbpaaacmllaaGreatDoorPk11
import Derived.Test.YteogbpaaacmllaaGreatDoorPk12
import Derived.Deep.DeepCutAuto
import Derived.Deep.RegionHeld3
import Derived.Test.YteogbpaaacmllaaGreatDoorPk04
import Derived.Test.YteogbpaaacmllaaGreatDoorPk07
import Derived.Test.YteogbpaaacmllaaGreatDoorPk03
namespace Go.Proofs.YteogbpaaacmllaaGreatDoor.Tab
set_option maxRecDepth 20000
open Go.RowKit
set_option linter.unusedVariables false

theorem rfAns {w : World} {b t : Nat} {th : List Value} {s : Nat → Nat} (h : Bo w b (rv (rf th s 4))) (ht : t < 4) : w.rangeAt b (19 + t * 2) [.int .i64 ((s (18 + t) / 4294967296 : Nat) : Int), .int .i64 ((s (18 + t) % 4294967296 : Nat) : Int)] := fun j v hv => by
  match j, hv with
  | 0, hv => exact h.rcell (j := 19 + t * 2) (by omega) ((rf_code ht ht).trans (by simpa using hv))
  | 1, hv => exact h.rcell (j := 19 + t * 2 + 1) (by omega) ((rf_val ht ht).trans (by simpa using hv))
/-- What the reference's Batch answers. -/
def RbY (r : Nat → Nat) (q : Nat → AK) (n : Nat) (w : World) (e : Ending) (w' : World) : Prop := ∃ b v', e = .returned (.tuple #[.slice (some ⟨b, 0, none⟩) 32 32, v', .agg #[.int .i64 0, .int .i64 (-1)]]) ∧ w.heap.size ≤ b ∧ Bo w' b (rl (bump (st r q n))) ∧ Odd w.heap.size w' v' (dn r q n) ∧ Below w.heap.size w w'
def RbN (a p : Int) (w : World) (e : Ending) (w' : World) : Prop := e = .returned (.tuple #[.slice none 0 0, .slice none 0 0, .agg #[.int .i64 a, .int .i64 p]]) ∧ Below w.heap.size w w'
set_option maxHeartbeats 4000000 in
theorem RBatch_not {r : Nat → Nat} (U : ∀ j, j < 32 → r j < 18446744073709551616) (h : ¬ isRec r) (a : Option Addr) (m c : Nat) {bc : Nat} (w : World) (hC : Bo w bc (rl r)) :
    Calls Tryz.prog 7 #[.slice (some ⟨bc, 0, none⟩) 32 32, .slice a m c] w (RbN 1 (-1) w) := by
  have RO : Hid (∀ w (hC : Bo w bc (rl r)), _) := fun w hC => RecOf_is U (b := false) ⟨fun e => (by cases e), fun e => absurd e h⟩ w hC
  have HC : Hid _ := hC
  clear h U hC
  have hM : Hid _ := ((Ms.nil w).born [.int .i64 0, .int .i64 0] 30 (b := w.heap.size) rfl)
  go_enter Tryz.func7, Tryz.ntmps7
  go_wp2_with fail
  generalize World.alloc _ _ = W at hM ⊢
  refine (RO.out _ (HC.out.later hM.out.below)).mono ?_
  rintro e W ⟨f, hf, rfl, _, hb⟩
  replace hM := hid (hM.out.later hb)
  clear hb
  have F1 : Hid _ := hf
  clear hf
  obtain ⟨bx1, hbx1⟩ : ∃ q, q = W.heap.size := ⟨_, rfl⟩
  replace hM := hid (hM.out.bornR zf_all.symm 77 (b := bx1) hbx1)
  have Hbx1 : Hid _ := hbx1
  clear hbx1
  go_wp2_with (first
    | (rw [← Hbx1.out]; refine sR rfl (hM.out.at 0 rfl) rfl ((rwV zf_one).len (rwV F1.out)) (rwV F1.out) ?_
       replace hM := hid (hM.out.put 0 rfl (rv f) ((rwV zf_one).len (rwV F1.out)))
       generalize World.setCells _ _ _ _ = W at hM ⊢))
  refine (rbare_is 1 _).mono ?_
  rintro e W ⟨rfl, hb⟩
  replace hM := hid (hM.out.later hb)
  clear hb
  go_wp2_with (first
    | (refine sR rfl (hM.out.at 1 rfl) rfl ((rwF 0 0).len (rwF 1 (-1))) (rwF 1 (-1)) ?_
       replace hM := hid (hM.out.put 1 rfl [.int .i64 1, .int .i64 (-1)] ((rwF 0 0).len (rwF 1 (-1))))
       generalize World.setCells _ _ _ _ = W at hM ⊢))
  exact bodyPost_ret (resss1 Tryz.results7 (.slice none 0 0) (.slice none 0 0) (hM.out.at 1 rfl) (rwF 1 (-1))) rfl ⟨rfl, hM.out.below⟩
set_option maxHeartbeats 8000000 in
theorem RBatch_nil {r : Nat → Nat} (hr : isRec r) (q : Nat → AK) {bc : Nat} (w : World) (hC : Bo w bc (rl r)) :
    Calls Tryz.prog 7 #[.slice (some ⟨bc, 0, none⟩) 32 32, .slice none 0 0] w (RbY r q 0 w) := by
  obtain ⟨m, hm⟩ : ∃ m, m = 0 := ⟨_, rfl⟩
  have hO : ∀ j, j < m → Oka (st r q j) (q j) := fun j hj => by omega
  have UU : Hid (∀ j, j < 32 → r j < 18446744073709551616) := hr.u64
  have RO : Hid (∀ w (hC : Bo w bc (rl r)), _) := fun w hC => RecOf_is hr.u64 (b := true) ⟨fun _ => hr, fun _ => rfl⟩ w hC
  have HC : Hid _ := hC
  clear hC
  have K6 : ((r 0 : Nat) : Int) ≤ 6 := hr.ob1.2
  have S0 : Hid (∀ i, i ≤ m → st r q i 0 = r 0) := fun i hi => st_0 fun j hj => hO j (by omega)
  have IR : Hid (∀ i, i ≤ m → Irec (st r q i)) := fun i hi => st_irec hr fun j hj => hO j (by omega)
  have HO : Hid _ := hO
  clear hO
  have hM : Hid _ := ((Ms.nil w).born [.int .i64 0, .int .i64 0] 30 (b := w.heap.size) rfl)
  go_enter Tryz.func7, Tryz.ntmps7
  go_wp2_with fail
  generalize World.alloc _ _ = W at hM ⊢
  generalize hsz : w.heap.size = n0 at hM ⊢
  have HSZ : Hid (w.heap.size = n0) := hsz
  clear hsz
  refine (RO.out _ (HC.out.later hM.out.below)).mono ?_
  rintro e W ⟨f, hf, rfl, hth, hb⟩
  obtain ⟨B0, v, tt, x0, hB0, hv, hrow, hTh⟩ := hth (by first | rfl | trivial)
  replace hM := hid (hM.out.laterL hb (hTh.isl K6) hB0)
  clear hb
  rw [hrow]
  have HV0 : Hid _ := hv
  have TQ0 : Hid _ := hTh.tq
  clear hf hth hB0 hv hrow hTh hr
  obtain ⟨kk, hkk⟩ : ∃ k, k = r 0 := ⟨_, rfl⟩
  rw [← hkk] at hM K6 TQ0 S0 ⊢
  clear hkk
  have F1 : Hid (∀ j, j < 37 → (rf (tg (kk : Nat) v tt x0) r 4 j).oneCell' = true) := rf_one (tg_one _ HV0.out tt x0) (tg_length _ _ _ _)
  have hfl := hM.out.len 0 rfl
  obtain ⟨bx1, hbx1⟩ : ∃ q, q = W.heap.size := ⟨_, rfl⟩
  replace hM := hid (hM.out.bornR zf_all.symm 77 (b := bx1) hbx1)
  have Hbx1 : Hid _ := hbx1
  clear hbx1
  have HB7 : Hid (n0 < bx1) := hid (by have := Hbx1.out; omega)
  clear hfl
  go_wp2_with (first
    | (rw [← Hbx1.out]; refine sR rfl (hM.out.at 0 rfl) rfl ((rwV zf_one).len (rwV F1.out)) (rwV F1.out) ?_
       replace hM := hid (hM.out.put 0 rfl (rv (rf (tg (kk : Nat) v tt x0) r 4)) ((rwV zf_one).len (rwV F1.out)))
       generalize World.setCells _ _ _ _ = W at hM ⊢))
  have SI : Hid (r 0 = kk) := S0.out 0 (by omega)
  have II : Hid (Irec r) := IR.out 0 (by omega)
  have HV := HV0
  have TQ := TQ0
  clear S0 IR HO hm HV0 TQ0
  have HSB2 : Hid (bump (st r q 0) = bump r) := hid rfl
  go_loopg [9, 22] 0 (fun gg s9 s22 wt => wt = W ∧ s9 = .slice none 0 0 ∧ s22 = .int .i64 0)
  case atStart => exact ⟨rfl, rfl, rfl⟩
  case round =>
    obtain ⟨hw, rfl, rfl⟩ := hrel
    rw [hw]; clear hw wr
    obtain ⟨vn, hvn⟩ : ∃ z, z = r 27 := ⟨_, rfl⟩
    have w27 : IntKind.u64.wrap ((vn : Int) + 1) = ((vn + 1 : Nat) : Int) := by rw [IntKind.wrap_u64]; have := II.out.2.2.2.2.2.1; omega
    obtain ⟨v1, hv1⟩ : ∃ z, z = vn + 1 := ⟨_, rfl⟩
    rw [← hv1] at w27
    obtain ⟨sb, hsb⟩ : ∃ z, z = bump r := ⟨_, rfl⟩
    have HRB : Hid (rv (upv (rf (tg (kk : Nat) v tt x0) r 4) 35 (.int .u64 (v1 : Nat))) = rv (rf (tg (kk : Nat) v tt x0) sb 4)) := hid (by rw [hsb, ← rf_bump, hv1, hvn])
    have HVN : Hid (vn = r 27) := hvn
    have HSB : Hid (sb = bump r) := hsb
    clear hvn hv1 hsb
    have F2 : Hid (∀ j, j < 37 → (rf (tg (kk : Nat) v tt x0) sb 4 j).oneCell' = true) := rf_one (tg_one _ HV.out tt x0) (tg_length _ _ _ _)
    have WO : Hid (∀ {B : Nat} (w : World) (hT : Th B w (kk : Nat) (ob r) v tt x0), Calls Tryz.prog 34 #[.agg (rv (rf (tg (kk : Nat) v tt x0) sb 4)).toArray] w (fun e w' => (∃ b, e = .returned (.slice (some ⟨b, 0, none⟩) 32 32) ∧ w.heap.size ≤ b ∧ Bo w' b (rl sb)) ∧ Below w.heap.size w w')) := fun {B} w hT => by
      have hI := II.out
      have e0 : sb 0 = kk := by rw [HSB.out]; show r 0 = kk; exact SI.out
      have hob : ∀ j, j < 17 → ob r j = ob sb j := fun j hj => by rw [HSB.out]; unfold ob bump; rw [upw_ne (by omega)]
      have hTh : isTh (kk : Nat) (ob r) := by have := isTh_ob.2 hI.1; rw [SI.out] at this; exact this
      have hU : ∀ j, j < 32 → sb j < 18446744073709551616 := fun j hj => by
        rw [HSB.out]; unfold bump upw
        by_cases e : j = 27
        · rw [if_pos e]; have := hI.2.2.2.2.2.1; omega
        · rw [if_neg e]; exact UU.out j hj
      have hA : ∀ t, t < 4 → sb (18 + t) = 0 ∨ Aw (sb (18 + t)) := fun t ht => by
        rw [HSB.out]; unfold bump; rw [upw_ne (by omega)]; exact (hI.2.1 t ht).2
      have h := Words_is (ρ := sb) (c := ob r) (th := (tg (kk : Nat) v tt x0)) (tg_length _ _ _ _) (tg_one _ HV.out tt x0) (rwTh _ HV.out tt x0) (by rw [e0]; rfl) (by rw [e0]; omega) hob hU hA w (fun W9 hb => TCells_is hTh (hT.later hb))
      have e2 : rl (nw sb) = rl sb := by rw [HSB.out]; exact irec_nw hI
      rw [e2] at h
      exact h
    have x2 := (hM.out.at 0 rfl).rcell (j := 35) (by decide) (rf_ver.trans (by rw [← HVN.out]))
    go_wp2_with (first
      | (refine s1 rfl (hM.out.at 0 rfl) 35 rfl (.int .u64 (v1 : Nat)) rfl sz_u ?_ (by rw [rv_length]; decide)
         replace hM := hid (hM.out.put1 0 35 rfl (.int .u64 (v1 : Nat)) (rv (upv (rf (tg (kk : Nat) v tt x0) r 4) 35 (.int .u64 (v1 : Nat)))) (by rw [rv_length]; decide) (rv_set _ _ (by decide)))
         generalize World.setCell _ _ _ = W at hM ⊢
         clear x2
         rw [HRB.out] at hM)
      | (refine lR rfl (hM.out.at 0 rfl) rfl (rwV F2.out) ?_))
    refine (WO.out _ (TQ.out.th (hM.out.isL 0 rfl))).mono ?_
    rintro e W ⟨⟨bq, rfl, hq, hWq⟩, hb⟩
    replace hM := hid (hM.out.laterB hb hq hWq)
    clear hb
    clear hq hWq
    go_wp2_with fail
    refine (rgood_is _).mono ?_
    rintro e W ⟨rfl, hb⟩
    replace hM := hid (hM.out.later hb)
    clear hb
    go_wp2_with (first
      | (refine sR rfl (hM.out.at 2 rfl) rfl ((rwF 0 0).len (rwF 0 (-1))) (rwF 0 (-1)) ?_
         replace hM := hid (hM.out.put 2 rfl [.int .i64 0, .int .i64 (-1)] ((rwF 0 0).len (rwF 0 (-1))))
         generalize World.setCells _ _ _ _ = W at hM ⊢))
    exact bodyPost_ret (resss1 Tryz.results7 (.slice (some ⟨bq, 0, none⟩) 32 32) (.slice none 0 0) (hM.out.at 2 rfl) (rwF 0 (-1))) rfl ⟨bq, .slice none 0 0, rfl, by rw [HSZ.out]; exact hM.out.key 0 rfl, by rw [HSB2.out, ← HSB.out]; exact (hM.out.at 0 rfl), Odd.nil _ _, hM.out.below⟩
set_option maxHeartbeats 8000000 in
theorem RBatch_none {r : Nat → Nat} (hr : isRec r) (q : Nat → AK) (a : Addr) (c : Nat) {bc : Nat} (w : World) (hC : Bo w bc (rl r)) :
    Calls Tryz.prog 7 #[.slice (some ⟨bc, 0, none⟩) 32 32, .slice (some a) 0 c] w (RbY r q 0 w) := by
  obtain ⟨m, hm⟩ : ∃ m, m = 0 := ⟨_, rfl⟩
  have hO : ∀ j, j < m → Oka (st r q j) (q j) := fun j hj => by omega
  have UU : Hid (∀ j, j < 32 → r j < 18446744073709551616) := hr.u64
  have RO : Hid (∀ w (hC : Bo w bc (rl r)), _) := fun w hC => RecOf_is hr.u64 (b := true) ⟨fun _ => hr, fun _ => rfl⟩ w hC
  have HC : Hid _ := hC
  clear hC
  have K6 : ((r 0 : Nat) : Int) ≤ 6 := hr.ob1.2
  have S0 : Hid (∀ i, i ≤ m → st r q i 0 = r 0) := fun i hi => st_0 fun j hj => hO j (by omega)
  have IR : Hid (∀ i, i ≤ m → Irec (st r q i)) := fun i hi => st_irec hr fun j hj => hO j (by omega)
  have HO : Hid _ := hO
  clear hO
  have hM : Hid _ := ((Ms.nil w).born [.int .i64 0, .int .i64 0] 30 (b := w.heap.size) rfl)
  go_enter Tryz.func7, Tryz.ntmps7
  go_wp2_with fail
  generalize World.alloc _ _ = W at hM ⊢
  generalize hsz : w.heap.size = n0 at hM ⊢
  have HSZ : Hid (w.heap.size = n0) := hsz
  clear hsz
  refine (RO.out _ (HC.out.later hM.out.below)).mono ?_
  rintro e W ⟨f, hf, rfl, hth, hb⟩
  obtain ⟨B0, v, tt, x0, hB0, hv, hrow, hTh⟩ := hth (by first | rfl | trivial)
  replace hM := hid (hM.out.laterL hb (hTh.isl K6) hB0)
  clear hb
  rw [hrow]
  have HV0 : Hid _ := hv
  have TQ0 : Hid _ := hTh.tq
  clear hf hth hB0 hv hrow hTh hr
  obtain ⟨kk, hkk⟩ : ∃ k, k = r 0 := ⟨_, rfl⟩
  rw [← hkk] at hM K6 TQ0 S0 ⊢
  clear hkk
  have F1 : Hid (∀ j, j < 37 → (rf (tg (kk : Nat) v tt x0) r 4 j).oneCell' = true) := rf_one (tg_one _ HV0.out tt x0) (tg_length _ _ _ _)
  have hfl := hM.out.len 0 rfl
  obtain ⟨bx1, hbx1⟩ : ∃ q, q = W.heap.size := ⟨_, rfl⟩
  replace hM := hid (hM.out.bornR zf_all.symm 77 (b := bx1) hbx1)
  have Hbx1 : Hid _ := hbx1
  clear hbx1
  have HB7 : Hid (n0 < bx1) := hid (by have := Hbx1.out; omega)
  clear hfl
  go_wp2_with (first
    | (rw [← Hbx1.out]; refine sR rfl (hM.out.at 0 rfl) rfl ((rwV zf_one).len (rwV F1.out)) (rwV F1.out) ?_
       replace hM := hid (hM.out.put 0 rfl (rv (rf (tg (kk : Nat) v tt x0) r 4)) ((rwV zf_one).len (rwV F1.out)))
       generalize World.setCells _ _ _ _ = W at hM ⊢))
  have SI : Hid (r 0 = kk) := S0.out 0 (by omega)
  have II : Hid (Irec r) := IR.out 0 (by omega)
  have HV := HV0
  have TQ := TQ0
  clear S0 IR HO hm HV0 TQ0
  have HSB2 : Hid (bump (st r q 0) = bump r) := hid rfl
  go_loopg [9, 22] 0 (fun gg s9 s22 wt => wt = W ∧ s9 = .slice none 0 0 ∧ s22 = .int .i64 0)
  case atStart => exact ⟨rfl, rfl, rfl⟩
  case round =>
    obtain ⟨hw, rfl, rfl⟩ := hrel
    rw [hw]; clear hw wr
    obtain ⟨vn, hvn⟩ : ∃ z, z = r 27 := ⟨_, rfl⟩
    have w27 : IntKind.u64.wrap ((vn : Int) + 1) = ((vn + 1 : Nat) : Int) := by rw [IntKind.wrap_u64]; have := II.out.2.2.2.2.2.1; omega
    obtain ⟨v1, hv1⟩ : ∃ z, z = vn + 1 := ⟨_, rfl⟩
    rw [← hv1] at w27
    obtain ⟨sb, hsb⟩ : ∃ z, z = bump r := ⟨_, rfl⟩
    have HRB : Hid (rv (upv (rf (tg (kk : Nat) v tt x0) r 4) 35 (.int .u64 (v1 : Nat))) = rv (rf (tg (kk : Nat) v tt x0) sb 4)) := hid (by rw [hsb, ← rf_bump, hv1, hvn])
    have HVN : Hid (vn = r 27) := hvn
    have HSB : Hid (sb = bump r) := hsb
    clear hvn hv1 hsb
    have F2 : Hid (∀ j, j < 37 → (rf (tg (kk : Nat) v tt x0) sb 4 j).oneCell' = true) := rf_one (tg_one _ HV.out tt x0) (tg_length _ _ _ _)
    have WO : Hid (∀ {B : Nat} (w : World) (hT : Th B w (kk : Nat) (ob r) v tt x0), Calls Tryz.prog 34 #[.agg (rv (rf (tg (kk : Nat) v tt x0) sb 4)).toArray] w (fun e w' => (∃ b, e = .returned (.slice (some ⟨b, 0, none⟩) 32 32) ∧ w.heap.size ≤ b ∧ Bo w' b (rl sb)) ∧ Below w.heap.size w w')) := fun {B} w hT => by
      have hI := II.out
      have e0 : sb 0 = kk := by rw [HSB.out]; show r 0 = kk; exact SI.out
      have hob : ∀ j, j < 17 → ob r j = ob sb j := fun j hj => by rw [HSB.out]; unfold ob bump; rw [upw_ne (by omega)]
      have hTh : isTh (kk : Nat) (ob r) := by have := isTh_ob.2 hI.1; rw [SI.out] at this; exact this
      have hU : ∀ j, j < 32 → sb j < 18446744073709551616 := fun j hj => by
        rw [HSB.out]; unfold bump upw
        by_cases e : j = 27
        · rw [if_pos e]; have := hI.2.2.2.2.2.1; omega
        · rw [if_neg e]; exact UU.out j hj
      have hA : ∀ t, t < 4 → sb (18 + t) = 0 ∨ Aw (sb (18 + t)) := fun t ht => by
        rw [HSB.out]; unfold bump; rw [upw_ne (by omega)]; exact (hI.2.1 t ht).2
      have h := Words_is (ρ := sb) (c := ob r) (th := (tg (kk : Nat) v tt x0)) (tg_length _ _ _ _) (tg_one _ HV.out tt x0) (rwTh _ HV.out tt x0) (by rw [e0]; rfl) (by rw [e0]; omega) hob hU hA w (fun W9 hb => TCells_is hTh (hT.later hb))
      have e2 : rl (nw sb) = rl sb := by rw [HSB.out]; exact irec_nw hI
      rw [e2] at h
      exact h
    have x2 := (hM.out.at 0 rfl).rcell (j := 35) (by decide) (rf_ver.trans (by rw [← HVN.out]))
    go_wp2_with (first
      | (refine s1 rfl (hM.out.at 0 rfl) 35 rfl (.int .u64 (v1 : Nat)) rfl sz_u ?_ (by rw [rv_length]; decide)
         replace hM := hid (hM.out.put1 0 35 rfl (.int .u64 (v1 : Nat)) (rv (upv (rf (tg (kk : Nat) v tt x0) r 4) 35 (.int .u64 (v1 : Nat)))) (by rw [rv_length]; decide) (rv_set _ _ (by decide)))
         generalize World.setCell _ _ _ = W at hM ⊢
         clear x2
         rw [HRB.out] at hM)
      | (refine lR rfl (hM.out.at 0 rfl) rfl (rwV F2.out) ?_))
    refine (WO.out _ (TQ.out.th (hM.out.isL 0 rfl))).mono ?_
    rintro e W ⟨⟨bq, rfl, hq, hWq⟩, hb⟩
    replace hM := hid (hM.out.laterB hb hq hWq)
    clear hb
    clear hq hWq
    go_wp2_with fail
    refine (rgood_is _).mono ?_
    rintro e W ⟨rfl, hb⟩
    replace hM := hid (hM.out.later hb)
    clear hb
    go_wp2_with (first
      | (refine sR rfl (hM.out.at 2 rfl) rfl ((rwF 0 0).len (rwF 0 (-1))) (rwF 0 (-1)) ?_
         replace hM := hid (hM.out.put 2 rfl [.int .i64 0, .int .i64 (-1)] ((rwF 0 0).len (rwF 0 (-1))))
         generalize World.setCells _ _ _ _ = W at hM ⊢))
    exact bodyPost_ret (resss1 Tryz.results7 (.slice (some ⟨bq, 0, none⟩) 32 32) (.slice none 0 0) (hM.out.at 2 rfl) (rwF 0 (-1))) rfl ⟨bq, .slice none 0 0, rfl, by rw [HSZ.out]; exact hM.out.key 0 rfl, by rw [HSB2.out, ← HSB.out]; exact (hM.out.at 0 rfl), Odd.nil _ _, hM.out.below⟩
set_option maxHeartbeats 16000000 in
theorem RBatch_some {r : Nat → Nat} (hr : isRec r) {b off c n m : Nat} {q : Nat → AK} (h0 : 0 < n) (hc : n ≤ c) (hn : n ≤ 1000000) (hm : m = n) (hO : ∀ j, j < m → Oka (st r q j) (q j)) {bc : Nat} (w : World) (D : Aq w (.slice (some ⟨b, off, none⟩) n c) n q) (hC : Bo w bc (rl r)) :
    Calls Tryz.prog 7 #[.slice (some ⟨bc, 0, none⟩) 32 32, .slice (some ⟨b, off, none⟩) n c] w (RbY r q m w) := by
  have HE : Hid _ := hid D.all
  clear D
  have HU : Hid (∀ i, i ≤ m → ∀ j, j < 32 → st r q i j < 18446744073709551616) := fun i hi => st_u64 hr fun j hj => hO j (by omega)
  have HL : Hid (n ≤ c ∧ n ≤ 1000000 ∧ m ≤ n) := ⟨hc, hn, by omega⟩
  have HM : Hid _ := hm
  clear hc hn h0 hm
  have RO : Hid (∀ w (hC : Bo w bc (rl r)), _) := fun w hC => RecOf_is hr.u64 (b := true) ⟨fun _ => hr, fun _ => rfl⟩ w hC
  have HC : Hid _ := hC
  clear hC
  have K6 : ((r 0 : Nat) : Int) ≤ 6 := hr.ob1.2
  have S0 : Hid (∀ i, i ≤ m → st r q i 0 = r 0) := fun i hi => st_0 fun j hj => hO j (by omega)
  have IR : Hid (∀ i, i ≤ m → Irec (st r q i)) := fun i hi => st_irec hr fun j hj => hO j (by omega)
  have HO : Hid _ := hO
  clear hO
  have hM : Hid _ := ((Ms.nil w).born [.int .i64 0, .int .i64 0] 30 (b := w.heap.size) rfl)
  go_enter Tryz.func7, Tryz.ntmps7
  go_wp2_with fail
  generalize World.alloc _ _ = W at hM ⊢
  generalize hsz : w.heap.size = n0 at hM ⊢
  have HSZ : Hid (w.heap.size = n0) := hsz
  clear hsz
  refine (RO.out _ (HC.out.later hM.out.below)).mono ?_
  rintro e W ⟨f, hf, rfl, hth, hb⟩
  obtain ⟨B0, v, tt, x0, hB0, hv, hrow, hTh⟩ := hth (by first | rfl | trivial)
  replace hM := hid (hM.out.laterL hb (hTh.isl K6) hB0)
  clear hb
  rw [hrow]
  have HV0 : Hid _ := hv
  have TQ0 : Hid _ := hTh.tq
  clear hf hth hB0 hv hrow hTh hr
  obtain ⟨kk, hkk⟩ : ∃ k, k = r 0 := ⟨_, rfl⟩
  rw [← hkk] at hM K6 TQ0 S0 ⊢
  clear hkk
  have F1 : Hid (∀ j, j < 37 → (rf (tg (kk : Nat) v tt x0) r 4 j).oneCell' = true) := rf_one (tg_one _ HV0.out tt x0) (tg_length _ _ _ _)
  have hfl := hM.out.len 0 rfl
  obtain ⟨bx1, hbx1⟩ : ∃ q, q = W.heap.size := ⟨_, rfl⟩
  replace hM := hid (hM.out.bornR zf_all.symm 77 (b := bx1) hbx1)
  have Hbx1 : Hid _ := hbx1
  clear hbx1
  have HB7 : Hid (n0 < bx1) := hid (by have := Hbx1.out; omega)
  clear hfl
  go_wp2_with (first
    | (rw [← Hbx1.out]; refine sR rfl (hM.out.at 0 rfl) rfl ((rwV zf_one).len (rwV F1.out)) (rwV F1.out) ?_
       replace hM := hid (hM.out.put 0 rfl (rv (rf (tg (kk : Nat) v tt x0) r 4)) ((rwV zf_one).len (rwV F1.out)))
       generalize World.setCells _ _ _ _ = W at hM ⊢))
  go_loopg [9, 22] m (fun gg s9 s22 wt => ∃ (i B : Nat) (v : Value) (tt : Tb) (x0 : Int), i ≤ m ∧ m - i ≤ gg ∧ s22 = .int .i64 i ∧ Hid (v.oneCell' = true) ∧ Hid (Tq (kk : Nat) (ob (st r q i)) v tt x0) ∧ Hid (∀ gb, s9.ownBlock = some gb → tl (kk : Nat) (ob (st r q i)) ≠ [] → v.ownBlock ≠ some gb) ∧ Hid (Odd (bx1 + 1) wt s9 (dn r q i)) ∧ Hid (Ms n0 w wt [(bx1, rv (rf (tg (kk : Nat) v tt x0) (st r q i) 4)), (n0, [.int .i64 0, .int .i64 0])] [(B, v, tl (kk : Nat) (ob (st r q i)))]))
  case atStart => exact ⟨0, B0, v, tt, x0, by omega, by omega, rfl, HV0, TQ0, hid (fun gb h => by cases h), Odd.nil _ _, hM.out.pick [0, 1]⟩
  case round =>
    clear hM HV0 TQ0 F1
    obtain ⟨i, B, v, tt, x0, hi, hgg, rfl, HV, TQ, HD, hO, hM⟩ := hrel
    obtain ⟨W, rfl⟩ : ∃ q, q = wr := ⟨_, rfl⟩
    have F1 : Hid (∀ j, j < 37 → (rf (tg (kk : Nat) v tt x0) (st r q i) 4 j).oneCell' = true) := rf_one (tg_one _ HV.out tt x0) (tg_length _ _ _ _)
    obtain ⟨si, hsi⟩ : ∃ c, c = st r q i := ⟨_, rfl⟩
    rw [← hsi] at hM TQ HD F1
    have HSI : Hid _ := hsi
    have SI : Hid (si 0 = kk) := hid (by rw [hsi]; exact S0.out i hi)
    have II : Hid (Irec si) := hid (by rw [hsi]; exact IR.out i hi)
    have UU : Hid (∀ j, j < 32 → si j < 18446744073709551616) := hid (by rw [hsi]; exact HU.out i hi)
    by_cases hlt : i < m
    · have hi1 : (i : Int) < (n : Int) := by have := HL.out; have := HM.out; omega
      have hi0 : (0 : Int) ≤ (i : Int) := by omega
      obtain ⟨t, g, o, k, x, hq, hr⟩ := HE.out W hM.out.below i (by have := HL.out; have := HM.out; omega)
      have RA : Hid _ := hr
      clear hr
      have OK := HO.out i hlt
      rw [← hsi, hq] at OK
      obtain ⟨⟨⟨t0, t4⟩, hg⟩, hop⟩ := OK
      dsimp only at t0 t4 hg hop
      have e1 : st r q (i + 1) = nx si ⟨t, g, o, k, x⟩ := by show nx (st r q i) (q i) = _; rw [hq, ← hsi]
      have e2 : dn r q (i + 1) = dn r q i ++ nd' si ⟨t, g, o, k, x⟩ := by show dn r q i ++ nd' (st r q i) (q i) = _; rw [hq, ← hsi]
      have HLE : Hid ((dn r q i).length ≤ 1000000) := hid (by have := dn_length r q i; have := HL.out; omega)
      clear hq hsi
      obtain ⟨tn, rfl⟩ : ∃ n : Nat, t = n := ⟨t.toNat, by omega⟩
      have ht4 : tn < 4 := by omega
      obtain ⟨z, hz⟩ : ∃ z, z = bt si tn := ⟨_, rfl⟩
      have HZ : Hid (z = ((si 26).testBit tn).toNat) := hz
      have ti0 : (0 : Int) ≤ (tn : Int) := by omega
      have ti4 : (tn : Int) < 4 := by omega
      rw [show ((tn : Nat) : Int).toNat = tn from rfl, ← hz] at hop
      have hOl : Hid (∀ gb, u9.ownBlock = some gb → gb < W.heap.size) := fun g hg => (hO.out.lt g hg).2
      replace hO := hid (hO.out.new (.cells #[.int .i64 0, .int .i64 0, .int .i64 0, .int .i64 0, .int .i64 0] 81))
      obtain ⟨ba, hba⟩ : ∃ q, q = W.heap.size := ⟨_, rfl⟩
      have HBA : Hid _ := hba
      clear hba
      go_wp2_with (first
        | (refine lO rfl RA.out rfl (rwRa (tn : Nat) g o k x) ?_)
        | (rw [← HBA.out]
           replace hM := hid (hM.out.born [.int .i64 0, .int .i64 0, .int .i64 0, .int .i64 0, .int .i64 0] 81 HBA.out)
           refine sR rfl (hM.out.at 0 rfl) rfl ((rwRa 0 0 0 0 0).len (rwRa (tn : Nat) g o k x)) (rwRa (tn : Nat) g o k x) ?_
           replace hO := hid (hO.out.asideL (c := ba) (fun gb hg => by have := hOl.out gb hg; have := HBA.out; omega) 0 [.int .i64 (tn : Nat), .int .i64 g, .int .i64 o, .int .i64 k, .int .i64 x])
           replace hM := hid (hM.out.put 0 rfl [.int .i64 (tn : Nat), .int .i64 g, .int .i64 o, .int .i64 k, .int .i64 x] ((rwRa 0 0 0 0 0).len (rwRa (tn : Nat) g o k x)))
           generalize World.setCells _ _ _ _ = W at hM hO ⊢
           have c2 := hM.out.cell 0 0 rfl rfl))
      clear c2
      have HXO : Hid (∀ gb, u9.ownBlock = some gb → gb < ba) := fun gb hg => by have := hOl.out gb hg; have := HBA.out; omega
      clear hOl
      refine (rwit_yes _ 0 3 _ (by omega) (by omega)).mono ?_
      rintro e ux ⟨rfl, hw⟩
      rw [hw]; clear hw ux
      have c3 := hM.out.cell 0 1 rfl rfl
      go_wp2_with fail
      clear c3
      refine (rwit_yes g 0 1 _ (by omega) (by omega)).mono ?_
      rintro e ux ⟨rfl, hw⟩
      rw [hw]; clear hw ux
      by_cases hs : g = (z : Nat)
      · rw [nx_shut (a := ⟨(tn : Nat), g, o, k, x⟩) (by show g = (bt si tn : Nat); rw [hs, hz])] at e1
        rw [nd_shut (a := ⟨(tn : Nat), g, o, k, x⟩) (by show g = (bt si tn : Nat); rw [hs, hz]), List.append_nil] at e2
        have HE1 : Hid _ := e1
        have HE2 : Hid _ := e2
        have hzg : (((z : Nat) : Int) == g) = true := beq_iff_eq.2 hs.symm
        clear e1 e2 hs hz hop hg t0 t4
        go_wp2_with fail
        have TC : Hid (rf (tg (kk : Nat) v tt x0) si 4 (31 + tn) = .int .i64 (z : Nat)) := hid ((rf_tog ht4 ht4).trans (by rw [HZ.out]))
        replace hM := hid (hM.out.drew)
        replace hO := hid (hO.out.drew)
        refine wp_region_held_drew (S := fun w' => Bo w' ba [.int .i64 (tn : Nat), .int .i64 g, .int .i64 o, .int .i64 k, .int .i64 x] ∧ Bo w' bx1 (rv (rf (tg (kk : Nat) v tt x0) si 4))) (by kernel_rfl) ⟨hM.out.at 0 rfl, hM.out.at 1 rfl⟩ (fun hH => ?_)
        generalize World.drew _ = W at hM hH hO ⊢
        refine tk 0 rfl hH ?_
        simp only [Act.put, p1, p2, p3]
        refine tk 1 rfl hH ?_ (by intro w h; have c0 := h.1.cell 0 _ rfl; clear h; go_simp; try with_reducible rfl)
        simp only [Act.put, p1, p2, p3]
        refine tk 2 rfl hH ?_
        simp only [Act.put, p1, p2, p3]
        refine tk 3 rfl hH ?_
        simp only [Act.put, p1, p2, p3]
        refine tk 4 rfl hH ?_ (by intro w h; have c0 := h.2.rcell (j := 31 + tn) (by omega) TC.out; clear h; go_simp; try with_reducible rfl)
        simp only [Act.put, p1, p2, p3]
        refine tk 5 rfl hH ?_
        simp only [Act.put, p1, p2, p3]
        refine tk 6 rfl hH ?_ (by intro w h; have c0 := h.1.cell 1 _ rfl; clear h; go_simp; try with_reducible rfl)
        simp only [Act.put, p1, p2, p3]
        refine tk 7 rfl hH ?_
        simp only [Act.put, p1, p2, p3]
        refine wpAnyH_done (by kernel_rfl) ?_ _
        go_wp2_with fail
        have hw : wrap64 ((i : Int) + 1) = ((i + 1 : Nat) : Int) := (by have := HL.out; unfold wrap64; omega)
        go_roundg (m - (i + 1))
        case measure => omega
        case rel => exact ⟨i + 1, B, v, tt, x0, by omega, by omega, by rw [hw], HV, by rw [HE1.out]; exact TQ, by rw [HE1.out]; exact HD, by rw [HE2.out]; exact hO, by rw [HE1.out]; exact hM.out.pick [1, 2]⟩
      · obtain ⟨hrec, hR⟩ := hop.resolve_left hs
        rw [nx_open (a := ⟨(tn : Nat), g, o, k, x⟩) (by show g ≠ (bt si tn : Nat); rw [← hz]; exact hs)] at e1
        rw [nd_open (a := ⟨(tn : Nat), g, o, k, x⟩) (by show g ≠ (bt si tn : Nat); rw [← hz]; exact hs)] at e2
        dsimp only at e1 e2
        rw [show ((tn : Nat) : Int).toNat = tn from rfl] at e1
        have ft := odo_ft hrec.1 hR
        have f := odo_facts hrec.1 hR.w1 hR.w6 hR.k0 hR.k1 hR.v0 hR.v1
        have c1 : ((odo (si 0 : Nat) (ob si) o k x).2.1.toNat : Int) = (odo (si 0 : Nat) (ob si) o k x).2.1 := by have := f.code.1; omega
        have c2 : ((odo (si 0 : Nat) (ob si) o k x).2.2.toNat : Int) = (odo (si 0 : Nat) (ob si) o k x).2.2 := by have := f.told.1; omega
        have c3 : st r q (i + 1) (18 + tn) = ansN (odo (si 0 : Nat) (ob si) o k x).2.1.toNat (odo (si 0 : Nat) (ob si) o k x).2.2.toNat := by rw [e1]; exact rdo_a ht4
        have A1 : ((st r q (i + 1) (18 + tn) / 4294967296 : Nat) : Int) = (odo (si 0 : Nat) (ob si) o k x).2.1 := by rw [c3, (ansN_parts ft).1]; exact c1
        have A2 : ((st r q (i + 1) (18 + tn) % 4294967296 : Nat) : Int) = (odo (si 0 : Nat) (ob si) o k x).2.2 := by rw [c3, (ansN_parts ft).2]; exact c2
        have OP : Hid (∀ w, _) := rfR_yes hR
        have hcn : si 28 ≤ 1099511627776 := hrec.2.2.2.2.2.2
        have RD0 := fun (B : Nat) (v : Value) (tt : Tb) (x0 : Int) ho w hT => RDone_to hrec ht4 hR (B := B) (v := v) (tt := tt) (x0 := x0) ho w hT
        rw [SI.out, ← e1] at RD0
        have RD : Hid _ := RD0
        obtain ⟨sn, hsn⟩ : ∃ c, c = st r q (i + 1) := ⟨_, rfl⟩
        rw [← hsn] at RD A1 A2
        obtain ⟨cc, hcc⟩ : ∃ c, c = (odo (si 0 : Nat) (ob si) o k x).2.1 := ⟨_, rfl⟩
        obtain ⟨y, hy⟩ : ∃ c, c = (odo (si 0 : Nat) (ob si) o k x).2.2 := ⟨_, rfl⟩
        rw [← hcc, ← hy] at e2
        rw [← hcc] at A1
        rw [← hy] at A2
        obtain ⟨cn, hcn2⟩ : ∃ c, c = si 28 := ⟨_, rfl⟩
        have HCN : Hid _ := hcn2
        rw [← hcn2] at hcn
        have hcn3 : ¬ (cn : Int) > 1099511627776 := by omega
        have hzg : (((z : Nat) : Int) == g) = false := beq_eq_false_iff_ne.2 fun e => hs e.symm
        have HE2 : Hid _ := e2
        have HSN : Hid _ := hsn
        have AN : Hid (((sn (18 + tn) / 4294967296 : Nat) : Int) = cc ∧ ((sn (18 + tn) % 4294967296 : Nat) : Int) = y) := ⟨A1, A2⟩
        clear RD0 A1 A2 c1 c2 c3 ft f hcn hcn2 e1 e2 hsn hcc hy hrec hR hop hs hz hg t0 t4
        go_wp2_with fail
        have TC : Hid (rf (tg (kk : Nat) v tt x0) si 4 (31 + tn) = .int .i64 (z : Nat)) := hid ((rf_tog ht4 ht4).trans (by rw [HZ.out]))
        replace hM := hid (hM.out.drew)
        replace hO := hid (hO.out.drew)
        refine wp_region_held_drew (S := fun w' => Bo w' ba [.int .i64 (tn : Nat), .int .i64 g, .int .i64 o, .int .i64 k, .int .i64 x] ∧ Bo w' bx1 (rv (rf (tg (kk : Nat) v tt x0) si 4))) (by kernel_rfl) ⟨hM.out.at 0 rfl, hM.out.at 1 rfl⟩ (fun hH => ?_)
        generalize World.drew _ = W at hM hH hO ⊢
        refine tk 0 rfl hH ?_
        simp only [Act.put, p1, p2, p3]
        refine tk 1 rfl hH ?_ (by intro w h; have c0 := h.1.cell 0 _ rfl; clear h; go_simp; try with_reducible rfl)
        simp only [Act.put, p1, p2, p3]
        refine tk 2 rfl hH ?_
        simp only [Act.put, p1, p2, p3]
        refine tk 3 rfl hH ?_
        simp only [Act.put, p1, p2, p3]
        refine tk 4 rfl hH ?_ (by intro w h; have c0 := h.2.rcell (j := 31 + tn) (by omega) TC.out; clear h; go_simp; try with_reducible rfl)
        simp only [Act.put, p1, p2, p3]
        refine tk 5 rfl hH ?_
        simp only [Act.put, p1, p2, p3]
        refine tk 6 rfl hH ?_ (by intro w h; have c0 := h.1.cell 1 _ rfl; clear h; go_simp; try with_reducible rfl)
        simp only [Act.put, p1, p2, p3]
        refine tk 7 rfl hH ?_
        simp only [Act.put, p1, p2, p3]
        refine wpAnyH_done (by kernel_rfl) ?_ _
        go_wp2_with (first
          | (refine lO rfl (akOp (hM.out.at 0 rfl)) rfl (rwO o k x) ?_))
        refine (OP.out _).mono ?_
        rintro e W ⟨rfl, hb⟩
        replace hO := hid (hO.out.later hb)
        replace hM := hid (hM.out.later hb)
        clear hb
        have x4 := (hM.out.at 1 rfl).rcell (j := 36) (by decide) (rf_cnt.trans (by rw [← HCN.out]))
        have c5 := hM.out.cell 0 0 rfl rfl
        go_wp2_with (first
          | (refine lR rfl (hM.out.at 1 rfl) rfl (rwV F1.out) ?_)
          | (refine lO rfl (akOp (hM.out.at 0 rfl)) rfl (rwO o k x) ?_))
        clear x4 c5
        have hOl : Hid (∀ gb, u9.ownBlock = some gb → gb < W.heap.size) := fun g hg => (hO.out.lt g hg).2
        refine (RD.out _ _ _ _ HV.out _ (TQ.out.th (hM.out.isL 0 rfl))).mono ?_
        rintro e W ⟨C, c2, v2, t2, x2, hv2, rfl, hor, ⟨hO2, hc2, hT2⟩, hb⟩
        replace hO := hid (hO.out.later hb)
        have hTQ := hT2.tq.congr hc2
        have hDn : ∀ gb, u9.ownBlock = some gb → tl (kk : Nat) (ob sn) ≠ [] → v2.ownBlock ≠ some gb := fun gb h1 h2 => by
          rcases hor with ⟨rfl, he⟩ | hC
          · exact HD.out gb h1 (by rw [← he, ← tl_congr hO2 hc2]; exact h2)
          · rw [tl_congr hO2 hc2] at h2
            rcases hT2.isl K6 with ⟨h3, _⟩ | ⟨bb, off, c, rfl, h4, _⟩
            · exact absurd h3 h2
            · intro h5
              injection h5 with h5
              have h7 : bb = gb := h5
              have := hOl.out gb h1
              omega
        have HXD : Hid _ := hDn
        clear hDn
        have hM3 : ∃ B2, Hid (Ms n0 w W [(ba, [.int .i64 (tn : Nat), .int .i64 g, .int .i64 o, .int .i64 k, .int .i64 x]), (bx1, (rv (rf (tg (kk : Nat) v tt x0) si 4))), (n0, [.int .i64 0, .int .i64 0])] [(B2, v2, tl (kk : Nat) (ob sn))]) := by
          rcases hor with ⟨rfl, he⟩ | hC
          · have hM4 := hM.out.later hb
            exact ⟨B, hid (by rw [tl_congr hO2 hc2, he]; exact hM4)⟩
          · have hM4 := (hM.out.laterL hb (by rw [tl_congr hO2 hc2]; exact hT2.isl K6 : IsL C W v2 (tl (kk : Nat) (ob sn))) hC).pickL [0]
            exact ⟨C, hid hM4⟩
        clear hM
        obtain ⟨B2, hM⟩ := hM3
        have HV2 : Hid _ := hv2
        have TQ2 : Hid _ := hTQ
        clear hor hO2 hc2 hT2 hb hv2 hTQ hOl
        have F2 : Hid (∀ j, j < 37 → (rf (tg (kk : Nat) v2 t2 x2) sn 4 j).oneCell' = true) := rf_one (tg_one _ HV2.out t2 x2) (tg_length _ _ _ _)
        go_wp2_with (first
          | (refine sR rfl (hM.out.at 1 rfl) rfl ((rwV F1.out).len (rwV F2.out)) (rwV F2.out) ?_
             replace hM := hid (hM.out.put 1 rfl (rv (rf (tg (kk : Nat) v2 t2 x2) sn 4)) ((rwV F1.out).len (rwV F2.out)))
             replace hO := hid (hO.out.aside (Nat.lt_succ_self bx1) 0 (rv (rf (tg (kk : Nat) v2 t2 x2) sn 4)))
             generalize World.setCells _ _ _ _ = W at hM hO ⊢))
        have ANS : Hid (∀ {w : World} (h : Bo w bx1 (rv (rf (tg (kk : Nat) v2 t2 x2) sn 4))), w.rangeAt bx1 (19 + tn * 2) [.int .i64 cc, .int .i64 y]) := fun {w} h => by have := rfAns h ht4; rw [AN.out.1, AN.out.2] at this; exact this
        replace hM := hid (hM.out.drew)
        replace hO := hid (hO.out.drew)
        refine wp_region_held_drew (S := fun w' => Bo w' ba [.int .i64 (tn : Nat), .int .i64 g, .int .i64 o, .int .i64 k, .int .i64 x] ∧ Bo w' bx1 (rv (rf (tg (kk : Nat) v2 t2 x2) sn 4))) (by kernel_rfl) ⟨hM.out.at 0 rfl, hM.out.at 1 rfl⟩ (fun hH => ?_)
        generalize World.drew _ = W at hM hH hO ⊢
        refine tk 0 rfl hH ?_
        simp only [Act.put, p1, p2, p3]
        refine tk 1 rfl hH ?_
        simp only [Act.put, p1, p2, p3]
        refine tk 2 rfl hH ?_ (by intro w h; have c0 := h.1.cell 0 _ rfl; clear h; go_simp; try with_reducible rfl)
        simp only [Act.put, p1, p2, p3]
        refine tk 3 rfl hH ?_
        simp only [Act.put, p1, p2, p3]
        refine tkO 4 rfl hH (fun _ h => akOp (h.1)) (rwO o k x) ?_
        simp only [Act.put, p1, p2, p3]
        refine tk 5 rfl hH ?_
        simp only [Act.put, p1, p2, p3]
        refine tk 6 rfl hH ?_ (by intro w h; have c0 := h.1.cell 0 _ rfl; clear h; go_simp; try with_reducible rfl)
        simp only [Act.put, p1, p2, p3]
        refine tk 7 rfl hH ?_
        simp only [Act.put, p1, p2, p3]
        refine tk 8 rfl hH ?_
        simp only [Act.put, p1, p2, p3]
        refine tkO 9 rfl hH (fun _ h => ANS.out (h.2)) (rwA cc y) ?_
        simp only [Act.put, p1, p2, p3]
        refine tk 10 rfl hH ?_
        simp only [Act.put, p1, p2, p3]
        refine rd1 11 rfl (fun K hK => ?_)
        go_simp
        replace hM := hid (hM.out.born [.int .i64 (tn : Nat), .int .i64 o, .int .i64 k, .int .i64 x, .int .i64 cc, .int .i64 y] 60 rfl)
        have hb := hM.out.step
        replace hO := hid (hO.out.later hb)
        clear hb
        refine hK.out _ _ ⟨hM.out.at 1 rfl, hM.out.at 2 rfl⟩ (fun hH => ?_)
        clear hK K
        generalize W.heap.size = bq6 at hM hH ⊢
        generalize World.alloc _ _ = W at hM hH hO ⊢
        try simp only [Act.put, p1, p2, p3]
        refine rd1 12 rfl (fun K hK => ?_)
        have hrow : Bo W bq6 (DD.row ⟨(tn : Nat), o, k, x, cc, y⟩) := (hM.out.at 0 rfl)
        obtain ⟨v9, w9, hr9, hO9, hg9, hown⟩ := hO.out.app2 (Nat.succ_le_of_lt (hM.out.len 2 rfl)) hrow HLE.out 27
        refine apK rfl hr9 ?_
        have HXD9 : Hid (∀ gb, v9.ownBlock = some gb → tl (kk : Nat) (ob sn) ≠ [] → v2.ownBlock ≠ some gb) := hid fun gb h1 h2 => by
          rcases hown with e | e
          · exact HXD.out gb (e ▸ h1) h2
          · rw [e] at h1
            injection h1 with h1
            rcases hM.out.lx 0 rfl with ⟨h3, _⟩ | ⟨bb, off, c, h4, _, h5, _⟩
            · exact absurd h3 h2
            · rw [h4]
              intro h6
              injection h6 with h6
              have h7 : bb = gb := h6
              omega
        replace hM := hid ((hM.out.pick [1, 2, 3]).grownQ hg9 (fun gb hg => ⟨by have h1 := (hO.out.lt gb hg).1; have := HB7.out; omega, by have h1 := (hO.out.lt gb hg).1; have h2 := HXO.out gb hg; have h3 := HB7.out; intro hmem; simp at hmem; rcases hmem with rfl | rfl | rfl <;> omega⟩) (fun gb hg p hp h2 => by simp at hp; subst hp; exact HXD.out gb hg h2))
        replace hO := hid hO9
        clear hr9 hO9 hg9 hrow hown
        refine hK.out _ _ ⟨hM.out.at 0 rfl, hM.out.at 1 rfl⟩ (fun hH => ?_)
        clear hK K
        generalize w9 = W at hM hH hO ⊢
        try simp only [Act.put, p1, p2, p3]
        refine tk 13 rfl hH ?_
        simp only [Act.put, p1, p2, p3]
        refine wpAnyH_done (by kernel_rfl) ?_ _
        go_wp2_with fail
        have hw : wrap64 ((i : Int) + 1) = ((i + 1 : Nat) : Int) := (by have := HL.out; unfold wrap64; omega)
        go_roundg (m - (i + 1))
        case measure => omega
        case rel => exact ⟨i + 1, B2, v2, t2, x2, by omega, by omega, by rw [hw], HV2, by rw [← HSN.out]; exact TQ2, by rw [← HSN.out]; exact HXD9, by rw [HE2.out]; exact hO, by rw [← HSN.out]; exact hM.out.pick [1, 2]⟩
    · obtain rfl : i = m := by omega
      have hi1 : ¬ (i : Int) < (n : Int) := by have := HM.out; omega
      have HSB2 : Hid (bump (st r q i) = bump si) := hid (by rw [hsi])
      clear hsi
      obtain ⟨vn, hvn⟩ : ∃ z, z = si 27 := ⟨_, rfl⟩
      have w27 : IntKind.u64.wrap ((vn : Int) + 1) = ((vn + 1 : Nat) : Int) := by rw [IntKind.wrap_u64]; have := II.out.2.2.2.2.2.1; omega
      obtain ⟨v1, hv1⟩ : ∃ z, z = vn + 1 := ⟨_, rfl⟩
      rw [← hv1] at w27
      obtain ⟨sb, hsb⟩ : ∃ z, z = bump si := ⟨_, rfl⟩
      have HRB : Hid (rv (upv (rf (tg (kk : Nat) v tt x0) si 4) 35 (.int .u64 (v1 : Nat))) = rv (rf (tg (kk : Nat) v tt x0) sb 4)) := hid (by rw [hsb, ← rf_bump, hv1, hvn])
      have HVN : Hid (vn = si 27) := hvn
      have HSB : Hid (sb = bump si) := hsb
      clear hvn hv1 hsb
      have F2 : Hid (∀ j, j < 37 → (rf (tg (kk : Nat) v tt x0) sb 4 j).oneCell' = true) := rf_one (tg_one _ HV.out tt x0) (tg_length _ _ _ _)
      have WO : Hid (∀ {B : Nat} (w : World) (hT : Th B w (kk : Nat) (ob si) v tt x0), Calls Tryz.prog 34 #[.agg (rv (rf (tg (kk : Nat) v tt x0) sb 4)).toArray] w (fun e w' => (∃ b, e = .returned (.slice (some ⟨b, 0, none⟩) 32 32) ∧ w.heap.size ≤ b ∧ Bo w' b (rl sb)) ∧ Below w.heap.size w w')) := fun {B} w hT => by
        have hI := II.out
        have e0 : sb 0 = kk := by rw [HSB.out]; show si 0 = kk; exact SI.out
        have hob : ∀ j, j < 17 → ob si j = ob sb j := fun j hj => by rw [HSB.out]; unfold ob bump; rw [upw_ne (by omega)]
        have hTh : isTh (kk : Nat) (ob si) := by have := isTh_ob.2 hI.1; rw [SI.out] at this; exact this
        have hU : ∀ j, j < 32 → sb j < 18446744073709551616 := fun j hj => by
          rw [HSB.out]; unfold bump upw
          by_cases e : j = 27
          · rw [if_pos e]; have := hI.2.2.2.2.2.1; omega
          · rw [if_neg e]; exact UU.out j hj
        have hA : ∀ t, t < 4 → sb (18 + t) = 0 ∨ Aw (sb (18 + t)) := fun t ht => by
          rw [HSB.out]; unfold bump; rw [upw_ne (by omega)]; exact (hI.2.1 t ht).2
        have h := Words_is (ρ := sb) (c := ob si) (th := (tg (kk : Nat) v tt x0)) (tg_length _ _ _ _) (tg_one _ HV.out tt x0) (rwTh _ HV.out tt x0) (by rw [e0]; rfl) (by rw [e0]; omega) hob hU hA w (fun W9 hb => TCells_is hTh (hT.later hb))
        have e2 : rl (nw sb) = rl sb := by rw [HSB.out]; exact irec_nw hI
        rw [e2] at h
        exact h
      have x2 := (hM.out.at 0 rfl).rcell (j := 35) (by decide) (rf_ver.trans (by rw [← HVN.out]))
      go_wp2_with (first
        | (refine s1 rfl (hM.out.at 0 rfl) 35 rfl (.int .u64 (v1 : Nat)) rfl sz_u ?_ (by rw [rv_length]; decide)
           replace hM := hid (hM.out.put1 0 35 rfl (.int .u64 (v1 : Nat)) (rv (upv (rf (tg (kk : Nat) v tt x0) si 4) 35 (.int .u64 (v1 : Nat)))) (by rw [rv_length]; decide) (rv_set _ _ (by decide)))
           replace hO := hid (hO.out.aside1 (Nat.lt_succ_self bx1) 35 (.int .u64 (v1 : Nat)))
           generalize World.setCell _ _ _ = W at hM hO ⊢
           clear x2
           rw [HRB.out] at hM)
        | (refine lR rfl (hM.out.at 0 rfl) rfl (rwV F2.out) ?_))
      refine (WO.out _ (TQ.out.th (hM.out.isL 0 rfl))).mono ?_
      rintro e W ⟨⟨bq, rfl, hq, hWq⟩, hb⟩
      replace hM := hid (hM.out.laterB hb hq hWq)
      replace hO := hid (hO.out.later hb)
      clear hb
      clear hq hWq
      go_wp2_with fail
      refine (rgood_is _).mono ?_
      rintro e W ⟨rfl, hb⟩
      replace hM := hid (hM.out.later hb)
      replace hO := hid (hO.out.later hb)
      clear hb
      go_wp2_with (first
        | (refine sR rfl (hM.out.at 2 rfl) rfl ((rwF 0 0).len (rwF 0 (-1))) (rwF 0 (-1)) ?_
           replace hM := hid (hM.out.put 2 rfl [.int .i64 0, .int .i64 (-1)] ((rwF 0 0).len (rwF 0 (-1))))
           replace hO := hid (hO.out.aside (show n0 < bx1 + 1 by have := HB7.out; omega) 0 [.int .i64 0, .int .i64 (-1)])
           generalize World.setCells _ _ _ _ = W at hM hO ⊢))
      exact bodyPost_ret (resss1 Tryz.results7 (.slice (some ⟨bq, 0, none⟩) 32 32) (u9) (hM.out.at 2 rfl) (rwF 0 (-1))) rfl ⟨bq, u9, rfl, by rw [HSZ.out]; exact hM.out.key 0 rfl, by rw [HSB2.out, ← HSB.out]; exact (hM.out.at 0 rfl), hO.out.mono (by rw [HSZ.out]; have := HB7.out; omega), hM.out.below⟩
set_option maxHeartbeats 16000000 in
theorem RBatch_bad {r : Nat → Nat} (hr : isRec r) {b off c n m : Nat} {q : Nat → AK} (h0 : 0 < n) (hc : n ≤ c) (hn : n ≤ 1000000) {ev : Int} (hm : m < n) (hO : ∀ j, j < m → Oka (st r q j) (q j)) (hB : Bad (st r q m) (q m) ev) {bc : Nat} (w : World) (D : Aq w (.slice (some ⟨b, off, none⟩) n c) n q) (hC : Bo w bc (rl r)) :
    Calls Tryz.prog 7 #[.slice (some ⟨bc, 0, none⟩) 32 32, .slice (some ⟨b, off, none⟩) n c] w (RbN ev (m : Nat) w) := by
  have HE : Hid _ := hid D.all
  clear D
  have HU : Hid (∀ i, i ≤ m → ∀ j, j < 32 → st r q i j < 18446744073709551616) := fun i hi => st_u64 hr fun j hj => hO j (by omega)
  have HL : Hid (n ≤ c ∧ n ≤ 1000000 ∧ m ≤ n) := ⟨hc, hn, by omega⟩
  have HM : Hid _ := hm
  have HB : Hid _ := hB
  clear hB
  clear hc hn h0 hm
  have RO : Hid (∀ w (hC : Bo w bc (rl r)), _) := fun w hC => RecOf_is hr.u64 (b := true) ⟨fun _ => hr, fun _ => rfl⟩ w hC
  have HC : Hid _ := hC
  clear hC
  have K6 : ((r 0 : Nat) : Int) ≤ 6 := hr.ob1.2
  have S0 : Hid (∀ i, i ≤ m → st r q i 0 = r 0) := fun i hi => st_0 fun j hj => hO j (by omega)
  have IR : Hid (∀ i, i ≤ m → Irec (st r q i)) := fun i hi => st_irec hr fun j hj => hO j (by omega)
  have HO : Hid _ := hO
  clear hO
  have hM : Hid _ := ((Ms.nil w).born [.int .i64 0, .int .i64 0] 30 (b := w.heap.size) rfl)
  go_enter Tryz.func7, Tryz.ntmps7
  go_wp2_with fail
  generalize World.alloc _ _ = W at hM ⊢
  generalize hsz : w.heap.size = n0 at hM ⊢
  have HSZ : Hid (w.heap.size = n0) := hsz
  clear hsz
  refine (RO.out _ (HC.out.later hM.out.below)).mono ?_
  rintro e W ⟨f, hf, rfl, hth, hb⟩
  obtain ⟨B0, v, tt, x0, hB0, hv, hrow, hTh⟩ := hth (by first | rfl | trivial)
  replace hM := hid (hM.out.laterL hb (hTh.isl K6) hB0)
  clear hb
  rw [hrow]
  have HV0 : Hid _ := hv
  have TQ0 : Hid _ := hTh.tq
  clear hf hth hB0 hv hrow hTh hr
  obtain ⟨kk, hkk⟩ : ∃ k, k = r 0 := ⟨_, rfl⟩
  rw [← hkk] at hM K6 TQ0 S0 ⊢
  clear hkk
  have F1 : Hid (∀ j, j < 37 → (rf (tg (kk : Nat) v tt x0) r 4 j).oneCell' = true) := rf_one (tg_one _ HV0.out tt x0) (tg_length _ _ _ _)
  have hfl := hM.out.len 0 rfl
  obtain ⟨bx1, hbx1⟩ : ∃ q, q = W.heap.size := ⟨_, rfl⟩
  replace hM := hid (hM.out.bornR zf_all.symm 77 (b := bx1) hbx1)
  have Hbx1 : Hid _ := hbx1
  clear hbx1
  have HB7 : Hid (n0 < bx1) := hid (by have := Hbx1.out; omega)
  clear hfl
  go_wp2_with (first
    | (rw [← Hbx1.out]; refine sR rfl (hM.out.at 0 rfl) rfl ((rwV zf_one).len (rwV F1.out)) (rwV F1.out) ?_
       replace hM := hid (hM.out.put 0 rfl (rv (rf (tg (kk : Nat) v tt x0) r 4)) ((rwV zf_one).len (rwV F1.out)))
       generalize World.setCells _ _ _ _ = W at hM ⊢))
  go_loopg [9, 22] m (fun gg s9 s22 wt => ∃ (i B : Nat) (v : Value) (tt : Tb) (x0 : Int), i ≤ m ∧ m - i ≤ gg ∧ s22 = .int .i64 i ∧ Hid (v.oneCell' = true) ∧ Hid (Tq (kk : Nat) (ob (st r q i)) v tt x0) ∧ Hid (∀ gb, s9.ownBlock = some gb → tl (kk : Nat) (ob (st r q i)) ≠ [] → v.ownBlock ≠ some gb) ∧ Hid (Odd (bx1 + 1) wt s9 (dn r q i)) ∧ Hid (Ms n0 w wt [(bx1, rv (rf (tg (kk : Nat) v tt x0) (st r q i) 4)), (n0, [.int .i64 0, .int .i64 0])] [(B, v, tl (kk : Nat) (ob (st r q i)))]))
  case atStart => exact ⟨0, B0, v, tt, x0, by omega, by omega, rfl, HV0, TQ0, hid (fun gb h => by cases h), Odd.nil _ _, hM.out.pick [0, 1]⟩
  case round =>
    clear hM HV0 TQ0 F1
    obtain ⟨i, B, v, tt, x0, hi, hgg, rfl, HV, TQ, HD, hO, hM⟩ := hrel
    obtain ⟨W, rfl⟩ : ∃ q, q = wr := ⟨_, rfl⟩
    have F1 : Hid (∀ j, j < 37 → (rf (tg (kk : Nat) v tt x0) (st r q i) 4 j).oneCell' = true) := rf_one (tg_one _ HV.out tt x0) (tg_length _ _ _ _)
    obtain ⟨si, hsi⟩ : ∃ c, c = st r q i := ⟨_, rfl⟩
    rw [← hsi] at hM TQ HD F1
    have HSI : Hid _ := hsi
    have SI : Hid (si 0 = kk) := hid (by rw [hsi]; exact S0.out i hi)
    have II : Hid (Irec si) := hid (by rw [hsi]; exact IR.out i hi)
    have UU : Hid (∀ j, j < 32 → si j < 18446744073709551616) := hid (by rw [hsi]; exact HU.out i hi)
    by_cases hlt : i < m
    · have hi1 : (i : Int) < (n : Int) := by have := HL.out; have := HM.out; omega
      have hi0 : (0 : Int) ≤ (i : Int) := by omega
      obtain ⟨t, g, o, k, x, hq, hr⟩ := HE.out W hM.out.below i (by have := HL.out; have := HM.out; omega)
      have RA : Hid _ := hr
      clear hr
      have OK := HO.out i hlt
      rw [← hsi, hq] at OK
      obtain ⟨⟨⟨t0, t4⟩, hg⟩, hop⟩ := OK
      dsimp only at t0 t4 hg hop
      have e1 : st r q (i + 1) = nx si ⟨t, g, o, k, x⟩ := by show nx (st r q i) (q i) = _; rw [hq, ← hsi]
      have e2 : dn r q (i + 1) = dn r q i ++ nd' si ⟨t, g, o, k, x⟩ := by show dn r q i ++ nd' (st r q i) (q i) = _; rw [hq, ← hsi]
      have HLE : Hid ((dn r q i).length ≤ 1000000) := hid (by have := dn_length r q i; have := HL.out; omega)
      clear hq hsi
      obtain ⟨tn, rfl⟩ : ∃ n : Nat, t = n := ⟨t.toNat, by omega⟩
      have ht4 : tn < 4 := by omega
      obtain ⟨z, hz⟩ : ∃ z, z = bt si tn := ⟨_, rfl⟩
      have HZ : Hid (z = ((si 26).testBit tn).toNat) := hz
      have ti0 : (0 : Int) ≤ (tn : Int) := by omega
      have ti4 : (tn : Int) < 4 := by omega
      rw [show ((tn : Nat) : Int).toNat = tn from rfl, ← hz] at hop
      have hOl : Hid (∀ gb, u9.ownBlock = some gb → gb < W.heap.size) := fun g hg => (hO.out.lt g hg).2
      replace hO := hid (hO.out.new (.cells #[.int .i64 0, .int .i64 0, .int .i64 0, .int .i64 0, .int .i64 0] 81))
      obtain ⟨ba, hba⟩ : ∃ q, q = W.heap.size := ⟨_, rfl⟩
      have HBA : Hid _ := hba
      clear hba
      go_wp2_with (first
        | (refine lO rfl RA.out rfl (rwRa (tn : Nat) g o k x) ?_)
        | (rw [← HBA.out]
           replace hM := hid (hM.out.born [.int .i64 0, .int .i64 0, .int .i64 0, .int .i64 0, .int .i64 0] 81 HBA.out)
           refine sR rfl (hM.out.at 0 rfl) rfl ((rwRa 0 0 0 0 0).len (rwRa (tn : Nat) g o k x)) (rwRa (tn : Nat) g o k x) ?_
           replace hO := hid (hO.out.asideL (c := ba) (fun gb hg => by have := hOl.out gb hg; have := HBA.out; omega) 0 [.int .i64 (tn : Nat), .int .i64 g, .int .i64 o, .int .i64 k, .int .i64 x])
           replace hM := hid (hM.out.put 0 rfl [.int .i64 (tn : Nat), .int .i64 g, .int .i64 o, .int .i64 k, .int .i64 x] ((rwRa 0 0 0 0 0).len (rwRa (tn : Nat) g o k x)))
           generalize World.setCells _ _ _ _ = W at hM hO ⊢
           have c2 := hM.out.cell 0 0 rfl rfl))
      clear c2
      have HXO : Hid (∀ gb, u9.ownBlock = some gb → gb < ba) := fun gb hg => by have := hOl.out gb hg; have := HBA.out; omega
      clear hOl
      refine (rwit_yes _ 0 3 _ (by omega) (by omega)).mono ?_
      rintro e ux ⟨rfl, hw⟩
      rw [hw]; clear hw ux
      have c3 := hM.out.cell 0 1 rfl rfl
      go_wp2_with fail
      clear c3
      refine (rwit_yes g 0 1 _ (by omega) (by omega)).mono ?_
      rintro e ux ⟨rfl, hw⟩
      rw [hw]; clear hw ux
      by_cases hs : g = (z : Nat)
      · rw [nx_shut (a := ⟨(tn : Nat), g, o, k, x⟩) (by show g = (bt si tn : Nat); rw [hs, hz])] at e1
        rw [nd_shut (a := ⟨(tn : Nat), g, o, k, x⟩) (by show g = (bt si tn : Nat); rw [hs, hz]), List.append_nil] at e2
        have HE1 : Hid _ := e1
        have HE2 : Hid _ := e2
        have hzg : (((z : Nat) : Int) == g) = true := beq_iff_eq.2 hs.symm
        clear e1 e2 hs hz hop hg t0 t4
        go_wp2_with fail
        have TC : Hid (rf (tg (kk : Nat) v tt x0) si 4 (31 + tn) = .int .i64 (z : Nat)) := hid ((rf_tog ht4 ht4).trans (by rw [HZ.out]))
        replace hM := hid (hM.out.drew)
        replace hO := hid (hO.out.drew)
        refine wp_region_held_drew (S := fun w' => Bo w' ba [.int .i64 (tn : Nat), .int .i64 g, .int .i64 o, .int .i64 k, .int .i64 x] ∧ Bo w' bx1 (rv (rf (tg (kk : Nat) v tt x0) si 4))) (by kernel_rfl) ⟨hM.out.at 0 rfl, hM.out.at 1 rfl⟩ (fun hH => ?_)
        generalize World.drew _ = W at hM hH hO ⊢
        refine tk 0 rfl hH ?_
        simp only [Act.put, p1, p2, p3]
        refine tk 1 rfl hH ?_ (by intro w h; have c0 := h.1.cell 0 _ rfl; clear h; go_simp; try with_reducible rfl)
        simp only [Act.put, p1, p2, p3]
        refine tk 2 rfl hH ?_
        simp only [Act.put, p1, p2, p3]
        refine tk 3 rfl hH ?_
        simp only [Act.put, p1, p2, p3]
        refine tk 4 rfl hH ?_ (by intro w h; have c0 := h.2.rcell (j := 31 + tn) (by omega) TC.out; clear h; go_simp; try with_reducible rfl)
        simp only [Act.put, p1, p2, p3]
        refine tk 5 rfl hH ?_
        simp only [Act.put, p1, p2, p3]
        refine tk 6 rfl hH ?_ (by intro w h; have c0 := h.1.cell 1 _ rfl; clear h; go_simp; try with_reducible rfl)
        simp only [Act.put, p1, p2, p3]
        refine tk 7 rfl hH ?_
        simp only [Act.put, p1, p2, p3]
        refine wpAnyH_done (by kernel_rfl) ?_ _
        go_wp2_with fail
        have hw : wrap64 ((i : Int) + 1) = ((i + 1 : Nat) : Int) := (by have := HL.out; unfold wrap64; omega)
        go_roundg (m - (i + 1))
        case measure => omega
        case rel => exact ⟨i + 1, B, v, tt, x0, by omega, by omega, by rw [hw], HV, by rw [HE1.out]; exact TQ, by rw [HE1.out]; exact HD, by rw [HE2.out]; exact hO, by rw [HE1.out]; exact hM.out.pick [1, 2]⟩
      · obtain ⟨hrec, hR⟩ := hop.resolve_left hs
        rw [nx_open (a := ⟨(tn : Nat), g, o, k, x⟩) (by show g ≠ (bt si tn : Nat); rw [← hz]; exact hs)] at e1
        rw [nd_open (a := ⟨(tn : Nat), g, o, k, x⟩) (by show g ≠ (bt si tn : Nat); rw [← hz]; exact hs)] at e2
        dsimp only at e1 e2
        rw [show ((tn : Nat) : Int).toNat = tn from rfl] at e1
        have ft := odo_ft hrec.1 hR
        have f := odo_facts hrec.1 hR.w1 hR.w6 hR.k0 hR.k1 hR.v0 hR.v1
        have c1 : ((odo (si 0 : Nat) (ob si) o k x).2.1.toNat : Int) = (odo (si 0 : Nat) (ob si) o k x).2.1 := by have := f.code.1; omega
        have c2 : ((odo (si 0 : Nat) (ob si) o k x).2.2.toNat : Int) = (odo (si 0 : Nat) (ob si) o k x).2.2 := by have := f.told.1; omega
        have c3 : st r q (i + 1) (18 + tn) = ansN (odo (si 0 : Nat) (ob si) o k x).2.1.toNat (odo (si 0 : Nat) (ob si) o k x).2.2.toNat := by rw [e1]; exact rdo_a ht4
        have A1 : ((st r q (i + 1) (18 + tn) / 4294967296 : Nat) : Int) = (odo (si 0 : Nat) (ob si) o k x).2.1 := by rw [c3, (ansN_parts ft).1]; exact c1
        have A2 : ((st r q (i + 1) (18 + tn) % 4294967296 : Nat) : Int) = (odo (si 0 : Nat) (ob si) o k x).2.2 := by rw [c3, (ansN_parts ft).2]; exact c2
        have OP : Hid (∀ w, _) := rfR_yes hR
        have hcn : si 28 ≤ 1099511627776 := hrec.2.2.2.2.2.2
        have RD0 := fun (B : Nat) (v : Value) (tt : Tb) (x0 : Int) ho w hT => RDone_to hrec ht4 hR (B := B) (v := v) (tt := tt) (x0 := x0) ho w hT
        rw [SI.out, ← e1] at RD0
        have RD : Hid _ := RD0
        obtain ⟨sn, hsn⟩ : ∃ c, c = st r q (i + 1) := ⟨_, rfl⟩
        rw [← hsn] at RD A1 A2
        obtain ⟨cc, hcc⟩ : ∃ c, c = (odo (si 0 : Nat) (ob si) o k x).2.1 := ⟨_, rfl⟩
        obtain ⟨y, hy⟩ : ∃ c, c = (odo (si 0 : Nat) (ob si) o k x).2.2 := ⟨_, rfl⟩
        rw [← hcc, ← hy] at e2
        rw [← hcc] at A1
        rw [← hy] at A2
        obtain ⟨cn, hcn2⟩ : ∃ c, c = si 28 := ⟨_, rfl⟩
        have HCN : Hid _ := hcn2
        rw [← hcn2] at hcn
        have hcn3 : ¬ (cn : Int) > 1099511627776 := by omega
        have hzg : (((z : Nat) : Int) == g) = false := beq_eq_false_iff_ne.2 fun e => hs e.symm
        have HE2 : Hid _ := e2
        have HSN : Hid _ := hsn
        have AN : Hid (((sn (18 + tn) / 4294967296 : Nat) : Int) = cc ∧ ((sn (18 + tn) % 4294967296 : Nat) : Int) = y) := ⟨A1, A2⟩
        clear RD0 A1 A2 c1 c2 c3 ft f hcn hcn2 e1 e2 hsn hcc hy hrec hR hop hs hz hg t0 t4
        go_wp2_with fail
        have TC : Hid (rf (tg (kk : Nat) v tt x0) si 4 (31 + tn) = .int .i64 (z : Nat)) := hid ((rf_tog ht4 ht4).trans (by rw [HZ.out]))
        replace hM := hid (hM.out.drew)
        replace hO := hid (hO.out.drew)
        refine wp_region_held_drew (S := fun w' => Bo w' ba [.int .i64 (tn : Nat), .int .i64 g, .int .i64 o, .int .i64 k, .int .i64 x] ∧ Bo w' bx1 (rv (rf (tg (kk : Nat) v tt x0) si 4))) (by kernel_rfl) ⟨hM.out.at 0 rfl, hM.out.at 1 rfl⟩ (fun hH => ?_)
        generalize World.drew _ = W at hM hH hO ⊢
        refine tk 0 rfl hH ?_
        simp only [Act.put, p1, p2, p3]
        refine tk 1 rfl hH ?_ (by intro w h; have c0 := h.1.cell 0 _ rfl; clear h; go_simp; try with_reducible rfl)
        simp only [Act.put, p1, p2, p3]
        refine tk 2 rfl hH ?_
        simp only [Act.put, p1, p2, p3]
        refine tk 3 rfl hH ?_
        simp only [Act.put, p1, p2, p3]
        refine tk 4 rfl hH ?_ (by intro w h; have c0 := h.2.rcell (j := 31 + tn) (by omega) TC.out; clear h; go_simp; try with_reducible rfl)
        simp only [Act.put, p1, p2, p3]
        refine tk 5 rfl hH ?_
        simp only [Act.put, p1, p2, p3]
        refine tk 6 rfl hH ?_ (by intro w h; have c0 := h.1.cell 1 _ rfl; clear h; go_simp; try with_reducible rfl)
        simp only [Act.put, p1, p2, p3]
        refine tk 7 rfl hH ?_
        simp only [Act.put, p1, p2, p3]
        refine wpAnyH_done (by kernel_rfl) ?_ _
        go_wp2_with (first
          | (refine lO rfl (akOp (hM.out.at 0 rfl)) rfl (rwO o k x) ?_))
        refine (OP.out _).mono ?_
        rintro e W ⟨rfl, hb⟩
        replace hO := hid (hO.out.later hb)
        replace hM := hid (hM.out.later hb)
        clear hb
        have x4 := (hM.out.at 1 rfl).rcell (j := 36) (by decide) (rf_cnt.trans (by rw [← HCN.out]))
        have c5 := hM.out.cell 0 0 rfl rfl
        go_wp2_with (first
          | (refine lR rfl (hM.out.at 1 rfl) rfl (rwV F1.out) ?_)
          | (refine lO rfl (akOp (hM.out.at 0 rfl)) rfl (rwO o k x) ?_))
        clear x4 c5
        have hOl : Hid (∀ gb, u9.ownBlock = some gb → gb < W.heap.size) := fun g hg => (hO.out.lt g hg).2
        refine (RD.out _ _ _ _ HV.out _ (TQ.out.th (hM.out.isL 0 rfl))).mono ?_
        rintro e W ⟨C, c2, v2, t2, x2, hv2, rfl, hor, ⟨hO2, hc2, hT2⟩, hb⟩
        replace hO := hid (hO.out.later hb)
        have hTQ := hT2.tq.congr hc2
        have hDn : ∀ gb, u9.ownBlock = some gb → tl (kk : Nat) (ob sn) ≠ [] → v2.ownBlock ≠ some gb := fun gb h1 h2 => by
          rcases hor with ⟨rfl, he⟩ | hC
          · exact HD.out gb h1 (by rw [← he, ← tl_congr hO2 hc2]; exact h2)
          · rw [tl_congr hO2 hc2] at h2
            rcases hT2.isl K6 with ⟨h3, _⟩ | ⟨bb, off, c, rfl, h4, _⟩
            · exact absurd h3 h2
            · intro h5
              injection h5 with h5
              have h7 : bb = gb := h5
              have := hOl.out gb h1
              omega
        have HXD : Hid _ := hDn
        clear hDn
        have hM3 : ∃ B2, Hid (Ms n0 w W [(ba, [.int .i64 (tn : Nat), .int .i64 g, .int .i64 o, .int .i64 k, .int .i64 x]), (bx1, (rv (rf (tg (kk : Nat) v tt x0) si 4))), (n0, [.int .i64 0, .int .i64 0])] [(B2, v2, tl (kk : Nat) (ob sn))]) := by
          rcases hor with ⟨rfl, he⟩ | hC
          · have hM4 := hM.out.later hb
            exact ⟨B, hid (by rw [tl_congr hO2 hc2, he]; exact hM4)⟩
          · have hM4 := (hM.out.laterL hb (by rw [tl_congr hO2 hc2]; exact hT2.isl K6 : IsL C W v2 (tl (kk : Nat) (ob sn))) hC).pickL [0]
            exact ⟨C, hid hM4⟩
        clear hM
        obtain ⟨B2, hM⟩ := hM3
        have HV2 : Hid _ := hv2
        have TQ2 : Hid _ := hTQ
        clear hor hO2 hc2 hT2 hb hv2 hTQ hOl
        have F2 : Hid (∀ j, j < 37 → (rf (tg (kk : Nat) v2 t2 x2) sn 4 j).oneCell' = true) := rf_one (tg_one _ HV2.out t2 x2) (tg_length _ _ _ _)
        go_wp2_with (first
          | (refine sR rfl (hM.out.at 1 rfl) rfl ((rwV F1.out).len (rwV F2.out)) (rwV F2.out) ?_
             replace hM := hid (hM.out.put 1 rfl (rv (rf (tg (kk : Nat) v2 t2 x2) sn 4)) ((rwV F1.out).len (rwV F2.out)))
             replace hO := hid (hO.out.aside (Nat.lt_succ_self bx1) 0 (rv (rf (tg (kk : Nat) v2 t2 x2) sn 4)))
             generalize World.setCells _ _ _ _ = W at hM hO ⊢))
        have ANS : Hid (∀ {w : World} (h : Bo w bx1 (rv (rf (tg (kk : Nat) v2 t2 x2) sn 4))), w.rangeAt bx1 (19 + tn * 2) [.int .i64 cc, .int .i64 y]) := fun {w} h => by have := rfAns h ht4; rw [AN.out.1, AN.out.2] at this; exact this
        replace hM := hid (hM.out.drew)
        replace hO := hid (hO.out.drew)
        refine wp_region_held_drew (S := fun w' => Bo w' ba [.int .i64 (tn : Nat), .int .i64 g, .int .i64 o, .int .i64 k, .int .i64 x] ∧ Bo w' bx1 (rv (rf (tg (kk : Nat) v2 t2 x2) sn 4))) (by kernel_rfl) ⟨hM.out.at 0 rfl, hM.out.at 1 rfl⟩ (fun hH => ?_)
        generalize World.drew _ = W at hM hH hO ⊢
        refine tk 0 rfl hH ?_
        simp only [Act.put, p1, p2, p3]
        refine tk 1 rfl hH ?_
        simp only [Act.put, p1, p2, p3]
        refine tk 2 rfl hH ?_ (by intro w h; have c0 := h.1.cell 0 _ rfl; clear h; go_simp; try with_reducible rfl)
        simp only [Act.put, p1, p2, p3]
        refine tk 3 rfl hH ?_
        simp only [Act.put, p1, p2, p3]
        refine tkO 4 rfl hH (fun _ h => akOp (h.1)) (rwO o k x) ?_
        simp only [Act.put, p1, p2, p3]
        refine tk 5 rfl hH ?_
        simp only [Act.put, p1, p2, p3]
        refine tk 6 rfl hH ?_ (by intro w h; have c0 := h.1.cell 0 _ rfl; clear h; go_simp; try with_reducible rfl)
        simp only [Act.put, p1, p2, p3]
        refine tk 7 rfl hH ?_
        simp only [Act.put, p1, p2, p3]
        refine tk 8 rfl hH ?_
        simp only [Act.put, p1, p2, p3]
        refine tkO 9 rfl hH (fun _ h => ANS.out (h.2)) (rwA cc y) ?_
        simp only [Act.put, p1, p2, p3]
        refine tk 10 rfl hH ?_
        simp only [Act.put, p1, p2, p3]
        refine rd1 11 rfl (fun K hK => ?_)
        go_simp
        replace hM := hid (hM.out.born [.int .i64 (tn : Nat), .int .i64 o, .int .i64 k, .int .i64 x, .int .i64 cc, .int .i64 y] 60 rfl)
        have hb := hM.out.step
        replace hO := hid (hO.out.later hb)
        clear hb
        refine hK.out _ _ ⟨hM.out.at 1 rfl, hM.out.at 2 rfl⟩ (fun hH => ?_)
        clear hK K
        generalize W.heap.size = bq6 at hM hH ⊢
        generalize World.alloc _ _ = W at hM hH hO ⊢
        try simp only [Act.put, p1, p2, p3]
        refine rd1 12 rfl (fun K hK => ?_)
        have hrow : Bo W bq6 (DD.row ⟨(tn : Nat), o, k, x, cc, y⟩) := (hM.out.at 0 rfl)
        obtain ⟨v9, w9, hr9, hO9, hg9, hown⟩ := hO.out.app2 (Nat.succ_le_of_lt (hM.out.len 2 rfl)) hrow HLE.out 27
        refine apK rfl hr9 ?_
        have HXD9 : Hid (∀ gb, v9.ownBlock = some gb → tl (kk : Nat) (ob sn) ≠ [] → v2.ownBlock ≠ some gb) := hid fun gb h1 h2 => by
          rcases hown with e | e
          · exact HXD.out gb (e ▸ h1) h2
          · rw [e] at h1
            injection h1 with h1
            rcases hM.out.lx 0 rfl with ⟨h3, _⟩ | ⟨bb, off, c, h4, _, h5, _⟩
            · exact absurd h3 h2
            · rw [h4]
              intro h6
              injection h6 with h6
              have h7 : bb = gb := h6
              omega
        replace hM := hid ((hM.out.pick [1, 2, 3]).grownQ hg9 (fun gb hg => ⟨by have h1 := (hO.out.lt gb hg).1; have := HB7.out; omega, by have h1 := (hO.out.lt gb hg).1; have h2 := HXO.out gb hg; have h3 := HB7.out; intro hmem; simp at hmem; rcases hmem with rfl | rfl | rfl <;> omega⟩) (fun gb hg p hp h2 => by simp at hp; subst hp; exact HXD.out gb hg h2))
        replace hO := hid hO9
        clear hr9 hO9 hg9 hrow hown
        refine hK.out _ _ ⟨hM.out.at 0 rfl, hM.out.at 1 rfl⟩ (fun hH => ?_)
        clear hK K
        generalize w9 = W at hM hH hO ⊢
        try simp only [Act.put, p1, p2, p3]
        refine tk 13 rfl hH ?_
        simp only [Act.put, p1, p2, p3]
        refine wpAnyH_done (by kernel_rfl) ?_ _
        go_wp2_with fail
        have hw : wrap64 ((i : Int) + 1) = ((i + 1 : Nat) : Int) := (by have := HL.out; unfold wrap64; omega)
        go_roundg (m - (i + 1))
        case measure => omega
        case rel => exact ⟨i + 1, B2, v2, t2, x2, by omega, by omega, by rw [hw], HV2, by rw [← HSN.out]; exact TQ2, by rw [← HSN.out]; exact HXD9, by rw [HE2.out]; exact hO, by rw [← HSN.out]; exact hM.out.pick [1, 2]⟩
    · obtain rfl : i = m := by omega
      have hi1 : (i : Int) < (n : Int) := by have := HL.out; have := HM.out; omega
      have hi0 : (0 : Int) ≤ (i : Int) := by omega
      obtain ⟨t, g, o, k, x, hq, hr⟩ := HE.out W hM.out.below i (by have := HL.out; have := HM.out; omega)
      have RA : Hid _ := hr
      clear hr
      have BB := HB.out
      rw [← hsi, hq] at BB
      clear hq hsi
      dsimp only at BB
      rcases BB with ⟨hbad, hev⟩ | ⟨⟨t0, t4⟩, hg, hev⟩ | ⟨⟨⟨t0, t4⟩, hg⟩, hs, hn, hev⟩
      · subst hev
        replace hbad : t < 0 ∨ 3 < t := by omega
        have hOl : Hid (∀ gb, u9.ownBlock = some gb → gb < W.heap.size) := fun g hg => (hO.out.lt g hg).2
        replace hO := hid (hO.out.new (.cells #[.int .i64 0, .int .i64 0, .int .i64 0, .int .i64 0, .int .i64 0] 81))
        obtain ⟨ba, hba⟩ : ∃ q, q = W.heap.size := ⟨_, rfl⟩
        have HBA : Hid _ := hba
        clear hba
        go_wp2_with (first
          | (refine lO rfl RA.out rfl (rwRa t g o k x) ?_)
          | (rw [← HBA.out]
             replace hM := hid (hM.out.born [.int .i64 0, .int .i64 0, .int .i64 0, .int .i64 0, .int .i64 0] 81 HBA.out)
             refine sR rfl (hM.out.at 0 rfl) rfl ((rwRa 0 0 0 0 0).len (rwRa t g o k x)) (rwRa t g o k x) ?_
             replace hO := hid (hO.out.asideL (c := ba) (fun gb hg => by have := hOl.out gb hg; have := HBA.out; omega) 0 [.int .i64 t, .int .i64 g, .int .i64 o, .int .i64 k, .int .i64 x])
             replace hM := hid (hM.out.put 0 rfl [.int .i64 t, .int .i64 g, .int .i64 o, .int .i64 k, .int .i64 x] ((rwRa 0 0 0 0 0).len (rwRa t g o k x)))
             generalize World.setCells _ _ _ _ = W at hM hO ⊢
             have c2 := hM.out.cell 0 0 rfl rfl))
        clear c2
        have HXO : Hid (∀ gb, u9.ownBlock = some gb → gb < ba) := fun gb hg => by have := hOl.out gb hg; have := HBA.out; omega
        clear hOl
        clear hO HXO
        refine (rwit_no _ 0 3 _ hbad).mono ?_
        rintro e ux ⟨rfl, hw⟩
        rw [hw]; clear hw ux
        go_wp2_with (first
          | (refine sR rfl (hM.out.at 2 rfl) rfl ((rwF 0 0).len (rwF 2 (i : Nat))) (rwF 2 (i : Nat)) ?_
             replace hM := hid (hM.out.put 2 rfl [.int .i64 2, .int .i64 (i : Nat)] ((rwF 0 0).len (rwF 2 (i : Nat))))
             generalize World.setCells _ _ _ _ = W at hM ⊢))
        exact bodyPost_ret (resss1 Tryz.results7 (.slice none 0 0) (.slice none 0 0) (hM.out.at 2 rfl) (rwF 2 (i : Nat))) rfl ⟨rfl, hM.out.below⟩
      · subst hev
        have hOl : Hid (∀ gb, u9.ownBlock = some gb → gb < W.heap.size) := fun g hg => (hO.out.lt g hg).2
        replace hO := hid (hO.out.new (.cells #[.int .i64 0, .int .i64 0, .int .i64 0, .int .i64 0, .int .i64 0] 81))
        obtain ⟨ba, hba⟩ : ∃ q, q = W.heap.size := ⟨_, rfl⟩
        have HBA : Hid _ := hba
        clear hba
        go_wp2_with (first
          | (refine lO rfl RA.out rfl (rwRa t g o k x) ?_)
          | (rw [← HBA.out]
             replace hM := hid (hM.out.born [.int .i64 0, .int .i64 0, .int .i64 0, .int .i64 0, .int .i64 0] 81 HBA.out)
             refine sR rfl (hM.out.at 0 rfl) rfl ((rwRa 0 0 0 0 0).len (rwRa t g o k x)) (rwRa t g o k x) ?_
             replace hO := hid (hO.out.asideL (c := ba) (fun gb hg => by have := hOl.out gb hg; have := HBA.out; omega) 0 [.int .i64 t, .int .i64 g, .int .i64 o, .int .i64 k, .int .i64 x])
             replace hM := hid (hM.out.put 0 rfl [.int .i64 t, .int .i64 g, .int .i64 o, .int .i64 k, .int .i64 x] ((rwRa 0 0 0 0 0).len (rwRa t g o k x)))
             generalize World.setCells _ _ _ _ = W at hM hO ⊢
             have c2 := hM.out.cell 0 0 rfl rfl))
        clear c2
        have HXO : Hid (∀ gb, u9.ownBlock = some gb → gb < ba) := fun gb hg => by have := hOl.out gb hg; have := HBA.out; omega
        clear hOl
        clear hO HXO
        refine (rwit_yes _ 0 3 _ (by omega) (by omega)).mono ?_
        rintro e ux ⟨rfl, hw⟩
        rw [hw]; clear hw ux
        have c3 := hM.out.cell 0 1 rfl rfl
        go_wp2_with fail
        clear c3
        have hbad : g < 0 ∨ 1 < g := by omega
        refine (rwit_no g 0 1 _ hbad).mono ?_
        rintro e ux ⟨rfl, hw⟩
        rw [hw]; clear hw ux
        go_wp2_with (first
          | (refine sR rfl (hM.out.at 2 rfl) rfl ((rwF 0 0).len (rwF 1 (i : Nat))) (rwF 1 (i : Nat)) ?_
             replace hM := hid (hM.out.put 2 rfl [.int .i64 1, .int .i64 (i : Nat)] ((rwF 0 0).len (rwF 1 (i : Nat))))
             generalize World.setCells _ _ _ _ = W at hM ⊢))
        exact bodyPost_ret (resss1 Tryz.results7 (.slice none 0 0) (.slice none 0 0) (hM.out.at 2 rfl) (rwF 1 (i : Nat))) rfl ⟨rfl, hM.out.below⟩
      · subst hev
        dsimp only at t0 t4 hg hs hn
        obtain ⟨tn, rfl⟩ : ∃ n : Nat, t = n := ⟨t.toNat, by omega⟩
        have ht4 : tn < 4 := by omega
        obtain ⟨z, hz⟩ : ∃ z, z = bt si tn := ⟨_, rfl⟩
        have HZ : Hid (z = ((si 26).testBit tn).toNat) := hz
        have ti0 : (0 : Int) ≤ (tn : Int) := by omega
        have ti4 : (tn : Int) < 4 := by omega
        rw [show ((tn : Nat) : Int).toNat = tn from rfl, ← hz] at hs
        have hzg : (((z : Nat) : Int) == g) = false := beq_eq_false_iff_ne.2 fun e => hs e.symm
        have hOl : Hid (∀ gb, u9.ownBlock = some gb → gb < W.heap.size) := fun g hg => (hO.out.lt g hg).2
        replace hO := hid (hO.out.new (.cells #[.int .i64 0, .int .i64 0, .int .i64 0, .int .i64 0, .int .i64 0] 81))
        obtain ⟨ba, hba⟩ : ∃ q, q = W.heap.size := ⟨_, rfl⟩
        have HBA : Hid _ := hba
        clear hba
        go_wp2_with (first
          | (refine lO rfl RA.out rfl (rwRa (tn : Nat) g o k x) ?_)
          | (rw [← HBA.out]
             replace hM := hid (hM.out.born [.int .i64 0, .int .i64 0, .int .i64 0, .int .i64 0, .int .i64 0] 81 HBA.out)
             refine sR rfl (hM.out.at 0 rfl) rfl ((rwRa 0 0 0 0 0).len (rwRa (tn : Nat) g o k x)) (rwRa (tn : Nat) g o k x) ?_
             replace hO := hid (hO.out.asideL (c := ba) (fun gb hg => by have := hOl.out gb hg; have := HBA.out; omega) 0 [.int .i64 (tn : Nat), .int .i64 g, .int .i64 o, .int .i64 k, .int .i64 x])
             replace hM := hid (hM.out.put 0 rfl [.int .i64 (tn : Nat), .int .i64 g, .int .i64 o, .int .i64 k, .int .i64 x] ((rwRa 0 0 0 0 0).len (rwRa (tn : Nat) g o k x)))
             generalize World.setCells _ _ _ _ = W at hM hO ⊢
             have c2 := hM.out.cell 0 0 rfl rfl))
        clear c2
        have HXO : Hid (∀ gb, u9.ownBlock = some gb → gb < ba) := fun gb hg => by have := hOl.out gb hg; have := HBA.out; omega
        clear hOl
        clear hO HXO
        refine (rwit_yes _ 0 3 _ (by omega) (by omega)).mono ?_
        rintro e ux ⟨rfl, hw⟩
        rw [hw]; clear hw ux
        have c3 := hM.out.cell 0 1 rfl rfl
        go_wp2_with fail
        clear c3
        refine (rwit_yes g 0 1 _ (by omega) (by omega)).mono ?_
        rintro e ux ⟨rfl, hw⟩
        rw [hw]; clear hw ux
        clear hs hz hg t0 t4
        go_wp2_with fail
        have TC : Hid (rf (tg (kk : Nat) v tt x0) si 4 (31 + tn) = .int .i64 (z : Nat)) := hid ((rf_tog ht4 ht4).trans (by rw [HZ.out]))
        replace hM := hid (hM.out.drew)
        refine wp_region_held_drew (S := fun w' => Bo w' ba [.int .i64 (tn : Nat), .int .i64 g, .int .i64 o, .int .i64 k, .int .i64 x] ∧ Bo w' bx1 (rv (rf (tg (kk : Nat) v tt x0) si 4))) (by kernel_rfl) ⟨hM.out.at 0 rfl, hM.out.at 1 rfl⟩ (fun hH => ?_)
        generalize World.drew _ = W at hM hH  ⊢
        refine tk 0 rfl hH ?_
        simp only [Act.put, p1, p2, p3]
        refine tk 1 rfl hH ?_ (by intro w h; have c0 := h.1.cell 0 _ rfl; clear h; go_simp; try with_reducible rfl)
        simp only [Act.put, p1, p2, p3]
        refine tk 2 rfl hH ?_
        simp only [Act.put, p1, p2, p3]
        refine tk 3 rfl hH ?_
        simp only [Act.put, p1, p2, p3]
        refine tk 4 rfl hH ?_ (by intro w h; have c0 := h.2.rcell (j := 31 + tn) (by omega) TC.out; clear h; go_simp; try with_reducible rfl)
        simp only [Act.put, p1, p2, p3]
        refine tk 5 rfl hH ?_
        simp only [Act.put, p1, p2, p3]
        refine tk 6 rfl hH ?_ (by intro w h; have c0 := h.1.cell 1 _ rfl; clear h; go_simp; try with_reducible rfl)
        simp only [Act.put, p1, p2, p3]
        refine tk 7 rfl hH ?_
        simp only [Act.put, p1, p2, p3]
        refine wpAnyH_done (by kernel_rfl) ?_ _
        by_cases hR : Rt o k x
        · have OP : Hid (∀ w, _) := rfR_yes hR
          obtain ⟨cn, hcn2⟩ : ∃ c, c = si 28 := ⟨_, rfl⟩
          have hcn3 : (cn : Int) > 1099511627776 := by have : ¬ si 28 ≤ 1099511627776 := fun h => hn ⟨II.out.rec h, hR⟩; omega
          have HCN : Hid _ := hcn2
          clear hcn2 hR hn
          go_wp2_with (first
            | (refine lO rfl (akOp (hM.out.at 0 rfl)) rfl (rwO o k x) ?_))
          refine (OP.out _).mono ?_
          rintro e W ⟨rfl, hb⟩
          replace hM := hid (hM.out.later hb)
          clear hb
          have x4 := (hM.out.at 1 rfl).rcell (j := 36) (by decide) (rf_cnt.trans (by rw [← HCN.out]))
          go_wp2_with (first
            | (refine sR rfl (hM.out.at 2 rfl) rfl ((rwF 0 0).len (rwF 1 (i : Nat))) (rwF 1 (i : Nat)) ?_
               replace hM := hid (hM.out.put 2 rfl [.int .i64 1, .int .i64 (i : Nat)] ((rwF 0 0).len (rwF 1 (i : Nat))))
               generalize World.setCells _ _ _ _ = W at hM ⊢))
          clear x4
          exact bodyPost_ret (resss1 Tryz.results7 (.slice none 0 0) (.slice none 0 0) (hM.out.at 2 rfl) (rwF 1 (i : Nat))) rfl ⟨rfl, hM.out.below⟩
        · have OP : Hid (∀ w, _) := rfR_no hR
          clear hR hn
          go_wp2_with (first
            | (refine lO rfl (akOp (hM.out.at 0 rfl)) rfl (rwO o k x) ?_))
          refine (OP.out _).mono ?_
          rintro e W ⟨rfl, hb⟩
          replace hM := hid (hM.out.later hb)
          clear hb
          go_wp2_with (first
            | (refine sR rfl (hM.out.at 2 rfl) rfl ((rwF 0 0).len (rwF 1 (i : Nat))) (rwF 1 (i : Nat)) ?_
               replace hM := hid (hM.out.put 2 rfl [.int .i64 1, .int .i64 (i : Nat)] ((rwF 0 0).len (rwF 1 (i : Nat))))
               generalize World.setCells _ _ _ _ = W at hM ⊢))
          exact bodyPost_ret (resss1 Tryz.results7 (.slice none 0 0) (.slice none 0 0) (hM.out.at 2 rfl) (rwF 1 (i : Nat))) rfl ⟨rfl, hM.out.below⟩
end Go.Proofs.YteogbpaaacmllaaGreatDoor.Tab
namespace Go.Proofs.YteogbpaaacmllaaGreatDoor.Tab
set_option maxRecDepth 20000
open Go.RowKit
set_option linter.unusedVariables false

theorem deed_self (t o k x c y : Int) (w : World) : (Op.equalIn 10000 60 (.agg (dl t o k x c y).toArray) (.agg (dl t o k x c y).toArray)).run Tryz.prog w = .ok true w := by
  show (Op.equalIn 10000 60 (.agg #[.int .i64 t, .int .i64 o, .int .i64 k, .int .i64 x, .int .i64 c, .int .i64 y]) (.agg #[.int .i64 t, .int .i64 o, .int .i64 k, .int .i64 x, .int .i64 c, .int .i64 y])).run Tryz.prog w = .ok true w
  go_simp
theorem Odd.zero {B : Nat} {W : World} {v : Value} (h : Odd B W v []) : ∃ a c, v = .slice a 0 c := by
  rcases h.2 with ⟨e, _⟩ | ⟨g, cap, cur, e, _⟩
  · exact ⟨_, _, e⟩
  · exact ⟨_, _, e⟩
theorem Odd.some {B : Nat} {W : World} {v : Value} {l : List DD} (h : Odd B W v l) (hl : l ≠ []) : ∃ g cap, v = .slice (some ⟨g, 0, none⟩) l.length cap ∧ B ≤ g ∧ l.length ≤ cap ∧ Bo W g (dds l) := by
  rcases h.form with ⟨_, h⟩ | ⟨g, cap, h⟩
  · exact absurd h hl
  · exact ⟨g, cap, h⟩
theorem Odd.dq {B : Nat} {W : World} {v : Value} {l : List DD} (h : Odd B W v l) (hl : l.length ≤ 1000000) : Dq W v l.length (qof l) := by
  rcases h.form with ⟨rfl, rfl⟩ | ⟨g, cap, rfl, _, hc, hG⟩
  · exact Or.inl ⟨rfl, none, 0, rfl, fun _ => rfl⟩
  · exact hG.dq (Nat.le_refl _) hc hl
set_option maxHeartbeats 4000000 in
theorem recordOf_nil  (w : World) :
    Calls Tryz.prog 11 #[.slice none 0 0] w (fun e w' => e = .returned (.agg (rl wz).toArray) ∧ Below w.heap.size w w') := by
  have hM : Hid _ := (((Ms.nil w).bornR rl_zero.symm 24 (b := w.heap.size) rfl).bornR rl_zero.symm 24 (b := w.heap.size + 1) (by simp))
  go_enter Tryz.func11, Tryz.ntmps11
  go_wp2_with fail
  generalize World.alloc _ _ = W at hM ⊢
  generalize hsz : w.heap.size = n at hM ⊢
  clear hsz
  go_loopg [4] 0 (fun gg s4 wt => wt = W ∧ s4 = .int .i64 0)
  case atStart => exact ⟨rfl, rfl⟩
  case round =>
    obtain ⟨hw, rfl⟩ := hrel
    rw [hw]; clear hw wr
    go_wp2_with (first
      | (refine lR rfl (hM.out.at 0 rfl) rfl (rwR wz) ?_)
      | (refine sR rfl (hM.out.at 1 rfl) rfl ((rwR wz).len (rwR wz)) (rwR wz) ?_
         replace hM := hid (hM.out.put 1 rfl (rl wz) ((rwR wz).len (rwR wz)))
         generalize World.setCells _ _ _ _ = W at hM ⊢))
    exact bodyPost_ret (res1 Tryz.results11 (hM.out.at 1 rfl) (rwR wz)) rfl ⟨rfl, hM.out.below⟩
set_option maxHeartbeats 4000000 in
theorem sameDeeds_0 (a1 : Option Addr) (c1 : Nat) (a2 : Option Addr) (c2 : Nat) (w : World) :
    Calls Tryz.prog 12 #[.slice a1 0 c1, .slice a2 0 c2] w (fun e w' => e = .returned (.bool true) ∧ Below w.heap.size w w') := by
  have hM : Hid _ := (Ms.nil w)
  go_enter Tryz.func12, Tryz.ntmps12
  go_wp2_with fail
  go_loopg [5] 0 (fun gg s5 wt => wt = w ∧ s5 = .int .i64 0)
  case atStart => exact ⟨rfl, rfl⟩
  case round =>
    obtain ⟨hw, rfl⟩ := hrel
    rw [hw]; clear hw wr
    go_wp2
    go_ret
    exact ⟨rfl, hM.out.below⟩
set_option maxHeartbeats 8000000 in
theorem sameDeeds_n {b1 o1 c1 b2 o2 c2 n : Nat} {q : Nat → DD} (h1 : n ≤ c1) (h2 : n ≤ c2) (hn : n ≤ 1000000) (w : World) (D : Dq w (.slice (some ⟨b1, o1, none⟩) n c1) n q) (E : Dq w (.slice (some ⟨b2, o2, none⟩) n c2) n q) :
    Calls Tryz.prog 12 #[.slice (some ⟨b1, o1, none⟩) n c1, .slice (some ⟨b2, o2, none⟩) n c2] w (fun e w' => e = .returned (.bool true) ∧ Below w.heap.size w w') := by
  have HD : Hid _ := hid D.all
  have HE : Hid _ := hid E.all
  have HN : Hid (n ≤ 1000000) := hn
  clear D E hn
  have hM : Hid _ := (Ms.nil w)
  go_enter Tryz.func12, Tryz.ntmps12
  go_wp2_with fail
  generalize hsz : w.heap.size = n0 at hM ⊢
  clear hsz
  go_loopg [5] n (fun gg s5 wt => ∃ i : Nat, i ≤ n ∧ n - i ≤ gg ∧ s5 = .int .i64 i ∧ Hid (Ms n0 w wt [] []))
  case atStart => exact ⟨0, by omega, by omega, rfl, hM⟩
  case round =>
    clear hM
    obtain ⟨i, hi, hgg, rfl, hM⟩ := hrel
    obtain ⟨W, rfl⟩ : ∃ q, q = wr := ⟨_, rfl⟩
    by_cases hlt : i < n
    · have hi1 : (i : Int) < (n : Int) := by omega
      have hi0 : (0 : Int) ≤ (i : Int) := by omega
      obtain ⟨t, o, k, x, cc, y, hq, _⟩ := HD.out W hM.out.below i hlt
      have RD : Hid (∀ w', Below w.heap.size w w' → w'.rangeAt b1 (o1 + i * 6) (dl t o k x cc y)) := fun w' hb => by
        obtain ⟨t2, o3, k2, x2, c3, y2, hq2, hr⟩ := HD.out w' hb i hlt
        rw [hq] at hq2
        injection hq2 with e1 e2 e3 e4 e5 e6
        subst e1 e2 e3 e4 e5 e6
        exact hr
      have RE : Hid (∀ w', Below w.heap.size w w' → w'.rangeAt b2 (o2 + i * 6) (dl t o k x cc y)) := fun w' hb => by
        obtain ⟨t2, o3, k2, x2, c3, y2, hq2, hr⟩ := HE.out w' hb i hlt
        rw [hq] at hq2
        injection hq2 with e1 e2 e3 e4 e5 e6
        subst e1 e2 e3 e4 e5 e6
        exact hr
      clear hq
      have ES := deed_self t o k x cc y
      go_wp2_with fail
      replace hM := hid (hM.out.drew)
      refine wp_region_held_drew (S := fun w' => w'.rangeAt b1 (o1 + i * 6) (dl t o k x cc y) ∧ w'.rangeAt b2 (o2 + i * 6) (dl t o k x cc y)) (by kernel_rfl) ⟨RD.out _ hM.out.below, RE.out _ hM.out.below⟩ (fun hH => ?_)
      generalize World.drew _ = W at hM hH  ⊢
      refine tk 0 rfl hH ?_
      simp only [Act.put, p1, p2, p3]
      refine tk 1 rfl hH ?_
      simp only [Act.put, p1, p2, p3]
      refine tk 2 rfl hH ?_
      simp only [Act.put, p1, p2, p3]
      refine tkO 3 rfl hH (fun _ h => id (h.1)) (rwD t o k x cc y) ?_
      simp only [Act.put, p1, p2, p3]
      refine tk 4 rfl hH ?_
      simp only [Act.put, p1, p2, p3]
      refine tk 5 rfl hH ?_
      simp only [Act.put, p1, p2, p3]
      refine tk 6 rfl hH ?_
      simp only [Act.put, p1, p2, p3]
      refine tkO 7 rfl hH (fun _ h => id (h.2)) (rwD t o k x cc y) ?_
      simp only [Act.put, p1, p2, p3]
      refine tk 8 rfl hH ?_
      simp only [Act.put, p1, p2, p3]
      refine wpAnyH_done (by kernel_rfl) ?_ _
      go_wp2_with fail
      have hw : wrap64 ((i : Int) + 1) = ((i + 1 : Nat) : Int) := (by have := HN.out; unfold wrap64; omega)
      go_roundg (n - (i + 1))
      case measure => omega
      case rel => exact ⟨i + 1, by omega, by omega, by rw [hw], hM.out.pick []⟩
    · obtain rfl : i = n := by omega
      have hi1 : ¬ (i : Int) < (i : Int) := by omega
      go_wp2
      go_ret
      exact ⟨rfl, hM.out.below⟩
theorem sameDeeds_is {v u : Value} {n : Nat} {q : Nat → DD} {w : World} (D : Dq w v n q) (E : Dq w u n q) (hn : n ≤ 1000000) :
    Calls Tryz.prog 12 #[v, u] w (fun e w' => e = .returned (.bool true) ∧ Below w.heap.size w w') := by
  rcases id D with ⟨h0, a, c, hv, _⟩ | ⟨b, off, c, hv, h0, hc, _, _⟩
  · rcases id E with ⟨_, a2, c2, hu, _⟩ | ⟨_, _, _, _, h1, _⟩
    · subst hv hu; exact sameDeeds_0 a c a2 c2 w
    · omega
  · rcases id E with ⟨h1, _⟩ | ⟨b2, o2, c2, hu, _, hc2, _, _⟩
    · omega
    · subst hv hu; exact sameDeeds_n hc hc2 hn w D E
end Go.Proofs.YteogbpaaacmllaaGreatDoor.Tab
namespace Go.Proofs.YteogbpaaacmllaaGreatDoor.Tab
set_option maxRecDepth 20000
open Go.RowKit
set_option linter.unusedVariables false

def aks (l : List AK) : List Value := l.flatMap AK.row
def aof (l : List AK) (i : Nat) : AK := l.getD i ⟨0, 0, 0, 0, 0⟩
theorem aks_length (l : List AK) : (aks l).length = l.length * 5 := by
  induction l with
  | nil => rfl
  | cons c cs ih => show (c.row ++ aks cs).length = _; rw [List.length_append, ih]; simp [AK.row]; omega
theorem aks_get : ∀ (l : List AK) (i j : Nat) (v : Value), i < l.length → (aof l i).row[j]? = some v → (aks l)[i * 5 + j]? = some v
  | [], i, j, v, hi, h => by simp at hi
  | d :: l, 0, j, v, hi, h => by
    rw [Nat.zero_mul, Nat.zero_add]
    show (d.row ++ aks l)[j]? = _
    have hj : j < d.row.length := (List.getElem?_eq_some_iff.1 h).1
    rw [List.getElem?_append_left hj]; exact h
  | d :: l, i + 1, j, v, hi, h => by
    have := aks_get l i j v (by simpa using hi) h
    show (d.row ++ aks l)[(i + 1) * 5 + j]? = _
    have hl : d.row.length = 5 := rfl
    rw [List.getElem?_append_right (by rw [hl]; omega), hl, show (i + 1) * 5 + j - 5 = i * 5 + j by omega]
    exact this
theorem aks_app (l : List AK) (d : AK) : aks (l ++ [d]) = aks l ++ d.row := by simp [aks]
theorem aof_app (l : List AK) (d : AK) {i : Nat} (hi : i < l.length) : aof (l ++ [d]) i = aof l i := by
  unfold aof; rw [List.getD_eq_getElem?_getD, List.getD_eq_getElem?_getD, List.getElem?_append_left hi]
theorem aof_last (l : List AK) (d : AK) : aof (l ++ [d]) l.length = d := by unfold aof; simp
def Oak (B : Nat) (W : World) (v : Value) (l : List AK) : Prop := W.ownsRow B 52 5 v l.length (aks l)
section
variable {B : Nat} {W W' : World} {v : Value} {l : List AK}
theorem Oak.nil (B : Nat) (W : World) : Oak B W (.slice none 0 0) [] := World.ownsRow_nil _ _ _ _
theorem Oak.keep (h : Oak B W v l) (hb : ∀ g, v.ownBlock = some g → W'.heap[g]? = W.heap[g]?) : Oak B W' v l := by
  refine ⟨h.1, ?_⟩
  rcases h.2 with e | ⟨g, cap, cur, hv, h1, h2, h3⟩
  · exact .inl e
  · exact .inr ⟨g, cap, cur, hv, h1, by rw [hb g (by rw [hv]; rfl)]; exact h2, h3⟩
theorem Oak.lt (h : Oak B W v l) : ∀ g, v.ownBlock = some g → B ≤ g ∧ g < W.heap.size := World.ownsRow.lt h
theorem Oak.later (h : Oak B W v l) (hb : Below W.heap.size W W') : Oak B W' v l := h.keep fun g hg => hb.block g (h.lt g hg).2
theorem Oak.new (h : Oak B W v l) (o : Obj) : Oak B (W.alloc o) v l := h.later (new_below W o)
theorem Oak.asideL (h : Oak B W v l) {c : Nat} (hc : ∀ g, v.ownBlock = some g → g ≠ c) (o : Nat) (vs : List Value) : Oak B (W.setCells c o vs) v l := h.keep fun g hg => heap_setCells (hc g hg) _ _ _
theorem Oak.aside (h : Oak B W v l) {c : Nat} (hc : c < B) (o : Nat) (vs : List Value) : Oak B (W.setCells c o vs) v l := h.asideL (fun g hg => by have := (h.lt g hg).1; omega) o vs
theorem Oak.form (h : Oak B W v l) : (v = .slice none 0 0 ∧ l = []) ∨ ∃ g cap, v = .slice (some ⟨g, 0, none⟩) l.length cap ∧ B ≤ g ∧ l.length ≤ cap ∧ Bo W g (aks l) := by
  rcases h.2 with ⟨e, e2⟩ | ⟨g, cap, cur, hv, h1, h2, h3, h4, h5, h6⟩
  · exact .inl ⟨e, List.length_eq_zero_iff.1 e2⟩
  · have h' : W.ownsRow B 52 5 (.slice (some ⟨g, 0, none⟩) l.length cap) l.length (aks l) := hv ▸ h
    refine .inr ⟨g, cap, hv, h1, h3, ⟨fun j u hu => ?_, fun j => World.ownsRow.frozenAt h' j, (h.lt g (by rw [hv]; rfl)).2⟩⟩
    have hj : j < l.length * 5 := by rw [← aks_length]; exact (List.getElem?_eq_some_iff.1 hu).1
    rw [World.ownsRow.cellAt h' j hj]; exact hu
theorem infoAsk : (Tryz.prog.info? 52).map (fun i => (i.zero, i.size, i.bytes)) = some (some (.agg #[.int .i64 0, .int .i64 0, .int .i64 0, .int .i64 0, .int .i64 0]), 5, 40) := by kernel_rfl
theorem asks_desc : Tryz.prog.underlying 37 = some (.slice 52) := by kernel_rfl
theorem Oak.push (h : Oak B W v l) (hB : B ≤ W.heap.size) {nb : Nat} {d : AK} (hc : Bo W nb d.row) (hn : l.length ≤ 1000000) (ty : TypeId) :
    ∃ v' W', (Builtin.append_ #[37, 37] ty #[v, .slice (some ⟨nb, 0, none⟩) 1 1]).run Tryz.prog W = .ok v' W' ∧ Oak B W' v' (l ++ [d]) ∧ Below B W W' := by
  obtain ⟨i0, hi, hz0, hz1, hz2⟩ := info_parts infoAsk
  obtain ⟨v', w', hr, ho, hg, _⟩ := run_append_own (P := Tryz.prog) (w := W) B 37 ty 52 i0 (.agg #[.int .i64 0, .int .i64 0, .int .i64 0, .int .i64 0, .int .i64 0]) 5 40 asks_desc hi hz0 hz1 hz2 rfl (by decide) v l.length (aks l) h ⟨nb, 0, none⟩ 1 1 d.row rfl
    (fun j u hu => by rw [Addr.add_lit, Nat.zero_add]; exact hc.cell j u hu)
    (fun u hu => by simp [AK.row] at hu; rcases hu with rfl | rfl | rfl | rfl | rfl <;> rfl) (by unfold maxLen; omega) (by omega) hB
  refine ⟨v', w', hr, ?_, (Below.refl _ W).grown hg hB (fun j hj => (h.lt j hj).1)⟩
  unfold Oak
  rw [aks_app, List.length_append]
  exact ho
end
theorem Bo.asks {W : World} {g : Nat} {l : List AK} (h : Bo W g (aks l)) {i : Nat} (hi : i < l.length) : W.rangeAt g (i * 5) (aof l i).row := fun j v hv => h.cell _ v (aks_get l i j v hi hv)
theorem Bo.aq {W : World} {g : Nat} {l : List AK} (h : Bo W g (aks l)) {n cap : Nat} (hn : n ≤ l.length) (hc : n ≤ cap) (h30 : l.length ≤ 1000000) : Aq W (.slice (some ⟨g, 0, none⟩) n cap) n (aof l) := by
  by_cases h0 : n = 0
  · subst h0; exact Or.inl ⟨rfl, _, _, rfl, fun h => by cases h⟩
  · exact Or.inr ⟨g, 0, cap, rfl, by omega, hc, by omega, fun i hi => by rw [Nat.zero_add]; exact h.asks (by omega)⟩
theorem Oak.drew {B : Nat} {W : World} {v : Value} {l : List AK} (h : Oak B W v l) : Oak B W.drew v l := h.keep fun _ _ => rfl
theorem Oak.mono {A B : Nat} {W : World} {v : Value} {l : List AK} (h : Oak B W v l) (hA : A ≤ B) : Oak A W v l := by
  refine ⟨h.1, ?_⟩
  rcases h.2 with e | ⟨g, cap, cur, hv, h1, h3⟩
  · exact .inl e
  · exact .inr ⟨g, cap, cur, hv, Nat.le_trans hA h1, h3⟩
theorem Oak.app {B : Nat} {W : World} {v : Value} {l : List AK} (h : Oak B W v l) (hB : B ≤ W.heap.size) {g : Nat} {d : AK} (hG : Bo W g d.row) (hn : l.length ≤ 1000000) (ty : TypeId) :
    ∃ v' W', (Builtin.append_ #[37, 37] ty #[v, .slice (some ⟨g, 0, none⟩) 1 1]).run Tryz.prog W = .ok v' W' ∧ Oak B W' v' (l ++ [d]) ∧ W.grownBy W' v.ownBlock := by
  obtain ⟨i0, hi, hz0, hz1, hz2⟩ := info_parts infoAsk
  obtain ⟨v', w', hr, ho, hg, _⟩ := run_append_own (P := Tryz.prog) (w := W) B 37 ty 52 i0 (.agg #[.int .i64 0, .int .i64 0, .int .i64 0, .int .i64 0, .int .i64 0]) 5 40 asks_desc hi hz0 hz1 hz2 rfl (by decide) v l.length (aks l) h ⟨g, 0, none⟩ 1 1 d.row rfl
    (fun j u hu => by rw [Addr.add_lit, Nat.zero_add]; exact hG.cell j u hu)
    (fun u hu => by simp [AK.row] at hu; rcases hu with rfl | rfl | rfl | rfl | rfl <;> rfl) (by unfold maxLen; omega) (by omega) hB
  refine ⟨v', w', hr, ?_, hg⟩
  unfold Oak
  rw [aks_app, List.length_append]
  exact ho
theorem Oak.aq {B : Nat} {W : World} {v : Value} {l : List AK} (h : Oak B W v l) (hl : l.length ≤ 1000000) : Aq W v l.length (aof l) := by
  rcases h.form with ⟨rfl, rfl⟩ | ⟨g, cap, rfl, _, hc, hG⟩
  · exact Or.inl ⟨rfl, none, 0, rfl, fun _ => rfl⟩
  · exact hG.aq (Nat.le_refl _) hc hl
end Go.Proofs.YteogbpaaacmllaaGreatDoor.Tab
namespace Go.Proofs.YteogbpaaacmllaaGreatDoor.Tab
set_option maxRecDepth 20000
open Go.RowKit
set_option linter.unusedVariables false

theorem akOpR {w : World} {b q : Nat} {t g o k x : Int} (h : w.rangeAt b q [.int .i64 t, .int .i64 g, .int .i64 o, .int .i64 k, .int .i64 x]) : w.rangeAt b (q + 2) [.int .i64 o, .int .i64 k, .int .i64 x] := fun j v hv => by
  match j, hv with
  | 0, hv => exact h 2 v hv
  | 1, hv => exact h 3 v hv
  | 2, hv => exact h 4 v hv
/-- The first i asks, as a list. -/
def akl (q : Nat → AK) : Nat → List AK
  | 0 => []
  | i + 1 => akl q i ++ [q i]
theorem akl_length (q : Nat → AK) : ∀ i, (akl q i).length = i
  | 0 => rfl
  | i + 1 => by show (akl q i ++ [q i]).length = i + 1; rw [List.length_append, akl_length q i]; rfl
theorem akl_of (q : Nat → AK) : ∀ {n i}, i < n → aof (akl q n) i = q i
  | n + 1, i, h => by
    show aof (akl q n ++ [q n]) i = q i
    by_cases e : i < n
    · rw [aof_app _ _ (by rw [akl_length]; exact e)]; exact akl_of q e
    · have hi : i = n := by omega
      subst hi
      have := aof_last (akl q i) (q i)
      rw [akl_length] at this
      exact this
theorem Aq.congr {w : World} {v : Value} {n : Nat} {p q : Nat → AK} (h : Aq w v n p) (e : ∀ i, i < n → p i = q i) : Aq w v n q := by
  rcases h with h | ⟨b, off, c, h1, h2, h3, h4, h5⟩
  · exact Or.inl h
  · exact Or.inr ⟨b, off, c, h1, h2, h3, h4, fun i hi => by rw [← e i hi]; exact h5 i hi⟩
set_option maxHeartbeats 8000000 in
theorem asksOf_nil (q : Nat → AK) {n : Nat} (h0 : n = 0) (w : World) :
    Calls Tryz.prog 9 #[.slice none 0 0] w (fun e w' => ∃ (B : Nat) (v' : Value), w.heap.size ≤ B ∧ e = .returned v' ∧ Oak B w' v' (akl q n) ∧ Below w.heap.size w w') := by
  have hM : Hid _ := (Ms.nil w)
  go_enter Tryz.func9, Tryz.ntmps9
  go_wp2_with fail
  generalize hsz : w.heap.size = n0 at hM ⊢
  have HSZ : Hid _ := hsz
  clear hsz
  subst h0
  go_loopg [3, 4] 0 (fun gg s3 s4 wt => wt = w ∧ s3 = .slice none 0 0 ∧ s4 = .int .i64 0)
  case atStart => exact ⟨rfl, rfl, rfl⟩
  case round =>
    obtain ⟨hw, rfl, rfl⟩ := hrel
    rw [hw]; clear hw wr
    go_wp2
    go_ret
    exact ⟨n0, _, Nat.le_of_eq HSZ.out, rfl, Oak.nil _ _, hM.out.below⟩
set_option maxHeartbeats 8000000 in
theorem asksOf_none (q : Nat → AK) {n : Nat} (h0 : n = 0) (a : Addr) (c : Nat) (w : World) :
    Calls Tryz.prog 9 #[.slice (some a) 0 c] w (fun e w' => ∃ (B : Nat) (v' : Value), w.heap.size ≤ B ∧ e = .returned v' ∧ Oak B w' v' (akl q n) ∧ Below w.heap.size w w') := by
  have hM : Hid _ := (Ms.nil w)
  go_enter Tryz.func9, Tryz.ntmps9
  go_wp2_with fail
  generalize hsz : w.heap.size = n0 at hM ⊢
  have HSZ : Hid _ := hsz
  clear hsz
  subst h0
  go_loopg [3, 4] 0 (fun gg s3 s4 wt => wt = w ∧ s3 = .slice none 0 0 ∧ s4 = .int .i64 0)
  case atStart => exact ⟨rfl, rfl, rfl⟩
  case round =>
    obtain ⟨hw, rfl, rfl⟩ := hrel
    rw [hw]; clear hw wr
    go_wp2
    go_ret
    exact ⟨n0, _, Nat.le_of_eq HSZ.out, rfl, Oak.nil _ _, hM.out.below⟩
set_option maxHeartbeats 8000000 in
theorem asksOf_some {b off c n : Nat} {q : Nat → AK} (h0 : 0 < n) (hc : n ≤ c) (hn : n ≤ 1000000) (w : World) (D : Aq w (.slice (some ⟨b, off, none⟩) n c) n q) :
    Calls Tryz.prog 9 #[.slice (some ⟨b, off, none⟩) n c] w (fun e w' => ∃ (B : Nat) (v' : Value), w.heap.size ≤ B ∧ e = .returned v' ∧ Oak B w' v' (akl q n) ∧ Below w.heap.size w w') := by
  have HE : Hid _ := hid D.all
  clear D
  have HC : Hid (n ≤ c ∧ n ≤ 1000000) := ⟨hc, hn⟩
  clear h0 hc hn
  have hM : Hid _ := (Ms.nil w)
  go_enter Tryz.func9, Tryz.ntmps9
  go_wp2_with fail
  generalize hsz : w.heap.size = n0 at hM ⊢
  have HSZ : Hid _ := hsz
  clear hsz
  go_loopg [3, 4] n (fun gg s3 s4 wt => ∃ i : Nat, i ≤ n ∧ n - i ≤ gg ∧ s4 = .int .i64 i ∧ Hid (Oak n0 wt s3 (akl q i)) ∧ Hid (Ms n0 w wt [] []))
  case atStart => exact ⟨0, by omega, by omega, rfl, Oak.nil _ _, hM⟩
  case round =>
    clear hM
    obtain ⟨i, hi, hgg, rfl, hO, hM⟩ := hrel
    obtain ⟨W, rfl⟩ : ∃ q, q = wr := ⟨_, rfl⟩
    by_cases hlt : i < n
    · have hi1 : (i : Int) < (n : Int) := by omega
      have hi0 : (0 : Int) ≤ (i : Int) := by omega
      obtain ⟨t, g, o, k, x, hq, _⟩ := HE.out W hM.out.below i hlt
      have HR : Hid (∀ w', Below w.heap.size w w' → w'.rangeAt b (off + i * 5) [.int .i64 t, .int .i64 g, .int .i64 o, .int .i64 k, .int .i64 x]) := fun w' hb => by
        obtain ⟨t2, g2, o2, k2, x2, hq2, hr⟩ := HE.out w' hb i hlt
        rw [hq] at hq2
        injection hq2 with e1 e2 e3 e4 e5
        subst e1 e2 e3 e4 e5
        exact hr
      have HA : Hid (akl q (i + 1) = akl q i ++ [⟨t, g, o, k, x⟩]) := hid (by show akl q i ++ [q i] = _; rw [hq])
      have HL : Hid ((akl q i).length ≤ 1000000) := hid (by rw [akl_length]; have := HC.out; omega)
      clear hq
      go_wp2_with fail
      replace hM := hid (hM.out.drew)
      replace hO := hid (hO.out.drew)
      refine wp_region_held_drew (S := fun w' => w'.rangeAt b (off + i * 5) [.int .i64 t, .int .i64 g, .int .i64 o, .int .i64 k, .int .i64 x]) (by kernel_rfl) (HR.out _ hM.out.below) (fun hH => ?_)
      generalize World.drew _ = W at hM hH hO ⊢
      refine tk 0 rfl hH ?_
      simp only [Act.put, p1, p2, p3]
      refine tk 1 rfl hH ?_
      simp only [Act.put, p1, p2, p3]
      refine tk 2 rfl hH ?_
      simp only [Act.put, p1, p2, p3]
      refine tk 3 rfl hH ?_
      simp only [Act.put, p1, p2, p3]
      refine tk 4 rfl hH ?_
      simp only [Act.put, p1, p2, p3]
      refine tk 5 rfl hH ?_ (by intro w h; have c0 := (show w.cell? ⟨b, off + i * 5, none⟩ = some (.int .i64 t) from h 0 _ rfl); clear h; go_simp; try with_reducible rfl)
      simp only [Act.put, p1, p2, p3]
      refine tk 6 rfl hH ?_
      simp only [Act.put, p1, p2, p3]
      refine tk 7 rfl hH ?_
      simp only [Act.put, p1, p2, p3]
      refine tk 8 rfl hH ?_
      simp only [Act.put, p1, p2, p3]
      refine tk 9 rfl hH ?_
      simp only [Act.put, p1, p2, p3]
      refine tk 10 rfl hH ?_ (by intro w h; have c0 := (show w.cell? ⟨b, off + i * 5 + 1, none⟩ = some (.int .i64 g) from h 1 _ rfl); clear h; go_simp; try with_reducible rfl)
      simp only [Act.put, p1, p2, p3]
      refine tk 11 rfl hH ?_
      simp only [Act.put, p1, p2, p3]
      refine tk 12 rfl hH ?_
      simp only [Act.put, p1, p2, p3]
      refine tk 13 rfl hH ?_
      simp only [Act.put, p1, p2, p3]
      refine tk 14 rfl hH ?_
      simp only [Act.put, p1, p2, p3]
      refine tkO 15 rfl hH (fun _ h => akOpR (h)) (rwO o k x) ?_
      simp only [Act.put, p1, p2, p3]
      refine tk 16 rfl hH ?_
      simp only [Act.put, p1, p2, p3]
      refine rd1 17 rfl (fun K hK => ?_)
      go_simp
      replace hM := hid (hM.out.born [.int .i64 t, .int .i64 g, .int .i64 o, .int .i64 k, .int .i64 x] 52 rfl)
      have hb := hM.out.step
      replace hO := hid (hO.out.later hb)
      clear hb
      refine hK.out _ _ (HR.out _ hM.out.below) (fun hH => ?_)
      clear hK K
      generalize W.heap.size = bq1 at hM hH ⊢
      generalize World.alloc _ _ = W at hM hH hO ⊢
      try simp only [Act.put, p1, p2, p3]
      refine rd1 18 rfl (fun K hK => ?_)
      have hrow : Bo W bq1 (AK.row ⟨t, g, o, k, x⟩) := (hM.out.at 0 rfl)
      obtain ⟨v9, w9, hr9, hO9, hg9⟩ := hO.out.app hM.out.le hrow HL.out 37
      refine apK rfl hr9 ?_
      replace hM := hid ((hM.out.pick []).grown hg9 (fun g hg => ⟨(hO.out.lt g hg).1, by simp⟩))
      replace hO := hid hO9
      clear hr9 hO9 hg9 hrow
      refine hK.out _ _ (HR.out _ hM.out.below) (fun hH => ?_)
      clear hK K
      generalize w9 = W at hM hH hO ⊢
      try simp only [Act.put, p1, p2, p3]
      refine tk 19 rfl hH ?_
      simp only [Act.put, p1, p2, p3]
      refine wpAnyH_done (by kernel_rfl) ?_ _
      go_wp2_with fail
      go_roundg (n - (i + 1))
      case measure => omega
      case rel => exact ⟨i + 1, by omega, by omega, by have := HC.out; have hw : wrap64 ((i : Int) + 1) = ((i + 1 : Nat) : Int) := (by unfold wrap64; omega); rw [hw], by rw [HA.out]; exact hO, hM.out.pick []⟩
    · obtain rfl : i = n := by omega
      have hi1 : ¬ (i : Int) < (i : Int) := by omega
      go_wp2
      go_ret
      exact ⟨n0, Nat.le_of_eq HSZ.out, u3, rfl, hO.out, hM.out.below⟩
theorem asksOf_is {v : Value} {n : Nat} {q : Nat → AK} {w : World} (D : Aq w v n q) (hn : n ≤ 1000000) :
    Calls Tryz.prog 9 #[v] w (fun e w' => ∃ (B : Nat) (v' : Value), w.heap.size ≤ B ∧ e = .returned v' ∧ Oak B w' v' (akl q n) ∧ Below w.heap.size w w') := by
  rcases id D with ⟨h0, a, c, hv, ha⟩ | ⟨b, off, c, hv, h0, hc, _, _⟩
  · subst hv
    cases a with
    | none => obtain rfl := ha rfl; exact asksOf_nil q h0 w
    | some a => exact asksOf_none q h0 a c w
  · subst hv; exact asksOf_some h0 hc hn w D
end Go.Proofs.YteogbpaaacmllaaGreatDoor.Tab
namespace Go.Proofs.YteogbpaaacmllaaGreatDoor.Tab
set_option maxRecDepth 20000
open Go.RowKit
set_option linter.unusedVariables false

theorem RBatch_yes {r : Nat → Nat} (hr : isRec r) {v : Value} {n : Nat} {q : Nat → AK} {w : World} (D : Aq w v n q) (hn : n ≤ 1000000) (hO : ∀ j, j < n → Oka (st r q j) (q j)) {bc : Nat} (hC : Bo w bc (rl r)) :
    Calls Tryz.prog 7 #[.slice (some ⟨bc, 0, none⟩) 32 32, v] w (RbY r q n w) := by
  rcases id D with ⟨h0, a, c, hv, ha⟩ | ⟨b, off, c, hv, h0, hc, hm, _⟩
  · subst hv h0
    cases a with
    | none => obtain rfl := ha rfl; exact RBatch_nil hr q w hC
    | some a => exact RBatch_none hr q a c w hC
  · subst hv; exact RBatch_some hr h0 hc hn rfl hO w D hC
theorem RBatch_err {r : Nat → Nat} (hr : isRec r) {v : Value} {n m : Nat} {q : Nat → AK} {ev : Int} {w : World} (D : Aq w v n q) (hn : n ≤ 1000000) (hm : m < n) (hO : ∀ j, j < m → Oka (st r q j) (q j)) (hB : Bad (st r q m) (q m) ev) {bc : Nat} (hC : Bo w bc (rl r)) :
    Calls Tryz.prog 7 #[.slice (some ⟨bc, 0, none⟩) 32 32, v] w (RbN ev (m : Nat) w) := by
  rcases id D with ⟨h0, _⟩ | ⟨b, off, c, hv, h0, hc, _, _⟩
  · omega
  · subst hv; exact RBatch_bad hr h0 hc hn hm hO hB w D hC
theorem do_err {r : Nat → Nat} (hr : isRec r) {v : Value} {n m : Nat} {q : Nat → AK} {ev : Int} {w : World} (D : Aq w v n q) (hn : n ≤ 1000000) (hm : m < n) (hO : ∀ j, j < m → Oka (st r q j) (q j)) (hB : Bad (st r q m) (q m) ev) (hT : HandleAt w) :
    Calls Tryz.prog 8 #[.agg (rl r).toArray, v] w (fun e w' => ∃ b, e = .returned (.tuple #[.agg (rl wz).toArray, .slice none 0 0, atV b]) ∧ w.heap.size ≤ b ∧ Bo w' b [.int .i64 ev, .int .i64 (m : Nat)] ∧ Below w.heap.size w w') := by
  rcases id D with ⟨h0, _⟩ | ⟨b, off, c, hv, h0, hc, _, _⟩
  · omega
  · subst hv; exact do_bad hr h0 hc hn hm hO hB w D hT
/-- Asks of the law, as the program has them. -/
theorem asksOf_aq {v : Value} {n : Nat} {q : Nat → AK} {w : World} (D : Aq w v n q) (hn : n ≤ 1000000) :
    Calls Tryz.prog 9 #[v] w (fun e w' => ∃ a c, e = .returned (.slice a n c) ∧ Aq w' (.slice a n c) n q ∧ Below w.heap.size w w') :=
  (asksOf_is D hn).mono fun e w' ⟨B, v', hB, he, hO, hb⟩ => by
    have h := hO.aq (by rw [akl_length]; exact hn)
    rw [akl_length] at h
    have h2 := h.congr fun i hi => akl_of q hi
    obtain ⟨a, c, rfl⟩ := h2.form
    exact ⟨a, c, he, h2, hb⟩
/-- What the reference answers, as blocks. -/
theorem RbY.zero {r : Nat → Nat} {q : Nat → AK} {n : Nat} {w w' : World} {e : Ending} (hl : dn r q n = []) (h : RbY r q n w e w') : ∃ b a c, e = .returned (.tuple #[.slice (some ⟨b, 0, none⟩) 32 32, .slice a 0 c, .agg #[.int .i64 0, .int .i64 (-1)]]) ∧ w.heap.size ≤ b ∧ Bo w' b (rl (bump (st r q n))) ∧ Below w.heap.size w w' := by
  obtain ⟨b, v', he, hb, hB, hO, hw⟩ := h
  rw [hl] at hO
  obtain ⟨a, c, rfl⟩ := hO.zero
  exact ⟨b, a, c, he, hb, hB, hw⟩
theorem RbY.some {r : Nat → Nat} {q : Nat → AK} {n : Nat} {w w' : World} {e : Ending} (hl : dn r q n ≠ []) (h : RbY r q n w e w') : ∃ b g cap, e = .returned (.tuple #[.slice (some ⟨b, 0, none⟩) 32 32, .slice (some ⟨g, 0, none⟩) (dn r q n).length cap, .agg #[.int .i64 0, .int .i64 (-1)]]) ∧ w.heap.size ≤ b ∧ Bo w' b (rl (bump (st r q n))) ∧ w.heap.size ≤ g ∧ g ≠ b ∧ (dn r q n).length ≤ cap ∧ Bo w' g (dds (dn r q n)) ∧ Below w.heap.size w w' := by
  obtain ⟨b, v', he, hb, hB, hO, hw⟩ := h
  obtain ⟨g, cap, rfl, hg, hc, hG⟩ := hO.some hl
  refine ⟨b, g, cap, he, hb, hB, hg, ?_, hc, hG, hw⟩
  rintro rfl
  have h1 := hB.rword (show 0 < 32 by decide)
  obtain ⟨d, l, hd⟩ : ∃ d l, dn r q n = d :: l := List.exists_cons_of_ne_nil hl
  have h2 := hG.cell 0 (.int .i64 d.t) (by rw [hd]; rfl)
  rw [h1] at h2
  cases h2
theorem do_zero {r : Nat → Nat} (hr : isRec r) {v : Value} {n : Nat} {q : Nat → AK} {w : World} (hl : dn r q n = []) (D : Aq w v n q) (hn : n ≤ 1000000) (hO : ∀ j, j < n → Oka (st r q j) (q j)) :
    Calls Tryz.prog 8 #[.agg (rl r).toArray, v] w (fun e w' => ∃ a c, e = .returned (.tuple #[.agg (rl (bump (st r q n))).toArray, .slice a 0 c, .nilIface]) ∧ Below w.heap.size w w') :=
  (do_yes hr D hn hO).mono fun e w' ⟨B, v', hB, he, hO, hb⟩ => by
    rw [hl] at hO
    obtain ⟨a, c, rfl⟩ := hO.zero
    exact ⟨a, c, he, hb⟩
theorem do_more {r : Nat → Nat} (hr : isRec r) {v : Value} {n : Nat} {q : Nat → AK} {w : World} (hl : dn r q n ≠ []) (D : Aq w v n q) (hn : n ≤ 1000000) (hO : ∀ j, j < n → Oka (st r q j) (q j)) :
    Calls Tryz.prog 8 #[.agg (rl r).toArray, v] w (fun e w' => ∃ g cap, e = .returned (.tuple #[.agg (rl (bump (st r q n))).toArray, .slice (some ⟨g, 0, none⟩) (dn r q n).length cap, .nilIface]) ∧ w.heap.size ≤ g ∧ (dn r q n).length ≤ cap ∧ Bo w' g (dds (dn r q n)) ∧ Below w.heap.size w w') :=
  (do_yes hr D hn hO).mono fun e w' ⟨B, v', hB, he, hO, hb⟩ => by
    obtain ⟨g, cap, rfl, hg, hc, hG⟩ := hO.some hl
    exact ⟨g, cap, he, Nat.le_trans hB hg, hc, hG, hb⟩
end Go.Proofs.YteogbpaaacmllaaGreatDoor.Tab
namespace Go.Proofs.YteogbpaaacmllaaGreatDoor
set_option maxRecDepth 20000
open Go.RowKit Go.Extern.Stop Go.Stop Go.Extern

set_option maxHeartbeats 4000000 in
theorem as_at (n : Int) (b : Nat) (t : Addr) (old : Value) (w : World) (hg : w.cell? ⟨0, 0, none⟩ = some (.iface 177 (.agg #[.pointer (some ⟨1, 34, none⟩)]))) (ht0 : w.cell? t = some old) (hf0 : w.frozen? t = false) (hb0 : w.cell? ⟨b, 0, none⟩ = some (.int .i64 n)) :
    Calls Tryz.prog 64 #[atV b, .iface 122 (.pointer (some t))] w fun ev w' => ev = .returned (.bool true) ∧ w' = ((((w.alloc (.cells #[.pointer (some t)] 122)).alloc (.cells #[.pointer (some ⟨1, 122, none⟩), .pointer (some ⟨w.heap.size, 0, none⟩), .int .u64 150] 150)).alloc (.cells #[.pointer (some ⟨1, 122, none⟩), .pointer (some ⟨w.heap.size, 0, none⟩), .int .u64 150] 150)).alloc (.cells #[.int .i64 n] 28)).setCell t (.int .i64 n) := by
  have hF0 := @run_callFunc_extern Tryz.prog 88 _ (fun args => ReflectliteValue.unpack (args.getD 0 (.tuple #[]))) Tryz.func88 (by kernel_rfl) (by kernel_rfl) (by kernel_rfl) (by kernel_rfl)
  have hF1 := @run_callFunc_extern Tryz.prog 89 _ (ReflectliteValue.methodAny (ReflectliteValue.valueError "reflectlite.Value.Type" 0) (fun t _ _ _ => ReflectliteType.toType t)) Tryz.func89 (by kernel_rfl) (by kernel_rfl) (by kernel_rfl) (by kernel_rfl)
  have hF2 := @run_callFunc_extern Tryz.prog 90 _ (ReflectliteValue.method (ReflectliteValue.valueError "reflectlite.Value.IsNil" 0) ReflectliteValue.isNil) Tryz.func90 (by kernel_rfl) (by kernel_rfl) (by kernel_rfl) (by kernel_rfl)
  have hF3 := @run_callFunc_extern Tryz.prog 152 _ (ReflectliteType.abiMethod fun t => do pure (.int .u8 (← Rtype.kind t))) Tryz.func152 (by kernel_rfl) (by kernel_rfl) (by kernel_rfl) (by kernel_rfl)
  have hF4 := @run_callFunc_extern Tryz.prog 165 _ (ReflectliteType.method ReflectliteType.elem) Tryz.func165 (by kernel_rfl) (by kernel_rfl) (by kernel_rfl) (by kernel_rfl)
  have hF5 := @run_callFunc_extern Tryz.prog 166 _ (ReflectliteType.relation "Implements" ReflectliteType.implements_) Tryz.func166 (by kernel_rfl) (by kernel_rfl) (by kernel_rfl) (by kernel_rfl)
  have hF6 := @run_callFunc_extern Tryz.prog 104 _ ReflectliteType.typeOf Tryz.func104 (by kernel_rfl) (by kernel_rfl) (by kernel_rfl) (by kernel_rfl)
  have hF7 := @run_callFunc_extern Tryz.prog 163 _ (ReflectliteType.relation "AssignableTo" ReflectliteType.assignableTo) Tryz.func163 (by kernel_rfl) (by kernel_rfl) (by kernel_rfl) (by kernel_rfl)
  have hF8 := @run_callFunc_extern Tryz.prog 105 _ (ReflectliteValue.method (ReflectliteValue.valueError "reflectlite.Value.Elem" 0) ReflectliteValue.elem) Tryz.func105 (by kernel_rfl) (by kernel_rfl) (by kernel_rfl) (by kernel_rfl)
  have hF9 := @run_callFunc_extern Tryz.prog 106 _ ReflectliteValue.set Tryz.func106 (by kernel_rfl) (by kernel_rfl) (by kernel_rfl) (by kernel_rfl)
  have tO := As.typeOfE
  have tA := At.typeOf
  have aA := At.assignable
  have uA := At.unwraps
  have lA := At.lacksAs
  have mU := At.methodUnwrap
  have mA := As.methodAssignableTo
  have aE := As.assignableE
  have vE := As.valueOfE
  have vP := As.valueOfP
  have tP := As.typeP
  have mK := As.methodKind
  have mE := As.methodElem
  have mI := As.methodImplements
  have kP := As.kindP
  have kE := As.kindE
  have eP := As.elemP
  have iE := As.implementsE
  have n8 := As.isNilP ⟨w.heap.size, 0, none⟩ t ((w.alloc (.cells #[.pointer (some t)] 122)).alloc (.cells #[.pointer (some ⟨1, 122, none⟩), .pointer (some ⟨w.heap.size, 0, none⟩), .int .u64 150] 150)) (by simp)
  have hlt : 0 < w.heap.size := by
    rcases Nat.lt_or_ge 0 w.heap.size with h | h
    · exact h
    · simp [World.cell?, Array.getElem?_eq_none h] at hg
  have hg2 : ((w.alloc (.cells #[.pointer (some t)] 122)).alloc (.cells #[.pointer (some ⟨1, 122, none⟩), .pointer (some ⟨w.heap.size, 0, none⟩), .int .u64 150] 150)).cell? ⟨0, 0, none⟩ = some (.iface 177 (.agg #[.pointer (some ⟨1, 34, none⟩)])) := by
    rw [World.cell?_alloc_lt _ _ ⟨0, 0, none⟩ (by simp <;> omega), World.cell?_alloc_lt _ _ ⟨0, 0, none⟩ hlt]; exact hg
  have htl : t.block < w.heap.size := by
    rcases Nat.lt_or_ge t.block w.heap.size with h | h
    · exact h
    · simp [World.cell?, Array.getElem?_eq_none h] at ht0
  have el := As.elemVP ⟨w.heap.size, 0, none⟩ t (((w.alloc (.cells #[.pointer (some t)] 122)).alloc (.cells #[.pointer (some ⟨1, 122, none⟩), .pointer (some ⟨w.heap.size, 0, none⟩), .int .u64 150] 150)).alloc (.cells #[.pointer (some ⟨1, 122, none⟩), .pointer (some ⟨w.heap.size, 0, none⟩), .int .u64 150] 150)) (by rw [World.cell?_alloc_lt _ _ ⟨w.heap.size, 0, none⟩ (by simp; omega)]; simp)
  have st := As.setE t ⟨w.heap.size + 1 + 1 + 1, 0, none⟩ n old ((((w.alloc (.cells #[.pointer (some t)] 122)).alloc (.cells #[.pointer (some ⟨1, 122, none⟩), .pointer (some ⟨w.heap.size, 0, none⟩), .int .u64 150] 150)).alloc (.cells #[.pointer (some ⟨1, 122, none⟩), .pointer (some ⟨w.heap.size, 0, none⟩), .int .u64 150] 150)).alloc (.cells #[.int .i64 n] 28))
    (by rw [World.cell?_alloc_at _ _ _ _ (by simp)]; rfl)
    (by rw [World.cell?_alloc_lt _ _ t (by simp; omega), World.cell?_alloc_lt _ _ t (by simp; omega), World.cell?_alloc_lt _ _ t (by simp; omega), World.cell?_alloc_lt _ _ t htl]; exact ht0)
    (by rw [World.frozen?_alloc_old _ _ t (by simp; omega), World.frozen?_alloc_old _ _ t (by simp; omega), World.frozen?_alloc_old _ _ t (by simp; omega), World.frozen?_alloc_old _ _ t (Nat.ne_of_lt htl)]; exact hf0)
  have hbl : b < w.heap.size := by
    rcases Nat.lt_or_ge b w.heap.size with h | h
    · exact h
    · simp [World.cell?, Array.getElem?_eq_none h] at hb0
  have UW := At.unwrap n b (((w.alloc (.cells #[.pointer (some t)] 122)).alloc (.cells #[.pointer (some ⟨1, 122, none⟩), .pointer (some ⟨w.heap.size, 0, none⟩), .int .u64 150] 150)).alloc (.cells #[.pointer (some ⟨1, 122, none⟩), .pointer (some ⟨w.heap.size, 0, none⟩), .int .u64 150] 150))
    (by rw [World.cell?_alloc_lt _ _ ⟨b, 0, none⟩ (by simp; omega), World.cell?_alloc_lt _ _ ⟨b, 0, none⟩ (by simp; omega), World.cell?_alloc_lt _ _ ⟨b, 0, none⟩ hbl]; exact hb0)
  unfold atV
  go_enter Tryz.func64, Tryz.ntmps64
  go_wp2
  refine wp_loop_rounds 2 ?_
  rw [rounds_succ]
  go_wp2_with fail
  refine UW.mono ?_
  rintro e w' ⟨rfl, rfl⟩
  go_wp2_with fail
  rw [rounds_succ]
  go_wp2
  go_ret
  exact ⟨rfl, rfl⟩
end Go.Proofs.YteogbpaaacmllaaGreatDoor
namespace Go.Proofs.YteogbpaaacmllaaGreatDoor.Tab
set_option maxRecDepth 20000
open Go.RowKit
set_option linter.unusedVariables false

theorem as_at' (n : Int) (b : Nat) (t : Addr) (old : Value) (w : World) (hg : HandleAt w) (ht0 : w.cell? t = some old) (hf0 : w.frozen? t = false) (hb0 : w.cell? ⟨b, 0, none⟩ = some (.int .i64 n)) :
    Calls Tryz.prog 64 #[atV b, .iface 122 (.pointer (some t))] w fun e w' => e = .returned (.bool true) ∧ ∃ W, Gr w W ∧ w' = W.setCell t (.int .i64 n) :=
  (as_at n b t old w hg ht0 hf0 hb0).mono fun _ _ ⟨he, hw⟩ => ⟨he, _, ((((Gr.refl w).alloc _ _).alloc _ _).alloc _ _).alloc _ _, hw⟩

theorem tell_at (n : Int) (b : Nat) (w : World) (hH : HandleAt w) (hb0 : w.cell? ⟨b, 0, none⟩ = some (.int .i64 n)) :
    Calls Tryz.prog 38 #[atV b] w fun e w' => e = .returned (.int .i64 n) ∧ Gr w w' := by
  have H1 : Hid (HandleAt (w.alloc (.cells #[.int .i64 0] 28))) := hH.later ((Gr.refl w).alloc _ _)
  have C1 : Hid ((w.alloc (.cells #[.int .i64 0] 28)).cell? ⟨b, 0, none⟩ = some (.int .i64 n)) := by
    rw [World.cell?_alloc_lt _ _ ⟨b, 0, none⟩ (size_of_cell' hb0)]; exact hb0
  clear hH hb0
  unfold atV
  go_enter Tryz.func38, Tryz.ntmps38
  go_wp2_with fail
  refine (as_at' n b ⟨w.heap.size, 0, none⟩ (.int .i64 0) _ H1.out (by simp) ((frozen?_alloc_cells _ _ _ _).trans (frozen_past w (Nat.le_refl _))) C1.out).mono ?_
  rintro e w' ⟨rfl, W, hW, rfl⟩
  have hc : (W.setCell ⟨w.heap.size, 0, none⟩ (.int .i64 n)).cell? ⟨w.heap.size, 0, none⟩ = some (.int .i64 n) := by
    refine World.cell?_setCell_same _ _ _ (u := .int .i64 0) ?_
    rw [hW.cell (by simp)]
    simp
  have hG : Gr w (W.setCell ⟨w.heap.size, 0, none⟩ (.int .i64 n)) := (((Gr.refl w).alloc _ _).trans hW).setCell (Nat.le_refl _) _
  generalize W.setCell ⟨w.heap.size, 0, none⟩ (.int .i64 n) = W2 at hc hG
  clear hW H1 C1
  go_wp2
  go_ret
  exact ⟨rfl, hG⟩

set_option maxHeartbeats 2000000 in
theorem place_at (ev p : Int) (b : Nat) (w : World) (hH : HandleAt w) (hB : Bo w b [.int .i64 ev, .int .i64 p]) :
    Calls Tryz.prog 39 #[atV b] w (fun e w' => e = .returned (.tuple #[.int .i64 ev, .int .i64 p]) ∧ Below w.heap.size w w') := by
  have AT : Hid _ := hid hB
  have TL : Hid _ := hid (tell_at ev b w hH (hB.at 0 rfl))
  clear hB hH
  have tA := At.isAt
  unfold atV at *
  have hM : Hid _ := (Ms.nil w)
  go_enter Tryz.func39, Tryz.ntmps39
  go_wp2_with fail
  refine TL.out.mono ?_
  rintro e W ⟨rfl, hg⟩
  have hb := hg.below
  clear hg TL
  replace hM := hid (hM.out.later hb)
  clear hb
  generalize hsz : w.heap.size = n at hM ⊢
  clear hsz
  go_wp2_with fail
  refine wp_loop_rounds 1 ?_
  rw [rounds_succ]
  go_wp2_with fail
  replace hM := hid (hM.out.drew)
  refine wp_region_held_drew (S := fun w' => Bo w' b [.int .i64 ev, .int .i64 p]) (by kernel_rfl) (AT.out.later hM.out.below) (fun hH => ?_)
  generalize World.drew _ = W at hM hH  ⊢
  refine tk 0 rfl hH ?_
  simp only [Act.put, p1, p2, p3]
  refine tk 1 rfl hH ?_
  simp only [Act.put, p1, p2, p3]
  refine tk 2 rfl hH ?_
  simp only [Act.put, p1, p2, p3]
  refine tk 3 rfl hH ?_
  simp only [Act.put, p1, p2, p3]
  refine tk 4 rfl hH ?_ (by intro w h; have c0 := h.at 1 rfl; clear h; go_simp; try with_reducible rfl)
  simp only [Act.put, p1, p2, p3]
  refine tk 5 rfl hH ?_
  simp only [Act.put, p1, p2, p3]
  refine tk 6 rfl hH ?_
  simp only [Act.put, p1, p2, p3]
  refine wpAnyH_done (by kernel_rfl) ?_ _
  go_wp2
  go_ret2
  exact ⟨rfl, hM.out.below⟩
set_option maxHeartbeats 2000000 in
theorem placed_nil  (w : World) :
    Calls Tryz.prog 10 #[.nilIface, .agg #[.int .i64 0, .int .i64 (-1)]] w (fun e w' => e = .returned (.bool true) ∧ Below w.heap.size w w') := by
  have PL : Hid (∀ w : World, _) := place_nil
  have hM : Hid _ := ((Ms.nil w).born [.int .i64 0, .int .i64 (-1)] 30 (b := w.heap.size) rfl)
  go_enter Tryz.func10, Tryz.ntmps10
  go_wp2_with fail
  refine (PL.out _).mono ?_
  rintro e ux ⟨rfl, hw⟩
  rw [hw]; clear hw ux
  have c1 := hM.out.cell 0 0 rfl rfl
  have c2 := hM.out.cell 0 1 rfl rfl
  go_wp2
  go_ret
  exact ⟨rfl, hM.out.below⟩
set_option maxHeartbeats 2000000 in
theorem placed_errno  (ev : Int) (w : World) (hH : HandleAt w) :
    Calls Tryz.prog 10 #[.iface 28 (.int .i64 ev), .agg #[.int .i64 ev, .int .i64 (-1)]] w (fun e w' => e = .returned (.bool true) ∧ Below w.heap.size w w') := by
  have HH : Hid _ := hid hH
  clear hH
  have PL : Hid (∀ w : World, HandleAt w → _) := place_errno ev
  have hM : Hid _ := ((Ms.nil w).born [.int .i64 ev, .int .i64 (-1)] 30 (b := w.heap.size) rfl)
  go_enter Tryz.func10, Tryz.ntmps10
  go_wp2_with fail
  refine (PL.out _ (HH.out.below hM.out.below)).mono ?_
  rintro e W ⟨rfl, hg⟩
  have hb := hg.below
  clear hg
  replace hM := hid (hM.out.later hb)
  clear hb
  have c1 := hM.out.cell 0 0 rfl rfl
  have c2 := hM.out.cell 0 1 rfl rfl
  go_wp2
  go_ret
  exact ⟨rfl, hM.out.below⟩
set_option maxHeartbeats 2000000 in
theorem placed_at  (ev p : Int) (b : Nat) (w : World) (hH : HandleAt w) (hB : Bo w b [.int .i64 ev, .int .i64 p]) :
    Calls Tryz.prog 10 #[atV b, .agg #[.int .i64 ev, .int .i64 p]] w (fun e w' => e = .returned (.bool true) ∧ Below w.heap.size w w') := by
  have HH : Hid _ := hid hH
  clear hH
  have AT : Hid _ := hid hB
  clear hB
  have PL : Hid (∀ w : World, HandleAt w → _) := place_at ev p b
  have hM : Hid _ := ((Ms.nil w).born [.int .i64 ev, .int .i64 p] 30 (b := w.heap.size) rfl)
  go_enter Tryz.func10, Tryz.ntmps10
  go_wp2_with fail
  refine (PL.out _ (HH.out.below hM.out.below) (AT.out.later hM.out.below)).mono ?_
  rintro e W ⟨rfl, hb⟩
  replace hM := hid (hM.out.later hb)
  clear hb
  have c1 := hM.out.cell 0 0 rfl rfl
  have c2 := hM.out.cell 0 1 rfl rfl
  go_wp2
  go_ret
  exact ⟨rfl, hM.out.below⟩
end Go.Proofs.YteogbpaaacmllaaGreatDoor.Tab
namespace Go.Proofs.YteogbpaaacmllaaGreatDoor.Tab
set_option maxRecDepth 20000
open Go.RowKit
set_option linter.unusedVariables false

def rcq (d : Nat → Nat) (i : Nat) : Nat → Nat := fun j => if j < i then d j else 0
theorem rcq_zero (d : Nat → Nat) : rl (rcq d 0) = rl wz := rl_congr fun j _ => by simp [rcq, wz]
theorem rcq_all (d : Nat → Nat) : rl (rcq d 32) = rl d := rl_congr fun j hj => by unfold rcq; rw [if_pos hj]
theorem rcq_next (d : Nat → Nat) (i : Nat) : rl (upw (rcq d i) i (d i)) = rl (rcq d (i + 1)) := rl_congr fun j _ => by
  unfold upw rcq
  by_cases e : j = i
  · subst e; rw [if_pos rfl, if_pos (by omega)]
  · rw [if_neg e]
    by_cases h : j < i
    · rw [if_pos h, if_pos (by omega)]
    · rw [if_neg h, if_neg (by omega)]
set_option maxHeartbeats 4000000 in
theorem recordOf_is {ρ : Nat → Nat} {b k : Nat} (w : World) (hB : Bo w b (rl ρ)) :
    Calls Tryz.prog 11 #[.slice (some ⟨b, 0, none⟩) 32 k] w (fun e w' => e = .returned (.agg (rl ρ).toArray) ∧ Below w.heap.size w w') := by
  have HB : Hid _ := hB
  clear hB
  have NX : Hid (∀ i, _) := fun i => rcq_next ρ i
  have AL : Hid _ := rcq_all ρ
  have Z0 : Hid _ := rcq_zero ρ
  have hM : Hid _ := (((Ms.nil w).bornR rl_zero.symm 24 (b := w.heap.size) rfl).bornR rl_zero.symm 24 (b := w.heap.size + 1) (by simp))
  go_enter Tryz.func11, Tryz.ntmps11
  go_wp2_with fail
  generalize World.alloc _ _ = W at hM ⊢
  generalize hsz : w.heap.size = n at hM ⊢
  clear hsz
  go_loopg [4] 32 (fun gg s4 wt => ∃ i : Nat, i ≤ 32 ∧ 32 - i ≤ gg ∧ s4 = .int .i64 i ∧ Hid (Ms n w wt [(n + 1, rl (rcq ρ i)), (n, rl wz)] []))
  case atStart => exact ⟨0, by omega, by omega, rfl, by rw [Z0.out]; exact hM⟩
  case round =>
    clear hM
    obtain ⟨i, hi, hgg, rfl, hM⟩ := hrel
    obtain ⟨W, rfl⟩ : ∃ q, q = wr := ⟨_, rfl⟩
    by_cases hlt : i < 32
    · have i1 : (i : Int) < 32 := by omega
      have i0 : (0 : Int) ≤ (i : Int) := by omega
      obtain ⟨x, hx⟩ : ∃ x, ρ i = x := ⟨_, rfl⟩
      have NI : Hid _ := NX.out i
      rw [hx] at NI
      have HX : Hid _ := hx
      clear hx
      have x1 := (HB.out.later hM.out.below).rwordx hlt HX.out
      go_wp2_with (first
        | (refine s1 rfl (hM.out.at 0 rfl) i rfl (.int .u64 (x : Nat)) rfl sz_u ?_ (by rw [rl_length]; exact hlt)
           replace hM := hid (hM.out.put1 0 i rfl (.int .u64 (x : Nat)) (rl (upw (rcq ρ i) i x)) (by rw [rl_length]; exact hlt) (rl_set _ _ hlt))
           generalize World.setCell _ _ _ = W at hM ⊢
           clear x1
           rw [NI.out] at hM))
      go_roundg (32 - (i + 1))
      case measure => omega
      case rel => exact ⟨i + 1, by omega, by omega, by go_num, hM⟩
    · obtain rfl : i = 32 := by omega
      rw [AL.out] at hM
      go_wp2_with (first
        | (refine lR rfl (hM.out.at 0 rfl) rfl (rwR ρ) ?_)
        | (refine sR rfl (hM.out.at 1 rfl) rfl ((rwR wz).len (rwR ρ)) (rwR ρ) ?_
           replace hM := hid (hM.out.put 1 rfl (rl ρ) ((rwR wz).len (rwR ρ)))
           generalize World.setCells _ _ _ _ = W at hM ⊢))
      exact bodyPost_ret (res1 Tryz.results11 (hM.out.at 1 rfl) (rwR ρ)) rfl ⟨rfl, hM.out.below⟩
end Go.Proofs.YteogbpaaacmllaaGreatDoor.Tab
