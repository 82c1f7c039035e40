/- Texts laid together: Package record: Done, by its contract; The keepers' pick, and an answer's size: contracts and facts; The keepers put, pick, kindOf, by their contracts; words of a record are words; Package batch: one, by its contracts; The reference's records, as they lie: facts of no program; What words are an object, said in two ways; The reference's record behind a deed, as it lies: facts of no program; The reference's same, by its contract: seventeen words held against words of a longer row; The reference's Thing.Cells, by its contract: a tally; The reference's Thing.Cells, by its contract: a table; What an answer takes in memory: the text that has it here; A key's row, as it lies. -/
import Derived.Test.YteogbpaaacmllaaGreatDoorPk06
import Derived.Deep.DeepCutAuto
import Derived.Deep.RegionHeld3
import Derived.Test.YteogbpaaacmllaaGreatDoorPk00
import Derived.Test.YteogbpaaacmllaaGreatDoorRows
import Derived.Test.YteogbpaaacmllaaGreatDoorPk03
import Derived.Test.YteogbpaaacmllaaGreatDoorPk04
import Derived.Test.YteogbpaaacmllaaGreatDoorPk02
import Derived.Deep.LoopGhost
import Derived.Deep.RegionWith
import Derived.BigRegion
import Derived.Laws.MakeOwn
import Derived.Test.YteogbpaaacmllaaGreatDoorPk01
namespace Go.Proofs.YteogbpaaacmllaaGreatDoor.Tab
set_option maxRecDepth 20000
open Go.RowKit
set_option linter.unusedVariables false

set_option maxHeartbeats 8000000 in
theorem recDone_yes {r : Nat → Nat} (U : ∀ j, j < 32 → r j < 18446744073709551616) {t : Nat} (ht : t < 4) {o k x : Int} (hr : isRec r) (hR : Rt o k x) (w : World) :
    Calls Tryz.prog 42 #[.agg (rl r).toArray, .int .i64 (t : Nat), .agg #[.int .i64 o, .int .i64 k, .int .i64 x]] w (fun e w' => e = .returned (.tuple #[.agg (rl (rdo r t o k x)).toArray, .nilIface]) ∧ Below w.heap.size w w') := by
  have IT : Hid (∀ w : World, _) := isThread_yes (t := (t : Nat)) (by omega) (by omega)
  have RI : Hid (∀ w : World, _) := recRight_is U (v := true) ⟨fun _ => hr, fun _ => rfl⟩
  obtain ⟨q, hq⟩ : ∃ q, q = min (r 0) 4294967296 := ⟨_, rfl⟩
  have KI : Hid (∀ w : World, _) := recKind_is r hq
  have eq : q = r 0 := by have h1 := hr.ob1.2; omega
  have OJ : Hid (∀ w : World, _) := recObject_is r
  rw [eq] at KI
  clear hq eq
  obtain ⟨⟨d, ci, yi⟩, hu⟩ : ∃ u, odo (r 0 : Nat) (ob r) o k x = u := ⟨_, rfl⟩
  have ft := odo_ft hr.1 hR
  have f := odo_facts hr.1 hR.w1 hR.w6 hR.k0 hR.k1 hR.v0 hR.v1
  have DD : Hid (∀ w, _) := fun w => obDo_is hr.1 hR w
  unfold DidD at DD
  rw [hu] at f ft DD
  have ec : ci = ((ci.toNat : Nat) : Int) := by have := f.code.1; dsimp only at this; omega
  have ey : yi = ((yi.toNat : Nat) : Int) := by have := f.told.1; dsimp only at this; omega
  dsimp only at ft DD
  generalize ci.toNat = cc at *
  generalize yi.toNat = y at *
  subst ec ey
  have hrow := rdo_row ht hu
  have AI : Hid (∀ w, _) := fun w => answer_yes ft w
  have FI : Hid (∀ w : World, _) := fun w => Flip_yes (r 26) t w (U 26 (by decide)) (by omega)
  have hc28 := hr.2.2.2.2.2.2
  rw [← hrow]
  clear hrow hu ft f
  have fa0 : (0 : Int) ≤ 18 + (t : Int) := by omega
  have fa1 : 18 + (t : Int) < 32 := by omega
  have fa2 : IntKind.i64.wrap (18 + (t : Int)) = 18 + t := by rw [IntKind.wrap_i64]; omega
  have fa3 : wrap64 (18 + (t : Int)) = 18 + t := by unfold wrap64; omega
  have fa4 : (18 + (t : Int)).toNat = 18 + t := by omega
  have fb0 : (0 : Int) ≤ 22 + (t : Int) := by omega
  have fb1 : 22 + (t : Int) < 32 := by omega
  have fb2 : IntKind.i64.wrap (22 + (t : Int)) = 22 + t := by rw [IntKind.wrap_i64]; omega
  have fb3 : wrap64 (22 + (t : Int)) = 22 + t := by unfold wrap64; omega
  have fb4 : (22 + (t : Int)).toNat = 22 + t := by omega
  obtain ⟨c, hc⟩ : ∃ c, r 28 = c := ⟨_, rfl⟩
  obtain ⟨a, ha⟩ : ∃ a, r 26 = a := ⟨_, rfl⟩
  rw [hc] at hc28 ⊢
  rw [ha] at FI ⊢
  obtain ⟨c1, hc1⟩ : ∃ c1, c + 1 = c1 := ⟨_, rfl⟩
  obtain ⟨g, hg⟩ : ∃ g, a ^^^ 2 ^ t = g := ⟨_, rfl⟩
  obtain ⟨aw, haw⟩ : ∃ aw, ansN cc y = aw := ⟨_, rfl⟩
  have w1 : IntKind.u64.wrap ((c : Int) + 1) = (c1 : Nat) := by rw [IntKind.wrap_u64]; omega
  have l1 : Hid (wo r d 28 = c) := (wo_hi (by decide)).trans hc
  have l2 : Hid (upw (upw (wo r d) 28 c1) (18 + t) aw 28 = c1) := (upw_ne (by omega)).trans upw_eq
  have l3 : Hid (upw (upw (upw (wo r d) 28 c1) (18 + t) aw) (22 + t) c1 26 = a) := by show _ = _; rw [upw_ne (by omega), upw_ne (by omega), upw_ne (by omega), wo_hi (by decide), ha]
  have b18 : 18 + t < 32 := by omega
  have b22 : 22 + t < 32 := by omega
  rw [hg] at FI
  rw [haw] at AI
  rw [hc1, hg, haw]
  clear hc ha hc1 hg haw hc28 hr hR U ht
  have hM : Hid _ := ((((Ms.nil w).born (rl r) 24 (b := w.heap.size) rfl).born [.int .i64 o, .int .i64 k, .int .i64 x] 44 (b := w.heap.size + 1) (by simp)).bornR rl_zero.symm 24 (b := w.heap.size + 2) (by simp))
  have c1 := hM.out.cell 1 0 rfl rfl
  have c2 := hM.out.cell 1 1 rfl rfl
  have c3 := hM.out.cell 1 2 rfl rfl
  go_enter Tryz.func42, Tryz.ntmps42
  go_wp2_with fail
  refine (IT.out _).mono ?_
  rintro e ux ⟨rfl, hw⟩
  rw [hw]; clear hw ux
  go_wp2_with (first
    | (refine lR rfl (hM.out.at 2 rfl) rfl (rwR r) ?_))
  clear c1 c2 c3
  generalize World.alloc _ _ = W at hM ⊢
  generalize hsz : w.heap.size = n at hM ⊢
  clear hsz
  refine (RI.out _).mono ?_
  rintro e W ⟨rfl, hb⟩
  replace hM := hid (hM.out.later hb)
  clear hb
  go_wp2_with fail
  go_cut [8, 9, 10] (fun s8 s9 s10 wx => ∃ bz8 bz9 : Nat, s8 = .pointer (some ⟨bz8, 0, none⟩) ∧ s9 = .pointer (some ⟨bz9, 0, none⟩) ∧ s10 = .nilIface ∧ Hid (Ms n w wx [(n, (rl r)), ((n + 2), (rl wz)), (bz8, (wl d)), (bz9, [.int .i64 (cc : Nat), .int .i64 (y : Nat)])] []))
  case first =>
    replace hM := hid (hM.out.drew)
    refine wp_region_held_drew (S := fun w' => Bo w' n (rl r) ∧ Bo w' (n + 1) [.int .i64 o, .int .i64 k, .int .i64 x]) (by kernel_rfl) ⟨hM.out.at 2 rfl, hM.out.at 1 rfl⟩ (fun hH => ?_)
    generalize World.drew _ = W at hM hH  ⊢
    refine tkR 0 rfl hH (fun _ h => h.1) (rwR r) ?_
    simp only [Act.put, p1, p2, p3]
    refine tkR 2 rfl hH (fun _ h => h.1) (rwR r) ?_
    simp only [Act.put, p1, p2, p3]
    refine tkR 4 rfl hH (fun _ h => h.2) (rwO o k x) ?_
    simp only [Act.put, p1, p2, p3]
    refine rdn [1, 10, 11] ?_
    refine rdc rfl (fun K hK => ?_) ?_
    · go_simp
      refine (KI.out _).mono ?_
      rintro e W ⟨rfl, hb⟩
      replace hM := hid (hM.out.later hb)
      clear hb
      go_wp2_with fail
      refine hK.out _ _ ⟨hM.out.at 2 rfl, hM.out.at 1 rfl⟩ (fun hH => ?_)
      clear hK K
      try simp only [Act.put, p1, p2, p3]
      refine rdn [3, 10, 11] ?_
      refine rdc rfl (fun K hK => ?_) ?_
      · go_simp
        refine (OJ.out _).mono ?_
        rintro e W ⟨rfl, hb⟩
        replace hM := hid (hM.out.later hb)
        clear hb
        go_wp2_with fail
        refine hK.out _ _ ⟨hM.out.at 2 rfl, hM.out.at 1 rfl⟩ (fun hH => ?_)
        clear hK K
        try simp only [Act.put, p1, p2, p3]
        refine rdn [5, 10, 11] ?_
        refine rdc rfl (fun K hK => ?_) ?_
        · go_simp
          refine (DD.out _).mono ?_
          rintro e W ⟨rfl, hb⟩
          replace hM := hid (hM.out.later hb)
          clear hb
          go_wp2_with fail
          refine hK.out _ _ ⟨hM.out.at 2 rfl, hM.out.at 1 rfl⟩ (fun hH => ?_)
          clear hK K
          try simp only [Act.put, p1, p2, p3]
          refine tk 6 rfl hH ?_
          simp only [Act.put, p1, p2, p3]
          refine tk 7 rfl hH ?_
          simp only [Act.put, p1, p2, p3]
          refine tk 8 rfl hH ?_
          simp only [Act.put, p1, p2, p3]
          refine tk 9 rfl hH ?_
          simp only [Act.put, p1, p2, p3]
          refine rdn [10, 11] ?_
          refine rdc rfl (fun K hK => ?_) ?_
          · go_simp
            replace hM := hid (hM.out.bornR wz_all.symm 119 rfl)
            refine hK.out _ _ ⟨hM.out.at 3 rfl, hM.out.at 2 rfl⟩ (fun hH => ?_)
            clear hK K
            generalize W.heap.size = bq4 at hM hH ⊢
            generalize World.alloc _ _ = W at hM hH  ⊢
            try simp only [Act.put, p1, p2, p3]
            refine rd1 11 rfl (fun K hK => ?_)
            go_simp
            replace hM := hid (hM.out.born [.int .i64 0, .int .i64 0] 58 rfl)
            refine hK.out _ _ ⟨hM.out.at 4 rfl, hM.out.at 3 rfl⟩ (fun hH => ?_)
            clear hK K
            generalize W.heap.size = bq5 at hM hH ⊢
            generalize World.alloc _ _ = W at hM hH  ⊢
            try simp only [Act.put, p1, p2, p3]
            refine rd1 12 rfl (fun K hK => ?_)
            refine stR rfl (hM.out.at 1 rfl) ((rwC wz).len (rwC d)) (rwC d) ?_
            simp only [Act.put]
            replace hM := hid (hM.out.put 1 rfl (wl d) ((rwC wz).len (rwC d)))
            refine hK.out _ _ ⟨hM.out.at 4 rfl, hM.out.at 3 rfl⟩ (fun hH => ?_)
            clear hK K
            generalize World.setCells _ _ _ _ = W at hM hH ⊢
            try simp only [Act.put, p1, p2, p3]
            refine rd1 13 rfl (fun K hK => ?_)
            refine stR rfl (hM.out.at 0 rfl) ((rwA 0 0).len (rwA _ _)) (rwA _ _) ?_
            simp only [Act.put]
            replace hM := hid (hM.out.put 0 rfl [.int .i64 (cc : Nat), .int .i64 (y : Nat)] ((rwA 0 0).len (rwA _ _)))
            refine hK.out _ _ ⟨hM.out.at 4 rfl, hM.out.at 3 rfl⟩ (fun hH => ?_)
            clear hK K
            generalize World.setCells _ _ _ _ = W at hM hH ⊢
            try simp only [Act.put, p1, p2, p3]
            refine tk 14 rfl hH ?_
            simp only [Act.put, p1, p2, p3]
            refine wpAnyH_done (by kernel_rfl) ?_ _
            go_wp2_with fail
            go_meet
            case rel => exact ⟨bq4, bq5, rfl, rfl, rfl, (hM.out.pick [4, 2, 1, 0]).pickL []⟩
          refine rdc rfl (fun K hK => ?_) AllReadyH.nil
          go_simp
          replace hM := hid (hM.out.born [.int .i64 0, .int .i64 0] 58 rfl)
          refine hK.out _ _ ⟨hM.out.at 3 rfl, hM.out.at 2 rfl⟩ (fun hH => ?_)
          clear hK K
          generalize W.heap.size = bq4 at hM hH ⊢
          generalize World.alloc _ _ = W at hM hH  ⊢
          try simp only [Act.put, p1, p2, p3]
          refine rd1 10 rfl (fun K hK => ?_)
          go_simp
          replace hM := hid (hM.out.bornR wz_all.symm 119 rfl)
          refine hK.out _ _ ⟨hM.out.at 4 rfl, hM.out.at 3 rfl⟩ (fun hH => ?_)
          clear hK K
          generalize W.heap.size = bq5 at hM hH ⊢
          generalize World.alloc _ _ = W at hM hH  ⊢
          try simp only [Act.put, p1, p2, p3]
          refine rd1 12 rfl (fun K hK => ?_)
          refine stR rfl (hM.out.at 0 rfl) ((rwC wz).len (rwC d)) (rwC d) ?_
          simp only [Act.put]
          replace hM := hid (hM.out.put 0 rfl (wl d) ((rwC wz).len (rwC d)))
          refine hK.out _ _ ⟨hM.out.at 4 rfl, hM.out.at 3 rfl⟩ (fun hH => ?_)
          clear hK K
          generalize World.setCells _ _ _ _ = W at hM hH ⊢
          try simp only [Act.put, p1, p2, p3]
          refine rd1 13 rfl (fun K hK => ?_)
          refine stR rfl (hM.out.at 1 rfl) ((rwA 0 0).len (rwA _ _)) (rwA _ _) ?_
          simp only [Act.put]
          replace hM := hid (hM.out.put 1 rfl [.int .i64 (cc : Nat), .int .i64 (y : Nat)] ((rwA 0 0).len (rwA _ _)))
          refine hK.out _ _ ⟨hM.out.at 4 rfl, hM.out.at 3 rfl⟩ (fun hH => ?_)
          clear hK K
          generalize World.setCells _ _ _ _ = W at hM hH ⊢
          try simp only [Act.put, p1, p2, p3]
          refine tk 14 rfl hH ?_
          simp only [Act.put, p1, p2, p3]
          refine wpAnyH_done (by kernel_rfl) ?_ _
          go_wp2_with fail
          go_meet
          case rel => exact ⟨bq5, bq4, rfl, rfl, rfl, (hM.out.pick [4, 2, 0, 1]).pickL []⟩
        refine rdc rfl (fun K hK => ?_) ?_
        · go_simp
          replace hM := hid (hM.out.bornR wz_all.symm 119 rfl)
          refine hK.out _ _ ⟨hM.out.at 3 rfl, hM.out.at 2 rfl⟩ (fun hH => ?_)
          clear hK K
          generalize W.heap.size = bq4 at hM hH ⊢
          generalize World.alloc _ _ = W at hM hH  ⊢
          try simp only [Act.put, p1, p2, p3]
          refine rdn [5, 11] ?_
          refine rdc rfl (fun K hK => ?_) ?_
          · go_simp
            refine (DD.out _).mono ?_
            rintro e W ⟨rfl, hb⟩
            replace hM := hid (hM.out.later hb)
            clear hb
            go_wp2_with fail
            refine hK.out _ _ ⟨hM.out.at 3 rfl, hM.out.at 2 rfl⟩ (fun hH => ?_)
            clear hK K
            try simp only [Act.put, p1, p2, p3]
            refine tk 6 rfl hH ?_
            simp only [Act.put, p1, p2, p3]
            refine tk 7 rfl hH ?_
            simp only [Act.put, p1, p2, p3]
            refine tk 8 rfl hH ?_
            simp only [Act.put, p1, p2, p3]
            refine tk 9 rfl hH ?_
            simp only [Act.put, p1, p2, p3]
            refine rd1 11 rfl (fun K hK => ?_)
            go_simp
            replace hM := hid (hM.out.born [.int .i64 0, .int .i64 0] 58 rfl)
            refine hK.out _ _ ⟨hM.out.at 4 rfl, hM.out.at 3 rfl⟩ (fun hH => ?_)
            clear hK K
            generalize W.heap.size = bq5 at hM hH ⊢
            generalize World.alloc _ _ = W at hM hH  ⊢
            try simp only [Act.put, p1, p2, p3]
            refine rd1 12 rfl (fun K hK => ?_)
            refine stR rfl (hM.out.at 1 rfl) ((rwC wz).len (rwC d)) (rwC d) ?_
            simp only [Act.put]
            replace hM := hid (hM.out.put 1 rfl (wl d) ((rwC wz).len (rwC d)))
            refine hK.out _ _ ⟨hM.out.at 4 rfl, hM.out.at 3 rfl⟩ (fun hH => ?_)
            clear hK K
            generalize World.setCells _ _ _ _ = W at hM hH ⊢
            try simp only [Act.put, p1, p2, p3]
            refine rd1 13 rfl (fun K hK => ?_)
            refine stR rfl (hM.out.at 0 rfl) ((rwA 0 0).len (rwA _ _)) (rwA _ _) ?_
            simp only [Act.put]
            replace hM := hid (hM.out.put 0 rfl [.int .i64 (cc : Nat), .int .i64 (y : Nat)] ((rwA 0 0).len (rwA _ _)))
            refine hK.out _ _ ⟨hM.out.at 4 rfl, hM.out.at 3 rfl⟩ (fun hH => ?_)
            clear hK K
            generalize World.setCells _ _ _ _ = W at hM hH ⊢
            try simp only [Act.put, p1, p2, p3]
            refine tk 14 rfl hH ?_
            simp only [Act.put, p1, p2, p3]
            refine wpAnyH_done (by kernel_rfl) ?_ _
            go_wp2_with fail
            go_meet
            case rel => exact ⟨bq4, bq5, rfl, rfl, rfl, (hM.out.pick [4, 2, 1, 0]).pickL []⟩
          refine rdc rfl (fun K hK => ?_) AllReadyH.nil
          go_simp
          replace hM := hid (hM.out.born [.int .i64 0, .int .i64 0] 58 rfl)
          refine hK.out _ _ ⟨hM.out.at 4 rfl, hM.out.at 3 rfl⟩ (fun hH => ?_)
          clear hK K
          generalize W.heap.size = bq5 at hM hH ⊢
          generalize World.alloc _ _ = W at hM hH  ⊢
          try simp only [Act.put, p1, p2, p3]
          refine rd1 5 rfl (fun K hK => ?_)
          go_simp
          refine (DD.out _).mono ?_
          rintro e W ⟨rfl, hb⟩
          replace hM := hid (hM.out.later hb)
          clear hb
          go_wp2_with fail
          refine hK.out _ _ ⟨hM.out.at 4 rfl, hM.out.at 3 rfl⟩ (fun hH => ?_)
          clear hK K
          try simp only [Act.put, p1, p2, p3]
          refine tk 6 rfl hH ?_
          simp only [Act.put, p1, p2, p3]
          refine tk 7 rfl hH ?_
          simp only [Act.put, p1, p2, p3]
          refine tk 8 rfl hH ?_
          simp only [Act.put, p1, p2, p3]
          refine tk 9 rfl hH ?_
          simp only [Act.put, p1, p2, p3]
          refine rd1 12 rfl (fun K hK => ?_)
          refine stR rfl (hM.out.at 1 rfl) ((rwC wz).len (rwC d)) (rwC d) ?_
          simp only [Act.put]
          replace hM := hid (hM.out.put 1 rfl (wl d) ((rwC wz).len (rwC d)))
          refine hK.out _ _ ⟨hM.out.at 4 rfl, hM.out.at 3 rfl⟩ (fun hH => ?_)
          clear hK K
          generalize World.setCells _ _ _ _ = W at hM hH ⊢
          try simp only [Act.put, p1, p2, p3]
          refine rd1 13 rfl (fun K hK => ?_)
          refine stR rfl (hM.out.at 0 rfl) ((rwA 0 0).len (rwA _ _)) (rwA _ _) ?_
          simp only [Act.put]
          replace hM := hid (hM.out.put 0 rfl [.int .i64 (cc : Nat), .int .i64 (y : Nat)] ((rwA 0 0).len (rwA _ _)))
          refine hK.out _ _ ⟨hM.out.at 4 rfl, hM.out.at 3 rfl⟩ (fun hH => ?_)
          clear hK K
          generalize World.setCells _ _ _ _ = W at hM hH ⊢
          try simp only [Act.put, p1, p2, p3]
          refine tk 14 rfl hH ?_
          simp only [Act.put, p1, p2, p3]
          refine wpAnyH_done (by kernel_rfl) ?_ _
          go_wp2_with fail
          go_meet
          case rel => exact ⟨bq4, bq5, rfl, rfl, rfl, (hM.out.pick [4, 2, 1, 0]).pickL []⟩
        refine rdc rfl (fun K hK => ?_) AllReadyH.nil
        go_simp
        replace hM := hid (hM.out.born [.int .i64 0, .int .i64 0] 58 rfl)
        refine hK.out _ _ ⟨hM.out.at 3 rfl, hM.out.at 2 rfl⟩ (fun hH => ?_)
        clear hK K
        generalize W.heap.size = bq4 at hM hH ⊢
        generalize World.alloc _ _ = W at hM hH  ⊢
        try simp only [Act.put, p1, p2, p3]
        refine rdn [5, 10] ?_
        refine rdc rfl (fun K hK => ?_) ?_
        · go_simp
          refine (DD.out _).mono ?_
          rintro e W ⟨rfl, hb⟩
          replace hM := hid (hM.out.later hb)
          clear hb
          go_wp2_with fail
          refine hK.out _ _ ⟨hM.out.at 3 rfl, hM.out.at 2 rfl⟩ (fun hH => ?_)
          clear hK K
          try simp only [Act.put, p1, p2, p3]
          refine tk 6 rfl hH ?_
          simp only [Act.put, p1, p2, p3]
          refine tk 7 rfl hH ?_
          simp only [Act.put, p1, p2, p3]
          refine tk 8 rfl hH ?_
          simp only [Act.put, p1, p2, p3]
          refine tk 9 rfl hH ?_
          simp only [Act.put, p1, p2, p3]
          refine rd1 10 rfl (fun K hK => ?_)
          go_simp
          replace hM := hid (hM.out.bornR wz_all.symm 119 rfl)
          refine hK.out _ _ ⟨hM.out.at 4 rfl, hM.out.at 3 rfl⟩ (fun hH => ?_)
          clear hK K
          generalize W.heap.size = bq5 at hM hH ⊢
          generalize World.alloc _ _ = W at hM hH  ⊢
          try simp only [Act.put, p1, p2, p3]
          refine rd1 12 rfl (fun K hK => ?_)
          refine stR rfl (hM.out.at 0 rfl) ((rwC wz).len (rwC d)) (rwC d) ?_
          simp only [Act.put]
          replace hM := hid (hM.out.put 0 rfl (wl d) ((rwC wz).len (rwC d)))
          refine hK.out _ _ ⟨hM.out.at 4 rfl, hM.out.at 3 rfl⟩ (fun hH => ?_)
          clear hK K
          generalize World.setCells _ _ _ _ = W at hM hH ⊢
          try simp only [Act.put, p1, p2, p3]
          refine rd1 13 rfl (fun K hK => ?_)
          refine stR rfl (hM.out.at 1 rfl) ((rwA 0 0).len (rwA _ _)) (rwA _ _) ?_
          simp only [Act.put]
          replace hM := hid (hM.out.put 1 rfl [.int .i64 (cc : Nat), .int .i64 (y : Nat)] ((rwA 0 0).len (rwA _ _)))
          refine hK.out _ _ ⟨hM.out.at 4 rfl, hM.out.at 3 rfl⟩ (fun hH => ?_)
          clear hK K
          generalize World.setCells _ _ _ _ = W at hM hH ⊢
          try simp only [Act.put, p1, p2, p3]
          refine tk 14 rfl hH ?_
          simp only [Act.put, p1, p2, p3]
          refine wpAnyH_done (by kernel_rfl) ?_ _
          go_wp2_with fail
          go_meet
          case rel => exact ⟨bq5, bq4, rfl, rfl, rfl, (hM.out.pick [4, 2, 0, 1]).pickL []⟩
        refine rdc rfl (fun K hK => ?_) AllReadyH.nil
        go_simp
        replace hM := hid (hM.out.bornR wz_all.symm 119 rfl)
        refine hK.out _ _ ⟨hM.out.at 4 rfl, hM.out.at 3 rfl⟩ (fun hH => ?_)
        clear hK K
        generalize W.heap.size = bq5 at hM hH ⊢
        generalize World.alloc _ _ = W at hM hH  ⊢
        try simp only [Act.put, p1, p2, p3]
        refine rd1 5 rfl (fun K hK => ?_)
        go_simp
        refine (DD.out _).mono ?_
        rintro e W ⟨rfl, hb⟩
        replace hM := hid (hM.out.later hb)
        clear hb
        go_wp2_with fail
        refine hK.out _ _ ⟨hM.out.at 4 rfl, hM.out.at 3 rfl⟩ (fun hH => ?_)
        clear hK K
        try simp only [Act.put, p1, p2, p3]
        refine tk 6 rfl hH ?_
        simp only [Act.put, p1, p2, p3]
        refine tk 7 rfl hH ?_
        simp only [Act.put, p1, p2, p3]
        refine tk 8 rfl hH ?_
        simp only [Act.put, p1, p2, p3]
        refine tk 9 rfl hH ?_
        simp only [Act.put, p1, p2, p3]
        refine rd1 12 rfl (fun K hK => ?_)
        refine stR rfl (hM.out.at 0 rfl) ((rwC wz).len (rwC d)) (rwC d) ?_
        simp only [Act.put]
        replace hM := hid (hM.out.put 0 rfl (wl d) ((rwC wz).len (rwC d)))
        refine hK.out _ _ ⟨hM.out.at 4 rfl, hM.out.at 3 rfl⟩ (fun hH => ?_)
        clear hK K
        generalize World.setCells _ _ _ _ = W at hM hH ⊢
        try simp only [Act.put, p1, p2, p3]
        refine rd1 13 rfl (fun K hK => ?_)
        refine stR rfl (hM.out.at 1 rfl) ((rwA 0 0).len (rwA _ _)) (rwA _ _) ?_
        simp only [Act.put]
        replace hM := hid (hM.out.put 1 rfl [.int .i64 (cc : Nat), .int .i64 (y : Nat)] ((rwA 0 0).len (rwA _ _)))
        refine hK.out _ _ ⟨hM.out.at 4 rfl, hM.out.at 3 rfl⟩ (fun hH => ?_)
        clear hK K
        generalize World.setCells _ _ _ _ = W at hM hH ⊢
        try simp only [Act.put, p1, p2, p3]
        refine tk 14 rfl hH ?_
        simp only [Act.put, p1, p2, p3]
        refine wpAnyH_done (by kernel_rfl) ?_ _
        go_wp2_with fail
        go_meet
        case rel => exact ⟨bq5, bq4, rfl, rfl, rfl, (hM.out.pick [4, 2, 0, 1]).pickL []⟩
      refine rdc rfl (fun K hK => ?_) ?_
      · go_simp
        replace hM := hid (hM.out.bornR wz_all.symm 119 rfl)
        refine hK.out _ _ ⟨hM.out.at 3 rfl, hM.out.at 2 rfl⟩ (fun hH => ?_)
        clear hK K
        generalize W.heap.size = bq4 at hM hH ⊢
        generalize World.alloc _ _ = W at hM hH  ⊢
        try simp only [Act.put, p1, p2, p3]
        refine rdn [3, 11] ?_
        refine rdc rfl (fun K hK => ?_) ?_
        · go_simp
          refine (OJ.out _).mono ?_
          rintro e W ⟨rfl, hb⟩
          replace hM := hid (hM.out.later hb)
          clear hb
          go_wp2_with fail
          refine hK.out _ _ ⟨hM.out.at 3 rfl, hM.out.at 2 rfl⟩ (fun hH => ?_)
          clear hK K
          try simp only [Act.put, p1, p2, p3]
          refine rdn [5, 11] ?_
          refine rdc rfl (fun K hK => ?_) ?_
          · go_simp
            refine (DD.out _).mono ?_
            rintro e W ⟨rfl, hb⟩
            replace hM := hid (hM.out.later hb)
            clear hb
            go_wp2_with fail
            refine hK.out _ _ ⟨hM.out.at 3 rfl, hM.out.at 2 rfl⟩ (fun hH => ?_)
            clear hK K
            try simp only [Act.put, p1, p2, p3]
            refine tk 6 rfl hH ?_
            simp only [Act.put, p1, p2, p3]
            refine tk 7 rfl hH ?_
            simp only [Act.put, p1, p2, p3]
            refine tk 8 rfl hH ?_
            simp only [Act.put, p1, p2, p3]
            refine tk 9 rfl hH ?_
            simp only [Act.put, p1, p2, p3]
            refine rd1 11 rfl (fun K hK => ?_)
            go_simp
            replace hM := hid (hM.out.born [.int .i64 0, .int .i64 0] 58 rfl)
            refine hK.out _ _ ⟨hM.out.at 4 rfl, hM.out.at 3 rfl⟩ (fun hH => ?_)
            clear hK K
            generalize W.heap.size = bq5 at hM hH ⊢
            generalize World.alloc _ _ = W at hM hH  ⊢
            try simp only [Act.put, p1, p2, p3]
            refine rd1 12 rfl (fun K hK => ?_)
            refine stR rfl (hM.out.at 1 rfl) ((rwC wz).len (rwC d)) (rwC d) ?_
            simp only [Act.put]
            replace hM := hid (hM.out.put 1 rfl (wl d) ((rwC wz).len (rwC d)))
            refine hK.out _ _ ⟨hM.out.at 4 rfl, hM.out.at 3 rfl⟩ (fun hH => ?_)
            clear hK K
            generalize World.setCells _ _ _ _ = W at hM hH ⊢
            try simp only [Act.put, p1, p2, p3]
            refine rd1 13 rfl (fun K hK => ?_)
            refine stR rfl (hM.out.at 0 rfl) ((rwA 0 0).len (rwA _ _)) (rwA _ _) ?_
            simp only [Act.put]
            replace hM := hid (hM.out.put 0 rfl [.int .i64 (cc : Nat), .int .i64 (y : Nat)] ((rwA 0 0).len (rwA _ _)))
            refine hK.out _ _ ⟨hM.out.at 4 rfl, hM.out.at 3 rfl⟩ (fun hH => ?_)
            clear hK K
            generalize World.setCells _ _ _ _ = W at hM hH ⊢
            try simp only [Act.put, p1, p2, p3]
            refine tk 14 rfl hH ?_
            simp only [Act.put, p1, p2, p3]
            refine wpAnyH_done (by kernel_rfl) ?_ _
            go_wp2_with fail
            go_meet
            case rel => exact ⟨bq4, bq5, rfl, rfl, rfl, (hM.out.pick [4, 2, 1, 0]).pickL []⟩
          refine rdc rfl (fun K hK => ?_) AllReadyH.nil
          go_simp
          replace hM := hid (hM.out.born [.int .i64 0, .int .i64 0] 58 rfl)
          refine hK.out _ _ ⟨hM.out.at 4 rfl, hM.out.at 3 rfl⟩ (fun hH => ?_)
          clear hK K
          generalize W.heap.size = bq5 at hM hH ⊢
          generalize World.alloc _ _ = W at hM hH  ⊢
          try simp only [Act.put, p1, p2, p3]
          refine rd1 5 rfl (fun K hK => ?_)
          go_simp
          refine (DD.out _).mono ?_
          rintro e W ⟨rfl, hb⟩
          replace hM := hid (hM.out.later hb)
          clear hb
          go_wp2_with fail
          refine hK.out _ _ ⟨hM.out.at 4 rfl, hM.out.at 3 rfl⟩ (fun hH => ?_)
          clear hK K
          try simp only [Act.put, p1, p2, p3]
          refine tk 6 rfl hH ?_
          simp only [Act.put, p1, p2, p3]
          refine tk 7 rfl hH ?_
          simp only [Act.put, p1, p2, p3]
          refine tk 8 rfl hH ?_
          simp only [Act.put, p1, p2, p3]
          refine tk 9 rfl hH ?_
          simp only [Act.put, p1, p2, p3]
          refine rd1 12 rfl (fun K hK => ?_)
          refine stR rfl (hM.out.at 1 rfl) ((rwC wz).len (rwC d)) (rwC d) ?_
          simp only [Act.put]
          replace hM := hid (hM.out.put 1 rfl (wl d) ((rwC wz).len (rwC d)))
          refine hK.out _ _ ⟨hM.out.at 4 rfl, hM.out.at 3 rfl⟩ (fun hH => ?_)
          clear hK K
          generalize World.setCells _ _ _ _ = W at hM hH ⊢
          try simp only [Act.put, p1, p2, p3]
          refine rd1 13 rfl (fun K hK => ?_)
          refine stR rfl (hM.out.at 0 rfl) ((rwA 0 0).len (rwA _ _)) (rwA _ _) ?_
          simp only [Act.put]
          replace hM := hid (hM.out.put 0 rfl [.int .i64 (cc : Nat), .int .i64 (y : Nat)] ((rwA 0 0).len (rwA _ _)))
          refine hK.out _ _ ⟨hM.out.at 4 rfl, hM.out.at 3 rfl⟩ (fun hH => ?_)
          clear hK K
          generalize World.setCells _ _ _ _ = W at hM hH ⊢
          try simp only [Act.put, p1, p2, p3]
          refine tk 14 rfl hH ?_
          simp only [Act.put, p1, p2, p3]
          refine wpAnyH_done (by kernel_rfl) ?_ _
          go_wp2_with fail
          go_meet
          case rel => exact ⟨bq4, bq5, rfl, rfl, rfl, (hM.out.pick [4, 2, 1, 0]).pickL []⟩
        refine rdc rfl (fun K hK => ?_) AllReadyH.nil
        go_simp
        replace hM := hid (hM.out.born [.int .i64 0, .int .i64 0] 58 rfl)
        refine hK.out _ _ ⟨hM.out.at 4 rfl, hM.out.at 3 rfl⟩ (fun hH => ?_)
        clear hK K
        generalize W.heap.size = bq5 at hM hH ⊢
        generalize World.alloc _ _ = W at hM hH  ⊢
        try simp only [Act.put, p1, p2, p3]
        refine rd1 3 rfl (fun K hK => ?_)
        go_simp
        refine (OJ.out _).mono ?_
        rintro e W ⟨rfl, hb⟩
        replace hM := hid (hM.out.later hb)
        clear hb
        go_wp2_with fail
        refine hK.out _ _ ⟨hM.out.at 4 rfl, hM.out.at 3 rfl⟩ (fun hH => ?_)
        clear hK K
        try simp only [Act.put, p1, p2, p3]
        refine rd1 5 rfl (fun K hK => ?_)
        go_simp
        refine (DD.out _).mono ?_
        rintro e W ⟨rfl, hb⟩
        replace hM := hid (hM.out.later hb)
        clear hb
        go_wp2_with fail
        refine hK.out _ _ ⟨hM.out.at 4 rfl, hM.out.at 3 rfl⟩ (fun hH => ?_)
        clear hK K
        try simp only [Act.put, p1, p2, p3]
        refine tk 6 rfl hH ?_
        simp only [Act.put, p1, p2, p3]
        refine tk 7 rfl hH ?_
        simp only [Act.put, p1, p2, p3]
        refine tk 8 rfl hH ?_
        simp only [Act.put, p1, p2, p3]
        refine tk 9 rfl hH ?_
        simp only [Act.put, p1, p2, p3]
        refine rd1 12 rfl (fun K hK => ?_)
        refine stR rfl (hM.out.at 1 rfl) ((rwC wz).len (rwC d)) (rwC d) ?_
        simp only [Act.put]
        replace hM := hid (hM.out.put 1 rfl (wl d) ((rwC wz).len (rwC d)))
        refine hK.out _ _ ⟨hM.out.at 4 rfl, hM.out.at 3 rfl⟩ (fun hH => ?_)
        clear hK K
        generalize World.setCells _ _ _ _ = W at hM hH ⊢
        try simp only [Act.put, p1, p2, p3]
        refine rd1 13 rfl (fun K hK => ?_)
        refine stR rfl (hM.out.at 0 rfl) ((rwA 0 0).len (rwA _ _)) (rwA _ _) ?_
        simp only [Act.put]
        replace hM := hid (hM.out.put 0 rfl [.int .i64 (cc : Nat), .int .i64 (y : Nat)] ((rwA 0 0).len (rwA _ _)))
        refine hK.out _ _ ⟨hM.out.at 4 rfl, hM.out.at 3 rfl⟩ (fun hH => ?_)
        clear hK K
        generalize World.setCells _ _ _ _ = W at hM hH ⊢
        try simp only [Act.put, p1, p2, p3]
        refine tk 14 rfl hH ?_
        simp only [Act.put, p1, p2, p3]
        refine wpAnyH_done (by kernel_rfl) ?_ _
        go_wp2_with fail
        go_meet
        case rel => exact ⟨bq4, bq5, rfl, rfl, rfl, (hM.out.pick [4, 2, 1, 0]).pickL []⟩
      refine rdc rfl (fun K hK => ?_) AllReadyH.nil
      go_simp
      replace hM := hid (hM.out.born [.int .i64 0, .int .i64 0] 58 rfl)
      refine hK.out _ _ ⟨hM.out.at 3 rfl, hM.out.at 2 rfl⟩ (fun hH => ?_)
      clear hK K
      generalize W.heap.size = bq4 at hM hH ⊢
      generalize World.alloc _ _ = W at hM hH  ⊢
      try simp only [Act.put, p1, p2, p3]
      refine rdn [3, 10] ?_
      refine rdc rfl (fun K hK => ?_) ?_
      · go_simp
        refine (OJ.out _).mono ?_
        rintro e W ⟨rfl, hb⟩
        replace hM := hid (hM.out.later hb)
        clear hb
        go_wp2_with fail
        refine hK.out _ _ ⟨hM.out.at 3 rfl, hM.out.at 2 rfl⟩ (fun hH => ?_)
        clear hK K
        try simp only [Act.put, p1, p2, p3]
        refine rdn [5, 10] ?_
        refine rdc rfl (fun K hK => ?_) ?_
        · go_simp
          refine (DD.out _).mono ?_
          rintro e W ⟨rfl, hb⟩
          replace hM := hid (hM.out.later hb)
          clear hb
          go_wp2_with fail
          refine hK.out _ _ ⟨hM.out.at 3 rfl, hM.out.at 2 rfl⟩ (fun hH => ?_)
          clear hK K
          try simp only [Act.put, p1, p2, p3]
          refine tk 6 rfl hH ?_
          simp only [Act.put, p1, p2, p3]
          refine tk 7 rfl hH ?_
          simp only [Act.put, p1, p2, p3]
          refine tk 8 rfl hH ?_
          simp only [Act.put, p1, p2, p3]
          refine tk 9 rfl hH ?_
          simp only [Act.put, p1, p2, p3]
          refine rd1 10 rfl (fun K hK => ?_)
          go_simp
          replace hM := hid (hM.out.bornR wz_all.symm 119 rfl)
          refine hK.out _ _ ⟨hM.out.at 4 rfl, hM.out.at 3 rfl⟩ (fun hH => ?_)
          clear hK K
          generalize W.heap.size = bq5 at hM hH ⊢
          generalize World.alloc _ _ = W at hM hH  ⊢
          try simp only [Act.put, p1, p2, p3]
          refine rd1 12 rfl (fun K hK => ?_)
          refine stR rfl (hM.out.at 0 rfl) ((rwC wz).len (rwC d)) (rwC d) ?_
          simp only [Act.put]
          replace hM := hid (hM.out.put 0 rfl (wl d) ((rwC wz).len (rwC d)))
          refine hK.out _ _ ⟨hM.out.at 4 rfl, hM.out.at 3 rfl⟩ (fun hH => ?_)
          clear hK K
          generalize World.setCells _ _ _ _ = W at hM hH ⊢
          try simp only [Act.put, p1, p2, p3]
          refine rd1 13 rfl (fun K hK => ?_)
          refine stR rfl (hM.out.at 1 rfl) ((rwA 0 0).len (rwA _ _)) (rwA _ _) ?_
          simp only [Act.put]
          replace hM := hid (hM.out.put 1 rfl [.int .i64 (cc : Nat), .int .i64 (y : Nat)] ((rwA 0 0).len (rwA _ _)))
          refine hK.out _ _ ⟨hM.out.at 4 rfl, hM.out.at 3 rfl⟩ (fun hH => ?_)
          clear hK K
          generalize World.setCells _ _ _ _ = W at hM hH ⊢
          try simp only [Act.put, p1, p2, p3]
          refine tk 14 rfl hH ?_
          simp only [Act.put, p1, p2, p3]
          refine wpAnyH_done (by kernel_rfl) ?_ _
          go_wp2_with fail
          go_meet
          case rel => exact ⟨bq5, bq4, rfl, rfl, rfl, (hM.out.pick [4, 2, 0, 1]).pickL []⟩
        refine rdc rfl (fun K hK => ?_) AllReadyH.nil
        go_simp
        replace hM := hid (hM.out.bornR wz_all.symm 119 rfl)
        refine hK.out _ _ ⟨hM.out.at 4 rfl, hM.out.at 3 rfl⟩ (fun hH => ?_)
        clear hK K
        generalize W.heap.size = bq5 at hM hH ⊢
        generalize World.alloc _ _ = W at hM hH  ⊢
        try simp only [Act.put, p1, p2, p3]
        refine rd1 5 rfl (fun K hK => ?_)
        go_simp
        refine (DD.out _).mono ?_
        rintro e W ⟨rfl, hb⟩
        replace hM := hid (hM.out.later hb)
        clear hb
        go_wp2_with fail
        refine hK.out _ _ ⟨hM.out.at 4 rfl, hM.out.at 3 rfl⟩ (fun hH => ?_)
        clear hK K
        try simp only [Act.put, p1, p2, p3]
        refine tk 6 rfl hH ?_
        simp only [Act.put, p1, p2, p3]
        refine tk 7 rfl hH ?_
        simp only [Act.put, p1, p2, p3]
        refine tk 8 rfl hH ?_
        simp only [Act.put, p1, p2, p3]
        refine tk 9 rfl hH ?_
        simp only [Act.put, p1, p2, p3]
        refine rd1 12 rfl (fun K hK => ?_)
        refine stR rfl (hM.out.at 0 rfl) ((rwC wz).len (rwC d)) (rwC d) ?_
        simp only [Act.put]
        replace hM := hid (hM.out.put 0 rfl (wl d) ((rwC wz).len (rwC d)))
        refine hK.out _ _ ⟨hM.out.at 4 rfl, hM.out.at 3 rfl⟩ (fun hH => ?_)
        clear hK K
        generalize World.setCells _ _ _ _ = W at hM hH ⊢
        try simp only [Act.put, p1, p2, p3]
        refine rd1 13 rfl (fun K hK => ?_)
        refine stR rfl (hM.out.at 1 rfl) ((rwA 0 0).len (rwA _ _)) (rwA _ _) ?_
        simp only [Act.put]
        replace hM := hid (hM.out.put 1 rfl [.int .i64 (cc : Nat), .int .i64 (y : Nat)] ((rwA 0 0).len (rwA _ _)))
        refine hK.out _ _ ⟨hM.out.at 4 rfl, hM.out.at 3 rfl⟩ (fun hH => ?_)
        clear hK K
        generalize World.setCells _ _ _ _ = W at hM hH ⊢
        try simp only [Act.put, p1, p2, p3]
        refine tk 14 rfl hH ?_
        simp only [Act.put, p1, p2, p3]
        refine wpAnyH_done (by kernel_rfl) ?_ _
        go_wp2_with fail
        go_meet
        case rel => exact ⟨bq5, bq4, rfl, rfl, rfl, (hM.out.pick [4, 2, 0, 1]).pickL []⟩
      refine rdc rfl (fun K hK => ?_) AllReadyH.nil
      go_simp
      replace hM := hid (hM.out.bornR wz_all.symm 119 rfl)
      refine hK.out _ _ ⟨hM.out.at 4 rfl, hM.out.at 3 rfl⟩ (fun hH => ?_)
      clear hK K
      generalize W.heap.size = bq5 at hM hH ⊢
      generalize World.alloc _ _ = W at hM hH  ⊢
      try simp only [Act.put, p1, p2, p3]
      refine rd1 3 rfl (fun K hK => ?_)
      go_simp
      refine (OJ.out _).mono ?_
      rintro e W ⟨rfl, hb⟩
      replace hM := hid (hM.out.later hb)
      clear hb
      go_wp2_with fail
      refine hK.out _ _ ⟨hM.out.at 4 rfl, hM.out.at 3 rfl⟩ (fun hH => ?_)
      clear hK K
      try simp only [Act.put, p1, p2, p3]
      refine rd1 5 rfl (fun K hK => ?_)
      go_simp
      refine (DD.out _).mono ?_
      rintro e W ⟨rfl, hb⟩
      replace hM := hid (hM.out.later hb)
      clear hb
      go_wp2_with fail
      refine hK.out _ _ ⟨hM.out.at 4 rfl, hM.out.at 3 rfl⟩ (fun hH => ?_)
      clear hK K
      try simp only [Act.put, p1, p2, p3]
      refine tk 6 rfl hH ?_
      simp only [Act.put, p1, p2, p3]
      refine tk 7 rfl hH ?_
      simp only [Act.put, p1, p2, p3]
      refine tk 8 rfl hH ?_
      simp only [Act.put, p1, p2, p3]
      refine tk 9 rfl hH ?_
      simp only [Act.put, p1, p2, p3]
      refine rd1 12 rfl (fun K hK => ?_)
      refine stR rfl (hM.out.at 0 rfl) ((rwC wz).len (rwC d)) (rwC d) ?_
      simp only [Act.put]
      replace hM := hid (hM.out.put 0 rfl (wl d) ((rwC wz).len (rwC d)))
      refine hK.out _ _ ⟨hM.out.at 4 rfl, hM.out.at 3 rfl⟩ (fun hH => ?_)
      clear hK K
      generalize World.setCells _ _ _ _ = W at hM hH ⊢
      try simp only [Act.put, p1, p2, p3]
      refine rd1 13 rfl (fun K hK => ?_)
      refine stR rfl (hM.out.at 1 rfl) ((rwA 0 0).len (rwA _ _)) (rwA _ _) ?_
      simp only [Act.put]
      replace hM := hid (hM.out.put 1 rfl [.int .i64 (cc : Nat), .int .i64 (y : Nat)] ((rwA 0 0).len (rwA _ _)))
      refine hK.out _ _ ⟨hM.out.at 4 rfl, hM.out.at 3 rfl⟩ (fun hH => ?_)
      clear hK K
      generalize World.setCells _ _ _ _ = W at hM hH ⊢
      try simp only [Act.put, p1, p2, p3]
      refine tk 14 rfl hH ?_
      simp only [Act.put, p1, p2, p3]
      refine wpAnyH_done (by kernel_rfl) ?_ _
      go_wp2_with fail
      go_meet
      case rel => exact ⟨bq5, bq4, rfl, rfl, rfl, (hM.out.pick [4, 2, 0, 1]).pickL []⟩
    refine rdc rfl (fun K hK => ?_) ?_
    · go_simp
      replace hM := hid (hM.out.bornR wz_all.symm 119 rfl)
      refine hK.out _ _ ⟨hM.out.at 3 rfl, hM.out.at 2 rfl⟩ (fun hH => ?_)
      clear hK K
      generalize W.heap.size = bq4 at hM hH ⊢
      generalize World.alloc _ _ = W at hM hH  ⊢
      try simp only [Act.put, p1, p2, p3]
      refine rdn [1, 11] ?_
      refine rdc rfl (fun K hK => ?_) ?_
      · go_simp
        refine (KI.out _).mono ?_
        rintro e W ⟨rfl, hb⟩
        replace hM := hid (hM.out.later hb)
        clear hb
        go_wp2_with fail
        refine hK.out _ _ ⟨hM.out.at 3 rfl, hM.out.at 2 rfl⟩ (fun hH => ?_)
        clear hK K
        try simp only [Act.put, p1, p2, p3]
        refine rdn [3, 11] ?_
        refine rdc rfl (fun K hK => ?_) ?_
        · go_simp
          refine (OJ.out _).mono ?_
          rintro e W ⟨rfl, hb⟩
          replace hM := hid (hM.out.later hb)
          clear hb
          go_wp2_with fail
          refine hK.out _ _ ⟨hM.out.at 3 rfl, hM.out.at 2 rfl⟩ (fun hH => ?_)
          clear hK K
          try simp only [Act.put, p1, p2, p3]
          refine rdn [5, 11] ?_
          refine rdc rfl (fun K hK => ?_) ?_
          · go_simp
            refine (DD.out _).mono ?_
            rintro e W ⟨rfl, hb⟩
            replace hM := hid (hM.out.later hb)
            clear hb
            go_wp2_with fail
            refine hK.out _ _ ⟨hM.out.at 3 rfl, hM.out.at 2 rfl⟩ (fun hH => ?_)
            clear hK K
            try simp only [Act.put, p1, p2, p3]
            refine tk 6 rfl hH ?_
            simp only [Act.put, p1, p2, p3]
            refine tk 7 rfl hH ?_
            simp only [Act.put, p1, p2, p3]
            refine tk 8 rfl hH ?_
            simp only [Act.put, p1, p2, p3]
            refine tk 9 rfl hH ?_
            simp only [Act.put, p1, p2, p3]
            refine rd1 11 rfl (fun K hK => ?_)
            go_simp
            replace hM := hid (hM.out.born [.int .i64 0, .int .i64 0] 58 rfl)
            refine hK.out _ _ ⟨hM.out.at 4 rfl, hM.out.at 3 rfl⟩ (fun hH => ?_)
            clear hK K
            generalize W.heap.size = bq5 at hM hH ⊢
            generalize World.alloc _ _ = W at hM hH  ⊢
            try simp only [Act.put, p1, p2, p3]
            refine rd1 12 rfl (fun K hK => ?_)
            refine stR rfl (hM.out.at 1 rfl) ((rwC wz).len (rwC d)) (rwC d) ?_
            simp only [Act.put]
            replace hM := hid (hM.out.put 1 rfl (wl d) ((rwC wz).len (rwC d)))
            refine hK.out _ _ ⟨hM.out.at 4 rfl, hM.out.at 3 rfl⟩ (fun hH => ?_)
            clear hK K
            generalize World.setCells _ _ _ _ = W at hM hH ⊢
            try simp only [Act.put, p1, p2, p3]
            refine rd1 13 rfl (fun K hK => ?_)
            refine stR rfl (hM.out.at 0 rfl) ((rwA 0 0).len (rwA _ _)) (rwA _ _) ?_
            simp only [Act.put]
            replace hM := hid (hM.out.put 0 rfl [.int .i64 (cc : Nat), .int .i64 (y : Nat)] ((rwA 0 0).len (rwA _ _)))
            refine hK.out _ _ ⟨hM.out.at 4 rfl, hM.out.at 3 rfl⟩ (fun hH => ?_)
            clear hK K
            generalize World.setCells _ _ _ _ = W at hM hH ⊢
            try simp only [Act.put, p1, p2, p3]
            refine tk 14 rfl hH ?_
            simp only [Act.put, p1, p2, p3]
            refine wpAnyH_done (by kernel_rfl) ?_ _
            go_wp2_with fail
            go_meet
            case rel => exact ⟨bq4, bq5, rfl, rfl, rfl, (hM.out.pick [4, 2, 1, 0]).pickL []⟩
          refine rdc rfl (fun K hK => ?_) AllReadyH.nil
          go_simp
          replace hM := hid (hM.out.born [.int .i64 0, .int .i64 0] 58 rfl)
          refine hK.out _ _ ⟨hM.out.at 4 rfl, hM.out.at 3 rfl⟩ (fun hH => ?_)
          clear hK K
          generalize W.heap.size = bq5 at hM hH ⊢
          generalize World.alloc _ _ = W at hM hH  ⊢
          try simp only [Act.put, p1, p2, p3]
          refine rd1 5 rfl (fun K hK => ?_)
          go_simp
          refine (DD.out _).mono ?_
          rintro e W ⟨rfl, hb⟩
          replace hM := hid (hM.out.later hb)
          clear hb
          go_wp2_with fail
          refine hK.out _ _ ⟨hM.out.at 4 rfl, hM.out.at 3 rfl⟩ (fun hH => ?_)
          clear hK K
          try simp only [Act.put, p1, p2, p3]
          refine tk 6 rfl hH ?_
          simp only [Act.put, p1, p2, p3]
          refine tk 7 rfl hH ?_
          simp only [Act.put, p1, p2, p3]
          refine tk 8 rfl hH ?_
          simp only [Act.put, p1, p2, p3]
          refine tk 9 rfl hH ?_
          simp only [Act.put, p1, p2, p3]
          refine rd1 12 rfl (fun K hK => ?_)
          refine stR rfl (hM.out.at 1 rfl) ((rwC wz).len (rwC d)) (rwC d) ?_
          simp only [Act.put]
          replace hM := hid (hM.out.put 1 rfl (wl d) ((rwC wz).len (rwC d)))
          refine hK.out _ _ ⟨hM.out.at 4 rfl, hM.out.at 3 rfl⟩ (fun hH => ?_)
          clear hK K
          generalize World.setCells _ _ _ _ = W at hM hH ⊢
          try simp only [Act.put, p1, p2, p3]
          refine rd1 13 rfl (fun K hK => ?_)
          refine stR rfl (hM.out.at 0 rfl) ((rwA 0 0).len (rwA _ _)) (rwA _ _) ?_
          simp only [Act.put]
          replace hM := hid (hM.out.put 0 rfl [.int .i64 (cc : Nat), .int .i64 (y : Nat)] ((rwA 0 0).len (rwA _ _)))
          refine hK.out _ _ ⟨hM.out.at 4 rfl, hM.out.at 3 rfl⟩ (fun hH => ?_)
          clear hK K
          generalize World.setCells _ _ _ _ = W at hM hH ⊢
          try simp only [Act.put, p1, p2, p3]
          refine tk 14 rfl hH ?_
          simp only [Act.put, p1, p2, p3]
          refine wpAnyH_done (by kernel_rfl) ?_ _
          go_wp2_with fail
          go_meet
          case rel => exact ⟨bq4, bq5, rfl, rfl, rfl, (hM.out.pick [4, 2, 1, 0]).pickL []⟩
        refine rdc rfl (fun K hK => ?_) AllReadyH.nil
        go_simp
        replace hM := hid (hM.out.born [.int .i64 0, .int .i64 0] 58 rfl)
        refine hK.out _ _ ⟨hM.out.at 4 rfl, hM.out.at 3 rfl⟩ (fun hH => ?_)
        clear hK K
        generalize W.heap.size = bq5 at hM hH ⊢
        generalize World.alloc _ _ = W at hM hH  ⊢
        try simp only [Act.put, p1, p2, p3]
        refine rd1 3 rfl (fun K hK => ?_)
        go_simp
        refine (OJ.out _).mono ?_
        rintro e W ⟨rfl, hb⟩
        replace hM := hid (hM.out.later hb)
        clear hb
        go_wp2_with fail
        refine hK.out _ _ ⟨hM.out.at 4 rfl, hM.out.at 3 rfl⟩ (fun hH => ?_)
        clear hK K
        try simp only [Act.put, p1, p2, p3]
        refine rd1 5 rfl (fun K hK => ?_)
        go_simp
        refine (DD.out _).mono ?_
        rintro e W ⟨rfl, hb⟩
        replace hM := hid (hM.out.later hb)
        clear hb
        go_wp2_with fail
        refine hK.out _ _ ⟨hM.out.at 4 rfl, hM.out.at 3 rfl⟩ (fun hH => ?_)
        clear hK K
        try simp only [Act.put, p1, p2, p3]
        refine tk 6 rfl hH ?_
        simp only [Act.put, p1, p2, p3]
        refine tk 7 rfl hH ?_
        simp only [Act.put, p1, p2, p3]
        refine tk 8 rfl hH ?_
        simp only [Act.put, p1, p2, p3]
        refine tk 9 rfl hH ?_
        simp only [Act.put, p1, p2, p3]
        refine rd1 12 rfl (fun K hK => ?_)
        refine stR rfl (hM.out.at 1 rfl) ((rwC wz).len (rwC d)) (rwC d) ?_
        simp only [Act.put]
        replace hM := hid (hM.out.put 1 rfl (wl d) ((rwC wz).len (rwC d)))
        refine hK.out _ _ ⟨hM.out.at 4 rfl, hM.out.at 3 rfl⟩ (fun hH => ?_)
        clear hK K
        generalize World.setCells _ _ _ _ = W at hM hH ⊢
        try simp only [Act.put, p1, p2, p3]
        refine rd1 13 rfl (fun K hK => ?_)
        refine stR rfl (hM.out.at 0 rfl) ((rwA 0 0).len (rwA _ _)) (rwA _ _) ?_
        simp only [Act.put]
        replace hM := hid (hM.out.put 0 rfl [.int .i64 (cc : Nat), .int .i64 (y : Nat)] ((rwA 0 0).len (rwA _ _)))
        refine hK.out _ _ ⟨hM.out.at 4 rfl, hM.out.at 3 rfl⟩ (fun hH => ?_)
        clear hK K
        generalize World.setCells _ _ _ _ = W at hM hH ⊢
        try simp only [Act.put, p1, p2, p3]
        refine tk 14 rfl hH ?_
        simp only [Act.put, p1, p2, p3]
        refine wpAnyH_done (by kernel_rfl) ?_ _
        go_wp2_with fail
        go_meet
        case rel => exact ⟨bq4, bq5, rfl, rfl, rfl, (hM.out.pick [4, 2, 1, 0]).pickL []⟩
      refine rdc rfl (fun K hK => ?_) AllReadyH.nil
      go_simp
      replace hM := hid (hM.out.born [.int .i64 0, .int .i64 0] 58 rfl)
      refine hK.out _ _ ⟨hM.out.at 4 rfl, hM.out.at 3 rfl⟩ (fun hH => ?_)
      clear hK K
      generalize W.heap.size = bq5 at hM hH ⊢
      generalize World.alloc _ _ = W at hM hH  ⊢
      try simp only [Act.put, p1, p2, p3]
      refine rd1 1 rfl (fun K hK => ?_)
      go_simp
      refine (KI.out _).mono ?_
      rintro e W ⟨rfl, hb⟩
      replace hM := hid (hM.out.later hb)
      clear hb
      go_wp2_with fail
      refine hK.out _ _ ⟨hM.out.at 4 rfl, hM.out.at 3 rfl⟩ (fun hH => ?_)
      clear hK K
      try simp only [Act.put, p1, p2, p3]
      refine rd1 3 rfl (fun K hK => ?_)
      go_simp
      refine (OJ.out _).mono ?_
      rintro e W ⟨rfl, hb⟩
      replace hM := hid (hM.out.later hb)
      clear hb
      go_wp2_with fail
      refine hK.out _ _ ⟨hM.out.at 4 rfl, hM.out.at 3 rfl⟩ (fun hH => ?_)
      clear hK K
      try simp only [Act.put, p1, p2, p3]
      refine rd1 5 rfl (fun K hK => ?_)
      go_simp
      refine (DD.out _).mono ?_
      rintro e W ⟨rfl, hb⟩
      replace hM := hid (hM.out.later hb)
      clear hb
      go_wp2_with fail
      refine hK.out _ _ ⟨hM.out.at 4 rfl, hM.out.at 3 rfl⟩ (fun hH => ?_)
      clear hK K
      try simp only [Act.put, p1, p2, p3]
      refine tk 6 rfl hH ?_
      simp only [Act.put, p1, p2, p3]
      refine tk 7 rfl hH ?_
      simp only [Act.put, p1, p2, p3]
      refine tk 8 rfl hH ?_
      simp only [Act.put, p1, p2, p3]
      refine tk 9 rfl hH ?_
      simp only [Act.put, p1, p2, p3]
      refine rd1 12 rfl (fun K hK => ?_)
      refine stR rfl (hM.out.at 1 rfl) ((rwC wz).len (rwC d)) (rwC d) ?_
      simp only [Act.put]
      replace hM := hid (hM.out.put 1 rfl (wl d) ((rwC wz).len (rwC d)))
      refine hK.out _ _ ⟨hM.out.at 4 rfl, hM.out.at 3 rfl⟩ (fun hH => ?_)
      clear hK K
      generalize World.setCells _ _ _ _ = W at hM hH ⊢
      try simp only [Act.put, p1, p2, p3]
      refine rd1 13 rfl (fun K hK => ?_)
      refine stR rfl (hM.out.at 0 rfl) ((rwA 0 0).len (rwA _ _)) (rwA _ _) ?_
      simp only [Act.put]
      replace hM := hid (hM.out.put 0 rfl [.int .i64 (cc : Nat), .int .i64 (y : Nat)] ((rwA 0 0).len (rwA _ _)))
      refine hK.out _ _ ⟨hM.out.at 4 rfl, hM.out.at 3 rfl⟩ (fun hH => ?_)
      clear hK K
      generalize World.setCells _ _ _ _ = W at hM hH ⊢
      try simp only [Act.put, p1, p2, p3]
      refine tk 14 rfl hH ?_
      simp only [Act.put, p1, p2, p3]
      refine wpAnyH_done (by kernel_rfl) ?_ _
      go_wp2_with fail
      go_meet
      case rel => exact ⟨bq4, bq5, rfl, rfl, rfl, (hM.out.pick [4, 2, 1, 0]).pickL []⟩
    refine rdc rfl (fun K hK => ?_) AllReadyH.nil
    go_simp
    replace hM := hid (hM.out.born [.int .i64 0, .int .i64 0] 58 rfl)
    refine hK.out _ _ ⟨hM.out.at 3 rfl, hM.out.at 2 rfl⟩ (fun hH => ?_)
    clear hK K
    generalize W.heap.size = bq4 at hM hH ⊢
    generalize World.alloc _ _ = W at hM hH  ⊢
    try simp only [Act.put, p1, p2, p3]
    refine rdn [1, 10] ?_
    refine rdc rfl (fun K hK => ?_) ?_
    · go_simp
      refine (KI.out _).mono ?_
      rintro e W ⟨rfl, hb⟩
      replace hM := hid (hM.out.later hb)
      clear hb
      go_wp2_with fail
      refine hK.out _ _ ⟨hM.out.at 3 rfl, hM.out.at 2 rfl⟩ (fun hH => ?_)
      clear hK K
      try simp only [Act.put, p1, p2, p3]
      refine rdn [3, 10] ?_
      refine rdc rfl (fun K hK => ?_) ?_
      · go_simp
        refine (OJ.out _).mono ?_
        rintro e W ⟨rfl, hb⟩
        replace hM := hid (hM.out.later hb)
        clear hb
        go_wp2_with fail
        refine hK.out _ _ ⟨hM.out.at 3 rfl, hM.out.at 2 rfl⟩ (fun hH => ?_)
        clear hK K
        try simp only [Act.put, p1, p2, p3]
        refine rdn [5, 10] ?_
        refine rdc rfl (fun K hK => ?_) ?_
        · go_simp
          refine (DD.out _).mono ?_
          rintro e W ⟨rfl, hb⟩
          replace hM := hid (hM.out.later hb)
          clear hb
          go_wp2_with fail
          refine hK.out _ _ ⟨hM.out.at 3 rfl, hM.out.at 2 rfl⟩ (fun hH => ?_)
          clear hK K
          try simp only [Act.put, p1, p2, p3]
          refine tk 6 rfl hH ?_
          simp only [Act.put, p1, p2, p3]
          refine tk 7 rfl hH ?_
          simp only [Act.put, p1, p2, p3]
          refine tk 8 rfl hH ?_
          simp only [Act.put, p1, p2, p3]
          refine tk 9 rfl hH ?_
          simp only [Act.put, p1, p2, p3]
          refine rd1 10 rfl (fun K hK => ?_)
          go_simp
          replace hM := hid (hM.out.bornR wz_all.symm 119 rfl)
          refine hK.out _ _ ⟨hM.out.at 4 rfl, hM.out.at 3 rfl⟩ (fun hH => ?_)
          clear hK K
          generalize W.heap.size = bq5 at hM hH ⊢
          generalize World.alloc _ _ = W at hM hH  ⊢
          try simp only [Act.put, p1, p2, p3]
          refine rd1 12 rfl (fun K hK => ?_)
          refine stR rfl (hM.out.at 0 rfl) ((rwC wz).len (rwC d)) (rwC d) ?_
          simp only [Act.put]
          replace hM := hid (hM.out.put 0 rfl (wl d) ((rwC wz).len (rwC d)))
          refine hK.out _ _ ⟨hM.out.at 4 rfl, hM.out.at 3 rfl⟩ (fun hH => ?_)
          clear hK K
          generalize World.setCells _ _ _ _ = W at hM hH ⊢
          try simp only [Act.put, p1, p2, p3]
          refine rd1 13 rfl (fun K hK => ?_)
          refine stR rfl (hM.out.at 1 rfl) ((rwA 0 0).len (rwA _ _)) (rwA _ _) ?_
          simp only [Act.put]
          replace hM := hid (hM.out.put 1 rfl [.int .i64 (cc : Nat), .int .i64 (y : Nat)] ((rwA 0 0).len (rwA _ _)))
          refine hK.out _ _ ⟨hM.out.at 4 rfl, hM.out.at 3 rfl⟩ (fun hH => ?_)
          clear hK K
          generalize World.setCells _ _ _ _ = W at hM hH ⊢
          try simp only [Act.put, p1, p2, p3]
          refine tk 14 rfl hH ?_
          simp only [Act.put, p1, p2, p3]
          refine wpAnyH_done (by kernel_rfl) ?_ _
          go_wp2_with fail
          go_meet
          case rel => exact ⟨bq5, bq4, rfl, rfl, rfl, (hM.out.pick [4, 2, 0, 1]).pickL []⟩
        refine rdc rfl (fun K hK => ?_) AllReadyH.nil
        go_simp
        replace hM := hid (hM.out.bornR wz_all.symm 119 rfl)
        refine hK.out _ _ ⟨hM.out.at 4 rfl, hM.out.at 3 rfl⟩ (fun hH => ?_)
        clear hK K
        generalize W.heap.size = bq5 at hM hH ⊢
        generalize World.alloc _ _ = W at hM hH  ⊢
        try simp only [Act.put, p1, p2, p3]
        refine rd1 5 rfl (fun K hK => ?_)
        go_simp
        refine (DD.out _).mono ?_
        rintro e W ⟨rfl, hb⟩
        replace hM := hid (hM.out.later hb)
        clear hb
        go_wp2_with fail
        refine hK.out _ _ ⟨hM.out.at 4 rfl, hM.out.at 3 rfl⟩ (fun hH => ?_)
        clear hK K
        try simp only [Act.put, p1, p2, p3]
        refine tk 6 rfl hH ?_
        simp only [Act.put, p1, p2, p3]
        refine tk 7 rfl hH ?_
        simp only [Act.put, p1, p2, p3]
        refine tk 8 rfl hH ?_
        simp only [Act.put, p1, p2, p3]
        refine tk 9 rfl hH ?_
        simp only [Act.put, p1, p2, p3]
        refine rd1 12 rfl (fun K hK => ?_)
        refine stR rfl (hM.out.at 0 rfl) ((rwC wz).len (rwC d)) (rwC d) ?_
        simp only [Act.put]
        replace hM := hid (hM.out.put 0 rfl (wl d) ((rwC wz).len (rwC d)))
        refine hK.out _ _ ⟨hM.out.at 4 rfl, hM.out.at 3 rfl⟩ (fun hH => ?_)
        clear hK K
        generalize World.setCells _ _ _ _ = W at hM hH ⊢
        try simp only [Act.put, p1, p2, p3]
        refine rd1 13 rfl (fun K hK => ?_)
        refine stR rfl (hM.out.at 1 rfl) ((rwA 0 0).len (rwA _ _)) (rwA _ _) ?_
        simp only [Act.put]
        replace hM := hid (hM.out.put 1 rfl [.int .i64 (cc : Nat), .int .i64 (y : Nat)] ((rwA 0 0).len (rwA _ _)))
        refine hK.out _ _ ⟨hM.out.at 4 rfl, hM.out.at 3 rfl⟩ (fun hH => ?_)
        clear hK K
        generalize World.setCells _ _ _ _ = W at hM hH ⊢
        try simp only [Act.put, p1, p2, p3]
        refine tk 14 rfl hH ?_
        simp only [Act.put, p1, p2, p3]
        refine wpAnyH_done (by kernel_rfl) ?_ _
        go_wp2_with fail
        go_meet
        case rel => exact ⟨bq5, bq4, rfl, rfl, rfl, (hM.out.pick [4, 2, 0, 1]).pickL []⟩
      refine rdc rfl (fun K hK => ?_) AllReadyH.nil
      go_simp
      replace hM := hid (hM.out.bornR wz_all.symm 119 rfl)
      refine hK.out _ _ ⟨hM.out.at 4 rfl, hM.out.at 3 rfl⟩ (fun hH => ?_)
      clear hK K
      generalize W.heap.size = bq5 at hM hH ⊢
      generalize World.alloc _ _ = W at hM hH  ⊢
      try simp only [Act.put, p1, p2, p3]
      refine rd1 3 rfl (fun K hK => ?_)
      go_simp
      refine (OJ.out _).mono ?_
      rintro e W ⟨rfl, hb⟩
      replace hM := hid (hM.out.later hb)
      clear hb
      go_wp2_with fail
      refine hK.out _ _ ⟨hM.out.at 4 rfl, hM.out.at 3 rfl⟩ (fun hH => ?_)
      clear hK K
      try simp only [Act.put, p1, p2, p3]
      refine rd1 5 rfl (fun K hK => ?_)
      go_simp
      refine (DD.out _).mono ?_
      rintro e W ⟨rfl, hb⟩
      replace hM := hid (hM.out.later hb)
      clear hb
      go_wp2_with fail
      refine hK.out _ _ ⟨hM.out.at 4 rfl, hM.out.at 3 rfl⟩ (fun hH => ?_)
      clear hK K
      try simp only [Act.put, p1, p2, p3]
      refine tk 6 rfl hH ?_
      simp only [Act.put, p1, p2, p3]
      refine tk 7 rfl hH ?_
      simp only [Act.put, p1, p2, p3]
      refine tk 8 rfl hH ?_
      simp only [Act.put, p1, p2, p3]
      refine tk 9 rfl hH ?_
      simp only [Act.put, p1, p2, p3]
      refine rd1 12 rfl (fun K hK => ?_)
      refine stR rfl (hM.out.at 0 rfl) ((rwC wz).len (rwC d)) (rwC d) ?_
      simp only [Act.put]
      replace hM := hid (hM.out.put 0 rfl (wl d) ((rwC wz).len (rwC d)))
      refine hK.out _ _ ⟨hM.out.at 4 rfl, hM.out.at 3 rfl⟩ (fun hH => ?_)
      clear hK K
      generalize World.setCells _ _ _ _ = W at hM hH ⊢
      try simp only [Act.put, p1, p2, p3]
      refine rd1 13 rfl (fun K hK => ?_)
      refine stR rfl (hM.out.at 1 rfl) ((rwA 0 0).len (rwA _ _)) (rwA _ _) ?_
      simp only [Act.put]
      replace hM := hid (hM.out.put 1 rfl [.int .i64 (cc : Nat), .int .i64 (y : Nat)] ((rwA 0 0).len (rwA _ _)))
      refine hK.out _ _ ⟨hM.out.at 4 rfl, hM.out.at 3 rfl⟩ (fun hH => ?_)
      clear hK K
      generalize World.setCells _ _ _ _ = W at hM hH ⊢
      try simp only [Act.put, p1, p2, p3]
      refine tk 14 rfl hH ?_
      simp only [Act.put, p1, p2, p3]
      refine wpAnyH_done (by kernel_rfl) ?_ _
      go_wp2_with fail
      go_meet
      case rel => exact ⟨bq5, bq4, rfl, rfl, rfl, (hM.out.pick [4, 2, 0, 1]).pickL []⟩
    refine rdc rfl (fun K hK => ?_) AllReadyH.nil
    go_simp
    replace hM := hid (hM.out.bornR wz_all.symm 119 rfl)
    refine hK.out _ _ ⟨hM.out.at 4 rfl, hM.out.at 3 rfl⟩ (fun hH => ?_)
    clear hK K
    generalize W.heap.size = bq5 at hM hH ⊢
    generalize World.alloc _ _ = W at hM hH  ⊢
    try simp only [Act.put, p1, p2, p3]
    refine rd1 1 rfl (fun K hK => ?_)
    go_simp
    refine (KI.out _).mono ?_
    rintro e W ⟨rfl, hb⟩
    replace hM := hid (hM.out.later hb)
    clear hb
    go_wp2_with fail
    refine hK.out _ _ ⟨hM.out.at 4 rfl, hM.out.at 3 rfl⟩ (fun hH => ?_)
    clear hK K
    try simp only [Act.put, p1, p2, p3]
    refine rd1 3 rfl (fun K hK => ?_)
    go_simp
    refine (OJ.out _).mono ?_
    rintro e W ⟨rfl, hb⟩
    replace hM := hid (hM.out.later hb)
    clear hb
    go_wp2_with fail
    refine hK.out _ _ ⟨hM.out.at 4 rfl, hM.out.at 3 rfl⟩ (fun hH => ?_)
    clear hK K
    try simp only [Act.put, p1, p2, p3]
    refine rd1 5 rfl (fun K hK => ?_)
    go_simp
    refine (DD.out _).mono ?_
    rintro e W ⟨rfl, hb⟩
    replace hM := hid (hM.out.later hb)
    clear hb
    go_wp2_with fail
    refine hK.out _ _ ⟨hM.out.at 4 rfl, hM.out.at 3 rfl⟩ (fun hH => ?_)
    clear hK K
    try simp only [Act.put, p1, p2, p3]
    refine tk 6 rfl hH ?_
    simp only [Act.put, p1, p2, p3]
    refine tk 7 rfl hH ?_
    simp only [Act.put, p1, p2, p3]
    refine tk 8 rfl hH ?_
    simp only [Act.put, p1, p2, p3]
    refine tk 9 rfl hH ?_
    simp only [Act.put, p1, p2, p3]
    refine rd1 12 rfl (fun K hK => ?_)
    refine stR rfl (hM.out.at 0 rfl) ((rwC wz).len (rwC d)) (rwC d) ?_
    simp only [Act.put]
    replace hM := hid (hM.out.put 0 rfl (wl d) ((rwC wz).len (rwC d)))
    refine hK.out _ _ ⟨hM.out.at 4 rfl, hM.out.at 3 rfl⟩ (fun hH => ?_)
    clear hK K
    generalize World.setCells _ _ _ _ = W at hM hH ⊢
    try simp only [Act.put, p1, p2, p3]
    refine rd1 13 rfl (fun K hK => ?_)
    refine stR rfl (hM.out.at 1 rfl) ((rwA 0 0).len (rwA _ _)) (rwA _ _) ?_
    simp only [Act.put]
    replace hM := hid (hM.out.put 1 rfl [.int .i64 (cc : Nat), .int .i64 (y : Nat)] ((rwA 0 0).len (rwA _ _)))
    refine hK.out _ _ ⟨hM.out.at 4 rfl, hM.out.at 3 rfl⟩ (fun hH => ?_)
    clear hK K
    generalize World.setCells _ _ _ _ = W at hM hH ⊢
    try simp only [Act.put, p1, p2, p3]
    refine tk 14 rfl hH ?_
    simp only [Act.put, p1, p2, p3]
    refine wpAnyH_done (by kernel_rfl) ?_ _
    go_wp2_with fail
    go_meet
    case rel => exact ⟨bq5, bq4, rfl, rfl, rfl, (hM.out.pick [4, 2, 0, 1]).pickL []⟩
  case rest =>
    obtain ⟨bz8, bz9, rfl, rfl, rfl, hM⟩ := hcut
    generalize wc = W at hM ⊢
    have c4 := hM.out.cell 3 0 rfl rfl
    have c5 := hM.out.cell 3 1 rfl rfl
    go_wp2_with (first
      | (refine lR rfl (hM.out.at 3 rfl) rfl (rwA _ _) ?_))
    refine (AI.out _).mono ?_
    rintro e W ⟨rfl, hb⟩
    replace hM := hid (hM.out.later hb)
    clear hb
    clear c4 c5
    go_wp2_with fail
    replace hM := hid (hM.out.drew)
    refine wp_region_held_drew (S := fun w' => True) (by kernel_rfl) trivial (fun hH => ?_)
    generalize World.drew _ = W at hM hH  ⊢
    refine tk 0 rfl hH ?_
    simp only [Act.put, p1, p2, p3]
    refine tk 1 rfl hH ?_
    simp only [Act.put, p1, p2, p3]
    refine rd1 2 rfl (fun K hK => ?_)
    refine cpR rfl Tryz.underlying26 sz_u (vs := wl d) (off := 1) (dLen := 31) (sLen := 17) (by rw [wl_length]; rfl) ((hM.out.at 2 rfl).cells0) ((hM.out.at 0 rfl).thereAt (o := 1) (n := (wl d).length) (by rw [wl_length, rl_length]; decide)) (wl_one _) ?_
    replace hM := hid (hM.out.putAt 0 1 rfl (wl d) (rl (wo r d)) ((hM.out.at 0 rfl).setOb d))
    refine hK.out _ _ trivial (fun hH => ?_)
    clear hK K
    generalize World.setCells _ _ _ _ = W at hM hH ⊢
    try simp only [Act.put, p1, p2, p3]
    refine wpAnyH_done (by kernel_rfl) ?_ _
    have x6 := (hM.out.at 0 rfl).rwordx (show 28 < 32 by decide) l1.out
    go_wp2_with (first
      | (refine s1 rfl (hM.out.at 0 rfl) 28 rfl (.int .u64 (c1 : Nat)) rfl sz_u ?_ (by rw [rl_length]; omega)
         replace hM := hid (hM.out.put1 0 28 rfl (.int .u64 (c1 : Nat)) (rl (upw (wo r d) 28 c1)) (by rw [rl_length]; omega) (rl_set _ _ (by omega)))
         generalize World.setCell _ _ _ = W at hM ⊢
         clear x6)
      | (refine s1 rfl (hM.out.at 0 rfl) (18 + t) rfl (.int .u64 (aw : Nat)) rfl sz_u ?_ (by rw [rl_length]; omega)
         replace hM := hid (hM.out.put1 0 (18 + t) rfl (.int .u64 (aw : Nat)) (rl (upw (upw (wo r d) 28 c1) (18 + t) aw)) (by rw [rl_length]; omega) (rl_set _ _ (by omega)))
         generalize World.setCell _ _ _ = W at hM ⊢
         have x7 := (hM.out.at 0 rfl).rwordx (show 28 < 32 by decide) l2.out)
      | (refine s1 rfl (hM.out.at 0 rfl) (22 + t) rfl (.int .u64 (c1 : Nat)) rfl sz_u ?_ (by rw [rl_length]; omega)
         replace hM := hid (hM.out.put1 0 (22 + t) rfl (.int .u64 (c1 : Nat)) (rl (upw (upw (upw (wo r d) 28 c1) (18 + t) aw) (22 + t) c1)) (by rw [rl_length]; omega) (rl_set _ _ (by omega)))
         generalize World.setCell _ _ _ = W at hM ⊢
         clear x7
         have x8 := (hM.out.at 0 rfl).rwordx (show 26 < 32 by decide) l3.out))
    refine (FI.out _).mono ?_
    rintro e ux ⟨rfl, hw⟩
    rw [hw]; clear hw ux
    go_wp2_with (first
      | (refine s1 rfl (hM.out.at 0 rfl) 26 rfl (.int .u64 (g : Nat)) rfl sz_u ?_ (by rw [rl_length]; omega)
         replace hM := hid (hM.out.put1 0 26 rfl (.int .u64 (g : Nat)) (rl (upw (upw (upw (upw (wo r d) 28 c1) (18 + t) aw) (22 + t) c1) 26 g)) (by rw [rl_length]; omega) (rl_set _ _ (by omega)))
         generalize World.setCell _ _ _ = W at hM ⊢
         clear x8)
      | (refine lR rfl (hM.out.at 0 rfl) rfl (rwR (upw (upw (upw (upw (wo r d) 28 c1) (18 + t) aw) (22 + t) c1) 26 g)) ?_)
      | (refine sR rfl (hM.out.at 1 rfl) rfl ((rwR wz).len (rwR (upw (upw (upw (upw (wo r d) 28 c1) (18 + t) aw) (22 + t) c1) 26 g))) (rwR (upw (upw (upw (upw (wo r d) 28 c1) (18 + t) aw) (22 + t) c1) 26 g)) ?_
         replace hM := hid (hM.out.put 1 rfl (rl (upw (upw (upw (upw (wo r d) 28 c1) (18 + t) aw) (22 + t) c1) 26 g)) ((rwR wz).len (rwR (upw (upw (upw (upw (wo r d) 28 c1) (18 + t) aw) (22 + t) c1) 26 g))))
         generalize World.setCells _ _ _ _ = W at hM ⊢))
    exact bodyPost_ret (res1s Tryz.results42 (hM.out.at 1 rfl) (rwR (upw (upw (upw (upw (wo r d) 28 c1) (18 + t) aw) (22 + t) c1) 26 g)) (.nilIface)) rfl ⟨rfl, hM.out.below⟩
end Go.Proofs.YteogbpaaacmllaaGreatDoor.Tab
namespace Go.Proofs.YteogbpaaacmllaaGreatDoor.Tab
set_option maxRecDepth 20000
open Go.RowKit

theorem answer_sz : (Tryz.prog.info? 58).map (·.size) = some 2 := by kernel_rfl
theorem answer_st : ∃ fs, Tryz.prog.underlying 58 = some (.struct fs) := ⟨_, Tryz.underlying58⟩
theorem pick_mod (a : Int) (n : Nat) (h0 : 0 < n) (h : n < 4611686018427387904) : ∃ r : Nat, r < n ∧ wrap64 ((IntKind.u64.wrap a).tmod (IntKind.u64.wrap n)) = (r : Nat) := by
  rw [IntKind.wrap_u64, IntKind.wrap_u64]
  have e : (n : Int) % 18446744073709551616 = n := by omega
  rw [e, Int.tmod_eq_emod_of_nonneg (by omega)]
  have h1 : 0 ≤ a % 18446744073709551616 % (n : Int) := Int.emod_nonneg _ (by omega)
  have h2 : a % 18446744073709551616 % (n : Int) < n := Int.emod_lt_of_pos _ (by omega)
  refine ⟨(a % 18446744073709551616 % (n : Int)).toNat, by omega, ?_⟩
  generalize a % 18446744073709551616 % (n : Int) = x at *
  unfold wrap64
  omega
theorem pick_4 (a : Int) : ∃ r : Nat, r < 4 ∧ ∀ w : World, Calls Tryz.prog 18 #[.int .i64 a, .int .i64 4] w fun e w' => e = .returned (.int .i64 (r : Nat)) ∧ w' = w := by
  obtain ⟨r, hr, he⟩ := pick_mod a 4 (by decide) (by decide)
  refine ⟨r, hr, fun w => ?_⟩
  have HE : Hid _ := he
  clear he
  go_enter Tryz.func18, Tryz.ntmps18
  go_wp2
  go_ret
  exact ⟨ret_int HE.out, rfl⟩
theorem pick_5 (a : Int) : ∃ r : Nat, r < 5 ∧ ∀ w : World, Calls Tryz.prog 18 #[.int .i64 a, .int .i64 5] w fun e w' => e = .returned (.int .i64 (r : Nat)) ∧ w' = w := by
  obtain ⟨r, hr, he⟩ := pick_mod a 5 (by decide) (by decide)
  refine ⟨r, hr, fun w => ?_⟩
  have HE : Hid _ := he
  clear he
  go_enter Tryz.func18, Tryz.ntmps18
  go_wp2
  go_ret
  exact ⟨ret_int HE.out, rfl⟩
theorem pick_6 (a : Int) : ∃ r : Nat, r < 6 ∧ ∀ w : World, Calls Tryz.prog 18 #[.int .i64 a, .int .i64 6] w fun e w' => e = .returned (.int .i64 (r : Nat)) ∧ w' = w := by
  obtain ⟨r, hr, he⟩ := pick_mod a 6 (by decide) (by decide)
  refine ⟨r, hr, fun w => ?_⟩
  have HE : Hid _ := he
  clear he
  go_enter Tryz.func18, Tryz.ntmps18
  go_wp2
  go_ret
  exact ⟨ret_int HE.out, rfl⟩
theorem pick_1000 (a : Int) : ∃ r : Nat, r < 1000 ∧ ∀ w : World, Calls Tryz.prog 18 #[.int .i64 a, .int .i64 1000] w fun e w' => e = .returned (.int .i64 (r : Nat)) ∧ w' = w := by
  obtain ⟨r, hr, he⟩ := pick_mod a 1000 (by decide) (by decide)
  refine ⟨r, hr, fun w => ?_⟩
  have HE : Hid _ := he
  clear he
  go_enter Tryz.func18, Tryz.ntmps18
  go_wp2
  go_ret
  exact ⟨ret_int HE.out, rfl⟩
theorem pick_4294967296 (a : Int) : ∃ r : Nat, r < 4294967296 ∧ ∀ w : World, Calls Tryz.prog 18 #[.int .i64 a, .int .i64 4294967296] w fun e w' => e = .returned (.int .i64 (r : Nat)) ∧ w' = w := by
  obtain ⟨r, hr, he⟩ := pick_mod a 4294967296 (by decide) (by decide)
  refine ⟨r, hr, fun w => ?_⟩
  have HE : Hid _ := he
  clear he
  go_enter Tryz.func18, Tryz.ntmps18
  go_wp2
  go_ret
  exact ⟨ret_int HE.out, rfl⟩
end Go.Proofs.YteogbpaaacmllaaGreatDoor.Tab
namespace Go.Proofs.YteogbpaaacmllaaGreatDoor.Tab
set_option maxRecDepth 20000
open Go.RowKit
set_option linter.unusedVariables false

theorem put_is (x : Int) (w : World) :
    Calls Tryz.prog 41 #[.int .i64 x] w fun e w' => e = .returned (.agg #[.int .i64 1, .int .i64 0, .int .i64 x]) ∧ Below w.heap.size w w' := by
  go_enter Tryz.func41, Tryz.ntmps41
  go_wp2
  exact bodyPost_ret (v := .agg #[.int .i64 1, .int .i64 0, .int .i64 x]) (by simp [results, Tryz.results41, go_sem]) rfl ⟨rfl, (Below.refl _ w).alloc (Nat.le_refl _) _⟩
theorem pick4_is (a : Int) : ∃ r : Nat, r < 4 ∧ ∀ w : World, Calls Tryz.prog 18 #[.int .i64 a, .int .i64 4] w fun e w' => e = .returned (.int .i64 (r : Nat)) ∧ Below w.heap.size w w' := by
  obtain ⟨r, hr, h⟩ := pick_4 a
  exact ⟨r, hr, fun w => (h w).mono fun _ _ ⟨he, hw⟩ => ⟨he, hw ▸ Below.refl _ _⟩⟩
theorem kindOf_is (a : Int) : ∃ r : Nat, 1 ≤ r ∧ r ≤ 6 ∧ ∀ w : World, Calls Tryz.prog 17 #[.int .i64 a] w fun e w' => e = .returned (.int .i64 (r : Nat)) ∧ w' = w := by
  obtain ⟨r, hr, hp⟩ := pick_6 a
  refine ⟨r + 1, by omega, by omega, fun w => ?_⟩
  have P : Hid _ := hp
  clear hp
  have hw : IntKind.i64.wrap (1 + (r : Int)) = 1 + (r : Int) := by rw [IntKind.wrap_i64]; omega
  go_enter Tryz.func17, Tryz.ntmps17
  go_wp2_with fail
  refine (P.out _).mono ?_
  rintro e w' ⟨rfl, rfl⟩
  go_wp2
  go_ret
  exact ⟨ret_int (by omega), rfl⟩
theorem isOb_le {k : Int} {c : Nat → Nat} (h : isOb k c) : ∀ j, j < 17 → c j ≤ 4294967295 := fun j hj => by
  have wl : WList c → c j ≤ 4294967295 := fun h => by
    have := h.len
    by_cases e : j = 0
    · subst e; omega
    · by_cases e1 : j ≤ c 0
      · exact h.val j (by omega) e1
      · rw [h.rest j (by omega) hj]; omega
  rcases h with ⟨_, h⟩ | ⟨_, h, _⟩ | ⟨_, h1, h2, _⟩ | ⟨_, h⟩
  · exact wl (isLb_w h)
  · exact wl (isLb_w h)
  · by_cases e : j < 16
    · have := upC_iff.1 h1 j e; rw [Nat.zero_add] at this; omega
    · have h3 : ((c 16 : Nat) : Int) ≤ 0 := upC_iff.1 h2 0 (by decide)
      rw [show j = 16 by omega]; omega
  · unfold isTb at h
    simp only [Bool.and_eq_true] at h
    by_cases e : j = 0
    · have h3 : ((c 0 : Nat) : Int) ≤ 4294967295 := upC_iff.1 h.1 0 (by decide)
      subst e; omega
    · have := upC_iff.1 h.2 (j - 1) (by omega); rw [show 1 + (j - 1) = j by omega] at this; omega
theorem isRec.u64 {r : Nat → Nat} (h : isRec r) : ∀ j, j < 32 → r j < 18446744073709551616 := fun j hj => by
  obtain ⟨hO, hA, hN, hZ, hT⟩ := h
  by_cases e0 : j = 0
  · have := (isOb_kind hO).2; subst e0; omega
  by_cases e1 : j < 18
  · have := isOb_le hO (j - 1) (by omega)
    unfold ob at this
    rw [show 1 + (j - 1) = j by omega] at this; omega
  by_cases e2 : j < 22
  · have := (hA (j - 18) (by omega)).2
    rw [show 18 + (j - 18) = j by omega] at this
    rcases this with h | ⟨_, h, _⟩ <;> omega
  by_cases e3 : j < 26
  · have := (hN (j - 22) (by omega)).1
    rw [show 22 + (j - 22) = j by omega] at this
    have := hT.2.2; omega
  have := hT.1; have := hT.2.1; have := hT.2.2
  by_cases e4 : j < 29
  · have : j = 26 ∨ j = 27 ∨ j = 28 := by omega
    rcases this with rfl | rfl | rfl <;> omega
  · have := hZ (j - 29) (by omega)
    rw [show 29 + (j - 29) = j by omega] at this; omega
end Go.Proofs.YteogbpaaacmllaaGreatDoor.Tab
namespace Go.Proofs.YteogbpaaacmllaaGreatDoor.Tab
set_option maxRecDepth 20000
open Go.RowKit
set_option linter.unusedVariables false

theorem rdo_u {r : Nat → Nat} (hr : isRec r) {t : Nat} {o k x : Int} (hR : Rt o k x) (ht : t < 4) : ∀ j, j < 32 → rdo r t o k x j < 18446744073709551616 := fun j hj => by
  by_cases hc : r 28 < 1099511627776
  · exact (rdo_rec hr hR ht hc).u64 j hj
  · have h28 := hr.2.2.2.2.2.2
    have hu := hr.u64 j hj
    have f := odo_facts hr.1 hR.w1 hR.w6 hR.k0 hR.k1 hR.v0 hR.v1
    have ft := odo_ft hr.1 hR
    unfold rdo
    by_cases h26 : j = 26
    · rw [if_pos h26]
      have := xor_four hr.2.2.2.2.1 ht
      omega
    rw [if_neg h26]
    by_cases h22 : j = 28 ∨ j = 22 + t
    · rw [if_pos h22]; omega
    rw [if_neg h22]
    by_cases h18 : j = 18 + t
    · rw [if_pos h18]
      exact ansN_lt ft
    rw [if_neg h18]
    by_cases hob : 1 ≤ j ∧ j < 18
    · rw [if_pos hob]
      have := isOb_le f.ob (j - 1) (by omega)
      omega
    · rw [if_neg hob]; exact hu
theorem akOp {w : World} {b : Nat} {t g o k x : Int} (h : Bo w b [.int .i64 t, .int .i64 g, .int .i64 o, .int .i64 k, .int .i64 x]) : w.rangeAt b 2 [.int .i64 o, .int .i64 k, .int .i64 x] := fun j v hv => by
  match j, hv with
  | 0, hv => exact h.cell 2 v hv
  | 1, hv => exact h.cell 3 v hv
  | 2, hv => exact h.cell 4 v hv
theorem tkO {P : Program} {md : Region.Mode} {ops : Array Oper} {Q : Exit → Act → World → Prop} {S : World → Prop} {fuel : Nat} {listed : Array Bool} {a : Act} {w : World} {d : Option Tmp} {ty : TypeId} {pos : String} {af : Array Edge} {g : Option (Nat × Bool)}
    (i : Nat) {T : TypeId} {x : Operand} (hi : ops[i]? = some ⟨d, .load T x, ty, pos, af, g⟩) (hS : S w) {b q : Nat} {cs : List Value} (hc : ∀ w, S w → w.rangeAt b q cs) (r : Rw P T cs) (h : wpAnyH P md ops Q S fuel (listed.setIfInBounds i true) (a.put d (.agg cs.toArray)) w)
    (hx : a.eval x = .pointer (some ⟨b, q, none⟩) := by rfl) (hw : Region.wanted ⟨d, .load T x, ty, pos, af, g⟩ (yielded ops a.tmps) = true := by rfl)
    (hs : Region.noSelect ops = true := by kernel_rfl) (hf : Region.free md ops listed i = true := by kernel_rfl) (hr : (Region.ready md ops listed).contains i = true := by kernel_rfl)
    (hQ : ∀ c a w, Q (.panic c) (a.put d (.agg cs.toArray)) w → Q (.panic c) a w := by exact fun _ _ _ h => h) : wpAnyH P md ops Q S (fuel + 1) listed a w := by
  obtain ⟨dd, h1, h2⟩ := r.lay
  exact wpAnyH_take hi hs hf hr hQ (yieldsIf_load_mid hw T x rfl b q hx cs dd hc h1 h2 r.size) hS h
set_option maxHeartbeats 4000000 in
theorem one_bad {r : Nat → Nat} {t g o k x ev : Int} (h : ∀ w : World, Calls Tryz.prog 28 #[.agg (rl r).toArray, .agg #[.int .i64 t, .int .i64 g, .int .i64 o, .int .i64 k, .int .i64 x]] w (fun E w' => E = .returned (.tuple #[.bool false, .iface 28 (.int .i64 ev)]) ∧ Below w.heap.size w w')) (w : World) :
    Calls Tryz.prog 37 #[.agg (rl r).toArray, .agg #[.int .i64 t, .int .i64 g, .int .i64 o, .int .i64 k, .int .i64 x]] w (fun e w' => e = .returned (.tuple #[.agg (rl r).toArray, .slice none 0 0, .iface 28 (.int .i64 ev)]) ∧ Below w.heap.size w w') := by
  have OP : Hid _ := h
  clear h
  have hM : Hid _ := ((((Ms.nil w).born (rl r) 24 (b := w.heap.size) rfl).born [.int .i64 t, .int .i64 g, .int .i64 o, .int .i64 k, .int .i64 x] 52 (b := w.heap.size + 1) (by simp)).bornR rl_zero.symm 24 (b := w.heap.size + 2) (by simp))
  go_enter Tryz.func37, Tryz.ntmps37
  go_wp2_with (first
    | (refine lR rfl (hM.out.at 2 rfl) rfl (rwR r) ?_)
    | (refine lR rfl (hM.out.at 1 rfl) rfl (rwAk t g o k x) ?_))
  generalize World.alloc _ _ = W at hM ⊢
  generalize hsz : w.heap.size = n at hM ⊢
  clear hsz
  refine (OP.out _).mono ?_
  rintro e W ⟨rfl, hb⟩
  replace hM := hid (hM.out.later hb)
  clear hb
  go_wp2_with (first
    | (refine lR rfl (hM.out.at 2 rfl) rfl (rwR r) ?_)
    | (refine sR rfl (hM.out.at 0 rfl) rfl ((rwR wz).len (rwR r)) (rwR r) ?_
       replace hM := hid (hM.out.put 0 rfl (rl r) ((rwR wz).len (rwR r)))
       generalize World.setCells _ _ _ _ = W at hM ⊢))
  exact bodyPost_ret (res1ss Tryz.results37 (hM.out.at 0 rfl) (rwR r) (.slice none 0 0) (.iface 28 (.int .i64 ev))) rfl ⟨rfl, hM.out.below⟩
set_option maxHeartbeats 4000000 in
theorem one_shut {r : Nat → Nat} (U : ∀ j, j < 32 → r j < 18446744073709551616) {t : Nat} (ht : t < 4) {g : Int} (hg : g = 0 ∨ g = 1) (o k x : Int) (h : g = (bt r t : Nat)) (w : World) :
    Calls Tryz.prog 37 #[.agg (rl r).toArray, .agg #[.int .i64 (t : Nat), .int .i64 g, .int .i64 o, .int .i64 k, .int .i64 x]] w (fun e w' => e = .returned (.tuple #[.agg (rl r).toArray, .slice none 0 0, .nilIface]) ∧ Below w.heap.size w w') := by
  have OP : Hid (∀ w : World, _) := open_yes (U 26 (by decide)) ht hg o k x (v := false) ⟨fun _ => h, fun _ => rfl⟩
  clear h hg ht U
  have hM : Hid _ := ((((Ms.nil w).born (rl r) 24 (b := w.heap.size) rfl).born [.int .i64 (t : Nat), .int .i64 g, .int .i64 o, .int .i64 k, .int .i64 x] 52 (b := w.heap.size + 1) (by simp)).bornR rl_zero.symm 24 (b := w.heap.size + 2) (by simp))
  go_enter Tryz.func37, Tryz.ntmps37
  go_wp2_with (first
    | (refine lR rfl (hM.out.at 2 rfl) rfl (rwR r) ?_)
    | (refine lR rfl (hM.out.at 1 rfl) rfl (rwAk t g o k x) ?_))
  generalize World.alloc _ _ = W at hM ⊢
  generalize hsz : w.heap.size = n at hM ⊢
  clear hsz
  refine (OP.out _).mono ?_
  rintro e W ⟨rfl, hb⟩
  replace hM := hid (hM.out.later hb)
  clear hb
  go_wp2_with (first
    | (refine lR rfl (hM.out.at 2 rfl) rfl (rwR r) ?_)
    | (refine sR rfl (hM.out.at 0 rfl) rfl ((rwR wz).len (rwR r)) (rwR r) ?_
       replace hM := hid (hM.out.put 0 rfl (rl r) ((rwR wz).len (rwR r)))
       generalize World.setCells _ _ _ _ = W at hM ⊢))
  exact bodyPost_ret (res1ss Tryz.results37 (hM.out.at 0 rfl) (rwR r) (.slice none 0 0) (.nilIface)) rfl ⟨rfl, hM.out.below⟩
set_option maxHeartbeats 4000000 in
theorem one_not {r : Nat → Nat} (U : ∀ j, j < 32 → r j < 18446744073709551616) {t : Nat} (ht : t < 4) {g : Int} (hg : g = 0 ∨ g = 1) {o k x : Int} (h : ¬ g = (bt r t : Nat)) (hn : ¬ (isRec r ∧ Rt o k x)) (w : World) :
    Calls Tryz.prog 37 #[.agg (rl r).toArray, .agg #[.int .i64 (t : Nat), .int .i64 g, .int .i64 o, .int .i64 k, .int .i64 x]] w (fun e w' => e = .returned (.tuple #[.agg (rl wz).toArray, .slice none 0 0, .iface 28 (.int .i64 1)]) ∧ Below w.heap.size w w') := by
  have OP : Hid (∀ w : World, _) := open_yes (U 26 (by decide)) ht hg o k x (v := true) ⟨fun e => (by cases e), fun e => absurd e h⟩
  have DN : Hid (∀ w : World, Calls Tryz.prog 42 #[.agg (rl r).toArray, .int .i64 (t : Nat), .agg #[.int .i64 o, .int .i64 k, .int .i64 x]] w (fun e w' => e = .returned (.tuple #[.agg (rl wz).toArray, .iface 28 (.int .i64 1)]) ∧ Below w.heap.size w w')) := fun w => by
    by_cases hr : isRec r
    · exact recDone_wrong U ht hr (fun hR => hn ⟨hr, hR⟩) w
    · exact recDone_not U ht hr w
  clear h hg hn ht U
  have hM : Hid _ := ((((Ms.nil w).born (rl r) 24 (b := w.heap.size) rfl).born [.int .i64 (t : Nat), .int .i64 g, .int .i64 o, .int .i64 k, .int .i64 x] 52 (b := w.heap.size + 1) (by simp)).bornR rl_zero.symm 24 (b := w.heap.size + 2) (by simp))
  go_enter Tryz.func37, Tryz.ntmps37
  go_wp2_with (first
    | (refine lR rfl (hM.out.at 2 rfl) rfl (rwR r) ?_)
    | (refine lR rfl (hM.out.at 1 rfl) rfl (rwAk t g o k x) ?_))
  generalize World.alloc _ _ = W at hM ⊢
  generalize hsz : w.heap.size = n at hM ⊢
  clear hsz
  refine (OP.out _).mono ?_
  rintro e W ⟨rfl, hb⟩
  replace hM := hid (hM.out.later hb)
  clear hb
  have c1 := hM.out.cell 1 0 rfl rfl
  go_wp2_with (first
    | (refine lR rfl (hM.out.at 2 rfl) rfl (rwR r) ?_)
    | (refine lO rfl (akOp (hM.out.at 1 rfl)) rfl (rwO o k x) ?_))
  clear c1
  refine (DN.out _).mono ?_
  rintro e W ⟨rfl, hb⟩
  replace hM := hid (hM.out.later hb)
  clear hb
  go_wp2_with (first
    | (refine sR rfl (hM.out.at 2 rfl) rfl ((rwR r).len (rwR wz)) (rwR wz) ?_
       replace hM := hid (hM.out.put 2 rfl (rl wz) ((rwR r).len (rwR wz)))
       generalize World.setCells _ _ _ _ = W at hM ⊢)
    | (refine lR rfl (hM.out.at 2 rfl) rfl (rwR wz) ?_)
    | (refine sR rfl (hM.out.at 0 rfl) rfl ((rwR wz).len (rwR wz)) (rwR wz) ?_
       replace hM := hid (hM.out.put 0 rfl (rl wz) ((rwR wz).len (rwR wz)))
       generalize World.setCells _ _ _ _ = W at hM ⊢))
  exact bodyPost_ret (res1ss Tryz.results37 (hM.out.at 0 rfl) (rwR wz) (.slice none 0 0) (.iface 28 (.int .i64 1))) rfl ⟨rfl, hM.out.below⟩
set_option maxHeartbeats 8000000 in
theorem one_yes {r : Nat → Nat} (U : ∀ j, j < 32 → r j < 18446744073709551616) {t : Nat} (ht : t < 4) {g : Int} (hg : g = 0 ∨ g = 1) {o k x : Int} (h : ¬ g = (bt r t : Nat)) (hr : isRec r) (hR : Rt o k x) (w : World) :
    Calls Tryz.prog 37 #[.agg (rl r).toArray, .agg #[.int .i64 (t : Nat), .int .i64 g, .int .i64 o, .int .i64 k, .int .i64 x]] w (fun e w' => ∃ b, e = .returned (.tuple #[.agg (rl (rdo r t o k x)).toArray, .slice (some ⟨b, 0, none⟩) 1 1, .nilIface]) ∧ w.heap.size ≤ b ∧ Bo w' b (dl t o k x (odo (r 0 : Nat) (ob r) o k x).2.1 (odo (r 0 : Nat) (ob r) o k x).2.2) ∧ Below w.heap.size w w') := by
  have OP : Hid (∀ w : World, _) := open_yes (U 26 (by decide)) ht hg o k x (v := true) ⟨fun e => (by cases e), fun e => absurd e h⟩
  have DN : Hid (∀ w : World, _) := recDone_yes U ht hr hR
  have ft := odo_ft hr.1 hR
  have f := odo_facts hr.1 hR.w1 hR.w6 hR.k0 hR.k1 hR.v0 hR.v1
  have e1 : ((odo (r 0 : Nat) (ob r) o k x).2.1.toNat : Int) = (odo (r 0 : Nat) (ob r) o k x).2.1 := by have := f.code.1; omega
  have e2 : ((odo (r 0 : Nat) (ob r) o k x).2.2.toNat : Int) = (odo (r 0 : Nat) (ob r) o k x).2.2 := by have := f.told.1; omega
  have e3 : rdo r t o k x (18 + t) = ansN (odo (r 0 : Nat) (ob r) o k x).2.1.toNat (odo (r 0 : Nat) (ob r) o k x).2.2.toNat := rdo_a ht
  have AN0 := fun w => recAnswer_yes (r := rdo r t o k x) (rdo_u hr hR ht) ht (by rw [e3]; exact aw_ans ft) w
  rw [e3, (ansN_parts ft).1, (ansN_parts ft).2, e1, e2] at AN0
  have AN : Hid _ := AN0
  clear AN0 e3 ft f
  obtain ⟨q, hq⟩ : ∃ q, q = rdo r t o k x := ⟨_, rfl⟩
  obtain ⟨cc, hcc⟩ : ∃ c, c = (odo (r 0 : Nat) (ob r) o k x).2.1 := ⟨_, rfl⟩
  obtain ⟨y, hy⟩ : ∃ c, c = (odo (r 0 : Nat) (ob r) o k x).2.2 := ⟨_, rfl⟩
  rw [← hq] at DN AN ⊢
  rw [← hcc, ← hy] at AN ⊢
  obtain ⟨nn, hnn⟩ : ∃ c, c = IntKind.i64.wrap (q (22 + t) : Nat) := ⟨_, rfl⟩
  rw [← hnn] at AN
  clear hq hcc hy hnn e1 e2 h hg hr hR ht U
  have hM : Hid _ := ((((Ms.nil w).born (rl r) 24 (b := w.heap.size) rfl).born [.int .i64 (t : Nat), .int .i64 g, .int .i64 o, .int .i64 k, .int .i64 x] 52 (b := w.heap.size + 1) (by simp)).bornR rl_zero.symm 24 (b := w.heap.size + 2) (by simp))
  go_enter Tryz.func37, Tryz.ntmps37
  go_wp2_with (first
    | (refine lR rfl (hM.out.at 2 rfl) rfl (rwR r) ?_)
    | (refine lR rfl (hM.out.at 1 rfl) rfl (rwAk t g o k x) ?_))
  generalize World.alloc _ _ = W at hM ⊢
  generalize hsz : w.heap.size = n at hM ⊢
  have HSZ : Hid _ := hsz
  clear hsz
  refine (OP.out _).mono ?_
  rintro e W ⟨rfl, hb⟩
  replace hM := hid (hM.out.later hb)
  clear hb
  have c1 := hM.out.cell 1 0 rfl rfl
  go_wp2_with (first
    | (refine lR rfl (hM.out.at 2 rfl) rfl (rwR r) ?_)
    | (refine lO rfl (akOp (hM.out.at 1 rfl)) rfl (rwO o k x) ?_))
  clear c1
  refine (DN.out _).mono ?_
  rintro e W ⟨rfl, hb⟩
  replace hM := hid (hM.out.later hb)
  clear hb
  have c2 := hM.out.cell 1 0 rfl rfl
  go_wp2_with (first
    | (refine sR rfl (hM.out.at 2 rfl) rfl ((rwR r).len (rwR q)) (rwR q) ?_
       replace hM := hid (hM.out.put 2 rfl (rl q) ((rwR r).len (rwR q)))
       generalize World.setCells _ _ _ _ = W at hM ⊢
       clear c2
       have c3 := hM.out.cell 1 0 rfl rfl)
    | (refine lR rfl (hM.out.at 2 rfl) rfl (rwR q) ?_))
  clear c3
  refine (AN.out _).mono ?_
  rintro e W ⟨rfl, hb⟩
  replace hM := hid (hM.out.later hb)
  clear hb
  obtain ⟨bx4, hbx4⟩ : ∃ q, q = W.heap.size := ⟨_, rfl⟩
  replace hM := hid (hM.out.born [.int .i64 0, .int .i64 0] 58 (b := bx4) hbx4)
  have Hbx4 : Hid _ := hbx4
  clear hbx4
  go_wp2_with (first
    | (rw [← Hbx4.out]; refine sR rfl (hM.out.at 0 rfl) rfl ((rwA 0 0).len (rwA cc y)) (rwA cc y) ?_
       replace hM := hid (hM.out.put 0 rfl [.int .i64 cc, .int .i64 y] ((rwA 0 0).len (rwA cc y)))
       generalize World.setCells _ _ _ _ = W at hM ⊢))
  replace hM := hid (hM.out.drew)
  refine wp_region_held_drew (S := fun w' => Bo w' n (rl q) ∧ Bo w' (n + 1) [.int .i64 (t : Nat), .int .i64 g, .int .i64 o, .int .i64 k, .int .i64 x] ∧ Bo w' bx4 [.int .i64 cc, .int .i64 y]) (by kernel_rfl) ⟨hM.out.at 3 rfl, hM.out.at 2 rfl, hM.out.at 0 rfl⟩ (fun hH => ?_)
  generalize World.drew _ = W at hM hH  ⊢
  refine tkR 0 rfl hH (fun _ h => h.1) (rwR q) ?_
  simp only [Act.put, p1, p2, p3]
  refine tk 1 rfl hH ?_
  simp only [Act.put, p1, p2, p3]
  refine tk 2 rfl hH ?_ (by intro w h; have c0 := h.2.1.cell 0 _ rfl; clear h; go_simp; try with_reducible rfl)
  simp only [Act.put, p1, p2, p3]
  refine tk 3 rfl hH ?_
  simp only [Act.put, p1, p2, p3]
  refine tkO 4 rfl hH (fun _ h => akOp h.2.1) (rwO o k x) ?_
  simp only [Act.put, p1, p2, p3]
  refine tkR 5 rfl hH (fun _ h => h.2.2) (rwA cc y) ?_
  simp only [Act.put, p1, p2, p3]
  refine tk 6 rfl hH ?_
  simp only [Act.put, p1, p2, p3]
  refine tk 8 rfl hH ?_
  simp only [Act.put, p1, p2, p3]
  refine rdn [7, 9] ?_
  refine rdc rfl (fun K hK => ?_) ?_
  · go_simp
    replace hM := hid (hM.out.born [.int .i64 (t : Nat), .int .i64 o, .int .i64 k, .int .i64 x, .int .i64 cc, .int .i64 y] 60 rfl)
    refine hK.out _ _ ⟨hM.out.at 4 rfl, hM.out.at 3 rfl, hM.out.at 1 rfl⟩ (fun hH => ?_)
    clear hK K
    generalize W.heap.size = bq5 at hM hH ⊢
    generalize World.alloc _ _ = W at hM hH  ⊢
    try simp only [Act.put, p1, p2, p3]
    refine rd1 9 rfl (fun K hK => ?_)
    refine stR rfl (hM.out.at 2 rfl) ((rwR wz).len (rwR q)) (rwR q) ?_
    simp only [Act.put]
    replace hM := hid (hM.out.put 2 rfl (rl q) ((rwR wz).len (rwR q)))
    refine hK.out _ _ ⟨hM.out.at 4 rfl, hM.out.at 3 rfl, hM.out.at 1 rfl⟩ (fun hH => ?_)
    clear hK K
    generalize World.setCells _ _ _ _ = W at hM hH ⊢
    try simp only [Act.put, p1, p2, p3]
    refine tk 10 rfl hH ?_
    simp only [Act.put, p1, p2, p3]
    refine tk 11 rfl hH ?_
    simp only [Act.put, p1, p2, p3]
    refine wpAnyH_done (by kernel_rfl) ?_ _
    go_wp2_with fail
    exact bodyPost_ret (res1ss Tryz.results37 (hM.out.at 2 rfl) (rwR q) (.slice (some ⟨bq5, 0, none⟩) 1 1) (.nilIface)) rfl ⟨_, rfl, by rw [HSZ.out]; exact hM.out.key 0 rfl, (hM.out.at 0 rfl), hM.out.below⟩
  refine rdc rfl (fun K hK => ?_) AllReadyH.nil
  refine stR rfl (hM.out.at 1 rfl) ((rwR wz).len (rwR q)) (rwR q) ?_
  simp only [Act.put]
  replace hM := hid (hM.out.put 1 rfl (rl q) ((rwR wz).len (rwR q)))
  refine hK.out _ _ ⟨hM.out.at 3 rfl, hM.out.at 2 rfl, hM.out.at 0 rfl⟩ (fun hH => ?_)
  clear hK K
  generalize World.setCells _ _ _ _ = W at hM hH ⊢
  try simp only [Act.put, p1, p2, p3]
  refine rd1 7 rfl (fun K hK => ?_)
  go_simp
  replace hM := hid (hM.out.born [.int .i64 (t : Nat), .int .i64 o, .int .i64 k, .int .i64 x, .int .i64 cc, .int .i64 y] 60 rfl)
  refine hK.out _ _ ⟨hM.out.at 4 rfl, hM.out.at 3 rfl, hM.out.at 1 rfl⟩ (fun hH => ?_)
  clear hK K
  generalize W.heap.size = bq5 at hM hH ⊢
  generalize World.alloc _ _ = W at hM hH  ⊢
  try simp only [Act.put, p1, p2, p3]
  refine tk 10 rfl hH ?_
  simp only [Act.put, p1, p2, p3]
  refine tk 11 rfl hH ?_
  simp only [Act.put, p1, p2, p3]
  refine wpAnyH_done (by kernel_rfl) ?_ _
  go_wp2_with fail
  exact bodyPost_ret (res1ss Tryz.results37 (hM.out.at 2 rfl) (rwR q) (.slice (some ⟨bq5, 0, none⟩) 1 1) (.nilIface)) rfl ⟨_, rfl, by rw [HSZ.out]; exact hM.out.key 0 rfl, (hM.out.at 0 rfl), hM.out.below⟩
end Go.Proofs.YteogbpaaacmllaaGreatDoor.Tab
namespace Go.Proofs.YteogbpaaacmllaaGreatDoor.Tab
set_option maxRecDepth 20000
open Go.RowKit
set_option linter.unusedVariables false

/-- Thirty-seven cells, by their numbers. -/
def rv (f : Nat → Value) : List Value := (List.range 37).map f
theorem rv_length (f : Nat → Value) : (rv f).length = 37 := by simp [rv]
theorem rv_at (f : Nat → Value) {j : Nat} (h : j < 37) : (rv f)[j]? = some (f j) := by simp [rv, h]
theorem rv_one {f : Nat → Value} (h : ∀ j, j < 37 → (f j).oneCell' = true) : ∀ v ∈ rv f, v.oneCell' = true := by
  intro v hv; simp only [rv, List.mem_map] at hv; obtain ⟨j, hj, rfl⟩ := hv; exact h j (by simpa using hj)
theorem rv_congr {f g : Nat → Value} (h : ∀ j, j < 37 → f j = g j) : rv f = rv g := List.map_congr_left fun j hj => h j (by simpa using hj)
def upv (f : Nat → Value) (j : Nat) (v : Value) : Nat → Value := fun k => if k = j then v else f k
def upl (f : Nat → Value) (o : Nat) (vs : List Value) : Nat → Value := fun k => if o ≤ k ∧ k < o + vs.length then vs.getD (k - o) undef else f k
theorem rv_set (f : Nat → Value) {j : Nat} (v : Value) (hj : j < 37) : (rv f).set j v = rv (upv f j v) := by
  apply List.ext_getElem?
  intro k
  by_cases hk : k < 37
  · rw [rv_at _ hk, List.getElem?_set, rv_length]
    by_cases e : j = k
    · subst e; simp [hj, upv]
    · rw [if_neg e, rv_at _ hk]; simp [upv, show k ≠ j from fun h => e h.symm]
  · rw [List.getElem?_eq_none (by rw [List.length_set, rv_length]; omega), List.getElem?_eq_none (by rw [rv_length]; omega)]
theorem Bo.rcell {w : World} {b j : Nat} {f : Nat → Value} {v : Value} (h : Bo w b (rv f)) (hj : j < 37) (hv : f j = v) : w.cell? ⟨b, j, none⟩ = some v := hv ▸ h.cell j _ (rv_at f hj)
theorem Bo.upl {w : World} {b o : Nat} {f : Nat → Value} {vs : List Value} (h : Bo w b (rv f)) (hl : o + vs.length ≤ 37) : Bo (w.setCells b o vs) b (rv (upl f o vs)) :=
  h.setAt (by rw [rv_length]; exact hl) fun j v hv => by
    have hj : j < 37 := by have := (List.getElem?_eq_some_iff.1 hv).1; rwa [rv_length] at this
    rw [rv_at _ hj] at hv
    unfold Tab.upl at hv
    by_cases e : o ≤ j ∧ j < o + vs.length
    · rw [if_pos e] at hv
      refine Or.inl ⟨e.1, e.2, ?_⟩
      rw [← hv, List.getElem?_eq_getElem (by omega)]
      congr 1
      rw [List.getD_eq_getElem?_getD, List.getElem?_eq_getElem (by omega), Option.getD_some]
    · rw [if_neg e] at hv
      exact Or.inr ⟨by omega, by rw [rv_at _ hj]; exact hv⟩

/-- The record that the words ρ are, as far as its first i threads; its thing's cells are th. -/
def rf (th : List Value) (ρ : Nat → Nat) (i : Nat) : Nat → Value := fun j =>
  if j < 19 then th.getD j undef
  else if j < 27 then (if j < 19 + i * 2 then (if j % 2 = 1 then .int .i64 ((ρ (18 + (j - 19) / 2) / 4294967296 : Nat) : Int) else .int .i64 ((ρ (18 + (j - 19) / 2) % 4294967296 : Nat) : Int)) else .int .i64 0)
  else if j < 31 then .int .u64 (((if j < 27 + i then ρ (j - 5) else 0) : Nat) : Int)
  else if j < 35 then .int .i64 (((if j < 31 + i then ((ρ 26).testBit (j - 31)).toNat else 0) : Nat) : Int)
  else if j = 35 then .int .u64 ((ρ 27 : Nat) : Int) else .int .u64 ((ρ 28 : Nat) : Int)
section
variable {th : List Value} {ρ : Nat → Nat} {i : Nat}
theorem rf_th {j : Nat} (h : j < 19) : rf th ρ i j = th.getD j undef := by unfold rf; rw [if_pos h]
theorem rf_code {t : Nat} (ht : t < 4) (hi : t < i) : rf th ρ i (19 + t * 2) = .int .i64 ((ρ (18 + t) / 4294967296 : Nat) : Int) := by
  unfold rf; rw [if_neg (by omega), if_pos (by omega), if_pos (by omega), if_pos (by omega), show 18 + (19 + t * 2 - 19) / 2 = 18 + t by omega]
theorem rf_val {t : Nat} (ht : t < 4) (hi : t < i) : rf th ρ i (19 + t * 2 + 1) = .int .i64 ((ρ (18 + t) % 4294967296 : Nat) : Int) := by
  unfold rf; rw [if_neg (by omega), if_pos (by omega), if_pos (by omega), if_neg (by omega), show 18 + (19 + t * 2 + 1 - 19) / 2 = 18 + t by omega]
theorem rf_when {t : Nat} (ht : t < 4) (hi : t < i) : rf th ρ i (27 + t) = .int .u64 ((ρ (22 + t) : Nat) : Int) := by
  unfold rf; rw [if_neg (by omega), if_neg (by omega), if_pos (by omega), if_pos (by omega), show 27 + t - 5 = 22 + t by omega]
theorem rf_tog {t : Nat} (ht : t < 4) (hi : t < i) : rf th ρ i (31 + t) = .int .i64 ((((ρ 26).testBit t).toNat : Nat) : Int) := by
  unfold rf; rw [if_neg (by omega), if_neg (by omega), if_neg (by omega), if_pos (by omega), if_pos (by omega), show 31 + t - 31 = t by omega]
theorem rf_ver : rf th ρ i 35 = .int .u64 ((ρ 27 : Nat) : Int) := by unfold rf; rw [if_neg (by omega), if_neg (by omega), if_neg (by omega), if_neg (by omega), if_pos rfl]
theorem rf_cnt : rf th ρ i 36 = .int .u64 ((ρ 28 : Nat) : Int) := by unfold rf; rw [if_neg (by omega), if_neg (by omega), if_neg (by omega), if_neg (by omega), if_neg (by omega)]
theorem rf_one (hth : ∀ v ∈ th, v.oneCell' = true) (hl : th.length = 19) : ∀ j, j < 37 → (rf th ρ i j).oneCell' = true := by
  intro j hj
  unfold rf
  split
  · rename_i h
    rw [List.getD_eq_getElem?_getD, List.getElem?_eq_getElem (by omega), Option.getD_some]
    exact hth _ (List.getElem_mem _)
  · split
    · split
      · split <;> rfl
      · rfl
    · split
      · rfl
      · split
        · rfl
        · split <;> rfl
/-- A thread more. -/
theorem rf_next (hi : i < 4) : rv (upv (upv (upl (rf th ρ i) (19 + i * 2) [.int .i64 ((ρ (18 + i) / 4294967296 : Nat) : Int), .int .i64 ((ρ (18 + i) % 4294967296 : Nat) : Int)]) (27 + i) (.int .u64 ((ρ (22 + i) : Nat) : Int))) (31 + i) (.int .i64 ((((ρ 26).testBit i).toNat : Nat) : Int))) = rv (rf th ρ (i + 1)) := rv_congr fun j hj => by
  unfold upv
  by_cases h31 : j = 31 + i
  · subst h31; rw [if_pos rfl, rf_tog hi (by omega)]
  rw [if_neg h31]
  by_cases h27 : j = 27 + i
  · subst h27; rw [if_pos rfl, rf_when hi (by omega)]
  rw [if_neg h27]
  unfold upl
  simp only [List.length_cons, List.length_nil]
  by_cases h19 : j = 19 + i * 2
  · subst h19; rw [if_pos (by omega), rf_code hi (by omega), Nat.sub_self]; rfl
  by_cases h20 : j = 19 + i * 2 + 1
  · subst h20; rw [if_pos (by omega), rf_val hi (by omega), show 19 + i * 2 + 1 - (19 + i * 2) = 1 by omega]; rfl
  rw [if_neg (by omega)]
  unfold rf
  by_cases a1 : j < 19
  · rw [if_pos a1, if_pos a1]
  rw [if_neg a1, if_neg a1]
  by_cases a2 : j < 27
  · rw [if_pos a2, if_pos a2]
    by_cases a3 : j < 19 + i * 2
    · rw [if_pos a3, if_pos (show j < 19 + (i + 1) * 2 by omega)]
    · rw [if_neg a3, if_neg (show ¬ j < 19 + (i + 1) * 2 by omega)]
  rw [if_neg a2, if_neg a2]
  by_cases a4 : j < 31
  · rw [if_pos a4, if_pos a4]
    by_cases a5 : j < 27 + i
    · rw [if_pos a5, if_pos (by omega)]
    · rw [if_neg a5, if_neg (by omega)]
  rw [if_neg a4, if_neg a4]
  by_cases a6 : j < 35
  · rw [if_pos a6, if_pos a6]
    by_cases a7 : j < 31 + i
    · rw [if_pos a7, if_pos (by omega)]
    · rw [if_neg a7, if_neg (by omega)]
  rw [if_neg a6, if_neg a6]
/-- Where the toggle is not turned, its cell is 0 as it was. -/
theorem rf_tog0 (hi : i < 4) (f : Nat → Value) (hf : f (31 + i) = .int .i64 0) : upv f (31 + i) (.int .i64 0) = f := by
  funext j; unfold upv; by_cases e : j = 31 + i
  · rw [if_pos e, e, hf]
  · rw [if_neg e]
theorem rf_tog_old (hi : i < 4) : rf th ρ i (31 + i) = .int .i64 0 := by
  unfold rf; rw [if_neg (by omega), if_neg (by omega), if_neg (by omega), if_pos (by omega), if_neg (by omega)]; rfl
end
/-- A record in which there is nothing. -/
def zf : Nat → Value := fun j => if j = 1 then .slice none 0 0 else if 27 ≤ j ∧ j < 31 ∨ 35 ≤ j then .int .u64 0 else .int .i64 0
theorem zf_one : ∀ j, j < 37 → (zf j).oneCell' = true := by intro j _; unfold zf; split <;> (try split) <;> rfl
theorem zf_all : (rv zf).toArray = #[.int .i64 0, .slice none 0 0, .int .i64 0, .int .i64 0, .int .i64 0, .int .i64 0, .int .i64 0, .int .i64 0, .int .i64 0, .int .i64 0, .int .i64 0, .int .i64 0, .int .i64 0, .int .i64 0, .int .i64 0, .int .i64 0, .int .i64 0, .int .i64 0, .int .i64 0,
    .int .i64 0, .int .i64 0, .int .i64 0, .int .i64 0, .int .i64 0, .int .i64 0, .int .i64 0, .int .i64 0, .int .u64 0, .int .u64 0, .int .u64 0, .int .u64 0, .int .i64 0, .int .i64 0, .int .i64 0, .int .i64 0, .int .u64 0, .int .u64 0] := rfl
theorem rf_zero {th : List Value} (hl : th.length = 19) (ρ : Nat → Nat) : rv (upv (upv (upl zf 0 th) 35 (.int .u64 ((ρ 27 : Nat) : Int))) 36 (.int .u64 ((ρ 28 : Nat) : Int))) = rv (rf th ρ 0) := rv_congr fun j hj => by
  unfold upv
  by_cases h36 : j = 36
  · subst h36; rw [if_pos rfl, rf_cnt]
  rw [if_neg h36]
  by_cases h35 : j = 35
  · subst h35; rw [if_pos rfl, rf_ver]
  rw [if_neg h35]
  unfold upl
  rw [hl]
  by_cases h19 : j < 19
  · rw [if_pos (by omega), rf_th h19, Nat.sub_zero]
  rw [if_neg (by omega)]
  unfold zf rf
  rw [if_neg (by omega), if_neg h19]
  by_cases a2 : j < 27
  · rw [if_pos a2, if_neg (by omega), if_neg (by omega)]
  rw [if_neg a2]
  by_cases a4 : j < 31
  · rw [if_pos a4, if_pos (by omega), if_neg (by omega)]; rfl
  rw [if_neg a4, if_neg (show ¬(27 ≤ j ∧ j < 31 ∨ 35 ≤ j) by omega), if_pos (show j < 35 by omega), if_neg (show ¬ j < 31 + 0 by omega)]; rfl

/-- A record's thing, and a thread's answer, as rows within it. -/
theorem Bo.thing {w : World} {b : Nat} {f : Nat → Value} {th : List Value} (h : Bo w b (rv f)) (hl : th.length = 19) (hf : ∀ j, j < 19 → f j = th.getD j undef) : Bo w b th :=
  ⟨fun j v hv => by
    have hj : j < 19 := by have := (List.getElem?_eq_some_iff.1 hv).1; omega
    refine h.rcell (by omega) ?_
    rw [hf j hj, List.getD_eq_getElem?_getD, hv, Option.getD_some], h.froz, h.lt⟩
theorem Bo.two {w : World} {b q : Nat} {f : Nat → Value} {x y : Value} (h : Bo w b (rv f)) (hq : q + 1 < 37) (hx : f q = x) (hy : f (q + 1) = y) : w.rangeAt b q [x, y] := fun j v hv => by
  match j, hv with
  | 0, hv => cases hv; exact h.rcell (by omega) hx
  | 1, hv => cases hv; exact h.rcell hq hy
/-- What words a record that words are has. -/
def nw (ρ : Nat → Nat) : Nat → Nat := fun j => if j = 26 then ρ 26 % 16 else if j < 29 then ρ j else 0
def wq (ρ : Nat → Nat) (i : Nat) : Nat → Nat := fun j => if j < 18 then ρ j else if j < 22 then (if j < 18 + i then ρ j else 0) else if j < 26 then (if j < 22 + i then ρ j else 0) else if j = 26 then ρ 26 % 2 ^ i else 0
theorem wq_zero (ρ c : Nat → Nat) (hc : ∀ j, j < 17 → c j = ob ρ j) : rl (wo (upw wz 0 (ρ 0)) c) = rl (wq ρ 0) := rl_congr fun j hj => by
  unfold wo upw wq wz
  by_cases h1 : 1 ≤ j ∧ j < 18
  · rw [if_pos h1, if_pos h1.2, hc _ (by omega)]; unfold ob; rw [show 1 + (j - 1) = j by omega]
  rw [if_neg h1]
  by_cases h0 : j = 0
  · subst h0; rfl
  rw [if_neg h0, if_neg (show ¬ j < 18 by omega)]
  by_cases a2 : j < 22
  · rw [if_pos a2, if_neg (show ¬ j < 18 + 0 by omega)]
  rw [if_neg a2]
  by_cases a4 : j < 26
  · rw [if_pos a4, if_neg (show ¬ j < 22 + 0 by omega)]
  rw [if_neg a4, Nat.pow_zero, Nat.mod_one]
  split <;> rfl
theorem mod_xor (x i : Nat) : (x % 2 ^ i) ^^^ 2 ^ i = x % 2 ^ i + 2 ^ i := by
  have h : x % 2 ^ i < 2 ^ i := Nat.mod_lt _ (Nat.two_pow_pos i)
  have h1 := Nat.two_pow_add_eq_or_of_lt h 1
  rw [Nat.mul_one] at h1
  rw [Nat.add_comm, h1]
  apply Nat.eq_of_testBit_eq
  intro j
  rw [Nat.testBit_xor, Nat.testBit_or, Nat.testBit_mod_two_pow, Nat.testBit_two_pow]
  by_cases e : i = j
  · subst e; simp
  · simp [e]
theorem wq_next (ρ : Nat → Nat) {i : Nat} (hi : i < 4) : rl (upw (upw (upw (wq ρ i) (18 + i) (ρ (18 + i))) (22 + i) (ρ (22 + i))) 26 (ρ 26 % 2 ^ (i + 1))) = rl (wq ρ (i + 1)) := rl_congr fun j hj => by
  unfold upw wq
  by_cases h26 : j = 26
  · subst h26; rfl
  rw [if_neg h26]
  by_cases h22 : j = 22 + i
  · subst h22; rw [if_pos rfl, if_neg (by omega), if_neg (by omega), if_pos (by omega), if_pos (by omega)]
  rw [if_neg h22]
  by_cases h18 : j = 18 + i
  · subst h18; rw [if_pos rfl, if_neg (by omega), if_pos (by omega), if_pos (by omega)]
  rw [if_neg h18]
  by_cases a1 : j < 18
  · rw [if_pos a1, if_pos a1]
  rw [if_neg a1, if_neg a1]
  by_cases a2 : j < 22
  · rw [if_pos a2, if_pos a2]
    by_cases a3 : j < 18 + i
    · rw [if_pos a3, if_pos (by omega)]
    · rw [if_neg a3, if_neg (by omega)]
  rw [if_neg a2, if_neg a2]
  by_cases a4 : j < 26
  · rw [if_pos a4, if_pos a4]
    by_cases a5 : j < 22 + i
    · rw [if_pos a5, if_pos (by omega)]
    · rw [if_neg a5, if_neg (by omega)]
  rw [if_neg a4, if_neg a4, if_neg h26, if_neg h26]
theorem wq_all (ρ : Nat → Nat) : rl (upw (upw (wq ρ 4) 27 (ρ 27)) 28 (ρ 28)) = rl (nw ρ) := rl_congr fun j hj => by
  unfold upw wq nw
  by_cases h28 : j = 28
  · subst h28; rfl
  rw [if_neg h28]
  by_cases h27 : j = 27
  · subst h27; rfl
  rw [if_neg h27]
  by_cases h26 : j = 26
  · subst h26; rfl
  rw [if_neg h26]
  by_cases a1 : j < 18
  · rw [if_pos a1, if_neg h26, if_pos (show j < 29 by omega)]
  rw [if_neg a1]
  by_cases a2 : j < 22
  · rw [if_pos a2, if_pos (show j < 18 + 4 by omega), if_neg h26, if_pos (show j < 29 by omega)]
  rw [if_neg a2]
  by_cases a4 : j < 26
  · rw [if_pos a4, if_pos (show j < 22 + 4 by omega), if_neg h26, if_pos (show j < 29 by omega)]
  rw [if_neg a4, if_neg h26, if_neg (show ¬ j < 29 by omega)]
end Go.Proofs.YteogbpaaacmllaaGreatDoor.Tab
namespace Go.Proofs.YteogbpaaacmllaaGreatDoor.Tab
set_option maxRecDepth 20000
open Go.RowKit
theorem isLb_iff {c : Nat → Nat} : isLb c = true ↔ WList c := ⟨isLb_w, isLb_of⟩
theorem WTab_iff {c : Nat → Nat} : WTab c ↔ WT c := by
  unfold WTab WT
  constructor
  · intro ⟨h1, h2, h3⟩
    exact ⟨fun j hj => by have := upC_all h1 (j := j) (by omega) (by omega); omega, by have := upC_all h2 (j := 16) (by omega) (by omega); omega, h3⟩
  · intro ⟨h1, h2, h3⟩
    exact ⟨upC_iff.2 fun j hj => by have := h1 (0 + j) (by omega); omega, upC_iff.2 fun j hj => by rw [show 16 + j = 16 by omega, h2]; decide, h3⟩
theorem isTb_iff {c : Nat → Nat} : isTb c = true ↔ WN c := by
  unfold isTb WN
  rw [Bool.and_eq_true]
  constructor
  · intro ⟨h1, h2⟩
    exact ⟨by have := upC_all h1 (j := 0) (by omega) (by omega); omega, fun j h3 h4 => by have := upC_all h2 (j := j) (by omega) (by omega); omega⟩
  · intro ⟨h1, h2⟩
    exact ⟨upC_iff.2 fun j hj => by rw [show 0 + j = 0 by omega]; omega, upC_iff.2 fun j hj => by rw [h2 (1 + j) (by omega) (by omega)]; decide⟩
theorem isTh_ob {k : Int} {c : Nat → Nat} : isTh k c ↔ isOb k c := by
  unfold isTh isOb
  rw [isLb_iff, WTab_iff, isTb_iff]
end Go.Proofs.YteogbpaaacmllaaGreatDoor.Tab
namespace Go.Proofs.YteogbpaaacmllaaGreatDoor.Tab
set_option maxRecDepth 20000
open Go.RowKit
set_option linter.unusedVariables false

theorem rf_done {ρ : Nat → Nat} {t : Nat} {o k x : Int} {th th' : List Value} (ht : t < 4) {d : Nat → Nat} {cc y : Nat} (h : odo (ρ 0 : Nat) (ob ρ) o k x = (d, ((cc : Nat) : Int), ((y : Nat) : Int))) (hf : Ft cc y) (hl : th'.length = 19) :
    rv (upv (upv (upv (upl (upl (rf th ρ 4) 0 th') (19 + t * 2) [.int .i64 (cc : Nat), .int .i64 (y : Nat)]) 36 (.int .u64 ((ρ 28 + 1 : Nat) : Int))) (27 + t) (.int .u64 ((ρ 28 + 1 : Nat) : Int))) (31 + t) (.int .i64 (((!(ρ 26).testBit t).toNat : Nat) : Int))) = rv (rf th' (rdo ρ t o k x) 4) := rv_congr fun j hj => by
  have ha : rdo ρ t o k x (18 + t) = ansN cc y := by rw [rdo_a ht, h]; rfl
  obtain ⟨p1, p2⟩ := ansN_parts hf
  unfold upv
  by_cases h31 : j = 31 + t
  · subst h31
    rw [if_pos rfl, rf_tog ht ht, rdo_26, Nat.testBit_xor, Nat.testBit_two_pow_self, Bool.xor_true]
  rw [if_neg h31]
  by_cases h27 : j = 27 + t
  · subst h27
    rw [if_pos rfl, rf_when ht ht, rdo_w ht]
  rw [if_neg h27]
  by_cases h36 : j = 36
  · subst h36
    rw [if_pos rfl, rf_cnt, rdo_28]
  rw [if_neg h36]
  unfold upl
  simp only [List.length_cons, List.length_nil]
  by_cases h19 : j = 19 + t * 2
  · subst h19
    rw [if_pos (by omega), rf_code ht ht, ha, p1, Nat.sub_self]; rfl
  by_cases h20 : j = 19 + t * 2 + 1
  · subst h20
    rw [if_pos (by omega), rf_val ht ht, ha, p2, show 19 + t * 2 + 1 - (19 + t * 2) = 1 by omega]; rfl
  rw [if_neg (by omega), hl]
  by_cases a1 : j < 19
  · rw [if_pos (by omega), rf_th a1, Nat.sub_zero]
  rw [if_neg (by omega)]
  by_cases a2 : j < 27
  · obtain ⟨s, hs, e⟩ : ∃ s, s < 4 ∧ (j = 19 + s * 2 ∨ j = 19 + s * 2 + 1) := ⟨(j - 19) / 2, by omega, by omega⟩
    have hst : s ≠ t := by omega
    rcases e with rfl | rfl
    · rw [rf_code hs hs, rf_code hs hs, rdo_a' hs ht hst]
    · rw [rf_val hs hs, rf_val hs hs, rdo_a' hs ht hst]
  by_cases a4 : j < 31
  · obtain ⟨s, hs, rfl⟩ : ∃ s, s < 4 ∧ j = 27 + s := ⟨j - 27, by omega, by omega⟩
    rw [rf_when hs hs, rf_when hs hs, rdo_w' hs ht (by omega)]
  by_cases a6 : j < 35
  · obtain ⟨s, hs, rfl⟩ : ∃ s, s < 4 ∧ j = 31 + s := ⟨j - 31, by omega, by omega⟩
    rw [rf_tog hs hs, rf_tog hs hs, rdo_26, Nat.testBit_xor, Nat.testBit_two_pow_of_ne (by omega), Bool.xor_false]
  · obtain rfl : j = 35 := by omega
    rw [rf_ver, rf_ver, rdo_27 ht]
/-- Where it stands, the words are a record's, but for how many deeds there were. -/
theorem rdo_nw {ρ : Nat → Nat} {t : Nat} {o k x : Int} (h : isRec ρ) (ht : t < 4) : rl (nw (rdo ρ t o k x)) = rl (rdo ρ t o k x) := rl_congr fun j hj => by
  unfold nw
  by_cases e : j = 26
  · subst e
    rw [if_pos rfl, rdo_26]
    exact Nat.mod_eq_of_lt (xor_four h.2.2.2.2.1 ht)
  · rw [if_neg e]
    by_cases e2 : j < 29
    · rw [if_pos e2]
    · rw [if_neg e2]
      obtain ⟨s, hs, rfl⟩ : ∃ s, s < 3 ∧ j = 29 + s := ⟨j - 29, by omega, by omega⟩
      rw [rdo_z ht hs, h.2.2.2.1 s hs]
theorem rdo_ans {ρ : Nat → Nat} {t : Nat} {o k x : Int} (h : isRec ρ) (hR : Rt o k x) (ht : t < 4) : ∀ s, s < 4 → rdo ρ t o k x (18 + s) = 0 ∨ Aw (rdo ρ t o k x (18 + s)) := fun s hs => by
  by_cases e : s = t
  · subst e
    rw [rdo_a hs]
    exact Or.inr (aw_ans (odo_ft h.1 hR))
  · rw [rdo_a' hs ht e]
    exact (h.2.1 s hs).2
theorem rdo_u64 {ρ : Nat → Nat} {t : Nat} {o k x : Int} (h : isRec ρ) (hR : Rt o k x) (ht : t < 4) (U : ∀ j, j < 32 → ρ j < 18446744073709551616) : ∀ j, j < 32 → rdo ρ t o k x j < 18446744073709551616 := fun j hj => by
  by_cases h26 : j = 26
  · subst h26; rw [rdo_26]; have := xor_four h.2.2.2.2.1 ht; omega
  by_cases h28 : j = 28
  · subst h28; rw [rdo_28]; have := h.2.2.2.2.2.2; omega
  by_cases h22 : j = 22 + t
  · subst h22; rw [rdo_w ht]; have := h.2.2.2.2.2.2; omega
  by_cases h18 : j = 18 + t
  · subst h18; rw [rdo_a ht]; exact ansN_lt (odo_ft h.1 hR)
  by_cases h1 : 1 ≤ j ∧ j < 18
  · have f := odo_facts h.1 hR.w1 hR.w6 hR.k0 hR.k1 hR.v0 hR.v1
    have hle := (isTh_ob.2 f.ob).le (j - 1) (by omega)
    have e : rdo ρ t o k x (1 + (j - 1)) = (odo (ρ 0 : Nat) (ob ρ) o k x).1 (j - 1) := rdo_ob (r := ρ) (t := t) (o := o) (k := k) (x := x) ht (j - 1) (by omega)
    rw [show 1 + (j - 1) = j by omega] at e
    rw [e]; omega
  · unfold rdo
    rw [if_neg h26, if_neg (by omega), if_neg h18, if_neg h1]
    exact U j hj
end Go.Proofs.YteogbpaaacmllaaGreatDoor.Tab
namespace Go.Proofs.YteogbpaaacmllaaGreatDoor.Tab
set_option maxRecDepth 20000
open Go.RowKit
set_option linter.unusedVariables false

set_option maxHeartbeats 2000000 in
theorem same_wf {w : World} {ba bc oc ka kc : Nat} {d c : Nat → Nat} (ha : Bo w ba (wl d)) (hc : Wf w bc oc c) (v : Bool) (hv : v = true ↔ ∀ j, j < 17 → d j = c j) :
    Calls Tryz.prog 53 #[.slice (some ⟨ba, 0, none⟩) 17 ka, .slice (some ⟨bc, oc, none⟩) 17 kc] w fun e w' => e = .returned (.bool v) ∧ Below w.heap.size w w' := by
  have HA : Hid _ := ha
  have HC : Hid _ := hc
  have HV : Hid _ := hv
  clear ha hc hv
  go_enter Tryz.func53, Tryz.ntmps53
  go_wp2_with fail
  go_loopg [8] 17 (fun gg s8 wt => ∃ i q : Nat, i ≤ 17 ∧ 17 - i ≤ gg ∧ s8 = .int .i64 i ∧ wt = w.drewN q ∧ Hid (∀ j, j < i → d j = c j))
  case atStart => exact ⟨0, 0, by omega, by omega, rfl, rfl, fun j hj => absurd hj (by omega)⟩
  case round =>
    obtain ⟨i, q, hi, hgg, rfl, rfl, E⟩ := hrel
    by_cases hlt : i < 17
    · have g1 : w.cell? ⟨ba, i, none⟩ = some (.int .u64 (d i : Nat)) := HA.out.word hlt
      have g2 : w.cell? ⟨bc, oc + i, none⟩ = some (.int .u64 (c i : Nat)) := HC.out.cell i hlt
      have hi1 : (i : Int) < 17 := by omega
      have hi0 : (0 : Int) ≤ (i : Int) := by omega
      have hd : decide ((17 : Int) ≤ (i : Int)) = false := by simp; omega
      by_cases he : d i = c i
      · have E' : Hid (∀ j, j < i + 1 → d j = c j) := fun j hj => by
          by_cases e : j = i
          · subst e; exact he
          · exact E.out j (by omega)
        rw [he] at g1
        clear E he
        generalize c i = x at g1 g2
        go_wp2_with fail
        go_region
        all_goals go_wp2
        go_roundg (17 - (i + 1))
        case measure => omega
        case rel => exact ⟨i + 1, q + 1, by omega, by omega, by go_num, rfl, E'⟩
      · have e : v = false := by
          cases v
          · rfl
          · exact absurd (HV.out.1 rfl i hlt) he
        subst e
        clear HV E
        have hne : (((d i : Nat) : Int) == ((c i : Nat) : Int)) = false := by simp; omega
        clear he
        generalize d i = x at g1 hne
        generalize c i = y at g2 hne
        go_wp2_with fail
        go_region
        all_goals go_wp2
        go_ret
        exact ⟨rfl, below_drewN _ _⟩
    · obtain rfl : i = 17 := by omega
      have e : v = true := HV.out.2 E.out
      subst e
      go_wp2
      go_ret
      exact ⟨rfl, below_drewN _ _⟩
end Go.Proofs.YteogbpaaacmllaaGreatDoor.Tab
namespace Go.Proofs.YteogbpaaacmllaaGreatDoor.Tab
set_option maxRecDepth 20000
open Go.RowKit
set_option linter.unusedVariables false

theorem info_u64 : (Tryz.prog.info? 22).map (fun i => (i.zero, i.size, i.bytes)) = some (some (.int .u64 0), 1, 8) := by kernel_rfl
theorem made17 : madeCells (Value.int .u64 0).cells 17 = (wl wz).toArray := by kernel_rfl
theorem mk17 (w : World) : (Instr.makeSlice 26 (.int .i64 17) (.int .i64 17)).run Tryz.prog w = .ok (.slice (some ⟨w.heap.size, 0, none⟩) 17 17) (w.alloc (.cells (wl wz).toArray 22)) := by
  obtain ⟨i, hi, hz, h1, h2⟩ := info_parts info_u64
  have := run_make (P := Tryz.prog) w 26 22 i _ Tryz.underlying26 hi hz .i64 .i64 17 17 (by decide) (by decide) (by rw [h2]; decide) (by decide)
  rw [h1] at this
  rw [← made17]
  exact this
theorem mk17b (w : World) (o : Obj) : (Instr.makeSlice 26 (.int .i64 17) (.int .i64 17)).run Tryz.prog (w.alloc o) = .ok (.slice (some ⟨w.heap.size + 1, 0, none⟩) 17 17) ((w.alloc o).alloc (.cells (wl wz).toArray 22)) := by
  have := mk17 (w.alloc o)
  simpa using this

theorem new_below2 (w : World) (o p : Obj) : Below w.heap.size w ((w.alloc o).alloc p) := ((Gd.refl w).new o |>.new p).2
/-- Seventeen words, in a block of the call's own. -/
def Wd (n : Nat) (e : Ending) (w' : World) (d : Nat → Nat) : Prop := ∃ b, e = .returned (.slice (some ⟨b, 0, none⟩) 17 17) ∧ n ≤ b ∧ Bo w' b (wl d)

set_option maxHeartbeats 1000000 in
theorem Cells_6 (v : Value) (t : Tb) (x : Nat) (hx : x ≤ 4294967295) (w : World) :
    Calls Tryz.prog 55 #[.agg (tg 6 v t x).toArray] w fun e w' => Wd w.heap.size e w' (tyw x) ∧ Below w.heap.size w w' := by
  have mk := mk17b w (.cells (tg 6 v t x).toArray 72)
  have S0 : Hid (Bo ((w.alloc (.cells (tg 6 v t x).toArray 72)).alloc (.cells (wl wz).toArray 22)) w.heap.size (tg 6 v t x)) := (Bo.born w (tg 6 v t x) _ rfl).new _
  have T0 : Hid (Bo ((w.alloc (.cells (tg 6 v t x).toArray 72)).alloc (.cells (wl wz).toArray 22)) (w.heap.size + 1) (wl wz)) := Bo.born _ (wl wz) _ (by simp)
  have G0 : Hid (Gd w.heap.size w ((w.alloc (.cells (tg 6 v t x).toArray 72)).alloc (.cells (wl wz).toArray 22))) := ((Gd.refl w).new _).new _
  have c0 := S0.out.tcell.1
  have c1 := S0.out.tcell.2.2
  have d0 := T0.out.word (show 0 < 17 by decide)
  have d1 := T0.out.froz 0
  go_enter Tryz.func55, Tryz.ntmps55
  go_wp2_with fail
  go_ret
  have e : wl (tyw x) = (wl wz).set 0 (.int .u64 (x : Nat)) := by
    rw [wl_set wz x (by decide)]
    exact wl_congr fun j _ => by unfold tyw upw wz; by_cases e0 : j = 0 <;> simp [e0]
  refine ⟨⟨_, rfl, by omega, ?_⟩, new_below2 _ _ _⟩
  rw [e]
  exact Bo.born _ _ _ (by simp)
end Go.Proofs.YteogbpaaacmllaaGreatDoor.Tab
namespace Go.Proofs.YteogbpaaacmllaaGreatDoor.Tab
set_option maxRecDepth 20000
open Go.RowKit
set_option linter.unusedVariables false

def twq (t : Tb) (i : Nat) : Nat → Nat := fun j => if j < 2 * i then tw t j else 0
theorem twq_zero (t : Tb) : wl (twq t 0) = wl wz := wl_congr fun j _ => by simp [twq, wz]
theorem twq_next (t : Tb) {i : Nat} (hi : i < 8) : wl (upw (upw (twq t i) (2 * i) (t.k i).toNat) (2 * i + 1) (t.v i).toNat) = wl (twq t (i + 1)) := by
  refine wl_congr fun j _ => ?_
  unfold upw twq tw
  by_cases e1 : j = 2 * i + 1
  · subst e1
    rw [if_pos rfl, if_pos (by omega), if_pos (by omega), if_neg (by omega), show (2 * i + 1) / 2 = i by omega]
  · rw [if_neg e1]
    by_cases e0 : j = 2 * i
    · subst e0
      rw [if_pos rfl, if_pos (by omega), if_pos (by omega), if_pos (by omega), show (2 * i) / 2 = i by omega]
    · rw [if_neg e0]
      by_cases h : j < 2 * i
      · have h2 : j < 2 * (i + 1) := by omega
        simp only [h, h2, if_true]
      · have h2 : ¬ j < 2 * (i + 1) := by omega
        simp only [h, h2, if_false]
theorem twq_all (t : Tb) : wl (twq t 8) = wl (tw t) := wl_congr fun j hj => by
  unfold twq
  by_cases h : j < 16
  · rw [if_pos (by omega)]
  · rw [if_neg (by omega)]; unfold tw; rw [if_neg h]

set_option maxHeartbeats 4000000 in
theorem Cells_5 (v : Value) (t : Tb) (x : Int) (hk : ∀ i, i < 8 → 0 ≤ t.k i ∧ t.k i ≤ 4294967295) (hv : ∀ i, i < 8 → 0 ≤ t.v i ∧ t.v i ≤ 4294967295) (w : World) :
    Calls Tryz.prog 55 #[.agg (tg 5 v t x).toArray] w fun e w' => Wd w.heap.size e w' (tw t) ∧ Below w.heap.size w w' := by
  obtain ⟨na, ea, hd⟩ := rslots_array
  have HD : Hid _ := hd
  clear hd
  have HS : Hid (∀ t : Tb, (Tryz.prog.info? 70).map (·.size) = some t.all.length) := rslots_size
  have HX : Hid (∀ i : Nat, i < 8 → ∀ w, (Instr.index 70 (.agg t.all.toArray) (.int .i64 (i : Nat))).run Tryz.prog w = .ok (.agg #[.int .i64 (t.k i), .int .i64 (t.v i)]) w) := rslot_at t
  have HK : Hid _ := hk
  have HV : Hid _ := hv
  clear hk hv
  have mk := mk17b w (.cells (tg 5 v t x).toArray 72)
  have S : Hid (Bo ((w.alloc (.cells (tg 5 v t x).toArray 72)).alloc (.cells (wl wz).toArray 22)) w.heap.size (tg 5 v t x)) := (Bo.born w (tg 5 v t x) _ rfl).new _
  have L : Hid (Bo ((w.alloc (.cells (tg 5 v t x).toArray 72)).alloc (.cells (wl wz).toArray 22)) (w.heap.size + 1) (wl (twq t 0))) := by rw [twq_zero]; exact Bo.born _ (wl wz) _ (by simp)
  have G : Hid (Gd w.heap.size w ((w.alloc (.cells (tg 5 v t x).toArray 72)).alloc (.cells (wl wz).toArray 22))) := ((Gd.refl w).new _).new _
  have c0 := S.out.tcell.1
  have NX : Hid _ := @twq_next t
  have AL : Hid _ := twq_all t
  have RG : Hid _ := S.out.slots
  generalize tg 5 v t x = th at mk L G c0 RG ⊢
  clear S
  obtain ⟨cs, hcs⟩ : ∃ cs, cs = t.all := ⟨_, rfl⟩
  rw [← hcs] at RG HX
  have HS1 : Hid ((Tryz.prog.info? 70).map (·.size) = some cs.length) := by rw [hcs]; exact HS.out t
  clear hcs HS
  go_enter Tryz.func55, Tryz.ntmps55
  go_wp2_with (refine wpList_load_mid rfl 70 _ rfl w.heap.size _ rfl cs _ RG.out HD.out rfl HS1.out ?_)
  clear mk c0
  generalize (w.alloc (.cells th.toArray 72)).alloc (.cells (wl wz).toArray 22) = W at G L RG ⊢
  generalize hsz : w.heap.size = n at G L RG ⊢
  have HSZ : Hid (w.heap.size = n) := hsz
  clear hsz RG
  go_loopg [36] 8 (fun gg s36 wt => ∃ i : Nat, i ≤ 8 ∧ 8 - i ≤ gg ∧ s36 = .int .i64 i ∧ Hid (Bo wt (n + 1) (wl (twq t i))) ∧ Hid (Gd n w wt))
  case atStart => exact ⟨0, by omega, by omega, rfl, L, G⟩
  case round =>
    clear L G
    obtain ⟨i, hi, hgg, rfl, L, G⟩ := hrel
    by_cases hlt : i < 8
    · have hx := HX.out i hlt
      have k0 := HK.out i hlt
      have v0 := HV.out i hlt
      have nx := NX.out hlt
      generalize t.k i = x at hx k0 nx
      generalize t.v i = y at hx v0 nx
      obtain ⟨a, rfl⟩ : ∃ a : Nat, (a : Int) = x := ⟨x.toNat, by omega⟩
      obtain ⟨b, rfl⟩ : ∃ b : Nat, (b : Int) = y := ⟨y.toNat, by omega⟩
      rw [Int.toNat_natCast, Int.toNat_natCast] at nx
      have NX1 : Hid _ := nx
      clear nx
      have ex1 : IntKind.u64.wrap (a : Int) = a := by rw [IntKind.wrap_u64]; omega
      have ey1 : IntKind.u64.wrap (b : Int) = b := by rw [IntKind.wrap_u64]; omega
      have i1 : (i : Int) < 8 := by omega
      have i0 : (0 : Int) ≤ (i : Int) := by omega
      have i2 : 2 * (i : Int) < 17 := by omega
      have i3 : 2 * (i : Int) + 1 < 17 := by omega
      have i4 : (0 : Int) ≤ 2 * (i : Int) := by omega
      have i5 : (0 : Int) ≤ 2 * (i : Int) + 1 := by omega
      have ls : n + 1 < wr.heap.size := L.out.lt
      have L1 : Hid (Bo (wr.alloc (.cells #[.int .i64 a, .int .i64 b] 68)) (n + 1) (wl (twq t i))) := L.out.new _
      have G1 : Hid (Gd n w (wr.alloc (.cells #[.int .i64 a, .int .i64 b] 68))) := G.out.new _
      have S1 : Hid (Bo (wr.alloc (.cells #[.int .i64 a, .int .i64 b] 68)) wr.heap.size [.int .i64 a, .int .i64 b]) := Bo.born wr [.int .i64 a, .int .i64 b] _ rfl
      clear L G k0 v0
      go_wp2_with fail
      generalize wr.alloc (.cells #[.int .i64 a, .int .i64 b] 68) = V at L1 G1 S1 ⊢
      have c0 := L1.out.word (show 2 * i < 17 by omega)
      have c1 := L1.out.word (show 2 * i + 1 < 17 by omega)
      have f0 := L1.out.froz (2 * i)
      have f1 := L1.out.froz (2 * i + 1)
      have s0 := S1.out.at 0 rfl
      have s1 := S1.out.at 1 rfl
      have ne : wr.heap.size ≠ n + 1 := by omega
      generalize wr.heap.size = q at S1 s0 s1 ne ⊢
      go_region
      all_goals go_wp2
      all_goals go_roundg (8 - (i + 1))
      case measure => omega
      case rel => exact ⟨i + 1, by omega, by omega, by go_num, by rw [← NX1.out]; exact (L1.out.drew.setw a (by omega)).setw b (by omega), (G1.out.drew.aside (show n ≤ n + 1 by omega) _).aside (show n ≤ n + 1 by omega) _⟩
    · have ei : i = 8 := by omega
      subst ei
      rw [AL.out] at L
      clear hlt
      go_wp2
      go_ret
      exact ⟨⟨n + 1, rfl, by have := HSZ.out; omega, L.out⟩, G.out.2⟩
end Go.Proofs.YteogbpaaacmllaaGreatDoor.Tab
namespace Go.Proofs.YteogbpaaacmllaaGreatDoor.Tab
set_option maxRecDepth 20000
open Go.RowKit
theorem rowL_isL {B : Nat} {w : World} {v : Value} {k : Int} (h : IsL B w v (rowL k 8)) : ∃ b off c, v = .slice (some ⟨b, off, none⟩) 8 c ∧ ∀ i, i < 8 → w.cell? ⟨b, off + i, none⟩ = some (.int .i64 (rowAt k i : Nat)) := by
  rcases h with ⟨h, _⟩ | ⟨b, off, c, hv, _, _, _, hcell, _⟩
  · have := rowL_len k 8; rw [h] at this; simp at this
  · rw [rowL_len] at hv hcell
    exact ⟨b, off, c, hv, fun i hi => by rw [hcell i hi, rowL_at k hi]⟩
end Go.Proofs.YteogbpaaacmllaaGreatDoor.Tab
