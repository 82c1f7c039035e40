/- Texts laid together: Package record: Done, by its contract; The keepers' pick, and an answer's size: contracts and facts; The keepers put, pick, kindOf, by their contracts; words of a record are words; Package batch: one, by its contracts; Deeds of one ask behind a row of deeds: append; errors.As at a target of type Errno, by its contracts (after the guide's worked text for a pointer target); An error taken apart: api.Tell, plain.Place, bare, at nil and at an Errno, by their contracts; An error at a place (api.At), taken apart: errors.As at a target of type Errno, api.Tell, plain.Place, by their contracts; The library's handle, behind all that a call lays. -/
import Derived.Test.YteogbpaaacmllaaGreatDoorPk06
import Derived.Deep.DeepCutAuto
import Derived.Deep.RegionHeld3
import Derived.Test.YteogbpaaacmllaaGreatDoorPk00
import Derived.Test.YteogbpaaacmllaaGreatDoorRows
import Derived.Test.YteogbpaaacmllaaGreatDoorPk03
import Derived.Test.YteogbpaaacmllaaGreatDoorPk04
import Derived.WalkKit
import Derived.LaidEql
import Derived.Stop.Asserts
import Derived.RowKitTokens
namespace Go.Proofs.YteogbpaaacmllaaGreatDoor.Tab
set_option maxRecDepth 20000
open Go.RowKit
set_option linter.unusedVariables false

set_option maxHeartbeats 8000000 in
theorem recDone_yes {r : Nat → Nat} (U : ∀ j, j < 32 → r j < 18446744073709551616) {t : Nat} (ht : t < 4) {o k x : Int} (hr : isRec r) (hR : Rt o k x) (w : World) :
    Calls Tryz.prog 42 #[.agg (rl r).toArray, .int .i64 (t : Nat), .agg #[.int .i64 o, .int .i64 k, .int .i64 x]] w (fun e w' => e = .returned (.tuple #[.agg (rl (rdo r t o k x)).toArray, .nilIface]) ∧ Below w.heap.size w w') := by
  have IT : Hid (∀ w : World, _) := isThread_yes (t := (t : Nat)) (by omega) (by omega)
  have RI : Hid (∀ w : World, _) := recRight_is U (v := true) ⟨fun _ => hr, fun _ => rfl⟩
  obtain ⟨q, hq⟩ : ∃ q, q = min (r 0) 4294967296 := ⟨_, rfl⟩
  have KI : Hid (∀ w : World, _) := recKind_is r hq
  have eq : q = r 0 := by have h1 := hr.ob1.2; omega
  have OJ : Hid (∀ w : World, _) := recObject_is r
  rw [eq] at KI
  clear hq eq
  obtain ⟨⟨d, ci, yi⟩, hu⟩ : ∃ u, odo (r 0 : Nat) (ob r) o k x = u := ⟨_, rfl⟩
  have ft := odo_ft hr.1 hR
  have f := odo_facts hr.1 hR.w1 hR.w6 hR.k0 hR.k1 hR.v0 hR.v1
  have DD : Hid (∀ w, _) := fun w => obDo_is hr.1 hR w
  unfold DidD at DD
  rw [hu] at f ft DD
  have ec : ci = ((ci.toNat : Nat) : Int) := by have := f.code.1; dsimp only at this; omega
  have ey : yi = ((yi.toNat : Nat) : Int) := by have := f.told.1; dsimp only at this; omega
  dsimp only at ft DD
  generalize ci.toNat = cc at *
  generalize yi.toNat = y at *
  subst ec ey
  have hrow := rdo_row ht hu
  have AI : Hid (∀ w, _) := fun w => answer_yes ft w
  have FI : Hid (∀ w : World, _) := fun w => Flip_yes (r 26) t w (U 26 (by decide)) (by omega)
  have hc28 := hr.2.2.2.2.2.2
  rw [← hrow]
  clear hrow hu ft f
  have fa0 : (0 : Int) ≤ 18 + (t : Int) := by omega
  have fa1 : 18 + (t : Int) < 32 := by omega
  have fa2 : IntKind.i64.wrap (18 + (t : Int)) = 18 + t := by rw [IntKind.wrap_i64]; omega
  have fa3 : wrap64 (18 + (t : Int)) = 18 + t := by unfold wrap64; omega
  have fa4 : (18 + (t : Int)).toNat = 18 + t := by omega
  have fb0 : (0 : Int) ≤ 22 + (t : Int) := by omega
  have fb1 : 22 + (t : Int) < 32 := by omega
  have fb2 : IntKind.i64.wrap (22 + (t : Int)) = 22 + t := by rw [IntKind.wrap_i64]; omega
  have fb3 : wrap64 (22 + (t : Int)) = 22 + t := by unfold wrap64; omega
  have fb4 : (22 + (t : Int)).toNat = 22 + t := by omega
  obtain ⟨c, hc⟩ : ∃ c, r 28 = c := ⟨_, rfl⟩
  obtain ⟨a, ha⟩ : ∃ a, r 26 = a := ⟨_, rfl⟩
  rw [hc] at hc28 ⊢
  rw [ha] at FI ⊢
  obtain ⟨c1, hc1⟩ : ∃ c1, c + 1 = c1 := ⟨_, rfl⟩
  obtain ⟨g, hg⟩ : ∃ g, a ^^^ 2 ^ t = g := ⟨_, rfl⟩
  obtain ⟨aw, haw⟩ : ∃ aw, ansN cc y = aw := ⟨_, rfl⟩
  have w1 : IntKind.u64.wrap ((c : Int) + 1) = (c1 : Nat) := by rw [IntKind.wrap_u64]; omega
  have l1 : Hid (wo r d 28 = c) := (wo_hi (by decide)).trans hc
  have l2 : Hid (upw (upw (wo r d) 28 c1) (18 + t) aw 28 = c1) := (upw_ne (by omega)).trans upw_eq
  have l3 : Hid (upw (upw (upw (wo r d) 28 c1) (18 + t) aw) (22 + t) c1 26 = a) := by show _ = _; rw [upw_ne (by omega), upw_ne (by omega), upw_ne (by omega), wo_hi (by decide), ha]
  have b18 : 18 + t < 32 := by omega
  have b22 : 22 + t < 32 := by omega
  rw [hg] at FI
  rw [haw] at AI
  rw [hc1, hg, haw]
  clear hc ha hc1 hg haw hc28 hr hR U ht
  have hM : Hid _ := ((((Ms.nil w).born (rl r) 24 (b := w.heap.size) rfl).born [.int .i64 o, .int .i64 k, .int .i64 x] 44 (b := w.heap.size + 1) (by simp)).bornR rl_zero.symm 24 (b := w.heap.size + 2) (by simp))
  have c1 := hM.out.cell 1 0 rfl rfl
  have c2 := hM.out.cell 1 1 rfl rfl
  have c3 := hM.out.cell 1 2 rfl rfl
  go_enter Tryz.func42, Tryz.ntmps42
  go_wp2_with fail
  refine (IT.out _).mono ?_
  rintro e ux ⟨rfl, hw⟩
  rw [hw]; clear hw ux
  go_wp2_with (first
    | (refine lR rfl (hM.out.at 2 rfl) rfl (rwR r) ?_))
  clear c1 c2 c3
  generalize World.alloc _ _ = W at hM ⊢
  generalize hsz : w.heap.size = n at hM ⊢
  clear hsz
  refine (RI.out _).mono ?_
  rintro e W ⟨rfl, hb⟩
  replace hM := hid (hM.out.later hb)
  clear hb
  go_wp2_with fail
  go_cut [8, 9, 10] (fun s8 s9 s10 wx => ∃ bz8 bz9 : Nat, s8 = .pointer (some ⟨bz8, 0, none⟩) ∧ s9 = .pointer (some ⟨bz9, 0, none⟩) ∧ s10 = .nilIface ∧ Hid (Ms n w wx [(n, (rl r)), ((n + 2), (rl wz)), (bz8, (wl d)), (bz9, [.int .i64 (cc : Nat), .int .i64 (y : Nat)])] []))
  case first =>
    replace hM := hid (hM.out.drew)
    refine wp_region_held_drew (S := fun w' => Bo w' n (rl r) ∧ Bo w' (n + 1) [.int .i64 o, .int .i64 k, .int .i64 x]) (by kernel_rfl) ⟨hM.out.at 2 rfl, hM.out.at 1 rfl⟩ (fun hH => ?_)
    generalize World.drew _ = W at hM hH  ⊢
    refine tkR 0 rfl hH (fun _ h => h.1) (rwR r) ?_
    simp only [Act.put, p1, p2, p3]
    refine tkR 2 rfl hH (fun _ h => h.1) (rwR r) ?_
    simp only [Act.put, p1, p2, p3]
    refine tkR 4 rfl hH (fun _ h => h.2) (rwO o k x) ?_
    simp only [Act.put, p1, p2, p3]
    refine rdn [1, 10, 11] ?_
    refine rdc rfl (fun K hK => ?_) ?_
    · go_simp
      refine (KI.out _).mono ?_
      rintro e W ⟨rfl, hb⟩
      replace hM := hid (hM.out.later hb)
      clear hb
      go_wp2_with fail
      refine hK.out _ _ ⟨hM.out.at 2 rfl, hM.out.at 1 rfl⟩ (fun hH => ?_)
      clear hK K
      try simp only [Act.put, p1, p2, p3]
      refine rdn [3, 10, 11] ?_
      refine rdc rfl (fun K hK => ?_) ?_
      · go_simp
        refine (OJ.out _).mono ?_
        rintro e W ⟨rfl, hb⟩
        replace hM := hid (hM.out.later hb)
        clear hb
        go_wp2_with fail
        refine hK.out _ _ ⟨hM.out.at 2 rfl, hM.out.at 1 rfl⟩ (fun hH => ?_)
        clear hK K
        try simp only [Act.put, p1, p2, p3]
        refine rdn [5, 10, 11] ?_
        refine rdc rfl (fun K hK => ?_) ?_
        · go_simp
          refine (DD.out _).mono ?_
          rintro e W ⟨rfl, hb⟩
          replace hM := hid (hM.out.later hb)
          clear hb
          go_wp2_with fail
          refine hK.out _ _ ⟨hM.out.at 2 rfl, hM.out.at 1 rfl⟩ (fun hH => ?_)
          clear hK K
          try simp only [Act.put, p1, p2, p3]
          refine tk 6 rfl hH ?_
          simp only [Act.put, p1, p2, p3]
          refine tk 7 rfl hH ?_
          simp only [Act.put, p1, p2, p3]
          refine tk 8 rfl hH ?_
          simp only [Act.put, p1, p2, p3]
          refine tk 9 rfl hH ?_
          simp only [Act.put, p1, p2, p3]
          refine rdn [10, 11] ?_
          refine rdc rfl (fun K hK => ?_) ?_
          · go_simp
            replace hM := hid (hM.out.bornR wz_all.symm 119 rfl)
            refine hK.out _ _ ⟨hM.out.at 3 rfl, hM.out.at 2 rfl⟩ (fun hH => ?_)
            clear hK K
            generalize W.heap.size = bq4 at hM hH ⊢
            generalize World.alloc _ _ = W at hM hH  ⊢
            try simp only [Act.put, p1, p2, p3]
            refine rd1 11 rfl (fun K hK => ?_)
            go_simp
            replace hM := hid (hM.out.born [.int .i64 0, .int .i64 0] 58 rfl)
            refine hK.out _ _ ⟨hM.out.at 4 rfl, hM.out.at 3 rfl⟩ (fun hH => ?_)
            clear hK K
            generalize W.heap.size = bq5 at hM hH ⊢
            generalize World.alloc _ _ = W at hM hH  ⊢
            try simp only [Act.put, p1, p2, p3]
            refine rd1 12 rfl (fun K hK => ?_)
            refine stR rfl (hM.out.at 1 rfl) ((rwC wz).len (rwC d)) (rwC d) ?_
            simp only [Act.put]
            replace hM := hid (hM.out.put 1 rfl (wl d) ((rwC wz).len (rwC d)))
            refine hK.out _ _ ⟨hM.out.at 4 rfl, hM.out.at 3 rfl⟩ (fun hH => ?_)
            clear hK K
            generalize World.setCells _ _ _ _ = W at hM hH ⊢
            try simp only [Act.put, p1, p2, p3]
            refine rd1 13 rfl (fun K hK => ?_)
            refine stR rfl (hM.out.at 0 rfl) ((rwA 0 0).len (rwA _ _)) (rwA _ _) ?_
            simp only [Act.put]
            replace hM := hid (hM.out.put 0 rfl [.int .i64 (cc : Nat), .int .i64 (y : Nat)] ((rwA 0 0).len (rwA _ _)))
            refine hK.out _ _ ⟨hM.out.at 4 rfl, hM.out.at 3 rfl⟩ (fun hH => ?_)
            clear hK K
            generalize World.setCells _ _ _ _ = W at hM hH ⊢
            try simp only [Act.put, p1, p2, p3]
            refine tk 14 rfl hH ?_
            simp only [Act.put, p1, p2, p3]
            refine wpAnyH_done (by kernel_rfl) ?_ _
            go_wp2_with fail
            go_meet
            case rel => exact ⟨bq4, bq5, rfl, rfl, rfl, (hM.out.pick [4, 2, 1, 0]).pickL []⟩
          refine rdc rfl (fun K hK => ?_) AllReadyH.nil
          go_simp
          replace hM := hid (hM.out.born [.int .i64 0, .int .i64 0] 58 rfl)
          refine hK.out _ _ ⟨hM.out.at 3 rfl, hM.out.at 2 rfl⟩ (fun hH => ?_)
          clear hK K
          generalize W.heap.size = bq4 at hM hH ⊢
          generalize World.alloc _ _ = W at hM hH  ⊢
          try simp only [Act.put, p1, p2, p3]
          refine rd1 10 rfl (fun K hK => ?_)
          go_simp
          replace hM := hid (hM.out.bornR wz_all.symm 119 rfl)
          refine hK.out _ _ ⟨hM.out.at 4 rfl, hM.out.at 3 rfl⟩ (fun hH => ?_)
          clear hK K
          generalize W.heap.size = bq5 at hM hH ⊢
          generalize World.alloc _ _ = W at hM hH  ⊢
          try simp only [Act.put, p1, p2, p3]
          refine rd1 12 rfl (fun K hK => ?_)
          refine stR rfl (hM.out.at 0 rfl) ((rwC wz).len (rwC d)) (rwC d) ?_
          simp only [Act.put]
          replace hM := hid (hM.out.put 0 rfl (wl d) ((rwC wz).len (rwC d)))
          refine hK.out _ _ ⟨hM.out.at 4 rfl, hM.out.at 3 rfl⟩ (fun hH => ?_)
          clear hK K
          generalize World.setCells _ _ _ _ = W at hM hH ⊢
          try simp only [Act.put, p1, p2, p3]
          refine rd1 13 rfl (fun K hK => ?_)
          refine stR rfl (hM.out.at 1 rfl) ((rwA 0 0).len (rwA _ _)) (rwA _ _) ?_
          simp only [Act.put]
          replace hM := hid (hM.out.put 1 rfl [.int .i64 (cc : Nat), .int .i64 (y : Nat)] ((rwA 0 0).len (rwA _ _)))
          refine hK.out _ _ ⟨hM.out.at 4 rfl, hM.out.at 3 rfl⟩ (fun hH => ?_)
          clear hK K
          generalize World.setCells _ _ _ _ = W at hM hH ⊢
          try simp only [Act.put, p1, p2, p3]
          refine tk 14 rfl hH ?_
          simp only [Act.put, p1, p2, p3]
          refine wpAnyH_done (by kernel_rfl) ?_ _
          go_wp2_with fail
          go_meet
          case rel => exact ⟨bq5, bq4, rfl, rfl, rfl, (hM.out.pick [4, 2, 0, 1]).pickL []⟩
        refine rdc rfl (fun K hK => ?_) ?_
        · go_simp
          replace hM := hid (hM.out.bornR wz_all.symm 119 rfl)
          refine hK.out _ _ ⟨hM.out.at 3 rfl, hM.out.at 2 rfl⟩ (fun hH => ?_)
          clear hK K
          generalize W.heap.size = bq4 at hM hH ⊢
          generalize World.alloc _ _ = W at hM hH  ⊢
          try simp only [Act.put, p1, p2, p3]
          refine rdn [5, 11] ?_
          refine rdc rfl (fun K hK => ?_) ?_
          · go_simp
            refine (DD.out _).mono ?_
            rintro e W ⟨rfl, hb⟩
            replace hM := hid (hM.out.later hb)
            clear hb
            go_wp2_with fail
            refine hK.out _ _ ⟨hM.out.at 3 rfl, hM.out.at 2 rfl⟩ (fun hH => ?_)
            clear hK K
            try simp only [Act.put, p1, p2, p3]
            refine tk 6 rfl hH ?_
            simp only [Act.put, p1, p2, p3]
            refine tk 7 rfl hH ?_
            simp only [Act.put, p1, p2, p3]
            refine tk 8 rfl hH ?_
            simp only [Act.put, p1, p2, p3]
            refine tk 9 rfl hH ?_
            simp only [Act.put, p1, p2, p3]
            refine rd1 11 rfl (fun K hK => ?_)
            go_simp
            replace hM := hid (hM.out.born [.int .i64 0, .int .i64 0] 58 rfl)
            refine hK.out _ _ ⟨hM.out.at 4 rfl, hM.out.at 3 rfl⟩ (fun hH => ?_)
            clear hK K
            generalize W.heap.size = bq5 at hM hH ⊢
            generalize World.alloc _ _ = W at hM hH  ⊢
            try simp only [Act.put, p1, p2, p3]
            refine rd1 12 rfl (fun K hK => ?_)
            refine stR rfl (hM.out.at 1 rfl) ((rwC wz).len (rwC d)) (rwC d) ?_
            simp only [Act.put]
            replace hM := hid (hM.out.put 1 rfl (wl d) ((rwC wz).len (rwC d)))
            refine hK.out _ _ ⟨hM.out.at 4 rfl, hM.out.at 3 rfl⟩ (fun hH => ?_)
            clear hK K
            generalize World.setCells _ _ _ _ = W at hM hH ⊢
            try simp only [Act.put, p1, p2, p3]
            refine rd1 13 rfl (fun K hK => ?_)
            refine stR rfl (hM.out.at 0 rfl) ((rwA 0 0).len (rwA _ _)) (rwA _ _) ?_
            simp only [Act.put]
            replace hM := hid (hM.out.put 0 rfl [.int .i64 (cc : Nat), .int .i64 (y : Nat)] ((rwA 0 0).len (rwA _ _)))
            refine hK.out _ _ ⟨hM.out.at 4 rfl, hM.out.at 3 rfl⟩ (fun hH => ?_)
            clear hK K
            generalize World.setCells _ _ _ _ = W at hM hH ⊢
            try simp only [Act.put, p1, p2, p3]
            refine tk 14 rfl hH ?_
            simp only [Act.put, p1, p2, p3]
            refine wpAnyH_done (by kernel_rfl) ?_ _
            go_wp2_with fail
            go_meet
            case rel => exact ⟨bq4, bq5, rfl, rfl, rfl, (hM.out.pick [4, 2, 1, 0]).pickL []⟩
          refine rdc rfl (fun K hK => ?_) AllReadyH.nil
          go_simp
          replace hM := hid (hM.out.born [.int .i64 0, .int .i64 0] 58 rfl)
          refine hK.out _ _ ⟨hM.out.at 4 rfl, hM.out.at 3 rfl⟩ (fun hH => ?_)
          clear hK K
          generalize W.heap.size = bq5 at hM hH ⊢
          generalize World.alloc _ _ = W at hM hH  ⊢
          try simp only [Act.put, p1, p2, p3]
          refine rd1 5 rfl (fun K hK => ?_)
          go_simp
          refine (DD.out _).mono ?_
          rintro e W ⟨rfl, hb⟩
          replace hM := hid (hM.out.later hb)
          clear hb
          go_wp2_with fail
          refine hK.out _ _ ⟨hM.out.at 4 rfl, hM.out.at 3 rfl⟩ (fun hH => ?_)
          clear hK K
          try simp only [Act.put, p1, p2, p3]
          refine tk 6 rfl hH ?_
          simp only [Act.put, p1, p2, p3]
          refine tk 7 rfl hH ?_
          simp only [Act.put, p1, p2, p3]
          refine tk 8 rfl hH ?_
          simp only [Act.put, p1, p2, p3]
          refine tk 9 rfl hH ?_
          simp only [Act.put, p1, p2, p3]
          refine rd1 12 rfl (fun K hK => ?_)
          refine stR rfl (hM.out.at 1 rfl) ((rwC wz).len (rwC d)) (rwC d) ?_
          simp only [Act.put]
          replace hM := hid (hM.out.put 1 rfl (wl d) ((rwC wz).len (rwC d)))
          refine hK.out _ _ ⟨hM.out.at 4 rfl, hM.out.at 3 rfl⟩ (fun hH => ?_)
          clear hK K
          generalize World.setCells _ _ _ _ = W at hM hH ⊢
          try simp only [Act.put, p1, p2, p3]
          refine rd1 13 rfl (fun K hK => ?_)
          refine stR rfl (hM.out.at 0 rfl) ((rwA 0 0).len (rwA _ _)) (rwA _ _) ?_
          simp only [Act.put]
          replace hM := hid (hM.out.put 0 rfl [.int .i64 (cc : Nat), .int .i64 (y : Nat)] ((rwA 0 0).len (rwA _ _)))
          refine hK.out _ _ ⟨hM.out.at 4 rfl, hM.out.at 3 rfl⟩ (fun hH => ?_)
          clear hK K
          generalize World.setCells _ _ _ _ = W at hM hH ⊢
          try simp only [Act.put, p1, p2, p3]
          refine tk 14 rfl hH ?_
          simp only [Act.put, p1, p2, p3]
          refine wpAnyH_done (by kernel_rfl) ?_ _
          go_wp2_with fail
          go_meet
          case rel => exact ⟨bq4, bq5, rfl, rfl, rfl, (hM.out.pick [4, 2, 1, 0]).pickL []⟩
        refine rdc rfl (fun K hK => ?_) AllReadyH.nil
        go_simp
        replace hM := hid (hM.out.born [.int .i64 0, .int .i64 0] 58 rfl)
        refine hK.out _ _ ⟨hM.out.at 3 rfl, hM.out.at 2 rfl⟩ (fun hH => ?_)
        clear hK K
        generalize W.heap.size = bq4 at hM hH ⊢
        generalize World.alloc _ _ = W at hM hH  ⊢
        try simp only [Act.put, p1, p2, p3]
        refine rdn [5, 10] ?_
        refine rdc rfl (fun K hK => ?_) ?_
        · go_simp
          refine (DD.out _).mono ?_
          rintro e W ⟨rfl, hb⟩
          replace hM := hid (hM.out.later hb)
          clear hb
          go_wp2_with fail
          refine hK.out _ _ ⟨hM.out.at 3 rfl, hM.out.at 2 rfl⟩ (fun hH => ?_)
          clear hK K
          try simp only [Act.put, p1, p2, p3]
          refine tk 6 rfl hH ?_
          simp only [Act.put, p1, p2, p3]
          refine tk 7 rfl hH ?_
          simp only [Act.put, p1, p2, p3]
          refine tk 8 rfl hH ?_
          simp only [Act.put, p1, p2, p3]
          refine tk 9 rfl hH ?_
          simp only [Act.put, p1, p2, p3]
          refine rd1 10 rfl (fun K hK => ?_)
          go_simp
          replace hM := hid (hM.out.bornR wz_all.symm 119 rfl)
          refine hK.out _ _ ⟨hM.out.at 4 rfl, hM.out.at 3 rfl⟩ (fun hH => ?_)
          clear hK K
          generalize W.heap.size = bq5 at hM hH ⊢
          generalize World.alloc _ _ = W at hM hH  ⊢
          try simp only [Act.put, p1, p2, p3]
          refine rd1 12 rfl (fun K hK => ?_)
          refine stR rfl (hM.out.at 0 rfl) ((rwC wz).len (rwC d)) (rwC d) ?_
          simp only [Act.put]
          replace hM := hid (hM.out.put 0 rfl (wl d) ((rwC wz).len (rwC d)))
          refine hK.out _ _ ⟨hM.out.at 4 rfl, hM.out.at 3 rfl⟩ (fun hH => ?_)
          clear hK K
          generalize World.setCells _ _ _ _ = W at hM hH ⊢
          try simp only [Act.put, p1, p2, p3]
          refine rd1 13 rfl (fun K hK => ?_)
          refine stR rfl (hM.out.at 1 rfl) ((rwA 0 0).len (rwA _ _)) (rwA _ _) ?_
          simp only [Act.put]
          replace hM := hid (hM.out.put 1 rfl [.int .i64 (cc : Nat), .int .i64 (y : Nat)] ((rwA 0 0).len (rwA _ _)))
          refine hK.out _ _ ⟨hM.out.at 4 rfl, hM.out.at 3 rfl⟩ (fun hH => ?_)
          clear hK K
          generalize World.setCells _ _ _ _ = W at hM hH ⊢
          try simp only [Act.put, p1, p2, p3]
          refine tk 14 rfl hH ?_
          simp only [Act.put, p1, p2, p3]
          refine wpAnyH_done (by kernel_rfl) ?_ _
          go_wp2_with fail
          go_meet
          case rel => exact ⟨bq5, bq4, rfl, rfl, rfl, (hM.out.pick [4, 2, 0, 1]).pickL []⟩
        refine rdc rfl (fun K hK => ?_) AllReadyH.nil
        go_simp
        replace hM := hid (hM.out.bornR wz_all.symm 119 rfl)
        refine hK.out _ _ ⟨hM.out.at 4 rfl, hM.out.at 3 rfl⟩ (fun hH => ?_)
        clear hK K
        generalize W.heap.size = bq5 at hM hH ⊢
        generalize World.alloc _ _ = W at hM hH  ⊢
        try simp only [Act.put, p1, p2, p3]
        refine rd1 5 rfl (fun K hK => ?_)
        go_simp
        refine (DD.out _).mono ?_
        rintro e W ⟨rfl, hb⟩
        replace hM := hid (hM.out.later hb)
        clear hb
        go_wp2_with fail
        refine hK.out _ _ ⟨hM.out.at 4 rfl, hM.out.at 3 rfl⟩ (fun hH => ?_)
        clear hK K
        try simp only [Act.put, p1, p2, p3]
        refine tk 6 rfl hH ?_
        simp only [Act.put, p1, p2, p3]
        refine tk 7 rfl hH ?_
        simp only [Act.put, p1, p2, p3]
        refine tk 8 rfl hH ?_
        simp only [Act.put, p1, p2, p3]
        refine tk 9 rfl hH ?_
        simp only [Act.put, p1, p2, p3]
        refine rd1 12 rfl (fun K hK => ?_)
        refine stR rfl (hM.out.at 0 rfl) ((rwC wz).len (rwC d)) (rwC d) ?_
        simp only [Act.put]
        replace hM := hid (hM.out.put 0 rfl (wl d) ((rwC wz).len (rwC d)))
        refine hK.out _ _ ⟨hM.out.at 4 rfl, hM.out.at 3 rfl⟩ (fun hH => ?_)
        clear hK K
        generalize World.setCells _ _ _ _ = W at hM hH ⊢
        try simp only [Act.put, p1, p2, p3]
        refine rd1 13 rfl (fun K hK => ?_)
        refine stR rfl (hM.out.at 1 rfl) ((rwA 0 0).len (rwA _ _)) (rwA _ _) ?_
        simp only [Act.put]
        replace hM := hid (hM.out.put 1 rfl [.int .i64 (cc : Nat), .int .i64 (y : Nat)] ((rwA 0 0).len (rwA _ _)))
        refine hK.out _ _ ⟨hM.out.at 4 rfl, hM.out.at 3 rfl⟩ (fun hH => ?_)
        clear hK K
        generalize World.setCells _ _ _ _ = W at hM hH ⊢
        try simp only [Act.put, p1, p2, p3]
        refine tk 14 rfl hH ?_
        simp only [Act.put, p1, p2, p3]
        refine wpAnyH_done (by kernel_rfl) ?_ _
        go_wp2_with fail
        go_meet
        case rel => exact ⟨bq5, bq4, rfl, rfl, rfl, (hM.out.pick [4, 2, 0, 1]).pickL []⟩
      refine rdc rfl (fun K hK => ?_) ?_
      · go_simp
        replace hM := hid (hM.out.bornR wz_all.symm 119 rfl)
        refine hK.out _ _ ⟨hM.out.at 3 rfl, hM.out.at 2 rfl⟩ (fun hH => ?_)
        clear hK K
        generalize W.heap.size = bq4 at hM hH ⊢
        generalize World.alloc _ _ = W at hM hH  ⊢
        try simp only [Act.put, p1, p2, p3]
        refine rdn [3, 11] ?_
        refine rdc rfl (fun K hK => ?_) ?_
        · go_simp
          refine (OJ.out _).mono ?_
          rintro e W ⟨rfl, hb⟩
          replace hM := hid (hM.out.later hb)
          clear hb
          go_wp2_with fail
          refine hK.out _ _ ⟨hM.out.at 3 rfl, hM.out.at 2 rfl⟩ (fun hH => ?_)
          clear hK K
          try simp only [Act.put, p1, p2, p3]
          refine rdn [5, 11] ?_
          refine rdc rfl (fun K hK => ?_) ?_
          · go_simp
            refine (DD.out _).mono ?_
            rintro e W ⟨rfl, hb⟩
            replace hM := hid (hM.out.later hb)
            clear hb
            go_wp2_with fail
            refine hK.out _ _ ⟨hM.out.at 3 rfl, hM.out.at 2 rfl⟩ (fun hH => ?_)
            clear hK K
            try simp only [Act.put, p1, p2, p3]
            refine tk 6 rfl hH ?_
            simp only [Act.put, p1, p2, p3]
            refine tk 7 rfl hH ?_
            simp only [Act.put, p1, p2, p3]
            refine tk 8 rfl hH ?_
            simp only [Act.put, p1, p2, p3]
            refine tk 9 rfl hH ?_
            simp only [Act.put, p1, p2, p3]
            refine rd1 11 rfl (fun K hK => ?_)
            go_simp
            replace hM := hid (hM.out.born [.int .i64 0, .int .i64 0] 58 rfl)
            refine hK.out _ _ ⟨hM.out.at 4 rfl, hM.out.at 3 rfl⟩ (fun hH => ?_)
            clear hK K
            generalize W.heap.size = bq5 at hM hH ⊢
            generalize World.alloc _ _ = W at hM hH  ⊢
            try simp only [Act.put, p1, p2, p3]
            refine rd1 12 rfl (fun K hK => ?_)
            refine stR rfl (hM.out.at 1 rfl) ((rwC wz).len (rwC d)) (rwC d) ?_
            simp only [Act.put]
            replace hM := hid (hM.out.put 1 rfl (wl d) ((rwC wz).len (rwC d)))
            refine hK.out _ _ ⟨hM.out.at 4 rfl, hM.out.at 3 rfl⟩ (fun hH => ?_)
            clear hK K
            generalize World.setCells _ _ _ _ = W at hM hH ⊢
            try simp only [Act.put, p1, p2, p3]
            refine rd1 13 rfl (fun K hK => ?_)
            refine stR rfl (hM.out.at 0 rfl) ((rwA 0 0).len (rwA _ _)) (rwA _ _) ?_
            simp only [Act.put]
            replace hM := hid (hM.out.put 0 rfl [.int .i64 (cc : Nat), .int .i64 (y : Nat)] ((rwA 0 0).len (rwA _ _)))
            refine hK.out _ _ ⟨hM.out.at 4 rfl, hM.out.at 3 rfl⟩ (fun hH => ?_)
            clear hK K
            generalize World.setCells _ _ _ _ = W at hM hH ⊢
            try simp only [Act.put, p1, p2, p3]
            refine tk 14 rfl hH ?_
            simp only [Act.put, p1, p2, p3]
            refine wpAnyH_done (by kernel_rfl) ?_ _
            go_wp2_with fail
            go_meet
            case rel => exact ⟨bq4, bq5, rfl, rfl, rfl, (hM.out.pick [4, 2, 1, 0]).pickL []⟩
          refine rdc rfl (fun K hK => ?_) AllReadyH.nil
          go_simp
          replace hM := hid (hM.out.born [.int .i64 0, .int .i64 0] 58 rfl)
          refine hK.out _ _ ⟨hM.out.at 4 rfl, hM.out.at 3 rfl⟩ (fun hH => ?_)
          clear hK K
          generalize W.heap.size = bq5 at hM hH ⊢
          generalize World.alloc _ _ = W at hM hH  ⊢
          try simp only [Act.put, p1, p2, p3]
          refine rd1 5 rfl (fun K hK => ?_)
          go_simp
          refine (DD.out _).mono ?_
          rintro e W ⟨rfl, hb⟩
          replace hM := hid (hM.out.later hb)
          clear hb
          go_wp2_with fail
          refine hK.out _ _ ⟨hM.out.at 4 rfl, hM.out.at 3 rfl⟩ (fun hH => ?_)
          clear hK K
          try simp only [Act.put, p1, p2, p3]
          refine tk 6 rfl hH ?_
          simp only [Act.put, p1, p2, p3]
          refine tk 7 rfl hH ?_
          simp only [Act.put, p1, p2, p3]
          refine tk 8 rfl hH ?_
          simp only [Act.put, p1, p2, p3]
          refine tk 9 rfl hH ?_
          simp only [Act.put, p1, p2, p3]
          refine rd1 12 rfl (fun K hK => ?_)
          refine stR rfl (hM.out.at 1 rfl) ((rwC wz).len (rwC d)) (rwC d) ?_
          simp only [Act.put]
          replace hM := hid (hM.out.put 1 rfl (wl d) ((rwC wz).len (rwC d)))
          refine hK.out _ _ ⟨hM.out.at 4 rfl, hM.out.at 3 rfl⟩ (fun hH => ?_)
          clear hK K
          generalize World.setCells _ _ _ _ = W at hM hH ⊢
          try simp only [Act.put, p1, p2, p3]
          refine rd1 13 rfl (fun K hK => ?_)
          refine stR rfl (hM.out.at 0 rfl) ((rwA 0 0).len (rwA _ _)) (rwA _ _) ?_
          simp only [Act.put]
          replace hM := hid (hM.out.put 0 rfl [.int .i64 (cc : Nat), .int .i64 (y : Nat)] ((rwA 0 0).len (rwA _ _)))
          refine hK.out _ _ ⟨hM.out.at 4 rfl, hM.out.at 3 rfl⟩ (fun hH => ?_)
          clear hK K
          generalize World.setCells _ _ _ _ = W at hM hH ⊢
          try simp only [Act.put, p1, p2, p3]
          refine tk 14 rfl hH ?_
          simp only [Act.put, p1, p2, p3]
          refine wpAnyH_done (by kernel_rfl) ?_ _
          go_wp2_with fail
          go_meet
          case rel => exact ⟨bq4, bq5, rfl, rfl, rfl, (hM.out.pick [4, 2, 1, 0]).pickL []⟩
        refine rdc rfl (fun K hK => ?_) AllReadyH.nil
        go_simp
        replace hM := hid (hM.out.born [.int .i64 0, .int .i64 0] 58 rfl)
        refine hK.out _ _ ⟨hM.out.at 4 rfl, hM.out.at 3 rfl⟩ (fun hH => ?_)
        clear hK K
        generalize W.heap.size = bq5 at hM hH ⊢
        generalize World.alloc _ _ = W at hM hH  ⊢
        try simp only [Act.put, p1, p2, p3]
        refine rd1 3 rfl (fun K hK => ?_)
        go_simp
        refine (OJ.out _).mono ?_
        rintro e W ⟨rfl, hb⟩
        replace hM := hid (hM.out.later hb)
        clear hb
        go_wp2_with fail
        refine hK.out _ _ ⟨hM.out.at 4 rfl, hM.out.at 3 rfl⟩ (fun hH => ?_)
        clear hK K
        try simp only [Act.put, p1, p2, p3]
        refine rd1 5 rfl (fun K hK => ?_)
        go_simp
        refine (DD.out _).mono ?_
        rintro e W ⟨rfl, hb⟩
        replace hM := hid (hM.out.later hb)
        clear hb
        go_wp2_with fail
        refine hK.out _ _ ⟨hM.out.at 4 rfl, hM.out.at 3 rfl⟩ (fun hH => ?_)
        clear hK K
        try simp only [Act.put, p1, p2, p3]
        refine tk 6 rfl hH ?_
        simp only [Act.put, p1, p2, p3]
        refine tk 7 rfl hH ?_
        simp only [Act.put, p1, p2, p3]
        refine tk 8 rfl hH ?_
        simp only [Act.put, p1, p2, p3]
        refine tk 9 rfl hH ?_
        simp only [Act.put, p1, p2, p3]
        refine rd1 12 rfl (fun K hK => ?_)
        refine stR rfl (hM.out.at 1 rfl) ((rwC wz).len (rwC d)) (rwC d) ?_
        simp only [Act.put]
        replace hM := hid (hM.out.put 1 rfl (wl d) ((rwC wz).len (rwC d)))
        refine hK.out _ _ ⟨hM.out.at 4 rfl, hM.out.at 3 rfl⟩ (fun hH => ?_)
        clear hK K
        generalize World.setCells _ _ _ _ = W at hM hH ⊢
        try simp only [Act.put, p1, p2, p3]
        refine rd1 13 rfl (fun K hK => ?_)
        refine stR rfl (hM.out.at 0 rfl) ((rwA 0 0).len (rwA _ _)) (rwA _ _) ?_
        simp only [Act.put]
        replace hM := hid (hM.out.put 0 rfl [.int .i64 (cc : Nat), .int .i64 (y : Nat)] ((rwA 0 0).len (rwA _ _)))
        refine hK.out _ _ ⟨hM.out.at 4 rfl, hM.out.at 3 rfl⟩ (fun hH => ?_)
        clear hK K
        generalize World.setCells _ _ _ _ = W at hM hH ⊢
        try simp only [Act.put, p1, p2, p3]
        refine tk 14 rfl hH ?_
        simp only [Act.put, p1, p2, p3]
        refine wpAnyH_done (by kernel_rfl) ?_ _
        go_wp2_with fail
        go_meet
        case rel => exact ⟨bq4, bq5, rfl, rfl, rfl, (hM.out.pick [4, 2, 1, 0]).pickL []⟩
      refine rdc rfl (fun K hK => ?_) AllReadyH.nil
      go_simp
      replace hM := hid (hM.out.born [.int .i64 0, .int .i64 0] 58 rfl)
      refine hK.out _ _ ⟨hM.out.at 3 rfl, hM.out.at 2 rfl⟩ (fun hH => ?_)
      clear hK K
      generalize W.heap.size = bq4 at hM hH ⊢
      generalize World.alloc _ _ = W at hM hH  ⊢
      try simp only [Act.put, p1, p2, p3]
      refine rdn [3, 10] ?_
      refine rdc rfl (fun K hK => ?_) ?_
      · go_simp
        refine (OJ.out _).mono ?_
        rintro e W ⟨rfl, hb⟩
        replace hM := hid (hM.out.later hb)
        clear hb
        go_wp2_with fail
        refine hK.out _ _ ⟨hM.out.at 3 rfl, hM.out.at 2 rfl⟩ (fun hH => ?_)
        clear hK K
        try simp only [Act.put, p1, p2, p3]
        refine rdn [5, 10] ?_
        refine rdc rfl (fun K hK => ?_) ?_
        · go_simp
          refine (DD.out _).mono ?_
          rintro e W ⟨rfl, hb⟩
          replace hM := hid (hM.out.later hb)
          clear hb
          go_wp2_with fail
          refine hK.out _ _ ⟨hM.out.at 3 rfl, hM.out.at 2 rfl⟩ (fun hH => ?_)
          clear hK K
          try simp only [Act.put, p1, p2, p3]
          refine tk 6 rfl hH ?_
          simp only [Act.put, p1, p2, p3]
          refine tk 7 rfl hH ?_
          simp only [Act.put, p1, p2, p3]
          refine tk 8 rfl hH ?_
          simp only [Act.put, p1, p2, p3]
          refine tk 9 rfl hH ?_
          simp only [Act.put, p1, p2, p3]
          refine rd1 10 rfl (fun K hK => ?_)
          go_simp
          replace hM := hid (hM.out.bornR wz_all.symm 119 rfl)
          refine hK.out _ _ ⟨hM.out.at 4 rfl, hM.out.at 3 rfl⟩ (fun hH => ?_)
          clear hK K
          generalize W.heap.size = bq5 at hM hH ⊢
          generalize World.alloc _ _ = W at hM hH  ⊢
          try simp only [Act.put, p1, p2, p3]
          refine rd1 12 rfl (fun K hK => ?_)
          refine stR rfl (hM.out.at 0 rfl) ((rwC wz).len (rwC d)) (rwC d) ?_
          simp only [Act.put]
          replace hM := hid (hM.out.put 0 rfl (wl d) ((rwC wz).len (rwC d)))
          refine hK.out _ _ ⟨hM.out.at 4 rfl, hM.out.at 3 rfl⟩ (fun hH => ?_)
          clear hK K
          generalize World.setCells _ _ _ _ = W at hM hH ⊢
          try simp only [Act.put, p1, p2, p3]
          refine rd1 13 rfl (fun K hK => ?_)
          refine stR rfl (hM.out.at 1 rfl) ((rwA 0 0).len (rwA _ _)) (rwA _ _) ?_
          simp only [Act.put]
          replace hM := hid (hM.out.put 1 rfl [.int .i64 (cc : Nat), .int .i64 (y : Nat)] ((rwA 0 0).len (rwA _ _)))
          refine hK.out _ _ ⟨hM.out.at 4 rfl, hM.out.at 3 rfl⟩ (fun hH => ?_)
          clear hK K
          generalize World.setCells _ _ _ _ = W at hM hH ⊢
          try simp only [Act.put, p1, p2, p3]
          refine tk 14 rfl hH ?_
          simp only [Act.put, p1, p2, p3]
          refine wpAnyH_done (by kernel_rfl) ?_ _
          go_wp2_with fail
          go_meet
          case rel => exact ⟨bq5, bq4, rfl, rfl, rfl, (hM.out.pick [4, 2, 0, 1]).pickL []⟩
        refine rdc rfl (fun K hK => ?_) AllReadyH.nil
        go_simp
        replace hM := hid (hM.out.bornR wz_all.symm 119 rfl)
        refine hK.out _ _ ⟨hM.out.at 4 rfl, hM.out.at 3 rfl⟩ (fun hH => ?_)
        clear hK K
        generalize W.heap.size = bq5 at hM hH ⊢
        generalize World.alloc _ _ = W at hM hH  ⊢
        try simp only [Act.put, p1, p2, p3]
        refine rd1 5 rfl (fun K hK => ?_)
        go_simp
        refine (DD.out _).mono ?_
        rintro e W ⟨rfl, hb⟩
        replace hM := hid (hM.out.later hb)
        clear hb
        go_wp2_with fail
        refine hK.out _ _ ⟨hM.out.at 4 rfl, hM.out.at 3 rfl⟩ (fun hH => ?_)
        clear hK K
        try simp only [Act.put, p1, p2, p3]
        refine tk 6 rfl hH ?_
        simp only [Act.put, p1, p2, p3]
        refine tk 7 rfl hH ?_
        simp only [Act.put, p1, p2, p3]
        refine tk 8 rfl hH ?_
        simp only [Act.put, p1, p2, p3]
        refine tk 9 rfl hH ?_
        simp only [Act.put, p1, p2, p3]
        refine rd1 12 rfl (fun K hK => ?_)
        refine stR rfl (hM.out.at 0 rfl) ((rwC wz).len (rwC d)) (rwC d) ?_
        simp only [Act.put]
        replace hM := hid (hM.out.put 0 rfl (wl d) ((rwC wz).len (rwC d)))
        refine hK.out _ _ ⟨hM.out.at 4 rfl, hM.out.at 3 rfl⟩ (fun hH => ?_)
        clear hK K
        generalize World.setCells _ _ _ _ = W at hM hH ⊢
        try simp only [Act.put, p1, p2, p3]
        refine rd1 13 rfl (fun K hK => ?_)
        refine stR rfl (hM.out.at 1 rfl) ((rwA 0 0).len (rwA _ _)) (rwA _ _) ?_
        simp only [Act.put]
        replace hM := hid (hM.out.put 1 rfl [.int .i64 (cc : Nat), .int .i64 (y : Nat)] ((rwA 0 0).len (rwA _ _)))
        refine hK.out _ _ ⟨hM.out.at 4 rfl, hM.out.at 3 rfl⟩ (fun hH => ?_)
        clear hK K
        generalize World.setCells _ _ _ _ = W at hM hH ⊢
        try simp only [Act.put, p1, p2, p3]
        refine tk 14 rfl hH ?_
        simp only [Act.put, p1, p2, p3]
        refine wpAnyH_done (by kernel_rfl) ?_ _
        go_wp2_with fail
        go_meet
        case rel => exact ⟨bq5, bq4, rfl, rfl, rfl, (hM.out.pick [4, 2, 0, 1]).pickL []⟩
      refine rdc rfl (fun K hK => ?_) AllReadyH.nil
      go_simp
      replace hM := hid (hM.out.bornR wz_all.symm 119 rfl)
      refine hK.out _ _ ⟨hM.out.at 4 rfl, hM.out.at 3 rfl⟩ (fun hH => ?_)
      clear hK K
      generalize W.heap.size = bq5 at hM hH ⊢
      generalize World.alloc _ _ = W at hM hH  ⊢
      try simp only [Act.put, p1, p2, p3]
      refine rd1 3 rfl (fun K hK => ?_)
      go_simp
      refine (OJ.out _).mono ?_
      rintro e W ⟨rfl, hb⟩
      replace hM := hid (hM.out.later hb)
      clear hb
      go_wp2_with fail
      refine hK.out _ _ ⟨hM.out.at 4 rfl, hM.out.at 3 rfl⟩ (fun hH => ?_)
      clear hK K
      try simp only [Act.put, p1, p2, p3]
      refine rd1 5 rfl (fun K hK => ?_)
      go_simp
      refine (DD.out _).mono ?_
      rintro e W ⟨rfl, hb⟩
      replace hM := hid (hM.out.later hb)
      clear hb
      go_wp2_with fail
      refine hK.out _ _ ⟨hM.out.at 4 rfl, hM.out.at 3 rfl⟩ (fun hH => ?_)
      clear hK K
      try simp only [Act.put, p1, p2, p3]
      refine tk 6 rfl hH ?_
      simp only [Act.put, p1, p2, p3]
      refine tk 7 rfl hH ?_
      simp only [Act.put, p1, p2, p3]
      refine tk 8 rfl hH ?_
      simp only [Act.put, p1, p2, p3]
      refine tk 9 rfl hH ?_
      simp only [Act.put, p1, p2, p3]
      refine rd1 12 rfl (fun K hK => ?_)
      refine stR rfl (hM.out.at 0 rfl) ((rwC wz).len (rwC d)) (rwC d) ?_
      simp only [Act.put]
      replace hM := hid (hM.out.put 0 rfl (wl d) ((rwC wz).len (rwC d)))
      refine hK.out _ _ ⟨hM.out.at 4 rfl, hM.out.at 3 rfl⟩ (fun hH => ?_)
      clear hK K
      generalize World.setCells _ _ _ _ = W at hM hH ⊢
      try simp only [Act.put, p1, p2, p3]
      refine rd1 13 rfl (fun K hK => ?_)
      refine stR rfl (hM.out.at 1 rfl) ((rwA 0 0).len (rwA _ _)) (rwA _ _) ?_
      simp only [Act.put]
      replace hM := hid (hM.out.put 1 rfl [.int .i64 (cc : Nat), .int .i64 (y : Nat)] ((rwA 0 0).len (rwA _ _)))
      refine hK.out _ _ ⟨hM.out.at 4 rfl, hM.out.at 3 rfl⟩ (fun hH => ?_)
      clear hK K
      generalize World.setCells _ _ _ _ = W at hM hH ⊢
      try simp only [Act.put, p1, p2, p3]
      refine tk 14 rfl hH ?_
      simp only [Act.put, p1, p2, p3]
      refine wpAnyH_done (by kernel_rfl) ?_ _
      go_wp2_with fail
      go_meet
      case rel => exact ⟨bq5, bq4, rfl, rfl, rfl, (hM.out.pick [4, 2, 0, 1]).pickL []⟩
    refine rdc rfl (fun K hK => ?_) ?_
    · go_simp
      replace hM := hid (hM.out.bornR wz_all.symm 119 rfl)
      refine hK.out _ _ ⟨hM.out.at 3 rfl, hM.out.at 2 rfl⟩ (fun hH => ?_)
      clear hK K
      generalize W.heap.size = bq4 at hM hH ⊢
      generalize World.alloc _ _ = W at hM hH  ⊢
      try simp only [Act.put, p1, p2, p3]
      refine rdn [1, 11] ?_
      refine rdc rfl (fun K hK => ?_) ?_
      · go_simp
        refine (KI.out _).mono ?_
        rintro e W ⟨rfl, hb⟩
        replace hM := hid (hM.out.later hb)
        clear hb
        go_wp2_with fail
        refine hK.out _ _ ⟨hM.out.at 3 rfl, hM.out.at 2 rfl⟩ (fun hH => ?_)
        clear hK K
        try simp only [Act.put, p1, p2, p3]
        refine rdn [3, 11] ?_
        refine rdc rfl (fun K hK => ?_) ?_
        · go_simp
          refine (OJ.out _).mono ?_
          rintro e W ⟨rfl, hb⟩
          replace hM := hid (hM.out.later hb)
          clear hb
          go_wp2_with fail
          refine hK.out _ _ ⟨hM.out.at 3 rfl, hM.out.at 2 rfl⟩ (fun hH => ?_)
          clear hK K
          try simp only [Act.put, p1, p2, p3]
          refine rdn [5, 11] ?_
          refine rdc rfl (fun K hK => ?_) ?_
          · go_simp
            refine (DD.out _).mono ?_
            rintro e W ⟨rfl, hb⟩
            replace hM := hid (hM.out.later hb)
            clear hb
            go_wp2_with fail
            refine hK.out _ _ ⟨hM.out.at 3 rfl, hM.out.at 2 rfl⟩ (fun hH => ?_)
            clear hK K
            try simp only [Act.put, p1, p2, p3]
            refine tk 6 rfl hH ?_
            simp only [Act.put, p1, p2, p3]
            refine tk 7 rfl hH ?_
            simp only [Act.put, p1, p2, p3]
            refine tk 8 rfl hH ?_
            simp only [Act.put, p1, p2, p3]
            refine tk 9 rfl hH ?_
            simp only [Act.put, p1, p2, p3]
            refine rd1 11 rfl (fun K hK => ?_)
            go_simp
            replace hM := hid (hM.out.born [.int .i64 0, .int .i64 0] 58 rfl)
            refine hK.out _ _ ⟨hM.out.at 4 rfl, hM.out.at 3 rfl⟩ (fun hH => ?_)
            clear hK K
            generalize W.heap.size = bq5 at hM hH ⊢
            generalize World.alloc _ _ = W at hM hH  ⊢
            try simp only [Act.put, p1, p2, p3]
            refine rd1 12 rfl (fun K hK => ?_)
            refine stR rfl (hM.out.at 1 rfl) ((rwC wz).len (rwC d)) (rwC d) ?_
            simp only [Act.put]
            replace hM := hid (hM.out.put 1 rfl (wl d) ((rwC wz).len (rwC d)))
            refine hK.out _ _ ⟨hM.out.at 4 rfl, hM.out.at 3 rfl⟩ (fun hH => ?_)
            clear hK K
            generalize World.setCells _ _ _ _ = W at hM hH ⊢
            try simp only [Act.put, p1, p2, p3]
            refine rd1 13 rfl (fun K hK => ?_)
            refine stR rfl (hM.out.at 0 rfl) ((rwA 0 0).len (rwA _ _)) (rwA _ _) ?_
            simp only [Act.put]
            replace hM := hid (hM.out.put 0 rfl [.int .i64 (cc : Nat), .int .i64 (y : Nat)] ((rwA 0 0).len (rwA _ _)))
            refine hK.out _ _ ⟨hM.out.at 4 rfl, hM.out.at 3 rfl⟩ (fun hH => ?_)
            clear hK K
            generalize World.setCells _ _ _ _ = W at hM hH ⊢
            try simp only [Act.put, p1, p2, p3]
            refine tk 14 rfl hH ?_
            simp only [Act.put, p1, p2, p3]
            refine wpAnyH_done (by kernel_rfl) ?_ _
            go_wp2_with fail
            go_meet
            case rel => exact ⟨bq4, bq5, rfl, rfl, rfl, (hM.out.pick [4, 2, 1, 0]).pickL []⟩
          refine rdc rfl (fun K hK => ?_) AllReadyH.nil
          go_simp
          replace hM := hid (hM.out.born [.int .i64 0, .int .i64 0] 58 rfl)
          refine hK.out _ _ ⟨hM.out.at 4 rfl, hM.out.at 3 rfl⟩ (fun hH => ?_)
          clear hK K
          generalize W.heap.size = bq5 at hM hH ⊢
          generalize World.alloc _ _ = W at hM hH  ⊢
          try simp only [Act.put, p1, p2, p3]
          refine rd1 5 rfl (fun K hK => ?_)
          go_simp
          refine (DD.out _).mono ?_
          rintro e W ⟨rfl, hb⟩
          replace hM := hid (hM.out.later hb)
          clear hb
          go_wp2_with fail
          refine hK.out _ _ ⟨hM.out.at 4 rfl, hM.out.at 3 rfl⟩ (fun hH => ?_)
          clear hK K
          try simp only [Act.put, p1, p2, p3]
          refine tk 6 rfl hH ?_
          simp only [Act.put, p1, p2, p3]
          refine tk 7 rfl hH ?_
          simp only [Act.put, p1, p2, p3]
          refine tk 8 rfl hH ?_
          simp only [Act.put, p1, p2, p3]
          refine tk 9 rfl hH ?_
          simp only [Act.put, p1, p2, p3]
          refine rd1 12 rfl (fun K hK => ?_)
          refine stR rfl (hM.out.at 1 rfl) ((rwC wz).len (rwC d)) (rwC d) ?_
          simp only [Act.put]
          replace hM := hid (hM.out.put 1 rfl (wl d) ((rwC wz).len (rwC d)))
          refine hK.out _ _ ⟨hM.out.at 4 rfl, hM.out.at 3 rfl⟩ (fun hH => ?_)
          clear hK K
          generalize World.setCells _ _ _ _ = W at hM hH ⊢
          try simp only [Act.put, p1, p2, p3]
          refine rd1 13 rfl (fun K hK => ?_)
          refine stR rfl (hM.out.at 0 rfl) ((rwA 0 0).len (rwA _ _)) (rwA _ _) ?_
          simp only [Act.put]
          replace hM := hid (hM.out.put 0 rfl [.int .i64 (cc : Nat), .int .i64 (y : Nat)] ((rwA 0 0).len (rwA _ _)))
          refine hK.out _ _ ⟨hM.out.at 4 rfl, hM.out.at 3 rfl⟩ (fun hH => ?_)
          clear hK K
          generalize World.setCells _ _ _ _ = W at hM hH ⊢
          try simp only [Act.put, p1, p2, p3]
          refine tk 14 rfl hH ?_
          simp only [Act.put, p1, p2, p3]
          refine wpAnyH_done (by kernel_rfl) ?_ _
          go_wp2_with fail
          go_meet
          case rel => exact ⟨bq4, bq5, rfl, rfl, rfl, (hM.out.pick [4, 2, 1, 0]).pickL []⟩
        refine rdc rfl (fun K hK => ?_) AllReadyH.nil
        go_simp
        replace hM := hid (hM.out.born [.int .i64 0, .int .i64 0] 58 rfl)
        refine hK.out _ _ ⟨hM.out.at 4 rfl, hM.out.at 3 rfl⟩ (fun hH => ?_)
        clear hK K
        generalize W.heap.size = bq5 at hM hH ⊢
        generalize World.alloc _ _ = W at hM hH  ⊢
        try simp only [Act.put, p1, p2, p3]
        refine rd1 3 rfl (fun K hK => ?_)
        go_simp
        refine (OJ.out _).mono ?_
        rintro e W ⟨rfl, hb⟩
        replace hM := hid (hM.out.later hb)
        clear hb
        go_wp2_with fail
        refine hK.out _ _ ⟨hM.out.at 4 rfl, hM.out.at 3 rfl⟩ (fun hH => ?_)
        clear hK K
        try simp only [Act.put, p1, p2, p3]
        refine rd1 5 rfl (fun K hK => ?_)
        go_simp
        refine (DD.out _).mono ?_
        rintro e W ⟨rfl, hb⟩
        replace hM := hid (hM.out.later hb)
        clear hb
        go_wp2_with fail
        refine hK.out _ _ ⟨hM.out.at 4 rfl, hM.out.at 3 rfl⟩ (fun hH => ?_)
        clear hK K
        try simp only [Act.put, p1, p2, p3]
        refine tk 6 rfl hH ?_
        simp only [Act.put, p1, p2, p3]
        refine tk 7 rfl hH ?_
        simp only [Act.put, p1, p2, p3]
        refine tk 8 rfl hH ?_
        simp only [Act.put, p1, p2, p3]
        refine tk 9 rfl hH ?_
        simp only [Act.put, p1, p2, p3]
        refine rd1 12 rfl (fun K hK => ?_)
        refine stR rfl (hM.out.at 1 rfl) ((rwC wz).len (rwC d)) (rwC d) ?_
        simp only [Act.put]
        replace hM := hid (hM.out.put 1 rfl (wl d) ((rwC wz).len (rwC d)))
        refine hK.out _ _ ⟨hM.out.at 4 rfl, hM.out.at 3 rfl⟩ (fun hH => ?_)
        clear hK K
        generalize World.setCells _ _ _ _ = W at hM hH ⊢
        try simp only [Act.put, p1, p2, p3]
        refine rd1 13 rfl (fun K hK => ?_)
        refine stR rfl (hM.out.at 0 rfl) ((rwA 0 0).len (rwA _ _)) (rwA _ _) ?_
        simp only [Act.put]
        replace hM := hid (hM.out.put 0 rfl [.int .i64 (cc : Nat), .int .i64 (y : Nat)] ((rwA 0 0).len (rwA _ _)))
        refine hK.out _ _ ⟨hM.out.at 4 rfl, hM.out.at 3 rfl⟩ (fun hH => ?_)
        clear hK K
        generalize World.setCells _ _ _ _ = W at hM hH ⊢
        try simp only [Act.put, p1, p2, p3]
        refine tk 14 rfl hH ?_
        simp only [Act.put, p1, p2, p3]
        refine wpAnyH_done (by kernel_rfl) ?_ _
        go_wp2_with fail
        go_meet
        case rel => exact ⟨bq4, bq5, rfl, rfl, rfl, (hM.out.pick [4, 2, 1, 0]).pickL []⟩
      refine rdc rfl (fun K hK => ?_) AllReadyH.nil
      go_simp
      replace hM := hid (hM.out.born [.int .i64 0, .int .i64 0] 58 rfl)
      refine hK.out _ _ ⟨hM.out.at 4 rfl, hM.out.at 3 rfl⟩ (fun hH => ?_)
      clear hK K
      generalize W.heap.size = bq5 at hM hH ⊢
      generalize World.alloc _ _ = W at hM hH  ⊢
      try simp only [Act.put, p1, p2, p3]
      refine rd1 1 rfl (fun K hK => ?_)
      go_simp
      refine (KI.out _).mono ?_
      rintro e W ⟨rfl, hb⟩
      replace hM := hid (hM.out.later hb)
      clear hb
      go_wp2_with fail
      refine hK.out _ _ ⟨hM.out.at 4 rfl, hM.out.at 3 rfl⟩ (fun hH => ?_)
      clear hK K
      try simp only [Act.put, p1, p2, p3]
      refine rd1 3 rfl (fun K hK => ?_)
      go_simp
      refine (OJ.out _).mono ?_
      rintro e W ⟨rfl, hb⟩
      replace hM := hid (hM.out.later hb)
      clear hb
      go_wp2_with fail
      refine hK.out _ _ ⟨hM.out.at 4 rfl, hM.out.at 3 rfl⟩ (fun hH => ?_)
      clear hK K
      try simp only [Act.put, p1, p2, p3]
      refine rd1 5 rfl (fun K hK => ?_)
      go_simp
      refine (DD.out _).mono ?_
      rintro e W ⟨rfl, hb⟩
      replace hM := hid (hM.out.later hb)
      clear hb
      go_wp2_with fail
      refine hK.out _ _ ⟨hM.out.at 4 rfl, hM.out.at 3 rfl⟩ (fun hH => ?_)
      clear hK K
      try simp only [Act.put, p1, p2, p3]
      refine tk 6 rfl hH ?_
      simp only [Act.put, p1, p2, p3]
      refine tk 7 rfl hH ?_
      simp only [Act.put, p1, p2, p3]
      refine tk 8 rfl hH ?_
      simp only [Act.put, p1, p2, p3]
      refine tk 9 rfl hH ?_
      simp only [Act.put, p1, p2, p3]
      refine rd1 12 rfl (fun K hK => ?_)
      refine stR rfl (hM.out.at 1 rfl) ((rwC wz).len (rwC d)) (rwC d) ?_
      simp only [Act.put]
      replace hM := hid (hM.out.put 1 rfl (wl d) ((rwC wz).len (rwC d)))
      refine hK.out _ _ ⟨hM.out.at 4 rfl, hM.out.at 3 rfl⟩ (fun hH => ?_)
      clear hK K
      generalize World.setCells _ _ _ _ = W at hM hH ⊢
      try simp only [Act.put, p1, p2, p3]
      refine rd1 13 rfl (fun K hK => ?_)
      refine stR rfl (hM.out.at 0 rfl) ((rwA 0 0).len (rwA _ _)) (rwA _ _) ?_
      simp only [Act.put]
      replace hM := hid (hM.out.put 0 rfl [.int .i64 (cc : Nat), .int .i64 (y : Nat)] ((rwA 0 0).len (rwA _ _)))
      refine hK.out _ _ ⟨hM.out.at 4 rfl, hM.out.at 3 rfl⟩ (fun hH => ?_)
      clear hK K
      generalize World.setCells _ _ _ _ = W at hM hH ⊢
      try simp only [Act.put, p1, p2, p3]
      refine tk 14 rfl hH ?_
      simp only [Act.put, p1, p2, p3]
      refine wpAnyH_done (by kernel_rfl) ?_ _
      go_wp2_with fail
      go_meet
      case rel => exact ⟨bq4, bq5, rfl, rfl, rfl, (hM.out.pick [4, 2, 1, 0]).pickL []⟩
    refine rdc rfl (fun K hK => ?_) AllReadyH.nil
    go_simp
    replace hM := hid (hM.out.born [.int .i64 0, .int .i64 0] 58 rfl)
    refine hK.out _ _ ⟨hM.out.at 3 rfl, hM.out.at 2 rfl⟩ (fun hH => ?_)
    clear hK K
    generalize W.heap.size = bq4 at hM hH ⊢
    generalize World.alloc _ _ = W at hM hH  ⊢
    try simp only [Act.put, p1, p2, p3]
    refine rdn [1, 10] ?_
    refine rdc rfl (fun K hK => ?_) ?_
    · go_simp
      refine (KI.out _).mono ?_
      rintro e W ⟨rfl, hb⟩
      replace hM := hid (hM.out.later hb)
      clear hb
      go_wp2_with fail
      refine hK.out _ _ ⟨hM.out.at 3 rfl, hM.out.at 2 rfl⟩ (fun hH => ?_)
      clear hK K
      try simp only [Act.put, p1, p2, p3]
      refine rdn [3, 10] ?_
      refine rdc rfl (fun K hK => ?_) ?_
      · go_simp
        refine (OJ.out _).mono ?_
        rintro e W ⟨rfl, hb⟩
        replace hM := hid (hM.out.later hb)
        clear hb
        go_wp2_with fail
        refine hK.out _ _ ⟨hM.out.at 3 rfl, hM.out.at 2 rfl⟩ (fun hH => ?_)
        clear hK K
        try simp only [Act.put, p1, p2, p3]
        refine rdn [5, 10] ?_
        refine rdc rfl (fun K hK => ?_) ?_
        · go_simp
          refine (DD.out _).mono ?_
          rintro e W ⟨rfl, hb⟩
          replace hM := hid (hM.out.later hb)
          clear hb
          go_wp2_with fail
          refine hK.out _ _ ⟨hM.out.at 3 rfl, hM.out.at 2 rfl⟩ (fun hH => ?_)
          clear hK K
          try simp only [Act.put, p1, p2, p3]
          refine tk 6 rfl hH ?_
          simp only [Act.put, p1, p2, p3]
          refine tk 7 rfl hH ?_
          simp only [Act.put, p1, p2, p3]
          refine tk 8 rfl hH ?_
          simp only [Act.put, p1, p2, p3]
          refine tk 9 rfl hH ?_
          simp only [Act.put, p1, p2, p3]
          refine rd1 10 rfl (fun K hK => ?_)
          go_simp
          replace hM := hid (hM.out.bornR wz_all.symm 119 rfl)
          refine hK.out _ _ ⟨hM.out.at 4 rfl, hM.out.at 3 rfl⟩ (fun hH => ?_)
          clear hK K
          generalize W.heap.size = bq5 at hM hH ⊢
          generalize World.alloc _ _ = W at hM hH  ⊢
          try simp only [Act.put, p1, p2, p3]
          refine rd1 12 rfl (fun K hK => ?_)
          refine stR rfl (hM.out.at 0 rfl) ((rwC wz).len (rwC d)) (rwC d) ?_
          simp only [Act.put]
          replace hM := hid (hM.out.put 0 rfl (wl d) ((rwC wz).len (rwC d)))
          refine hK.out _ _ ⟨hM.out.at 4 rfl, hM.out.at 3 rfl⟩ (fun hH => ?_)
          clear hK K
          generalize World.setCells _ _ _ _ = W at hM hH ⊢
          try simp only [Act.put, p1, p2, p3]
          refine rd1 13 rfl (fun K hK => ?_)
          refine stR rfl (hM.out.at 1 rfl) ((rwA 0 0).len (rwA _ _)) (rwA _ _) ?_
          simp only [Act.put]
          replace hM := hid (hM.out.put 1 rfl [.int .i64 (cc : Nat), .int .i64 (y : Nat)] ((rwA 0 0).len (rwA _ _)))
          refine hK.out _ _ ⟨hM.out.at 4 rfl, hM.out.at 3 rfl⟩ (fun hH => ?_)
          clear hK K
          generalize World.setCells _ _ _ _ = W at hM hH ⊢
          try simp only [Act.put, p1, p2, p3]
          refine tk 14 rfl hH ?_
          simp only [Act.put, p1, p2, p3]
          refine wpAnyH_done (by kernel_rfl) ?_ _
          go_wp2_with fail
          go_meet
          case rel => exact ⟨bq5, bq4, rfl, rfl, rfl, (hM.out.pick [4, 2, 0, 1]).pickL []⟩
        refine rdc rfl (fun K hK => ?_) AllReadyH.nil
        go_simp
        replace hM := hid (hM.out.bornR wz_all.symm 119 rfl)
        refine hK.out _ _ ⟨hM.out.at 4 rfl, hM.out.at 3 rfl⟩ (fun hH => ?_)
        clear hK K
        generalize W.heap.size = bq5 at hM hH ⊢
        generalize World.alloc _ _ = W at hM hH  ⊢
        try simp only [Act.put, p1, p2, p3]
        refine rd1 5 rfl (fun K hK => ?_)
        go_simp
        refine (DD.out _).mono ?_
        rintro e W ⟨rfl, hb⟩
        replace hM := hid (hM.out.later hb)
        clear hb
        go_wp2_with fail
        refine hK.out _ _ ⟨hM.out.at 4 rfl, hM.out.at 3 rfl⟩ (fun hH => ?_)
        clear hK K
        try simp only [Act.put, p1, p2, p3]
        refine tk 6 rfl hH ?_
        simp only [Act.put, p1, p2, p3]
        refine tk 7 rfl hH ?_
        simp only [Act.put, p1, p2, p3]
        refine tk 8 rfl hH ?_
        simp only [Act.put, p1, p2, p3]
        refine tk 9 rfl hH ?_
        simp only [Act.put, p1, p2, p3]
        refine rd1 12 rfl (fun K hK => ?_)
        refine stR rfl (hM.out.at 0 rfl) ((rwC wz).len (rwC d)) (rwC d) ?_
        simp only [Act.put]
        replace hM := hid (hM.out.put 0 rfl (wl d) ((rwC wz).len (rwC d)))
        refine hK.out _ _ ⟨hM.out.at 4 rfl, hM.out.at 3 rfl⟩ (fun hH => ?_)
        clear hK K
        generalize World.setCells _ _ _ _ = W at hM hH ⊢
        try simp only [Act.put, p1, p2, p3]
        refine rd1 13 rfl (fun K hK => ?_)
        refine stR rfl (hM.out.at 1 rfl) ((rwA 0 0).len (rwA _ _)) (rwA _ _) ?_
        simp only [Act.put]
        replace hM := hid (hM.out.put 1 rfl [.int .i64 (cc : Nat), .int .i64 (y : Nat)] ((rwA 0 0).len (rwA _ _)))
        refine hK.out _ _ ⟨hM.out.at 4 rfl, hM.out.at 3 rfl⟩ (fun hH => ?_)
        clear hK K
        generalize World.setCells _ _ _ _ = W at hM hH ⊢
        try simp only [Act.put, p1, p2, p3]
        refine tk 14 rfl hH ?_
        simp only [Act.put, p1, p2, p3]
        refine wpAnyH_done (by kernel_rfl) ?_ _
        go_wp2_with fail
        go_meet
        case rel => exact ⟨bq5, bq4, rfl, rfl, rfl, (hM.out.pick [4, 2, 0, 1]).pickL []⟩
      refine rdc rfl (fun K hK => ?_) AllReadyH.nil
      go_simp
      replace hM := hid (hM.out.bornR wz_all.symm 119 rfl)
      refine hK.out _ _ ⟨hM.out.at 4 rfl, hM.out.at 3 rfl⟩ (fun hH => ?_)
      clear hK K
      generalize W.heap.size = bq5 at hM hH ⊢
      generalize World.alloc _ _ = W at hM hH  ⊢
      try simp only [Act.put, p1, p2, p3]
      refine rd1 3 rfl (fun K hK => ?_)
      go_simp
      refine (OJ.out _).mono ?_
      rintro e W ⟨rfl, hb⟩
      replace hM := hid (hM.out.later hb)
      clear hb
      go_wp2_with fail
      refine hK.out _ _ ⟨hM.out.at 4 rfl, hM.out.at 3 rfl⟩ (fun hH => ?_)
      clear hK K
      try simp only [Act.put, p1, p2, p3]
      refine rd1 5 rfl (fun K hK => ?_)
      go_simp
      refine (DD.out _).mono ?_
      rintro e W ⟨rfl, hb⟩
      replace hM := hid (hM.out.later hb)
      clear hb
      go_wp2_with fail
      refine hK.out _ _ ⟨hM.out.at 4 rfl, hM.out.at 3 rfl⟩ (fun hH => ?_)
      clear hK K
      try simp only [Act.put, p1, p2, p3]
      refine tk 6 rfl hH ?_
      simp only [Act.put, p1, p2, p3]
      refine tk 7 rfl hH ?_
      simp only [Act.put, p1, p2, p3]
      refine tk 8 rfl hH ?_
      simp only [Act.put, p1, p2, p3]
      refine tk 9 rfl hH ?_
      simp only [Act.put, p1, p2, p3]
      refine rd1 12 rfl (fun K hK => ?_)
      refine stR rfl (hM.out.at 0 rfl) ((rwC wz).len (rwC d)) (rwC d) ?_
      simp only [Act.put]
      replace hM := hid (hM.out.put 0 rfl (wl d) ((rwC wz).len (rwC d)))
      refine hK.out _ _ ⟨hM.out.at 4 rfl, hM.out.at 3 rfl⟩ (fun hH => ?_)
      clear hK K
      generalize World.setCells _ _ _ _ = W at hM hH ⊢
      try simp only [Act.put, p1, p2, p3]
      refine rd1 13 rfl (fun K hK => ?_)
      refine stR rfl (hM.out.at 1 rfl) ((rwA 0 0).len (rwA _ _)) (rwA _ _) ?_
      simp only [Act.put]
      replace hM := hid (hM.out.put 1 rfl [.int .i64 (cc : Nat), .int .i64 (y : Nat)] ((rwA 0 0).len (rwA _ _)))
      refine hK.out _ _ ⟨hM.out.at 4 rfl, hM.out.at 3 rfl⟩ (fun hH => ?_)
      clear hK K
      generalize World.setCells _ _ _ _ = W at hM hH ⊢
      try simp only [Act.put, p1, p2, p3]
      refine tk 14 rfl hH ?_
      simp only [Act.put, p1, p2, p3]
      refine wpAnyH_done (by kernel_rfl) ?_ _
      go_wp2_with fail
      go_meet
      case rel => exact ⟨bq5, bq4, rfl, rfl, rfl, (hM.out.pick [4, 2, 0, 1]).pickL []⟩
    refine rdc rfl (fun K hK => ?_) AllReadyH.nil
    go_simp
    replace hM := hid (hM.out.bornR wz_all.symm 119 rfl)
    refine hK.out _ _ ⟨hM.out.at 4 rfl, hM.out.at 3 rfl⟩ (fun hH => ?_)
    clear hK K
    generalize W.heap.size = bq5 at hM hH ⊢
    generalize World.alloc _ _ = W at hM hH  ⊢
    try simp only [Act.put, p1, p2, p3]
    refine rd1 1 rfl (fun K hK => ?_)
    go_simp
    refine (KI.out _).mono ?_
    rintro e W ⟨rfl, hb⟩
    replace hM := hid (hM.out.later hb)
    clear hb
    go_wp2_with fail
    refine hK.out _ _ ⟨hM.out.at 4 rfl, hM.out.at 3 rfl⟩ (fun hH => ?_)
    clear hK K
    try simp only [Act.put, p1, p2, p3]
    refine rd1 3 rfl (fun K hK => ?_)
    go_simp
    refine (OJ.out _).mono ?_
    rintro e W ⟨rfl, hb⟩
    replace hM := hid (hM.out.later hb)
    clear hb
    go_wp2_with fail
    refine hK.out _ _ ⟨hM.out.at 4 rfl, hM.out.at 3 rfl⟩ (fun hH => ?_)
    clear hK K
    try simp only [Act.put, p1, p2, p3]
    refine rd1 5 rfl (fun K hK => ?_)
    go_simp
    refine (DD.out _).mono ?_
    rintro e W ⟨rfl, hb⟩
    replace hM := hid (hM.out.later hb)
    clear hb
    go_wp2_with fail
    refine hK.out _ _ ⟨hM.out.at 4 rfl, hM.out.at 3 rfl⟩ (fun hH => ?_)
    clear hK K
    try simp only [Act.put, p1, p2, p3]
    refine tk 6 rfl hH ?_
    simp only [Act.put, p1, p2, p3]
    refine tk 7 rfl hH ?_
    simp only [Act.put, p1, p2, p3]
    refine tk 8 rfl hH ?_
    simp only [Act.put, p1, p2, p3]
    refine tk 9 rfl hH ?_
    simp only [Act.put, p1, p2, p3]
    refine rd1 12 rfl (fun K hK => ?_)
    refine stR rfl (hM.out.at 0 rfl) ((rwC wz).len (rwC d)) (rwC d) ?_
    simp only [Act.put]
    replace hM := hid (hM.out.put 0 rfl (wl d) ((rwC wz).len (rwC d)))
    refine hK.out _ _ ⟨hM.out.at 4 rfl, hM.out.at 3 rfl⟩ (fun hH => ?_)
    clear hK K
    generalize World.setCells _ _ _ _ = W at hM hH ⊢
    try simp only [Act.put, p1, p2, p3]
    refine rd1 13 rfl (fun K hK => ?_)
    refine stR rfl (hM.out.at 1 rfl) ((rwA 0 0).len (rwA _ _)) (rwA _ _) ?_
    simp only [Act.put]
    replace hM := hid (hM.out.put 1 rfl [.int .i64 (cc : Nat), .int .i64 (y : Nat)] ((rwA 0 0).len (rwA _ _)))
    refine hK.out _ _ ⟨hM.out.at 4 rfl, hM.out.at 3 rfl⟩ (fun hH => ?_)
    clear hK K
    generalize World.setCells _ _ _ _ = W at hM hH ⊢
    try simp only [Act.put, p1, p2, p3]
    refine tk 14 rfl hH ?_
    simp only [Act.put, p1, p2, p3]
    refine wpAnyH_done (by kernel_rfl) ?_ _
    go_wp2_with fail
    go_meet
    case rel => exact ⟨bq5, bq4, rfl, rfl, rfl, (hM.out.pick [4, 2, 0, 1]).pickL []⟩
  case rest =>
    obtain ⟨bz8, bz9, rfl, rfl, rfl, hM⟩ := hcut
    generalize wc = W at hM ⊢
    have c4 := hM.out.cell 3 0 rfl rfl
    have c5 := hM.out.cell 3 1 rfl rfl
    go_wp2_with (first
      | (refine lR rfl (hM.out.at 3 rfl) rfl (rwA _ _) ?_))
    refine (AI.out _).mono ?_
    rintro e W ⟨rfl, hb⟩
    replace hM := hid (hM.out.later hb)
    clear hb
    clear c4 c5
    go_wp2_with fail
    replace hM := hid (hM.out.drew)
    refine wp_region_held_drew (S := fun w' => True) (by kernel_rfl) trivial (fun hH => ?_)
    generalize World.drew _ = W at hM hH  ⊢
    refine tk 0 rfl hH ?_
    simp only [Act.put, p1, p2, p3]
    refine tk 1 rfl hH ?_
    simp only [Act.put, p1, p2, p3]
    refine rd1 2 rfl (fun K hK => ?_)
    refine cpR rfl Tryz.underlying26 sz_u (vs := wl d) (off := 1) (dLen := 31) (sLen := 17) (by rw [wl_length]; rfl) ((hM.out.at 2 rfl).cells0) ((hM.out.at 0 rfl).thereAt (o := 1) (n := (wl d).length) (by rw [wl_length, rl_length]; decide)) (wl_one _) ?_
    replace hM := hid (hM.out.putAt 0 1 rfl (wl d) (rl (wo r d)) ((hM.out.at 0 rfl).setOb d))
    refine hK.out _ _ trivial (fun hH => ?_)
    clear hK K
    generalize World.setCells _ _ _ _ = W at hM hH ⊢
    try simp only [Act.put, p1, p2, p3]
    refine wpAnyH_done (by kernel_rfl) ?_ _
    have x6 := (hM.out.at 0 rfl).rwordx (show 28 < 32 by decide) l1.out
    go_wp2_with (first
      | (refine s1 rfl (hM.out.at 0 rfl) 28 rfl (.int .u64 (c1 : Nat)) rfl sz_u ?_ (by rw [rl_length]; omega)
         replace hM := hid (hM.out.put1 0 28 rfl (.int .u64 (c1 : Nat)) (rl (upw (wo r d) 28 c1)) (by rw [rl_length]; omega) (rl_set _ _ (by omega)))
         generalize World.setCell _ _ _ = W at hM ⊢
         clear x6)
      | (refine s1 rfl (hM.out.at 0 rfl) (18 + t) rfl (.int .u64 (aw : Nat)) rfl sz_u ?_ (by rw [rl_length]; omega)
         replace hM := hid (hM.out.put1 0 (18 + t) rfl (.int .u64 (aw : Nat)) (rl (upw (upw (wo r d) 28 c1) (18 + t) aw)) (by rw [rl_length]; omega) (rl_set _ _ (by omega)))
         generalize World.setCell _ _ _ = W at hM ⊢
         have x7 := (hM.out.at 0 rfl).rwordx (show 28 < 32 by decide) l2.out)
      | (refine s1 rfl (hM.out.at 0 rfl) (22 + t) rfl (.int .u64 (c1 : Nat)) rfl sz_u ?_ (by rw [rl_length]; omega)
         replace hM := hid (hM.out.put1 0 (22 + t) rfl (.int .u64 (c1 : Nat)) (rl (upw (upw (upw (wo r d) 28 c1) (18 + t) aw) (22 + t) c1)) (by rw [rl_length]; omega) (rl_set _ _ (by omega)))
         generalize World.setCell _ _ _ = W at hM ⊢
         clear x7
         have x8 := (hM.out.at 0 rfl).rwordx (show 26 < 32 by decide) l3.out))
    refine (FI.out _).mono ?_
    rintro e ux ⟨rfl, hw⟩
    rw [hw]; clear hw ux
    go_wp2_with (first
      | (refine s1 rfl (hM.out.at 0 rfl) 26 rfl (.int .u64 (g : Nat)) rfl sz_u ?_ (by rw [rl_length]; omega)
         replace hM := hid (hM.out.put1 0 26 rfl (.int .u64 (g : Nat)) (rl (upw (upw (upw (upw (wo r d) 28 c1) (18 + t) aw) (22 + t) c1) 26 g)) (by rw [rl_length]; omega) (rl_set _ _ (by omega)))
         generalize World.setCell _ _ _ = W at hM ⊢
         clear x8)
      | (refine lR rfl (hM.out.at 0 rfl) rfl (rwR (upw (upw (upw (upw (wo r d) 28 c1) (18 + t) aw) (22 + t) c1) 26 g)) ?_)
      | (refine sR rfl (hM.out.at 1 rfl) rfl ((rwR wz).len (rwR (upw (upw (upw (upw (wo r d) 28 c1) (18 + t) aw) (22 + t) c1) 26 g))) (rwR (upw (upw (upw (upw (wo r d) 28 c1) (18 + t) aw) (22 + t) c1) 26 g)) ?_
         replace hM := hid (hM.out.put 1 rfl (rl (upw (upw (upw (upw (wo r d) 28 c1) (18 + t) aw) (22 + t) c1) 26 g)) ((rwR wz).len (rwR (upw (upw (upw (upw (wo r d) 28 c1) (18 + t) aw) (22 + t) c1) 26 g))))
         generalize World.setCells _ _ _ _ = W at hM ⊢))
    exact bodyPost_ret (res1s Tryz.results42 (hM.out.at 1 rfl) (rwR (upw (upw (upw (upw (wo r d) 28 c1) (18 + t) aw) (22 + t) c1) 26 g)) (.nilIface)) rfl ⟨rfl, hM.out.below⟩
end Go.Proofs.YteogbpaaacmllaaGreatDoor.Tab
namespace Go.Proofs.YteogbpaaacmllaaGreatDoor.Tab
set_option maxRecDepth 20000
open Go.RowKit

theorem answer_sz : (Tryz.prog.info? 58).map (·.size) = some 2 := by kernel_rfl
theorem answer_st : ∃ fs, Tryz.prog.underlying 58 = some (.struct fs) := ⟨_, Tryz.underlying58⟩
theorem pick_mod (a : Int) (n : Nat) (h0 : 0 < n) (h : n < 4611686018427387904) : ∃ r : Nat, r < n ∧ wrap64 ((IntKind.u64.wrap a).tmod (IntKind.u64.wrap n)) = (r : Nat) := by
  rw [IntKind.wrap_u64, IntKind.wrap_u64]
  have e : (n : Int) % 18446744073709551616 = n := by omega
  rw [e, Int.tmod_eq_emod_of_nonneg (by omega)]
  have h1 : 0 ≤ a % 18446744073709551616 % (n : Int) := Int.emod_nonneg _ (by omega)
  have h2 : a % 18446744073709551616 % (n : Int) < n := Int.emod_lt_of_pos _ (by omega)
  refine ⟨(a % 18446744073709551616 % (n : Int)).toNat, by omega, ?_⟩
  generalize a % 18446744073709551616 % (n : Int) = x at *
  unfold wrap64
  omega
theorem pick_4 (a : Int) : ∃ r : Nat, r < 4 ∧ ∀ w : World, Calls Tryz.prog 18 #[.int .i64 a, .int .i64 4] w fun e w' => e = .returned (.int .i64 (r : Nat)) ∧ w' = w := by
  obtain ⟨r, hr, he⟩ := pick_mod a 4 (by decide) (by decide)
  refine ⟨r, hr, fun w => ?_⟩
  have HE : Hid _ := he
  clear he
  go_enter Tryz.func18, Tryz.ntmps18
  go_wp2
  go_ret
  exact ⟨ret_int HE.out, rfl⟩
theorem pick_5 (a : Int) : ∃ r : Nat, r < 5 ∧ ∀ w : World, Calls Tryz.prog 18 #[.int .i64 a, .int .i64 5] w fun e w' => e = .returned (.int .i64 (r : Nat)) ∧ w' = w := by
  obtain ⟨r, hr, he⟩ := pick_mod a 5 (by decide) (by decide)
  refine ⟨r, hr, fun w => ?_⟩
  have HE : Hid _ := he
  clear he
  go_enter Tryz.func18, Tryz.ntmps18
  go_wp2
  go_ret
  exact ⟨ret_int HE.out, rfl⟩
theorem pick_6 (a : Int) : ∃ r : Nat, r < 6 ∧ ∀ w : World, Calls Tryz.prog 18 #[.int .i64 a, .int .i64 6] w fun e w' => e = .returned (.int .i64 (r : Nat)) ∧ w' = w := by
  obtain ⟨r, hr, he⟩ := pick_mod a 6 (by decide) (by decide)
  refine ⟨r, hr, fun w => ?_⟩
  have HE : Hid _ := he
  clear he
  go_enter Tryz.func18, Tryz.ntmps18
  go_wp2
  go_ret
  exact ⟨ret_int HE.out, rfl⟩
theorem pick_1000 (a : Int) : ∃ r : Nat, r < 1000 ∧ ∀ w : World, Calls Tryz.prog 18 #[.int .i64 a, .int .i64 1000] w fun e w' => e = .returned (.int .i64 (r : Nat)) ∧ w' = w := by
  obtain ⟨r, hr, he⟩ := pick_mod a 1000 (by decide) (by decide)
  refine ⟨r, hr, fun w => ?_⟩
  have HE : Hid _ := he
  clear he
  go_enter Tryz.func18, Tryz.ntmps18
  go_wp2
  go_ret
  exact ⟨ret_int HE.out, rfl⟩
theorem pick_4294967296 (a : Int) : ∃ r : Nat, r < 4294967296 ∧ ∀ w : World, Calls Tryz.prog 18 #[.int .i64 a, .int .i64 4294967296] w fun e w' => e = .returned (.int .i64 (r : Nat)) ∧ w' = w := by
  obtain ⟨r, hr, he⟩ := pick_mod a 4294967296 (by decide) (by decide)
  refine ⟨r, hr, fun w => ?_⟩
  have HE : Hid _ := he
  clear he
  go_enter Tryz.func18, Tryz.ntmps18
  go_wp2
  go_ret
  exact ⟨ret_int HE.out, rfl⟩
end Go.Proofs.YteogbpaaacmllaaGreatDoor.Tab
namespace Go.Proofs.YteogbpaaacmllaaGreatDoor.Tab
set_option maxRecDepth 20000
open Go.RowKit
set_option linter.unusedVariables false

theorem put_is (x : Int) (w : World) :
    Calls Tryz.prog 41 #[.int .i64 x] w fun e w' => e = .returned (.agg #[.int .i64 1, .int .i64 0, .int .i64 x]) ∧ Below w.heap.size w w' := by
  go_enter Tryz.func41, Tryz.ntmps41
  go_wp2
  exact bodyPost_ret (v := .agg #[.int .i64 1, .int .i64 0, .int .i64 x]) (by simp [results, Tryz.results41, go_sem]) rfl ⟨rfl, (Below.refl _ w).alloc (Nat.le_refl _) _⟩
theorem pick4_is (a : Int) : ∃ r : Nat, r < 4 ∧ ∀ w : World, Calls Tryz.prog 18 #[.int .i64 a, .int .i64 4] w fun e w' => e = .returned (.int .i64 (r : Nat)) ∧ Below w.heap.size w w' := by
  obtain ⟨r, hr, h⟩ := pick_4 a
  exact ⟨r, hr, fun w => (h w).mono fun _ _ ⟨he, hw⟩ => ⟨he, hw ▸ Below.refl _ _⟩⟩
theorem kindOf_is (a : Int) : ∃ r : Nat, 1 ≤ r ∧ r ≤ 6 ∧ ∀ w : World, Calls Tryz.prog 17 #[.int .i64 a] w fun e w' => e = .returned (.int .i64 (r : Nat)) ∧ w' = w := by
  obtain ⟨r, hr, hp⟩ := pick_6 a
  refine ⟨r + 1, by omega, by omega, fun w => ?_⟩
  have P : Hid _ := hp
  clear hp
  have hw : IntKind.i64.wrap (1 + (r : Int)) = 1 + (r : Int) := by rw [IntKind.wrap_i64]; omega
  go_enter Tryz.func17, Tryz.ntmps17
  go_wp2_with fail
  refine (P.out _).mono ?_
  rintro e w' ⟨rfl, rfl⟩
  go_wp2
  go_ret
  exact ⟨ret_int (by omega), rfl⟩
theorem isOb_le {k : Int} {c : Nat → Nat} (h : isOb k c) : ∀ j, j < 17 → c j ≤ 4294967295 := fun j hj => by
  have wl : WList c → c j ≤ 4294967295 := fun h => by
    have := h.len
    by_cases e : j = 0
    · subst e; omega
    · by_cases e1 : j ≤ c 0
      · exact h.val j (by omega) e1
      · rw [h.rest j (by omega) hj]; omega
  rcases h with ⟨_, h⟩ | ⟨_, h, _⟩ | ⟨_, h1, h2, _⟩ | ⟨_, h⟩
  · exact wl (isLb_w h)
  · exact wl (isLb_w h)
  · by_cases e : j < 16
    · have := upC_iff.1 h1 j e; rw [Nat.zero_add] at this; omega
    · have h3 : ((c 16 : Nat) : Int) ≤ 0 := upC_iff.1 h2 0 (by decide)
      rw [show j = 16 by omega]; omega
  · unfold isTb at h
    simp only [Bool.and_eq_true] at h
    by_cases e : j = 0
    · have h3 : ((c 0 : Nat) : Int) ≤ 4294967295 := upC_iff.1 h.1 0 (by decide)
      subst e; omega
    · have := upC_iff.1 h.2 (j - 1) (by omega); rw [show 1 + (j - 1) = j by omega] at this; omega
theorem isRec.u64 {r : Nat → Nat} (h : isRec r) : ∀ j, j < 32 → r j < 18446744073709551616 := fun j hj => by
  obtain ⟨hO, hA, hN, hZ, hT⟩ := h
  by_cases e0 : j = 0
  · have := (isOb_kind hO).2; subst e0; omega
  by_cases e1 : j < 18
  · have := isOb_le hO (j - 1) (by omega)
    unfold ob at this
    rw [show 1 + (j - 1) = j by omega] at this; omega
  by_cases e2 : j < 22
  · have := (hA (j - 18) (by omega)).2
    rw [show 18 + (j - 18) = j by omega] at this
    rcases this with h | ⟨_, h, _⟩ <;> omega
  by_cases e3 : j < 26
  · have := (hN (j - 22) (by omega)).1
    rw [show 22 + (j - 22) = j by omega] at this
    have := hT.2.2; omega
  have := hT.1; have := hT.2.1; have := hT.2.2
  by_cases e4 : j < 29
  · have : j = 26 ∨ j = 27 ∨ j = 28 := by omega
    rcases this with rfl | rfl | rfl <;> omega
  · have := hZ (j - 29) (by omega)
    rw [show 29 + (j - 29) = j by omega] at this; omega
end Go.Proofs.YteogbpaaacmllaaGreatDoor.Tab
namespace Go.Proofs.YteogbpaaacmllaaGreatDoor.Tab
set_option maxRecDepth 20000
open Go.RowKit
set_option linter.unusedVariables false

theorem rdo_u {r : Nat → Nat} (hr : isRec r) {t : Nat} {o k x : Int} (hR : Rt o k x) (ht : t < 4) : ∀ j, j < 32 → rdo r t o k x j < 18446744073709551616 := fun j hj => by
  by_cases hc : r 28 < 1099511627776
  · exact (rdo_rec hr hR ht hc).u64 j hj
  · have h28 := hr.2.2.2.2.2.2
    have hu := hr.u64 j hj
    have f := odo_facts hr.1 hR.w1 hR.w6 hR.k0 hR.k1 hR.v0 hR.v1
    have ft := odo_ft hr.1 hR
    unfold rdo
    by_cases h26 : j = 26
    · rw [if_pos h26]
      have := xor_four hr.2.2.2.2.1 ht
      omega
    rw [if_neg h26]
    by_cases h22 : j = 28 ∨ j = 22 + t
    · rw [if_pos h22]; omega
    rw [if_neg h22]
    by_cases h18 : j = 18 + t
    · rw [if_pos h18]
      exact ansN_lt ft
    rw [if_neg h18]
    by_cases hob : 1 ≤ j ∧ j < 18
    · rw [if_pos hob]
      have := isOb_le f.ob (j - 1) (by omega)
      omega
    · rw [if_neg hob]; exact hu
theorem akOp {w : World} {b : Nat} {t g o k x : Int} (h : Bo w b [.int .i64 t, .int .i64 g, .int .i64 o, .int .i64 k, .int .i64 x]) : w.rangeAt b 2 [.int .i64 o, .int .i64 k, .int .i64 x] := fun j v hv => by
  match j, hv with
  | 0, hv => exact h.cell 2 v hv
  | 1, hv => exact h.cell 3 v hv
  | 2, hv => exact h.cell 4 v hv
theorem tkO {P : Program} {md : Region.Mode} {ops : Array Oper} {Q : Exit → Act → World → Prop} {S : World → Prop} {fuel : Nat} {listed : Array Bool} {a : Act} {w : World} {d : Option Tmp} {ty : TypeId} {pos : String} {af : Array Edge} {g : Option (Nat × Bool)}
    (i : Nat) {T : TypeId} {x : Operand} (hi : ops[i]? = some ⟨d, .load T x, ty, pos, af, g⟩) (hS : S w) {b q : Nat} {cs : List Value} (hc : ∀ w, S w → w.rangeAt b q cs) (r : Rw P T cs) (h : wpAnyH P md ops Q S fuel (listed.setIfInBounds i true) (a.put d (.agg cs.toArray)) w)
    (hx : a.eval x = .pointer (some ⟨b, q, none⟩) := by rfl) (hw : Region.wanted ⟨d, .load T x, ty, pos, af, g⟩ (yielded ops a.tmps) = true := by rfl)
    (hs : Region.noSelect ops = true := by kernel_rfl) (hf : Region.free md ops listed i = true := by kernel_rfl) (hr : (Region.ready md ops listed).contains i = true := by kernel_rfl)
    (hQ : ∀ c a w, Q (.panic c) (a.put d (.agg cs.toArray)) w → Q (.panic c) a w := by exact fun _ _ _ h => h) : wpAnyH P md ops Q S (fuel + 1) listed a w := by
  obtain ⟨dd, h1, h2⟩ := r.lay
  exact wpAnyH_take hi hs hf hr hQ (yieldsIf_load_mid hw T x rfl b q hx cs dd hc h1 h2 r.size) hS h
set_option maxHeartbeats 4000000 in
theorem one_bad {r : Nat → Nat} {t g o k x ev : Int} (h : ∀ w : World, Calls Tryz.prog 28 #[.agg (rl r).toArray, .agg #[.int .i64 t, .int .i64 g, .int .i64 o, .int .i64 k, .int .i64 x]] w (fun E w' => E = .returned (.tuple #[.bool false, .iface 28 (.int .i64 ev)]) ∧ Below w.heap.size w w')) (w : World) :
    Calls Tryz.prog 37 #[.agg (rl r).toArray, .agg #[.int .i64 t, .int .i64 g, .int .i64 o, .int .i64 k, .int .i64 x]] w (fun e w' => e = .returned (.tuple #[.agg (rl r).toArray, .slice none 0 0, .iface 28 (.int .i64 ev)]) ∧ Below w.heap.size w w') := by
  have OP : Hid _ := h
  clear h
  have hM : Hid _ := ((((Ms.nil w).born (rl r) 24 (b := w.heap.size) rfl).born [.int .i64 t, .int .i64 g, .int .i64 o, .int .i64 k, .int .i64 x] 52 (b := w.heap.size + 1) (by simp)).bornR rl_zero.symm 24 (b := w.heap.size + 2) (by simp))
  go_enter Tryz.func37, Tryz.ntmps37
  go_wp2_with (first
    | (refine lR rfl (hM.out.at 2 rfl) rfl (rwR r) ?_)
    | (refine lR rfl (hM.out.at 1 rfl) rfl (rwAk t g o k x) ?_))
  generalize World.alloc _ _ = W at hM ⊢
  generalize hsz : w.heap.size = n at hM ⊢
  clear hsz
  refine (OP.out _).mono ?_
  rintro e W ⟨rfl, hb⟩
  replace hM := hid (hM.out.later hb)
  clear hb
  go_wp2_with (first
    | (refine lR rfl (hM.out.at 2 rfl) rfl (rwR r) ?_)
    | (refine sR rfl (hM.out.at 0 rfl) rfl ((rwR wz).len (rwR r)) (rwR r) ?_
       replace hM := hid (hM.out.put 0 rfl (rl r) ((rwR wz).len (rwR r)))
       generalize World.setCells _ _ _ _ = W at hM ⊢))
  exact bodyPost_ret (res1ss Tryz.results37 (hM.out.at 0 rfl) (rwR r) (.slice none 0 0) (.iface 28 (.int .i64 ev))) rfl ⟨rfl, hM.out.below⟩
set_option maxHeartbeats 4000000 in
theorem one_shut {r : Nat → Nat} (U : ∀ j, j < 32 → r j < 18446744073709551616) {t : Nat} (ht : t < 4) {g : Int} (hg : g = 0 ∨ g = 1) (o k x : Int) (h : g = (bt r t : Nat)) (w : World) :
    Calls Tryz.prog 37 #[.agg (rl r).toArray, .agg #[.int .i64 (t : Nat), .int .i64 g, .int .i64 o, .int .i64 k, .int .i64 x]] w (fun e w' => e = .returned (.tuple #[.agg (rl r).toArray, .slice none 0 0, .nilIface]) ∧ Below w.heap.size w w') := by
  have OP : Hid (∀ w : World, _) := open_yes (U 26 (by decide)) ht hg o k x (v := false) ⟨fun _ => h, fun _ => rfl⟩
  clear h hg ht U
  have hM : Hid _ := ((((Ms.nil w).born (rl r) 24 (b := w.heap.size) rfl).born [.int .i64 (t : Nat), .int .i64 g, .int .i64 o, .int .i64 k, .int .i64 x] 52 (b := w.heap.size + 1) (by simp)).bornR rl_zero.symm 24 (b := w.heap.size + 2) (by simp))
  go_enter Tryz.func37, Tryz.ntmps37
  go_wp2_with (first
    | (refine lR rfl (hM.out.at 2 rfl) rfl (rwR r) ?_)
    | (refine lR rfl (hM.out.at 1 rfl) rfl (rwAk t g o k x) ?_))
  generalize World.alloc _ _ = W at hM ⊢
  generalize hsz : w.heap.size = n at hM ⊢
  clear hsz
  refine (OP.out _).mono ?_
  rintro e W ⟨rfl, hb⟩
  replace hM := hid (hM.out.later hb)
  clear hb
  go_wp2_with (first
    | (refine lR rfl (hM.out.at 2 rfl) rfl (rwR r) ?_)
    | (refine sR rfl (hM.out.at 0 rfl) rfl ((rwR wz).len (rwR r)) (rwR r) ?_
       replace hM := hid (hM.out.put 0 rfl (rl r) ((rwR wz).len (rwR r)))
       generalize World.setCells _ _ _ _ = W at hM ⊢))
  exact bodyPost_ret (res1ss Tryz.results37 (hM.out.at 0 rfl) (rwR r) (.slice none 0 0) (.nilIface)) rfl ⟨rfl, hM.out.below⟩
set_option maxHeartbeats 4000000 in
theorem one_not {r : Nat → Nat} (U : ∀ j, j < 32 → r j < 18446744073709551616) {t : Nat} (ht : t < 4) {g : Int} (hg : g = 0 ∨ g = 1) {o k x : Int} (h : ¬ g = (bt r t : Nat)) (hn : ¬ (isRec r ∧ Rt o k x)) (w : World) :
    Calls Tryz.prog 37 #[.agg (rl r).toArray, .agg #[.int .i64 (t : Nat), .int .i64 g, .int .i64 o, .int .i64 k, .int .i64 x]] w (fun e w' => e = .returned (.tuple #[.agg (rl wz).toArray, .slice none 0 0, .iface 28 (.int .i64 1)]) ∧ Below w.heap.size w w') := by
  have OP : Hid (∀ w : World, _) := open_yes (U 26 (by decide)) ht hg o k x (v := true) ⟨fun e => (by cases e), fun e => absurd e h⟩
  have DN : Hid (∀ w : World, Calls Tryz.prog 42 #[.agg (rl r).toArray, .int .i64 (t : Nat), .agg #[.int .i64 o, .int .i64 k, .int .i64 x]] w (fun e w' => e = .returned (.tuple #[.agg (rl wz).toArray, .iface 28 (.int .i64 1)]) ∧ Below w.heap.size w w')) := fun w => by
    by_cases hr : isRec r
    · exact recDone_wrong U ht hr (fun hR => hn ⟨hr, hR⟩) w
    · exact recDone_not U ht hr w
  clear h hg hn ht U
  have hM : Hid _ := ((((Ms.nil w).born (rl r) 24 (b := w.heap.size) rfl).born [.int .i64 (t : Nat), .int .i64 g, .int .i64 o, .int .i64 k, .int .i64 x] 52 (b := w.heap.size + 1) (by simp)).bornR rl_zero.symm 24 (b := w.heap.size + 2) (by simp))
  go_enter Tryz.func37, Tryz.ntmps37
  go_wp2_with (first
    | (refine lR rfl (hM.out.at 2 rfl) rfl (rwR r) ?_)
    | (refine lR rfl (hM.out.at 1 rfl) rfl (rwAk t g o k x) ?_))
  generalize World.alloc _ _ = W at hM ⊢
  generalize hsz : w.heap.size = n at hM ⊢
  clear hsz
  refine (OP.out _).mono ?_
  rintro e W ⟨rfl, hb⟩
  replace hM := hid (hM.out.later hb)
  clear hb
  have c1 := hM.out.cell 1 0 rfl rfl
  go_wp2_with (first
    | (refine lR rfl (hM.out.at 2 rfl) rfl (rwR r) ?_)
    | (refine lO rfl (akOp (hM.out.at 1 rfl)) rfl (rwO o k x) ?_))
  clear c1
  refine (DN.out _).mono ?_
  rintro e W ⟨rfl, hb⟩
  replace hM := hid (hM.out.later hb)
  clear hb
  go_wp2_with (first
    | (refine sR rfl (hM.out.at 2 rfl) rfl ((rwR r).len (rwR wz)) (rwR wz) ?_
       replace hM := hid (hM.out.put 2 rfl (rl wz) ((rwR r).len (rwR wz)))
       generalize World.setCells _ _ _ _ = W at hM ⊢)
    | (refine lR rfl (hM.out.at 2 rfl) rfl (rwR wz) ?_)
    | (refine sR rfl (hM.out.at 0 rfl) rfl ((rwR wz).len (rwR wz)) (rwR wz) ?_
       replace hM := hid (hM.out.put 0 rfl (rl wz) ((rwR wz).len (rwR wz)))
       generalize World.setCells _ _ _ _ = W at hM ⊢))
  exact bodyPost_ret (res1ss Tryz.results37 (hM.out.at 0 rfl) (rwR wz) (.slice none 0 0) (.iface 28 (.int .i64 1))) rfl ⟨rfl, hM.out.below⟩
set_option maxHeartbeats 8000000 in
theorem one_yes {r : Nat → Nat} (U : ∀ j, j < 32 → r j < 18446744073709551616) {t : Nat} (ht : t < 4) {g : Int} (hg : g = 0 ∨ g = 1) {o k x : Int} (h : ¬ g = (bt r t : Nat)) (hr : isRec r) (hR : Rt o k x) (w : World) :
    Calls Tryz.prog 37 #[.agg (rl r).toArray, .agg #[.int .i64 (t : Nat), .int .i64 g, .int .i64 o, .int .i64 k, .int .i64 x]] w (fun e w' => ∃ b, e = .returned (.tuple #[.agg (rl (rdo r t o k x)).toArray, .slice (some ⟨b, 0, none⟩) 1 1, .nilIface]) ∧ w.heap.size ≤ b ∧ Bo w' b (dl t o k x (odo (r 0 : Nat) (ob r) o k x).2.1 (odo (r 0 : Nat) (ob r) o k x).2.2) ∧ Below w.heap.size w w') := by
  have OP : Hid (∀ w : World, _) := open_yes (U 26 (by decide)) ht hg o k x (v := true) ⟨fun e => (by cases e), fun e => absurd e h⟩
  have DN : Hid (∀ w : World, _) := recDone_yes U ht hr hR
  have ft := odo_ft hr.1 hR
  have f := odo_facts hr.1 hR.w1 hR.w6 hR.k0 hR.k1 hR.v0 hR.v1
  have e1 : ((odo (r 0 : Nat) (ob r) o k x).2.1.toNat : Int) = (odo (r 0 : Nat) (ob r) o k x).2.1 := by have := f.code.1; omega
  have e2 : ((odo (r 0 : Nat) (ob r) o k x).2.2.toNat : Int) = (odo (r 0 : Nat) (ob r) o k x).2.2 := by have := f.told.1; omega
  have e3 : rdo r t o k x (18 + t) = ansN (odo (r 0 : Nat) (ob r) o k x).2.1.toNat (odo (r 0 : Nat) (ob r) o k x).2.2.toNat := rdo_a ht
  have AN0 := fun w => recAnswer_yes (r := rdo r t o k x) (rdo_u hr hR ht) ht (by rw [e3]; exact aw_ans ft) w
  rw [e3, (ansN_parts ft).1, (ansN_parts ft).2, e1, e2] at AN0
  have AN : Hid _ := AN0
  clear AN0 e3 ft f
  obtain ⟨q, hq⟩ : ∃ q, q = rdo r t o k x := ⟨_, rfl⟩
  obtain ⟨cc, hcc⟩ : ∃ c, c = (odo (r 0 : Nat) (ob r) o k x).2.1 := ⟨_, rfl⟩
  obtain ⟨y, hy⟩ : ∃ c, c = (odo (r 0 : Nat) (ob r) o k x).2.2 := ⟨_, rfl⟩
  rw [← hq] at DN AN ⊢
  rw [← hcc, ← hy] at AN ⊢
  obtain ⟨nn, hnn⟩ : ∃ c, c = IntKind.i64.wrap (q (22 + t) : Nat) := ⟨_, rfl⟩
  rw [← hnn] at AN
  clear hq hcc hy hnn e1 e2 h hg hr hR ht U
  have hM : Hid _ := ((((Ms.nil w).born (rl r) 24 (b := w.heap.size) rfl).born [.int .i64 (t : Nat), .int .i64 g, .int .i64 o, .int .i64 k, .int .i64 x] 52 (b := w.heap.size + 1) (by simp)).bornR rl_zero.symm 24 (b := w.heap.size + 2) (by simp))
  go_enter Tryz.func37, Tryz.ntmps37
  go_wp2_with (first
    | (refine lR rfl (hM.out.at 2 rfl) rfl (rwR r) ?_)
    | (refine lR rfl (hM.out.at 1 rfl) rfl (rwAk t g o k x) ?_))
  generalize World.alloc _ _ = W at hM ⊢
  generalize hsz : w.heap.size = n at hM ⊢
  have HSZ : Hid _ := hsz
  clear hsz
  refine (OP.out _).mono ?_
  rintro e W ⟨rfl, hb⟩
  replace hM := hid (hM.out.later hb)
  clear hb
  have c1 := hM.out.cell 1 0 rfl rfl
  go_wp2_with (first
    | (refine lR rfl (hM.out.at 2 rfl) rfl (rwR r) ?_)
    | (refine lO rfl (akOp (hM.out.at 1 rfl)) rfl (rwO o k x) ?_))
  clear c1
  refine (DN.out _).mono ?_
  rintro e W ⟨rfl, hb⟩
  replace hM := hid (hM.out.later hb)
  clear hb
  have c2 := hM.out.cell 1 0 rfl rfl
  go_wp2_with (first
    | (refine sR rfl (hM.out.at 2 rfl) rfl ((rwR r).len (rwR q)) (rwR q) ?_
       replace hM := hid (hM.out.put 2 rfl (rl q) ((rwR r).len (rwR q)))
       generalize World.setCells _ _ _ _ = W at hM ⊢
       clear c2
       have c3 := hM.out.cell 1 0 rfl rfl)
    | (refine lR rfl (hM.out.at 2 rfl) rfl (rwR q) ?_))
  clear c3
  refine (AN.out _).mono ?_
  rintro e W ⟨rfl, hb⟩
  replace hM := hid (hM.out.later hb)
  clear hb
  obtain ⟨bx4, hbx4⟩ : ∃ q, q = W.heap.size := ⟨_, rfl⟩
  replace hM := hid (hM.out.born [.int .i64 0, .int .i64 0] 58 (b := bx4) hbx4)
  have Hbx4 : Hid _ := hbx4
  clear hbx4
  go_wp2_with (first
    | (rw [← Hbx4.out]; refine sR rfl (hM.out.at 0 rfl) rfl ((rwA 0 0).len (rwA cc y)) (rwA cc y) ?_
       replace hM := hid (hM.out.put 0 rfl [.int .i64 cc, .int .i64 y] ((rwA 0 0).len (rwA cc y)))
       generalize World.setCells _ _ _ _ = W at hM ⊢))
  replace hM := hid (hM.out.drew)
  refine wp_region_held_drew (S := fun w' => Bo w' n (rl q) ∧ Bo w' (n + 1) [.int .i64 (t : Nat), .int .i64 g, .int .i64 o, .int .i64 k, .int .i64 x] ∧ Bo w' bx4 [.int .i64 cc, .int .i64 y]) (by kernel_rfl) ⟨hM.out.at 3 rfl, hM.out.at 2 rfl, hM.out.at 0 rfl⟩ (fun hH => ?_)
  generalize World.drew _ = W at hM hH  ⊢
  refine tkR 0 rfl hH (fun _ h => h.1) (rwR q) ?_
  simp only [Act.put, p1, p2, p3]
  refine tk 1 rfl hH ?_
  simp only [Act.put, p1, p2, p3]
  refine tk 2 rfl hH ?_ (by intro w h; have c0 := h.2.1.cell 0 _ rfl; clear h; go_simp; try with_reducible rfl)
  simp only [Act.put, p1, p2, p3]
  refine tk 3 rfl hH ?_
  simp only [Act.put, p1, p2, p3]
  refine tkO 4 rfl hH (fun _ h => akOp h.2.1) (rwO o k x) ?_
  simp only [Act.put, p1, p2, p3]
  refine tkR 5 rfl hH (fun _ h => h.2.2) (rwA cc y) ?_
  simp only [Act.put, p1, p2, p3]
  refine tk 6 rfl hH ?_
  simp only [Act.put, p1, p2, p3]
  refine tk 8 rfl hH ?_
  simp only [Act.put, p1, p2, p3]
  refine rdn [7, 9] ?_
  refine rdc rfl (fun K hK => ?_) ?_
  · go_simp
    replace hM := hid (hM.out.born [.int .i64 (t : Nat), .int .i64 o, .int .i64 k, .int .i64 x, .int .i64 cc, .int .i64 y] 60 rfl)
    refine hK.out _ _ ⟨hM.out.at 4 rfl, hM.out.at 3 rfl, hM.out.at 1 rfl⟩ (fun hH => ?_)
    clear hK K
    generalize W.heap.size = bq5 at hM hH ⊢
    generalize World.alloc _ _ = W at hM hH  ⊢
    try simp only [Act.put, p1, p2, p3]
    refine rd1 9 rfl (fun K hK => ?_)
    refine stR rfl (hM.out.at 2 rfl) ((rwR wz).len (rwR q)) (rwR q) ?_
    simp only [Act.put]
    replace hM := hid (hM.out.put 2 rfl (rl q) ((rwR wz).len (rwR q)))
    refine hK.out _ _ ⟨hM.out.at 4 rfl, hM.out.at 3 rfl, hM.out.at 1 rfl⟩ (fun hH => ?_)
    clear hK K
    generalize World.setCells _ _ _ _ = W at hM hH ⊢
    try simp only [Act.put, p1, p2, p3]
    refine tk 10 rfl hH ?_
    simp only [Act.put, p1, p2, p3]
    refine tk 11 rfl hH ?_
    simp only [Act.put, p1, p2, p3]
    refine wpAnyH_done (by kernel_rfl) ?_ _
    go_wp2_with fail
    exact bodyPost_ret (res1ss Tryz.results37 (hM.out.at 2 rfl) (rwR q) (.slice (some ⟨bq5, 0, none⟩) 1 1) (.nilIface)) rfl ⟨_, rfl, by rw [HSZ.out]; exact hM.out.key 0 rfl, (hM.out.at 0 rfl), hM.out.below⟩
  refine rdc rfl (fun K hK => ?_) AllReadyH.nil
  refine stR rfl (hM.out.at 1 rfl) ((rwR wz).len (rwR q)) (rwR q) ?_
  simp only [Act.put]
  replace hM := hid (hM.out.put 1 rfl (rl q) ((rwR wz).len (rwR q)))
  refine hK.out _ _ ⟨hM.out.at 3 rfl, hM.out.at 2 rfl, hM.out.at 0 rfl⟩ (fun hH => ?_)
  clear hK K
  generalize World.setCells _ _ _ _ = W at hM hH ⊢
  try simp only [Act.put, p1, p2, p3]
  refine rd1 7 rfl (fun K hK => ?_)
  go_simp
  replace hM := hid (hM.out.born [.int .i64 (t : Nat), .int .i64 o, .int .i64 k, .int .i64 x, .int .i64 cc, .int .i64 y] 60 rfl)
  refine hK.out _ _ ⟨hM.out.at 4 rfl, hM.out.at 3 rfl, hM.out.at 1 rfl⟩ (fun hH => ?_)
  clear hK K
  generalize W.heap.size = bq5 at hM hH ⊢
  generalize World.alloc _ _ = W at hM hH  ⊢
  try simp only [Act.put, p1, p2, p3]
  refine tk 10 rfl hH ?_
  simp only [Act.put, p1, p2, p3]
  refine tk 11 rfl hH ?_
  simp only [Act.put, p1, p2, p3]
  refine wpAnyH_done (by kernel_rfl) ?_ _
  go_wp2_with fail
  exact bodyPost_ret (res1ss Tryz.results37 (hM.out.at 2 rfl) (rwR q) (.slice (some ⟨bq5, 0, none⟩) 1 1) (.nilIface)) rfl ⟨_, rfl, by rw [HSZ.out]; exact hM.out.key 0 rfl, (hM.out.at 0 rfl), hM.out.below⟩
end Go.Proofs.YteogbpaaacmllaaGreatDoor.Tab
namespace Go.Proofs.YteogbpaaacmllaaGreatDoor.Tab
set_option maxRecDepth 20000
open Go.RowKit
set_option linter.unusedVariables false

/-- Behind what grew a row of its own. -/
theorem Ms.grown {n : Nat} {w W W' : World} {L : List (Nat × List Value)} {o : Option Nat} (h : Ms n w W L []) (hg : W.grownBy W' o) (hn : ∀ g, o = some g → n ≤ g ∧ g ∉ L.map (·.1)) : Ms n w W' L [] where
  gd := ⟨h.gd.1, h.gd.2.grown hg (h.gd.1 ▸ h.le) fun k hk => by have := (hn k hk).1; rw [h.gd.1]; exact this⟩
  bo p hp := (h.bo p hp).keep (hg.block _ (h.bo p hp).lt (fun e => (hn _ e.symm).2 (List.mem_map.2 ⟨p, hp, rfl⟩))) (Nat.lt_of_lt_of_le (h.bo p hp).lt hg.size)
  ge := h.ge
  nd := h.nd
  li := by intro q hq; cases hq

/-- What was done of one ask, as it lies. -/
def Dn (W : World) (u : Value) (l : List DD) : Prop := (u = .slice none 0 0 ∧ l = []) ∨ ∃ g d, u = .slice (some ⟨g, 0, none⟩) 1 1 ∧ l = [d] ∧ Bo W g d.row
section
variable {W W' : World} {u : Value} {l : List DD}
theorem Dn.keep (h : Dn W u l) (hb : ∀ g, u.ownBlock = some g → W'.heap[g]? = W.heap[g]?) (hs : W.heap.size ≤ W'.heap.size) : Dn W' u l := by
  rcases h with h | ⟨g, d, hu, hl, hB⟩
  · exact .inl h
  · exact .inr ⟨g, d, hu, hl, hB.keep (hb g (by rw [hu]; rfl)) (Nat.lt_of_lt_of_le hB.lt hs)⟩
theorem Dn.lt (h : Dn W u l) : ∀ g, u.ownBlock = some g → g < W.heap.size := by
  intro g hg
  rcases h with ⟨rfl, _⟩ | ⟨g2, d, rfl, _, hB⟩
  · cases hg
  · cases hg; exact hB.lt
theorem Dn.later (h : Dn W u l) (hb : Below W.heap.size W W') : Dn W' u l := h.keep (fun g hg => hb.block g (h.lt g hg)) hb.size
theorem Dn.new (h : Dn W u l) (o : Obj) : Dn (W.alloc o) u l := h.later (new_below W o)
theorem Dn.drew (h : Dn W u l) : Dn W.drew u l := h.keep (fun _ _ => rfl) (Nat.le_refl _)
theorem Dn.asideL (h : Dn W u l) {c : Nat} (hc : ∀ g, u.ownBlock = some g → g ≠ c) (o : Nat) (vs : List Value) : Dn (W.setCells c o vs) u l := h.keep (fun g hg => heap_setCells (hc g hg) _ _ _) (by rw [size_setCells]; exact Nat.le_refl _)
end
theorem Odd.aside1 {B : Nat} {W : World} {v : Value} {l : List DD} (h : Odd B W v l) {c : Nat} (hc : c < B) (j : Nat) (u : Value) : Odd B (W.setCell ⟨c, j, none⟩ u) v l := h.keep fun g hg => Below.heap_setCell _ _ _ _ (show g ≠ c by have := (h.lt g hg).1; omega)
theorem Odd.drew {B : Nat} {W : World} {v : Value} {l : List DD} (h : Odd B W v l) : Odd B W.drew v l := h.keep fun _ _ => rfl
theorem Odd.mono {A B : Nat} {W : World} {v : Value} {l : List DD} (h : Odd B W v l) (hA : A ≤ B) : Odd A W v l := by
  refine ⟨h.1, ?_⟩
  rcases h.2 with e | ⟨g, cap, cur, hv, h1, h3⟩
  · exact .inl e
  · exact .inr ⟨g, cap, cur, hv, Nat.le_trans hA h1, h3⟩
theorem Odd.app {B : Nat} {W : World} {v u : Value} {l m : List DD} (h : Odd B W v l) (hB : B ≤ W.heap.size) (hu : Dn W u m) (hn : l.length ≤ 1000000) (ty : TypeId) :
    ∃ v' W', (Builtin.append_ #[27, 27] ty #[v, u]).run Tryz.prog W = .ok v' W' ∧ Odd B W' v' (l ++ m) ∧ W.grownBy W' v.ownBlock := by
  obtain ⟨i0, hi, hz0, hz1, hz2⟩ := info_parts infoDeed
  rcases hu with ⟨rfl, rfl⟩ | ⟨g, d, rfl, rfl, hG⟩
  · refine ⟨v, W, ?_, by rw [List.append_nil]; exact h, ⟨rfl, rfl, rfl, Nat.le_refl _, fun _ _ _ => rfl⟩⟩
    rcases h.2 with ⟨rfl, _⟩ | ⟨g, cap, cur, rfl, hb, hg, hn, hm, hs, ht⟩
    · simp [Builtin.append_, run_underlying deeds_desc, sizeOf, typeInfo, hi, Builtin.lenOf, Builtin.firstCells]
    · simp [Builtin.append_, run_underlying deeds_desc, sizeOf, typeInfo, hi, Builtin.lenOf, Builtin.firstCells, hn, storeCells]
  · obtain ⟨v', w', hr, ho, hg, _⟩ := run_append_own (P := Tryz.prog) (w := W) B 27 ty 60 i0 (.agg #[.int .i64 0, .int .i64 0, .int .i64 0, .int .i64 0, .int .i64 0, .int .i64 0]) 6 48 deeds_desc hi hz0 hz1 hz2 rfl (by decide) v l.length (dds l) h ⟨g, 0, none⟩ 1 1 d.row rfl
      (fun j u hu => by rw [Addr.add_lit, Nat.zero_add]; exact hG.cell j u hu)
      (fun u hu => by simp [DD.row, dl] at hu; rcases hu with rfl | rfl | rfl | rfl | rfl | rfl <;> rfl) (by unfold maxLen; omega) (by omega) hB
    refine ⟨v', w', hr, ?_, hg⟩
    unfold Odd
    rw [dds_app, List.length_append]
    exact ho
/-- append, as a step. -/
theorem apK {P : Program} {o : Oper} {a : Act} {w w' : World} {K : Act → World → Prop} {Q : Exit → Act → World → Prop} {dT sT : TypeId} {x y : Operand} (ho : o.op = .call { callee := .builtin .append, args := #[x, y], argTypes := #[dT, sT] })
    {v u v' : Value} (hr : (Builtin.append_ #[dT, sT] o.type #[v, u]).run P w = .ok v' w') (k : K (a.put o.dst v') w') (hx : a.eval x = v := by rfl) (hy : a.eval y = u := by rfl) : o.wp P a w K Q := by
  unfold Oper.wp execOp
  simp only [ho, resolve, invoke, builtin, Sem.run_bind, Sem.run_pure, Result.andThen_ok, List.map_toArray, List.map_cons, List.map_nil, hx, hy, hr]
  exact k
end Go.Proofs.YteogbpaaacmllaaGreatDoor.Tab
namespace Go.Proofs.YteogbpaaacmllaaGreatDoor
set_option maxRecDepth 20000
open Go.RowKit Go.Extern.Stop Go.Stop Go.Extern

theorem As.valueOfP (t : Addr) (w : World) : (ReflectliteValue.unpack (.iface 122 (.pointer (some t)))).run Tryz.prog w
    = .ok (.agg #[.pointer (some ⟨1, 122, none⟩), .pointer (some ⟨w.heap.size, 0, none⟩), .int .u64 150]) (w.alloc (.cells #[.pointer (some t)] 122)) := by kernel_rfl
theorem As.typeP (a : Addr) (w : World) : (ReflectliteValue.methodAny (ReflectliteValue.valueError "reflectlite.Value.Type" 0) (fun t _ _ _ => ReflectliteType.toType t) #[.agg #[.pointer (some ⟨1, 122, none⟩), .pointer (some a), .int .u64 150]]).run Tryz.prog w
    = .ok (.iface 177 (.agg #[.pointer (some ⟨1, 122, none⟩)])) w := by kernel_rfl
theorem As.methodKind (h : Value) (w : World) : (Go.method 336 177 (.agg #[h]) "Kind").run Tryz.prog w = .ok (152, h) w := by kernel_rfl
theorem As.kindP (w : World) : ((ReflectliteType.abiMethod fun t => (fun a : Nat => Value.int IntKind.u8 (a : Int)) <$> Rtype.kind t) #[.pointer (some ⟨1, 122, none⟩)]).run Tryz.prog w = .ok (.int .u8 22) w := by kernel_rfl
theorem As.kindE (w : World) : ((ReflectliteType.abiMethod fun t => (fun a : Nat => Value.int IntKind.u8 (a : Int)) <$> Rtype.kind t) #[.pointer (some ⟨1, 28, none⟩)]).run Tryz.prog w = .ok (.int .u8 2) w := by kernel_rfl

theorem As.partsP (a : Addr) (w : World) : (ReflectliteValue.parts (.agg #[.pointer (some ⟨1, 122, none⟩), .pointer (some a), .int .u64 150])).run Tryz.prog w = .ok (some (122, a, 150)) w := by kernel_rfl
theorem As.isNilP (a p : Addr) (W : World) (ha : W.cell? a = some (.pointer (some p))) :
    (ReflectliteValue.method (ReflectliteValue.valueError "reflectlite.Value.IsNil" 0) ReflectliteValue.isNil #[.agg #[.pointer (some ⟨1, 122, none⟩), .pointer (some a), .int .u64 150]]).run Tryz.prog W = .ok (.bool false) W := by
  delta ReflectliteValue.method ReflectliteValue.method.match_2
  simp [Array.getLit, As.partsP, ReflectliteValue.isNil, loadVar, isAgg, underlying, Tryz.underlying122, ha, Result.andThen]

theorem As.methodElem (h : Value) (w : World) : (Go.method 336 177 (.agg #[h]) "Elem").run Tryz.prog w = .ok (165, .agg #[h]) w := by kernel_rfl
theorem As.methodImplements (h : Value) (w : World) : (Go.method 336 177 (.agg #[h]) "Implements").run Tryz.prog w = .ok (166, .agg #[h]) w := by kernel_rfl
theorem As.methodAssignableTo (h : Value) (w : World) : (Go.method 336 177 (.agg #[h]) "AssignableTo").run Tryz.prog w = .ok (163, .agg #[h]) w := by kernel_rfl
theorem As.elemP (w : World) : (ReflectliteType.method ReflectliteType.elem #[.agg #[.pointer (some ⟨1, 122, none⟩)]]).run Tryz.prog w = .ok (.iface 177 (.agg #[.pointer (some ⟨1, 28, none⟩)])) w := by kernel_rfl
theorem As.implementsE (w : World) : (ReflectliteType.relation "Implements" ReflectliteType.implements_ #[.agg #[.pointer (some ⟨1, 28, none⟩)], .iface 177 (.agg #[.pointer (some ⟨1, 34, none⟩)])]).run Tryz.prog w = .ok (.bool true) w := by kernel_rfl
theorem As.typeOfE (v : Value) (w : World) : (ReflectliteType.typeOf #[.iface 28 v]).run Tryz.prog w = .ok (.iface 177 (.agg #[.pointer (some ⟨1, 28, none⟩)])) w := by kernel_rfl
theorem As.assignableE (w : World) : (ReflectliteType.relation "AssignableTo" ReflectliteType.assignableTo #[.agg #[.pointer (some ⟨1, 28, none⟩)], .iface 177 (.agg #[.pointer (some ⟨1, 28, none⟩)])]).run Tryz.prog w = .ok (.bool true) w := by kernel_rfl
theorem As.valueOfE (n : Int) (w : World) : (ReflectliteValue.unpack (.iface 28 (.int .i64 n))).run Tryz.prog w
    = .ok (.agg #[.pointer (some ⟨1, 28, none⟩), .pointer (some ⟨w.heap.size, 0, none⟩), .int .u64 130]) (w.alloc (.cells #[.int .i64 n] 28)) := by kernel_rfl
theorem As.elemOfP (w : World) : (Rtype.elem? 122).run Tryz.prog w = .ok (some 28) w := by kernel_rfl
theorem As.mkE (p : Addr) (w : World) : (ReflectliteValue.mk 28 p ReflectliteValue.flagAddr).run Tryz.prog w = .ok (.agg #[.pointer (some ⟨1, 28, none⟩), .pointer (some p), .int .u64 386]) w := by kernel_rfl
theorem As.elemVP (a p : Addr) (W : World) (ha : W.cell? a = some (.pointer (some p))) :
    (ReflectliteValue.method (ReflectliteValue.valueError "reflectlite.Value.Elem" 0) ReflectliteValue.elem #[.agg #[.pointer (some ⟨1, 122, none⟩), .pointer (some a), .int .u64 150]]).run Tryz.prog W
      = .ok (.agg #[.pointer (some ⟨1, 28, none⟩), .pointer (some p), .int .u64 386]) W := by
  delta ReflectliteValue.method ReflectliteValue.method.match_2
  simp [Array.getLit, As.partsP, ReflectliteValue.elem, loadVar, isAgg, underlying, Tryz.underlying122, ha, Result.andThen, As.elemOfP, As.mkE]
theorem As.partsEa (a : Addr) (w : World) : (ReflectliteValue.parts (.agg #[.pointer (some ⟨1, 28, none⟩), .pointer (some a), .int .u64 386])).run Tryz.prog w = .ok (some (28, a, 386)) w := by kernel_rfl
theorem As.partsE (a : Addr) (w : World) : (ReflectliteValue.parts (.agg #[.pointer (some ⟨1, 28, none⟩), .pointer (some a), .int .u64 130])).run Tryz.prog w = .ok (some (28, a, 130)) w := by kernel_rfl
theorem As.directE (w : World) : (Rtype.directlyAssignable 28 28).run Tryz.prog w = .ok true w := by kernel_rfl
theorem As.setE (ta b : Addr) (n : Int) (old : Value) (W : World) (hb : W.cell? b = some (.int .i64 n)) (ht : W.cell? ta = some old) (hf : W.frozen? ta = false) :
    (ReflectliteValue.set #[.agg #[.pointer (some ⟨1, 28, none⟩), .pointer (some ta), .int .u64 386], .agg #[.pointer (some ⟨1, 28, none⟩), .pointer (some b), .int .u64 130]]).run Tryz.prog W
      = .ok (.tuple #[]) (W.setCell ta (.int .i64 n)) := by
  delta ReflectliteValue.set ReflectliteValue.set.match_3
  simp [Array.getLit, As.partsEa, As.partsE, ReflectliteValue.flagAddr, loadVar, isAgg, underlying, Tryz.underlying28, hb, Result.andThen, As.directE, storeVar, Value.cells, storeCells, Addr.add]
  rw [run_store Tryz.prog W ta _ _ (by rfl)]
  simp [ht, hf]

set_option maxHeartbeats 4000000 in
theorem as_errno (n : Int) (t : Addr) (old : Value) (w : World) (hg : w.cell? ⟨0, 0, none⟩ = some (.iface 177 (.agg #[.pointer (some ⟨1, 34, none⟩)]))) (ht0 : w.cell? t = some old) (hf0 : w.frozen? t = false) :
    Calls Tryz.prog 64 #[.iface 28 (.int .i64 n), .iface 122 (.pointer (some t))] w fun ev w' => ev = .returned (.bool true) ∧ w' = ((((w.alloc (.cells #[.pointer (some t)] 122)).alloc (.cells #[.pointer (some ⟨1, 122, none⟩), .pointer (some ⟨w.heap.size, 0, none⟩), .int .u64 150] 150)).alloc (.cells #[.pointer (some ⟨1, 122, none⟩), .pointer (some ⟨w.heap.size, 0, none⟩), .int .u64 150] 150)).alloc (.cells #[.int .i64 n] 28)).setCell t (.int .i64 n) := by
  have hF0 := @run_callFunc_extern Tryz.prog 88 _ (fun args => ReflectliteValue.unpack (args.getD 0 (.tuple #[]))) Tryz.func88 (by kernel_rfl) (by kernel_rfl) (by kernel_rfl) (by kernel_rfl)
  have hF1 := @run_callFunc_extern Tryz.prog 89 _ (ReflectliteValue.methodAny (ReflectliteValue.valueError "reflectlite.Value.Type" 0) (fun t _ _ _ => ReflectliteType.toType t)) Tryz.func89 (by kernel_rfl) (by kernel_rfl) (by kernel_rfl) (by kernel_rfl)
  have hF2 := @run_callFunc_extern Tryz.prog 90 _ (ReflectliteValue.method (ReflectliteValue.valueError "reflectlite.Value.IsNil" 0) ReflectliteValue.isNil) Tryz.func90 (by kernel_rfl) (by kernel_rfl) (by kernel_rfl) (by kernel_rfl)
  have hF3 := @run_callFunc_extern Tryz.prog 152 _ (ReflectliteType.abiMethod fun t => do pure (.int .u8 (← Rtype.kind t))) Tryz.func152 (by kernel_rfl) (by kernel_rfl) (by kernel_rfl) (by kernel_rfl)
  have hF4 := @run_callFunc_extern Tryz.prog 165 _ (ReflectliteType.method ReflectliteType.elem) Tryz.func165 (by kernel_rfl) (by kernel_rfl) (by kernel_rfl) (by kernel_rfl)
  have hF5 := @run_callFunc_extern Tryz.prog 166 _ (ReflectliteType.relation "Implements" ReflectliteType.implements_) Tryz.func166 (by kernel_rfl) (by kernel_rfl) (by kernel_rfl) (by kernel_rfl)
  have hF6 := @run_callFunc_extern Tryz.prog 104 _ ReflectliteType.typeOf Tryz.func104 (by kernel_rfl) (by kernel_rfl) (by kernel_rfl) (by kernel_rfl)
  have hF7 := @run_callFunc_extern Tryz.prog 163 _ (ReflectliteType.relation "AssignableTo" ReflectliteType.assignableTo) Tryz.func163 (by kernel_rfl) (by kernel_rfl) (by kernel_rfl) (by kernel_rfl)
  have hF8 := @run_callFunc_extern Tryz.prog 105 _ (ReflectliteValue.method (ReflectliteValue.valueError "reflectlite.Value.Elem" 0) ReflectliteValue.elem) Tryz.func105 (by kernel_rfl) (by kernel_rfl) (by kernel_rfl) (by kernel_rfl)
  have hF9 := @run_callFunc_extern Tryz.prog 106 _ ReflectliteValue.set Tryz.func106 (by kernel_rfl) (by kernel_rfl) (by kernel_rfl) (by kernel_rfl)
  have tO := As.typeOfE
  have mA := As.methodAssignableTo
  have aE := As.assignableE
  have vE := As.valueOfE
  have vP := As.valueOfP
  have tP := As.typeP
  have mK := As.methodKind
  have mE := As.methodElem
  have mI := As.methodImplements
  have kP := As.kindP
  have kE := As.kindE
  have eP := As.elemP
  have iE := As.implementsE
  have n8 := As.isNilP ⟨w.heap.size, 0, none⟩ t ((w.alloc (.cells #[.pointer (some t)] 122)).alloc (.cells #[.pointer (some ⟨1, 122, none⟩), .pointer (some ⟨w.heap.size, 0, none⟩), .int .u64 150] 150)) (by simp)
  have hlt : 0 < w.heap.size := by
    rcases Nat.lt_or_ge 0 w.heap.size with h | h
    · exact h
    · simp [World.cell?, Array.getElem?_eq_none h] at hg
  have hg2 : ((w.alloc (.cells #[.pointer (some t)] 122)).alloc (.cells #[.pointer (some ⟨1, 122, none⟩), .pointer (some ⟨w.heap.size, 0, none⟩), .int .u64 150] 150)).cell? ⟨0, 0, none⟩ = some (.iface 177 (.agg #[.pointer (some ⟨1, 34, none⟩)])) := by
    rw [World.cell?_alloc_lt _ _ ⟨0, 0, none⟩ (by simp <;> omega), World.cell?_alloc_lt _ _ ⟨0, 0, none⟩ hlt]; exact hg
  have htl : t.block < w.heap.size := by
    rcases Nat.lt_or_ge t.block w.heap.size with h | h
    · exact h
    · simp [World.cell?, Array.getElem?_eq_none h] at ht0
  have el := As.elemVP ⟨w.heap.size, 0, none⟩ t (((w.alloc (.cells #[.pointer (some t)] 122)).alloc (.cells #[.pointer (some ⟨1, 122, none⟩), .pointer (some ⟨w.heap.size, 0, none⟩), .int .u64 150] 150)).alloc (.cells #[.pointer (some ⟨1, 122, none⟩), .pointer (some ⟨w.heap.size, 0, none⟩), .int .u64 150] 150)) (by rw [World.cell?_alloc_lt _ _ ⟨w.heap.size, 0, none⟩ (by simp; omega)]; simp)
  have st := As.setE t ⟨w.heap.size + 1 + 1 + 1, 0, none⟩ n old ((((w.alloc (.cells #[.pointer (some t)] 122)).alloc (.cells #[.pointer (some ⟨1, 122, none⟩), .pointer (some ⟨w.heap.size, 0, none⟩), .int .u64 150] 150)).alloc (.cells #[.pointer (some ⟨1, 122, none⟩), .pointer (some ⟨w.heap.size, 0, none⟩), .int .u64 150] 150)).alloc (.cells #[.int .i64 n] 28))
    (by rw [World.cell?_alloc_at _ _ _ _ (by simp)]; rfl)
    (by rw [World.cell?_alloc_lt _ _ t (by simp; omega), World.cell?_alloc_lt _ _ t (by simp; omega), World.cell?_alloc_lt _ _ t (by simp; omega), World.cell?_alloc_lt _ _ t htl]; exact ht0)
    (by rw [World.frozen?_alloc_old _ _ t (by simp; omega), World.frozen?_alloc_old _ _ t (by simp; omega), World.frozen?_alloc_old _ _ t (by simp; omega), World.frozen?_alloc_old _ _ t (Nat.ne_of_lt htl)]; exact hf0)
  go_enter Tryz.func64, Tryz.ntmps64
  go_wp2
  refine wp_loop_rounds 1 ?_
  rw [rounds_succ]
  go_wp2
  go_ret
  exact ⟨rfl, rfl⟩
end Go.Proofs.YteogbpaaacmllaaGreatDoor
namespace Go.Proofs.YteogbpaaacmllaaGreatDoor
set_option maxRecDepth 20000
open Go.RowKit

/-- The library's handle of the type error in its variable. -/
def HandleAt (w : World) : Prop := w.cell? ⟨0, 0, none⟩ = some (.iface 177 (.agg #[.pointer (some ⟨1, 34, none⟩)]))

theorem size_of_cell' {w : World} {b o : Nat} {v : Value} (h : w.cell? ⟨b, o, none⟩ = some v) : b < w.heap.size := by
  by_cases hb : b < w.heap.size
  · exact hb
  · have e : w.heap[b]? = none := by simp; omega
    simp [World.cell?, e] at h

theorem HandleAt.later {w w' : World} (h : HandleAt w) (g : Gr w w') : HandleAt w' := (g.cell (size_of_cell' h)).trans h

theorem tell_nil (w : World) : Calls Tryz.prog 38 #[.nilIface] w fun e w' => e = .returned (.int .i64 0) ∧ w' = w := by
  go_enter Tryz.func38, Tryz.ntmps38
  go_wp2
  go_ret
  exact ⟨rfl, rfl⟩

theorem as_errno' (n : Int) (t : Addr) (old : Value) (w : World) (hg : HandleAt w) (ht0 : w.cell? t = some old) (hf0 : w.frozen? t = false) :
    Calls Tryz.prog 64 #[.iface 28 (.int .i64 n), .iface 122 (.pointer (some t))] w fun e w' => e = .returned (.bool true) ∧ ∃ W, Gr w W ∧ w' = W.setCell t (.int .i64 n) :=
  (as_errno n t old w hg ht0 hf0).mono fun _ _ ⟨he, hw⟩ => ⟨he, _, ((((Gr.refl w).alloc _ _).alloc _ _).alloc _ _).alloc _ _, hw⟩

theorem tell_errno (n : Int) (w : World) (hH : HandleAt w) :
    Calls Tryz.prog 38 #[.iface 28 (.int .i64 n)] w fun e w' => e = .returned (.int .i64 n) ∧ Gr w w' := by
  have H1 : Hid (HandleAt (w.alloc (.cells #[.int .i64 0] 28))) := hH.later ((Gr.refl w).alloc _ _)
  clear hH
  go_enter Tryz.func38, Tryz.ntmps38
  go_wp2_with fail
  refine (as_errno' n ⟨w.heap.size, 0, none⟩ (.int .i64 0) _ H1.out (by simp) ((frozen?_alloc_cells _ _ _ _).trans (frozen_past w (Nat.le_refl _)))).mono ?_
  rintro e w' ⟨rfl, W, hW, rfl⟩
  have hc : (W.setCell ⟨w.heap.size, 0, none⟩ (.int .i64 n)).cell? ⟨w.heap.size, 0, none⟩ = some (.int .i64 n) := by
    refine World.cell?_setCell_same _ _ _ (u := .int .i64 0) ?_
    rw [hW.cell (by simp)]
    simp
  have hG : Gr w (W.setCell ⟨w.heap.size, 0, none⟩ (.int .i64 n)) := (((Gr.refl w).alloc _ _).trans hW).setCell (Nat.le_refl _) _
  generalize W.setCell ⟨w.heap.size, 0, none⟩ (.int .i64 n) = W2 at hc hG
  clear hW H1
  go_wp2
  go_ret
  exact ⟨rfl, hG⟩

theorem place_nil (w : World) : Calls Tryz.prog 39 #[.nilIface] w fun e w' => e = .returned (.tuple #[.int .i64 0, .int .i64 (-1)]) ∧ w' = w := by
  go_enter Tryz.func39, Tryz.ntmps39
  go_wp2_with fail
  refine (tell_nil _).mono ?_
  rintro e w' ⟨rfl, rfl⟩
  go_wp2_with fail
  refine wp_loop_rounds 1 ?_
  rw [rounds_succ]
  go_wp2
  go_ret2
  exact ⟨rfl, rfl⟩

theorem noAt (n : Int) (w : World) : (Instr.typeAssert (.iface 28 (.int .i64 n)) 34 87 true).run Tryz.prog w = .ok (.tuple #[.pointer none, .bool false]) w := by kernel_rfl
theorem noUnwrap (n : Int) (w : World) : (Instr.typeAssert (.iface 28 (.int .i64 n)) 34 124 true).run Tryz.prog w = .ok (.tuple #[.nilIface, .bool false]) w :=
  run_typeAssert_lacksB Tryz.underlying124 (by kernel_rfl) (by kernel_rfl) _ _ w

theorem place_errno (n : Int) (w : World) (hH : HandleAt w) :
    Calls Tryz.prog 39 #[.iface 28 (.int .i64 n)] w fun e w' => e = .returned (.tuple #[.int .i64 n, .int .i64 (-1)]) ∧ Gr w w' := by
  have h1 := noAt n
  have h2 := noUnwrap n
  go_enter Tryz.func39, Tryz.ntmps39
  go_wp2_with fail
  refine (tell_errno n _ hH).mono ?_
  rintro e w' ⟨rfl, hG⟩
  clear hH
  go_wp2_with fail
  refine wp_loop_rounds 1 ?_
  rw [rounds_succ]
  go_wp2
  go_ret2
  exact ⟨rfl, hG⟩

end Go.Proofs.YteogbpaaacmllaaGreatDoor
namespace Go.Proofs.YteogbpaaacmllaaGreatDoor
set_option maxRecDepth 20000
open Go.RowKit Go.Extern.Stop Go.Stop Go.Extern

/-- An error at a place. -/
def atV (b : Nat) : Value := .iface 87 (.pointer (some ⟨b, 0, none⟩))
theorem At.typeOf (v : Value) (w : World) : (ReflectliteType.typeOf #[.iface 87 v]).run Tryz.prog w = .ok (.iface 177 (.agg #[.pointer (some ⟨1, 87, none⟩)])) w := by kernel_rfl
theorem At.assignable (w : World) : (ReflectliteType.relation "AssignableTo" ReflectliteType.assignableTo #[.agg #[.pointer (some ⟨1, 87, none⟩)], .iface 177 (.agg #[.pointer (some ⟨1, 28, none⟩)])]).run Tryz.prog w = .ok (.bool false) w := by kernel_rfl
theorem At.unwraps (v : Value) (w : World) : (Instr.typeAssert (.iface 87 v) 34 124 true).run Tryz.prog w = .ok (.tuple #[.iface 87 v, .bool true]) w :=
  run_typeAssert_hasB Tryz.underlying124 (by kernel_rfl) v _ w
theorem At.lacksAs (v : Value) (w : World) : (Instr.typeAssert (.iface 87 v) 34 182 true).run Tryz.prog w = .ok (.tuple #[.nilIface, .bool false]) w :=
  run_typeAssert_lacksB Tryz.underlying182 (by kernel_rfl) (by kernel_rfl) _ _ w
theorem At.methodUnwrap (h : Value) (w : World) : (Go.method 336 87 h "Unwrap").run Tryz.prog w = .ok (158, h) w := by kernel_rfl
theorem At.isAt (v : Value) (w : World) : (Instr.typeAssert (.iface 87 v) 34 87 true).run Tryz.prog w = .ok (.tuple #[v, .bool true]) w := by kernel_rfl
theorem At.unwrap (n : Int) (b : Nat) (w : World) (hc : w.cell? ⟨b, 0, none⟩ = some (.int .i64 n)) :
    Calls Tryz.prog 158 #[.pointer (some ⟨b, 0, none⟩)] w fun e w' => e = .returned (.iface 28 (.int .i64 n)) ∧ w' = w := by
  go_enter Tryz.func158, Tryz.ntmps158
  go_wp2
  go_ret
  exact ⟨rfl, rfl⟩
end Go.Proofs.YteogbpaaacmllaaGreatDoor
namespace Go.Proofs.YteogbpaaacmllaaGreatDoor
set_option maxRecDepth 20000
open Go.RowKit
theorem HandleAt.below {w a : World} (h : HandleAt w) (g : Below w.heap.size w a) : HandleAt a := by
  have h' : w.cell? ⟨0, 0, none⟩ = _ := h
  exact (g.cell (p := ⟨0, 0, none⟩) (size_of_cell' h')).trans h'
end Go.Proofs.YteogbpaaacmllaaGreatDoor
