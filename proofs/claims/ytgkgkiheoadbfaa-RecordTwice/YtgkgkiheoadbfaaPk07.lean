/- Texts laid together: Package record: Done, by its contract; Package word: inside, Bit, Flip, by their contracts; Package record: Toggle, by its contract; Package record: Answer, by its contract; The keepers recorded, by its contract; The keepers written, by its contract; Words of objects held against each other. -/
import Derived.Test.YtgkgkiheoadbfaaPk06
import Derived.Deep.DeepCutAuto
import Derived.Deep.RegionHeld3
import Derived.WalkKit
import Derived.Test.YtgkgkiheoadbfaaPk04
import Derived.Test.YtgkgkiheoadbfaaPk01
import Derived.Test.YtgkgkiheoadbfaaPk03
import Derived.ChangeKeysEq
namespace Go.Proofs.Ytgkgkiheoadbfaa.Tab
set_option maxRecDepth 20000
open Go.RowKit
set_option linter.unusedVariables false

set_option maxHeartbeats 8000000 in
theorem recDone_yes {r : Nat → Nat} (U : ∀ j, j < 32 → r j < 18446744073709551616) {t : Nat} (ht : t < 4) {o k x : Int} (hr : isRec r) (hR : Rt o k x) (w : World) :
    Calls Try.prog 18 #[.agg (rl r).toArray, .int .i64 (t : Nat), .agg #[.int .i64 o, .int .i64 k, .int .i64 x]] w (fun e w' => e = .returned (.tuple #[.agg (rl (rdo r t o k x)).toArray, .nilIface]) ∧ Below w.heap.size w w') := by
  have IT : Hid (∀ w : World, _) := isThread_yes (t := (t : Nat)) (by omega) (by omega)
  have RI : Hid (∀ w : World, _) := recRight_is U (v := true) ⟨fun _ => hr, fun _ => rfl⟩
  obtain ⟨q, hq⟩ : ∃ q, q = min (r 0) 4294967296 := ⟨_, rfl⟩
  have KI : Hid (∀ w : World, _) := recKind_is r hq
  have eq : q = r 0 := by have h1 := hr.ob1.2; omega
  have OJ : Hid (∀ w : World, _) := recObject_is r
  rw [eq] at KI
  clear hq eq
  obtain ⟨⟨d, ci, yi⟩, hu⟩ : ∃ u, odo (r 0 : Nat) (ob r) o k x = u := ⟨_, rfl⟩
  have ft := odo_ft hr.1 hR
  have f := odo_facts hr.1 hR.w1 hR.w6 hR.k0 hR.k1 hR.v0 hR.v1
  have DD : Hid (∀ w, _) := fun w => obDo_is hr.1 hR w
  unfold DidD at DD
  rw [hu] at f ft DD
  have ec : ci = ((ci.toNat : Nat) : Int) := by have := f.code.1; dsimp only at this; omega
  have ey : yi = ((yi.toNat : Nat) : Int) := by have := f.told.1; dsimp only at this; omega
  dsimp only at ft DD
  generalize ci.toNat = cc at *
  generalize yi.toNat = y at *
  subst ec ey
  have hrow := rdo_row ht hu
  have AI : Hid (∀ w, _) := fun w => answer_yes ft w
  have FI : Hid (∀ w : World, _) := fun w => Flip_yes (r 26) t w (U 26 (by decide)) (by omega)
  have hc28 := hr.2.2.2.2.2.2
  rw [← hrow]
  clear hrow hu ft f
  have fa0 : (0 : Int) ≤ 18 + (t : Int) := by omega
  have fa1 : 18 + (t : Int) < 32 := by omega
  have fa2 : IntKind.i64.wrap (18 + (t : Int)) = 18 + t := by rw [IntKind.wrap_i64]; omega
  have fa3 : wrap64 (18 + (t : Int)) = 18 + t := by unfold wrap64; omega
  have fa4 : (18 + (t : Int)).toNat = 18 + t := by omega
  have fb0 : (0 : Int) ≤ 22 + (t : Int) := by omega
  have fb1 : 22 + (t : Int) < 32 := by omega
  have fb2 : IntKind.i64.wrap (22 + (t : Int)) = 22 + t := by rw [IntKind.wrap_i64]; omega
  have fb3 : wrap64 (22 + (t : Int)) = 22 + t := by unfold wrap64; omega
  have fb4 : (22 + (t : Int)).toNat = 22 + t := by omega
  obtain ⟨c, hc⟩ : ∃ c, r 28 = c := ⟨_, rfl⟩
  obtain ⟨a, ha⟩ : ∃ a, r 26 = a := ⟨_, rfl⟩
  rw [hc] at hc28 ⊢
  rw [ha] at FI ⊢
  obtain ⟨c1, hc1⟩ : ∃ c1, c + 1 = c1 := ⟨_, rfl⟩
  obtain ⟨g, hg⟩ : ∃ g, a ^^^ 2 ^ t = g := ⟨_, rfl⟩
  obtain ⟨aw, haw⟩ : ∃ aw, ansN cc y = aw := ⟨_, rfl⟩
  have w1 : IntKind.u64.wrap ((c : Int) + 1) = (c1 : Nat) := by rw [IntKind.wrap_u64]; omega
  have l1 : Hid (wo r d 28 = c) := (wo_hi (by decide)).trans hc
  have l2 : Hid (upw (upw (wo r d) 28 c1) (18 + t) aw 28 = c1) := (upw_ne (by omega)).trans upw_eq
  have l3 : Hid (upw (upw (upw (wo r d) 28 c1) (18 + t) aw) (22 + t) c1 26 = a) := by show _ = _; rw [upw_ne (by omega), upw_ne (by omega), upw_ne (by omega), wo_hi (by decide), ha]
  have b18 : 18 + t < 32 := by omega
  have b22 : 22 + t < 32 := by omega
  rw [hg] at FI
  rw [haw] at AI
  rw [hc1, hg, haw]
  clear hc ha hc1 hg haw hc28 hr hR U ht
  have hM : Hid _ := ((((Ms.nil w).born (rl r) 24 (b := w.heap.size) rfl).born [.int .i64 o, .int .i64 k, .int .i64 x] 54 (b := w.heap.size + 1) (by simp)).bornR rl_zero.symm 24 (b := w.heap.size + 2) (by simp))
  have c1 := hM.out.cell 1 0 rfl rfl
  have c2 := hM.out.cell 1 1 rfl rfl
  have c3 := hM.out.cell 1 2 rfl rfl
  go_enter Try.func18, Try.ntmps18
  go_wp2_with fail
  refine (IT.out _).mono ?_
  rintro e ux ⟨rfl, hw⟩
  rw [hw]; clear hw ux
  go_wp2_with (first
    | (refine lR rfl (hM.out.at 2 rfl) rfl (rwR r) ?_))
  clear c1 c2 c3
  generalize World.alloc _ _ = W at hM ⊢
  generalize hsz : w.heap.size = n at hM ⊢
  clear hsz
  refine (RI.out _).mono ?_
  rintro e W ⟨rfl, hb⟩
  replace hM := hid (hM.out.later hb)
  clear hb
  go_wp2_with fail
  go_cut [8, 9, 10] (fun s8 s9 s10 wx => ∃ bz8 bz9 : Nat, s8 = .pointer (some ⟨bz8, 0, none⟩) ∧ s9 = .pointer (some ⟨bz9, 0, none⟩) ∧ s10 = .nilIface ∧ Hid (Ms n w wx [(n, (rl r)), ((n + 2), (rl wz)), (bz8, (wl d)), (bz9, [.int .i64 (cc : Nat), .int .i64 (y : Nat)])] []))
  case first =>
    replace hM := hid (hM.out.drew)
    refine wp_region_held_drew (S := fun w' => Bo w' n (rl r) ∧ Bo w' (n + 1) [.int .i64 o, .int .i64 k, .int .i64 x]) (by kernel_rfl) ⟨hM.out.at 2 rfl, hM.out.at 1 rfl⟩ (fun hH => ?_)
    generalize World.drew _ = W at hM hH  ⊢
    refine tkR 0 rfl hH (fun _ h => h.1) (rwR r) ?_
    simp only [Act.put, p1, p2, p3]
    refine tkR 2 rfl hH (fun _ h => h.1) (rwR r) ?_
    simp only [Act.put, p1, p2, p3]
    refine tkR 4 rfl hH (fun _ h => h.2) (rwO o k x) ?_
    simp only [Act.put, p1, p2, p3]
    refine rdn [1, 10, 11] ?_
    refine rdc rfl (fun K hK => ?_) ?_
    · go_simp
      refine (KI.out _).mono ?_
      rintro e W ⟨rfl, hb⟩
      replace hM := hid (hM.out.later hb)
      clear hb
      go_wp2_with fail
      refine hK.out _ _ ⟨hM.out.at 2 rfl, hM.out.at 1 rfl⟩ (fun hH => ?_)
      clear hK K
      try simp only [Act.put, p1, p2, p3]
      refine rdn [3, 10, 11] ?_
      refine rdc rfl (fun K hK => ?_) ?_
      · go_simp
        refine (OJ.out _).mono ?_
        rintro e W ⟨rfl, hb⟩
        replace hM := hid (hM.out.later hb)
        clear hb
        go_wp2_with fail
        refine hK.out _ _ ⟨hM.out.at 2 rfl, hM.out.at 1 rfl⟩ (fun hH => ?_)
        clear hK K
        try simp only [Act.put, p1, p2, p3]
        refine rdn [5, 10, 11] ?_
        refine rdc rfl (fun K hK => ?_) ?_
        · go_simp
          refine (DD.out _).mono ?_
          rintro e W ⟨rfl, hb⟩
          replace hM := hid (hM.out.later hb)
          clear hb
          go_wp2_with fail
          refine hK.out _ _ ⟨hM.out.at 2 rfl, hM.out.at 1 rfl⟩ (fun hH => ?_)
          clear hK K
          try simp only [Act.put, p1, p2, p3]
          refine tk 6 rfl hH ?_
          simp only [Act.put, p1, p2, p3]
          refine tk 7 rfl hH ?_
          simp only [Act.put, p1, p2, p3]
          refine tk 8 rfl hH ?_
          simp only [Act.put, p1, p2, p3]
          refine tk 9 rfl hH ?_
          simp only [Act.put, p1, p2, p3]
          refine rdn [10, 11] ?_
          refine rdc rfl (fun K hK => ?_) ?_
          · go_simp
            replace hM := hid (hM.out.bornR wz_all.symm 28 rfl)
            refine hK.out _ _ ⟨hM.out.at 3 rfl, hM.out.at 2 rfl⟩ (fun hH => ?_)
            clear hK K
            generalize W.heap.size = bq4 at hM hH ⊢
            generalize World.alloc _ _ = W at hM hH  ⊢
            try simp only [Act.put, p1, p2, p3]
            refine rd1 11 rfl (fun K hK => ?_)
            go_simp
            replace hM := hid (hM.out.born [.int .i64 0, .int .i64 0] 42 rfl)
            refine hK.out _ _ ⟨hM.out.at 4 rfl, hM.out.at 3 rfl⟩ (fun hH => ?_)
            clear hK K
            generalize W.heap.size = bq5 at hM hH ⊢
            generalize World.alloc _ _ = W at hM hH  ⊢
            try simp only [Act.put, p1, p2, p3]
            refine rd1 12 rfl (fun K hK => ?_)
            refine stR rfl (hM.out.at 1 rfl) ((rwC wz).len (rwC d)) (rwC d) ?_
            simp only [Act.put]
            replace hM := hid (hM.out.put 1 rfl (wl d) ((rwC wz).len (rwC d)))
            refine hK.out _ _ ⟨hM.out.at 4 rfl, hM.out.at 3 rfl⟩ (fun hH => ?_)
            clear hK K
            generalize World.setCells _ _ _ _ = W at hM hH ⊢
            try simp only [Act.put, p1, p2, p3]
            refine rd1 13 rfl (fun K hK => ?_)
            refine stR rfl (hM.out.at 0 rfl) ((rwA 0 0).len (rwA _ _)) (rwA _ _) ?_
            simp only [Act.put]
            replace hM := hid (hM.out.put 0 rfl [.int .i64 (cc : Nat), .int .i64 (y : Nat)] ((rwA 0 0).len (rwA _ _)))
            refine hK.out _ _ ⟨hM.out.at 4 rfl, hM.out.at 3 rfl⟩ (fun hH => ?_)
            clear hK K
            generalize World.setCells _ _ _ _ = W at hM hH ⊢
            try simp only [Act.put, p1, p2, p3]
            refine tk 14 rfl hH ?_
            simp only [Act.put, p1, p2, p3]
            refine wpAnyH_done (by kernel_rfl) ?_ _
            go_wp2_with fail
            go_meet
            case rel => exact ⟨bq4, bq5, rfl, rfl, rfl, (hM.out.pick [4, 2, 1, 0]).pickL []⟩
          refine rdc rfl (fun K hK => ?_) AllReadyH.nil
          go_simp
          replace hM := hid (hM.out.born [.int .i64 0, .int .i64 0] 42 rfl)
          refine hK.out _ _ ⟨hM.out.at 3 rfl, hM.out.at 2 rfl⟩ (fun hH => ?_)
          clear hK K
          generalize W.heap.size = bq4 at hM hH ⊢
          generalize World.alloc _ _ = W at hM hH  ⊢
          try simp only [Act.put, p1, p2, p3]
          refine rd1 10 rfl (fun K hK => ?_)
          go_simp
          replace hM := hid (hM.out.bornR wz_all.symm 28 rfl)
          refine hK.out _ _ ⟨hM.out.at 4 rfl, hM.out.at 3 rfl⟩ (fun hH => ?_)
          clear hK K
          generalize W.heap.size = bq5 at hM hH ⊢
          generalize World.alloc _ _ = W at hM hH  ⊢
          try simp only [Act.put, p1, p2, p3]
          refine rd1 12 rfl (fun K hK => ?_)
          refine stR rfl (hM.out.at 0 rfl) ((rwC wz).len (rwC d)) (rwC d) ?_
          simp only [Act.put]
          replace hM := hid (hM.out.put 0 rfl (wl d) ((rwC wz).len (rwC d)))
          refine hK.out _ _ ⟨hM.out.at 4 rfl, hM.out.at 3 rfl⟩ (fun hH => ?_)
          clear hK K
          generalize World.setCells _ _ _ _ = W at hM hH ⊢
          try simp only [Act.put, p1, p2, p3]
          refine rd1 13 rfl (fun K hK => ?_)
          refine stR rfl (hM.out.at 1 rfl) ((rwA 0 0).len (rwA _ _)) (rwA _ _) ?_
          simp only [Act.put]
          replace hM := hid (hM.out.put 1 rfl [.int .i64 (cc : Nat), .int .i64 (y : Nat)] ((rwA 0 0).len (rwA _ _)))
          refine hK.out _ _ ⟨hM.out.at 4 rfl, hM.out.at 3 rfl⟩ (fun hH => ?_)
          clear hK K
          generalize World.setCells _ _ _ _ = W at hM hH ⊢
          try simp only [Act.put, p1, p2, p3]
          refine tk 14 rfl hH ?_
          simp only [Act.put, p1, p2, p3]
          refine wpAnyH_done (by kernel_rfl) ?_ _
          go_wp2_with fail
          go_meet
          case rel => exact ⟨bq5, bq4, rfl, rfl, rfl, (hM.out.pick [4, 2, 0, 1]).pickL []⟩
        refine rdc rfl (fun K hK => ?_) ?_
        · go_simp
          replace hM := hid (hM.out.bornR wz_all.symm 28 rfl)
          refine hK.out _ _ ⟨hM.out.at 3 rfl, hM.out.at 2 rfl⟩ (fun hH => ?_)
          clear hK K
          generalize W.heap.size = bq4 at hM hH ⊢
          generalize World.alloc _ _ = W at hM hH  ⊢
          try simp only [Act.put, p1, p2, p3]
          refine rdn [5, 11] ?_
          refine rdc rfl (fun K hK => ?_) ?_
          · go_simp
            refine (DD.out _).mono ?_
            rintro e W ⟨rfl, hb⟩
            replace hM := hid (hM.out.later hb)
            clear hb
            go_wp2_with fail
            refine hK.out _ _ ⟨hM.out.at 3 rfl, hM.out.at 2 rfl⟩ (fun hH => ?_)
            clear hK K
            try simp only [Act.put, p1, p2, p3]
            refine tk 6 rfl hH ?_
            simp only [Act.put, p1, p2, p3]
            refine tk 7 rfl hH ?_
            simp only [Act.put, p1, p2, p3]
            refine tk 8 rfl hH ?_
            simp only [Act.put, p1, p2, p3]
            refine tk 9 rfl hH ?_
            simp only [Act.put, p1, p2, p3]
            refine rd1 11 rfl (fun K hK => ?_)
            go_simp
            replace hM := hid (hM.out.born [.int .i64 0, .int .i64 0] 42 rfl)
            refine hK.out _ _ ⟨hM.out.at 4 rfl, hM.out.at 3 rfl⟩ (fun hH => ?_)
            clear hK K
            generalize W.heap.size = bq5 at hM hH ⊢
            generalize World.alloc _ _ = W at hM hH  ⊢
            try simp only [Act.put, p1, p2, p3]
            refine rd1 12 rfl (fun K hK => ?_)
            refine stR rfl (hM.out.at 1 rfl) ((rwC wz).len (rwC d)) (rwC d) ?_
            simp only [Act.put]
            replace hM := hid (hM.out.put 1 rfl (wl d) ((rwC wz).len (rwC d)))
            refine hK.out _ _ ⟨hM.out.at 4 rfl, hM.out.at 3 rfl⟩ (fun hH => ?_)
            clear hK K
            generalize World.setCells _ _ _ _ = W at hM hH ⊢
            try simp only [Act.put, p1, p2, p3]
            refine rd1 13 rfl (fun K hK => ?_)
            refine stR rfl (hM.out.at 0 rfl) ((rwA 0 0).len (rwA _ _)) (rwA _ _) ?_
            simp only [Act.put]
            replace hM := hid (hM.out.put 0 rfl [.int .i64 (cc : Nat), .int .i64 (y : Nat)] ((rwA 0 0).len (rwA _ _)))
            refine hK.out _ _ ⟨hM.out.at 4 rfl, hM.out.at 3 rfl⟩ (fun hH => ?_)
            clear hK K
            generalize World.setCells _ _ _ _ = W at hM hH ⊢
            try simp only [Act.put, p1, p2, p3]
            refine tk 14 rfl hH ?_
            simp only [Act.put, p1, p2, p3]
            refine wpAnyH_done (by kernel_rfl) ?_ _
            go_wp2_with fail
            go_meet
            case rel => exact ⟨bq4, bq5, rfl, rfl, rfl, (hM.out.pick [4, 2, 1, 0]).pickL []⟩
          refine rdc rfl (fun K hK => ?_) AllReadyH.nil
          go_simp
          replace hM := hid (hM.out.born [.int .i64 0, .int .i64 0] 42 rfl)
          refine hK.out _ _ ⟨hM.out.at 4 rfl, hM.out.at 3 rfl⟩ (fun hH => ?_)
          clear hK K
          generalize W.heap.size = bq5 at hM hH ⊢
          generalize World.alloc _ _ = W at hM hH  ⊢
          try simp only [Act.put, p1, p2, p3]
          refine rd1 5 rfl (fun K hK => ?_)
          go_simp
          refine (DD.out _).mono ?_
          rintro e W ⟨rfl, hb⟩
          replace hM := hid (hM.out.later hb)
          clear hb
          go_wp2_with fail
          refine hK.out _ _ ⟨hM.out.at 4 rfl, hM.out.at 3 rfl⟩ (fun hH => ?_)
          clear hK K
          try simp only [Act.put, p1, p2, p3]
          refine tk 6 rfl hH ?_
          simp only [Act.put, p1, p2, p3]
          refine tk 7 rfl hH ?_
          simp only [Act.put, p1, p2, p3]
          refine tk 8 rfl hH ?_
          simp only [Act.put, p1, p2, p3]
          refine tk 9 rfl hH ?_
          simp only [Act.put, p1, p2, p3]
          refine rd1 12 rfl (fun K hK => ?_)
          refine stR rfl (hM.out.at 1 rfl) ((rwC wz).len (rwC d)) (rwC d) ?_
          simp only [Act.put]
          replace hM := hid (hM.out.put 1 rfl (wl d) ((rwC wz).len (rwC d)))
          refine hK.out _ _ ⟨hM.out.at 4 rfl, hM.out.at 3 rfl⟩ (fun hH => ?_)
          clear hK K
          generalize World.setCells _ _ _ _ = W at hM hH ⊢
          try simp only [Act.put, p1, p2, p3]
          refine rd1 13 rfl (fun K hK => ?_)
          refine stR rfl (hM.out.at 0 rfl) ((rwA 0 0).len (rwA _ _)) (rwA _ _) ?_
          simp only [Act.put]
          replace hM := hid (hM.out.put 0 rfl [.int .i64 (cc : Nat), .int .i64 (y : Nat)] ((rwA 0 0).len (rwA _ _)))
          refine hK.out _ _ ⟨hM.out.at 4 rfl, hM.out.at 3 rfl⟩ (fun hH => ?_)
          clear hK K
          generalize World.setCells _ _ _ _ = W at hM hH ⊢
          try simp only [Act.put, p1, p2, p3]
          refine tk 14 rfl hH ?_
          simp only [Act.put, p1, p2, p3]
          refine wpAnyH_done (by kernel_rfl) ?_ _
          go_wp2_with fail
          go_meet
          case rel => exact ⟨bq4, bq5, rfl, rfl, rfl, (hM.out.pick [4, 2, 1, 0]).pickL []⟩
        refine rdc rfl (fun K hK => ?_) AllReadyH.nil
        go_simp
        replace hM := hid (hM.out.born [.int .i64 0, .int .i64 0] 42 rfl)
        refine hK.out _ _ ⟨hM.out.at 3 rfl, hM.out.at 2 rfl⟩ (fun hH => ?_)
        clear hK K
        generalize W.heap.size = bq4 at hM hH ⊢
        generalize World.alloc _ _ = W at hM hH  ⊢
        try simp only [Act.put, p1, p2, p3]
        refine rdn [5, 10] ?_
        refine rdc rfl (fun K hK => ?_) ?_
        · go_simp
          refine (DD.out _).mono ?_
          rintro e W ⟨rfl, hb⟩
          replace hM := hid (hM.out.later hb)
          clear hb
          go_wp2_with fail
          refine hK.out _ _ ⟨hM.out.at 3 rfl, hM.out.at 2 rfl⟩ (fun hH => ?_)
          clear hK K
          try simp only [Act.put, p1, p2, p3]
          refine tk 6 rfl hH ?_
          simp only [Act.put, p1, p2, p3]
          refine tk 7 rfl hH ?_
          simp only [Act.put, p1, p2, p3]
          refine tk 8 rfl hH ?_
          simp only [Act.put, p1, p2, p3]
          refine tk 9 rfl hH ?_
          simp only [Act.put, p1, p2, p3]
          refine rd1 10 rfl (fun K hK => ?_)
          go_simp
          replace hM := hid (hM.out.bornR wz_all.symm 28 rfl)
          refine hK.out _ _ ⟨hM.out.at 4 rfl, hM.out.at 3 rfl⟩ (fun hH => ?_)
          clear hK K
          generalize W.heap.size = bq5 at hM hH ⊢
          generalize World.alloc _ _ = W at hM hH  ⊢
          try simp only [Act.put, p1, p2, p3]
          refine rd1 12 rfl (fun K hK => ?_)
          refine stR rfl (hM.out.at 0 rfl) ((rwC wz).len (rwC d)) (rwC d) ?_
          simp only [Act.put]
          replace hM := hid (hM.out.put 0 rfl (wl d) ((rwC wz).len (rwC d)))
          refine hK.out _ _ ⟨hM.out.at 4 rfl, hM.out.at 3 rfl⟩ (fun hH => ?_)
          clear hK K
          generalize World.setCells _ _ _ _ = W at hM hH ⊢
          try simp only [Act.put, p1, p2, p3]
          refine rd1 13 rfl (fun K hK => ?_)
          refine stR rfl (hM.out.at 1 rfl) ((rwA 0 0).len (rwA _ _)) (rwA _ _) ?_
          simp only [Act.put]
          replace hM := hid (hM.out.put 1 rfl [.int .i64 (cc : Nat), .int .i64 (y : Nat)] ((rwA 0 0).len (rwA _ _)))
          refine hK.out _ _ ⟨hM.out.at 4 rfl, hM.out.at 3 rfl⟩ (fun hH => ?_)
          clear hK K
          generalize World.setCells _ _ _ _ = W at hM hH ⊢
          try simp only [Act.put, p1, p2, p3]
          refine tk 14 rfl hH ?_
          simp only [Act.put, p1, p2, p3]
          refine wpAnyH_done (by kernel_rfl) ?_ _
          go_wp2_with fail
          go_meet
          case rel => exact ⟨bq5, bq4, rfl, rfl, rfl, (hM.out.pick [4, 2, 0, 1]).pickL []⟩
        refine rdc rfl (fun K hK => ?_) AllReadyH.nil
        go_simp
        replace hM := hid (hM.out.bornR wz_all.symm 28 rfl)
        refine hK.out _ _ ⟨hM.out.at 4 rfl, hM.out.at 3 rfl⟩ (fun hH => ?_)
        clear hK K
        generalize W.heap.size = bq5 at hM hH ⊢
        generalize World.alloc _ _ = W at hM hH  ⊢
        try simp only [Act.put, p1, p2, p3]
        refine rd1 5 rfl (fun K hK => ?_)
        go_simp
        refine (DD.out _).mono ?_
        rintro e W ⟨rfl, hb⟩
        replace hM := hid (hM.out.later hb)
        clear hb
        go_wp2_with fail
        refine hK.out _ _ ⟨hM.out.at 4 rfl, hM.out.at 3 rfl⟩ (fun hH => ?_)
        clear hK K
        try simp only [Act.put, p1, p2, p3]
        refine tk 6 rfl hH ?_
        simp only [Act.put, p1, p2, p3]
        refine tk 7 rfl hH ?_
        simp only [Act.put, p1, p2, p3]
        refine tk 8 rfl hH ?_
        simp only [Act.put, p1, p2, p3]
        refine tk 9 rfl hH ?_
        simp only [Act.put, p1, p2, p3]
        refine rd1 12 rfl (fun K hK => ?_)
        refine stR rfl (hM.out.at 0 rfl) ((rwC wz).len (rwC d)) (rwC d) ?_
        simp only [Act.put]
        replace hM := hid (hM.out.put 0 rfl (wl d) ((rwC wz).len (rwC d)))
        refine hK.out _ _ ⟨hM.out.at 4 rfl, hM.out.at 3 rfl⟩ (fun hH => ?_)
        clear hK K
        generalize World.setCells _ _ _ _ = W at hM hH ⊢
        try simp only [Act.put, p1, p2, p3]
        refine rd1 13 rfl (fun K hK => ?_)
        refine stR rfl (hM.out.at 1 rfl) ((rwA 0 0).len (rwA _ _)) (rwA _ _) ?_
        simp only [Act.put]
        replace hM := hid (hM.out.put 1 rfl [.int .i64 (cc : Nat), .int .i64 (y : Nat)] ((rwA 0 0).len (rwA _ _)))
        refine hK.out _ _ ⟨hM.out.at 4 rfl, hM.out.at 3 rfl⟩ (fun hH => ?_)
        clear hK K
        generalize World.setCells _ _ _ _ = W at hM hH ⊢
        try simp only [Act.put, p1, p2, p3]
        refine tk 14 rfl hH ?_
        simp only [Act.put, p1, p2, p3]
        refine wpAnyH_done (by kernel_rfl) ?_ _
        go_wp2_with fail
        go_meet
        case rel => exact ⟨bq5, bq4, rfl, rfl, rfl, (hM.out.pick [4, 2, 0, 1]).pickL []⟩
      refine rdc rfl (fun K hK => ?_) ?_
      · go_simp
        replace hM := hid (hM.out.bornR wz_all.symm 28 rfl)
        refine hK.out _ _ ⟨hM.out.at 3 rfl, hM.out.at 2 rfl⟩ (fun hH => ?_)
        clear hK K
        generalize W.heap.size = bq4 at hM hH ⊢
        generalize World.alloc _ _ = W at hM hH  ⊢
        try simp only [Act.put, p1, p2, p3]
        refine rdn [3, 11] ?_
        refine rdc rfl (fun K hK => ?_) ?_
        · go_simp
          refine (OJ.out _).mono ?_
          rintro e W ⟨rfl, hb⟩
          replace hM := hid (hM.out.later hb)
          clear hb
          go_wp2_with fail
          refine hK.out _ _ ⟨hM.out.at 3 rfl, hM.out.at 2 rfl⟩ (fun hH => ?_)
          clear hK K
          try simp only [Act.put, p1, p2, p3]
          refine rdn [5, 11] ?_
          refine rdc rfl (fun K hK => ?_) ?_
          · go_simp
            refine (DD.out _).mono ?_
            rintro e W ⟨rfl, hb⟩
            replace hM := hid (hM.out.later hb)
            clear hb
            go_wp2_with fail
            refine hK.out _ _ ⟨hM.out.at 3 rfl, hM.out.at 2 rfl⟩ (fun hH => ?_)
            clear hK K
            try simp only [Act.put, p1, p2, p3]
            refine tk 6 rfl hH ?_
            simp only [Act.put, p1, p2, p3]
            refine tk 7 rfl hH ?_
            simp only [Act.put, p1, p2, p3]
            refine tk 8 rfl hH ?_
            simp only [Act.put, p1, p2, p3]
            refine tk 9 rfl hH ?_
            simp only [Act.put, p1, p2, p3]
            refine rd1 11 rfl (fun K hK => ?_)
            go_simp
            replace hM := hid (hM.out.born [.int .i64 0, .int .i64 0] 42 rfl)
            refine hK.out _ _ ⟨hM.out.at 4 rfl, hM.out.at 3 rfl⟩ (fun hH => ?_)
            clear hK K
            generalize W.heap.size = bq5 at hM hH ⊢
            generalize World.alloc _ _ = W at hM hH  ⊢
            try simp only [Act.put, p1, p2, p3]
            refine rd1 12 rfl (fun K hK => ?_)
            refine stR rfl (hM.out.at 1 rfl) ((rwC wz).len (rwC d)) (rwC d) ?_
            simp only [Act.put]
            replace hM := hid (hM.out.put 1 rfl (wl d) ((rwC wz).len (rwC d)))
            refine hK.out _ _ ⟨hM.out.at 4 rfl, hM.out.at 3 rfl⟩ (fun hH => ?_)
            clear hK K
            generalize World.setCells _ _ _ _ = W at hM hH ⊢
            try simp only [Act.put, p1, p2, p3]
            refine rd1 13 rfl (fun K hK => ?_)
            refine stR rfl (hM.out.at 0 rfl) ((rwA 0 0).len (rwA _ _)) (rwA _ _) ?_
            simp only [Act.put]
            replace hM := hid (hM.out.put 0 rfl [.int .i64 (cc : Nat), .int .i64 (y : Nat)] ((rwA 0 0).len (rwA _ _)))
            refine hK.out _ _ ⟨hM.out.at 4 rfl, hM.out.at 3 rfl⟩ (fun hH => ?_)
            clear hK K
            generalize World.setCells _ _ _ _ = W at hM hH ⊢
            try simp only [Act.put, p1, p2, p3]
            refine tk 14 rfl hH ?_
            simp only [Act.put, p1, p2, p3]
            refine wpAnyH_done (by kernel_rfl) ?_ _
            go_wp2_with fail
            go_meet
            case rel => exact ⟨bq4, bq5, rfl, rfl, rfl, (hM.out.pick [4, 2, 1, 0]).pickL []⟩
          refine rdc rfl (fun K hK => ?_) AllReadyH.nil
          go_simp
          replace hM := hid (hM.out.born [.int .i64 0, .int .i64 0] 42 rfl)
          refine hK.out _ _ ⟨hM.out.at 4 rfl, hM.out.at 3 rfl⟩ (fun hH => ?_)
          clear hK K
          generalize W.heap.size = bq5 at hM hH ⊢
          generalize World.alloc _ _ = W at hM hH  ⊢
          try simp only [Act.put, p1, p2, p3]
          refine rd1 5 rfl (fun K hK => ?_)
          go_simp
          refine (DD.out _).mono ?_
          rintro e W ⟨rfl, hb⟩
          replace hM := hid (hM.out.later hb)
          clear hb
          go_wp2_with fail
          refine hK.out _ _ ⟨hM.out.at 4 rfl, hM.out.at 3 rfl⟩ (fun hH => ?_)
          clear hK K
          try simp only [Act.put, p1, p2, p3]
          refine tk 6 rfl hH ?_
          simp only [Act.put, p1, p2, p3]
          refine tk 7 rfl hH ?_
          simp only [Act.put, p1, p2, p3]
          refine tk 8 rfl hH ?_
          simp only [Act.put, p1, p2, p3]
          refine tk 9 rfl hH ?_
          simp only [Act.put, p1, p2, p3]
          refine rd1 12 rfl (fun K hK => ?_)
          refine stR rfl (hM.out.at 1 rfl) ((rwC wz).len (rwC d)) (rwC d) ?_
          simp only [Act.put]
          replace hM := hid (hM.out.put 1 rfl (wl d) ((rwC wz).len (rwC d)))
          refine hK.out _ _ ⟨hM.out.at 4 rfl, hM.out.at 3 rfl⟩ (fun hH => ?_)
          clear hK K
          generalize World.setCells _ _ _ _ = W at hM hH ⊢
          try simp only [Act.put, p1, p2, p3]
          refine rd1 13 rfl (fun K hK => ?_)
          refine stR rfl (hM.out.at 0 rfl) ((rwA 0 0).len (rwA _ _)) (rwA _ _) ?_
          simp only [Act.put]
          replace hM := hid (hM.out.put 0 rfl [.int .i64 (cc : Nat), .int .i64 (y : Nat)] ((rwA 0 0).len (rwA _ _)))
          refine hK.out _ _ ⟨hM.out.at 4 rfl, hM.out.at 3 rfl⟩ (fun hH => ?_)
          clear hK K
          generalize World.setCells _ _ _ _ = W at hM hH ⊢
          try simp only [Act.put, p1, p2, p3]
          refine tk 14 rfl hH ?_
          simp only [Act.put, p1, p2, p3]
          refine wpAnyH_done (by kernel_rfl) ?_ _
          go_wp2_with fail
          go_meet
          case rel => exact ⟨bq4, bq5, rfl, rfl, rfl, (hM.out.pick [4, 2, 1, 0]).pickL []⟩
        refine rdc rfl (fun K hK => ?_) AllReadyH.nil
        go_simp
        replace hM := hid (hM.out.born [.int .i64 0, .int .i64 0] 42 rfl)
        refine hK.out _ _ ⟨hM.out.at 4 rfl, hM.out.at 3 rfl⟩ (fun hH => ?_)
        clear hK K
        generalize W.heap.size = bq5 at hM hH ⊢
        generalize World.alloc _ _ = W at hM hH  ⊢
        try simp only [Act.put, p1, p2, p3]
        refine rd1 3 rfl (fun K hK => ?_)
        go_simp
        refine (OJ.out _).mono ?_
        rintro e W ⟨rfl, hb⟩
        replace hM := hid (hM.out.later hb)
        clear hb
        go_wp2_with fail
        refine hK.out _ _ ⟨hM.out.at 4 rfl, hM.out.at 3 rfl⟩ (fun hH => ?_)
        clear hK K
        try simp only [Act.put, p1, p2, p3]
        refine rd1 5 rfl (fun K hK => ?_)
        go_simp
        refine (DD.out _).mono ?_
        rintro e W ⟨rfl, hb⟩
        replace hM := hid (hM.out.later hb)
        clear hb
        go_wp2_with fail
        refine hK.out _ _ ⟨hM.out.at 4 rfl, hM.out.at 3 rfl⟩ (fun hH => ?_)
        clear hK K
        try simp only [Act.put, p1, p2, p3]
        refine tk 6 rfl hH ?_
        simp only [Act.put, p1, p2, p3]
        refine tk 7 rfl hH ?_
        simp only [Act.put, p1, p2, p3]
        refine tk 8 rfl hH ?_
        simp only [Act.put, p1, p2, p3]
        refine tk 9 rfl hH ?_
        simp only [Act.put, p1, p2, p3]
        refine rd1 12 rfl (fun K hK => ?_)
        refine stR rfl (hM.out.at 1 rfl) ((rwC wz).len (rwC d)) (rwC d) ?_
        simp only [Act.put]
        replace hM := hid (hM.out.put 1 rfl (wl d) ((rwC wz).len (rwC d)))
        refine hK.out _ _ ⟨hM.out.at 4 rfl, hM.out.at 3 rfl⟩ (fun hH => ?_)
        clear hK K
        generalize World.setCells _ _ _ _ = W at hM hH ⊢
        try simp only [Act.put, p1, p2, p3]
        refine rd1 13 rfl (fun K hK => ?_)
        refine stR rfl (hM.out.at 0 rfl) ((rwA 0 0).len (rwA _ _)) (rwA _ _) ?_
        simp only [Act.put]
        replace hM := hid (hM.out.put 0 rfl [.int .i64 (cc : Nat), .int .i64 (y : Nat)] ((rwA 0 0).len (rwA _ _)))
        refine hK.out _ _ ⟨hM.out.at 4 rfl, hM.out.at 3 rfl⟩ (fun hH => ?_)
        clear hK K
        generalize World.setCells _ _ _ _ = W at hM hH ⊢
        try simp only [Act.put, p1, p2, p3]
        refine tk 14 rfl hH ?_
        simp only [Act.put, p1, p2, p3]
        refine wpAnyH_done (by kernel_rfl) ?_ _
        go_wp2_with fail
        go_meet
        case rel => exact ⟨bq4, bq5, rfl, rfl, rfl, (hM.out.pick [4, 2, 1, 0]).pickL []⟩
      refine rdc rfl (fun K hK => ?_) AllReadyH.nil
      go_simp
      replace hM := hid (hM.out.born [.int .i64 0, .int .i64 0] 42 rfl)
      refine hK.out _ _ ⟨hM.out.at 3 rfl, hM.out.at 2 rfl⟩ (fun hH => ?_)
      clear hK K
      generalize W.heap.size = bq4 at hM hH ⊢
      generalize World.alloc _ _ = W at hM hH  ⊢
      try simp only [Act.put, p1, p2, p3]
      refine rdn [3, 10] ?_
      refine rdc rfl (fun K hK => ?_) ?_
      · go_simp
        refine (OJ.out _).mono ?_
        rintro e W ⟨rfl, hb⟩
        replace hM := hid (hM.out.later hb)
        clear hb
        go_wp2_with fail
        refine hK.out _ _ ⟨hM.out.at 3 rfl, hM.out.at 2 rfl⟩ (fun hH => ?_)
        clear hK K
        try simp only [Act.put, p1, p2, p3]
        refine rdn [5, 10] ?_
        refine rdc rfl (fun K hK => ?_) ?_
        · go_simp
          refine (DD.out _).mono ?_
          rintro e W ⟨rfl, hb⟩
          replace hM := hid (hM.out.later hb)
          clear hb
          go_wp2_with fail
          refine hK.out _ _ ⟨hM.out.at 3 rfl, hM.out.at 2 rfl⟩ (fun hH => ?_)
          clear hK K
          try simp only [Act.put, p1, p2, p3]
          refine tk 6 rfl hH ?_
          simp only [Act.put, p1, p2, p3]
          refine tk 7 rfl hH ?_
          simp only [Act.put, p1, p2, p3]
          refine tk 8 rfl hH ?_
          simp only [Act.put, p1, p2, p3]
          refine tk 9 rfl hH ?_
          simp only [Act.put, p1, p2, p3]
          refine rd1 10 rfl (fun K hK => ?_)
          go_simp
          replace hM := hid (hM.out.bornR wz_all.symm 28 rfl)
          refine hK.out _ _ ⟨hM.out.at 4 rfl, hM.out.at 3 rfl⟩ (fun hH => ?_)
          clear hK K
          generalize W.heap.size = bq5 at hM hH ⊢
          generalize World.alloc _ _ = W at hM hH  ⊢
          try simp only [Act.put, p1, p2, p3]
          refine rd1 12 rfl (fun K hK => ?_)
          refine stR rfl (hM.out.at 0 rfl) ((rwC wz).len (rwC d)) (rwC d) ?_
          simp only [Act.put]
          replace hM := hid (hM.out.put 0 rfl (wl d) ((rwC wz).len (rwC d)))
          refine hK.out _ _ ⟨hM.out.at 4 rfl, hM.out.at 3 rfl⟩ (fun hH => ?_)
          clear hK K
          generalize World.setCells _ _ _ _ = W at hM hH ⊢
          try simp only [Act.put, p1, p2, p3]
          refine rd1 13 rfl (fun K hK => ?_)
          refine stR rfl (hM.out.at 1 rfl) ((rwA 0 0).len (rwA _ _)) (rwA _ _) ?_
          simp only [Act.put]
          replace hM := hid (hM.out.put 1 rfl [.int .i64 (cc : Nat), .int .i64 (y : Nat)] ((rwA 0 0).len (rwA _ _)))
          refine hK.out _ _ ⟨hM.out.at 4 rfl, hM.out.at 3 rfl⟩ (fun hH => ?_)
          clear hK K
          generalize World.setCells _ _ _ _ = W at hM hH ⊢
          try simp only [Act.put, p1, p2, p3]
          refine tk 14 rfl hH ?_
          simp only [Act.put, p1, p2, p3]
          refine wpAnyH_done (by kernel_rfl) ?_ _
          go_wp2_with fail
          go_meet
          case rel => exact ⟨bq5, bq4, rfl, rfl, rfl, (hM.out.pick [4, 2, 0, 1]).pickL []⟩
        refine rdc rfl (fun K hK => ?_) AllReadyH.nil
        go_simp
        replace hM := hid (hM.out.bornR wz_all.symm 28 rfl)
        refine hK.out _ _ ⟨hM.out.at 4 rfl, hM.out.at 3 rfl⟩ (fun hH => ?_)
        clear hK K
        generalize W.heap.size = bq5 at hM hH ⊢
        generalize World.alloc _ _ = W at hM hH  ⊢
        try simp only [Act.put, p1, p2, p3]
        refine rd1 5 rfl (fun K hK => ?_)
        go_simp
        refine (DD.out _).mono ?_
        rintro e W ⟨rfl, hb⟩
        replace hM := hid (hM.out.later hb)
        clear hb
        go_wp2_with fail
        refine hK.out _ _ ⟨hM.out.at 4 rfl, hM.out.at 3 rfl⟩ (fun hH => ?_)
        clear hK K
        try simp only [Act.put, p1, p2, p3]
        refine tk 6 rfl hH ?_
        simp only [Act.put, p1, p2, p3]
        refine tk 7 rfl hH ?_
        simp only [Act.put, p1, p2, p3]
        refine tk 8 rfl hH ?_
        simp only [Act.put, p1, p2, p3]
        refine tk 9 rfl hH ?_
        simp only [Act.put, p1, p2, p3]
        refine rd1 12 rfl (fun K hK => ?_)
        refine stR rfl (hM.out.at 0 rfl) ((rwC wz).len (rwC d)) (rwC d) ?_
        simp only [Act.put]
        replace hM := hid (hM.out.put 0 rfl (wl d) ((rwC wz).len (rwC d)))
        refine hK.out _ _ ⟨hM.out.at 4 rfl, hM.out.at 3 rfl⟩ (fun hH => ?_)
        clear hK K
        generalize World.setCells _ _ _ _ = W at hM hH ⊢
        try simp only [Act.put, p1, p2, p3]
        refine rd1 13 rfl (fun K hK => ?_)
        refine stR rfl (hM.out.at 1 rfl) ((rwA 0 0).len (rwA _ _)) (rwA _ _) ?_
        simp only [Act.put]
        replace hM := hid (hM.out.put 1 rfl [.int .i64 (cc : Nat), .int .i64 (y : Nat)] ((rwA 0 0).len (rwA _ _)))
        refine hK.out _ _ ⟨hM.out.at 4 rfl, hM.out.at 3 rfl⟩ (fun hH => ?_)
        clear hK K
        generalize World.setCells _ _ _ _ = W at hM hH ⊢
        try simp only [Act.put, p1, p2, p3]
        refine tk 14 rfl hH ?_
        simp only [Act.put, p1, p2, p3]
        refine wpAnyH_done (by kernel_rfl) ?_ _
        go_wp2_with fail
        go_meet
        case rel => exact ⟨bq5, bq4, rfl, rfl, rfl, (hM.out.pick [4, 2, 0, 1]).pickL []⟩
      refine rdc rfl (fun K hK => ?_) AllReadyH.nil
      go_simp
      replace hM := hid (hM.out.bornR wz_all.symm 28 rfl)
      refine hK.out _ _ ⟨hM.out.at 4 rfl, hM.out.at 3 rfl⟩ (fun hH => ?_)
      clear hK K
      generalize W.heap.size = bq5 at hM hH ⊢
      generalize World.alloc _ _ = W at hM hH  ⊢
      try simp only [Act.put, p1, p2, p3]
      refine rd1 3 rfl (fun K hK => ?_)
      go_simp
      refine (OJ.out _).mono ?_
      rintro e W ⟨rfl, hb⟩
      replace hM := hid (hM.out.later hb)
      clear hb
      go_wp2_with fail
      refine hK.out _ _ ⟨hM.out.at 4 rfl, hM.out.at 3 rfl⟩ (fun hH => ?_)
      clear hK K
      try simp only [Act.put, p1, p2, p3]
      refine rd1 5 rfl (fun K hK => ?_)
      go_simp
      refine (DD.out _).mono ?_
      rintro e W ⟨rfl, hb⟩
      replace hM := hid (hM.out.later hb)
      clear hb
      go_wp2_with fail
      refine hK.out _ _ ⟨hM.out.at 4 rfl, hM.out.at 3 rfl⟩ (fun hH => ?_)
      clear hK K
      try simp only [Act.put, p1, p2, p3]
      refine tk 6 rfl hH ?_
      simp only [Act.put, p1, p2, p3]
      refine tk 7 rfl hH ?_
      simp only [Act.put, p1, p2, p3]
      refine tk 8 rfl hH ?_
      simp only [Act.put, p1, p2, p3]
      refine tk 9 rfl hH ?_
      simp only [Act.put, p1, p2, p3]
      refine rd1 12 rfl (fun K hK => ?_)
      refine stR rfl (hM.out.at 0 rfl) ((rwC wz).len (rwC d)) (rwC d) ?_
      simp only [Act.put]
      replace hM := hid (hM.out.put 0 rfl (wl d) ((rwC wz).len (rwC d)))
      refine hK.out _ _ ⟨hM.out.at 4 rfl, hM.out.at 3 rfl⟩ (fun hH => ?_)
      clear hK K
      generalize World.setCells _ _ _ _ = W at hM hH ⊢
      try simp only [Act.put, p1, p2, p3]
      refine rd1 13 rfl (fun K hK => ?_)
      refine stR rfl (hM.out.at 1 rfl) ((rwA 0 0).len (rwA _ _)) (rwA _ _) ?_
      simp only [Act.put]
      replace hM := hid (hM.out.put 1 rfl [.int .i64 (cc : Nat), .int .i64 (y : Nat)] ((rwA 0 0).len (rwA _ _)))
      refine hK.out _ _ ⟨hM.out.at 4 rfl, hM.out.at 3 rfl⟩ (fun hH => ?_)
      clear hK K
      generalize World.setCells _ _ _ _ = W at hM hH ⊢
      try simp only [Act.put, p1, p2, p3]
      refine tk 14 rfl hH ?_
      simp only [Act.put, p1, p2, p3]
      refine wpAnyH_done (by kernel_rfl) ?_ _
      go_wp2_with fail
      go_meet
      case rel => exact ⟨bq5, bq4, rfl, rfl, rfl, (hM.out.pick [4, 2, 0, 1]).pickL []⟩
    refine rdc rfl (fun K hK => ?_) ?_
    · go_simp
      replace hM := hid (hM.out.bornR wz_all.symm 28 rfl)
      refine hK.out _ _ ⟨hM.out.at 3 rfl, hM.out.at 2 rfl⟩ (fun hH => ?_)
      clear hK K
      generalize W.heap.size = bq4 at hM hH ⊢
      generalize World.alloc _ _ = W at hM hH  ⊢
      try simp only [Act.put, p1, p2, p3]
      refine rdn [1, 11] ?_
      refine rdc rfl (fun K hK => ?_) ?_
      · go_simp
        refine (KI.out _).mono ?_
        rintro e W ⟨rfl, hb⟩
        replace hM := hid (hM.out.later hb)
        clear hb
        go_wp2_with fail
        refine hK.out _ _ ⟨hM.out.at 3 rfl, hM.out.at 2 rfl⟩ (fun hH => ?_)
        clear hK K
        try simp only [Act.put, p1, p2, p3]
        refine rdn [3, 11] ?_
        refine rdc rfl (fun K hK => ?_) ?_
        · go_simp
          refine (OJ.out _).mono ?_
          rintro e W ⟨rfl, hb⟩
          replace hM := hid (hM.out.later hb)
          clear hb
          go_wp2_with fail
          refine hK.out _ _ ⟨hM.out.at 3 rfl, hM.out.at 2 rfl⟩ (fun hH => ?_)
          clear hK K
          try simp only [Act.put, p1, p2, p3]
          refine rdn [5, 11] ?_
          refine rdc rfl (fun K hK => ?_) ?_
          · go_simp
            refine (DD.out _).mono ?_
            rintro e W ⟨rfl, hb⟩
            replace hM := hid (hM.out.later hb)
            clear hb
            go_wp2_with fail
            refine hK.out _ _ ⟨hM.out.at 3 rfl, hM.out.at 2 rfl⟩ (fun hH => ?_)
            clear hK K
            try simp only [Act.put, p1, p2, p3]
            refine tk 6 rfl hH ?_
            simp only [Act.put, p1, p2, p3]
            refine tk 7 rfl hH ?_
            simp only [Act.put, p1, p2, p3]
            refine tk 8 rfl hH ?_
            simp only [Act.put, p1, p2, p3]
            refine tk 9 rfl hH ?_
            simp only [Act.put, p1, p2, p3]
            refine rd1 11 rfl (fun K hK => ?_)
            go_simp
            replace hM := hid (hM.out.born [.int .i64 0, .int .i64 0] 42 rfl)
            refine hK.out _ _ ⟨hM.out.at 4 rfl, hM.out.at 3 rfl⟩ (fun hH => ?_)
            clear hK K
            generalize W.heap.size = bq5 at hM hH ⊢
            generalize World.alloc _ _ = W at hM hH  ⊢
            try simp only [Act.put, p1, p2, p3]
            refine rd1 12 rfl (fun K hK => ?_)
            refine stR rfl (hM.out.at 1 rfl) ((rwC wz).len (rwC d)) (rwC d) ?_
            simp only [Act.put]
            replace hM := hid (hM.out.put 1 rfl (wl d) ((rwC wz).len (rwC d)))
            refine hK.out _ _ ⟨hM.out.at 4 rfl, hM.out.at 3 rfl⟩ (fun hH => ?_)
            clear hK K
            generalize World.setCells _ _ _ _ = W at hM hH ⊢
            try simp only [Act.put, p1, p2, p3]
            refine rd1 13 rfl (fun K hK => ?_)
            refine stR rfl (hM.out.at 0 rfl) ((rwA 0 0).len (rwA _ _)) (rwA _ _) ?_
            simp only [Act.put]
            replace hM := hid (hM.out.put 0 rfl [.int .i64 (cc : Nat), .int .i64 (y : Nat)] ((rwA 0 0).len (rwA _ _)))
            refine hK.out _ _ ⟨hM.out.at 4 rfl, hM.out.at 3 rfl⟩ (fun hH => ?_)
            clear hK K
            generalize World.setCells _ _ _ _ = W at hM hH ⊢
            try simp only [Act.put, p1, p2, p3]
            refine tk 14 rfl hH ?_
            simp only [Act.put, p1, p2, p3]
            refine wpAnyH_done (by kernel_rfl) ?_ _
            go_wp2_with fail
            go_meet
            case rel => exact ⟨bq4, bq5, rfl, rfl, rfl, (hM.out.pick [4, 2, 1, 0]).pickL []⟩
          refine rdc rfl (fun K hK => ?_) AllReadyH.nil
          go_simp
          replace hM := hid (hM.out.born [.int .i64 0, .int .i64 0] 42 rfl)
          refine hK.out _ _ ⟨hM.out.at 4 rfl, hM.out.at 3 rfl⟩ (fun hH => ?_)
          clear hK K
          generalize W.heap.size = bq5 at hM hH ⊢
          generalize World.alloc _ _ = W at hM hH  ⊢
          try simp only [Act.put, p1, p2, p3]
          refine rd1 5 rfl (fun K hK => ?_)
          go_simp
          refine (DD.out _).mono ?_
          rintro e W ⟨rfl, hb⟩
          replace hM := hid (hM.out.later hb)
          clear hb
          go_wp2_with fail
          refine hK.out _ _ ⟨hM.out.at 4 rfl, hM.out.at 3 rfl⟩ (fun hH => ?_)
          clear hK K
          try simp only [Act.put, p1, p2, p3]
          refine tk 6 rfl hH ?_
          simp only [Act.put, p1, p2, p3]
          refine tk 7 rfl hH ?_
          simp only [Act.put, p1, p2, p3]
          refine tk 8 rfl hH ?_
          simp only [Act.put, p1, p2, p3]
          refine tk 9 rfl hH ?_
          simp only [Act.put, p1, p2, p3]
          refine rd1 12 rfl (fun K hK => ?_)
          refine stR rfl (hM.out.at 1 rfl) ((rwC wz).len (rwC d)) (rwC d) ?_
          simp only [Act.put]
          replace hM := hid (hM.out.put 1 rfl (wl d) ((rwC wz).len (rwC d)))
          refine hK.out _ _ ⟨hM.out.at 4 rfl, hM.out.at 3 rfl⟩ (fun hH => ?_)
          clear hK K
          generalize World.setCells _ _ _ _ = W at hM hH ⊢
          try simp only [Act.put, p1, p2, p3]
          refine rd1 13 rfl (fun K hK => ?_)
          refine stR rfl (hM.out.at 0 rfl) ((rwA 0 0).len (rwA _ _)) (rwA _ _) ?_
          simp only [Act.put]
          replace hM := hid (hM.out.put 0 rfl [.int .i64 (cc : Nat), .int .i64 (y : Nat)] ((rwA 0 0).len (rwA _ _)))
          refine hK.out _ _ ⟨hM.out.at 4 rfl, hM.out.at 3 rfl⟩ (fun hH => ?_)
          clear hK K
          generalize World.setCells _ _ _ _ = W at hM hH ⊢
          try simp only [Act.put, p1, p2, p3]
          refine tk 14 rfl hH ?_
          simp only [Act.put, p1, p2, p3]
          refine wpAnyH_done (by kernel_rfl) ?_ _
          go_wp2_with fail
          go_meet
          case rel => exact ⟨bq4, bq5, rfl, rfl, rfl, (hM.out.pick [4, 2, 1, 0]).pickL []⟩
        refine rdc rfl (fun K hK => ?_) AllReadyH.nil
        go_simp
        replace hM := hid (hM.out.born [.int .i64 0, .int .i64 0] 42 rfl)
        refine hK.out _ _ ⟨hM.out.at 4 rfl, hM.out.at 3 rfl⟩ (fun hH => ?_)
        clear hK K
        generalize W.heap.size = bq5 at hM hH ⊢
        generalize World.alloc _ _ = W at hM hH  ⊢
        try simp only [Act.put, p1, p2, p3]
        refine rd1 3 rfl (fun K hK => ?_)
        go_simp
        refine (OJ.out _).mono ?_
        rintro e W ⟨rfl, hb⟩
        replace hM := hid (hM.out.later hb)
        clear hb
        go_wp2_with fail
        refine hK.out _ _ ⟨hM.out.at 4 rfl, hM.out.at 3 rfl⟩ (fun hH => ?_)
        clear hK K
        try simp only [Act.put, p1, p2, p3]
        refine rd1 5 rfl (fun K hK => ?_)
        go_simp
        refine (DD.out _).mono ?_
        rintro e W ⟨rfl, hb⟩
        replace hM := hid (hM.out.later hb)
        clear hb
        go_wp2_with fail
        refine hK.out _ _ ⟨hM.out.at 4 rfl, hM.out.at 3 rfl⟩ (fun hH => ?_)
        clear hK K
        try simp only [Act.put, p1, p2, p3]
        refine tk 6 rfl hH ?_
        simp only [Act.put, p1, p2, p3]
        refine tk 7 rfl hH ?_
        simp only [Act.put, p1, p2, p3]
        refine tk 8 rfl hH ?_
        simp only [Act.put, p1, p2, p3]
        refine tk 9 rfl hH ?_
        simp only [Act.put, p1, p2, p3]
        refine rd1 12 rfl (fun K hK => ?_)
        refine stR rfl (hM.out.at 1 rfl) ((rwC wz).len (rwC d)) (rwC d) ?_
        simp only [Act.put]
        replace hM := hid (hM.out.put 1 rfl (wl d) ((rwC wz).len (rwC d)))
        refine hK.out _ _ ⟨hM.out.at 4 rfl, hM.out.at 3 rfl⟩ (fun hH => ?_)
        clear hK K
        generalize World.setCells _ _ _ _ = W at hM hH ⊢
        try simp only [Act.put, p1, p2, p3]
        refine rd1 13 rfl (fun K hK => ?_)
        refine stR rfl (hM.out.at 0 rfl) ((rwA 0 0).len (rwA _ _)) (rwA _ _) ?_
        simp only [Act.put]
        replace hM := hid (hM.out.put 0 rfl [.int .i64 (cc : Nat), .int .i64 (y : Nat)] ((rwA 0 0).len (rwA _ _)))
        refine hK.out _ _ ⟨hM.out.at 4 rfl, hM.out.at 3 rfl⟩ (fun hH => ?_)
        clear hK K
        generalize World.setCells _ _ _ _ = W at hM hH ⊢
        try simp only [Act.put, p1, p2, p3]
        refine tk 14 rfl hH ?_
        simp only [Act.put, p1, p2, p3]
        refine wpAnyH_done (by kernel_rfl) ?_ _
        go_wp2_with fail
        go_meet
        case rel => exact ⟨bq4, bq5, rfl, rfl, rfl, (hM.out.pick [4, 2, 1, 0]).pickL []⟩
      refine rdc rfl (fun K hK => ?_) AllReadyH.nil
      go_simp
      replace hM := hid (hM.out.born [.int .i64 0, .int .i64 0] 42 rfl)
      refine hK.out _ _ ⟨hM.out.at 4 rfl, hM.out.at 3 rfl⟩ (fun hH => ?_)
      clear hK K
      generalize W.heap.size = bq5 at hM hH ⊢
      generalize World.alloc _ _ = W at hM hH  ⊢
      try simp only [Act.put, p1, p2, p3]
      refine rd1 1 rfl (fun K hK => ?_)
      go_simp
      refine (KI.out _).mono ?_
      rintro e W ⟨rfl, hb⟩
      replace hM := hid (hM.out.later hb)
      clear hb
      go_wp2_with fail
      refine hK.out _ _ ⟨hM.out.at 4 rfl, hM.out.at 3 rfl⟩ (fun hH => ?_)
      clear hK K
      try simp only [Act.put, p1, p2, p3]
      refine rd1 3 rfl (fun K hK => ?_)
      go_simp
      refine (OJ.out _).mono ?_
      rintro e W ⟨rfl, hb⟩
      replace hM := hid (hM.out.later hb)
      clear hb
      go_wp2_with fail
      refine hK.out _ _ ⟨hM.out.at 4 rfl, hM.out.at 3 rfl⟩ (fun hH => ?_)
      clear hK K
      try simp only [Act.put, p1, p2, p3]
      refine rd1 5 rfl (fun K hK => ?_)
      go_simp
      refine (DD.out _).mono ?_
      rintro e W ⟨rfl, hb⟩
      replace hM := hid (hM.out.later hb)
      clear hb
      go_wp2_with fail
      refine hK.out _ _ ⟨hM.out.at 4 rfl, hM.out.at 3 rfl⟩ (fun hH => ?_)
      clear hK K
      try simp only [Act.put, p1, p2, p3]
      refine tk 6 rfl hH ?_
      simp only [Act.put, p1, p2, p3]
      refine tk 7 rfl hH ?_
      simp only [Act.put, p1, p2, p3]
      refine tk 8 rfl hH ?_
      simp only [Act.put, p1, p2, p3]
      refine tk 9 rfl hH ?_
      simp only [Act.put, p1, p2, p3]
      refine rd1 12 rfl (fun K hK => ?_)
      refine stR rfl (hM.out.at 1 rfl) ((rwC wz).len (rwC d)) (rwC d) ?_
      simp only [Act.put]
      replace hM := hid (hM.out.put 1 rfl (wl d) ((rwC wz).len (rwC d)))
      refine hK.out _ _ ⟨hM.out.at 4 rfl, hM.out.at 3 rfl⟩ (fun hH => ?_)
      clear hK K
      generalize World.setCells _ _ _ _ = W at hM hH ⊢
      try simp only [Act.put, p1, p2, p3]
      refine rd1 13 rfl (fun K hK => ?_)
      refine stR rfl (hM.out.at 0 rfl) ((rwA 0 0).len (rwA _ _)) (rwA _ _) ?_
      simp only [Act.put]
      replace hM := hid (hM.out.put 0 rfl [.int .i64 (cc : Nat), .int .i64 (y : Nat)] ((rwA 0 0).len (rwA _ _)))
      refine hK.out _ _ ⟨hM.out.at 4 rfl, hM.out.at 3 rfl⟩ (fun hH => ?_)
      clear hK K
      generalize World.setCells _ _ _ _ = W at hM hH ⊢
      try simp only [Act.put, p1, p2, p3]
      refine tk 14 rfl hH ?_
      simp only [Act.put, p1, p2, p3]
      refine wpAnyH_done (by kernel_rfl) ?_ _
      go_wp2_with fail
      go_meet
      case rel => exact ⟨bq4, bq5, rfl, rfl, rfl, (hM.out.pick [4, 2, 1, 0]).pickL []⟩
    refine rdc rfl (fun K hK => ?_) AllReadyH.nil
    go_simp
    replace hM := hid (hM.out.born [.int .i64 0, .int .i64 0] 42 rfl)
    refine hK.out _ _ ⟨hM.out.at 3 rfl, hM.out.at 2 rfl⟩ (fun hH => ?_)
    clear hK K
    generalize W.heap.size = bq4 at hM hH ⊢
    generalize World.alloc _ _ = W at hM hH  ⊢
    try simp only [Act.put, p1, p2, p3]
    refine rdn [1, 10] ?_
    refine rdc rfl (fun K hK => ?_) ?_
    · go_simp
      refine (KI.out _).mono ?_
      rintro e W ⟨rfl, hb⟩
      replace hM := hid (hM.out.later hb)
      clear hb
      go_wp2_with fail
      refine hK.out _ _ ⟨hM.out.at 3 rfl, hM.out.at 2 rfl⟩ (fun hH => ?_)
      clear hK K
      try simp only [Act.put, p1, p2, p3]
      refine rdn [3, 10] ?_
      refine rdc rfl (fun K hK => ?_) ?_
      · go_simp
        refine (OJ.out _).mono ?_
        rintro e W ⟨rfl, hb⟩
        replace hM := hid (hM.out.later hb)
        clear hb
        go_wp2_with fail
        refine hK.out _ _ ⟨hM.out.at 3 rfl, hM.out.at 2 rfl⟩ (fun hH => ?_)
        clear hK K
        try simp only [Act.put, p1, p2, p3]
        refine rdn [5, 10] ?_
        refine rdc rfl (fun K hK => ?_) ?_
        · go_simp
          refine (DD.out _).mono ?_
          rintro e W ⟨rfl, hb⟩
          replace hM := hid (hM.out.later hb)
          clear hb
          go_wp2_with fail
          refine hK.out _ _ ⟨hM.out.at 3 rfl, hM.out.at 2 rfl⟩ (fun hH => ?_)
          clear hK K
          try simp only [Act.put, p1, p2, p3]
          refine tk 6 rfl hH ?_
          simp only [Act.put, p1, p2, p3]
          refine tk 7 rfl hH ?_
          simp only [Act.put, p1, p2, p3]
          refine tk 8 rfl hH ?_
          simp only [Act.put, p1, p2, p3]
          refine tk 9 rfl hH ?_
          simp only [Act.put, p1, p2, p3]
          refine rd1 10 rfl (fun K hK => ?_)
          go_simp
          replace hM := hid (hM.out.bornR wz_all.symm 28 rfl)
          refine hK.out _ _ ⟨hM.out.at 4 rfl, hM.out.at 3 rfl⟩ (fun hH => ?_)
          clear hK K
          generalize W.heap.size = bq5 at hM hH ⊢
          generalize World.alloc _ _ = W at hM hH  ⊢
          try simp only [Act.put, p1, p2, p3]
          refine rd1 12 rfl (fun K hK => ?_)
          refine stR rfl (hM.out.at 0 rfl) ((rwC wz).len (rwC d)) (rwC d) ?_
          simp only [Act.put]
          replace hM := hid (hM.out.put 0 rfl (wl d) ((rwC wz).len (rwC d)))
          refine hK.out _ _ ⟨hM.out.at 4 rfl, hM.out.at 3 rfl⟩ (fun hH => ?_)
          clear hK K
          generalize World.setCells _ _ _ _ = W at hM hH ⊢
          try simp only [Act.put, p1, p2, p3]
          refine rd1 13 rfl (fun K hK => ?_)
          refine stR rfl (hM.out.at 1 rfl) ((rwA 0 0).len (rwA _ _)) (rwA _ _) ?_
          simp only [Act.put]
          replace hM := hid (hM.out.put 1 rfl [.int .i64 (cc : Nat), .int .i64 (y : Nat)] ((rwA 0 0).len (rwA _ _)))
          refine hK.out _ _ ⟨hM.out.at 4 rfl, hM.out.at 3 rfl⟩ (fun hH => ?_)
          clear hK K
          generalize World.setCells _ _ _ _ = W at hM hH ⊢
          try simp only [Act.put, p1, p2, p3]
          refine tk 14 rfl hH ?_
          simp only [Act.put, p1, p2, p3]
          refine wpAnyH_done (by kernel_rfl) ?_ _
          go_wp2_with fail
          go_meet
          case rel => exact ⟨bq5, bq4, rfl, rfl, rfl, (hM.out.pick [4, 2, 0, 1]).pickL []⟩
        refine rdc rfl (fun K hK => ?_) AllReadyH.nil
        go_simp
        replace hM := hid (hM.out.bornR wz_all.symm 28 rfl)
        refine hK.out _ _ ⟨hM.out.at 4 rfl, hM.out.at 3 rfl⟩ (fun hH => ?_)
        clear hK K
        generalize W.heap.size = bq5 at hM hH ⊢
        generalize World.alloc _ _ = W at hM hH  ⊢
        try simp only [Act.put, p1, p2, p3]
        refine rd1 5 rfl (fun K hK => ?_)
        go_simp
        refine (DD.out _).mono ?_
        rintro e W ⟨rfl, hb⟩
        replace hM := hid (hM.out.later hb)
        clear hb
        go_wp2_with fail
        refine hK.out _ _ ⟨hM.out.at 4 rfl, hM.out.at 3 rfl⟩ (fun hH => ?_)
        clear hK K
        try simp only [Act.put, p1, p2, p3]
        refine tk 6 rfl hH ?_
        simp only [Act.put, p1, p2, p3]
        refine tk 7 rfl hH ?_
        simp only [Act.put, p1, p2, p3]
        refine tk 8 rfl hH ?_
        simp only [Act.put, p1, p2, p3]
        refine tk 9 rfl hH ?_
        simp only [Act.put, p1, p2, p3]
        refine rd1 12 rfl (fun K hK => ?_)
        refine stR rfl (hM.out.at 0 rfl) ((rwC wz).len (rwC d)) (rwC d) ?_
        simp only [Act.put]
        replace hM := hid (hM.out.put 0 rfl (wl d) ((rwC wz).len (rwC d)))
        refine hK.out _ _ ⟨hM.out.at 4 rfl, hM.out.at 3 rfl⟩ (fun hH => ?_)
        clear hK K
        generalize World.setCells _ _ _ _ = W at hM hH ⊢
        try simp only [Act.put, p1, p2, p3]
        refine rd1 13 rfl (fun K hK => ?_)
        refine stR rfl (hM.out.at 1 rfl) ((rwA 0 0).len (rwA _ _)) (rwA _ _) ?_
        simp only [Act.put]
        replace hM := hid (hM.out.put 1 rfl [.int .i64 (cc : Nat), .int .i64 (y : Nat)] ((rwA 0 0).len (rwA _ _)))
        refine hK.out _ _ ⟨hM.out.at 4 rfl, hM.out.at 3 rfl⟩ (fun hH => ?_)
        clear hK K
        generalize World.setCells _ _ _ _ = W at hM hH ⊢
        try simp only [Act.put, p1, p2, p3]
        refine tk 14 rfl hH ?_
        simp only [Act.put, p1, p2, p3]
        refine wpAnyH_done (by kernel_rfl) ?_ _
        go_wp2_with fail
        go_meet
        case rel => exact ⟨bq5, bq4, rfl, rfl, rfl, (hM.out.pick [4, 2, 0, 1]).pickL []⟩
      refine rdc rfl (fun K hK => ?_) AllReadyH.nil
      go_simp
      replace hM := hid (hM.out.bornR wz_all.symm 28 rfl)
      refine hK.out _ _ ⟨hM.out.at 4 rfl, hM.out.at 3 rfl⟩ (fun hH => ?_)
      clear hK K
      generalize W.heap.size = bq5 at hM hH ⊢
      generalize World.alloc _ _ = W at hM hH  ⊢
      try simp only [Act.put, p1, p2, p3]
      refine rd1 3 rfl (fun K hK => ?_)
      go_simp
      refine (OJ.out _).mono ?_
      rintro e W ⟨rfl, hb⟩
      replace hM := hid (hM.out.later hb)
      clear hb
      go_wp2_with fail
      refine hK.out _ _ ⟨hM.out.at 4 rfl, hM.out.at 3 rfl⟩ (fun hH => ?_)
      clear hK K
      try simp only [Act.put, p1, p2, p3]
      refine rd1 5 rfl (fun K hK => ?_)
      go_simp
      refine (DD.out _).mono ?_
      rintro e W ⟨rfl, hb⟩
      replace hM := hid (hM.out.later hb)
      clear hb
      go_wp2_with fail
      refine hK.out _ _ ⟨hM.out.at 4 rfl, hM.out.at 3 rfl⟩ (fun hH => ?_)
      clear hK K
      try simp only [Act.put, p1, p2, p3]
      refine tk 6 rfl hH ?_
      simp only [Act.put, p1, p2, p3]
      refine tk 7 rfl hH ?_
      simp only [Act.put, p1, p2, p3]
      refine tk 8 rfl hH ?_
      simp only [Act.put, p1, p2, p3]
      refine tk 9 rfl hH ?_
      simp only [Act.put, p1, p2, p3]
      refine rd1 12 rfl (fun K hK => ?_)
      refine stR rfl (hM.out.at 0 rfl) ((rwC wz).len (rwC d)) (rwC d) ?_
      simp only [Act.put]
      replace hM := hid (hM.out.put 0 rfl (wl d) ((rwC wz).len (rwC d)))
      refine hK.out _ _ ⟨hM.out.at 4 rfl, hM.out.at 3 rfl⟩ (fun hH => ?_)
      clear hK K
      generalize World.setCells _ _ _ _ = W at hM hH ⊢
      try simp only [Act.put, p1, p2, p3]
      refine rd1 13 rfl (fun K hK => ?_)
      refine stR rfl (hM.out.at 1 rfl) ((rwA 0 0).len (rwA _ _)) (rwA _ _) ?_
      simp only [Act.put]
      replace hM := hid (hM.out.put 1 rfl [.int .i64 (cc : Nat), .int .i64 (y : Nat)] ((rwA 0 0).len (rwA _ _)))
      refine hK.out _ _ ⟨hM.out.at 4 rfl, hM.out.at 3 rfl⟩ (fun hH => ?_)
      clear hK K
      generalize World.setCells _ _ _ _ = W at hM hH ⊢
      try simp only [Act.put, p1, p2, p3]
      refine tk 14 rfl hH ?_
      simp only [Act.put, p1, p2, p3]
      refine wpAnyH_done (by kernel_rfl) ?_ _
      go_wp2_with fail
      go_meet
      case rel => exact ⟨bq5, bq4, rfl, rfl, rfl, (hM.out.pick [4, 2, 0, 1]).pickL []⟩
    refine rdc rfl (fun K hK => ?_) AllReadyH.nil
    go_simp
    replace hM := hid (hM.out.bornR wz_all.symm 28 rfl)
    refine hK.out _ _ ⟨hM.out.at 4 rfl, hM.out.at 3 rfl⟩ (fun hH => ?_)
    clear hK K
    generalize W.heap.size = bq5 at hM hH ⊢
    generalize World.alloc _ _ = W at hM hH  ⊢
    try simp only [Act.put, p1, p2, p3]
    refine rd1 1 rfl (fun K hK => ?_)
    go_simp
    refine (KI.out _).mono ?_
    rintro e W ⟨rfl, hb⟩
    replace hM := hid (hM.out.later hb)
    clear hb
    go_wp2_with fail
    refine hK.out _ _ ⟨hM.out.at 4 rfl, hM.out.at 3 rfl⟩ (fun hH => ?_)
    clear hK K
    try simp only [Act.put, p1, p2, p3]
    refine rd1 3 rfl (fun K hK => ?_)
    go_simp
    refine (OJ.out _).mono ?_
    rintro e W ⟨rfl, hb⟩
    replace hM := hid (hM.out.later hb)
    clear hb
    go_wp2_with fail
    refine hK.out _ _ ⟨hM.out.at 4 rfl, hM.out.at 3 rfl⟩ (fun hH => ?_)
    clear hK K
    try simp only [Act.put, p1, p2, p3]
    refine rd1 5 rfl (fun K hK => ?_)
    go_simp
    refine (DD.out _).mono ?_
    rintro e W ⟨rfl, hb⟩
    replace hM := hid (hM.out.later hb)
    clear hb
    go_wp2_with fail
    refine hK.out _ _ ⟨hM.out.at 4 rfl, hM.out.at 3 rfl⟩ (fun hH => ?_)
    clear hK K
    try simp only [Act.put, p1, p2, p3]
    refine tk 6 rfl hH ?_
    simp only [Act.put, p1, p2, p3]
    refine tk 7 rfl hH ?_
    simp only [Act.put, p1, p2, p3]
    refine tk 8 rfl hH ?_
    simp only [Act.put, p1, p2, p3]
    refine tk 9 rfl hH ?_
    simp only [Act.put, p1, p2, p3]
    refine rd1 12 rfl (fun K hK => ?_)
    refine stR rfl (hM.out.at 0 rfl) ((rwC wz).len (rwC d)) (rwC d) ?_
    simp only [Act.put]
    replace hM := hid (hM.out.put 0 rfl (wl d) ((rwC wz).len (rwC d)))
    refine hK.out _ _ ⟨hM.out.at 4 rfl, hM.out.at 3 rfl⟩ (fun hH => ?_)
    clear hK K
    generalize World.setCells _ _ _ _ = W at hM hH ⊢
    try simp only [Act.put, p1, p2, p3]
    refine rd1 13 rfl (fun K hK => ?_)
    refine stR rfl (hM.out.at 1 rfl) ((rwA 0 0).len (rwA _ _)) (rwA _ _) ?_
    simp only [Act.put]
    replace hM := hid (hM.out.put 1 rfl [.int .i64 (cc : Nat), .int .i64 (y : Nat)] ((rwA 0 0).len (rwA _ _)))
    refine hK.out _ _ ⟨hM.out.at 4 rfl, hM.out.at 3 rfl⟩ (fun hH => ?_)
    clear hK K
    generalize World.setCells _ _ _ _ = W at hM hH ⊢
    try simp only [Act.put, p1, p2, p3]
    refine tk 14 rfl hH ?_
    simp only [Act.put, p1, p2, p3]
    refine wpAnyH_done (by kernel_rfl) ?_ _
    go_wp2_with fail
    go_meet
    case rel => exact ⟨bq5, bq4, rfl, rfl, rfl, (hM.out.pick [4, 2, 0, 1]).pickL []⟩
  case rest =>
    obtain ⟨bz8, bz9, rfl, rfl, rfl, hM⟩ := hcut
    generalize wc = W at hM ⊢
    have c4 := hM.out.cell 3 0 rfl rfl
    have c5 := hM.out.cell 3 1 rfl rfl
    go_wp2_with (first
      | (refine lR rfl (hM.out.at 3 rfl) rfl (rwA _ _) ?_))
    refine (AI.out _).mono ?_
    rintro e W ⟨rfl, hb⟩
    replace hM := hid (hM.out.later hb)
    clear hb
    clear c4 c5
    go_wp2_with fail
    replace hM := hid (hM.out.drew)
    refine wp_region_held_drew (S := fun w' => True) (by kernel_rfl) trivial (fun hH => ?_)
    generalize World.drew _ = W at hM hH  ⊢
    refine tk 0 rfl hH ?_
    simp only [Act.put, p1, p2, p3]
    refine tk 1 rfl hH ?_
    simp only [Act.put, p1, p2, p3]
    refine rd1 2 rfl (fun K hK => ?_)
    refine cpR rfl Try.underlying31 sz_u (vs := wl d) (off := 1) (dLen := 31) (sLen := 17) (by rw [wl_length]; rfl) ((hM.out.at 2 rfl).cells0) ((hM.out.at 0 rfl).thereAt (o := 1) (n := (wl d).length) (by rw [wl_length, rl_length]; decide)) (wl_one _) ?_
    replace hM := hid (hM.out.putAt 0 1 rfl (wl d) (rl (wo r d)) ((hM.out.at 0 rfl).setOb d))
    refine hK.out _ _ trivial (fun hH => ?_)
    clear hK K
    generalize World.setCells _ _ _ _ = W at hM hH ⊢
    try simp only [Act.put, p1, p2, p3]
    refine wpAnyH_done (by kernel_rfl) ?_ _
    have x6 := (hM.out.at 0 rfl).rwordx (show 28 < 32 by decide) l1.out
    go_wp2_with (first
      | (refine s1 rfl (hM.out.at 0 rfl) 28 rfl (.int .u64 (c1 : Nat)) rfl sz_u ?_ (by rw [rl_length]; omega)
         replace hM := hid (hM.out.put1 0 28 rfl (.int .u64 (c1 : Nat)) (rl (upw (wo r d) 28 c1)) (by rw [rl_length]; omega) (rl_set _ _ (by omega)))
         generalize World.setCell _ _ _ = W at hM ⊢
         clear x6)
      | (refine s1 rfl (hM.out.at 0 rfl) (18 + t) rfl (.int .u64 (aw : Nat)) rfl sz_u ?_ (by rw [rl_length]; omega)
         replace hM := hid (hM.out.put1 0 (18 + t) rfl (.int .u64 (aw : Nat)) (rl (upw (upw (wo r d) 28 c1) (18 + t) aw)) (by rw [rl_length]; omega) (rl_set _ _ (by omega)))
         generalize World.setCell _ _ _ = W at hM ⊢
         have x7 := (hM.out.at 0 rfl).rwordx (show 28 < 32 by decide) l2.out)
      | (refine s1 rfl (hM.out.at 0 rfl) (22 + t) rfl (.int .u64 (c1 : Nat)) rfl sz_u ?_ (by rw [rl_length]; omega)
         replace hM := hid (hM.out.put1 0 (22 + t) rfl (.int .u64 (c1 : Nat)) (rl (upw (upw (upw (wo r d) 28 c1) (18 + t) aw) (22 + t) c1)) (by rw [rl_length]; omega) (rl_set _ _ (by omega)))
         generalize World.setCell _ _ _ = W at hM ⊢
         clear x7
         have x8 := (hM.out.at 0 rfl).rwordx (show 26 < 32 by decide) l3.out))
    refine (FI.out _).mono ?_
    rintro e ux ⟨rfl, hw⟩
    rw [hw]; clear hw ux
    go_wp2_with (first
      | (refine s1 rfl (hM.out.at 0 rfl) 26 rfl (.int .u64 (g : Nat)) rfl sz_u ?_ (by rw [rl_length]; omega)
         replace hM := hid (hM.out.put1 0 26 rfl (.int .u64 (g : Nat)) (rl (upw (upw (upw (upw (wo r d) 28 c1) (18 + t) aw) (22 + t) c1) 26 g)) (by rw [rl_length]; omega) (rl_set _ _ (by omega)))
         generalize World.setCell _ _ _ = W at hM ⊢
         clear x8)
      | (refine lR rfl (hM.out.at 0 rfl) rfl (rwR (upw (upw (upw (upw (wo r d) 28 c1) (18 + t) aw) (22 + t) c1) 26 g)) ?_)
      | (refine sR rfl (hM.out.at 1 rfl) rfl ((rwR wz).len (rwR (upw (upw (upw (upw (wo r d) 28 c1) (18 + t) aw) (22 + t) c1) 26 g))) (rwR (upw (upw (upw (upw (wo r d) 28 c1) (18 + t) aw) (22 + t) c1) 26 g)) ?_
         replace hM := hid (hM.out.put 1 rfl (rl (upw (upw (upw (upw (wo r d) 28 c1) (18 + t) aw) (22 + t) c1) 26 g)) ((rwR wz).len (rwR (upw (upw (upw (upw (wo r d) 28 c1) (18 + t) aw) (22 + t) c1) 26 g))))
         generalize World.setCells _ _ _ _ = W at hM ⊢))
    exact bodyPost_ret (res1s Try.results18 (hM.out.at 1 rfl) (rwR (upw (upw (upw (upw (wo r d) 28 c1) (18 + t) aw) (22 + t) c1) 26 g)) (.nilIface)) rfl ⟨rfl, hM.out.below⟩
end Go.Proofs.Ytgkgkiheoadbfaa.Tab
namespace Go.Proofs.Ytgkgkiheoadbfaa
set_option maxRecDepth 20000
open Go.RowKit

theorem Bit_no (x a : Int) (w : World) (h : a < 0 ∨ 63 < a) :
    Calls Try.prog 22 #[.int .u64 x, .int .i64 a] w fun e w' => e = .returned (.bool false) ∧ w' = w := by
  go_enter Try.func22, Try.ntmps22
  go_wp2_with (go_at_call 38; refine (inside_no _ _ _ (by decide) (by omega)).mono ?_; rintro e w' ⟨rfl, rfl⟩)
  go_ret
  exact ⟨rfl, rfl⟩

theorem Bit_yes (x k : Nat) (w : World) (hx : x < 18446744073709551616) (hk : k < 64) :
    Calls Try.prog 22 #[.int .u64 x, .int .i64 k] w fun e w' => e = .returned (.bool (x.testBit k)) ∧ w' = w := by
  go_enter Try.func22, Try.ntmps22
  go_wp2_with (go_at_call 38; refine (inside_yes _ _ _ (by decide) (by omega) (by omega)).mono ?_; rintro e w' ⟨rfl, rfl⟩)
  go_ret
  exact ⟨ret_bool (bit_test x k hx), rfl⟩

end Go.Proofs.Ytgkgkiheoadbfaa
namespace Go.Proofs.Ytgkgkiheoadbfaa.Tab
set_option maxRecDepth 20000
open Go.RowKit
set_option linter.unusedVariables false

set_option maxHeartbeats 2000000 in
theorem toggle_no (r : Nat → Nat) {t : Int} (h : t < 0 ∨ 4 ≤ t) (w : World) :
    Calls Try.prog 10 #[.agg (rl r).toArray, .int .i64 t] w (fun e w' => e = .returned (.int .i64 0) ∧ Below w.heap.size w w') := by
  have IT : Hid (∀ w : World, _) := isThread_no h
  clear h
  have hM : Hid _ := ((Ms.nil w).born (rl r) 24 (b := w.heap.size) rfl)
  go_enter Try.func10, Try.ntmps10
  go_wp2_with fail
  refine (IT.out _).mono ?_
  rintro e ux ⟨rfl, hw⟩
  rw [hw]; clear hw ux
  go_wp2
  go_ret
  exact ⟨rfl, hM.out.below⟩
set_option maxHeartbeats 2000000 in
theorem toggle_yes (r : Nat → Nat) {t : Nat} (ht : t < 4) (h26 : r 26 < 18446744073709551616) (w : World) :
    Calls Try.prog 10 #[.agg (rl r).toArray, .int .i64 (t : Nat)] w (fun e w' => e = .returned (.int .i64 (((r 26).testBit t).toNat : Nat)) ∧ Below w.heap.size w w') := by
  have IT : Hid (∀ w : World, _) := isThread_yes (t := (t : Nat)) (by omega) (by omega)
  have BI : Hid (∀ w : World, _) := fun w => Bit_yes (r 26) t w h26 (by omega)
  clear ht h26
  have hM : Hid _ := ((Ms.nil w).born (rl r) 24 (b := w.heap.size) rfl)
  have x1 := (hM.out.at 0 rfl).rword (show 26 < 32 by decide)
  generalize (r 26).testBit t = b at *
  go_enter Try.func10, Try.ntmps10
  go_wp2_with fail
  refine (IT.out _).mono ?_
  rintro e ux ⟨rfl, hw⟩
  rw [hw]; clear hw ux
  go_wp2_with fail
  refine (BI.out _).mono ?_
  rintro e ux ⟨rfl, hw⟩
  rw [hw]; clear hw ux
  cases b
  all_goals go_wp2
  all_goals go_ret
  all_goals exact ⟨rfl, hM.out.below⟩
end Go.Proofs.Ytgkgkiheoadbfaa.Tab
namespace Go.Proofs.Ytgkgkiheoadbfaa.Tab
set_option maxRecDepth 20000
open Go.RowKit
set_option linter.unusedVariables false

theorem res1ss {P : Program} {fn : Func} {p q r : Tmp} {ty : TypeId} {tmps : Array Value} {w : World} {b : Nat} {cs : List Value} (h : fn.results = #[.cell p ty, .tmp q, .tmp r]) (hB : Bo w b cs) (r1 : Rw P ty cs) (v u : Value) (hp : tmps.getD p undef = .pointer (some ⟨b, 0, none⟩) := by rfl) (hq : tmps.getD q undef = v := by rfl) (hr : tmps.getD r undef = u := by rfl) :
    (results fn tmps).run P w = .ok (.tuple #[.agg cs.toArray, v, u]) w := by
  obtain ⟨d, h1, h2⟩ := r1.lay
  have hp' : tmps[p]?.getD undef = .pointer (some ⟨b, 0, none⟩) := by simpa using hp
  have hq' : tmps[q]?.getD undef = v := by simpa using hq
  have hr' : tmps[r]?.getD undef = u := by simpa using hr
  simp [results, h, hp', hq', hr', asAddr, run_loadVar_mid w b 0 ty cs d hB.range h1 h2 r1.size]
set_option maxHeartbeats 2000000 in
theorem recAnswer_no (r : Nat → Nat) {t : Int} (h : t < 0 ∨ 4 ≤ t) (w : World) :
    Calls Try.prog 33 #[.agg (rl r).toArray, .int .i64 t] w (fun e w' => e = .returned (.tuple #[.agg #[.int .i64 0, .int .i64 0], .int .i64 0, .iface 69 (.int .i64 2)]) ∧ Below w.heap.size w w') := by
  have IT : Hid (∀ w : World, _) := isThread_no h
  clear h
  have hM : Hid _ := (((Ms.nil w).born (rl r) 24 (b := w.heap.size) rfl).born [.int .i64 0, .int .i64 0] 42 (b := w.heap.size + 1) (by simp))
  go_enter Try.func33, Try.ntmps33
  go_wp2_with fail
  refine (IT.out _).mono ?_
  rintro e ux ⟨rfl, hw⟩
  rw [hw]; clear hw ux
  go_wp2_with (first
    | (refine sR rfl (hM.out.at 0 rfl) rfl ((rwA 0 0).len (rwA 0 0)) (rwA 0 0) ?_
       replace hM := hid (hM.out.put 0 rfl [.int .i64 0, .int .i64 0] ((rwA 0 0).len (rwA 0 0)))
       generalize World.setCells _ _ _ _ = W at hM ⊢))
  exact bodyPost_ret (res1ss Try.results33 (hM.out.at 0 rfl) (rwA 0 0) (.int .i64 0) (.iface 69 (.int .i64 2))) rfl ⟨rfl, hM.out.below⟩
set_option maxHeartbeats 2000000 in
theorem recAnswer_none {r : Nat → Nat} (U : ∀ j, j < 32 → r j < 18446744073709551616) {i : Nat} (hi : i < 4) (ha : ¬ Aw (r (18 + i))) (w : World) :
    Calls Try.prog 33 #[.agg (rl r).toArray, .int .i64 (i : Nat)] w (fun e w' => e = .returned (.tuple #[.agg #[.int .i64 0, .int .i64 0], .int .i64 0, .iface 69 (.int .i64 8)]) ∧ Below w.heap.size w w') := by
  have IT : Hid (∀ w : World, _) := isThread_yes (t := (i : Nat)) (by omega) (by omega)
  have TO : Hid (∀ w : World, _) := fun w => told_no (U (18 + i) (by omega)) ha w
  have fa0 : (0 : Int) ≤ 18 + (i : Int) := by omega
  have fa1 : 18 + (i : Int) < 32 := by omega
  have fa2 : IntKind.i64.wrap (18 + (i : Int)) = 18 + i := by rw [IntKind.wrap_i64]; omega
  have fa3 : wrap64 (18 + (i : Int)) = 18 + i := by unfold wrap64; omega
  have fa4 : (18 + (i : Int)).toNat = 18 + i := by omega
  have fb0 : (0 : Int) ≤ 22 + (i : Int) := by omega
  have fb1 : 22 + (i : Int) < 32 := by omega
  have fb2 : IntKind.i64.wrap (22 + (i : Int)) = 22 + i := by rw [IntKind.wrap_i64]; omega
  have fb3 : wrap64 (22 + (i : Int)) = 22 + i := by unfold wrap64; omega
  have fb4 : (22 + (i : Int)).toNat = 22 + i := by omega
  have hx1 : 18 + i < 32 := by omega
  have hx2 : 22 + i < 32 := by omega
  obtain ⟨x, hx⟩ : ∃ x, r (18 + i) = x := ⟨_, rfl⟩
  have HX : Hid _ := hx
  rw [hx] at TO
  clear hx U ha hi
  have hM : Hid _ := (((Ms.nil w).born (rl r) 24 (b := w.heap.size) rfl).born [.int .i64 0, .int .i64 0] 42 (b := w.heap.size + 1) (by simp))
  have x1 := (hM.out.at 1 rfl).rwordx hx1 HX.out
  go_enter Try.func33, Try.ntmps33
  go_wp2_with fail
  refine (IT.out _).mono ?_
  rintro e ux ⟨rfl, hw⟩
  rw [hw]; clear hw ux
  go_wp2_with fail
  clear x1
  generalize World.alloc _ _ = W at hM ⊢
  generalize hsz : w.heap.size = n at hM ⊢
  clear hsz
  refine (TO.out _).mono ?_
  rintro e W ⟨rfl, hb⟩
  replace hM := hid (hM.out.later hb)
  clear hb
  obtain ⟨bq0, hq0⟩ : ∃ q, q = W.heap.size := ⟨_, rfl⟩
  replace hM := hid (hM.out.born [.int .i64 0, .int .i64 0] 42 hq0)
  have HQ : Hid _ := hq0
  clear hq0
  go_wp2_with (first
    | (rw [← HQ.out]; refine sR rfl (hM.out.at 0 rfl) rfl ((rwA 0 0).len (rwA _ _)) (rwA _ _) ?_
       replace hM := hid (hM.out.put 0 rfl [.int .i64 0, .int .i64 0] ((rwA 0 0).len (rwA _ _)))
       generalize World.setCells _ _ _ _ = W at hM ⊢)
    | (refine sR rfl (hM.out.at 1 rfl) rfl ((rwA 0 0).len (rwA 0 0)) (rwA 0 0) ?_
       replace hM := hid (hM.out.put 1 rfl [.int .i64 0, .int .i64 0] ((rwA 0 0).len (rwA 0 0)))
       generalize World.setCells _ _ _ _ = W at hM ⊢))
  exact bodyPost_ret (res1ss Try.results33 (hM.out.at 1 rfl) (rwA 0 0) (.int .i64 0) (.iface 69 (.int .i64 8))) rfl ⟨rfl, hM.out.below⟩
set_option maxHeartbeats 2000000 in
theorem recAnswer_yes {r : Nat → Nat} (U : ∀ j, j < 32 → r j < 18446744073709551616) {i : Nat} (hi : i < 4) (ha : Aw (r (18 + i))) (w : World) :
    Calls Try.prog 33 #[.agg (rl r).toArray, .int .i64 (i : Nat)] w (fun e w' => e = .returned (.tuple #[.agg #[.int .i64 (r (18 + i) / 4294967296 : Nat), .int .i64 (r (18 + i) % 4294967296 : Nat)], .int .i64 (IntKind.i64.wrap (r (22 + i) : Nat)), .nilIface]) ∧ Below w.heap.size w w') := by
  have IT : Hid (∀ w : World, _) := isThread_yes (t := (i : Nat)) (by omega) (by omega)
  have TO : Hid (∀ w : World, _) := fun w => told_yes (U (18 + i) (by omega)) ha w
  have fa0 : (0 : Int) ≤ 18 + (i : Int) := by omega
  have fa1 : 18 + (i : Int) < 32 := by omega
  have fa2 : IntKind.i64.wrap (18 + (i : Int)) = 18 + i := by rw [IntKind.wrap_i64]; omega
  have fa3 : wrap64 (18 + (i : Int)) = 18 + i := by unfold wrap64; omega
  have fa4 : (18 + (i : Int)).toNat = 18 + i := by omega
  have fb0 : (0 : Int) ≤ 22 + (i : Int) := by omega
  have fb1 : 22 + (i : Int) < 32 := by omega
  have fb2 : IntKind.i64.wrap (22 + (i : Int)) = 22 + i := by rw [IntKind.wrap_i64]; omega
  have fb3 : wrap64 (22 + (i : Int)) = 22 + i := by unfold wrap64; omega
  have fb4 : (22 + (i : Int)).toNat = 22 + i := by omega
  obtain ⟨y, hy⟩ : ∃ y, r (22 + i) = y := ⟨_, rfl⟩
  have hx1 : 18 + i < 32 := by omega
  have hx2 : 22 + i < 32 := by omega
  obtain ⟨x, hx⟩ : ∃ x, r (18 + i) = x := ⟨_, rfl⟩
  have HX : Hid _ := hx
  have HY : Hid _ := hy
  rw [hx] at TO ⊢
  rw [hy]
  clear hx U ha hi hy
  generalize x / 4294967296 = xa at *
  generalize x % 4294967296 = xb at *
  have hM : Hid _ := (((Ms.nil w).born (rl r) 24 (b := w.heap.size) rfl).born [.int .i64 0, .int .i64 0] 42 (b := w.heap.size + 1) (by simp))
  have x1 := (hM.out.at 1 rfl).rwordx hx1 HX.out
  go_enter Try.func33, Try.ntmps33
  go_wp2_with fail
  refine (IT.out _).mono ?_
  rintro e ux ⟨rfl, hw⟩
  rw [hw]; clear hw ux
  go_wp2_with fail
  clear x1
  generalize World.alloc _ _ = W at hM ⊢
  generalize hsz : w.heap.size = n at hM ⊢
  clear hsz
  refine (TO.out _).mono ?_
  rintro e W ⟨rfl, hb⟩
  replace hM := hid (hM.out.later hb)
  clear hb
  obtain ⟨bq0, hq0⟩ : ∃ q, q = W.heap.size := ⟨_, rfl⟩
  replace hM := hid (hM.out.born [.int .i64 0, .int .i64 0] 42 hq0)
  have HQ : Hid _ := hq0
  clear hq0
  go_wp2_with (first
    | (rw [← HQ.out]; refine sR rfl (hM.out.at 0 rfl) rfl ((rwA 0 0).len (rwA _ _)) (rwA _ _) ?_
       replace hM := hid (hM.out.put 0 rfl [.int .i64 (xa : Nat), .int .i64 (xb : Nat)] ((rwA 0 0).len (rwA _ _)))
       generalize World.setCells _ _ _ _ = W at hM ⊢))
  replace hM := hid (hM.out.drew)
  refine wp_region_held_drew (S := fun w' => Bo w' n (rl r) ∧ Bo w' bq0 [.int .i64 (xa : Nat), .int .i64 (xb : Nat)]) (by kernel_rfl) ⟨hM.out.at 2 rfl, hM.out.at 0 rfl⟩ (fun hH => ?_)
  generalize World.drew _ = W at hM hH  ⊢
  refine tk 0 rfl hH ?_ (by intro w h; have c0 := h.2.at 0 rfl; have c1 := h.2.at 1 rfl; clear h; go_simp; try with_reducible rfl)
  simp only [Act.put, p1, p2, p3]
  refine tk 1 rfl hH ?_
  simp only [Act.put, p1, p2, p3]
  refine tk 2 rfl hH ?_
  simp only [Act.put, p1, p2, p3]
  refine tk 3 rfl hH ?_
  simp only [Act.put, p1, p2, p3]
  refine tk 4 rfl hH ?_ (by intro w h; have c0 := h.1.rwordx hx2 HY.out; clear h; go_simp; try with_reducible rfl)
  simp only [Act.put, p1, p2, p3]
  refine tk 5 rfl hH ?_
  simp only [Act.put, p1, p2, p3]
  refine rd1 6 rfl (fun K hK => ?_)
  refine stR rfl (hM.out.at 1 rfl) ((rwA 0 0).len (rwA _ _)) (rwA _ _) ?_
  simp only [Act.put]
  replace hM := hid (hM.out.put 1 rfl [.int .i64 (xa : Nat), .int .i64 (xb : Nat)] ((rwA 0 0).len (rwA _ _)))
  refine hK.out _ _ ⟨hM.out.at 2 rfl, hM.out.at 0 rfl⟩ (fun hH => ?_)
  clear hK K
  generalize World.setCells _ _ _ _ = W at hM hH ⊢
  try simp only [Act.put, p1, p2, p3]
  refine tk 7 rfl hH ?_
  simp only [Act.put, p1, p2, p3]
  refine tk 8 rfl hH ?_
  simp only [Act.put, p1, p2, p3]
  refine wpAnyH_done (by kernel_rfl) ?_ _
  go_wp2
  exact bodyPost_ret (res1ss Try.results33 (hM.out.at 1 rfl) (rwA _ _) (.int .i64 (IntKind.i64.wrap (y : Nat))) .nilIface) rfl ⟨rfl, hM.out.below⟩
end Go.Proofs.Ytgkgkiheoadbfaa.Tab
namespace Go.Proofs.Ytgkgkiheoadbfaa.Tab
set_option maxRecDepth 20000
open Go.RowKit
set_option linter.unusedVariables false

theorem put9_odo : (odo ((newR 1 0 : Nat)) (ob (newR 1)) 1 0 9).2 = (1, 0) := by decide
def recP : Nat → Nat := rdo (newR 1) 2 1 0 9
theorem recP_rec : isRec recP := rdo_rec (newR_rec (by decide) (by decide)) ⟨by decide, by decide, by decide, by decide, by decide, by decide⟩ (by decide) (by decide)
theorem recP_20 : recP 20 = 4294967296 := by
  have := rdo_a (r := newR 1) (t := 2) (o := 1) (k := 0) (x := 9) (by decide)
  rw [put9_odo] at this
  exact this
theorem recP_24 : recP 24 = 1 := rdo_w (r := newR 1) (t := 2) (o := 1) (k := 0) (x := 9) (by decide)
theorem recP_26 : recP 26 = 4 := rdo_26 (r := newR 1) (t := 2) (o := 1) (k := 0) (x := 9)
set_option maxHeartbeats 8000000 in
theorem recorded_is  (w : World) :
    Calls Try.prog 13 #[] w (fun e w' => e = .returned (.bool true) ∧ Below w.heap.size w w') := by
  have HZ := newR_rec (k := 1) (by decide) (by decide)
  have NW : Hid (∀ w : World, Calls Try.prog 31 #[.int .i64 1] w fun e w' => e = .returned (.tuple #[.agg (rl (newR 1)).toArray, .nilIface]) ∧ Below w.heap.size w w') := fun w => recNew_yes (k := 1) (by decide) (by decide) w
  have DO : Hid (∀ w : World, Calls Try.prog 18 #[.agg (rl (newR 1)).toArray, .int .i64 2, .agg #[.int .i64 1, .int .i64 0, .int .i64 9]] w fun e w' => e = .returned (.tuple #[.agg (rl recP).toArray, .nilIface]) ∧ Below w.heap.size w w') := fun w => recDone_yes (t := 2) HZ.u64 (by decide) HZ ⟨by decide, by decide, by decide, by decide, by decide, by decide⟩ w
  have AN : Hid (∀ w : World, Calls Try.prog 33 #[.agg (rl recP).toArray, .int .i64 2] w fun e w' => e = .returned (.tuple #[.agg #[.int .i64 1, .int .i64 0], .int .i64 1, .nilIface]) ∧ Below w.heap.size w w') := fun w => by
    have h := recAnswer_yes (r := recP) recP_rec.u64 (i := 2) (by decide) (by show Aw (recP 20); rw [recP_20]; decide) w
    rw [show recP (18 + 2) = 4294967296 from recP_20, show recP (22 + 2) = 1 from recP_24] at h
    exact h
  have TG : Hid (∀ w : World, Calls Try.prog 10 #[.agg (rl recP).toArray, .int .i64 2] w fun e w' => e = .returned (.int .i64 1) ∧ Below w.heap.size w w') := fun w => by
    have h := toggle_yes recP (t := 2) (by decide) (recP_rec.u64 26 (by decide)) w
    rw [recP_26] at h
    exact h
  have TZ : Hid (∀ w : World, Calls Try.prog 10 #[.agg (rl (newR 1)).toArray, .int .i64 2] w fun e w' => e = .returned (.int .i64 0) ∧ Below w.heap.size w w') := fun w => toggle_yes (newR 1) (t := 2) (by decide) (HZ.u64 26 (by decide)) w
  have RZ : Hid (∀ w : World, _) := recRight_is HZ.u64 (v := true) ⟨fun _ => HZ, fun _ => rfl⟩
  have RP : Hid (∀ w : World, _) := recRight_is recP_rec.u64 (v := true) ⟨fun _ => recP_rec, fun _ => rfl⟩
  clear HZ
  generalize newR 1 = zr at *
  generalize recP = pr at *
  have hM : Hid _ := (Ms.nil w)
  go_enter Try.func13, Try.ntmps13
  go_wp2_with fail
  refine (NW.out _).mono ?_
  rintro e W ⟨rfl, hb⟩
  replace hM := hid (hM.out.later hb)
  clear hb
  generalize hsz : w.heap.size = n at hM ⊢
  clear hsz
  obtain ⟨bx1, hbx1⟩ : ∃ q, q = W.heap.size := ⟨_, rfl⟩
  replace hM := hid (hM.out.bornR rl_zero.symm 24 (b := bx1) hbx1)
  have Hbx1 : Hid _ := hbx1
  clear hbx1
  go_wp2_with (first
    | (rw [← Hbx1.out]; refine sR rfl (hM.out.at 0 rfl) rfl ((rwR wz).len (rwR zr)) (rwR zr) ?_
       replace hM := hid (hM.out.put 0 rfl (rl zr) ((rwR wz).len (rwR zr)))
       generalize World.setCells _ _ _ _ = W at hM ⊢))
  go_cut [3, 4] (fun s3 s4 wx => ∃ bz3 : Nat, s3 = .pointer (some ⟨bz3, 0, none⟩) ∧ s4 = .nilIface ∧ Hid (Ms n w wx [(bx1, (rl zr)), (bz3, (rl pr))] []))
  case first =>
    replace hM := hid (hM.out.drew)
    refine wp_region_held_drew (S := fun w' => Bo w' bx1 (rl zr)) (by kernel_rfl) (hM.out.at 0 rfl) (fun hH => ?_)
    generalize World.drew _ = W at hM hH  ⊢
    refine tkR 0 rfl hH (fun _ h => h) (rwR zr) ?_
    simp only [Act.put, p1, p2, p3]
    refine rdn [1, 6] ?_
    refine rdc rfl (fun K hK => ?_) ?_
    · go_simp
      refine (put_is 9 _).mono ?_
      rintro e W ⟨rfl, hb⟩
      replace hM := hid (hM.out.later hb)
      clear hb
      go_wp2_with fail
      refine hK.out _ _ (hM.out.at 0 rfl) (fun hH => ?_)
      clear hK K
      try simp only [Act.put, p1, p2, p3]
      refine rdn [2, 6] ?_
      refine rdc rfl (fun K hK => ?_) ?_
      · go_simp
        refine (DO.out _).mono ?_
        rintro e W ⟨rfl, hb⟩
        replace hM := hid (hM.out.later hb)
        clear hb
        go_wp2_with fail
        refine hK.out _ _ (hM.out.at 0 rfl) (fun hH => ?_)
        clear hK K
        try simp only [Act.put, p1, p2, p3]
        refine tk 3 rfl hH ?_
        simp only [Act.put, p1, p2, p3]
        refine tk 4 rfl hH ?_
        simp only [Act.put, p1, p2, p3]
        refine tk 5 rfl hH ?_
        simp only [Act.put, p1, p2, p3]
        refine rd1 6 rfl (fun K hK => ?_)
        go_simp
        replace hM := hid (hM.out.bornR rl_zero.symm 24 rfl)
        refine hK.out _ _ (hM.out.at 1 rfl) (fun hH => ?_)
        clear hK K
        generalize W.heap.size = bq2 at hM hH ⊢
        generalize World.alloc _ _ = W at hM hH  ⊢
        try simp only [Act.put, p1, p2, p3]
        refine rd1 7 rfl (fun K hK => ?_)
        refine stR rfl (hM.out.at 0 rfl) ((rwR wz).len (rwR pr)) (rwR pr) ?_
        simp only [Act.put]
        replace hM := hid (hM.out.put 0 rfl (rl pr) ((rwR wz).len (rwR pr)))
        refine hK.out _ _ (hM.out.at 1 rfl) (fun hH => ?_)
        clear hK K
        generalize World.setCells _ _ _ _ = W at hM hH ⊢
        try simp only [Act.put, p1, p2, p3]
        refine tk 8 rfl hH ?_
        simp only [Act.put, p1, p2, p3]
        refine wpAnyH_done (by kernel_rfl) ?_ _
        go_wp2_with fail
        go_meet
        case rel => exact ⟨bq2, rfl, rfl, (hM.out.pick [1, 0]).pickL []⟩
      refine rdc rfl (fun K hK => ?_) AllReadyH.nil
      go_simp
      replace hM := hid (hM.out.bornR rl_zero.symm 24 rfl)
      refine hK.out _ _ (hM.out.at 1 rfl) (fun hH => ?_)
      clear hK K
      generalize W.heap.size = bq2 at hM hH ⊢
      generalize World.alloc _ _ = W at hM hH  ⊢
      try simp only [Act.put, p1, p2, p3]
      refine rd1 2 rfl (fun K hK => ?_)
      go_simp
      refine (DO.out _).mono ?_
      rintro e W ⟨rfl, hb⟩
      replace hM := hid (hM.out.later hb)
      clear hb
      go_wp2_with fail
      refine hK.out _ _ (hM.out.at 1 rfl) (fun hH => ?_)
      clear hK K
      try simp only [Act.put, p1, p2, p3]
      refine tk 3 rfl hH ?_
      simp only [Act.put, p1, p2, p3]
      refine tk 4 rfl hH ?_
      simp only [Act.put, p1, p2, p3]
      refine tk 5 rfl hH ?_
      simp only [Act.put, p1, p2, p3]
      refine rd1 7 rfl (fun K hK => ?_)
      refine stR rfl (hM.out.at 0 rfl) ((rwR wz).len (rwR pr)) (rwR pr) ?_
      simp only [Act.put]
      replace hM := hid (hM.out.put 0 rfl (rl pr) ((rwR wz).len (rwR pr)))
      refine hK.out _ _ (hM.out.at 1 rfl) (fun hH => ?_)
      clear hK K
      generalize World.setCells _ _ _ _ = W at hM hH ⊢
      try simp only [Act.put, p1, p2, p3]
      refine tk 8 rfl hH ?_
      simp only [Act.put, p1, p2, p3]
      refine wpAnyH_done (by kernel_rfl) ?_ _
      go_wp2_with fail
      go_meet
      case rel => exact ⟨bq2, rfl, rfl, (hM.out.pick [1, 0]).pickL []⟩
    refine rdc rfl (fun K hK => ?_) AllReadyH.nil
    go_simp
    replace hM := hid (hM.out.bornR rl_zero.symm 24 rfl)
    refine hK.out _ _ (hM.out.at 1 rfl) (fun hH => ?_)
    clear hK K
    generalize W.heap.size = bq2 at hM hH ⊢
    generalize World.alloc _ _ = W at hM hH  ⊢
    try simp only [Act.put, p1, p2, p3]
    refine rd1 1 rfl (fun K hK => ?_)
    go_simp
    refine (put_is 9 _).mono ?_
    rintro e W ⟨rfl, hb⟩
    replace hM := hid (hM.out.later hb)
    clear hb
    go_wp2_with fail
    refine hK.out _ _ (hM.out.at 1 rfl) (fun hH => ?_)
    clear hK K
    try simp only [Act.put, p1, p2, p3]
    refine rd1 2 rfl (fun K hK => ?_)
    go_simp
    refine (DO.out _).mono ?_
    rintro e W ⟨rfl, hb⟩
    replace hM := hid (hM.out.later hb)
    clear hb
    go_wp2_with fail
    refine hK.out _ _ (hM.out.at 1 rfl) (fun hH => ?_)
    clear hK K
    try simp only [Act.put, p1, p2, p3]
    refine tk 3 rfl hH ?_
    simp only [Act.put, p1, p2, p3]
    refine tk 4 rfl hH ?_
    simp only [Act.put, p1, p2, p3]
    refine tk 5 rfl hH ?_
    simp only [Act.put, p1, p2, p3]
    refine rd1 7 rfl (fun K hK => ?_)
    refine stR rfl (hM.out.at 0 rfl) ((rwR wz).len (rwR pr)) (rwR pr) ?_
    simp only [Act.put]
    replace hM := hid (hM.out.put 0 rfl (rl pr) ((rwR wz).len (rwR pr)))
    refine hK.out _ _ (hM.out.at 1 rfl) (fun hH => ?_)
    clear hK K
    generalize World.setCells _ _ _ _ = W at hM hH ⊢
    try simp only [Act.put, p1, p2, p3]
    refine tk 8 rfl hH ?_
    simp only [Act.put, p1, p2, p3]
    refine wpAnyH_done (by kernel_rfl) ?_ _
    go_wp2_with fail
    go_meet
    case rel => exact ⟨bq2, rfl, rfl, (hM.out.pick [1, 0]).pickL []⟩
  case rest =>
    obtain ⟨bz3, rfl, rfl, hM⟩ := hcut
    generalize wc = W at hM ⊢
    go_wp2_with (first
      | (refine lR rfl (hM.out.at 1 rfl) rfl (rwR pr) ?_))
    refine (AN.out _).mono ?_
    rintro e W ⟨rfl, hb⟩
    replace hM := hid (hM.out.later hb)
    clear hb
    obtain ⟨bx2, hbx2⟩ : ∃ q, q = W.heap.size := ⟨_, rfl⟩
    replace hM := hid (hM.out.born [.int .i64 0, .int .i64 0] 42 (b := bx2) hbx2)
    have Hbx2 : Hid _ := hbx2
    clear hbx2
    go_wp2_with (first
      | (rw [← Hbx2.out]; refine sR rfl (hM.out.at 0 rfl) rfl ((rwA 0 0).len (rwA 1 0)) (rwA 1 0) ?_
         replace hM := hid (hM.out.put 0 rfl [.int .i64 1, .int .i64 0] ((rwA 0 0).len (rwA 1 0)))
         generalize World.setCells _ _ _ _ = W at hM ⊢
         have c3 := hM.out.cell 0 0 rfl rfl
         have c4 := hM.out.cell 0 1 rfl rfl)
      | (refine lW rfl (hM.out.at 1 rfl) rfl (rwR zr) ?_))
    refine (RZ.out _).mono ?_
    rintro e W ⟨rfl, hb⟩
    replace hM := hid (hM.out.later hb)
    clear hb
    clear c3 c4
    go_wp2_with (first
      | (refine lW rfl (hM.out.at 2 rfl) rfl (rwR pr) ?_))
    refine (RP.out _).mono ?_
    rintro e W ⟨rfl, hb⟩
    replace hM := hid (hM.out.later hb)
    clear hb
    have c5 := hM.out.cell 0 0 rfl rfl
    have c6 := hM.out.cell 0 1 rfl rfl
    go_wp2_with (first
      | (refine lW rfl (hM.out.at 2 rfl) rfl (rwR pr) ?_))
    refine (TG.out _).mono ?_
    rintro e W ⟨rfl, hb⟩
    replace hM := hid (hM.out.later hb)
    clear hb
    clear c5 c6
    go_wp2_with (first
      | (refine lW rfl (hM.out.at 1 rfl) rfl (rwR zr) ?_))
    refine (TZ.out _).mono ?_
    rintro e W ⟨rfl, hb⟩
    replace hM := hid (hM.out.later hb)
    clear hb
    go_wp2
    go_ret
    exact ⟨rfl, hM.out.below⟩
end Go.Proofs.Ytgkgkiheoadbfaa.Tab
namespace Go.Proofs.Ytgkgkiheoadbfaa.Tab
set_option maxRecDepth 20000
open Go.RowKit
set_option linter.unusedVariables false

set_option maxHeartbeats 8000000 in
theorem written_nil {kind m : Nat} (h1 : 1 ≤ kind) (h6 : kind ≤ 6) (w : World) :
    Calls Try.prog 15 #[.int .i64 (kind : Nat), .slice none 0 0] w (fun e w' => ∃ r, isRec r ∧ r 0 = kind ∧ r 28 ≤ 30 ∧ (m = 0 → rl r = rl (newR kind)) ∧ e = .returned (.agg (rl r).toArray) ∧ Below w.heap.size w w') := by
  have NW : Hid (∀ w : World, _) := recNew_yes h1 h6
  have NR : Hid (isRec (newR kind)) := newR_rec h1 h6
  clear h1 h6
  have hM : Hid _ := ((Ms.nil w).bornR rl_zero.symm 24 (b := w.heap.size) rfl)
  go_enter Try.func15, Try.ntmps15
  go_wp2_with fail
  generalize World.alloc _ _ = W at hM ⊢
  generalize hsz : w.heap.size = n at hM ⊢
  clear hsz
  refine (NW.out _).mono ?_
  rintro e W ⟨rfl, hb⟩
  replace hM := hid (hM.out.later hb)
  clear hb
  obtain ⟨bx1, hbx1⟩ : ∃ q, q = W.heap.size := ⟨_, rfl⟩
  replace hM := hid (hM.out.bornR rl_zero.symm 24 (b := bx1) hbx1)
  have Hbx1 : Hid _ := hbx1
  clear hbx1
  go_wp2_with (first
    | (rw [← Hbx1.out]; refine sR rfl (hM.out.at 0 rfl) rfl ((rwR wz).len (rwR (newR kind))) (rwR (newR kind)) ?_
       replace hM := hid (hM.out.put 0 rfl (rl (newR kind)) ((rwR wz).len (rwR (newR kind))))
       generalize World.setCells _ _ _ _ = W at hM ⊢))
  go_loopg [22] 0 (fun gg s22 wt => wt = W ∧ s22 = .int .i64 0)
  case atStart => exact ⟨rfl, rfl⟩
  case round =>
    obtain ⟨hw, rfl⟩ := hrel
    rw [hw]; clear hw wr
    go_wp2_with (first
      | (refine lR rfl (hM.out.at 0 rfl) rfl (rwR (newR kind)) ?_)
      | (refine sR rfl (hM.out.at 1 rfl) rfl ((rwR wz).len (rwR (newR kind))) (rwR (newR kind)) ?_
         replace hM := hid (hM.out.put 1 rfl (rl (newR kind)) ((rwR wz).len (rwR (newR kind))))
         generalize World.setCells _ _ _ _ = W at hM ⊢))
    exact bodyPost_ret (res1 Try.results15 (hM.out.at 1 rfl) (rwR (newR kind))) rfl ⟨newR kind, NR.out, by unfold newR; rw [if_pos rfl], by unfold newR; rw [if_neg (by decide)]; omega, fun _ => rfl, rfl, hM.out.below⟩
set_option maxHeartbeats 8000000 in
theorem written_none {kind m : Nat} (h1 : 1 ≤ kind) (h6 : kind ≤ 6) (a : Addr) (c : Nat) (w : World) :
    Calls Try.prog 15 #[.int .i64 (kind : Nat), .slice (some a) 0 c] w (fun e w' => ∃ r, isRec r ∧ r 0 = kind ∧ r 28 ≤ 30 ∧ (m = 0 → rl r = rl (newR kind)) ∧ e = .returned (.agg (rl r).toArray) ∧ Below w.heap.size w w') := by
  have NW : Hid (∀ w : World, _) := recNew_yes h1 h6
  have NR : Hid (isRec (newR kind)) := newR_rec h1 h6
  clear h1 h6
  have hM : Hid _ := ((Ms.nil w).bornR rl_zero.symm 24 (b := w.heap.size) rfl)
  go_enter Try.func15, Try.ntmps15
  go_wp2_with fail
  generalize World.alloc _ _ = W at hM ⊢
  generalize hsz : w.heap.size = n at hM ⊢
  clear hsz
  refine (NW.out _).mono ?_
  rintro e W ⟨rfl, hb⟩
  replace hM := hid (hM.out.later hb)
  clear hb
  obtain ⟨bx1, hbx1⟩ : ∃ q, q = W.heap.size := ⟨_, rfl⟩
  replace hM := hid (hM.out.bornR rl_zero.symm 24 (b := bx1) hbx1)
  have Hbx1 : Hid _ := hbx1
  clear hbx1
  go_wp2_with (first
    | (rw [← Hbx1.out]; refine sR rfl (hM.out.at 0 rfl) rfl ((rwR wz).len (rwR (newR kind))) (rwR (newR kind)) ?_
       replace hM := hid (hM.out.put 0 rfl (rl (newR kind)) ((rwR wz).len (rwR (newR kind))))
       generalize World.setCells _ _ _ _ = W at hM ⊢))
  go_loopg [22] 0 (fun gg s22 wt => wt = W ∧ s22 = .int .i64 0)
  case atStart => exact ⟨rfl, rfl⟩
  case round =>
    obtain ⟨hw, rfl⟩ := hrel
    rw [hw]; clear hw wr
    go_wp2_with (first
      | (refine lR rfl (hM.out.at 0 rfl) rfl (rwR (newR kind)) ?_)
      | (refine sR rfl (hM.out.at 1 rfl) rfl ((rwR wz).len (rwR (newR kind))) (rwR (newR kind)) ?_
         replace hM := hid (hM.out.put 1 rfl (rl (newR kind)) ((rwR wz).len (rwR (newR kind))))
         generalize World.setCells _ _ _ _ = W at hM ⊢))
    exact bodyPost_ret (res1 Try.results15 (hM.out.at 1 rfl) (rwR (newR kind))) rfl ⟨newR kind, NR.out, by unfold newR; rw [if_pos rfl], by unfold newR; rw [if_neg (by decide)]; omega, fun _ => rfl, rfl, hM.out.below⟩
set_option maxHeartbeats 8000000 in
theorem written_some {kind : Nat} (h1 : 1 ≤ kind) (h6 : kind ≤ 6) {v : Value} {b off c m : Nat} (hv : v = .slice (some ⟨b, off, none⟩) m c) (h0 : 0 < m) (hc : m ≤ c) (hm : m ≤ 9223372036854775807) (w : World) (D : Dds w v m) :
    Calls Try.prog 15 #[.int .i64 (kind : Nat), v] w (fun e w' => ∃ r, isRec r ∧ r 0 = kind ∧ r 28 ≤ 30 ∧ (m = 0 → rl r = rl (newR kind)) ∧ e = .returned (.agg (rl r).toArray) ∧ Below w.heap.size w w') := by
  have NW : Hid (∀ w : World, _) := recNew_yes h1 h6
  have NR : Hid (isRec (newR kind)) := newR_rec h1 h6
  have HE : Hid (∀ w', Below w.heap.size w w' → ∀ i, i < m → ∃ t o k x cc y : Int, w'.rangeAt b (off + i * 6) (dl t o k x cc y)) := by
    intro w' hb i hi
    rcases D.later hb with ⟨h, _⟩ | ⟨b2, off2, c2, hv2, _, _, _, hh⟩
    · omega
    · rw [hv] at hv2
      injection hv2 with e1 _ _
      injection e1 with e1
      injection e1 with e1 e2
      subst e1 e2
      exact hh i hi
  clear D
  subst hv
  obtain ⟨q, hq⟩ : ∃ q, q = min m 30 := ⟨_, rfl⟩
  have eq : min (m : Int) 30 = (q : Int) := by omega
  have eq2 : (if (30 : Int) < (m : Int) then (30 : Int) else (m : Int)) = (q : Int) := by split <;> omega
  have hqc : (q : Int) ≤ (c : Int) := by omega
  have hq0 : (0 : Int) ≤ (q : Int) := by omega
  have HQ : Hid (q ≤ m ∧ q ≤ 30 ∧ 0 < m) := (by omega : q ≤ m ∧ q ≤ 30 ∧ 0 < m)
  clear hq h0 hc hm h1 h6
  have hM : Hid _ := ((Ms.nil w).bornR rl_zero.symm 24 (b := w.heap.size) rfl)
  go_enter Try.func15, Try.ntmps15
  go_wp2_with fail
  generalize World.alloc _ _ = W at hM ⊢
  generalize hsz : w.heap.size = n at hM ⊢
  clear hsz
  refine (NW.out _).mono ?_
  rintro e W ⟨rfl, hb⟩
  replace hM := hid (hM.out.later hb)
  clear hb
  obtain ⟨bx1, hbx1⟩ : ∃ q, q = W.heap.size := ⟨_, rfl⟩
  replace hM := hid (hM.out.bornR rl_zero.symm 24 (b := bx1) hbx1)
  have Hbx1 : Hid _ := hbx1
  clear hbx1
  go_wp2_with (first
    | (rw [← Hbx1.out]; refine sR rfl (hM.out.at 0 rfl) rfl ((rwR wz).len (rwR (newR kind))) (rwR (newR kind)) ?_
       replace hM := hid (hM.out.put 0 rfl (rl (newR kind)) ((rwR wz).len (rwR (newR kind))))
       generalize World.setCells _ _ _ _ = W at hM ⊢))
  go_loopg [22] q (fun gg s22 wt => ∃ i : Nat, i ≤ q ∧ q - i ≤ gg ∧ s22 = .int .i64 i ∧ ∃ d, Hid (isRec d ∧ d 0 = kind ∧ d 28 ≤ i) ∧ Hid (Ms n w wt [(bx1, rl d), (n, rl wz)] []))
  case atStart => exact ⟨0, by omega, by omega, rfl, newR kind, ⟨NR.out, by unfold newR; rw [if_pos rfl], by unfold newR; rw [if_neg (by decide)]; omega⟩, hM⟩
  case round =>
    clear hM
    obtain ⟨i, hi, hgg, rfl, d, I, hM⟩ := hrel
    obtain ⟨W, rfl⟩ : ∃ q, q = wr := ⟨_, rfl⟩
    by_cases hlt : i < q
    · have hi1 : (i : Int) < (q : Int) := by omega
      have hi0 : (0 : Int) ≤ (i : Int) := by omega
      obtain ⟨t, o, k, x, cc, y, hr⟩ := HE.out W hM.out.below i (by have := HQ.out; omega)
      have RA : Hid _ := hr
      clear hr
      obtain ⟨tt, ht4, PT⟩ := pick4_is t
      have PK : Hid _ := PT
      clear PT
      by_cases hR : Rt o k x
      · have DO : Hid (∀ w : World, _) := recDone_yes I.out.1.u64 ht4 I.out.1 hR
        have I2 : Hid (isRec (rdo d tt o k x) ∧ (rdo d tt o k x) 0 = kind ∧ (rdo d tt o k x) 28 ≤ i + 1) := ⟨rdo_rec I.out.1 hR ht4 (by have := I.out.2.2; have := HQ.out; omega), by rw [rdo_0 ht4]; exact I.out.2.1, by rw [rdo_28]; have := I.out.2.2; omega⟩
        generalize rdo d tt o k x = d2 at *
        clear hR ht4
        obtain ⟨bd, hbd⟩ : ∃ q, q = W.heap.size := ⟨_, rfl⟩
        have HBD : Hid _ := hbd
        clear hbd
        go_wp2_with (first
          | (refine lO rfl RA.out rfl (rwD t o k x cc y) ?_)
          | (rw [← HBD.out]
             replace hM := hid (hM.out.born [.int .i64 0, .int .i64 0, .int .i64 0, .int .i64 0, .int .i64 0, .int .i64 0] 80 HBD.out)
             refine sR rfl (hM.out.at 0 rfl) rfl ((rwD 0 0 0 0 0 0).len (rwD t o k x cc y)) (rwD t o k x cc y) ?_
             replace hM := hid (hM.out.put 0 rfl (dl t o k x cc y) ((rwD 0 0 0 0 0 0).len (rwD t o k x cc y)))
             generalize World.setCells _ _ _ _ = W at hM ⊢))
        replace hM := hid (hM.out.drew)
        refine wp_region_held_drew (S := fun w' => Bo w' bx1 (rl d) ∧ Bo w' bd (dl t o k x cc y)) (by kernel_rfl) ⟨hM.out.at 1 rfl, hM.out.at 0 rfl⟩ (fun hH => ?_)
        generalize World.drew _ = W at hM hH  ⊢
        refine tkR 0 rfl hH (fun _ h => h.1) (rwR d) ?_
        simp only [Act.put, p1, p2, p3]
        refine tk 1 rfl hH ?_
        simp only [Act.put, p1, p2, p3]
        refine tk 2 rfl hH ?_ (by intro w h; have c0 := h.2.at 0 rfl; clear h; go_simp; try with_reducible rfl)
        simp only [Act.put, p1, p2, p3]
        refine tk 4 rfl hH ?_
        simp only [Act.put, p1, p2, p3]
        refine tk 5 rfl hH ?_ (by intro w h; have c0 := h.2.at 1 rfl; have c1 := h.2.at 2 rfl; have c2 := h.2.at 3 rfl; clear h; go_simp; try with_reducible rfl)
        simp only [Act.put, p1, p2, p3]
        refine rdn [3, 10] ?_
        refine rdc rfl (fun K hK => ?_) ?_
        · go_simp
          refine (PK.out _).mono ?_
          rintro e W ⟨rfl, hb⟩
          replace hM := hid (hM.out.later hb)
          clear hb
          go_wp2_with fail
          refine hK.out _ _ ⟨hM.out.at 1 rfl, hM.out.at 0 rfl⟩ (fun hH => ?_)
          clear hK K
          try simp only [Act.put, p1, p2, p3]
          refine rdn [6, 10] ?_
          refine rdc rfl (fun K hK => ?_) ?_
          · go_simp
            refine (DO.out _).mono ?_
            rintro e W ⟨rfl, hb⟩
            replace hM := hid (hM.out.later hb)
            clear hb
            go_wp2_with fail
            refine hK.out _ _ ⟨hM.out.at 1 rfl, hM.out.at 0 rfl⟩ (fun hH => ?_)
            clear hK K
            try simp only [Act.put, p1, p2, p3]
            refine tk 7 rfl hH ?_
            simp only [Act.put, p1, p2, p3]
            refine tk 8 rfl hH ?_
            simp only [Act.put, p1, p2, p3]
            refine tk 9 rfl hH ?_
            simp only [Act.put, p1, p2, p3]
            refine rd1 10 rfl (fun K hK => ?_)
            go_simp
            replace hM := hid (hM.out.bornR rl_zero.symm 24 rfl)
            refine hK.out _ _ ⟨hM.out.at 2 rfl, hM.out.at 1 rfl⟩ (fun hH => ?_)
            clear hK K
            generalize W.heap.size = bq2 at hM hH ⊢
            generalize World.alloc _ _ = W at hM hH  ⊢
            try simp only [Act.put, p1, p2, p3]
            refine rd1 11 rfl (fun K hK => ?_)
            refine stR rfl (hM.out.at 0 rfl) ((rwR wz).len (rwR d2)) (rwR d2) ?_
            simp only [Act.put]
            replace hM := hid (hM.out.put 0 rfl (rl d2) ((rwR wz).len (rwR d2)))
            refine hK.out _ _ ⟨hM.out.at 2 rfl, hM.out.at 1 rfl⟩ (fun hH => ?_)
            clear hK K
            generalize World.setCells _ _ _ _ = W at hM hH ⊢
            try simp only [Act.put, p1, p2, p3]
            refine tk 12 rfl hH ?_
            simp only [Act.put, p1, p2, p3]
            refine wpAnyH_done (by kernel_rfl) ?_ _
            go_wp2_with (first
              | (refine lR rfl (hM.out.at 0 rfl) rfl (rwR d2) ?_)
              | (refine sR rfl (hM.out.at 2 rfl) rfl ((rwR d).len (rwR d2)) (rwR d2) ?_
                 replace hM := hid (hM.out.put 2 rfl (rl d2) ((rwR d).len (rwR d2)))
                 generalize World.setCells _ _ _ _ = W at hM ⊢))
            go_roundg (q - (i + 1))
            case measure => omega
            case rel => exact ⟨i + 1, by omega, by omega, by go_num, d2, I2, hM.out.pick [2, 3]⟩
          refine rdc rfl (fun K hK => ?_) AllReadyH.nil
          go_simp
          replace hM := hid (hM.out.bornR rl_zero.symm 24 rfl)
          refine hK.out _ _ ⟨hM.out.at 2 rfl, hM.out.at 1 rfl⟩ (fun hH => ?_)
          clear hK K
          generalize W.heap.size = bq2 at hM hH ⊢
          generalize World.alloc _ _ = W at hM hH  ⊢
          try simp only [Act.put, p1, p2, p3]
          refine rd1 6 rfl (fun K hK => ?_)
          go_simp
          refine (DO.out _).mono ?_
          rintro e W ⟨rfl, hb⟩
          replace hM := hid (hM.out.later hb)
          clear hb
          go_wp2_with fail
          refine hK.out _ _ ⟨hM.out.at 2 rfl, hM.out.at 1 rfl⟩ (fun hH => ?_)
          clear hK K
          try simp only [Act.put, p1, p2, p3]
          refine tk 7 rfl hH ?_
          simp only [Act.put, p1, p2, p3]
          refine tk 8 rfl hH ?_
          simp only [Act.put, p1, p2, p3]
          refine tk 9 rfl hH ?_
          simp only [Act.put, p1, p2, p3]
          refine rd1 11 rfl (fun K hK => ?_)
          refine stR rfl (hM.out.at 0 rfl) ((rwR wz).len (rwR d2)) (rwR d2) ?_
          simp only [Act.put]
          replace hM := hid (hM.out.put 0 rfl (rl d2) ((rwR wz).len (rwR d2)))
          refine hK.out _ _ ⟨hM.out.at 2 rfl, hM.out.at 1 rfl⟩ (fun hH => ?_)
          clear hK K
          generalize World.setCells _ _ _ _ = W at hM hH ⊢
          try simp only [Act.put, p1, p2, p3]
          refine tk 12 rfl hH ?_
          simp only [Act.put, p1, p2, p3]
          refine wpAnyH_done (by kernel_rfl) ?_ _
          go_wp2_with (first
            | (refine lR rfl (hM.out.at 0 rfl) rfl (rwR d2) ?_)
            | (refine sR rfl (hM.out.at 2 rfl) rfl ((rwR d).len (rwR d2)) (rwR d2) ?_
               replace hM := hid (hM.out.put 2 rfl (rl d2) ((rwR d).len (rwR d2)))
               generalize World.setCells _ _ _ _ = W at hM ⊢))
          go_roundg (q - (i + 1))
          case measure => omega
          case rel => exact ⟨i + 1, by omega, by omega, by go_num, d2, I2, hM.out.pick [2, 3]⟩
        refine rdc rfl (fun K hK => ?_) AllReadyH.nil
        go_simp
        replace hM := hid (hM.out.bornR rl_zero.symm 24 rfl)
        refine hK.out _ _ ⟨hM.out.at 2 rfl, hM.out.at 1 rfl⟩ (fun hH => ?_)
        clear hK K
        generalize W.heap.size = bq2 at hM hH ⊢
        generalize World.alloc _ _ = W at hM hH  ⊢
        try simp only [Act.put, p1, p2, p3]
        refine rd1 3 rfl (fun K hK => ?_)
        go_simp
        refine (PK.out _).mono ?_
        rintro e W ⟨rfl, hb⟩
        replace hM := hid (hM.out.later hb)
        clear hb
        go_wp2_with fail
        refine hK.out _ _ ⟨hM.out.at 2 rfl, hM.out.at 1 rfl⟩ (fun hH => ?_)
        clear hK K
        try simp only [Act.put, p1, p2, p3]
        refine rd1 6 rfl (fun K hK => ?_)
        go_simp
        refine (DO.out _).mono ?_
        rintro e W ⟨rfl, hb⟩
        replace hM := hid (hM.out.later hb)
        clear hb
        go_wp2_with fail
        refine hK.out _ _ ⟨hM.out.at 2 rfl, hM.out.at 1 rfl⟩ (fun hH => ?_)
        clear hK K
        try simp only [Act.put, p1, p2, p3]
        refine tk 7 rfl hH ?_
        simp only [Act.put, p1, p2, p3]
        refine tk 8 rfl hH ?_
        simp only [Act.put, p1, p2, p3]
        refine tk 9 rfl hH ?_
        simp only [Act.put, p1, p2, p3]
        refine rd1 11 rfl (fun K hK => ?_)
        refine stR rfl (hM.out.at 0 rfl) ((rwR wz).len (rwR d2)) (rwR d2) ?_
        simp only [Act.put]
        replace hM := hid (hM.out.put 0 rfl (rl d2) ((rwR wz).len (rwR d2)))
        refine hK.out _ _ ⟨hM.out.at 2 rfl, hM.out.at 1 rfl⟩ (fun hH => ?_)
        clear hK K
        generalize World.setCells _ _ _ _ = W at hM hH ⊢
        try simp only [Act.put, p1, p2, p3]
        refine tk 12 rfl hH ?_
        simp only [Act.put, p1, p2, p3]
        refine wpAnyH_done (by kernel_rfl) ?_ _
        go_wp2_with (first
          | (refine lR rfl (hM.out.at 0 rfl) rfl (rwR d2) ?_)
          | (refine sR rfl (hM.out.at 2 rfl) rfl ((rwR d).len (rwR d2)) (rwR d2) ?_
             replace hM := hid (hM.out.put 2 rfl (rl d2) ((rwR d).len (rwR d2)))
             generalize World.setCells _ _ _ _ = W at hM ⊢))
        go_roundg (q - (i + 1))
        case measure => omega
        case rel => exact ⟨i + 1, by omega, by omega, by go_num, d2, I2, hM.out.pick [2, 3]⟩
      · have DO : Hid (∀ w : World, _) := recDone_wrong I.out.1.u64 ht4 I.out.1 hR
        clear hR ht4
        obtain ⟨bd, hbd⟩ : ∃ q, q = W.heap.size := ⟨_, rfl⟩
        have HBD : Hid _ := hbd
        clear hbd
        go_wp2_with (first
          | (refine lO rfl RA.out rfl (rwD t o k x cc y) ?_)
          | (rw [← HBD.out]
             replace hM := hid (hM.out.born [.int .i64 0, .int .i64 0, .int .i64 0, .int .i64 0, .int .i64 0, .int .i64 0] 80 HBD.out)
             refine sR rfl (hM.out.at 0 rfl) rfl ((rwD 0 0 0 0 0 0).len (rwD t o k x cc y)) (rwD t o k x cc y) ?_
             replace hM := hid (hM.out.put 0 rfl (dl t o k x cc y) ((rwD 0 0 0 0 0 0).len (rwD t o k x cc y)))
             generalize World.setCells _ _ _ _ = W at hM ⊢))
        replace hM := hid (hM.out.drew)
        refine wp_region_held_drew (S := fun w' => Bo w' bx1 (rl d) ∧ Bo w' bd (dl t o k x cc y)) (by kernel_rfl) ⟨hM.out.at 1 rfl, hM.out.at 0 rfl⟩ (fun hH => ?_)
        generalize World.drew _ = W at hM hH  ⊢
        refine tkR 0 rfl hH (fun _ h => h.1) (rwR d) ?_
        simp only [Act.put, p1, p2, p3]
        refine tk 1 rfl hH ?_
        simp only [Act.put, p1, p2, p3]
        refine tk 2 rfl hH ?_ (by intro w h; have c0 := h.2.at 0 rfl; clear h; go_simp; try with_reducible rfl)
        simp only [Act.put, p1, p2, p3]
        refine tk 4 rfl hH ?_
        simp only [Act.put, p1, p2, p3]
        refine tk 5 rfl hH ?_ (by intro w h; have c0 := h.2.at 1 rfl; have c1 := h.2.at 2 rfl; have c2 := h.2.at 3 rfl; clear h; go_simp; try with_reducible rfl)
        simp only [Act.put, p1, p2, p3]
        refine rdn [3, 10] ?_
        refine rdc rfl (fun K hK => ?_) ?_
        · go_simp
          refine (PK.out _).mono ?_
          rintro e W ⟨rfl, hb⟩
          replace hM := hid (hM.out.later hb)
          clear hb
          go_wp2_with fail
          refine hK.out _ _ ⟨hM.out.at 1 rfl, hM.out.at 0 rfl⟩ (fun hH => ?_)
          clear hK K
          try simp only [Act.put, p1, p2, p3]
          refine rdn [6, 10] ?_
          refine rdc rfl (fun K hK => ?_) ?_
          · go_simp
            refine (DO.out _).mono ?_
            rintro e W ⟨rfl, hb⟩
            replace hM := hid (hM.out.later hb)
            clear hb
            go_wp2_with fail
            refine hK.out _ _ ⟨hM.out.at 1 rfl, hM.out.at 0 rfl⟩ (fun hH => ?_)
            clear hK K
            try simp only [Act.put, p1, p2, p3]
            refine tk 7 rfl hH ?_
            simp only [Act.put, p1, p2, p3]
            refine tk 8 rfl hH ?_
            simp only [Act.put, p1, p2, p3]
            refine tk 9 rfl hH ?_
            simp only [Act.put, p1, p2, p3]
            refine rd1 10 rfl (fun K hK => ?_)
            go_simp
            replace hM := hid (hM.out.bornR rl_zero.symm 24 rfl)
            refine hK.out _ _ ⟨hM.out.at 2 rfl, hM.out.at 1 rfl⟩ (fun hH => ?_)
            clear hK K
            generalize W.heap.size = bq2 at hM hH ⊢
            generalize World.alloc _ _ = W at hM hH  ⊢
            try simp only [Act.put, p1, p2, p3]
            refine rd1 11 rfl (fun K hK => ?_)
            refine stR rfl (hM.out.at 0 rfl) ((rwR wz).len (rwR wz)) (rwR wz) ?_
            simp only [Act.put]
            replace hM := hid (hM.out.put 0 rfl (rl wz) ((rwR wz).len (rwR wz)))
            refine hK.out _ _ ⟨hM.out.at 2 rfl, hM.out.at 1 rfl⟩ (fun hH => ?_)
            clear hK K
            generalize World.setCells _ _ _ _ = W at hM hH ⊢
            try simp only [Act.put, p1, p2, p3]
            refine tk 12 rfl hH ?_
            simp only [Act.put, p1, p2, p3]
            refine wpAnyH_done (by kernel_rfl) ?_ _
            go_wp2
            go_roundg (q - (i + 1))
            case measure => omega
            case rel => exact ⟨i + 1, by omega, by omega, by go_num, d, ⟨I.out.1, I.out.2.1, Nat.le_succ_of_le I.out.2.2⟩, hM.out.pick [2, 3]⟩
          refine rdc rfl (fun K hK => ?_) AllReadyH.nil
          go_simp
          replace hM := hid (hM.out.bornR rl_zero.symm 24 rfl)
          refine hK.out _ _ ⟨hM.out.at 2 rfl, hM.out.at 1 rfl⟩ (fun hH => ?_)
          clear hK K
          generalize W.heap.size = bq2 at hM hH ⊢
          generalize World.alloc _ _ = W at hM hH  ⊢
          try simp only [Act.put, p1, p2, p3]
          refine rd1 6 rfl (fun K hK => ?_)
          go_simp
          refine (DO.out _).mono ?_
          rintro e W ⟨rfl, hb⟩
          replace hM := hid (hM.out.later hb)
          clear hb
          go_wp2_with fail
          refine hK.out _ _ ⟨hM.out.at 2 rfl, hM.out.at 1 rfl⟩ (fun hH => ?_)
          clear hK K
          try simp only [Act.put, p1, p2, p3]
          refine tk 7 rfl hH ?_
          simp only [Act.put, p1, p2, p3]
          refine tk 8 rfl hH ?_
          simp only [Act.put, p1, p2, p3]
          refine tk 9 rfl hH ?_
          simp only [Act.put, p1, p2, p3]
          refine rd1 11 rfl (fun K hK => ?_)
          refine stR rfl (hM.out.at 0 rfl) ((rwR wz).len (rwR wz)) (rwR wz) ?_
          simp only [Act.put]
          replace hM := hid (hM.out.put 0 rfl (rl wz) ((rwR wz).len (rwR wz)))
          refine hK.out _ _ ⟨hM.out.at 2 rfl, hM.out.at 1 rfl⟩ (fun hH => ?_)
          clear hK K
          generalize World.setCells _ _ _ _ = W at hM hH ⊢
          try simp only [Act.put, p1, p2, p3]
          refine tk 12 rfl hH ?_
          simp only [Act.put, p1, p2, p3]
          refine wpAnyH_done (by kernel_rfl) ?_ _
          go_wp2
          go_roundg (q - (i + 1))
          case measure => omega
          case rel => exact ⟨i + 1, by omega, by omega, by go_num, d, ⟨I.out.1, I.out.2.1, Nat.le_succ_of_le I.out.2.2⟩, hM.out.pick [2, 3]⟩
        refine rdc rfl (fun K hK => ?_) AllReadyH.nil
        go_simp
        replace hM := hid (hM.out.bornR rl_zero.symm 24 rfl)
        refine hK.out _ _ ⟨hM.out.at 2 rfl, hM.out.at 1 rfl⟩ (fun hH => ?_)
        clear hK K
        generalize W.heap.size = bq2 at hM hH ⊢
        generalize World.alloc _ _ = W at hM hH  ⊢
        try simp only [Act.put, p1, p2, p3]
        refine rd1 3 rfl (fun K hK => ?_)
        go_simp
        refine (PK.out _).mono ?_
        rintro e W ⟨rfl, hb⟩
        replace hM := hid (hM.out.later hb)
        clear hb
        go_wp2_with fail
        refine hK.out _ _ ⟨hM.out.at 2 rfl, hM.out.at 1 rfl⟩ (fun hH => ?_)
        clear hK K
        try simp only [Act.put, p1, p2, p3]
        refine rd1 6 rfl (fun K hK => ?_)
        go_simp
        refine (DO.out _).mono ?_
        rintro e W ⟨rfl, hb⟩
        replace hM := hid (hM.out.later hb)
        clear hb
        go_wp2_with fail
        refine hK.out _ _ ⟨hM.out.at 2 rfl, hM.out.at 1 rfl⟩ (fun hH => ?_)
        clear hK K
        try simp only [Act.put, p1, p2, p3]
        refine tk 7 rfl hH ?_
        simp only [Act.put, p1, p2, p3]
        refine tk 8 rfl hH ?_
        simp only [Act.put, p1, p2, p3]
        refine tk 9 rfl hH ?_
        simp only [Act.put, p1, p2, p3]
        refine rd1 11 rfl (fun K hK => ?_)
        refine stR rfl (hM.out.at 0 rfl) ((rwR wz).len (rwR wz)) (rwR wz) ?_
        simp only [Act.put]
        replace hM := hid (hM.out.put 0 rfl (rl wz) ((rwR wz).len (rwR wz)))
        refine hK.out _ _ ⟨hM.out.at 2 rfl, hM.out.at 1 rfl⟩ (fun hH => ?_)
        clear hK K
        generalize World.setCells _ _ _ _ = W at hM hH ⊢
        try simp only [Act.put, p1, p2, p3]
        refine tk 12 rfl hH ?_
        simp only [Act.put, p1, p2, p3]
        refine wpAnyH_done (by kernel_rfl) ?_ _
        go_wp2
        go_roundg (q - (i + 1))
        case measure => omega
        case rel => exact ⟨i + 1, by omega, by omega, by go_num, d, ⟨I.out.1, I.out.2.1, Nat.le_succ_of_le I.out.2.2⟩, hM.out.pick [2, 3]⟩
    · have hi1 : ¬ (i : Int) < (q : Int) := by omega
      go_wp2_with (first
        | (refine lR rfl (hM.out.at 0 rfl) rfl (rwR d) ?_)
        | (refine sR rfl (hM.out.at 1 rfl) rfl ((rwR wz).len (rwR d)) (rwR d) ?_
           replace hM := hid (hM.out.put 1 rfl (rl d) ((rwR wz).len (rwR d)))
           generalize World.setCells _ _ _ _ = W at hM ⊢))
      exact bodyPost_ret (res1 Try.results15 (hM.out.at 1 rfl) (rwR d)) rfl ⟨d, I.out.1, I.out.2.1, by have := I.out.2.2; have := HQ.out; omega, fun h => absurd h (by have := HQ.out; omega), rfl, hM.out.below⟩
theorem written_is {kind : Nat} (h1 : 1 ≤ kind) (h6 : kind ≤ 6) {v : Value} {m : Nat} {w : World} (D : Dds w v m) :
    Calls Try.prog 15 #[.int .i64 (kind : Nat), v] w (fun e w' => ∃ r, isRec r ∧ r 0 = kind ∧ r 28 ≤ 30 ∧ (m = 0 → rl r = rl (newR kind)) ∧ e = .returned (.agg (rl r).toArray) ∧ Below w.heap.size w w') := by
  rcases id D with ⟨h0, a, c, hv, ha⟩ | ⟨b, off, c, hv, h0, hc, hm, _⟩
  · subst hv
    cases a with
    | none => obtain rfl := ha rfl; exact written_nil h1 h6 w
    | some a => exact written_none h1 h6 a c w
  · exact written_some h1 h6 hv h0 hc hm w D
end Go.Proofs.Ytgkgkiheoadbfaa.Tab
namespace Go.Proofs.Ytgkgkiheoadbfaa.Tab
set_option maxRecDepth 20000
open Go.RowKit
set_option linter.unusedVariables false

theorem cells_desc : Try.prog.underlying 28 = some (.array 17 22) := by kernel_rfl
theorem wpart0 (c : Nat → Nat) (w : World) : (part 22 (wl c).toArray 0).run Try.prog w = .ok (.int .u64 (c 0 : Nat)) w := by kernel_rfl
theorem wpart1 (c : Nat → Nat) (w : World) : (part 22 (wl c).toArray 1).run Try.prog w = .ok (.int .u64 (c 1 : Nat)) w := by kernel_rfl
theorem wpart2 (c : Nat → Nat) (w : World) : (part 22 (wl c).toArray 2).run Try.prog w = .ok (.int .u64 (c 2 : Nat)) w := by kernel_rfl
theorem wpart3 (c : Nat → Nat) (w : World) : (part 22 (wl c).toArray 3).run Try.prog w = .ok (.int .u64 (c 3 : Nat)) w := by kernel_rfl
theorem wpart4 (c : Nat → Nat) (w : World) : (part 22 (wl c).toArray 4).run Try.prog w = .ok (.int .u64 (c 4 : Nat)) w := by kernel_rfl
theorem wpart5 (c : Nat → Nat) (w : World) : (part 22 (wl c).toArray 5).run Try.prog w = .ok (.int .u64 (c 5 : Nat)) w := by kernel_rfl
theorem wpart6 (c : Nat → Nat) (w : World) : (part 22 (wl c).toArray 6).run Try.prog w = .ok (.int .u64 (c 6 : Nat)) w := by kernel_rfl
theorem wpart7 (c : Nat → Nat) (w : World) : (part 22 (wl c).toArray 7).run Try.prog w = .ok (.int .u64 (c 7 : Nat)) w := by kernel_rfl
theorem wpart8 (c : Nat → Nat) (w : World) : (part 22 (wl c).toArray 8).run Try.prog w = .ok (.int .u64 (c 8 : Nat)) w := by kernel_rfl
theorem wpart9 (c : Nat → Nat) (w : World) : (part 22 (wl c).toArray 9).run Try.prog w = .ok (.int .u64 (c 9 : Nat)) w := by kernel_rfl
theorem wpart10 (c : Nat → Nat) (w : World) : (part 22 (wl c).toArray 10).run Try.prog w = .ok (.int .u64 (c 10 : Nat)) w := by kernel_rfl
theorem wpart11 (c : Nat → Nat) (w : World) : (part 22 (wl c).toArray 11).run Try.prog w = .ok (.int .u64 (c 11 : Nat)) w := by kernel_rfl
theorem wpart12 (c : Nat → Nat) (w : World) : (part 22 (wl c).toArray 12).run Try.prog w = .ok (.int .u64 (c 12 : Nat)) w := by kernel_rfl
theorem wpart13 (c : Nat → Nat) (w : World) : (part 22 (wl c).toArray 13).run Try.prog w = .ok (.int .u64 (c 13 : Nat)) w := by kernel_rfl
theorem wpart14 (c : Nat → Nat) (w : World) : (part 22 (wl c).toArray 14).run Try.prog w = .ok (.int .u64 (c 14 : Nat)) w := by kernel_rfl
theorem wpart15 (c : Nat → Nat) (w : World) : (part 22 (wl c).toArray 15).run Try.prog w = .ok (.int .u64 (c 15 : Nat)) w := by kernel_rfl
theorem wpart16 (c : Nat → Nat) (w : World) : (part 22 (wl c).toArray 16).run Try.prog w = .ok (.int .u64 (c 16 : Nat)) w := by kernel_rfl
theorem word_equal (x : Int) (w : World) : (Op.equalIn 9999 22 (.int .u64 x) (.int .u64 x)).run Try.prog w = .ok true w := by
  go_simp
theorem cells_equal (c : Nat → Nat) (w : World) : (Op.equalIn 10000 28 (.agg (wl c).toArray) (.agg (wl c).toArray)).run Try.prog w = .ok true w := by
  have hc : Try.prog.cellsOf 22 = 1 := by kernel_rfl
  cases hi : Try.prog.info? 22 with
  | none => simp [Program.cellsOf, hi] at hc
  | some i =>
    have h := run_equalIn_array (w := w) 9999 (wl c).toArray (wl c).toArray cells_desc hi
    rw [h, hc]
    have hr : List.range 17 = [0, 1, 2, 3, 4, 5, 6, 7, 8, 9, 10, 11, 12, 13, 14, 15, 16] := by decide
    rw [hr]
    simp [Op.eqItems, wpart0 c w, wpart1 c w, wpart2 c w, wpart3 c w, wpart4 c w, wpart5 c w, wpart6 c w, wpart7 c w, wpart8 c w, wpart9 c w, wpart10 c w, wpart11 c w, wpart12 c w, wpart13 c w, wpart14 c w, wpart15 c w, wpart16 c w, word_equal]
theorem cells_zero (w : World) : (Op.equalIn 10000 28 (.agg (wl wz).toArray) (.agg #[.int .u64 0, .int .u64 0, .int .u64 0, .int .u64 0, .int .u64 0, .int .u64 0, .int .u64 0, .int .u64 0, .int .u64 0, .int .u64 0, .int .u64 0, .int .u64 0, .int .u64 0, .int .u64 0, .int .u64 0, .int .u64 0, .int .u64 0])).run Try.prog w = .ok true w := cells_equal wz w
theorem afield0 (c y : Int) (w : World) : (Instr.field 42 (.agg #[.int .i64 c, .int .i64 y]) 0).run Try.prog w = .ok (.int .i64 c) w := by kernel_rfl
theorem afield1 (c y : Int) (w : World) : (Instr.field 42 (.agg #[.int .i64 c, .int .i64 y]) 1).run Try.prog w = .ok (.int .i64 y) w := by kernel_rfl
end Go.Proofs.Ytgkgkiheoadbfaa.Tab
