/- Texts laid together: Package object: Do, where it is done; Package object: withTally, by its contract; Rows of this program's types: tables; Package object: the words of slots; Package object: withTable, by its contract; Package object: the words of a list. -/
import Derived.Test.YteogbpaaacmllaaGreatDoorPk04
import Derived.Deep.DeepCutAuto
import Derived.Deep.RegionHeld3
import Derived.Test.YteogbpaaacmllaaGreatDoorPk03
import Derived.Test.YteogbpaaacmllaaGreatDoorPk01
import Derived.Test.YteogbpaaacmllaaGreatDoorPk02
namespace Go.Proofs.YteogbpaaacmllaaGreatDoor.Tab
set_option maxRecDepth 20000
open Go.RowKit
set_option linter.unusedVariables false

set_option maxHeartbeats 8000000 in
theorem obDo_any {kind o k x cc y : Int} {c d : Nat → Nat} {fk : Nat} (cp : Nat → Nat → Nat → Nat → Array Value) (he : ∀ args (w : World), (callFunc fk args).run Tryz.prog w = .ok (.enter fk args) w) (hR : Rt o k x) (hO : isOb kind c) (hL : ∀ u m b1 b2 b3 b4, Deeds u m b1 b2 b3 b4 → (Instr.lookup 162 (.map (some m)) (.int .i64 kind) false).run Tryz.prog u = .ok (.func (.func fk) #[] (cp b1 b2 b3 b4)) u) (hC : ∀ u m b1 b2 b3 b4, Deeds u m b1 b2 b3 b4 → Calls Tryz.prog fk (#[.agg (wl c).toArray, .agg #[.int .i64 o, .int .i64 k, .int .i64 x]] ++ cp b1 b2 b3 b4) u fun e w' => e = .returned (.tuple #[.agg (wl d).toArray, .agg #[.int .i64 cc, .int .i64 y]]) ∧ Below u.heap.size u w') (w : World) :
    Calls Tryz.prog 66 #[.int .i64 kind, .agg (wl c).toArray, .agg #[.int .i64 o, .int .i64 k, .int .i64 x]] w (DidD w d cc y) := by
  have OR : Hid (∀ w : World, _) := fun w => opR_yes hR w
  have RR : Hid (∀ w : World, _) := fun w => obRight_is (v := true) ⟨fun _ => hO, fun _ => rfl⟩ w
  have LL : Hid _ := hL
  have CC : Hid _ := hC
  clear hR hO hL hC
  have hM : Hid _ := (((((Ms.nil w).born (wl c) 119 (b := w.heap.size) rfl).born [.int .i64 o, .int .i64 k, .int .i64 x] 44 (b := w.heap.size + 1) (by simp)).bornR wz_all.symm 119 (b := w.heap.size + 2) (by simp)).born [.int .i64 0, .int .i64 0] 58 (b := w.heap.size + 3) (by simp))
  have c1 := hM.out.cell 2 0 rfl rfl
  have c2 := hM.out.cell 2 1 rfl rfl
  have c3 := hM.out.cell 2 2 rfl rfl
  go_enter Tryz.func66, Tryz.ntmps66
  go_wp2_with fail
  clear c1 c2 c3
  generalize World.alloc _ _ = W at hM ⊢
  generalize hsz : w.heap.size = n at hM ⊢
  clear hsz
  refine (OR.out _).mono ?_
  rintro e W ⟨rfl, hb⟩
  replace hM := hid (hM.out.later hb)
  clear hb
  go_wp2_with (first
    | (refine lW rfl (hM.out.at 3 rfl) rfl (rwC c) ?_))
  refine (RR.out _).mono ?_
  rintro e W ⟨rfl, hb⟩
  replace hM := hid (hM.out.later hb)
  clear hb
  go_wp2_with fail
  go_cut [9, 10] (fun s9 s10 wx => ∃ bz9 bz10 : Nat, s9 = .pointer (some ⟨bz9, 0, none⟩) ∧ s10 = .pointer (some ⟨bz10, 0, none⟩) ∧ Hid (Ms n w wx [((n + 2), (wl wz)), ((n + 3), [.int .i64 0, .int .i64 0]), (bz9, (wl d)), (bz10, [.int .i64 cc, .int .i64 y])] []))
  case first =>
    replace hM := hid (hM.out.drew)
    refine wp_region_held_drew (S := fun w' => Bo w' n (wl c) ∧ Bo w' (n + 1) [.int .i64 o, .int .i64 k, .int .i64 x]) (by kernel_rfl) ⟨hM.out.at 3 rfl, hM.out.at 2 rfl⟩ (fun hH => ?_)
    generalize World.drew _ = W at hM hH  ⊢
    refine tk 1 rfl hH ?_
    simp only [Act.put, p1, p2, p3]
    refine tkR 3 rfl hH (fun _ h => h.1) (rwC c) ?_
    simp only [Act.put, p1, p2, p3]
    refine tk 4 rfl hH ?_ (by intro w h; have c0 := h.2.at 0 rfl; have c1 := h.2.at 1 rfl; have c2 := h.2.at 2 rfl; clear h; go_simp; try with_reducible rfl)
    simp only [Act.put, p1, p2, p3]
    refine rdn [0, 9, 10] ?_
    refine rdc rfl (fun K hK => ?_) ?_
    · go_simp
      refine (deeds_is _).mono ?_
      rintro e W ⟨rfl, ⟨b1, b2, b3, b4, hD⟩, hb⟩
      replace hM := hid (hM.out.later hb)
      clear hb
      replace hD := hid (hD)
      go_wp2_with fail
      refine hK.out _ _ ⟨hM.out.at 3 rfl, hM.out.at 2 rfl⟩ (fun hH => ?_)
      clear hK K
      try simp only [Act.put, p1, p2, p3]
      refine rdn [2, 9, 10] ?_
      refine rdc rfl (fun K hK => ?_) ?_
      · have lk := LL.out _ _ _ _ _ _ hD.out
        go_simp
        clear lk
        refine hK.out _ _ ⟨hM.out.at 3 rfl, hM.out.at 2 rfl⟩ (fun hH => ?_)
        clear hK K
        try simp only [Act.put, p1, p2, p3]
        refine rdn [5, 9, 10] ?_
        refine rdc rfl (fun K hK => ?_) ?_
        · go_simp
          refine (CC.out _ _ _ _ _ _ hD.out).mono ?_
          rintro e W ⟨rfl, hb⟩
          replace hM := hid (hM.out.later hb)
          replace hD := hid (hD.out.later hb)
          clear hb
          clear hD
          go_wp2_with fail
          refine hK.out _ _ ⟨hM.out.at 3 rfl, hM.out.at 2 rfl⟩ (fun hH => ?_)
          clear hK K
          try simp only [Act.put, p1, p2, p3]
          refine tk 6 rfl hH ?_
          simp only [Act.put, p1, p2, p3]
          refine tk 7 rfl hH ?_
          simp only [Act.put, p1, p2, p3]
          refine tk 8 rfl hH ?_
          simp only [Act.put, p1, p2, p3]
          refine rdn [9, 10] ?_
          refine rdc rfl (fun K hK => ?_) ?_
          · go_simp
            replace hM := hid (hM.out.bornR wz_all.symm 119 rfl)
            refine hK.out _ _ ⟨hM.out.at 4 rfl, hM.out.at 3 rfl⟩ (fun hH => ?_)
            clear hK K
            generalize W.heap.size = bq4 at hM hH ⊢
            generalize World.alloc _ _ = W at hM hH  ⊢
            try simp only [Act.put, p1, p2, p3]
            refine rd1 10 rfl (fun K hK => ?_)
            go_simp
            replace hM := hid (hM.out.born [.int .i64 0, .int .i64 0] 58 rfl)
            refine hK.out _ _ ⟨hM.out.at 5 rfl, hM.out.at 4 rfl⟩ (fun hH => ?_)
            clear hK K
            generalize W.heap.size = bq5 at hM hH ⊢
            generalize World.alloc _ _ = W at hM hH  ⊢
            try simp only [Act.put, p1, p2, p3]
            refine rd1 11 rfl (fun K hK => ?_)
            refine stR rfl (hM.out.at 1 rfl) ((rwC wz).len (rwC d)) (rwC d) ?_
            simp only [Act.put]
            replace hM := hid (hM.out.put 1 rfl (wl d) ((rwC wz).len (rwC d)))
            refine hK.out _ _ ⟨hM.out.at 5 rfl, hM.out.at 4 rfl⟩ (fun hH => ?_)
            clear hK K
            generalize World.setCells _ _ _ _ = W at hM hH ⊢
            try simp only [Act.put, p1, p2, p3]
            refine rd1 12 rfl (fun K hK => ?_)
            refine stR rfl (hM.out.at 0 rfl) ((rwA 0 0).len (rwA cc y)) (rwA cc y) ?_
            simp only [Act.put]
            replace hM := hid (hM.out.put 0 rfl [.int .i64 cc, .int .i64 y] ((rwA 0 0).len (rwA cc y)))
            refine hK.out _ _ ⟨hM.out.at 5 rfl, hM.out.at 4 rfl⟩ (fun hH => ?_)
            clear hK K
            generalize World.setCells _ _ _ _ = W at hM hH ⊢
            try simp only [Act.put, p1, p2, p3]
            refine wpAnyH_done (by kernel_rfl) ?_ _
            go_wp2_with fail
            go_meet
            case rel => exact ⟨bq4, bq5, rfl, rfl, (hM.out.pick [3, 2, 1, 0]).pickL []⟩
          refine rdc rfl (fun K hK => ?_) AllReadyH.nil
          go_simp
          replace hM := hid (hM.out.born [.int .i64 0, .int .i64 0] 58 rfl)
          refine hK.out _ _ ⟨hM.out.at 4 rfl, hM.out.at 3 rfl⟩ (fun hH => ?_)
          clear hK K
          generalize W.heap.size = bq4 at hM hH ⊢
          generalize World.alloc _ _ = W at hM hH  ⊢
          try simp only [Act.put, p1, p2, p3]
          refine rd1 9 rfl (fun K hK => ?_)
          go_simp
          replace hM := hid (hM.out.bornR wz_all.symm 119 rfl)
          refine hK.out _ _ ⟨hM.out.at 5 rfl, hM.out.at 4 rfl⟩ (fun hH => ?_)
          clear hK K
          generalize W.heap.size = bq5 at hM hH ⊢
          generalize World.alloc _ _ = W at hM hH  ⊢
          try simp only [Act.put, p1, p2, p3]
          refine rd1 11 rfl (fun K hK => ?_)
          refine stR rfl (hM.out.at 0 rfl) ((rwC wz).len (rwC d)) (rwC d) ?_
          simp only [Act.put]
          replace hM := hid (hM.out.put 0 rfl (wl d) ((rwC wz).len (rwC d)))
          refine hK.out _ _ ⟨hM.out.at 5 rfl, hM.out.at 4 rfl⟩ (fun hH => ?_)
          clear hK K
          generalize World.setCells _ _ _ _ = W at hM hH ⊢
          try simp only [Act.put, p1, p2, p3]
          refine rd1 12 rfl (fun K hK => ?_)
          refine stR rfl (hM.out.at 1 rfl) ((rwA 0 0).len (rwA cc y)) (rwA cc y) ?_
          simp only [Act.put]
          replace hM := hid (hM.out.put 1 rfl [.int .i64 cc, .int .i64 y] ((rwA 0 0).len (rwA cc y)))
          refine hK.out _ _ ⟨hM.out.at 5 rfl, hM.out.at 4 rfl⟩ (fun hH => ?_)
          clear hK K
          generalize World.setCells _ _ _ _ = W at hM hH ⊢
          try simp only [Act.put, p1, p2, p3]
          refine wpAnyH_done (by kernel_rfl) ?_ _
          go_wp2_with fail
          go_meet
          case rel => exact ⟨bq5, bq4, rfl, rfl, (hM.out.pick [3, 2, 0, 1]).pickL []⟩
        refine rdc rfl (fun K hK => ?_) ?_
        · go_simp
          replace hM := hid (hM.out.bornR wz_all.symm 119 rfl)
          have hb := hM.out.step
          replace hD := hid (hD.out.later hb)
          clear hb
          refine hK.out _ _ ⟨hM.out.at 4 rfl, hM.out.at 3 rfl⟩ (fun hH => ?_)
          clear hK K
          generalize W.heap.size = bq4 at hM hH ⊢
          generalize World.alloc _ _ = W at hM hH hD ⊢
          try simp only [Act.put, p1, p2, p3]
          refine rdn [5, 10] ?_
          refine rdc rfl (fun K hK => ?_) ?_
          · go_simp
            refine (CC.out _ _ _ _ _ _ hD.out).mono ?_
            rintro e W ⟨rfl, hb⟩
            replace hM := hid (hM.out.later hb)
            replace hD := hid (hD.out.later hb)
            clear hb
            clear hD
            go_wp2_with fail
            refine hK.out _ _ ⟨hM.out.at 4 rfl, hM.out.at 3 rfl⟩ (fun hH => ?_)
            clear hK K
            try simp only [Act.put, p1, p2, p3]
            refine tk 6 rfl hH ?_
            simp only [Act.put, p1, p2, p3]
            refine tk 7 rfl hH ?_
            simp only [Act.put, p1, p2, p3]
            refine tk 8 rfl hH ?_
            simp only [Act.put, p1, p2, p3]
            refine rd1 10 rfl (fun K hK => ?_)
            go_simp
            replace hM := hid (hM.out.born [.int .i64 0, .int .i64 0] 58 rfl)
            refine hK.out _ _ ⟨hM.out.at 5 rfl, hM.out.at 4 rfl⟩ (fun hH => ?_)
            clear hK K
            generalize W.heap.size = bq5 at hM hH ⊢
            generalize World.alloc _ _ = W at hM hH  ⊢
            try simp only [Act.put, p1, p2, p3]
            refine rd1 11 rfl (fun K hK => ?_)
            refine stR rfl (hM.out.at 1 rfl) ((rwC wz).len (rwC d)) (rwC d) ?_
            simp only [Act.put]
            replace hM := hid (hM.out.put 1 rfl (wl d) ((rwC wz).len (rwC d)))
            refine hK.out _ _ ⟨hM.out.at 5 rfl, hM.out.at 4 rfl⟩ (fun hH => ?_)
            clear hK K
            generalize World.setCells _ _ _ _ = W at hM hH ⊢
            try simp only [Act.put, p1, p2, p3]
            refine rd1 12 rfl (fun K hK => ?_)
            refine stR rfl (hM.out.at 0 rfl) ((rwA 0 0).len (rwA cc y)) (rwA cc y) ?_
            simp only [Act.put]
            replace hM := hid (hM.out.put 0 rfl [.int .i64 cc, .int .i64 y] ((rwA 0 0).len (rwA cc y)))
            refine hK.out _ _ ⟨hM.out.at 5 rfl, hM.out.at 4 rfl⟩ (fun hH => ?_)
            clear hK K
            generalize World.setCells _ _ _ _ = W at hM hH ⊢
            try simp only [Act.put, p1, p2, p3]
            refine wpAnyH_done (by kernel_rfl) ?_ _
            go_wp2_with fail
            go_meet
            case rel => exact ⟨bq4, bq5, rfl, rfl, (hM.out.pick [3, 2, 1, 0]).pickL []⟩
          refine rdc rfl (fun K hK => ?_) AllReadyH.nil
          go_simp
          replace hM := hid (hM.out.born [.int .i64 0, .int .i64 0] 58 rfl)
          have hb := hM.out.step
          replace hD := hid (hD.out.later hb)
          clear hb
          refine hK.out _ _ ⟨hM.out.at 5 rfl, hM.out.at 4 rfl⟩ (fun hH => ?_)
          clear hK K
          generalize W.heap.size = bq5 at hM hH ⊢
          generalize World.alloc _ _ = W at hM hH hD ⊢
          try simp only [Act.put, p1, p2, p3]
          refine rd1 5 rfl (fun K hK => ?_)
          go_simp
          refine (CC.out _ _ _ _ _ _ hD.out).mono ?_
          rintro e W ⟨rfl, hb⟩
          replace hM := hid (hM.out.later hb)
          replace hD := hid (hD.out.later hb)
          clear hb
          clear hD
          go_wp2_with fail
          refine hK.out _ _ ⟨hM.out.at 5 rfl, hM.out.at 4 rfl⟩ (fun hH => ?_)
          clear hK K
          try simp only [Act.put, p1, p2, p3]
          refine tk 6 rfl hH ?_
          simp only [Act.put, p1, p2, p3]
          refine tk 7 rfl hH ?_
          simp only [Act.put, p1, p2, p3]
          refine tk 8 rfl hH ?_
          simp only [Act.put, p1, p2, p3]
          refine rd1 11 rfl (fun K hK => ?_)
          refine stR rfl (hM.out.at 1 rfl) ((rwC wz).len (rwC d)) (rwC d) ?_
          simp only [Act.put]
          replace hM := hid (hM.out.put 1 rfl (wl d) ((rwC wz).len (rwC d)))
          refine hK.out _ _ ⟨hM.out.at 5 rfl, hM.out.at 4 rfl⟩ (fun hH => ?_)
          clear hK K
          generalize World.setCells _ _ _ _ = W at hM hH ⊢
          try simp only [Act.put, p1, p2, p3]
          refine rd1 12 rfl (fun K hK => ?_)
          refine stR rfl (hM.out.at 0 rfl) ((rwA 0 0).len (rwA cc y)) (rwA cc y) ?_
          simp only [Act.put]
          replace hM := hid (hM.out.put 0 rfl [.int .i64 cc, .int .i64 y] ((rwA 0 0).len (rwA cc y)))
          refine hK.out _ _ ⟨hM.out.at 5 rfl, hM.out.at 4 rfl⟩ (fun hH => ?_)
          clear hK K
          generalize World.setCells _ _ _ _ = W at hM hH ⊢
          try simp only [Act.put, p1, p2, p3]
          refine wpAnyH_done (by kernel_rfl) ?_ _
          go_wp2_with fail
          go_meet
          case rel => exact ⟨bq4, bq5, rfl, rfl, (hM.out.pick [3, 2, 1, 0]).pickL []⟩
        refine rdc rfl (fun K hK => ?_) AllReadyH.nil
        go_simp
        replace hM := hid (hM.out.born [.int .i64 0, .int .i64 0] 58 rfl)
        have hb := hM.out.step
        replace hD := hid (hD.out.later hb)
        clear hb
        refine hK.out _ _ ⟨hM.out.at 4 rfl, hM.out.at 3 rfl⟩ (fun hH => ?_)
        clear hK K
        generalize W.heap.size = bq4 at hM hH ⊢
        generalize World.alloc _ _ = W at hM hH hD ⊢
        try simp only [Act.put, p1, p2, p3]
        refine rdn [5, 9] ?_
        refine rdc rfl (fun K hK => ?_) ?_
        · go_simp
          refine (CC.out _ _ _ _ _ _ hD.out).mono ?_
          rintro e W ⟨rfl, hb⟩
          replace hM := hid (hM.out.later hb)
          replace hD := hid (hD.out.later hb)
          clear hb
          clear hD
          go_wp2_with fail
          refine hK.out _ _ ⟨hM.out.at 4 rfl, hM.out.at 3 rfl⟩ (fun hH => ?_)
          clear hK K
          try simp only [Act.put, p1, p2, p3]
          refine tk 6 rfl hH ?_
          simp only [Act.put, p1, p2, p3]
          refine tk 7 rfl hH ?_
          simp only [Act.put, p1, p2, p3]
          refine tk 8 rfl hH ?_
          simp only [Act.put, p1, p2, p3]
          refine rd1 9 rfl (fun K hK => ?_)
          go_simp
          replace hM := hid (hM.out.bornR wz_all.symm 119 rfl)
          refine hK.out _ _ ⟨hM.out.at 5 rfl, hM.out.at 4 rfl⟩ (fun hH => ?_)
          clear hK K
          generalize W.heap.size = bq5 at hM hH ⊢
          generalize World.alloc _ _ = W at hM hH  ⊢
          try simp only [Act.put, p1, p2, p3]
          refine rd1 11 rfl (fun K hK => ?_)
          refine stR rfl (hM.out.at 0 rfl) ((rwC wz).len (rwC d)) (rwC d) ?_
          simp only [Act.put]
          replace hM := hid (hM.out.put 0 rfl (wl d) ((rwC wz).len (rwC d)))
          refine hK.out _ _ ⟨hM.out.at 5 rfl, hM.out.at 4 rfl⟩ (fun hH => ?_)
          clear hK K
          generalize World.setCells _ _ _ _ = W at hM hH ⊢
          try simp only [Act.put, p1, p2, p3]
          refine rd1 12 rfl (fun K hK => ?_)
          refine stR rfl (hM.out.at 1 rfl) ((rwA 0 0).len (rwA cc y)) (rwA cc y) ?_
          simp only [Act.put]
          replace hM := hid (hM.out.put 1 rfl [.int .i64 cc, .int .i64 y] ((rwA 0 0).len (rwA cc y)))
          refine hK.out _ _ ⟨hM.out.at 5 rfl, hM.out.at 4 rfl⟩ (fun hH => ?_)
          clear hK K
          generalize World.setCells _ _ _ _ = W at hM hH ⊢
          try simp only [Act.put, p1, p2, p3]
          refine wpAnyH_done (by kernel_rfl) ?_ _
          go_wp2_with fail
          go_meet
          case rel => exact ⟨bq5, bq4, rfl, rfl, (hM.out.pick [3, 2, 0, 1]).pickL []⟩
        refine rdc rfl (fun K hK => ?_) AllReadyH.nil
        go_simp
        replace hM := hid (hM.out.bornR wz_all.symm 119 rfl)
        have hb := hM.out.step
        replace hD := hid (hD.out.later hb)
        clear hb
        refine hK.out _ _ ⟨hM.out.at 5 rfl, hM.out.at 4 rfl⟩ (fun hH => ?_)
        clear hK K
        generalize W.heap.size = bq5 at hM hH ⊢
        generalize World.alloc _ _ = W at hM hH hD ⊢
        try simp only [Act.put, p1, p2, p3]
        refine rd1 5 rfl (fun K hK => ?_)
        go_simp
        refine (CC.out _ _ _ _ _ _ hD.out).mono ?_
        rintro e W ⟨rfl, hb⟩
        replace hM := hid (hM.out.later hb)
        replace hD := hid (hD.out.later hb)
        clear hb
        clear hD
        go_wp2_with fail
        refine hK.out _ _ ⟨hM.out.at 5 rfl, hM.out.at 4 rfl⟩ (fun hH => ?_)
        clear hK K
        try simp only [Act.put, p1, p2, p3]
        refine tk 6 rfl hH ?_
        simp only [Act.put, p1, p2, p3]
        refine tk 7 rfl hH ?_
        simp only [Act.put, p1, p2, p3]
        refine tk 8 rfl hH ?_
        simp only [Act.put, p1, p2, p3]
        refine rd1 11 rfl (fun K hK => ?_)
        refine stR rfl (hM.out.at 0 rfl) ((rwC wz).len (rwC d)) (rwC d) ?_
        simp only [Act.put]
        replace hM := hid (hM.out.put 0 rfl (wl d) ((rwC wz).len (rwC d)))
        refine hK.out _ _ ⟨hM.out.at 5 rfl, hM.out.at 4 rfl⟩ (fun hH => ?_)
        clear hK K
        generalize World.setCells _ _ _ _ = W at hM hH ⊢
        try simp only [Act.put, p1, p2, p3]
        refine rd1 12 rfl (fun K hK => ?_)
        refine stR rfl (hM.out.at 1 rfl) ((rwA 0 0).len (rwA cc y)) (rwA cc y) ?_
        simp only [Act.put]
        replace hM := hid (hM.out.put 1 rfl [.int .i64 cc, .int .i64 y] ((rwA 0 0).len (rwA cc y)))
        refine hK.out _ _ ⟨hM.out.at 5 rfl, hM.out.at 4 rfl⟩ (fun hH => ?_)
        clear hK K
        generalize World.setCells _ _ _ _ = W at hM hH ⊢
        try simp only [Act.put, p1, p2, p3]
        refine wpAnyH_done (by kernel_rfl) ?_ _
        go_wp2_with fail
        go_meet
        case rel => exact ⟨bq5, bq4, rfl, rfl, (hM.out.pick [3, 2, 0, 1]).pickL []⟩
      refine rdc rfl (fun K hK => ?_) ?_
      · go_simp
        replace hM := hid (hM.out.bornR wz_all.symm 119 rfl)
        have hb := hM.out.step
        replace hD := hid (hD.out.later hb)
        clear hb
        refine hK.out _ _ ⟨hM.out.at 4 rfl, hM.out.at 3 rfl⟩ (fun hH => ?_)
        clear hK K
        generalize W.heap.size = bq4 at hM hH ⊢
        generalize World.alloc _ _ = W at hM hH hD ⊢
        try simp only [Act.put, p1, p2, p3]
        refine rdn [2, 10] ?_
        refine rdc rfl (fun K hK => ?_) ?_
        · have lk := LL.out _ _ _ _ _ _ hD.out
          go_simp
          clear lk
          refine hK.out _ _ ⟨hM.out.at 4 rfl, hM.out.at 3 rfl⟩ (fun hH => ?_)
          clear hK K
          try simp only [Act.put, p1, p2, p3]
          refine rdn [5, 10] ?_
          refine rdc rfl (fun K hK => ?_) ?_
          · go_simp
            refine (CC.out _ _ _ _ _ _ hD.out).mono ?_
            rintro e W ⟨rfl, hb⟩
            replace hM := hid (hM.out.later hb)
            replace hD := hid (hD.out.later hb)
            clear hb
            clear hD
            go_wp2_with fail
            refine hK.out _ _ ⟨hM.out.at 4 rfl, hM.out.at 3 rfl⟩ (fun hH => ?_)
            clear hK K
            try simp only [Act.put, p1, p2, p3]
            refine tk 6 rfl hH ?_
            simp only [Act.put, p1, p2, p3]
            refine tk 7 rfl hH ?_
            simp only [Act.put, p1, p2, p3]
            refine tk 8 rfl hH ?_
            simp only [Act.put, p1, p2, p3]
            refine rd1 10 rfl (fun K hK => ?_)
            go_simp
            replace hM := hid (hM.out.born [.int .i64 0, .int .i64 0] 58 rfl)
            refine hK.out _ _ ⟨hM.out.at 5 rfl, hM.out.at 4 rfl⟩ (fun hH => ?_)
            clear hK K
            generalize W.heap.size = bq5 at hM hH ⊢
            generalize World.alloc _ _ = W at hM hH  ⊢
            try simp only [Act.put, p1, p2, p3]
            refine rd1 11 rfl (fun K hK => ?_)
            refine stR rfl (hM.out.at 1 rfl) ((rwC wz).len (rwC d)) (rwC d) ?_
            simp only [Act.put]
            replace hM := hid (hM.out.put 1 rfl (wl d) ((rwC wz).len (rwC d)))
            refine hK.out _ _ ⟨hM.out.at 5 rfl, hM.out.at 4 rfl⟩ (fun hH => ?_)
            clear hK K
            generalize World.setCells _ _ _ _ = W at hM hH ⊢
            try simp only [Act.put, p1, p2, p3]
            refine rd1 12 rfl (fun K hK => ?_)
            refine stR rfl (hM.out.at 0 rfl) ((rwA 0 0).len (rwA cc y)) (rwA cc y) ?_
            simp only [Act.put]
            replace hM := hid (hM.out.put 0 rfl [.int .i64 cc, .int .i64 y] ((rwA 0 0).len (rwA cc y)))
            refine hK.out _ _ ⟨hM.out.at 5 rfl, hM.out.at 4 rfl⟩ (fun hH => ?_)
            clear hK K
            generalize World.setCells _ _ _ _ = W at hM hH ⊢
            try simp only [Act.put, p1, p2, p3]
            refine wpAnyH_done (by kernel_rfl) ?_ _
            go_wp2_with fail
            go_meet
            case rel => exact ⟨bq4, bq5, rfl, rfl, (hM.out.pick [3, 2, 1, 0]).pickL []⟩
          refine rdc rfl (fun K hK => ?_) AllReadyH.nil
          go_simp
          replace hM := hid (hM.out.born [.int .i64 0, .int .i64 0] 58 rfl)
          have hb := hM.out.step
          replace hD := hid (hD.out.later hb)
          clear hb
          refine hK.out _ _ ⟨hM.out.at 5 rfl, hM.out.at 4 rfl⟩ (fun hH => ?_)
          clear hK K
          generalize W.heap.size = bq5 at hM hH ⊢
          generalize World.alloc _ _ = W at hM hH hD ⊢
          try simp only [Act.put, p1, p2, p3]
          refine rd1 5 rfl (fun K hK => ?_)
          go_simp
          refine (CC.out _ _ _ _ _ _ hD.out).mono ?_
          rintro e W ⟨rfl, hb⟩
          replace hM := hid (hM.out.later hb)
          replace hD := hid (hD.out.later hb)
          clear hb
          clear hD
          go_wp2_with fail
          refine hK.out _ _ ⟨hM.out.at 5 rfl, hM.out.at 4 rfl⟩ (fun hH => ?_)
          clear hK K
          try simp only [Act.put, p1, p2, p3]
          refine tk 6 rfl hH ?_
          simp only [Act.put, p1, p2, p3]
          refine tk 7 rfl hH ?_
          simp only [Act.put, p1, p2, p3]
          refine tk 8 rfl hH ?_
          simp only [Act.put, p1, p2, p3]
          refine rd1 11 rfl (fun K hK => ?_)
          refine stR rfl (hM.out.at 1 rfl) ((rwC wz).len (rwC d)) (rwC d) ?_
          simp only [Act.put]
          replace hM := hid (hM.out.put 1 rfl (wl d) ((rwC wz).len (rwC d)))
          refine hK.out _ _ ⟨hM.out.at 5 rfl, hM.out.at 4 rfl⟩ (fun hH => ?_)
          clear hK K
          generalize World.setCells _ _ _ _ = W at hM hH ⊢
          try simp only [Act.put, p1, p2, p3]
          refine rd1 12 rfl (fun K hK => ?_)
          refine stR rfl (hM.out.at 0 rfl) ((rwA 0 0).len (rwA cc y)) (rwA cc y) ?_
          simp only [Act.put]
          replace hM := hid (hM.out.put 0 rfl [.int .i64 cc, .int .i64 y] ((rwA 0 0).len (rwA cc y)))
          refine hK.out _ _ ⟨hM.out.at 5 rfl, hM.out.at 4 rfl⟩ (fun hH => ?_)
          clear hK K
          generalize World.setCells _ _ _ _ = W at hM hH ⊢
          try simp only [Act.put, p1, p2, p3]
          refine wpAnyH_done (by kernel_rfl) ?_ _
          go_wp2_with fail
          go_meet
          case rel => exact ⟨bq4, bq5, rfl, rfl, (hM.out.pick [3, 2, 1, 0]).pickL []⟩
        refine rdc rfl (fun K hK => ?_) AllReadyH.nil
        go_simp
        replace hM := hid (hM.out.born [.int .i64 0, .int .i64 0] 58 rfl)
        have hb := hM.out.step
        replace hD := hid (hD.out.later hb)
        clear hb
        refine hK.out _ _ ⟨hM.out.at 5 rfl, hM.out.at 4 rfl⟩ (fun hH => ?_)
        clear hK K
        generalize W.heap.size = bq5 at hM hH ⊢
        generalize World.alloc _ _ = W at hM hH hD ⊢
        try simp only [Act.put, p1, p2, p3]
        refine rd1 2 rfl (fun K hK => ?_)
        have lk := LL.out _ _ _ _ _ _ hD.out
        go_simp
        clear lk
        refine hK.out _ _ ⟨hM.out.at 5 rfl, hM.out.at 4 rfl⟩ (fun hH => ?_)
        clear hK K
        try simp only [Act.put, p1, p2, p3]
        refine rd1 5 rfl (fun K hK => ?_)
        go_simp
        refine (CC.out _ _ _ _ _ _ hD.out).mono ?_
        rintro e W ⟨rfl, hb⟩
        replace hM := hid (hM.out.later hb)
        replace hD := hid (hD.out.later hb)
        clear hb
        clear hD
        go_wp2_with fail
        refine hK.out _ _ ⟨hM.out.at 5 rfl, hM.out.at 4 rfl⟩ (fun hH => ?_)
        clear hK K
        try simp only [Act.put, p1, p2, p3]
        refine tk 6 rfl hH ?_
        simp only [Act.put, p1, p2, p3]
        refine tk 7 rfl hH ?_
        simp only [Act.put, p1, p2, p3]
        refine tk 8 rfl hH ?_
        simp only [Act.put, p1, p2, p3]
        refine rd1 11 rfl (fun K hK => ?_)
        refine stR rfl (hM.out.at 1 rfl) ((rwC wz).len (rwC d)) (rwC d) ?_
        simp only [Act.put]
        replace hM := hid (hM.out.put 1 rfl (wl d) ((rwC wz).len (rwC d)))
        refine hK.out _ _ ⟨hM.out.at 5 rfl, hM.out.at 4 rfl⟩ (fun hH => ?_)
        clear hK K
        generalize World.setCells _ _ _ _ = W at hM hH ⊢
        try simp only [Act.put, p1, p2, p3]
        refine rd1 12 rfl (fun K hK => ?_)
        refine stR rfl (hM.out.at 0 rfl) ((rwA 0 0).len (rwA cc y)) (rwA cc y) ?_
        simp only [Act.put]
        replace hM := hid (hM.out.put 0 rfl [.int .i64 cc, .int .i64 y] ((rwA 0 0).len (rwA cc y)))
        refine hK.out _ _ ⟨hM.out.at 5 rfl, hM.out.at 4 rfl⟩ (fun hH => ?_)
        clear hK K
        generalize World.setCells _ _ _ _ = W at hM hH ⊢
        try simp only [Act.put, p1, p2, p3]
        refine wpAnyH_done (by kernel_rfl) ?_ _
        go_wp2_with fail
        go_meet
        case rel => exact ⟨bq4, bq5, rfl, rfl, (hM.out.pick [3, 2, 1, 0]).pickL []⟩
      refine rdc rfl (fun K hK => ?_) AllReadyH.nil
      go_simp
      replace hM := hid (hM.out.born [.int .i64 0, .int .i64 0] 58 rfl)
      have hb := hM.out.step
      replace hD := hid (hD.out.later hb)
      clear hb
      refine hK.out _ _ ⟨hM.out.at 4 rfl, hM.out.at 3 rfl⟩ (fun hH => ?_)
      clear hK K
      generalize W.heap.size = bq4 at hM hH ⊢
      generalize World.alloc _ _ = W at hM hH hD ⊢
      try simp only [Act.put, p1, p2, p3]
      refine rdn [2, 9] ?_
      refine rdc rfl (fun K hK => ?_) ?_
      · have lk := LL.out _ _ _ _ _ _ hD.out
        go_simp
        clear lk
        refine hK.out _ _ ⟨hM.out.at 4 rfl, hM.out.at 3 rfl⟩ (fun hH => ?_)
        clear hK K
        try simp only [Act.put, p1, p2, p3]
        refine rdn [5, 9] ?_
        refine rdc rfl (fun K hK => ?_) ?_
        · go_simp
          refine (CC.out _ _ _ _ _ _ hD.out).mono ?_
          rintro e W ⟨rfl, hb⟩
          replace hM := hid (hM.out.later hb)
          replace hD := hid (hD.out.later hb)
          clear hb
          clear hD
          go_wp2_with fail
          refine hK.out _ _ ⟨hM.out.at 4 rfl, hM.out.at 3 rfl⟩ (fun hH => ?_)
          clear hK K
          try simp only [Act.put, p1, p2, p3]
          refine tk 6 rfl hH ?_
          simp only [Act.put, p1, p2, p3]
          refine tk 7 rfl hH ?_
          simp only [Act.put, p1, p2, p3]
          refine tk 8 rfl hH ?_
          simp only [Act.put, p1, p2, p3]
          refine rd1 9 rfl (fun K hK => ?_)
          go_simp
          replace hM := hid (hM.out.bornR wz_all.symm 119 rfl)
          refine hK.out _ _ ⟨hM.out.at 5 rfl, hM.out.at 4 rfl⟩ (fun hH => ?_)
          clear hK K
          generalize W.heap.size = bq5 at hM hH ⊢
          generalize World.alloc _ _ = W at hM hH  ⊢
          try simp only [Act.put, p1, p2, p3]
          refine rd1 11 rfl (fun K hK => ?_)
          refine stR rfl (hM.out.at 0 rfl) ((rwC wz).len (rwC d)) (rwC d) ?_
          simp only [Act.put]
          replace hM := hid (hM.out.put 0 rfl (wl d) ((rwC wz).len (rwC d)))
          refine hK.out _ _ ⟨hM.out.at 5 rfl, hM.out.at 4 rfl⟩ (fun hH => ?_)
          clear hK K
          generalize World.setCells _ _ _ _ = W at hM hH ⊢
          try simp only [Act.put, p1, p2, p3]
          refine rd1 12 rfl (fun K hK => ?_)
          refine stR rfl (hM.out.at 1 rfl) ((rwA 0 0).len (rwA cc y)) (rwA cc y) ?_
          simp only [Act.put]
          replace hM := hid (hM.out.put 1 rfl [.int .i64 cc, .int .i64 y] ((rwA 0 0).len (rwA cc y)))
          refine hK.out _ _ ⟨hM.out.at 5 rfl, hM.out.at 4 rfl⟩ (fun hH => ?_)
          clear hK K
          generalize World.setCells _ _ _ _ = W at hM hH ⊢
          try simp only [Act.put, p1, p2, p3]
          refine wpAnyH_done (by kernel_rfl) ?_ _
          go_wp2_with fail
          go_meet
          case rel => exact ⟨bq5, bq4, rfl, rfl, (hM.out.pick [3, 2, 0, 1]).pickL []⟩
        refine rdc rfl (fun K hK => ?_) AllReadyH.nil
        go_simp
        replace hM := hid (hM.out.bornR wz_all.symm 119 rfl)
        have hb := hM.out.step
        replace hD := hid (hD.out.later hb)
        clear hb
        refine hK.out _ _ ⟨hM.out.at 5 rfl, hM.out.at 4 rfl⟩ (fun hH => ?_)
        clear hK K
        generalize W.heap.size = bq5 at hM hH ⊢
        generalize World.alloc _ _ = W at hM hH hD ⊢
        try simp only [Act.put, p1, p2, p3]
        refine rd1 5 rfl (fun K hK => ?_)
        go_simp
        refine (CC.out _ _ _ _ _ _ hD.out).mono ?_
        rintro e W ⟨rfl, hb⟩
        replace hM := hid (hM.out.later hb)
        replace hD := hid (hD.out.later hb)
        clear hb
        clear hD
        go_wp2_with fail
        refine hK.out _ _ ⟨hM.out.at 5 rfl, hM.out.at 4 rfl⟩ (fun hH => ?_)
        clear hK K
        try simp only [Act.put, p1, p2, p3]
        refine tk 6 rfl hH ?_
        simp only [Act.put, p1, p2, p3]
        refine tk 7 rfl hH ?_
        simp only [Act.put, p1, p2, p3]
        refine tk 8 rfl hH ?_
        simp only [Act.put, p1, p2, p3]
        refine rd1 11 rfl (fun K hK => ?_)
        refine stR rfl (hM.out.at 0 rfl) ((rwC wz).len (rwC d)) (rwC d) ?_
        simp only [Act.put]
        replace hM := hid (hM.out.put 0 rfl (wl d) ((rwC wz).len (rwC d)))
        refine hK.out _ _ ⟨hM.out.at 5 rfl, hM.out.at 4 rfl⟩ (fun hH => ?_)
        clear hK K
        generalize World.setCells _ _ _ _ = W at hM hH ⊢
        try simp only [Act.put, p1, p2, p3]
        refine rd1 12 rfl (fun K hK => ?_)
        refine stR rfl (hM.out.at 1 rfl) ((rwA 0 0).len (rwA cc y)) (rwA cc y) ?_
        simp only [Act.put]
        replace hM := hid (hM.out.put 1 rfl [.int .i64 cc, .int .i64 y] ((rwA 0 0).len (rwA cc y)))
        refine hK.out _ _ ⟨hM.out.at 5 rfl, hM.out.at 4 rfl⟩ (fun hH => ?_)
        clear hK K
        generalize World.setCells _ _ _ _ = W at hM hH ⊢
        try simp only [Act.put, p1, p2, p3]
        refine wpAnyH_done (by kernel_rfl) ?_ _
        go_wp2_with fail
        go_meet
        case rel => exact ⟨bq5, bq4, rfl, rfl, (hM.out.pick [3, 2, 0, 1]).pickL []⟩
      refine rdc rfl (fun K hK => ?_) AllReadyH.nil
      go_simp
      replace hM := hid (hM.out.bornR wz_all.symm 119 rfl)
      have hb := hM.out.step
      replace hD := hid (hD.out.later hb)
      clear hb
      refine hK.out _ _ ⟨hM.out.at 5 rfl, hM.out.at 4 rfl⟩ (fun hH => ?_)
      clear hK K
      generalize W.heap.size = bq5 at hM hH ⊢
      generalize World.alloc _ _ = W at hM hH hD ⊢
      try simp only [Act.put, p1, p2, p3]
      refine rd1 2 rfl (fun K hK => ?_)
      have lk := LL.out _ _ _ _ _ _ hD.out
      go_simp
      clear lk
      refine hK.out _ _ ⟨hM.out.at 5 rfl, hM.out.at 4 rfl⟩ (fun hH => ?_)
      clear hK K
      try simp only [Act.put, p1, p2, p3]
      refine rd1 5 rfl (fun K hK => ?_)
      go_simp
      refine (CC.out _ _ _ _ _ _ hD.out).mono ?_
      rintro e W ⟨rfl, hb⟩
      replace hM := hid (hM.out.later hb)
      replace hD := hid (hD.out.later hb)
      clear hb
      clear hD
      go_wp2_with fail
      refine hK.out _ _ ⟨hM.out.at 5 rfl, hM.out.at 4 rfl⟩ (fun hH => ?_)
      clear hK K
      try simp only [Act.put, p1, p2, p3]
      refine tk 6 rfl hH ?_
      simp only [Act.put, p1, p2, p3]
      refine tk 7 rfl hH ?_
      simp only [Act.put, p1, p2, p3]
      refine tk 8 rfl hH ?_
      simp only [Act.put, p1, p2, p3]
      refine rd1 11 rfl (fun K hK => ?_)
      refine stR rfl (hM.out.at 0 rfl) ((rwC wz).len (rwC d)) (rwC d) ?_
      simp only [Act.put]
      replace hM := hid (hM.out.put 0 rfl (wl d) ((rwC wz).len (rwC d)))
      refine hK.out _ _ ⟨hM.out.at 5 rfl, hM.out.at 4 rfl⟩ (fun hH => ?_)
      clear hK K
      generalize World.setCells _ _ _ _ = W at hM hH ⊢
      try simp only [Act.put, p1, p2, p3]
      refine rd1 12 rfl (fun K hK => ?_)
      refine stR rfl (hM.out.at 1 rfl) ((rwA 0 0).len (rwA cc y)) (rwA cc y) ?_
      simp only [Act.put]
      replace hM := hid (hM.out.put 1 rfl [.int .i64 cc, .int .i64 y] ((rwA 0 0).len (rwA cc y)))
      refine hK.out _ _ ⟨hM.out.at 5 rfl, hM.out.at 4 rfl⟩ (fun hH => ?_)
      clear hK K
      generalize World.setCells _ _ _ _ = W at hM hH ⊢
      try simp only [Act.put, p1, p2, p3]
      refine wpAnyH_done (by kernel_rfl) ?_ _
      go_wp2_with fail
      go_meet
      case rel => exact ⟨bq5, bq4, rfl, rfl, (hM.out.pick [3, 2, 0, 1]).pickL []⟩
    refine rdc rfl (fun K hK => ?_) ?_
    · go_simp
      replace hM := hid (hM.out.bornR wz_all.symm 119 rfl)
      refine hK.out _ _ ⟨hM.out.at 4 rfl, hM.out.at 3 rfl⟩ (fun hH => ?_)
      clear hK K
      generalize W.heap.size = bq4 at hM hH ⊢
      generalize World.alloc _ _ = W at hM hH  ⊢
      try simp only [Act.put, p1, p2, p3]
      refine rdn [0, 10] ?_
      refine rdc rfl (fun K hK => ?_) ?_
      · go_simp
        refine (deeds_is _).mono ?_
        rintro e W ⟨rfl, ⟨b1, b2, b3, b4, hD⟩, hb⟩
        replace hM := hid (hM.out.later hb)
        clear hb
        replace hD := hid (hD)
        go_wp2_with fail
        refine hK.out _ _ ⟨hM.out.at 4 rfl, hM.out.at 3 rfl⟩ (fun hH => ?_)
        clear hK K
        try simp only [Act.put, p1, p2, p3]
        refine rdn [2, 10] ?_
        refine rdc rfl (fun K hK => ?_) ?_
        · have lk := LL.out _ _ _ _ _ _ hD.out
          go_simp
          clear lk
          refine hK.out _ _ ⟨hM.out.at 4 rfl, hM.out.at 3 rfl⟩ (fun hH => ?_)
          clear hK K
          try simp only [Act.put, p1, p2, p3]
          refine rdn [5, 10] ?_
          refine rdc rfl (fun K hK => ?_) ?_
          · go_simp
            refine (CC.out _ _ _ _ _ _ hD.out).mono ?_
            rintro e W ⟨rfl, hb⟩
            replace hM := hid (hM.out.later hb)
            replace hD := hid (hD.out.later hb)
            clear hb
            clear hD
            go_wp2_with fail
            refine hK.out _ _ ⟨hM.out.at 4 rfl, hM.out.at 3 rfl⟩ (fun hH => ?_)
            clear hK K
            try simp only [Act.put, p1, p2, p3]
            refine tk 6 rfl hH ?_
            simp only [Act.put, p1, p2, p3]
            refine tk 7 rfl hH ?_
            simp only [Act.put, p1, p2, p3]
            refine tk 8 rfl hH ?_
            simp only [Act.put, p1, p2, p3]
            refine rd1 10 rfl (fun K hK => ?_)
            go_simp
            replace hM := hid (hM.out.born [.int .i64 0, .int .i64 0] 58 rfl)
            refine hK.out _ _ ⟨hM.out.at 5 rfl, hM.out.at 4 rfl⟩ (fun hH => ?_)
            clear hK K
            generalize W.heap.size = bq5 at hM hH ⊢
            generalize World.alloc _ _ = W at hM hH  ⊢
            try simp only [Act.put, p1, p2, p3]
            refine rd1 11 rfl (fun K hK => ?_)
            refine stR rfl (hM.out.at 1 rfl) ((rwC wz).len (rwC d)) (rwC d) ?_
            simp only [Act.put]
            replace hM := hid (hM.out.put 1 rfl (wl d) ((rwC wz).len (rwC d)))
            refine hK.out _ _ ⟨hM.out.at 5 rfl, hM.out.at 4 rfl⟩ (fun hH => ?_)
            clear hK K
            generalize World.setCells _ _ _ _ = W at hM hH ⊢
            try simp only [Act.put, p1, p2, p3]
            refine rd1 12 rfl (fun K hK => ?_)
            refine stR rfl (hM.out.at 0 rfl) ((rwA 0 0).len (rwA cc y)) (rwA cc y) ?_
            simp only [Act.put]
            replace hM := hid (hM.out.put 0 rfl [.int .i64 cc, .int .i64 y] ((rwA 0 0).len (rwA cc y)))
            refine hK.out _ _ ⟨hM.out.at 5 rfl, hM.out.at 4 rfl⟩ (fun hH => ?_)
            clear hK K
            generalize World.setCells _ _ _ _ = W at hM hH ⊢
            try simp only [Act.put, p1, p2, p3]
            refine wpAnyH_done (by kernel_rfl) ?_ _
            go_wp2_with fail
            go_meet
            case rel => exact ⟨bq4, bq5, rfl, rfl, (hM.out.pick [3, 2, 1, 0]).pickL []⟩
          refine rdc rfl (fun K hK => ?_) AllReadyH.nil
          go_simp
          replace hM := hid (hM.out.born [.int .i64 0, .int .i64 0] 58 rfl)
          have hb := hM.out.step
          replace hD := hid (hD.out.later hb)
          clear hb
          refine hK.out _ _ ⟨hM.out.at 5 rfl, hM.out.at 4 rfl⟩ (fun hH => ?_)
          clear hK K
          generalize W.heap.size = bq5 at hM hH ⊢
          generalize World.alloc _ _ = W at hM hH hD ⊢
          try simp only [Act.put, p1, p2, p3]
          refine rd1 5 rfl (fun K hK => ?_)
          go_simp
          refine (CC.out _ _ _ _ _ _ hD.out).mono ?_
          rintro e W ⟨rfl, hb⟩
          replace hM := hid (hM.out.later hb)
          replace hD := hid (hD.out.later hb)
          clear hb
          clear hD
          go_wp2_with fail
          refine hK.out _ _ ⟨hM.out.at 5 rfl, hM.out.at 4 rfl⟩ (fun hH => ?_)
          clear hK K
          try simp only [Act.put, p1, p2, p3]
          refine tk 6 rfl hH ?_
          simp only [Act.put, p1, p2, p3]
          refine tk 7 rfl hH ?_
          simp only [Act.put, p1, p2, p3]
          refine tk 8 rfl hH ?_
          simp only [Act.put, p1, p2, p3]
          refine rd1 11 rfl (fun K hK => ?_)
          refine stR rfl (hM.out.at 1 rfl) ((rwC wz).len (rwC d)) (rwC d) ?_
          simp only [Act.put]
          replace hM := hid (hM.out.put 1 rfl (wl d) ((rwC wz).len (rwC d)))
          refine hK.out _ _ ⟨hM.out.at 5 rfl, hM.out.at 4 rfl⟩ (fun hH => ?_)
          clear hK K
          generalize World.setCells _ _ _ _ = W at hM hH ⊢
          try simp only [Act.put, p1, p2, p3]
          refine rd1 12 rfl (fun K hK => ?_)
          refine stR rfl (hM.out.at 0 rfl) ((rwA 0 0).len (rwA cc y)) (rwA cc y) ?_
          simp only [Act.put]
          replace hM := hid (hM.out.put 0 rfl [.int .i64 cc, .int .i64 y] ((rwA 0 0).len (rwA cc y)))
          refine hK.out _ _ ⟨hM.out.at 5 rfl, hM.out.at 4 rfl⟩ (fun hH => ?_)
          clear hK K
          generalize World.setCells _ _ _ _ = W at hM hH ⊢
          try simp only [Act.put, p1, p2, p3]
          refine wpAnyH_done (by kernel_rfl) ?_ _
          go_wp2_with fail
          go_meet
          case rel => exact ⟨bq4, bq5, rfl, rfl, (hM.out.pick [3, 2, 1, 0]).pickL []⟩
        refine rdc rfl (fun K hK => ?_) AllReadyH.nil
        go_simp
        replace hM := hid (hM.out.born [.int .i64 0, .int .i64 0] 58 rfl)
        have hb := hM.out.step
        replace hD := hid (hD.out.later hb)
        clear hb
        refine hK.out _ _ ⟨hM.out.at 5 rfl, hM.out.at 4 rfl⟩ (fun hH => ?_)
        clear hK K
        generalize W.heap.size = bq5 at hM hH ⊢
        generalize World.alloc _ _ = W at hM hH hD ⊢
        try simp only [Act.put, p1, p2, p3]
        refine rd1 2 rfl (fun K hK => ?_)
        have lk := LL.out _ _ _ _ _ _ hD.out
        go_simp
        clear lk
        refine hK.out _ _ ⟨hM.out.at 5 rfl, hM.out.at 4 rfl⟩ (fun hH => ?_)
        clear hK K
        try simp only [Act.put, p1, p2, p3]
        refine rd1 5 rfl (fun K hK => ?_)
        go_simp
        refine (CC.out _ _ _ _ _ _ hD.out).mono ?_
        rintro e W ⟨rfl, hb⟩
        replace hM := hid (hM.out.later hb)
        replace hD := hid (hD.out.later hb)
        clear hb
        clear hD
        go_wp2_with fail
        refine hK.out _ _ ⟨hM.out.at 5 rfl, hM.out.at 4 rfl⟩ (fun hH => ?_)
        clear hK K
        try simp only [Act.put, p1, p2, p3]
        refine tk 6 rfl hH ?_
        simp only [Act.put, p1, p2, p3]
        refine tk 7 rfl hH ?_
        simp only [Act.put, p1, p2, p3]
        refine tk 8 rfl hH ?_
        simp only [Act.put, p1, p2, p3]
        refine rd1 11 rfl (fun K hK => ?_)
        refine stR rfl (hM.out.at 1 rfl) ((rwC wz).len (rwC d)) (rwC d) ?_
        simp only [Act.put]
        replace hM := hid (hM.out.put 1 rfl (wl d) ((rwC wz).len (rwC d)))
        refine hK.out _ _ ⟨hM.out.at 5 rfl, hM.out.at 4 rfl⟩ (fun hH => ?_)
        clear hK K
        generalize World.setCells _ _ _ _ = W at hM hH ⊢
        try simp only [Act.put, p1, p2, p3]
        refine rd1 12 rfl (fun K hK => ?_)
        refine stR rfl (hM.out.at 0 rfl) ((rwA 0 0).len (rwA cc y)) (rwA cc y) ?_
        simp only [Act.put]
        replace hM := hid (hM.out.put 0 rfl [.int .i64 cc, .int .i64 y] ((rwA 0 0).len (rwA cc y)))
        refine hK.out _ _ ⟨hM.out.at 5 rfl, hM.out.at 4 rfl⟩ (fun hH => ?_)
        clear hK K
        generalize World.setCells _ _ _ _ = W at hM hH ⊢
        try simp only [Act.put, p1, p2, p3]
        refine wpAnyH_done (by kernel_rfl) ?_ _
        go_wp2_with fail
        go_meet
        case rel => exact ⟨bq4, bq5, rfl, rfl, (hM.out.pick [3, 2, 1, 0]).pickL []⟩
      refine rdc rfl (fun K hK => ?_) AllReadyH.nil
      go_simp
      replace hM := hid (hM.out.born [.int .i64 0, .int .i64 0] 58 rfl)
      refine hK.out _ _ ⟨hM.out.at 5 rfl, hM.out.at 4 rfl⟩ (fun hH => ?_)
      clear hK K
      generalize W.heap.size = bq5 at hM hH ⊢
      generalize World.alloc _ _ = W at hM hH  ⊢
      try simp only [Act.put, p1, p2, p3]
      refine rd1 0 rfl (fun K hK => ?_)
      go_simp
      refine (deeds_is _).mono ?_
      rintro e W ⟨rfl, ⟨b1, b2, b3, b4, hD⟩, hb⟩
      replace hM := hid (hM.out.later hb)
      clear hb
      replace hD := hid (hD)
      go_wp2_with fail
      refine hK.out _ _ ⟨hM.out.at 5 rfl, hM.out.at 4 rfl⟩ (fun hH => ?_)
      clear hK K
      try simp only [Act.put, p1, p2, p3]
      refine rd1 2 rfl (fun K hK => ?_)
      have lk := LL.out _ _ _ _ _ _ hD.out
      go_simp
      clear lk
      refine hK.out _ _ ⟨hM.out.at 5 rfl, hM.out.at 4 rfl⟩ (fun hH => ?_)
      clear hK K
      try simp only [Act.put, p1, p2, p3]
      refine rd1 5 rfl (fun K hK => ?_)
      go_simp
      refine (CC.out _ _ _ _ _ _ hD.out).mono ?_
      rintro e W ⟨rfl, hb⟩
      replace hM := hid (hM.out.later hb)
      replace hD := hid (hD.out.later hb)
      clear hb
      clear hD
      go_wp2_with fail
      refine hK.out _ _ ⟨hM.out.at 5 rfl, hM.out.at 4 rfl⟩ (fun hH => ?_)
      clear hK K
      try simp only [Act.put, p1, p2, p3]
      refine tk 6 rfl hH ?_
      simp only [Act.put, p1, p2, p3]
      refine tk 7 rfl hH ?_
      simp only [Act.put, p1, p2, p3]
      refine tk 8 rfl hH ?_
      simp only [Act.put, p1, p2, p3]
      refine rd1 11 rfl (fun K hK => ?_)
      refine stR rfl (hM.out.at 1 rfl) ((rwC wz).len (rwC d)) (rwC d) ?_
      simp only [Act.put]
      replace hM := hid (hM.out.put 1 rfl (wl d) ((rwC wz).len (rwC d)))
      refine hK.out _ _ ⟨hM.out.at 5 rfl, hM.out.at 4 rfl⟩ (fun hH => ?_)
      clear hK K
      generalize World.setCells _ _ _ _ = W at hM hH ⊢
      try simp only [Act.put, p1, p2, p3]
      refine rd1 12 rfl (fun K hK => ?_)
      refine stR rfl (hM.out.at 0 rfl) ((rwA 0 0).len (rwA cc y)) (rwA cc y) ?_
      simp only [Act.put]
      replace hM := hid (hM.out.put 0 rfl [.int .i64 cc, .int .i64 y] ((rwA 0 0).len (rwA cc y)))
      refine hK.out _ _ ⟨hM.out.at 5 rfl, hM.out.at 4 rfl⟩ (fun hH => ?_)
      clear hK K
      generalize World.setCells _ _ _ _ = W at hM hH ⊢
      try simp only [Act.put, p1, p2, p3]
      refine wpAnyH_done (by kernel_rfl) ?_ _
      go_wp2_with fail
      go_meet
      case rel => exact ⟨bq4, bq5, rfl, rfl, (hM.out.pick [3, 2, 1, 0]).pickL []⟩
    refine rdc rfl (fun K hK => ?_) AllReadyH.nil
    go_simp
    replace hM := hid (hM.out.born [.int .i64 0, .int .i64 0] 58 rfl)
    refine hK.out _ _ ⟨hM.out.at 4 rfl, hM.out.at 3 rfl⟩ (fun hH => ?_)
    clear hK K
    generalize W.heap.size = bq4 at hM hH ⊢
    generalize World.alloc _ _ = W at hM hH  ⊢
    try simp only [Act.put, p1, p2, p3]
    refine rdn [0, 9] ?_
    refine rdc rfl (fun K hK => ?_) ?_
    · go_simp
      refine (deeds_is _).mono ?_
      rintro e W ⟨rfl, ⟨b1, b2, b3, b4, hD⟩, hb⟩
      replace hM := hid (hM.out.later hb)
      clear hb
      replace hD := hid (hD)
      go_wp2_with fail
      refine hK.out _ _ ⟨hM.out.at 4 rfl, hM.out.at 3 rfl⟩ (fun hH => ?_)
      clear hK K
      try simp only [Act.put, p1, p2, p3]
      refine rdn [2, 9] ?_
      refine rdc rfl (fun K hK => ?_) ?_
      · have lk := LL.out _ _ _ _ _ _ hD.out
        go_simp
        clear lk
        refine hK.out _ _ ⟨hM.out.at 4 rfl, hM.out.at 3 rfl⟩ (fun hH => ?_)
        clear hK K
        try simp only [Act.put, p1, p2, p3]
        refine rdn [5, 9] ?_
        refine rdc rfl (fun K hK => ?_) ?_
        · go_simp
          refine (CC.out _ _ _ _ _ _ hD.out).mono ?_
          rintro e W ⟨rfl, hb⟩
          replace hM := hid (hM.out.later hb)
          replace hD := hid (hD.out.later hb)
          clear hb
          clear hD
          go_wp2_with fail
          refine hK.out _ _ ⟨hM.out.at 4 rfl, hM.out.at 3 rfl⟩ (fun hH => ?_)
          clear hK K
          try simp only [Act.put, p1, p2, p3]
          refine tk 6 rfl hH ?_
          simp only [Act.put, p1, p2, p3]
          refine tk 7 rfl hH ?_
          simp only [Act.put, p1, p2, p3]
          refine tk 8 rfl hH ?_
          simp only [Act.put, p1, p2, p3]
          refine rd1 9 rfl (fun K hK => ?_)
          go_simp
          replace hM := hid (hM.out.bornR wz_all.symm 119 rfl)
          refine hK.out _ _ ⟨hM.out.at 5 rfl, hM.out.at 4 rfl⟩ (fun hH => ?_)
          clear hK K
          generalize W.heap.size = bq5 at hM hH ⊢
          generalize World.alloc _ _ = W at hM hH  ⊢
          try simp only [Act.put, p1, p2, p3]
          refine rd1 11 rfl (fun K hK => ?_)
          refine stR rfl (hM.out.at 0 rfl) ((rwC wz).len (rwC d)) (rwC d) ?_
          simp only [Act.put]
          replace hM := hid (hM.out.put 0 rfl (wl d) ((rwC wz).len (rwC d)))
          refine hK.out _ _ ⟨hM.out.at 5 rfl, hM.out.at 4 rfl⟩ (fun hH => ?_)
          clear hK K
          generalize World.setCells _ _ _ _ = W at hM hH ⊢
          try simp only [Act.put, p1, p2, p3]
          refine rd1 12 rfl (fun K hK => ?_)
          refine stR rfl (hM.out.at 1 rfl) ((rwA 0 0).len (rwA cc y)) (rwA cc y) ?_
          simp only [Act.put]
          replace hM := hid (hM.out.put 1 rfl [.int .i64 cc, .int .i64 y] ((rwA 0 0).len (rwA cc y)))
          refine hK.out _ _ ⟨hM.out.at 5 rfl, hM.out.at 4 rfl⟩ (fun hH => ?_)
          clear hK K
          generalize World.setCells _ _ _ _ = W at hM hH ⊢
          try simp only [Act.put, p1, p2, p3]
          refine wpAnyH_done (by kernel_rfl) ?_ _
          go_wp2_with fail
          go_meet
          case rel => exact ⟨bq5, bq4, rfl, rfl, (hM.out.pick [3, 2, 0, 1]).pickL []⟩
        refine rdc rfl (fun K hK => ?_) AllReadyH.nil
        go_simp
        replace hM := hid (hM.out.bornR wz_all.symm 119 rfl)
        have hb := hM.out.step
        replace hD := hid (hD.out.later hb)
        clear hb
        refine hK.out _ _ ⟨hM.out.at 5 rfl, hM.out.at 4 rfl⟩ (fun hH => ?_)
        clear hK K
        generalize W.heap.size = bq5 at hM hH ⊢
        generalize World.alloc _ _ = W at hM hH hD ⊢
        try simp only [Act.put, p1, p2, p3]
        refine rd1 5 rfl (fun K hK => ?_)
        go_simp
        refine (CC.out _ _ _ _ _ _ hD.out).mono ?_
        rintro e W ⟨rfl, hb⟩
        replace hM := hid (hM.out.later hb)
        replace hD := hid (hD.out.later hb)
        clear hb
        clear hD
        go_wp2_with fail
        refine hK.out _ _ ⟨hM.out.at 5 rfl, hM.out.at 4 rfl⟩ (fun hH => ?_)
        clear hK K
        try simp only [Act.put, p1, p2, p3]
        refine tk 6 rfl hH ?_
        simp only [Act.put, p1, p2, p3]
        refine tk 7 rfl hH ?_
        simp only [Act.put, p1, p2, p3]
        refine tk 8 rfl hH ?_
        simp only [Act.put, p1, p2, p3]
        refine rd1 11 rfl (fun K hK => ?_)
        refine stR rfl (hM.out.at 0 rfl) ((rwC wz).len (rwC d)) (rwC d) ?_
        simp only [Act.put]
        replace hM := hid (hM.out.put 0 rfl (wl d) ((rwC wz).len (rwC d)))
        refine hK.out _ _ ⟨hM.out.at 5 rfl, hM.out.at 4 rfl⟩ (fun hH => ?_)
        clear hK K
        generalize World.setCells _ _ _ _ = W at hM hH ⊢
        try simp only [Act.put, p1, p2, p3]
        refine rd1 12 rfl (fun K hK => ?_)
        refine stR rfl (hM.out.at 1 rfl) ((rwA 0 0).len (rwA cc y)) (rwA cc y) ?_
        simp only [Act.put]
        replace hM := hid (hM.out.put 1 rfl [.int .i64 cc, .int .i64 y] ((rwA 0 0).len (rwA cc y)))
        refine hK.out _ _ ⟨hM.out.at 5 rfl, hM.out.at 4 rfl⟩ (fun hH => ?_)
        clear hK K
        generalize World.setCells _ _ _ _ = W at hM hH ⊢
        try simp only [Act.put, p1, p2, p3]
        refine wpAnyH_done (by kernel_rfl) ?_ _
        go_wp2_with fail
        go_meet
        case rel => exact ⟨bq5, bq4, rfl, rfl, (hM.out.pick [3, 2, 0, 1]).pickL []⟩
      refine rdc rfl (fun K hK => ?_) AllReadyH.nil
      go_simp
      replace hM := hid (hM.out.bornR wz_all.symm 119 rfl)
      have hb := hM.out.step
      replace hD := hid (hD.out.later hb)
      clear hb
      refine hK.out _ _ ⟨hM.out.at 5 rfl, hM.out.at 4 rfl⟩ (fun hH => ?_)
      clear hK K
      generalize W.heap.size = bq5 at hM hH ⊢
      generalize World.alloc _ _ = W at hM hH hD ⊢
      try simp only [Act.put, p1, p2, p3]
      refine rd1 2 rfl (fun K hK => ?_)
      have lk := LL.out _ _ _ _ _ _ hD.out
      go_simp
      clear lk
      refine hK.out _ _ ⟨hM.out.at 5 rfl, hM.out.at 4 rfl⟩ (fun hH => ?_)
      clear hK K
      try simp only [Act.put, p1, p2, p3]
      refine rd1 5 rfl (fun K hK => ?_)
      go_simp
      refine (CC.out _ _ _ _ _ _ hD.out).mono ?_
      rintro e W ⟨rfl, hb⟩
      replace hM := hid (hM.out.later hb)
      replace hD := hid (hD.out.later hb)
      clear hb
      clear hD
      go_wp2_with fail
      refine hK.out _ _ ⟨hM.out.at 5 rfl, hM.out.at 4 rfl⟩ (fun hH => ?_)
      clear hK K
      try simp only [Act.put, p1, p2, p3]
      refine tk 6 rfl hH ?_
      simp only [Act.put, p1, p2, p3]
      refine tk 7 rfl hH ?_
      simp only [Act.put, p1, p2, p3]
      refine tk 8 rfl hH ?_
      simp only [Act.put, p1, p2, p3]
      refine rd1 11 rfl (fun K hK => ?_)
      refine stR rfl (hM.out.at 0 rfl) ((rwC wz).len (rwC d)) (rwC d) ?_
      simp only [Act.put]
      replace hM := hid (hM.out.put 0 rfl (wl d) ((rwC wz).len (rwC d)))
      refine hK.out _ _ ⟨hM.out.at 5 rfl, hM.out.at 4 rfl⟩ (fun hH => ?_)
      clear hK K
      generalize World.setCells _ _ _ _ = W at hM hH ⊢
      try simp only [Act.put, p1, p2, p3]
      refine rd1 12 rfl (fun K hK => ?_)
      refine stR rfl (hM.out.at 1 rfl) ((rwA 0 0).len (rwA cc y)) (rwA cc y) ?_
      simp only [Act.put]
      replace hM := hid (hM.out.put 1 rfl [.int .i64 cc, .int .i64 y] ((rwA 0 0).len (rwA cc y)))
      refine hK.out _ _ ⟨hM.out.at 5 rfl, hM.out.at 4 rfl⟩ (fun hH => ?_)
      clear hK K
      generalize World.setCells _ _ _ _ = W at hM hH ⊢
      try simp only [Act.put, p1, p2, p3]
      refine wpAnyH_done (by kernel_rfl) ?_ _
      go_wp2_with fail
      go_meet
      case rel => exact ⟨bq5, bq4, rfl, rfl, (hM.out.pick [3, 2, 0, 1]).pickL []⟩
    refine rdc rfl (fun K hK => ?_) AllReadyH.nil
    go_simp
    replace hM := hid (hM.out.bornR wz_all.symm 119 rfl)
    refine hK.out _ _ ⟨hM.out.at 5 rfl, hM.out.at 4 rfl⟩ (fun hH => ?_)
    clear hK K
    generalize W.heap.size = bq5 at hM hH ⊢
    generalize World.alloc _ _ = W at hM hH  ⊢
    try simp only [Act.put, p1, p2, p3]
    refine rd1 0 rfl (fun K hK => ?_)
    go_simp
    refine (deeds_is _).mono ?_
    rintro e W ⟨rfl, ⟨b1, b2, b3, b4, hD⟩, hb⟩
    replace hM := hid (hM.out.later hb)
    clear hb
    replace hD := hid (hD)
    go_wp2_with fail
    refine hK.out _ _ ⟨hM.out.at 5 rfl, hM.out.at 4 rfl⟩ (fun hH => ?_)
    clear hK K
    try simp only [Act.put, p1, p2, p3]
    refine rd1 2 rfl (fun K hK => ?_)
    have lk := LL.out _ _ _ _ _ _ hD.out
    go_simp
    clear lk
    refine hK.out _ _ ⟨hM.out.at 5 rfl, hM.out.at 4 rfl⟩ (fun hH => ?_)
    clear hK K
    try simp only [Act.put, p1, p2, p3]
    refine rd1 5 rfl (fun K hK => ?_)
    go_simp
    refine (CC.out _ _ _ _ _ _ hD.out).mono ?_
    rintro e W ⟨rfl, hb⟩
    replace hM := hid (hM.out.later hb)
    replace hD := hid (hD.out.later hb)
    clear hb
    clear hD
    go_wp2_with fail
    refine hK.out _ _ ⟨hM.out.at 5 rfl, hM.out.at 4 rfl⟩ (fun hH => ?_)
    clear hK K
    try simp only [Act.put, p1, p2, p3]
    refine tk 6 rfl hH ?_
    simp only [Act.put, p1, p2, p3]
    refine tk 7 rfl hH ?_
    simp only [Act.put, p1, p2, p3]
    refine tk 8 rfl hH ?_
    simp only [Act.put, p1, p2, p3]
    refine rd1 11 rfl (fun K hK => ?_)
    refine stR rfl (hM.out.at 0 rfl) ((rwC wz).len (rwC d)) (rwC d) ?_
    simp only [Act.put]
    replace hM := hid (hM.out.put 0 rfl (wl d) ((rwC wz).len (rwC d)))
    refine hK.out _ _ ⟨hM.out.at 5 rfl, hM.out.at 4 rfl⟩ (fun hH => ?_)
    clear hK K
    generalize World.setCells _ _ _ _ = W at hM hH ⊢
    try simp only [Act.put, p1, p2, p3]
    refine rd1 12 rfl (fun K hK => ?_)
    refine stR rfl (hM.out.at 1 rfl) ((rwA 0 0).len (rwA cc y)) (rwA cc y) ?_
    simp only [Act.put]
    replace hM := hid (hM.out.put 1 rfl [.int .i64 cc, .int .i64 y] ((rwA 0 0).len (rwA cc y)))
    refine hK.out _ _ ⟨hM.out.at 5 rfl, hM.out.at 4 rfl⟩ (fun hH => ?_)
    clear hK K
    generalize World.setCells _ _ _ _ = W at hM hH ⊢
    try simp only [Act.put, p1, p2, p3]
    refine wpAnyH_done (by kernel_rfl) ?_ _
    go_wp2_with fail
    go_meet
    case rel => exact ⟨bq5, bq4, rfl, rfl, (hM.out.pick [3, 2, 0, 1]).pickL []⟩
  case rest =>
    obtain ⟨bz9, bz10, rfl, rfl, hM⟩ := hcut
    generalize wc = W at hM ⊢
    go_wp2_with fail
    replace hM := hid (hM.out.drew)
    refine wp_region_held_drew (S := fun w' => Bo w' bz9 (wl d) ∧ Bo w' bz10 [.int .i64 cc, .int .i64 y]) (by kernel_rfl) ⟨hM.out.at 2 rfl, hM.out.at 3 rfl⟩ (fun hH => ?_)
    generalize World.drew _ = W at hM hH  ⊢
    refine tkR 0 rfl hH (fun _ h => h.1) (rwC d) ?_
    simp only [Act.put, p1, p2, p3]
    refine tk 1 rfl hH ?_ (by intro w h; have c0 := h.2.at 0 rfl; have c1 := h.2.at 1 rfl; clear h; go_simp; try with_reducible rfl)
    simp only [Act.put, p1, p2, p3]
    refine rd1 2 rfl (fun K hK => ?_)
    refine stR rfl (hM.out.at 0 rfl) ((rwC wz).len (rwC d)) (rwC d) ?_
    simp only [Act.put]
    replace hM := hid (hM.out.put 0 rfl (wl d) ((rwC wz).len (rwC d)))
    refine hK.out _ _ ⟨hM.out.at 2 rfl, hM.out.at 3 rfl⟩ (fun hH => ?_)
    clear hK K
    generalize World.setCells _ _ _ _ = W at hM hH ⊢
    try simp only [Act.put, p1, p2, p3]
    refine rd1 3 rfl (fun K hK => ?_)
    refine stR rfl (hM.out.at 1 rfl) ((rwA 0 0).len (rwA cc y)) (rwA cc y) ?_
    simp only [Act.put]
    replace hM := hid (hM.out.put 1 rfl [.int .i64 cc, .int .i64 y] ((rwA 0 0).len (rwA cc y)))
    refine hK.out _ _ ⟨hM.out.at 2 rfl, hM.out.at 3 rfl⟩ (fun hH => ?_)
    clear hK K
    generalize World.setCells _ _ _ _ = W at hM hH ⊢
    try simp only [Act.put, p1, p2, p3]
    refine tk 4 rfl hH ?_
    simp only [Act.put, p1, p2, p3]
    refine wpAnyH_done (by kernel_rfl) ?_ _
    go_wp2
    exact bodyPost_ret (res2s Tryz.results66 (hM.out.at 0 rfl) (rwC d) (hM.out.at 1 rfl) (rwA _ _) (.nilIface)) rfl ⟨rfl, hM.out.below⟩
end Go.Proofs.YteogbpaaacmllaaGreatDoor.Tab
namespace Go.Proofs.YteogbpaaacmllaaGreatDoor.Tab
set_option maxRecDepth 20000
open Go.RowKit
set_option linter.unusedVariables false

set_option maxHeartbeats 4000000 in
theorem withTally_is {c : Nat → Nat} {m r : Nat} {o k x cc y : Int} (h0 : c 0 = m) (hm : m ≤ 4294967295) (x0 : 0 ≤ x) (x1 : x ≤ 4294967295) (hr : r ≤ 4294967295) (hu : ado m o x = (((r : Nat) : Int), cc, y)) (w : World) :
    Calls Tryz.prog 113 #[.agg (wl c).toArray, .agg #[.int .i64 o, .int .i64 k, .int .i64 x]] w (fun e w' => e = .returned (.tuple #[.agg (wl (upw wz 0 r)).toArray, .agg #[.int .i64 cc, .int .i64 y]]) ∧ Below w.heap.size w w') := by
  have D : Hid (∀ w : World, _) := fun w => aDo_eq (n := ((m : Nat) : Int)) (o := o) (k := k) (x := x) (by omega) (by omega) (by omega) (by omega) hu w
  have em1 : IntKind.i64.wrap (m : Int) = m := by rw [IntKind.wrap_i64]; omega
  have em2 : wrap64 (m : Int) = m := by unfold wrap64; omega
  have er : IntKind.u64.wrap (r : Int) = r := by rw [IntKind.wrap_u64]; omega
  have H0 : Hid _ := h0
  clear h0 hm x0 x1 hr hu
  have hM : Hid _ := (((((Ms.nil w).born (wl c) 119 (b := w.heap.size) rfl).born [.int .i64 o, .int .i64 k, .int .i64 x] 44 (b := w.heap.size + 1) (by simp)).bornR wz_all.symm 119 (b := w.heap.size + 2) (by simp)).born [.int .i64 0, .int .i64 0] 58 (b := w.heap.size + 3) (by simp))
  have x1 := (hM.out.at 3 rfl).word (show 0 < 17 by decide)
  rw [H0.out] at x1
  have c2 := hM.out.cell 2 0 rfl rfl
  have c3 := hM.out.cell 2 1 rfl rfl
  have c4 := hM.out.cell 2 2 rfl rfl
  go_enter Tryz.func113, Tryz.ntmps113
  go_wp2_with fail
  clear x1 c2 c3 c4
  generalize World.alloc _ _ = W at hM ⊢
  generalize hsz : w.heap.size = n at hM ⊢
  clear hsz
  refine (D.out _).mono ?_
  rintro e W ⟨rfl, hb⟩
  replace hM := hid (hM.out.later hb)
  clear hb
  replace hM := hid (hM.out.born [.int .i64 0, .int .i64 0] 58 rfl)
  go_wp2_with (first
    | (generalize W.heap.size = bq5 at hM ⊢
       refine sR rfl (hM.out.at 0 rfl) rfl ((rwA 0 0).len (rwA cc y)) (rwA cc y) ?_
       replace hM := hid (hM.out.put 0 rfl [.int .i64 cc, .int .i64 y] ((rwA 0 0).len (rwA cc y)))
       generalize World.setCells _ _ _ _ = W at hM ⊢))
  replace hM := hid (hM.out.drew)
  refine wp_region_held_drew (S := fun w' => Bo w' bq5 [.int .i64 cc, .int .i64 y]) (by kernel_rfl) (hM.out.at 0 rfl) (fun hH => ?_)
  generalize World.drew _ = W at hM hH  ⊢
  refine tk 0 rfl hH ?_
  simp only [Act.put, p1, p2, p3]
  refine tk 1 rfl hH ?_
  simp only [Act.put, p1, p2, p3]
  refine tk 2 rfl hH ?_
  simp only [Act.put, p1, p2, p3]
  refine tk 3 rfl hH ?_ (by intro w h; have c0 := h.at 0 rfl; have c1 := h.at 1 rfl; clear h; go_simp; try with_reducible rfl)
  simp only [Act.put, p1, p2, p3]
  refine rd1 4 rfl (fun K hK => ?_)
  refine stR rfl (hM.out.at 2 rfl) ((rwC wz).len (rwC (upw wz 0 r))) (rwC (upw wz 0 r)) ?_
  simp only [Act.put]
  replace hM := hid (hM.out.put 2 rfl (wl (upw wz 0 r)) ((rwC wz).len (rwC (upw wz 0 r))))
  refine hK.out _ _ (hM.out.at 0 rfl) (fun hH => ?_)
  clear hK K
  generalize World.setCells _ _ _ _ = W at hM hH ⊢
  try simp only [Act.put, p1, p2, p3]
  refine rd1 5 rfl (fun K hK => ?_)
  refine stR rfl (hM.out.at 1 rfl) ((rwA 0 0).len (rwA cc y)) (rwA cc y) ?_
  simp only [Act.put]
  replace hM := hid (hM.out.put 1 rfl [.int .i64 cc, .int .i64 y] ((rwA 0 0).len (rwA cc y)))
  refine hK.out _ _ (hM.out.at 0 rfl) (fun hH => ?_)
  clear hK K
  generalize World.setCells _ _ _ _ = W at hM hH ⊢
  try simp only [Act.put, p1, p2, p3]
  refine wpAnyH_done (by kernel_rfl) ?_ _
  go_wp2
  exact bodyPost_ret (res2 Tryz.results113 (hM.out.at 2 rfl) (rwC (upw wz 0 r)) (hM.out.at 1 rfl) (rwA _ _)) rfl ⟨rfl, hM.out.below⟩
end Go.Proofs.YteogbpaaacmllaaGreatDoor.Tab
namespace Go.Proofs.YteogbpaaacmllaaGreatDoor.Tab
set_option maxRecDepth 20000
open Go.RowKit
end Go.Proofs.YteogbpaaacmllaaGreatDoor.Tab
namespace Go.Proofs.YteogbpaaacmllaaGreatDoor.Tab
set_option maxRecDepth 20000
open Go.RowKit

def twp (t : Tb) (i : Nat) : Nat → Nat := fun j => if j < 2 * i then tw t j else 0
theorem twp_zero (t : Tb) : wl (twp t 0) = wl wz := wl_congr fun j _ => by simp [twp, wz]
theorem twp_next (t : Tb) {i : Nat} (hi : i < 8) : wl (upw (upw (twp t i) (2 * i) (t.k i).toNat) (2 * i + 1) (t.v i).toNat) = wl (twp t (i + 1)) := by
  refine wl_congr fun j _ => ?_
  unfold upw twp tw
  by_cases e1 : j = 2 * i + 1
  · subst e1
    rw [if_pos rfl, if_pos (by omega), if_pos (by omega), if_neg (by omega), show (2 * i + 1) / 2 = i by omega]
  · rw [if_neg e1]
    by_cases e0 : j = 2 * i
    · subst e0
      rw [if_pos rfl, if_pos (by omega), if_pos (by omega), if_pos (by omega), show (2 * i) / 2 = i by omega]
    · rw [if_neg e0]
      by_cases h : j < 2 * i
      · have h2 : j < 2 * (i + 1) := by omega
        simp only [h, h2, if_true]
      · have h2 : ¬ j < 2 * (i + 1) := by omega
        simp only [h, h2, if_false]
theorem twp_all (t : Tb) : wl (twp t 8) = wl (tw t) := wl_congr fun j hj => by
  unfold twp
  by_cases h : j < 16
  · rw [if_pos (by omega)]
  · rw [if_neg (by omega)]; unfold tw; rw [if_neg h]

set_option maxHeartbeats 4000000 in
theorem tableWords_is (t : Tb) (hk : ∀ i, i < 8 → 0 ≤ t.k i ∧ t.k i ≤ 4294967295) (hv : ∀ i, i < 8 → 0 ≤ t.v i ∧ t.v i ≤ 4294967295) (w : World) :
    Calls Tryz.prog 127 #[.agg t.all.toArray] w fun e w' => e = .returned (.agg (wl (tw t)).toArray) ∧ Below w.heap.size w w' := by
  obtain ⟨na, ea, hd⟩ := slots_array
  have HD : Hid _ := hd
  clear hd
  obtain ⟨nb, eb, hd⟩ := cells_array
  have HC : Hid _ := hd
  clear hd
  have HS : Hid (∀ t : Tb, (Tryz.prog.info? 174).map (·.size) = some t.all.length) := slots_size
  have HCS : Hid _ := cells_size
  have HCZ : Hid _ := cells_size2
  have HX : Hid (∀ i : Nat, i < 8 → ∀ w, (Instr.index 174 (.agg t.all.toArray) (.int .i64 (i : Nat))).run Tryz.prog w = .ok (.agg #[.int .i64 (t.k i), .int .i64 (t.v i)]) w) := slot_at t
  have HK : Hid _ := hk
  have HV : Hid _ := hv
  clear hk hv
  have G : Hid (Gd w.heap.size w (((w.alloc (.cells t.all.toArray 174)).alloc (.cells #[.int .u64 0, .int .u64 0, .int .u64 0, .int .u64 0, .int .u64 0, .int .u64 0, .int .u64 0, .int .u64 0, .int .u64 0, .int .u64 0, .int .u64 0, .int .u64 0, .int .u64 0, .int .u64 0, .int .u64 0, .int .u64 0, .int .u64 0] 119)).alloc (.cells #[.int .u64 0, .int .u64 0, .int .u64 0, .int .u64 0, .int .u64 0, .int .u64 0, .int .u64 0, .int .u64 0, .int .u64 0, .int .u64 0, .int .u64 0, .int .u64 0, .int .u64 0, .int .u64 0, .int .u64 0, .int .u64 0, .int .u64 0] 119))) := (((Gd.refl w).new _).new _).new _
  have T : Hid (TAt (((w.alloc (.cells t.all.toArray 174)).alloc (.cells #[.int .u64 0, .int .u64 0, .int .u64 0, .int .u64 0, .int .u64 0, .int .u64 0, .int .u64 0, .int .u64 0, .int .u64 0, .int .u64 0, .int .u64 0, .int .u64 0, .int .u64 0, .int .u64 0, .int .u64 0, .int .u64 0, .int .u64 0] 119)).alloc (.cells #[.int .u64 0, .int .u64 0, .int .u64 0, .int .u64 0, .int .u64 0, .int .u64 0, .int .u64 0, .int .u64 0, .int .u64 0, .int .u64 0, .int .u64 0, .int .u64 0, .int .u64 0, .int .u64 0, .int .u64 0, .int .u64 0, .int .u64 0] 119)) w.heap.size t) := ((TAt.born w t _).new _).new _
  have R : Hid (Bo (((w.alloc (.cells t.all.toArray 174)).alloc (.cells #[.int .u64 0, .int .u64 0, .int .u64 0, .int .u64 0, .int .u64 0, .int .u64 0, .int .u64 0, .int .u64 0, .int .u64 0, .int .u64 0, .int .u64 0, .int .u64 0, .int .u64 0, .int .u64 0, .int .u64 0, .int .u64 0, .int .u64 0] 119)).alloc (.cells #[.int .u64 0, .int .u64 0, .int .u64 0, .int .u64 0, .int .u64 0, .int .u64 0, .int .u64 0, .int .u64 0, .int .u64 0, .int .u64 0, .int .u64 0, .int .u64 0, .int .u64 0, .int .u64 0, .int .u64 0, .int .u64 0, .int .u64 0] 119)) (w.heap.size + 1) (wl wz)) := (Bo.born _ (wl wz) _ (by simp)).new _
  have L : Hid (Bo (((w.alloc (.cells t.all.toArray 174)).alloc (.cells #[.int .u64 0, .int .u64 0, .int .u64 0, .int .u64 0, .int .u64 0, .int .u64 0, .int .u64 0, .int .u64 0, .int .u64 0, .int .u64 0, .int .u64 0, .int .u64 0, .int .u64 0, .int .u64 0, .int .u64 0, .int .u64 0, .int .u64 0] 119)).alloc (.cells #[.int .u64 0, .int .u64 0, .int .u64 0, .int .u64 0, .int .u64 0, .int .u64 0, .int .u64 0, .int .u64 0, .int .u64 0, .int .u64 0, .int .u64 0, .int .u64 0, .int .u64 0, .int .u64 0, .int .u64 0, .int .u64 0, .int .u64 0] 119)) (w.heap.size + 2) (wl (twp t 0))) := by rw [twp_zero]; exact Bo.born _ (wl wz) _ (by simp)
  have NX : Hid _ := @twp_next t
  have AL : Hid _ := twp_all t
  obtain ⟨cs, hcs⟩ : ∃ cs, cs = t.all := ⟨_, rfl⟩
  have RG : Hid _ := T.out.range
  rw [← hcs] at RG HX G R L ⊢
  have HS1 : Hid ((Tryz.prog.info? 174).map (·.size) = some cs.length) := by rw [hcs]; exact HS.out t
  clear T hcs HS
  go_enter Tryz.func127, Tryz.ntmps127
  go_wp2_with (refine wpList_load_mid rfl 174 _ rfl w.heap.size _ rfl cs _ RG.out HD.out rfl HS1.out ?_)
  generalize World.alloc _ _ = W at G R L RG ⊢
  generalize hsz : w.heap.size = n at G R L RG ⊢
  have HSZ : Hid (w.heap.size = n) := hsz
  clear hsz RG
  go_loopg [7] 8 (fun gg s7 wt => ∃ i : Nat, i ≤ 8 ∧ 8 - i ≤ gg ∧ s7 = .int .i64 i ∧ Hid (Bo wt (n + 1) (wl wz)) ∧ Hid (Bo wt (n + 2) (wl (twp t i))) ∧ Hid (Gd n w wt))
  case atStart => exact ⟨0, by omega, by omega, rfl, R, L, G⟩
  case round =>
    clear R L G
    obtain ⟨i, hi, hgg, rfl, R, L, G⟩ := hrel
    by_cases hlt : i < 8
    · have hx := HX.out i hlt
      have k0 := HK.out i hlt
      have v0 := HV.out i hlt
      have nx := NX.out hlt
      generalize t.k i = x at hx k0 nx
      generalize t.v i = y at hx v0 nx
      obtain ⟨a, rfl⟩ : ∃ a : Nat, (a : Int) = x := ⟨x.toNat, by omega⟩
      obtain ⟨b, rfl⟩ : ∃ b : Nat, (b : Int) = y := ⟨y.toNat, by omega⟩
      rw [Int.toNat_natCast, Int.toNat_natCast] at nx
      have NX1 : Hid _ := nx
      clear nx
      have ex1 : IntKind.u64.wrap (a : Int) = a := by rw [IntKind.wrap_u64]; omega
      have ey1 : IntKind.u64.wrap (b : Int) = b := by rw [IntKind.wrap_u64]; omega
      have i1 : (i : Int) < 8 := by omega
      have i0 : (0 : Int) ≤ (i : Int) := by omega
      have i2 : 2 * (i : Int) < 17 := by omega
      have i3 : 2 * (i : Int) + 1 < 17 := by omega
      have i4 : (0 : Int) ≤ 2 * (i : Int) := by omega
      have i5 : (0 : Int) ≤ 2 * (i : Int) + 1 := by omega
      have ls : n + 2 < wr.heap.size := L.out.lt
      have R1 : Hid (Bo (wr.alloc (.cells #[.int .i64 a, .int .i64 b] 172)) (n + 1) (wl wz)) := R.out.new _
      have L1 : Hid (Bo (wr.alloc (.cells #[.int .i64 a, .int .i64 b] 172)) (n + 2) (wl (twp t i))) := L.out.new _
      have G1 : Hid (Gd n w (wr.alloc (.cells #[.int .i64 a, .int .i64 b] 172))) := G.out.new _
      have S1 : Hid (Bo (wr.alloc (.cells #[.int .i64 a, .int .i64 b] 172)) wr.heap.size [.int .i64 a, .int .i64 b]) := Bo.born wr [.int .i64 a, .int .i64 b] _ rfl
      clear R L G k0 v0
      go_wp2_with fail
      generalize wr.alloc (.cells #[.int .i64 a, .int .i64 b] 172) = V at R1 L1 G1 S1 ⊢
      have c0 := L1.out.word (show 2 * i < 17 by omega)
      have c1 := L1.out.word (show 2 * i + 1 < 17 by omega)
      have f0 := L1.out.froz (2 * i)
      have f1 := L1.out.froz (2 * i + 1)
      have s0 := S1.out.at 0 rfl
      have s1 := S1.out.at 1 rfl
      have ne : wr.heap.size ≠ n + 2 := by omega
      generalize wr.heap.size = q at S1 s0 s1 ne ⊢
      go_region
      all_goals go_wp2
      all_goals go_roundg (8 - (i + 1))
      case measure => omega
      case rel => exact ⟨i + 1, by omega, by omega, by go_num, (R1.out.drew.aside (show n + 1 ≠ n + 2 by omega) _).aside (show n + 1 ≠ n + 2 by omega) _, by rw [← NX1.out]; exact (L1.out.drew.setw a (by omega)).setw b (by omega), (G1.out.drew.aside (show n ≤ n + 2 by omega) _).aside (show n ≤ n + 2 by omega) _⟩
    · have ei : i = 8 := by omega
      subst ei
      rw [AL.out] at L
      clear hlt
      go_wp2_with (first
        | (refine wpList_load_mid rfl 119 _ rfl (n + 2) _ rfl (wl (tw t)) _ L.out.range HC.out rfl (HCS.out (tw t)) ?_)
        | (refine wpList_store_mid rfl 119 _ _ rfl (n + 1) _ (wl (tw t)).toArray rfl rfl (R.out.thereW (tw t)) (HCZ.out (tw t)) (wl_all (tw t)) ?_
           have R1 : Hid (Bo (wr.setCells (n + 1) 0 (wl (tw t))) (n + 1) (wl (tw t))) := R.out.setW (tw t)
           have G1 : Hid (Gd n w (wr.setCells (n + 1) 0 (wl (tw t)))) := G.out.asideL (by omega) _ _
           clear R G L
           generalize wr.setCells (n + 1) 0 (wl (tw t)) = V at R1 G1 ⊢))
      exact bodyPost_ret (results_row Tryz.results127 _ _ (n + 1) (wl (tw t)) _ rfl R1.out.range HC.out rfl (HCS.out (tw t))) rfl ⟨rfl, G1.out.2⟩
end Go.Proofs.YteogbpaaacmllaaGreatDoor.Tab
namespace Go.Proofs.YteogbpaaacmllaaGreatDoor.Tab
set_option maxRecDepth 20000
open Go.RowKit
set_option linter.unusedVariables false

set_option maxHeartbeats 4000000 in
theorem withTable_is {c : Nat → Nat} {u : Tb} {o k x cc y : Int} (hc : ∀ j, j < 16 → c j ≤ 4294967295) (hu : tdo (tbl c) o k x = (u, cc, y)) (hk : ∀ i, i < 8 → 0 ≤ u.k i ∧ u.k i ≤ 4294967295) (hv : ∀ i, i < 8 → 0 ≤ u.v i ∧ u.v i ≤ 4294967295) (w : World) :
    Calls Tryz.prog 112 #[.agg (wl c).toArray, .agg #[.int .i64 o, .int .i64 k, .int .i64 x]] w (fun e w' => e = .returned (.tuple #[.agg (wl (tw u)).toArray, .agg #[.int .i64 cc, .int .i64 y]]) ∧ Below w.heap.size w w') := by
  have S : Hid (∀ w : World, _) := fun w => slots_is c hc w
  have D : Hid (∀ w : World, Calls Tryz.prog 126 #[.agg (tbl c).all.toArray, .agg #[.int .i64 o, .int .i64 k, .int .i64 x]] w fun e w' => e = .returned (.tuple #[.agg u.all.toArray, .agg #[.int .i64 cc, .int .i64 y]]) ∧ Below w.heap.size w w') := fun w => by have := tDo_eq (tbl c) o k x w; rw [hu] at this; exact this
  have TW : Hid (∀ w : World, _) := fun w => tableWords_is u hk hv w
  generalize tbl c = t0 at *
  clear hc hu hk hv
  have hM : Hid _ := (((((Ms.nil w).born (wl c) 119 (b := w.heap.size) rfl).born [.int .i64 o, .int .i64 k, .int .i64 x] 44 (b := w.heap.size + 1) (by simp)).bornR wz_all.symm 119 (b := w.heap.size + 2) (by simp)).born [.int .i64 0, .int .i64 0] 58 (b := w.heap.size + 3) (by simp))
  go_enter Tryz.func112, Tryz.ntmps112
  go_wp2_with fail
  generalize World.alloc _ _ = W at hM ⊢
  generalize hsz : w.heap.size = n at hM ⊢
  clear hsz
  go_cut [6, 7] (fun s6 s7 wx => ∃ bz6 bz7 : Nat, s6 = .pointer (some ⟨bz6, 0, none⟩) ∧ s7 = .pointer (some ⟨bz7, 0, none⟩) ∧ Hid (Ms n w wx [((n + 2), (wl wz)), ((n + 3), [.int .i64 0, .int .i64 0]), (bz6, u.all), (bz7, [.int .i64 cc, .int .i64 y])] []))
  case first =>
    replace hM := hid (hM.out.drew)
    refine wp_region_held_drew (S := fun w' => Bo w' n (wl c) ∧ Bo w' (n + 1) [.int .i64 o, .int .i64 k, .int .i64 x]) (by kernel_rfl) ⟨hM.out.at 3 rfl, hM.out.at 2 rfl⟩ (fun hH => ?_)
    generalize World.drew _ = W at hM hH  ⊢
    refine tkR 0 rfl hH (fun _ h => h.1) (rwC c) ?_
    simp only [Act.put, p1, p2, p3]
    refine tk 2 rfl hH ?_ (by intro w h; have c0 := h.2.at 0 rfl; have c1 := h.2.at 1 rfl; have c2 := h.2.at 2 rfl; clear h; go_simp; try with_reducible rfl)
    simp only [Act.put, p1, p2, p3]
    refine rdn [1, 7, 8] ?_
    refine rdc rfl (fun K hK => ?_) ?_
    · go_simp
      refine (S.out _).mono ?_
      rintro e W ⟨rfl, hb⟩
      replace hM := hid (hM.out.later hb)
      clear hb
      go_wp2_with fail
      refine hK.out _ _ ⟨hM.out.at 3 rfl, hM.out.at 2 rfl⟩ (fun hH => ?_)
      clear hK K
      try simp only [Act.put, p1, p2, p3]
      refine rdn [3, 7, 8] ?_
      refine rdc rfl (fun K hK => ?_) ?_
      · go_simp
        refine (D.out _).mono ?_
        rintro e W ⟨rfl, hb⟩
        replace hM := hid (hM.out.later hb)
        clear hb
        go_wp2_with fail
        refine hK.out _ _ ⟨hM.out.at 3 rfl, hM.out.at 2 rfl⟩ (fun hH => ?_)
        clear hK K
        try simp only [Act.put, p1, p2, p3]
        refine tk 4 rfl hH ?_
        simp only [Act.put, p1, p2, p3]
        refine tk 5 rfl hH ?_
        simp only [Act.put, p1, p2, p3]
        refine tk 6 rfl hH ?_
        simp only [Act.put, p1, p2, p3]
        refine rdn [7, 8] ?_
        refine rdc rfl (fun K hK => ?_) ?_
        · go_simp
          replace hM := hid (hM.out.bornR Tb.zero_all.symm 174 rfl)
          refine hK.out _ _ ⟨hM.out.at 4 rfl, hM.out.at 3 rfl⟩ (fun hH => ?_)
          clear hK K
          generalize W.heap.size = bq1 at hM hH ⊢
          generalize World.alloc _ _ = W at hM hH  ⊢
          try simp only [Act.put, p1, p2, p3]
          refine rd1 8 rfl (fun K hK => ?_)
          go_simp
          replace hM := hid (hM.out.born [.int .i64 0, .int .i64 0] 58 rfl)
          refine hK.out _ _ ⟨hM.out.at 5 rfl, hM.out.at 4 rfl⟩ (fun hH => ?_)
          clear hK K
          generalize W.heap.size = bq2 at hM hH ⊢
          generalize World.alloc _ _ = W at hM hH  ⊢
          try simp only [Act.put, p1, p2, p3]
          refine rd1 9 rfl (fun K hK => ?_)
          refine stR rfl (hM.out.at 1 rfl) ((rwS Tb.zero).len (rwS u)) (rwS u) ?_
          simp only [Act.put]
          replace hM := hid (hM.out.put 1 rfl u.all ((rwS Tb.zero).len (rwS u)))
          refine hK.out _ _ ⟨hM.out.at 5 rfl, hM.out.at 4 rfl⟩ (fun hH => ?_)
          clear hK K
          generalize World.setCells _ _ _ _ = W at hM hH ⊢
          try simp only [Act.put, p1, p2, p3]
          refine rd1 10 rfl (fun K hK => ?_)
          refine stR rfl (hM.out.at 0 rfl) ((rwA 0 0).len (rwA cc y)) (rwA cc y) ?_
          simp only [Act.put]
          replace hM := hid (hM.out.put 0 rfl [.int .i64 cc, .int .i64 y] ((rwA 0 0).len (rwA cc y)))
          refine hK.out _ _ ⟨hM.out.at 5 rfl, hM.out.at 4 rfl⟩ (fun hH => ?_)
          clear hK K
          generalize World.setCells _ _ _ _ = W at hM hH ⊢
          try simp only [Act.put, p1, p2, p3]
          refine wpAnyH_done (by kernel_rfl) ?_ _
          go_wp2_with fail
          go_meet
          case rel => exact ⟨bq1, bq2, rfl, rfl, (hM.out.pick [3, 2, 1, 0]).pickL []⟩
        refine rdc rfl (fun K hK => ?_) AllReadyH.nil
        go_simp
        replace hM := hid (hM.out.born [.int .i64 0, .int .i64 0] 58 rfl)
        refine hK.out _ _ ⟨hM.out.at 4 rfl, hM.out.at 3 rfl⟩ (fun hH => ?_)
        clear hK K
        generalize W.heap.size = bq1 at hM hH ⊢
        generalize World.alloc _ _ = W at hM hH  ⊢
        try simp only [Act.put, p1, p2, p3]
        refine rd1 7 rfl (fun K hK => ?_)
        go_simp
        replace hM := hid (hM.out.bornR Tb.zero_all.symm 174 rfl)
        refine hK.out _ _ ⟨hM.out.at 5 rfl, hM.out.at 4 rfl⟩ (fun hH => ?_)
        clear hK K
        generalize W.heap.size = bq2 at hM hH ⊢
        generalize World.alloc _ _ = W at hM hH  ⊢
        try simp only [Act.put, p1, p2, p3]
        refine rd1 9 rfl (fun K hK => ?_)
        refine stR rfl (hM.out.at 0 rfl) ((rwS Tb.zero).len (rwS u)) (rwS u) ?_
        simp only [Act.put]
        replace hM := hid (hM.out.put 0 rfl u.all ((rwS Tb.zero).len (rwS u)))
        refine hK.out _ _ ⟨hM.out.at 5 rfl, hM.out.at 4 rfl⟩ (fun hH => ?_)
        clear hK K
        generalize World.setCells _ _ _ _ = W at hM hH ⊢
        try simp only [Act.put, p1, p2, p3]
        refine rd1 10 rfl (fun K hK => ?_)
        refine stR rfl (hM.out.at 1 rfl) ((rwA 0 0).len (rwA cc y)) (rwA cc y) ?_
        simp only [Act.put]
        replace hM := hid (hM.out.put 1 rfl [.int .i64 cc, .int .i64 y] ((rwA 0 0).len (rwA cc y)))
        refine hK.out _ _ ⟨hM.out.at 5 rfl, hM.out.at 4 rfl⟩ (fun hH => ?_)
        clear hK K
        generalize World.setCells _ _ _ _ = W at hM hH ⊢
        try simp only [Act.put, p1, p2, p3]
        refine wpAnyH_done (by kernel_rfl) ?_ _
        go_wp2_with fail
        go_meet
        case rel => exact ⟨bq2, bq1, rfl, rfl, (hM.out.pick [3, 2, 0, 1]).pickL []⟩
      refine rdc rfl (fun K hK => ?_) ?_
      · go_simp
        replace hM := hid (hM.out.bornR Tb.zero_all.symm 174 rfl)
        refine hK.out _ _ ⟨hM.out.at 4 rfl, hM.out.at 3 rfl⟩ (fun hH => ?_)
        clear hK K
        generalize W.heap.size = bq1 at hM hH ⊢
        generalize World.alloc _ _ = W at hM hH  ⊢
        try simp only [Act.put, p1, p2, p3]
        refine rdn [3, 8] ?_
        refine rdc rfl (fun K hK => ?_) ?_
        · go_simp
          refine (D.out _).mono ?_
          rintro e W ⟨rfl, hb⟩
          replace hM := hid (hM.out.later hb)
          clear hb
          go_wp2_with fail
          refine hK.out _ _ ⟨hM.out.at 4 rfl, hM.out.at 3 rfl⟩ (fun hH => ?_)
          clear hK K
          try simp only [Act.put, p1, p2, p3]
          refine tk 4 rfl hH ?_
          simp only [Act.put, p1, p2, p3]
          refine tk 5 rfl hH ?_
          simp only [Act.put, p1, p2, p3]
          refine tk 6 rfl hH ?_
          simp only [Act.put, p1, p2, p3]
          refine rd1 8 rfl (fun K hK => ?_)
          go_simp
          replace hM := hid (hM.out.born [.int .i64 0, .int .i64 0] 58 rfl)
          refine hK.out _ _ ⟨hM.out.at 5 rfl, hM.out.at 4 rfl⟩ (fun hH => ?_)
          clear hK K
          generalize W.heap.size = bq2 at hM hH ⊢
          generalize World.alloc _ _ = W at hM hH  ⊢
          try simp only [Act.put, p1, p2, p3]
          refine rd1 9 rfl (fun K hK => ?_)
          refine stR rfl (hM.out.at 1 rfl) ((rwS Tb.zero).len (rwS u)) (rwS u) ?_
          simp only [Act.put]
          replace hM := hid (hM.out.put 1 rfl u.all ((rwS Tb.zero).len (rwS u)))
          refine hK.out _ _ ⟨hM.out.at 5 rfl, hM.out.at 4 rfl⟩ (fun hH => ?_)
          clear hK K
          generalize World.setCells _ _ _ _ = W at hM hH ⊢
          try simp only [Act.put, p1, p2, p3]
          refine rd1 10 rfl (fun K hK => ?_)
          refine stR rfl (hM.out.at 0 rfl) ((rwA 0 0).len (rwA cc y)) (rwA cc y) ?_
          simp only [Act.put]
          replace hM := hid (hM.out.put 0 rfl [.int .i64 cc, .int .i64 y] ((rwA 0 0).len (rwA cc y)))
          refine hK.out _ _ ⟨hM.out.at 5 rfl, hM.out.at 4 rfl⟩ (fun hH => ?_)
          clear hK K
          generalize World.setCells _ _ _ _ = W at hM hH ⊢
          try simp only [Act.put, p1, p2, p3]
          refine wpAnyH_done (by kernel_rfl) ?_ _
          go_wp2_with fail
          go_meet
          case rel => exact ⟨bq1, bq2, rfl, rfl, (hM.out.pick [3, 2, 1, 0]).pickL []⟩
        refine rdc rfl (fun K hK => ?_) AllReadyH.nil
        go_simp
        replace hM := hid (hM.out.born [.int .i64 0, .int .i64 0] 58 rfl)
        refine hK.out _ _ ⟨hM.out.at 5 rfl, hM.out.at 4 rfl⟩ (fun hH => ?_)
        clear hK K
        generalize W.heap.size = bq2 at hM hH ⊢
        generalize World.alloc _ _ = W at hM hH  ⊢
        try simp only [Act.put, p1, p2, p3]
        refine rd1 3 rfl (fun K hK => ?_)
        go_simp
        refine (D.out _).mono ?_
        rintro e W ⟨rfl, hb⟩
        replace hM := hid (hM.out.later hb)
        clear hb
        go_wp2_with fail
        refine hK.out _ _ ⟨hM.out.at 5 rfl, hM.out.at 4 rfl⟩ (fun hH => ?_)
        clear hK K
        try simp only [Act.put, p1, p2, p3]
        refine tk 4 rfl hH ?_
        simp only [Act.put, p1, p2, p3]
        refine tk 5 rfl hH ?_
        simp only [Act.put, p1, p2, p3]
        refine tk 6 rfl hH ?_
        simp only [Act.put, p1, p2, p3]
        refine rd1 9 rfl (fun K hK => ?_)
        refine stR rfl (hM.out.at 1 rfl) ((rwS Tb.zero).len (rwS u)) (rwS u) ?_
        simp only [Act.put]
        replace hM := hid (hM.out.put 1 rfl u.all ((rwS Tb.zero).len (rwS u)))
        refine hK.out _ _ ⟨hM.out.at 5 rfl, hM.out.at 4 rfl⟩ (fun hH => ?_)
        clear hK K
        generalize World.setCells _ _ _ _ = W at hM hH ⊢
        try simp only [Act.put, p1, p2, p3]
        refine rd1 10 rfl (fun K hK => ?_)
        refine stR rfl (hM.out.at 0 rfl) ((rwA 0 0).len (rwA cc y)) (rwA cc y) ?_
        simp only [Act.put]
        replace hM := hid (hM.out.put 0 rfl [.int .i64 cc, .int .i64 y] ((rwA 0 0).len (rwA cc y)))
        refine hK.out _ _ ⟨hM.out.at 5 rfl, hM.out.at 4 rfl⟩ (fun hH => ?_)
        clear hK K
        generalize World.setCells _ _ _ _ = W at hM hH ⊢
        try simp only [Act.put, p1, p2, p3]
        refine wpAnyH_done (by kernel_rfl) ?_ _
        go_wp2_with fail
        go_meet
        case rel => exact ⟨bq1, bq2, rfl, rfl, (hM.out.pick [3, 2, 1, 0]).pickL []⟩
      refine rdc rfl (fun K hK => ?_) AllReadyH.nil
      go_simp
      replace hM := hid (hM.out.born [.int .i64 0, .int .i64 0] 58 rfl)
      refine hK.out _ _ ⟨hM.out.at 4 rfl, hM.out.at 3 rfl⟩ (fun hH => ?_)
      clear hK K
      generalize W.heap.size = bq1 at hM hH ⊢
      generalize World.alloc _ _ = W at hM hH  ⊢
      try simp only [Act.put, p1, p2, p3]
      refine rdn [3, 7] ?_
      refine rdc rfl (fun K hK => ?_) ?_
      · go_simp
        refine (D.out _).mono ?_
        rintro e W ⟨rfl, hb⟩
        replace hM := hid (hM.out.later hb)
        clear hb
        go_wp2_with fail
        refine hK.out _ _ ⟨hM.out.at 4 rfl, hM.out.at 3 rfl⟩ (fun hH => ?_)
        clear hK K
        try simp only [Act.put, p1, p2, p3]
        refine tk 4 rfl hH ?_
        simp only [Act.put, p1, p2, p3]
        refine tk 5 rfl hH ?_
        simp only [Act.put, p1, p2, p3]
        refine tk 6 rfl hH ?_
        simp only [Act.put, p1, p2, p3]
        refine rd1 7 rfl (fun K hK => ?_)
        go_simp
        replace hM := hid (hM.out.bornR Tb.zero_all.symm 174 rfl)
        refine hK.out _ _ ⟨hM.out.at 5 rfl, hM.out.at 4 rfl⟩ (fun hH => ?_)
        clear hK K
        generalize W.heap.size = bq2 at hM hH ⊢
        generalize World.alloc _ _ = W at hM hH  ⊢
        try simp only [Act.put, p1, p2, p3]
        refine rd1 9 rfl (fun K hK => ?_)
        refine stR rfl (hM.out.at 0 rfl) ((rwS Tb.zero).len (rwS u)) (rwS u) ?_
        simp only [Act.put]
        replace hM := hid (hM.out.put 0 rfl u.all ((rwS Tb.zero).len (rwS u)))
        refine hK.out _ _ ⟨hM.out.at 5 rfl, hM.out.at 4 rfl⟩ (fun hH => ?_)
        clear hK K
        generalize World.setCells _ _ _ _ = W at hM hH ⊢
        try simp only [Act.put, p1, p2, p3]
        refine rd1 10 rfl (fun K hK => ?_)
        refine stR rfl (hM.out.at 1 rfl) ((rwA 0 0).len (rwA cc y)) (rwA cc y) ?_
        simp only [Act.put]
        replace hM := hid (hM.out.put 1 rfl [.int .i64 cc, .int .i64 y] ((rwA 0 0).len (rwA cc y)))
        refine hK.out _ _ ⟨hM.out.at 5 rfl, hM.out.at 4 rfl⟩ (fun hH => ?_)
        clear hK K
        generalize World.setCells _ _ _ _ = W at hM hH ⊢
        try simp only [Act.put, p1, p2, p3]
        refine wpAnyH_done (by kernel_rfl) ?_ _
        go_wp2_with fail
        go_meet
        case rel => exact ⟨bq2, bq1, rfl, rfl, (hM.out.pick [3, 2, 0, 1]).pickL []⟩
      refine rdc rfl (fun K hK => ?_) AllReadyH.nil
      go_simp
      replace hM := hid (hM.out.bornR Tb.zero_all.symm 174 rfl)
      refine hK.out _ _ ⟨hM.out.at 5 rfl, hM.out.at 4 rfl⟩ (fun hH => ?_)
      clear hK K
      generalize W.heap.size = bq2 at hM hH ⊢
      generalize World.alloc _ _ = W at hM hH  ⊢
      try simp only [Act.put, p1, p2, p3]
      refine rd1 3 rfl (fun K hK => ?_)
      go_simp
      refine (D.out _).mono ?_
      rintro e W ⟨rfl, hb⟩
      replace hM := hid (hM.out.later hb)
      clear hb
      go_wp2_with fail
      refine hK.out _ _ ⟨hM.out.at 5 rfl, hM.out.at 4 rfl⟩ (fun hH => ?_)
      clear hK K
      try simp only [Act.put, p1, p2, p3]
      refine tk 4 rfl hH ?_
      simp only [Act.put, p1, p2, p3]
      refine tk 5 rfl hH ?_
      simp only [Act.put, p1, p2, p3]
      refine tk 6 rfl hH ?_
      simp only [Act.put, p1, p2, p3]
      refine rd1 9 rfl (fun K hK => ?_)
      refine stR rfl (hM.out.at 0 rfl) ((rwS Tb.zero).len (rwS u)) (rwS u) ?_
      simp only [Act.put]
      replace hM := hid (hM.out.put 0 rfl u.all ((rwS Tb.zero).len (rwS u)))
      refine hK.out _ _ ⟨hM.out.at 5 rfl, hM.out.at 4 rfl⟩ (fun hH => ?_)
      clear hK K
      generalize World.setCells _ _ _ _ = W at hM hH ⊢
      try simp only [Act.put, p1, p2, p3]
      refine rd1 10 rfl (fun K hK => ?_)
      refine stR rfl (hM.out.at 1 rfl) ((rwA 0 0).len (rwA cc y)) (rwA cc y) ?_
      simp only [Act.put]
      replace hM := hid (hM.out.put 1 rfl [.int .i64 cc, .int .i64 y] ((rwA 0 0).len (rwA cc y)))
      refine hK.out _ _ ⟨hM.out.at 5 rfl, hM.out.at 4 rfl⟩ (fun hH => ?_)
      clear hK K
      generalize World.setCells _ _ _ _ = W at hM hH ⊢
      try simp only [Act.put, p1, p2, p3]
      refine wpAnyH_done (by kernel_rfl) ?_ _
      go_wp2_with fail
      go_meet
      case rel => exact ⟨bq2, bq1, rfl, rfl, (hM.out.pick [3, 2, 0, 1]).pickL []⟩
    refine rdc rfl (fun K hK => ?_) ?_
    · go_simp
      replace hM := hid (hM.out.bornR Tb.zero_all.symm 174 rfl)
      refine hK.out _ _ ⟨hM.out.at 4 rfl, hM.out.at 3 rfl⟩ (fun hH => ?_)
      clear hK K
      generalize W.heap.size = bq1 at hM hH ⊢
      generalize World.alloc _ _ = W at hM hH  ⊢
      try simp only [Act.put, p1, p2, p3]
      refine rdn [1, 8] ?_
      refine rdc rfl (fun K hK => ?_) ?_
      · go_simp
        refine (S.out _).mono ?_
        rintro e W ⟨rfl, hb⟩
        replace hM := hid (hM.out.later hb)
        clear hb
        go_wp2_with fail
        refine hK.out _ _ ⟨hM.out.at 4 rfl, hM.out.at 3 rfl⟩ (fun hH => ?_)
        clear hK K
        try simp only [Act.put, p1, p2, p3]
        refine rdn [3, 8] ?_
        refine rdc rfl (fun K hK => ?_) ?_
        · go_simp
          refine (D.out _).mono ?_
          rintro e W ⟨rfl, hb⟩
          replace hM := hid (hM.out.later hb)
          clear hb
          go_wp2_with fail
          refine hK.out _ _ ⟨hM.out.at 4 rfl, hM.out.at 3 rfl⟩ (fun hH => ?_)
          clear hK K
          try simp only [Act.put, p1, p2, p3]
          refine tk 4 rfl hH ?_
          simp only [Act.put, p1, p2, p3]
          refine tk 5 rfl hH ?_
          simp only [Act.put, p1, p2, p3]
          refine tk 6 rfl hH ?_
          simp only [Act.put, p1, p2, p3]
          refine rd1 8 rfl (fun K hK => ?_)
          go_simp
          replace hM := hid (hM.out.born [.int .i64 0, .int .i64 0] 58 rfl)
          refine hK.out _ _ ⟨hM.out.at 5 rfl, hM.out.at 4 rfl⟩ (fun hH => ?_)
          clear hK K
          generalize W.heap.size = bq2 at hM hH ⊢
          generalize World.alloc _ _ = W at hM hH  ⊢
          try simp only [Act.put, p1, p2, p3]
          refine rd1 9 rfl (fun K hK => ?_)
          refine stR rfl (hM.out.at 1 rfl) ((rwS Tb.zero).len (rwS u)) (rwS u) ?_
          simp only [Act.put]
          replace hM := hid (hM.out.put 1 rfl u.all ((rwS Tb.zero).len (rwS u)))
          refine hK.out _ _ ⟨hM.out.at 5 rfl, hM.out.at 4 rfl⟩ (fun hH => ?_)
          clear hK K
          generalize World.setCells _ _ _ _ = W at hM hH ⊢
          try simp only [Act.put, p1, p2, p3]
          refine rd1 10 rfl (fun K hK => ?_)
          refine stR rfl (hM.out.at 0 rfl) ((rwA 0 0).len (rwA cc y)) (rwA cc y) ?_
          simp only [Act.put]
          replace hM := hid (hM.out.put 0 rfl [.int .i64 cc, .int .i64 y] ((rwA 0 0).len (rwA cc y)))
          refine hK.out _ _ ⟨hM.out.at 5 rfl, hM.out.at 4 rfl⟩ (fun hH => ?_)
          clear hK K
          generalize World.setCells _ _ _ _ = W at hM hH ⊢
          try simp only [Act.put, p1, p2, p3]
          refine wpAnyH_done (by kernel_rfl) ?_ _
          go_wp2_with fail
          go_meet
          case rel => exact ⟨bq1, bq2, rfl, rfl, (hM.out.pick [3, 2, 1, 0]).pickL []⟩
        refine rdc rfl (fun K hK => ?_) AllReadyH.nil
        go_simp
        replace hM := hid (hM.out.born [.int .i64 0, .int .i64 0] 58 rfl)
        refine hK.out _ _ ⟨hM.out.at 5 rfl, hM.out.at 4 rfl⟩ (fun hH => ?_)
        clear hK K
        generalize W.heap.size = bq2 at hM hH ⊢
        generalize World.alloc _ _ = W at hM hH  ⊢
        try simp only [Act.put, p1, p2, p3]
        refine rd1 3 rfl (fun K hK => ?_)
        go_simp
        refine (D.out _).mono ?_
        rintro e W ⟨rfl, hb⟩
        replace hM := hid (hM.out.later hb)
        clear hb
        go_wp2_with fail
        refine hK.out _ _ ⟨hM.out.at 5 rfl, hM.out.at 4 rfl⟩ (fun hH => ?_)
        clear hK K
        try simp only [Act.put, p1, p2, p3]
        refine tk 4 rfl hH ?_
        simp only [Act.put, p1, p2, p3]
        refine tk 5 rfl hH ?_
        simp only [Act.put, p1, p2, p3]
        refine tk 6 rfl hH ?_
        simp only [Act.put, p1, p2, p3]
        refine rd1 9 rfl (fun K hK => ?_)
        refine stR rfl (hM.out.at 1 rfl) ((rwS Tb.zero).len (rwS u)) (rwS u) ?_
        simp only [Act.put]
        replace hM := hid (hM.out.put 1 rfl u.all ((rwS Tb.zero).len (rwS u)))
        refine hK.out _ _ ⟨hM.out.at 5 rfl, hM.out.at 4 rfl⟩ (fun hH => ?_)
        clear hK K
        generalize World.setCells _ _ _ _ = W at hM hH ⊢
        try simp only [Act.put, p1, p2, p3]
        refine rd1 10 rfl (fun K hK => ?_)
        refine stR rfl (hM.out.at 0 rfl) ((rwA 0 0).len (rwA cc y)) (rwA cc y) ?_
        simp only [Act.put]
        replace hM := hid (hM.out.put 0 rfl [.int .i64 cc, .int .i64 y] ((rwA 0 0).len (rwA cc y)))
        refine hK.out _ _ ⟨hM.out.at 5 rfl, hM.out.at 4 rfl⟩ (fun hH => ?_)
        clear hK K
        generalize World.setCells _ _ _ _ = W at hM hH ⊢
        try simp only [Act.put, p1, p2, p3]
        refine wpAnyH_done (by kernel_rfl) ?_ _
        go_wp2_with fail
        go_meet
        case rel => exact ⟨bq1, bq2, rfl, rfl, (hM.out.pick [3, 2, 1, 0]).pickL []⟩
      refine rdc rfl (fun K hK => ?_) AllReadyH.nil
      go_simp
      replace hM := hid (hM.out.born [.int .i64 0, .int .i64 0] 58 rfl)
      refine hK.out _ _ ⟨hM.out.at 5 rfl, hM.out.at 4 rfl⟩ (fun hH => ?_)
      clear hK K
      generalize W.heap.size = bq2 at hM hH ⊢
      generalize World.alloc _ _ = W at hM hH  ⊢
      try simp only [Act.put, p1, p2, p3]
      refine rd1 1 rfl (fun K hK => ?_)
      go_simp
      refine (S.out _).mono ?_
      rintro e W ⟨rfl, hb⟩
      replace hM := hid (hM.out.later hb)
      clear hb
      go_wp2_with fail
      refine hK.out _ _ ⟨hM.out.at 5 rfl, hM.out.at 4 rfl⟩ (fun hH => ?_)
      clear hK K
      try simp only [Act.put, p1, p2, p3]
      refine rd1 3 rfl (fun K hK => ?_)
      go_simp
      refine (D.out _).mono ?_
      rintro e W ⟨rfl, hb⟩
      replace hM := hid (hM.out.later hb)
      clear hb
      go_wp2_with fail
      refine hK.out _ _ ⟨hM.out.at 5 rfl, hM.out.at 4 rfl⟩ (fun hH => ?_)
      clear hK K
      try simp only [Act.put, p1, p2, p3]
      refine tk 4 rfl hH ?_
      simp only [Act.put, p1, p2, p3]
      refine tk 5 rfl hH ?_
      simp only [Act.put, p1, p2, p3]
      refine tk 6 rfl hH ?_
      simp only [Act.put, p1, p2, p3]
      refine rd1 9 rfl (fun K hK => ?_)
      refine stR rfl (hM.out.at 1 rfl) ((rwS Tb.zero).len (rwS u)) (rwS u) ?_
      simp only [Act.put]
      replace hM := hid (hM.out.put 1 rfl u.all ((rwS Tb.zero).len (rwS u)))
      refine hK.out _ _ ⟨hM.out.at 5 rfl, hM.out.at 4 rfl⟩ (fun hH => ?_)
      clear hK K
      generalize World.setCells _ _ _ _ = W at hM hH ⊢
      try simp only [Act.put, p1, p2, p3]
      refine rd1 10 rfl (fun K hK => ?_)
      refine stR rfl (hM.out.at 0 rfl) ((rwA 0 0).len (rwA cc y)) (rwA cc y) ?_
      simp only [Act.put]
      replace hM := hid (hM.out.put 0 rfl [.int .i64 cc, .int .i64 y] ((rwA 0 0).len (rwA cc y)))
      refine hK.out _ _ ⟨hM.out.at 5 rfl, hM.out.at 4 rfl⟩ (fun hH => ?_)
      clear hK K
      generalize World.setCells _ _ _ _ = W at hM hH ⊢
      try simp only [Act.put, p1, p2, p3]
      refine wpAnyH_done (by kernel_rfl) ?_ _
      go_wp2_with fail
      go_meet
      case rel => exact ⟨bq1, bq2, rfl, rfl, (hM.out.pick [3, 2, 1, 0]).pickL []⟩
    refine rdc rfl (fun K hK => ?_) AllReadyH.nil
    go_simp
    replace hM := hid (hM.out.born [.int .i64 0, .int .i64 0] 58 rfl)
    refine hK.out _ _ ⟨hM.out.at 4 rfl, hM.out.at 3 rfl⟩ (fun hH => ?_)
    clear hK K
    generalize W.heap.size = bq1 at hM hH ⊢
    generalize World.alloc _ _ = W at hM hH  ⊢
    try simp only [Act.put, p1, p2, p3]
    refine rdn [1, 7] ?_
    refine rdc rfl (fun K hK => ?_) ?_
    · go_simp
      refine (S.out _).mono ?_
      rintro e W ⟨rfl, hb⟩
      replace hM := hid (hM.out.later hb)
      clear hb
      go_wp2_with fail
      refine hK.out _ _ ⟨hM.out.at 4 rfl, hM.out.at 3 rfl⟩ (fun hH => ?_)
      clear hK K
      try simp only [Act.put, p1, p2, p3]
      refine rdn [3, 7] ?_
      refine rdc rfl (fun K hK => ?_) ?_
      · go_simp
        refine (D.out _).mono ?_
        rintro e W ⟨rfl, hb⟩
        replace hM := hid (hM.out.later hb)
        clear hb
        go_wp2_with fail
        refine hK.out _ _ ⟨hM.out.at 4 rfl, hM.out.at 3 rfl⟩ (fun hH => ?_)
        clear hK K
        try simp only [Act.put, p1, p2, p3]
        refine tk 4 rfl hH ?_
        simp only [Act.put, p1, p2, p3]
        refine tk 5 rfl hH ?_
        simp only [Act.put, p1, p2, p3]
        refine tk 6 rfl hH ?_
        simp only [Act.put, p1, p2, p3]
        refine rd1 7 rfl (fun K hK => ?_)
        go_simp
        replace hM := hid (hM.out.bornR Tb.zero_all.symm 174 rfl)
        refine hK.out _ _ ⟨hM.out.at 5 rfl, hM.out.at 4 rfl⟩ (fun hH => ?_)
        clear hK K
        generalize W.heap.size = bq2 at hM hH ⊢
        generalize World.alloc _ _ = W at hM hH  ⊢
        try simp only [Act.put, p1, p2, p3]
        refine rd1 9 rfl (fun K hK => ?_)
        refine stR rfl (hM.out.at 0 rfl) ((rwS Tb.zero).len (rwS u)) (rwS u) ?_
        simp only [Act.put]
        replace hM := hid (hM.out.put 0 rfl u.all ((rwS Tb.zero).len (rwS u)))
        refine hK.out _ _ ⟨hM.out.at 5 rfl, hM.out.at 4 rfl⟩ (fun hH => ?_)
        clear hK K
        generalize World.setCells _ _ _ _ = W at hM hH ⊢
        try simp only [Act.put, p1, p2, p3]
        refine rd1 10 rfl (fun K hK => ?_)
        refine stR rfl (hM.out.at 1 rfl) ((rwA 0 0).len (rwA cc y)) (rwA cc y) ?_
        simp only [Act.put]
        replace hM := hid (hM.out.put 1 rfl [.int .i64 cc, .int .i64 y] ((rwA 0 0).len (rwA cc y)))
        refine hK.out _ _ ⟨hM.out.at 5 rfl, hM.out.at 4 rfl⟩ (fun hH => ?_)
        clear hK K
        generalize World.setCells _ _ _ _ = W at hM hH ⊢
        try simp only [Act.put, p1, p2, p3]
        refine wpAnyH_done (by kernel_rfl) ?_ _
        go_wp2_with fail
        go_meet
        case rel => exact ⟨bq2, bq1, rfl, rfl, (hM.out.pick [3, 2, 0, 1]).pickL []⟩
      refine rdc rfl (fun K hK => ?_) AllReadyH.nil
      go_simp
      replace hM := hid (hM.out.bornR Tb.zero_all.symm 174 rfl)
      refine hK.out _ _ ⟨hM.out.at 5 rfl, hM.out.at 4 rfl⟩ (fun hH => ?_)
      clear hK K
      generalize W.heap.size = bq2 at hM hH ⊢
      generalize World.alloc _ _ = W at hM hH  ⊢
      try simp only [Act.put, p1, p2, p3]
      refine rd1 3 rfl (fun K hK => ?_)
      go_simp
      refine (D.out _).mono ?_
      rintro e W ⟨rfl, hb⟩
      replace hM := hid (hM.out.later hb)
      clear hb
      go_wp2_with fail
      refine hK.out _ _ ⟨hM.out.at 5 rfl, hM.out.at 4 rfl⟩ (fun hH => ?_)
      clear hK K
      try simp only [Act.put, p1, p2, p3]
      refine tk 4 rfl hH ?_
      simp only [Act.put, p1, p2, p3]
      refine tk 5 rfl hH ?_
      simp only [Act.put, p1, p2, p3]
      refine tk 6 rfl hH ?_
      simp only [Act.put, p1, p2, p3]
      refine rd1 9 rfl (fun K hK => ?_)
      refine stR rfl (hM.out.at 0 rfl) ((rwS Tb.zero).len (rwS u)) (rwS u) ?_
      simp only [Act.put]
      replace hM := hid (hM.out.put 0 rfl u.all ((rwS Tb.zero).len (rwS u)))
      refine hK.out _ _ ⟨hM.out.at 5 rfl, hM.out.at 4 rfl⟩ (fun hH => ?_)
      clear hK K
      generalize World.setCells _ _ _ _ = W at hM hH ⊢
      try simp only [Act.put, p1, p2, p3]
      refine rd1 10 rfl (fun K hK => ?_)
      refine stR rfl (hM.out.at 1 rfl) ((rwA 0 0).len (rwA cc y)) (rwA cc y) ?_
      simp only [Act.put]
      replace hM := hid (hM.out.put 1 rfl [.int .i64 cc, .int .i64 y] ((rwA 0 0).len (rwA cc y)))
      refine hK.out _ _ ⟨hM.out.at 5 rfl, hM.out.at 4 rfl⟩ (fun hH => ?_)
      clear hK K
      generalize World.setCells _ _ _ _ = W at hM hH ⊢
      try simp only [Act.put, p1, p2, p3]
      refine wpAnyH_done (by kernel_rfl) ?_ _
      go_wp2_with fail
      go_meet
      case rel => exact ⟨bq2, bq1, rfl, rfl, (hM.out.pick [3, 2, 0, 1]).pickL []⟩
    refine rdc rfl (fun K hK => ?_) AllReadyH.nil
    go_simp
    replace hM := hid (hM.out.bornR Tb.zero_all.symm 174 rfl)
    refine hK.out _ _ ⟨hM.out.at 5 rfl, hM.out.at 4 rfl⟩ (fun hH => ?_)
    clear hK K
    generalize W.heap.size = bq2 at hM hH ⊢
    generalize World.alloc _ _ = W at hM hH  ⊢
    try simp only [Act.put, p1, p2, p3]
    refine rd1 1 rfl (fun K hK => ?_)
    go_simp
    refine (S.out _).mono ?_
    rintro e W ⟨rfl, hb⟩
    replace hM := hid (hM.out.later hb)
    clear hb
    go_wp2_with fail
    refine hK.out _ _ ⟨hM.out.at 5 rfl, hM.out.at 4 rfl⟩ (fun hH => ?_)
    clear hK K
    try simp only [Act.put, p1, p2, p3]
    refine rd1 3 rfl (fun K hK => ?_)
    go_simp
    refine (D.out _).mono ?_
    rintro e W ⟨rfl, hb⟩
    replace hM := hid (hM.out.later hb)
    clear hb
    go_wp2_with fail
    refine hK.out _ _ ⟨hM.out.at 5 rfl, hM.out.at 4 rfl⟩ (fun hH => ?_)
    clear hK K
    try simp only [Act.put, p1, p2, p3]
    refine tk 4 rfl hH ?_
    simp only [Act.put, p1, p2, p3]
    refine tk 5 rfl hH ?_
    simp only [Act.put, p1, p2, p3]
    refine tk 6 rfl hH ?_
    simp only [Act.put, p1, p2, p3]
    refine rd1 9 rfl (fun K hK => ?_)
    refine stR rfl (hM.out.at 0 rfl) ((rwS Tb.zero).len (rwS u)) (rwS u) ?_
    simp only [Act.put]
    replace hM := hid (hM.out.put 0 rfl u.all ((rwS Tb.zero).len (rwS u)))
    refine hK.out _ _ ⟨hM.out.at 5 rfl, hM.out.at 4 rfl⟩ (fun hH => ?_)
    clear hK K
    generalize World.setCells _ _ _ _ = W at hM hH ⊢
    try simp only [Act.put, p1, p2, p3]
    refine rd1 10 rfl (fun K hK => ?_)
    refine stR rfl (hM.out.at 1 rfl) ((rwA 0 0).len (rwA cc y)) (rwA cc y) ?_
    simp only [Act.put]
    replace hM := hid (hM.out.put 1 rfl [.int .i64 cc, .int .i64 y] ((rwA 0 0).len (rwA cc y)))
    refine hK.out _ _ ⟨hM.out.at 5 rfl, hM.out.at 4 rfl⟩ (fun hH => ?_)
    clear hK K
    generalize World.setCells _ _ _ _ = W at hM hH ⊢
    try simp only [Act.put, p1, p2, p3]
    refine wpAnyH_done (by kernel_rfl) ?_ _
    go_wp2_with fail
    go_meet
    case rel => exact ⟨bq2, bq1, rfl, rfl, (hM.out.pick [3, 2, 0, 1]).pickL []⟩
  case rest =>
    obtain ⟨bz6, bz7, rfl, rfl, hM⟩ := hcut
    generalize wc = W at hM ⊢
    go_wp2_with fail
    replace hM := hid (hM.out.drew)
    refine wp_region_held_drew (S := fun w' => Bo w' bz6 u.all ∧ Bo w' bz7 [.int .i64 cc, .int .i64 y]) (by kernel_rfl) ⟨hM.out.at 2 rfl, hM.out.at 3 rfl⟩ (fun hH => ?_)
    generalize World.drew _ = W at hM hH  ⊢
    refine tkR 0 rfl hH (fun _ h => h.1) (rwS u) ?_
    simp only [Act.put, p1, p2, p3]
    refine tk 2 rfl hH ?_ (by intro w h; have c0 := h.2.at 0 rfl; have c1 := h.2.at 1 rfl; clear h; go_simp; try with_reducible rfl)
    simp only [Act.put, p1, p2, p3]
    refine rd1 1 rfl (fun K hK => ?_)
    go_simp
    refine (TW.out _).mono ?_
    rintro e W ⟨rfl, hb⟩
    replace hM := hid (hM.out.later hb)
    clear hb
    go_wp2_with fail
    refine hK.out _ _ ⟨hM.out.at 2 rfl, hM.out.at 3 rfl⟩ (fun hH => ?_)
    clear hK K
    try simp only [Act.put, p1, p2, p3]
    refine rd1 3 rfl (fun K hK => ?_)
    refine stR rfl (hM.out.at 0 rfl) ((rwC wz).len (rwC (tw u))) (rwC (tw u)) ?_
    simp only [Act.put]
    replace hM := hid (hM.out.put 0 rfl (wl (tw u)) ((rwC wz).len (rwC (tw u))))
    refine hK.out _ _ ⟨hM.out.at 2 rfl, hM.out.at 3 rfl⟩ (fun hH => ?_)
    clear hK K
    generalize World.setCells _ _ _ _ = W at hM hH ⊢
    try simp only [Act.put, p1, p2, p3]
    refine rd1 4 rfl (fun K hK => ?_)
    refine stR rfl (hM.out.at 1 rfl) ((rwA 0 0).len (rwA cc y)) (rwA cc y) ?_
    simp only [Act.put]
    replace hM := hid (hM.out.put 1 rfl [.int .i64 cc, .int .i64 y] ((rwA 0 0).len (rwA cc y)))
    refine hK.out _ _ ⟨hM.out.at 2 rfl, hM.out.at 3 rfl⟩ (fun hH => ?_)
    clear hK K
    generalize World.setCells _ _ _ _ = W at hM hH ⊢
    try simp only [Act.put, p1, p2, p3]
    refine wpAnyH_done (by kernel_rfl) ?_ _
    go_wp2
    exact bodyPost_ret (res2 Tryz.results112 (hM.out.at 0 rfl) (rwC (tw u)) (hM.out.at 1 rfl) (rwA _ _)) rfl ⟨rfl, hM.out.below⟩
end Go.Proofs.YteogbpaaacmllaaGreatDoor.Tab
namespace Go.Proofs.YteogbpaaacmllaaGreatDoor.Tab
set_option maxRecDepth 20000
open Go.RowKit

def lwp (l : List Int) (i : Nat) : Nat → Nat := fun j => if j = 0 then l.length else if j ≤ i then (l.getD (j - 1) 0).toNat else 0
theorem lwp_next (l : List Int) (i : Nat) : wl (upw (lwp l i) (1 + i) (l.getD i 0).toNat) = wl (lwp l (i + 1)) := by
  refine wl_congr fun j _ => ?_
  unfold upw lwp
  by_cases e : j = 1 + i
  · subst e
    rw [if_pos rfl, if_neg (by omega), if_pos (by omega), show 1 + i - 1 = i by omega]
  · rw [if_neg e]
    by_cases e0 : j = 0
    · rw [if_pos e0, if_pos e0]
    · rw [if_neg e0, if_neg e0]
      by_cases e1 : j ≤ i
      · rw [if_pos e1, if_pos (by omega)]
      · rw [if_neg e1, if_neg (by omega)]
theorem lwp_all (l : List Int) : wl (lwp l l.length) = wl (lw l) := by
  refine wl_congr fun j _ => ?_
  unfold lwp lw
  by_cases e0 : j = 0
  · rw [if_pos e0, if_pos e0]
  · rw [if_neg e0, if_neg e0]
    by_cases e1 : j ≤ l.length
    · rw [if_pos e1]
    · rw [if_neg e1, List.getD_eq_getElem?_getD, List.getElem?_eq_none (by omega)]; rfl
theorem lwp_zero (l : List Int) : wl (lwp l 0) = [.int .u64 (l.length : Nat), .int .u64 0, .int .u64 0, .int .u64 0, .int .u64 0, .int .u64 0, .int .u64 0, .int .u64 0, .int .u64 0, .int .u64 0, .int .u64 0, .int .u64 0, .int .u64 0, .int .u64 0, .int .u64 0, .int .u64 0, .int .u64 0] := by
  have : wl (lwp l 0) = wl (upw wz 0 l.length) := wl_congr fun j _ => by
    unfold lwp upw wz
    by_cases e0 : j = 0
    · rw [if_pos e0, if_pos e0]
    · rw [if_neg e0, if_neg e0, if_neg (by omega)]
  rw [this]; rfl
theorem w17 (a : Nat) : (#[.int .u64 (a : Nat), .int .u64 0, .int .u64 0, .int .u64 0, .int .u64 0, .int .u64 0, .int .u64 0, .int .u64 0, .int .u64 0, .int .u64 0, .int .u64 0, .int .u64 0, .int .u64 0, .int .u64 0, .int .u64 0, .int .u64 0, .int .u64 0] : Array Value).all (·.oneCell') = true := by simp [Value.oneCell']
set_option maxHeartbeats 2000000 in
theorem listWords_is {B : Nat} {v : Value} {l : List Int} {w : World} (h : IsL B w v l) (h6 : l.length ≤ 6) (hv : ∀ x ∈ l, 0 ≤ x ∧ x ≤ 4294967295) :
    Calls Tryz.prog 119 #[v] w fun e w' => e = .returned (.agg (wl (lw l)).toArray) ∧ Below w.heap.size w w' := by
  obtain ⟨na, ea, hd⟩ := cells_array
  have HD : Hid _ := hd
  clear hd
  have HS : Hid _ := cells_size
  have HZ : Hid _ := cells_size2
  have HZ0 : Hid ((Tryz.prog.info? 119).map (·.size) = some 17) := (by kernel_rfl : (Tryz.prog.info? 119).map (·.size) = some 17)
  obtain ⟨a, k, rfl⟩ := h.form
  have H : Hid (IsL B w (.slice a l.length k) l) := h
  have HL : Hid (∀ i, i < l.length → ∃ b off, a = some ⟨b, off, none⟩ ∧ (∀ W, Below w.heap.size w W → W.cell? ⟨b, off + i, none⟩ = some (.int .i64 ((l.getD i 0).toNat : Nat)))) := fun i hi => by
    rcases h with ⟨rfl, _⟩ | ⟨b, off, c, h1, hB, h0, hc, hcell, _⟩
    · simp at hi
    · injection h1 with h1 _ _
      refine ⟨b, off, h1, fun W hW => ?_⟩
      have hx := hv (l.getD i 0) (by rw [List.getD_eq_getElem?_getD, List.getElem?_eq_getElem hi]; exact List.getElem_mem hi)
      rw [hW.cell (p := ⟨b, off + i, none⟩) (World.block_lt_of_cell? _ _ (hcell i hi)), hcell i hi]
      congr 2; omega
  have HX : Hid (∀ i, i < l.length → (l.getD i 0).toNat ≤ 4294967295) := fun i hi => by
    have hx := hv (l.getD i 0) (by rw [List.getD_eq_getElem?_getD, List.getElem?_eq_getElem hi]; exact List.getElem_mem hi)
    omega
  clear hv
  have G0 : Hid (Gd w.heap.size w (w.alloc (.cells #[.int .u64 0, .int .u64 0, .int .u64 0, .int .u64 0, .int .u64 0, .int .u64 0, .int .u64 0, .int .u64 0, .int .u64 0, .int .u64 0, .int .u64 0, .int .u64 0, .int .u64 0, .int .u64 0, .int .u64 0, .int .u64 0, .int .u64 0] 119))) := (Gd.refl w).new _
  have T0 : Hid (Bo (w.alloc (.cells #[.int .u64 0, .int .u64 0, .int .u64 0, .int .u64 0, .int .u64 0, .int .u64 0, .int .u64 0, .int .u64 0, .int .u64 0, .int .u64 0, .int .u64 0, .int .u64 0, .int .u64 0, .int .u64 0, .int .u64 0, .int .u64 0, .int .u64 0] 119)) w.heap.size (wl wz)) := Bo.born w (wl wz) _ rfl
  clear h
  have ew1 : IntKind.u64.wrap (l.length : Int) = l.length := by rw [IntKind.wrap_u64]; omega
  generalize hN : l.length = N at *
  have HN : Hid (l.length = N) := hN
  clear hN
  go_enter Tryz.func119, Tryz.ntmps119
  go_wp2_with (first
    | (have T1 : Hid (Bo ((w.alloc (.cells #[.int .u64 0, .int .u64 0, .int .u64 0, .int .u64 0, .int .u64 0, .int .u64 0, .int .u64 0, .int .u64 0, .int .u64 0, .int .u64 0, .int .u64 0, .int .u64 0, .int .u64 0, .int .u64 0, .int .u64 0, .int .u64 0, .int .u64 0] 119)).alloc (.cells #[.int .u64 0, .int .u64 0, .int .u64 0, .int .u64 0, .int .u64 0, .int .u64 0, .int .u64 0, .int .u64 0, .int .u64 0, .int .u64 0, .int .u64 0, .int .u64 0, .int .u64 0, .int .u64 0, .int .u64 0, .int .u64 0, .int .u64 0] 119)) (w.heap.size + 1) (wl wz)) := Bo.born _ (wl wz) _ (by simp)
       have T0' : Hid (Bo ((w.alloc (.cells #[.int .u64 0, .int .u64 0, .int .u64 0, .int .u64 0, .int .u64 0, .int .u64 0, .int .u64 0, .int .u64 0, .int .u64 0, .int .u64 0, .int .u64 0, .int .u64 0, .int .u64 0, .int .u64 0, .int .u64 0, .int .u64 0, .int .u64 0] 119)).alloc (.cells #[.int .u64 0, .int .u64 0, .int .u64 0, .int .u64 0, .int .u64 0, .int .u64 0, .int .u64 0, .int .u64 0, .int .u64 0, .int .u64 0, .int .u64 0, .int .u64 0, .int .u64 0, .int .u64 0, .int .u64 0, .int .u64 0, .int .u64 0] 119)) w.heap.size (wl wz)) := T0.out.new _
       have G1 : Hid (Gd w.heap.size w ((w.alloc (.cells #[.int .u64 0, .int .u64 0, .int .u64 0, .int .u64 0, .int .u64 0, .int .u64 0, .int .u64 0, .int .u64 0, .int .u64 0, .int .u64 0, .int .u64 0, .int .u64 0, .int .u64 0, .int .u64 0, .int .u64 0, .int .u64 0, .int .u64 0] 119)).alloc (.cells #[.int .u64 0, .int .u64 0, .int .u64 0, .int .u64 0, .int .u64 0, .int .u64 0, .int .u64 0, .int .u64 0, .int .u64 0, .int .u64 0, .int .u64 0, .int .u64 0, .int .u64 0, .int .u64 0, .int .u64 0, .int .u64 0, .int .u64 0] 119))) := G0.out.new _
       clear T0 G0
       generalize ((w.alloc (.cells #[.int .u64 0, .int .u64 0, .int .u64 0, .int .u64 0, .int .u64 0, .int .u64 0, .int .u64 0, .int .u64 0, .int .u64 0, .int .u64 0, .int .u64 0, .int .u64 0, .int .u64 0, .int .u64 0, .int .u64 0, .int .u64 0, .int .u64 0] 119)).alloc (.cells #[.int .u64 0, .int .u64 0, .int .u64 0, .int .u64 0, .int .u64 0, .int .u64 0, .int .u64 0, .int .u64 0, .int .u64 0, .int .u64 0, .int .u64 0, .int .u64 0, .int .u64 0, .int .u64 0, .int .u64 0, .int .u64 0, .int .u64 0] 119)) = W at T1 T0' G1 ⊢
       refine wpList_store_mid rfl 119 _ _ rfl (w.heap.size + 1) _ #[.int .u64 (N : Nat), .int .u64 0, .int .u64 0, .int .u64 0, .int .u64 0, .int .u64 0, .int .u64 0, .int .u64 0, .int .u64 0, .int .u64 0, .int .u64 0, .int .u64 0, .int .u64 0, .int .u64 0, .int .u64 0, .int .u64 0, .int .u64 0] rfl rfl (T1.out.thereL (by rw [wl_length]; rfl)) HZ0.out (w17 N) ?_
       have T2 : Hid (Bo (W.setCells (w.heap.size + 1) 0 [.int .u64 (N : Nat), .int .u64 0, .int .u64 0, .int .u64 0, .int .u64 0, .int .u64 0, .int .u64 0, .int .u64 0, .int .u64 0, .int .u64 0, .int .u64 0, .int .u64 0, .int .u64 0, .int .u64 0, .int .u64 0, .int .u64 0, .int .u64 0]) (w.heap.size + 1) (wl (lwp l 0))) := by
         have e := lwp_zero l; rw [HN.out] at e; rw [e]; exact T1.out.setL (by rw [wl_length]; rfl)
       have T3 : Hid (Bo (W.setCells (w.heap.size + 1) 0 [.int .u64 (N : Nat), .int .u64 0, .int .u64 0, .int .u64 0, .int .u64 0, .int .u64 0, .int .u64 0, .int .u64 0, .int .u64 0, .int .u64 0, .int .u64 0, .int .u64 0, .int .u64 0, .int .u64 0, .int .u64 0, .int .u64 0, .int .u64 0]) w.heap.size (wl wz)) := T0'.out.asideL (by omega) _ _
       have G2 : Hid (Gd w.heap.size w (W.setCells (w.heap.size + 1) 0 [.int .u64 (N : Nat), .int .u64 0, .int .u64 0, .int .u64 0, .int .u64 0, .int .u64 0, .int .u64 0, .int .u64 0, .int .u64 0, .int .u64 0, .int .u64 0, .int .u64 0, .int .u64 0, .int .u64 0, .int .u64 0, .int .u64 0, .int .u64 0])) := G1.out.asideL (by omega) _ _
       clear T1 T0' G1
       generalize W.setCells (w.heap.size + 1) 0 [.int .u64 (N : Nat), .int .u64 0, .int .u64 0, .int .u64 0, .int .u64 0, .int .u64 0, .int .u64 0, .int .u64 0, .int .u64 0, .int .u64 0, .int .u64 0, .int .u64 0, .int .u64 0, .int .u64 0, .int .u64 0, .int .u64 0, .int .u64 0] = U at T2 T3 G2 ⊢))
  generalize hsz : w.heap.size = n at T2 T3 G2 ⊢
  have HSZ : Hid (w.heap.size = n) := hsz
  clear hsz
  go_loopg [12] N (fun gg s12 wt => ∃ i : Nat, i ≤ N ∧ N - i ≤ gg ∧ s12 = .int .i64 i ∧ Hid (Bo wt (n + 1) (wl (lwp l i))) ∧ Hid (Bo wt n (wl wz)) ∧ Hid (Gd n w wt))
  case atStart => exact ⟨0, by omega, by omega, rfl, T2, T3, G2⟩
  case round =>
    clear T2 T3 G2
    obtain ⟨i, hi, hgg, rfl, T, S, G⟩ := hrel
    by_cases hlt : i < N
    · obtain ⟨b, off, rfl, hc⟩ := HL.out i hlt
      have c0 := hc wr G.out.2
      have NX : Hid _ := lwp_next l i
      have c1 := T.out.word (show 1 + i < 17 by omega)
      have f1 := T.out.froz (1 + i)
      have j1 : 1 + (i : Int) < 17 := by omega
      have j0 : (0 : Int) ≤ 1 + (i : Int) := by omega
      have i1 : (i : Int) < (N : Int) := by omega
      have i0 : (0 : Int) ≤ (i : Int) := by omega
      have T1 : Hid (Bo (wr.setCell ⟨n + 1, 1 + i, none⟩ (.int .u64 ((l.getD i 0).toNat : Nat))) (n + 1) (wl (lwp l (i + 1)))) := by
        rw [← NX.out]; exact T.out.setw _ (by omega)
      have S1 : Hid (Bo (wr.setCell ⟨n + 1, 1 + i, none⟩ (.int .u64 ((l.getD i 0).toNat : Nat))) n (wl wz)) := S.out.aside (by simp) _
      have G1 : Hid (Gd n w (wr.setCell ⟨n + 1, 1 + i, none⟩ (.int .u64 ((l.getD i 0).toNat : Nat)))) := G.out.aside (by simp) _
      clear hc NX T S G
      generalize lwp l i (1 + i) = z at c1
      have hx : (l.getD i 0).toNat ≤ 4294967295 := HX.out i (by omega)
      generalize (l.getD i 0).toNat = x at c0 T1 S1 G1 hx
      have ew2 : IntKind.u64.wrap (x : Int) = x := by rw [IntKind.wrap_u64]; omega
      go_wp2
      go_roundg (N - (i + 1))
      case measure => omega
      case rel => exact ⟨i + 1, by omega, by omega, by go_num, T1, S1, G1⟩
    · have ei : i = N := by omega
      have LA := lwp_all l
      rw [HN.out, ← ei] at LA
      rw [LA] at T
      clear LA
      go_wp2_with (first
        | (refine wpList_load_mid rfl 119 _ rfl (n + 1) _ rfl (wl (lw l)) _ T.out.range HD.out rfl (HS.out (lw l)) ?_)
        | (refine wpList_store_mid rfl 119 _ _ rfl n _ (wl (lw l)).toArray rfl rfl (S.out.thereW (lw l)) (HZ.out (lw l)) (wl_all (lw l)) ?_
           have S1 : Hid (Bo (wr.setCells n 0 (wl (lw l))) n (wl (lw l))) := S.out.setW (lw l)
           have G1 : Hid (Gd n w (wr.setCells n 0 (wl (lw l)))) := G.out.asideL (by omega) _ _
           clear T S G
           generalize wr.setCells n 0 (wl (lw l)) = V at S1 G1 ⊢))
      exact bodyPost_ret (results_row Tryz.results119 _ _ n (wl (lw l)) _ rfl S1.out.range HD.out rfl (HS.out (lw l))) rfl ⟨rfl, G1.out.2⟩
end Go.Proofs.YteogbpaaacmllaaGreatDoor.Tab
