/- BatchDoes is proved: for every record and every list of asks the call returns true (any record with any asks done is the document's answer); the library's handle of the type error stands as the program's text lays it. -/
import Derived.Test.YteogbpaaacmllaaGreatDoorRows
import Derived.Test.YteogbpaaacmllaaGreatDoorPk13
import Derived.Test.YteogbpaaacmllaaGreatDoorPk14
import Derived.Test.YteogbpaaacmllaaGreatDoorPk12
import Derived.Test.YteogbpaaacmllaaGreatDoorCards
import Derived.Deep.DeepCutAuto
import Derived.Deep.RegionHeld3
import Derived.SevenTiedAt

namespace Go.Proofs.YteogbpaaacmllaaGreatDoor.Tab.batchDoes
set_option maxRecDepth 20000
open Go.ChangeShapes Go.WideShapes Go.ChangeAt Go.RowKit
set_option linter.unusedVariables false

set_option maxHeartbeats 16000000 in
set_option maxRecDepth 20000 in
theorem walk (r : Nat → Nat) (v1 : Value) (n1 : Nat) (q : Nat → AK) (U : ∀ j, j < 32 → r j < 18446744073709551616) (w : World) (hT : HandleAt w) (D : Aq w v1 n1 q) :
    Calls Tryz.prog 3 #[.agg (rl r).toArray, v1] w fun e w' => e = .returned (.bool true) ∧ Below w.heap.size w w' := by
  have HT : Hid (HandleAt w) := hT
  clear hT
  obtain ⟨a1, c1, rfl⟩ := D.form
  have D1 : Hid (Aq w (.slice a1 n1 c1) n1 q) := D
  clear D
  by_cases hn : n1 > 30
  · have hn1 : (n1 : Int) > 30 := by omega
    clear U hn
    have hM : Hid _ := ((Ms.nil w).born (rl r) 24 (b := w.heap.size) rfl)
    go_enter Tryz.func3, Tryz.ntmps3
    go_wp2
    go_ret
    exact ⟨rfl, hM.out.below⟩
  · have hn1 : ¬ (n1 : Int) > 30 := by omega
    have HN : Hid (n1 ≤ 1000000) := hid (by omega)
    have EE := rec_equal
    have AO : Hid (∀ {w : World} (D : Aq w (.slice a1 n1 c1) n1 q), _) := fun {w} D => asksOf_aq D HN.out
    clear hn
    by_cases hr : isRec r
    · rcases first_not r q n1 with hO | ⟨m, ev, hm, hO, hB⟩
      · by_cases hl : dn r q n1 = []
        · have BT : Hid (∀ (w : World) (D : Aq w (.slice a1 n1 c1) n1 q) (bc : Nat) (hC : Bo w bc (rl r)), _) := fun w D bc hC => (RBatch_yes hr D HN.out hO hC).mono fun e w' h => RbY.zero hl h
          have DO : Hid (∀ (w : World) (a2 : Option Addr) (c2 : Nat) (D : Aq w (.slice a2 n1 c2) n1 q), _) := fun w a2 c2 D => do_zero hr hl D HN.out hO
          obtain ⟨sb, hsb⟩ : ∃ z, z = bump (st r q n1) := ⟨_, rfl⟩
          rw [← hsb] at BT DO
          clear hsb hO hr U hl
          have hM : Hid _ := ((Ms.nil w).born (rl r) 24 (b := w.heap.size) rfl)
          go_enter Tryz.func3, Tryz.ntmps3
          go_wp2_with fail
          generalize World.alloc _ _ = W at hM ⊢
          generalize hsz : w.heap.size = n at hM ⊢
          clear hsz
          refine (BT.out _ (D1.out.later hM.out.below) _ (hM.out.at 0 rfl)).mono ?_
          rintro e W ⟨bq, a3, c3, rfl, hqb, hQ, hb⟩
          replace hM := hid (hM.out.laterB hb hqb hQ)
          clear hb hqb hQ
          obtain ⟨bx1, hbx1⟩ : ∃ q, q = W.heap.size := ⟨_, rfl⟩
          replace hM := hid (hM.out.born [.int .i64 0, .int .i64 0] 30 (b := bx1) hbx1)
          have Hbx1 : Hid _ := hbx1
          clear hbx1
          go_wp2_with (first
            | (rw [← Hbx1.out]; refine sR rfl (hM.out.at 0 rfl) rfl ((rwF 0 0).len (rwF 0 (-1))) (rwF 0 (-1)) ?_
               replace hM := hid (hM.out.put 0 rfl [.int .i64 0, .int .i64 (-1)] ((rwF 0 0).len (rwF 0 (-1))))
               generalize World.setCells _ _ _ _ = W at hM ⊢))
          replace hM := hid (hM.out.drew)
          refine wp_region_held_drew (S := fun w' => Bo w' n (rl r)) (by kernel_rfl) (hM.out.at 2 rfl) (fun hH => ?_)
          generalize World.drew _ = W at hM hH  ⊢
          refine tkR 0 rfl hH (fun _ h => h) (rwR r) ?_
          simp only [Act.put, p1, p2, p3]
          refine tk 1 rfl hH ?_
          simp only [Act.put, p1, p2, p3]
          refine rdn [2, 8] ?_
          refine rdc rfl (fun K hK => ?_) ?_
          · go_simp
            refine (AO.out (D1.out.later hM.out.below)).mono ?_
            rintro e W ⟨a2, c2, rfl, hA, hb⟩
            replace hM := hid (hM.out.later hb)
            clear hb
            replace hA : Hid _ := hid hA
            go_wp2_with fail
            refine hK.out _ _ (hM.out.at 2 rfl) (fun hH => ?_)
            clear hK K
            try simp only [Act.put, p1, p2, p3]
            refine rdn [3, 8] ?_
            refine rdc rfl (fun K hK => ?_) ?_
            · go_simp
              refine (DO.out _ _ _ hA.out).mono ?_
              rintro e W ⟨a4, c4, rfl, hb⟩
              replace hM := hid (hM.out.later hb)
              clear hb
              go_wp2_with fail
              refine hK.out _ _ (hM.out.at 2 rfl) (fun hH => ?_)
              clear hK K
              try simp only [Act.put, p1, p2, p3]
              refine tk 4 rfl hH ?_
              simp only [Act.put, p1, p2, p3]
              refine tk 5 rfl hH ?_
              simp only [Act.put, p1, p2, p3]
              refine tk 6 rfl hH ?_
              simp only [Act.put, p1, p2, p3]
              refine tk 7 rfl hH ?_
              simp only [Act.put, p1, p2, p3]
              refine rd1 8 rfl (fun K hK => ?_)
              go_simp
              replace hM := hid (hM.out.bornR rl_zero.symm 24 rfl)
              refine hK.out _ _ (hM.out.at 3 rfl) (fun hH => ?_)
              clear hK K
              generalize W.heap.size = bq2 at hM hH ⊢
              generalize World.alloc _ _ = W at hM hH  ⊢
              try simp only [Act.put, p1, p2, p3]
              refine rd1 9 rfl (fun K hK => ?_)
              refine stR rfl (hM.out.at 0 rfl) ((rwR wz).len (rwR sb)) (rwR sb) ?_
              simp only [Act.put]
              replace hM := hid (hM.out.put 0 rfl (rl sb) ((rwR wz).len (rwR sb)))
              refine hK.out _ _ (hM.out.at 3 rfl) (fun hH => ?_)
              clear hK K
              generalize World.setCells _ _ _ _ = W at hM hH ⊢
              try simp only [Act.put, p1, p2, p3]
              refine tk 10 rfl hH ?_
              simp only [Act.put, p1, p2, p3]
              refine tk 11 rfl hH ?_
              simp only [Act.put, p1, p2, p3]
              refine wpAnyH_done (by kernel_rfl) ?_ _
              go_wp2_with fail
              replace hM := hid (hM.out.drew)
              refine wp_region_held_drew (S := fun w' => Bo w' bx1 [.int .i64 0, .int .i64 (-1)] ∧ Bo w' bq2 (rl sb)) (by kernel_rfl) ⟨hM.out.at 1 rfl, hM.out.at 0 rfl⟩ (fun hH => ?_)
              generalize World.drew _ = W at hM hH  ⊢
              refine tk 0 rfl hH ?_
              simp only [Act.put, p1, p2, p3]
              refine tkR 1 rfl hH (fun _ h => h.1) (rwF 0 (-1)) ?_
              simp only [Act.put, p1, p2, p3]
              refine rd1 2 rfl (fun K hK => ?_)
              go_simp
              refine (placed_nil _).mono ?_
              rintro e W ⟨rfl, hb⟩
              replace hM := hid (hM.out.later hb)
              clear hb
              go_wp2_with fail
              refine hK.out _ _ ⟨hM.out.at 1 rfl, hM.out.at 0 rfl⟩ (fun hH => ?_)
              clear hK K
              try simp only [Act.put, p1, p2, p3]
              refine tk 3 rfl hH ?_
              simp only [Act.put, p1, p2, p3]
              refine tkR 4 rfl hH (fun _ h => h.2) (rwR sb) ?_
              simp only [Act.put, p1, p2, p3]
              refine tk 5 rfl hH ?_
              simp only [Act.put, p1, p2, p3]
              refine rd1 6 rfl (fun K hK => ?_)
              go_simp
              refine (recordOf_is _ (hM.out.at 2 rfl)).mono ?_
              rintro e W ⟨rfl, hb⟩
              replace hM := hid (hM.out.later hb)
              clear hb
              go_wp2_with fail
              refine hK.out _ _ ⟨hM.out.at 1 rfl, hM.out.at 0 rfl⟩ (fun hH => ?_)
              clear hK K
              try simp only [Act.put, p1, p2, p3]
              refine tk 7 rfl hH ?_
              simp only [Act.put, p1, p2, p3]
              refine tk 8 rfl hH ?_
              simp only [Act.put, p1, p2, p3]
              refine tk 9 rfl hH ?_
              simp only [Act.put, p1, p2, p3]
              refine tk 10 rfl hH ?_
              simp only [Act.put, p1, p2, p3]
              refine tk 11 rfl hH ?_
              simp only [Act.put, p1, p2, p3]
              refine rd1 12 rfl (fun K hK => ?_)
              go_simp
              refine (sameDeeds_0 _ _ _ _ _).mono ?_
              rintro e W ⟨rfl, hb⟩
              replace hM := hid (hM.out.later hb)
              clear hb
              go_wp2_with fail
              refine hK.out _ _ ⟨hM.out.at 1 rfl, hM.out.at 0 rfl⟩ (fun hH => ?_)
              clear hK K
              try simp only [Act.put, p1, p2, p3]
              refine tk 13 rfl hH ?_
              simp only [Act.put, p1, p2, p3]
              refine tk 14 rfl hH ?_
              simp only [Act.put, p1, p2, p3]
              refine wpAnyH_done (by kernel_rfl) ?_ _
              go_wp2
              go_ret
              exact ⟨rfl, hM.out.below⟩
            refine rdc rfl (fun K hK => ?_) AllReadyH.nil
            go_simp
            replace hM := hid (hM.out.bornR rl_zero.symm 24 rfl)
            have hb := hM.out.step
            replace hA := hid (hA.out.later hb)
            clear hb
            refine hK.out _ _ (hM.out.at 3 rfl) (fun hH => ?_)
            clear hK K
            generalize W.heap.size = bq2 at hM hH ⊢
            generalize World.alloc _ _ = W at hM hH hA ⊢
            try simp only [Act.put, p1, p2, p3]
            refine rd1 3 rfl (fun K hK => ?_)
            go_simp
            refine (DO.out _ _ _ hA.out).mono ?_
            rintro e W ⟨a4, c4, rfl, hb⟩
            replace hM := hid (hM.out.later hb)
            clear hb
            go_wp2_with fail
            refine hK.out _ _ (hM.out.at 3 rfl) (fun hH => ?_)
            clear hK K
            try simp only [Act.put, p1, p2, p3]
            refine tk 4 rfl hH ?_
            simp only [Act.put, p1, p2, p3]
            refine tk 5 rfl hH ?_
            simp only [Act.put, p1, p2, p3]
            refine tk 6 rfl hH ?_
            simp only [Act.put, p1, p2, p3]
            refine tk 7 rfl hH ?_
            simp only [Act.put, p1, p2, p3]
            refine rd1 9 rfl (fun K hK => ?_)
            refine stR rfl (hM.out.at 0 rfl) ((rwR wz).len (rwR sb)) (rwR sb) ?_
            simp only [Act.put]
            replace hM := hid (hM.out.put 0 rfl (rl sb) ((rwR wz).len (rwR sb)))
            refine hK.out _ _ (hM.out.at 3 rfl) (fun hH => ?_)
            clear hK K
            generalize World.setCells _ _ _ _ = W at hM hH ⊢
            try simp only [Act.put, p1, p2, p3]
            refine tk 10 rfl hH ?_
            simp only [Act.put, p1, p2, p3]
            refine tk 11 rfl hH ?_
            simp only [Act.put, p1, p2, p3]
            refine wpAnyH_done (by kernel_rfl) ?_ _
            go_wp2_with fail
            replace hM := hid (hM.out.drew)
            refine wp_region_held_drew (S := fun w' => Bo w' bx1 [.int .i64 0, .int .i64 (-1)] ∧ Bo w' bq2 (rl sb)) (by kernel_rfl) ⟨hM.out.at 1 rfl, hM.out.at 0 rfl⟩ (fun hH => ?_)
            generalize World.drew _ = W at hM hH  ⊢
            refine tk 0 rfl hH ?_
            simp only [Act.put, p1, p2, p3]
            refine tkR 1 rfl hH (fun _ h => h.1) (rwF 0 (-1)) ?_
            simp only [Act.put, p1, p2, p3]
            refine rd1 2 rfl (fun K hK => ?_)
            go_simp
            refine (placed_nil _).mono ?_
            rintro e W ⟨rfl, hb⟩
            replace hM := hid (hM.out.later hb)
            clear hb
            go_wp2_with fail
            refine hK.out _ _ ⟨hM.out.at 1 rfl, hM.out.at 0 rfl⟩ (fun hH => ?_)
            clear hK K
            try simp only [Act.put, p1, p2, p3]
            refine tk 3 rfl hH ?_
            simp only [Act.put, p1, p2, p3]
            refine tkR 4 rfl hH (fun _ h => h.2) (rwR sb) ?_
            simp only [Act.put, p1, p2, p3]
            refine tk 5 rfl hH ?_
            simp only [Act.put, p1, p2, p3]
            refine rd1 6 rfl (fun K hK => ?_)
            go_simp
            refine (recordOf_is _ (hM.out.at 2 rfl)).mono ?_
            rintro e W ⟨rfl, hb⟩
            replace hM := hid (hM.out.later hb)
            clear hb
            go_wp2_with fail
            refine hK.out _ _ ⟨hM.out.at 1 rfl, hM.out.at 0 rfl⟩ (fun hH => ?_)
            clear hK K
            try simp only [Act.put, p1, p2, p3]
            refine tk 7 rfl hH ?_
            simp only [Act.put, p1, p2, p3]
            refine tk 8 rfl hH ?_
            simp only [Act.put, p1, p2, p3]
            refine tk 9 rfl hH ?_
            simp only [Act.put, p1, p2, p3]
            refine tk 10 rfl hH ?_
            simp only [Act.put, p1, p2, p3]
            refine tk 11 rfl hH ?_
            simp only [Act.put, p1, p2, p3]
            refine rd1 12 rfl (fun K hK => ?_)
            go_simp
            refine (sameDeeds_0 _ _ _ _ _).mono ?_
            rintro e W ⟨rfl, hb⟩
            replace hM := hid (hM.out.later hb)
            clear hb
            go_wp2_with fail
            refine hK.out _ _ ⟨hM.out.at 1 rfl, hM.out.at 0 rfl⟩ (fun hH => ?_)
            clear hK K
            try simp only [Act.put, p1, p2, p3]
            refine tk 13 rfl hH ?_
            simp only [Act.put, p1, p2, p3]
            refine tk 14 rfl hH ?_
            simp only [Act.put, p1, p2, p3]
            refine wpAnyH_done (by kernel_rfl) ?_ _
            go_wp2
            go_ret
            exact ⟨rfl, hM.out.below⟩
          refine rdc rfl (fun K hK => ?_) AllReadyH.nil
          go_simp
          replace hM := hid (hM.out.bornR rl_zero.symm 24 rfl)
          refine hK.out _ _ (hM.out.at 3 rfl) (fun hH => ?_)
          clear hK K
          generalize W.heap.size = bq2 at hM hH ⊢
          generalize World.alloc _ _ = W at hM hH  ⊢
          try simp only [Act.put, p1, p2, p3]
          refine rd1 2 rfl (fun K hK => ?_)
          go_simp
          refine (AO.out (D1.out.later hM.out.below)).mono ?_
          rintro e W ⟨a2, c2, rfl, hA, hb⟩
          replace hM := hid (hM.out.later hb)
          clear hb
          replace hA : Hid _ := hid hA
          go_wp2_with fail
          refine hK.out _ _ (hM.out.at 3 rfl) (fun hH => ?_)
          clear hK K
          try simp only [Act.put, p1, p2, p3]
          refine rd1 3 rfl (fun K hK => ?_)
          go_simp
          refine (DO.out _ _ _ hA.out).mono ?_
          rintro e W ⟨a4, c4, rfl, hb⟩
          replace hM := hid (hM.out.later hb)
          clear hb
          go_wp2_with fail
          refine hK.out _ _ (hM.out.at 3 rfl) (fun hH => ?_)
          clear hK K
          try simp only [Act.put, p1, p2, p3]
          refine tk 4 rfl hH ?_
          simp only [Act.put, p1, p2, p3]
          refine tk 5 rfl hH ?_
          simp only [Act.put, p1, p2, p3]
          refine tk 6 rfl hH ?_
          simp only [Act.put, p1, p2, p3]
          refine tk 7 rfl hH ?_
          simp only [Act.put, p1, p2, p3]
          refine rd1 9 rfl (fun K hK => ?_)
          refine stR rfl (hM.out.at 0 rfl) ((rwR wz).len (rwR sb)) (rwR sb) ?_
          simp only [Act.put]
          replace hM := hid (hM.out.put 0 rfl (rl sb) ((rwR wz).len (rwR sb)))
          refine hK.out _ _ (hM.out.at 3 rfl) (fun hH => ?_)
          clear hK K
          generalize World.setCells _ _ _ _ = W at hM hH ⊢
          try simp only [Act.put, p1, p2, p3]
          refine tk 10 rfl hH ?_
          simp only [Act.put, p1, p2, p3]
          refine tk 11 rfl hH ?_
          simp only [Act.put, p1, p2, p3]
          refine wpAnyH_done (by kernel_rfl) ?_ _
          go_wp2_with fail
          replace hM := hid (hM.out.drew)
          refine wp_region_held_drew (S := fun w' => Bo w' bx1 [.int .i64 0, .int .i64 (-1)] ∧ Bo w' bq2 (rl sb)) (by kernel_rfl) ⟨hM.out.at 1 rfl, hM.out.at 0 rfl⟩ (fun hH => ?_)
          generalize World.drew _ = W at hM hH  ⊢
          refine tk 0 rfl hH ?_
          simp only [Act.put, p1, p2, p3]
          refine tkR 1 rfl hH (fun _ h => h.1) (rwF 0 (-1)) ?_
          simp only [Act.put, p1, p2, p3]
          refine rd1 2 rfl (fun K hK => ?_)
          go_simp
          refine (placed_nil _).mono ?_
          rintro e W ⟨rfl, hb⟩
          replace hM := hid (hM.out.later hb)
          clear hb
          go_wp2_with fail
          refine hK.out _ _ ⟨hM.out.at 1 rfl, hM.out.at 0 rfl⟩ (fun hH => ?_)
          clear hK K
          try simp only [Act.put, p1, p2, p3]
          refine tk 3 rfl hH ?_
          simp only [Act.put, p1, p2, p3]
          refine tkR 4 rfl hH (fun _ h => h.2) (rwR sb) ?_
          simp only [Act.put, p1, p2, p3]
          refine tk 5 rfl hH ?_
          simp only [Act.put, p1, p2, p3]
          refine rd1 6 rfl (fun K hK => ?_)
          go_simp
          refine (recordOf_is _ (hM.out.at 2 rfl)).mono ?_
          rintro e W ⟨rfl, hb⟩
          replace hM := hid (hM.out.later hb)
          clear hb
          go_wp2_with fail
          refine hK.out _ _ ⟨hM.out.at 1 rfl, hM.out.at 0 rfl⟩ (fun hH => ?_)
          clear hK K
          try simp only [Act.put, p1, p2, p3]
          refine tk 7 rfl hH ?_
          simp only [Act.put, p1, p2, p3]
          refine tk 8 rfl hH ?_
          simp only [Act.put, p1, p2, p3]
          refine tk 9 rfl hH ?_
          simp only [Act.put, p1, p2, p3]
          refine tk 10 rfl hH ?_
          simp only [Act.put, p1, p2, p3]
          refine tk 11 rfl hH ?_
          simp only [Act.put, p1, p2, p3]
          refine rd1 12 rfl (fun K hK => ?_)
          go_simp
          refine (sameDeeds_0 _ _ _ _ _).mono ?_
          rintro e W ⟨rfl, hb⟩
          replace hM := hid (hM.out.later hb)
          clear hb
          go_wp2_with fail
          refine hK.out _ _ ⟨hM.out.at 1 rfl, hM.out.at 0 rfl⟩ (fun hH => ?_)
          clear hK K
          try simp only [Act.put, p1, p2, p3]
          refine tk 13 rfl hH ?_
          simp only [Act.put, p1, p2, p3]
          refine tk 14 rfl hH ?_
          simp only [Act.put, p1, p2, p3]
          refine wpAnyH_done (by kernel_rfl) ?_ _
          go_wp2
          go_ret
          exact ⟨rfl, hM.out.below⟩
        · have BT : Hid (∀ (w : World) (D : Aq w (.slice a1 n1 c1) n1 q) (bc : Nat) (hC : Bo w bc (rl r)), _) := fun w D bc hC => (RBatch_yes hr D HN.out hO hC).mono fun e w' h => RbY.some hl h
          have DO : Hid (∀ (w : World) (a2 : Option Addr) (c2 : Nat) (D : Aq w (.slice a2 n1 c2) n1 q), _) := fun w a2 c2 D => do_more hr hl D HN.out hO
          have HLD : Hid ((dn r q n1).length ≤ 1000000) := hid (by have := dn_length r q n1; have := HN.out; omega)
          obtain ⟨sb, hsb⟩ : ∃ z, z = bump (st r q n1) := ⟨_, rfl⟩
          obtain ⟨l, hld⟩ : ∃ z, z = dn r q n1 := ⟨_, rfl⟩
          rw [← hsb, ← hld] at BT DO
          rw [← hld] at HLD
          clear hsb hld hO hr U hl
          have hM : Hid _ := ((Ms.nil w).born (rl r) 24 (b := w.heap.size) rfl)
          go_enter Tryz.func3, Tryz.ntmps3
          go_wp2_with fail
          generalize World.alloc _ _ = W at hM ⊢
          generalize hsz : w.heap.size = n at hM ⊢
          clear hsz
          have HLE : Hid (n ≤ W.heap.size) := hid hM.out.le
          have HRL : Hid (n < W.heap.size) := hid (hM.out.len 0 rfl)
          refine (BT.out _ (D1.out.later hM.out.below) _ (hM.out.at 0 rfl)).mono ?_
          rintro e W ⟨bq, bg, cap, rfl, hqb, hQ, hgb, hgq, hcap, hG, hb⟩
          replace hM := hid (hM.out.laterB hb hqb hQ)
          replace hM := hid (hM.out.also hG ⟨Nat.le_trans HLE.out hgb, by have := HRL.out; intro hmem; simp at hmem; rcases hmem with h | h <;> omega⟩)
          have HC3 : Hid (l.length ≤ cap) := hcap
          clear hb hqb hQ hgb hgq hcap hG HLE HRL
          obtain ⟨bx1, hbx1⟩ : ∃ q, q = W.heap.size := ⟨_, rfl⟩
          replace hM := hid (hM.out.born [.int .i64 0, .int .i64 0] 30 (b := bx1) hbx1)
          have Hbx1 : Hid _ := hbx1
          clear hbx1
          go_wp2_with (first
            | (rw [← Hbx1.out]; refine sR rfl (hM.out.at 0 rfl) rfl ((rwF 0 0).len (rwF 0 (-1))) (rwF 0 (-1)) ?_
               replace hM := hid (hM.out.put 0 rfl [.int .i64 0, .int .i64 (-1)] ((rwF 0 0).len (rwF 0 (-1))))
               generalize World.setCells _ _ _ _ = W at hM ⊢))
          replace hM := hid (hM.out.drew)
          refine wp_region_held_drew (S := fun w' => Bo w' n (rl r)) (by kernel_rfl) (hM.out.at 3 rfl) (fun hH => ?_)
          generalize World.drew _ = W at hM hH  ⊢
          refine tkR 0 rfl hH (fun _ h => h) (rwR r) ?_
          simp only [Act.put, p1, p2, p3]
          refine tk 1 rfl hH ?_
          simp only [Act.put, p1, p2, p3]
          refine rdn [2, 8] ?_
          refine rdc rfl (fun K hK => ?_) ?_
          · go_simp
            refine (AO.out (D1.out.later hM.out.below)).mono ?_
            rintro e W ⟨a2, c2, rfl, hA, hb⟩
            replace hM := hid (hM.out.later hb)
            clear hb
            replace hA : Hid _ := hid hA
            go_wp2_with fail
            refine hK.out _ _ (hM.out.at 3 rfl) (fun hH => ?_)
            clear hK K
            try simp only [Act.put, p1, p2, p3]
            refine rdn [3, 8] ?_
            refine rdc rfl (fun K hK => ?_) ?_
            · go_simp
              refine (DO.out _ _ _ hA.out).mono ?_
              rintro e W ⟨bh, cap2, rfl, hgb2, hcap2, hG2, hb⟩
              replace hM := hid (hM.out.laterB hb hgb2 hG2)
              have HC4 : Hid (l.length ≤ cap2) := hcap2
              clear hb hgb2 hG2 hcap2
              go_wp2_with fail
              refine hK.out _ _ (hM.out.at 4 rfl) (fun hH => ?_)
              clear hK K
              try simp only [Act.put, p1, p2, p3]
              refine tk 4 rfl hH ?_
              simp only [Act.put, p1, p2, p3]
              refine tk 5 rfl hH ?_
              simp only [Act.put, p1, p2, p3]
              refine tk 6 rfl hH ?_
              simp only [Act.put, p1, p2, p3]
              refine tk 7 rfl hH ?_
              simp only [Act.put, p1, p2, p3]
              refine rd1 8 rfl (fun K hK => ?_)
              go_simp
              replace hM := hid (hM.out.bornR rl_zero.symm 24 rfl)
              refine hK.out _ _ (hM.out.at 5 rfl) (fun hH => ?_)
              clear hK K
              generalize W.heap.size = bq2 at hM hH ⊢
              generalize World.alloc _ _ = W at hM hH  ⊢
              try simp only [Act.put, p1, p2, p3]
              refine rd1 9 rfl (fun K hK => ?_)
              refine stR rfl (hM.out.at 0 rfl) ((rwR wz).len (rwR sb)) (rwR sb) ?_
              simp only [Act.put]
              replace hM := hid (hM.out.put 0 rfl (rl sb) ((rwR wz).len (rwR sb)))
              refine hK.out _ _ (hM.out.at 5 rfl) (fun hH => ?_)
              clear hK K
              generalize World.setCells _ _ _ _ = W at hM hH ⊢
              try simp only [Act.put, p1, p2, p3]
              refine tk 10 rfl hH ?_
              simp only [Act.put, p1, p2, p3]
              refine tk 11 rfl hH ?_
              simp only [Act.put, p1, p2, p3]
              refine wpAnyH_done (by kernel_rfl) ?_ _
              go_wp2_with fail
              replace hM := hid (hM.out.drew)
              refine wp_region_held_drew (S := fun w' => Bo w' bx1 [.int .i64 0, .int .i64 (-1)] ∧ Bo w' bq2 (rl sb)) (by kernel_rfl) ⟨hM.out.at 2 rfl, hM.out.at 0 rfl⟩ (fun hH => ?_)
              generalize World.drew _ = W at hM hH  ⊢
              refine tk 0 rfl hH ?_
              simp only [Act.put, p1, p2, p3]
              refine tkR 1 rfl hH (fun _ h => h.1) (rwF 0 (-1)) ?_
              simp only [Act.put, p1, p2, p3]
              refine rd1 2 rfl (fun K hK => ?_)
              go_simp
              refine (placed_nil _).mono ?_
              rintro e W ⟨rfl, hb⟩
              replace hM := hid (hM.out.later hb)
              clear hb
              go_wp2_with fail
              refine hK.out _ _ ⟨hM.out.at 2 rfl, hM.out.at 0 rfl⟩ (fun hH => ?_)
              clear hK K
              try simp only [Act.put, p1, p2, p3]
              refine tk 3 rfl hH ?_
              simp only [Act.put, p1, p2, p3]
              refine tkR 4 rfl hH (fun _ h => h.2) (rwR sb) ?_
              simp only [Act.put, p1, p2, p3]
              refine tk 5 rfl hH ?_
              simp only [Act.put, p1, p2, p3]
              refine rd1 6 rfl (fun K hK => ?_)
              go_simp
              refine (recordOf_is _ (hM.out.at 4 rfl)).mono ?_
              rintro e W ⟨rfl, hb⟩
              replace hM := hid (hM.out.later hb)
              clear hb
              go_wp2_with fail
              refine hK.out _ _ ⟨hM.out.at 2 rfl, hM.out.at 0 rfl⟩ (fun hH => ?_)
              clear hK K
              try simp only [Act.put, p1, p2, p3]
              refine tk 7 rfl hH ?_
              simp only [Act.put, p1, p2, p3]
              refine tk 8 rfl hH ?_
              simp only [Act.put, p1, p2, p3]
              refine tk 9 rfl hH ?_
              simp only [Act.put, p1, p2, p3]
              refine tk 10 rfl hH ?_
              simp only [Act.put, p1, p2, p3]
              refine tk 11 rfl hH ?_
              simp only [Act.put, p1, p2, p3]
              refine rd1 12 rfl (fun K hK => ?_)
              go_simp
              refine (sameDeeds_is ((hM.out.at 1 rfl).dq (Nat.le_refl _) HC4.out HLD.out) ((hM.out.at 3 rfl).dq (Nat.le_refl _) HC3.out HLD.out) HLD.out).mono ?_
              rintro e W ⟨rfl, hb⟩
              replace hM := hid (hM.out.later hb)
              clear hb
              go_wp2_with fail
              refine hK.out _ _ ⟨hM.out.at 2 rfl, hM.out.at 0 rfl⟩ (fun hH => ?_)
              clear hK K
              try simp only [Act.put, p1, p2, p3]
              refine tk 13 rfl hH ?_
              simp only [Act.put, p1, p2, p3]
              refine tk 14 rfl hH ?_
              simp only [Act.put, p1, p2, p3]
              refine wpAnyH_done (by kernel_rfl) ?_ _
              go_wp2
              go_ret
              exact ⟨rfl, hM.out.below⟩
            refine rdc rfl (fun K hK => ?_) AllReadyH.nil
            go_simp
            replace hM := hid (hM.out.bornR rl_zero.symm 24 rfl)
            have hb := hM.out.step
            replace hA := hid (hA.out.later hb)
            clear hb
            refine hK.out _ _ (hM.out.at 4 rfl) (fun hH => ?_)
            clear hK K
            generalize W.heap.size = bq2 at hM hH ⊢
            generalize World.alloc _ _ = W at hM hH hA ⊢
            try simp only [Act.put, p1, p2, p3]
            refine rd1 3 rfl (fun K hK => ?_)
            go_simp
            refine (DO.out _ _ _ hA.out).mono ?_
            rintro e W ⟨bh, cap2, rfl, hgb2, hcap2, hG2, hb⟩
            replace hM := hid (hM.out.laterB hb hgb2 hG2)
            have HC4 : Hid (l.length ≤ cap2) := hcap2
            clear hb hgb2 hG2 hcap2
            go_wp2_with fail
            refine hK.out _ _ (hM.out.at 5 rfl) (fun hH => ?_)
            clear hK K
            try simp only [Act.put, p1, p2, p3]
            refine tk 4 rfl hH ?_
            simp only [Act.put, p1, p2, p3]
            refine tk 5 rfl hH ?_
            simp only [Act.put, p1, p2, p3]
            refine tk 6 rfl hH ?_
            simp only [Act.put, p1, p2, p3]
            refine tk 7 rfl hH ?_
            simp only [Act.put, p1, p2, p3]
            refine rd1 9 rfl (fun K hK => ?_)
            refine stR rfl (hM.out.at 1 rfl) ((rwR wz).len (rwR sb)) (rwR sb) ?_
            simp only [Act.put]
            replace hM := hid (hM.out.put 1 rfl (rl sb) ((rwR wz).len (rwR sb)))
            refine hK.out _ _ (hM.out.at 5 rfl) (fun hH => ?_)
            clear hK K
            generalize World.setCells _ _ _ _ = W at hM hH ⊢
            try simp only [Act.put, p1, p2, p3]
            refine tk 10 rfl hH ?_
            simp only [Act.put, p1, p2, p3]
            refine tk 11 rfl hH ?_
            simp only [Act.put, p1, p2, p3]
            refine wpAnyH_done (by kernel_rfl) ?_ _
            go_wp2_with fail
            replace hM := hid (hM.out.drew)
            refine wp_region_held_drew (S := fun w' => Bo w' bx1 [.int .i64 0, .int .i64 (-1)] ∧ Bo w' bq2 (rl sb)) (by kernel_rfl) ⟨hM.out.at 2 rfl, hM.out.at 1 rfl⟩ (fun hH => ?_)
            generalize World.drew _ = W at hM hH  ⊢
            refine tk 0 rfl hH ?_
            simp only [Act.put, p1, p2, p3]
            refine tkR 1 rfl hH (fun _ h => h.1) (rwF 0 (-1)) ?_
            simp only [Act.put, p1, p2, p3]
            refine rd1 2 rfl (fun K hK => ?_)
            go_simp
            refine (placed_nil _).mono ?_
            rintro e W ⟨rfl, hb⟩
            replace hM := hid (hM.out.later hb)
            clear hb
            go_wp2_with fail
            refine hK.out _ _ ⟨hM.out.at 2 rfl, hM.out.at 1 rfl⟩ (fun hH => ?_)
            clear hK K
            try simp only [Act.put, p1, p2, p3]
            refine tk 3 rfl hH ?_
            simp only [Act.put, p1, p2, p3]
            refine tkR 4 rfl hH (fun _ h => h.2) (rwR sb) ?_
            simp only [Act.put, p1, p2, p3]
            refine tk 5 rfl hH ?_
            simp only [Act.put, p1, p2, p3]
            refine rd1 6 rfl (fun K hK => ?_)
            go_simp
            refine (recordOf_is _ (hM.out.at 4 rfl)).mono ?_
            rintro e W ⟨rfl, hb⟩
            replace hM := hid (hM.out.later hb)
            clear hb
            go_wp2_with fail
            refine hK.out _ _ ⟨hM.out.at 2 rfl, hM.out.at 1 rfl⟩ (fun hH => ?_)
            clear hK K
            try simp only [Act.put, p1, p2, p3]
            refine tk 7 rfl hH ?_
            simp only [Act.put, p1, p2, p3]
            refine tk 8 rfl hH ?_
            simp only [Act.put, p1, p2, p3]
            refine tk 9 rfl hH ?_
            simp only [Act.put, p1, p2, p3]
            refine tk 10 rfl hH ?_
            simp only [Act.put, p1, p2, p3]
            refine tk 11 rfl hH ?_
            simp only [Act.put, p1, p2, p3]
            refine rd1 12 rfl (fun K hK => ?_)
            go_simp
            refine (sameDeeds_is ((hM.out.at 0 rfl).dq (Nat.le_refl _) HC4.out HLD.out) ((hM.out.at 3 rfl).dq (Nat.le_refl _) HC3.out HLD.out) HLD.out).mono ?_
            rintro e W ⟨rfl, hb⟩
            replace hM := hid (hM.out.later hb)
            clear hb
            go_wp2_with fail
            refine hK.out _ _ ⟨hM.out.at 2 rfl, hM.out.at 1 rfl⟩ (fun hH => ?_)
            clear hK K
            try simp only [Act.put, p1, p2, p3]
            refine tk 13 rfl hH ?_
            simp only [Act.put, p1, p2, p3]
            refine tk 14 rfl hH ?_
            simp only [Act.put, p1, p2, p3]
            refine wpAnyH_done (by kernel_rfl) ?_ _
            go_wp2
            go_ret
            exact ⟨rfl, hM.out.below⟩
          refine rdc rfl (fun K hK => ?_) AllReadyH.nil
          go_simp
          replace hM := hid (hM.out.bornR rl_zero.symm 24 rfl)
          refine hK.out _ _ (hM.out.at 4 rfl) (fun hH => ?_)
          clear hK K
          generalize W.heap.size = bq2 at hM hH ⊢
          generalize World.alloc _ _ = W at hM hH  ⊢
          try simp only [Act.put, p1, p2, p3]
          refine rd1 2 rfl (fun K hK => ?_)
          go_simp
          refine (AO.out (D1.out.later hM.out.below)).mono ?_
          rintro e W ⟨a2, c2, rfl, hA, hb⟩
          replace hM := hid (hM.out.later hb)
          clear hb
          replace hA : Hid _ := hid hA
          go_wp2_with fail
          refine hK.out _ _ (hM.out.at 4 rfl) (fun hH => ?_)
          clear hK K
          try simp only [Act.put, p1, p2, p3]
          refine rd1 3 rfl (fun K hK => ?_)
          go_simp
          refine (DO.out _ _ _ hA.out).mono ?_
          rintro e W ⟨bh, cap2, rfl, hgb2, hcap2, hG2, hb⟩
          replace hM := hid (hM.out.laterB hb hgb2 hG2)
          have HC4 : Hid (l.length ≤ cap2) := hcap2
          clear hb hgb2 hG2 hcap2
          go_wp2_with fail
          refine hK.out _ _ (hM.out.at 5 rfl) (fun hH => ?_)
          clear hK K
          try simp only [Act.put, p1, p2, p3]
          refine tk 4 rfl hH ?_
          simp only [Act.put, p1, p2, p3]
          refine tk 5 rfl hH ?_
          simp only [Act.put, p1, p2, p3]
          refine tk 6 rfl hH ?_
          simp only [Act.put, p1, p2, p3]
          refine tk 7 rfl hH ?_
          simp only [Act.put, p1, p2, p3]
          refine rd1 9 rfl (fun K hK => ?_)
          refine stR rfl (hM.out.at 1 rfl) ((rwR wz).len (rwR sb)) (rwR sb) ?_
          simp only [Act.put]
          replace hM := hid (hM.out.put 1 rfl (rl sb) ((rwR wz).len (rwR sb)))
          refine hK.out _ _ (hM.out.at 5 rfl) (fun hH => ?_)
          clear hK K
          generalize World.setCells _ _ _ _ = W at hM hH ⊢
          try simp only [Act.put, p1, p2, p3]
          refine tk 10 rfl hH ?_
          simp only [Act.put, p1, p2, p3]
          refine tk 11 rfl hH ?_
          simp only [Act.put, p1, p2, p3]
          refine wpAnyH_done (by kernel_rfl) ?_ _
          go_wp2_with fail
          replace hM := hid (hM.out.drew)
          refine wp_region_held_drew (S := fun w' => Bo w' bx1 [.int .i64 0, .int .i64 (-1)] ∧ Bo w' bq2 (rl sb)) (by kernel_rfl) ⟨hM.out.at 2 rfl, hM.out.at 1 rfl⟩ (fun hH => ?_)
          generalize World.drew _ = W at hM hH  ⊢
          refine tk 0 rfl hH ?_
          simp only [Act.put, p1, p2, p3]
          refine tkR 1 rfl hH (fun _ h => h.1) (rwF 0 (-1)) ?_
          simp only [Act.put, p1, p2, p3]
          refine rd1 2 rfl (fun K hK => ?_)
          go_simp
          refine (placed_nil _).mono ?_
          rintro e W ⟨rfl, hb⟩
          replace hM := hid (hM.out.later hb)
          clear hb
          go_wp2_with fail
          refine hK.out _ _ ⟨hM.out.at 2 rfl, hM.out.at 1 rfl⟩ (fun hH => ?_)
          clear hK K
          try simp only [Act.put, p1, p2, p3]
          refine tk 3 rfl hH ?_
          simp only [Act.put, p1, p2, p3]
          refine tkR 4 rfl hH (fun _ h => h.2) (rwR sb) ?_
          simp only [Act.put, p1, p2, p3]
          refine tk 5 rfl hH ?_
          simp only [Act.put, p1, p2, p3]
          refine rd1 6 rfl (fun K hK => ?_)
          go_simp
          refine (recordOf_is _ (hM.out.at 4 rfl)).mono ?_
          rintro e W ⟨rfl, hb⟩
          replace hM := hid (hM.out.later hb)
          clear hb
          go_wp2_with fail
          refine hK.out _ _ ⟨hM.out.at 2 rfl, hM.out.at 1 rfl⟩ (fun hH => ?_)
          clear hK K
          try simp only [Act.put, p1, p2, p3]
          refine tk 7 rfl hH ?_
          simp only [Act.put, p1, p2, p3]
          refine tk 8 rfl hH ?_
          simp only [Act.put, p1, p2, p3]
          refine tk 9 rfl hH ?_
          simp only [Act.put, p1, p2, p3]
          refine tk 10 rfl hH ?_
          simp only [Act.put, p1, p2, p3]
          refine tk 11 rfl hH ?_
          simp only [Act.put, p1, p2, p3]
          refine rd1 12 rfl (fun K hK => ?_)
          go_simp
          refine (sameDeeds_is ((hM.out.at 0 rfl).dq (Nat.le_refl _) HC4.out HLD.out) ((hM.out.at 3 rfl).dq (Nat.le_refl _) HC3.out HLD.out) HLD.out).mono ?_
          rintro e W ⟨rfl, hb⟩
          replace hM := hid (hM.out.later hb)
          clear hb
          go_wp2_with fail
          refine hK.out _ _ ⟨hM.out.at 2 rfl, hM.out.at 1 rfl⟩ (fun hH => ?_)
          clear hK K
          try simp only [Act.put, p1, p2, p3]
          refine tk 13 rfl hH ?_
          simp only [Act.put, p1, p2, p3]
          refine tk 14 rfl hH ?_
          simp only [Act.put, p1, p2, p3]
          refine wpAnyH_done (by kernel_rfl) ?_ _
          go_wp2
          go_ret
          exact ⟨rfl, hM.out.below⟩
      · have BT : Hid (∀ (w : World) (D : Aq w (.slice a1 n1 c1) n1 q) (bc : Nat) (hC : Bo w bc (rl r)), _) := fun w D bc hC => RBatch_err hr D HN.out hm hO hB hC
        have DO : Hid (∀ (w : World) (a2 : Option Addr) (c2 : Nat) (D : Aq w (.slice a2 n1 c2) n1 q) (hT : HandleAt w), _) := fun w a2 c2 D hT => do_err hr D HN.out hm hO hB hT
        clear hO hB hm hr U
        have hM : Hid _ := ((Ms.nil w).born (rl r) 24 (b := w.heap.size) rfl)
        go_enter Tryz.func3, Tryz.ntmps3
        go_wp2_with fail
        generalize World.alloc _ _ = W at hM ⊢
        generalize hsz : w.heap.size = n at hM ⊢
        clear hsz
        refine (BT.out _ (D1.out.later hM.out.below) _ (hM.out.at 0 rfl)).mono ?_
        rintro e W ⟨rfl, hb⟩
        replace hM := hid (hM.out.later hb)
        clear hb
        obtain ⟨bx1, hbx1⟩ : ∃ q, q = W.heap.size := ⟨_, rfl⟩
        replace hM := hid (hM.out.born [.int .i64 0, .int .i64 0] 30 (b := bx1) hbx1)
        have Hbx1 : Hid _ := hbx1
        clear hbx1
        go_wp2_with (first
          | (rw [← Hbx1.out]; refine sR rfl (hM.out.at 0 rfl) rfl ((rwF 0 0).len (rwF ev (m : Nat))) (rwF ev (m : Nat)) ?_
             replace hM := hid (hM.out.put 0 rfl [.int .i64 ev, .int .i64 (m : Nat)] ((rwF 0 0).len (rwF ev (m : Nat))))
             generalize World.setCells _ _ _ _ = W at hM ⊢))
        replace hM := hid (hM.out.drew)
        refine wp_region_held_drew (S := fun w' => Bo w' n (rl r)) (by kernel_rfl) (hM.out.at 1 rfl) (fun hH => ?_)
        generalize World.drew _ = W at hM hH  ⊢
        refine tkR 0 rfl hH (fun _ h => h) (rwR r) ?_
        simp only [Act.put, p1, p2, p3]
        refine tk 1 rfl hH ?_
        simp only [Act.put, p1, p2, p3]
        refine rdn [2, 8] ?_
        refine rdc rfl (fun K hK => ?_) ?_
        · go_simp
          refine (AO.out (D1.out.later hM.out.below)).mono ?_
          rintro e W ⟨a2, c2, rfl, hA, hb⟩
          replace hM := hid (hM.out.later hb)
          clear hb
          replace hA : Hid _ := hid hA
          go_wp2_with fail
          refine hK.out _ _ (hM.out.at 1 rfl) (fun hH => ?_)
          clear hK K
          try simp only [Act.put, p1, p2, p3]
          refine rdn [3, 8] ?_
          refine rdc rfl (fun K hK => ?_) ?_
          · go_simp
            refine (DO.out _ _ _ hA.out (HT.out.below hM.out.below)).mono ?_
            rintro e W ⟨bh, rfl, hgb2, hG2, hb⟩
            replace hM := hid (hM.out.laterB hb hgb2 hG2)
            clear hb hgb2 hG2
            go_wp2_with fail
            refine hK.out _ _ (hM.out.at 2 rfl) (fun hH => ?_)
            clear hK K
            try simp only [Act.put, p1, p2, p3]
            refine tk 4 rfl hH ?_
            simp only [Act.put, p1, p2, p3]
            refine tk 5 rfl hH ?_
            simp only [Act.put, p1, p2, p3]
            refine tk 6 rfl hH ?_
            simp only [Act.put, p1, p2, p3]
            refine tk 7 rfl hH ?_
            simp only [Act.put, p1, p2, p3]
            refine rd1 8 rfl (fun K hK => ?_)
            go_simp
            replace hM := hid (hM.out.bornR rl_zero.symm 24 rfl)
            refine hK.out _ _ (hM.out.at 3 rfl) (fun hH => ?_)
            clear hK K
            generalize W.heap.size = bq2 at hM hH ⊢
            generalize World.alloc _ _ = W at hM hH  ⊢
            try simp only [Act.put, p1, p2, p3]
            refine rd1 9 rfl (fun K hK => ?_)
            refine stR rfl (hM.out.at 0 rfl) ((rwR wz).len (rwR wz)) (rwR wz) ?_
            simp only [Act.put]
            replace hM := hid (hM.out.put 0 rfl (rl wz) ((rwR wz).len (rwR wz)))
            refine hK.out _ _ (hM.out.at 3 rfl) (fun hH => ?_)
            clear hK K
            generalize World.setCells _ _ _ _ = W at hM hH ⊢
            try simp only [Act.put, p1, p2, p3]
            refine tk 10 rfl hH ?_
            simp only [Act.put, p1, p2, p3]
            refine tk 11 rfl hH ?_
            simp only [Act.put, p1, p2, p3]
            refine wpAnyH_done (by kernel_rfl) ?_ _
            go_wp2_with fail
            replace hM := hid (hM.out.drew)
            refine wp_region_held_drew (S := fun w' => Bo w' bx1 [.int .i64 ev, .int .i64 (m : Nat)] ∧ Bo w' bq2 (rl wz)) (by kernel_rfl) ⟨hM.out.at 2 rfl, hM.out.at 0 rfl⟩ (fun hH => ?_)
            generalize World.drew _ = W at hM hH  ⊢
            refine tk 0 rfl hH ?_
            simp only [Act.put, p1, p2, p3]
            refine tkR 1 rfl hH (fun _ h => h.1) (rwF ev (m : Nat)) ?_
            simp only [Act.put, p1, p2, p3]
            refine rd1 2 rfl (fun K hK => ?_)
            go_simp
            refine (placed_at ev (m : Nat) _ _ (HT.out.below hM.out.below) (hM.out.at 1 rfl)).mono ?_
            rintro e W ⟨rfl, hb⟩
            replace hM := hid (hM.out.later hb)
            clear hb
            go_wp2_with fail
            refine hK.out _ _ ⟨hM.out.at 2 rfl, hM.out.at 0 rfl⟩ (fun hH => ?_)
            clear hK K
            try simp only [Act.put, p1, p2, p3]
            refine tk 3 rfl hH ?_
            simp only [Act.put, p1, p2, p3]
            refine tkR 4 rfl hH (fun _ h => h.2) (rwR wz) ?_
            simp only [Act.put, p1, p2, p3]
            refine tk 5 rfl hH ?_
            simp only [Act.put, p1, p2, p3]
            refine rd1 6 rfl (fun K hK => ?_)
            go_simp
            refine (recordOf_nil _).mono ?_
            rintro e W ⟨rfl, hb⟩
            replace hM := hid (hM.out.later hb)
            clear hb
            go_wp2_with fail
            refine hK.out _ _ ⟨hM.out.at 2 rfl, hM.out.at 0 rfl⟩ (fun hH => ?_)
            clear hK K
            try simp only [Act.put, p1, p2, p3]
            refine tk 7 rfl hH ?_
            simp only [Act.put, p1, p2, p3]
            refine tk 8 rfl hH ?_
            simp only [Act.put, p1, p2, p3]
            refine tk 9 rfl hH ?_
            simp only [Act.put, p1, p2, p3]
            refine tk 10 rfl hH ?_
            simp only [Act.put, p1, p2, p3]
            refine tk 11 rfl hH ?_
            simp only [Act.put, p1, p2, p3]
            refine rd1 12 rfl (fun K hK => ?_)
            go_simp
            refine (sameDeeds_0 _ _ _ _ _).mono ?_
            rintro e W ⟨rfl, hb⟩
            replace hM := hid (hM.out.later hb)
            clear hb
            go_wp2_with fail
            refine hK.out _ _ ⟨hM.out.at 2 rfl, hM.out.at 0 rfl⟩ (fun hH => ?_)
            clear hK K
            try simp only [Act.put, p1, p2, p3]
            refine tk 13 rfl hH ?_
            simp only [Act.put, p1, p2, p3]
            refine tk 14 rfl hH ?_
            simp only [Act.put, p1, p2, p3]
            refine wpAnyH_done (by kernel_rfl) ?_ _
            go_wp2
            go_ret
            exact ⟨rfl, hM.out.below⟩
          refine rdc rfl (fun K hK => ?_) AllReadyH.nil
          go_simp
          replace hM := hid (hM.out.bornR rl_zero.symm 24 rfl)
          have hb := hM.out.step
          replace hA := hid (hA.out.later hb)
          clear hb
          refine hK.out _ _ (hM.out.at 2 rfl) (fun hH => ?_)
          clear hK K
          generalize W.heap.size = bq2 at hM hH ⊢
          generalize World.alloc _ _ = W at hM hH hA ⊢
          try simp only [Act.put, p1, p2, p3]
          refine rd1 3 rfl (fun K hK => ?_)
          go_simp
          refine (DO.out _ _ _ hA.out (HT.out.below hM.out.below)).mono ?_
          rintro e W ⟨bh, rfl, hgb2, hG2, hb⟩
          replace hM := hid (hM.out.laterB hb hgb2 hG2)
          clear hb hgb2 hG2
          go_wp2_with fail
          refine hK.out _ _ (hM.out.at 3 rfl) (fun hH => ?_)
          clear hK K
          try simp only [Act.put, p1, p2, p3]
          refine tk 4 rfl hH ?_
          simp only [Act.put, p1, p2, p3]
          refine tk 5 rfl hH ?_
          simp only [Act.put, p1, p2, p3]
          refine tk 6 rfl hH ?_
          simp only [Act.put, p1, p2, p3]
          refine tk 7 rfl hH ?_
          simp only [Act.put, p1, p2, p3]
          refine rd1 9 rfl (fun K hK => ?_)
          refine stR rfl (hM.out.at 1 rfl) ((rwR wz).len (rwR wz)) (rwR wz) ?_
          simp only [Act.put]
          replace hM := hid (hM.out.put 1 rfl (rl wz) ((rwR wz).len (rwR wz)))
          refine hK.out _ _ (hM.out.at 3 rfl) (fun hH => ?_)
          clear hK K
          generalize World.setCells _ _ _ _ = W at hM hH ⊢
          try simp only [Act.put, p1, p2, p3]
          refine tk 10 rfl hH ?_
          simp only [Act.put, p1, p2, p3]
          refine tk 11 rfl hH ?_
          simp only [Act.put, p1, p2, p3]
          refine wpAnyH_done (by kernel_rfl) ?_ _
          go_wp2_with fail
          replace hM := hid (hM.out.drew)
          refine wp_region_held_drew (S := fun w' => Bo w' bx1 [.int .i64 ev, .int .i64 (m : Nat)] ∧ Bo w' bq2 (rl wz)) (by kernel_rfl) ⟨hM.out.at 2 rfl, hM.out.at 1 rfl⟩ (fun hH => ?_)
          generalize World.drew _ = W at hM hH  ⊢
          refine tk 0 rfl hH ?_
          simp only [Act.put, p1, p2, p3]
          refine tkR 1 rfl hH (fun _ h => h.1) (rwF ev (m : Nat)) ?_
          simp only [Act.put, p1, p2, p3]
          refine rd1 2 rfl (fun K hK => ?_)
          go_simp
          refine (placed_at ev (m : Nat) _ _ (HT.out.below hM.out.below) (hM.out.at 0 rfl)).mono ?_
          rintro e W ⟨rfl, hb⟩
          replace hM := hid (hM.out.later hb)
          clear hb
          go_wp2_with fail
          refine hK.out _ _ ⟨hM.out.at 2 rfl, hM.out.at 1 rfl⟩ (fun hH => ?_)
          clear hK K
          try simp only [Act.put, p1, p2, p3]
          refine tk 3 rfl hH ?_
          simp only [Act.put, p1, p2, p3]
          refine tkR 4 rfl hH (fun _ h => h.2) (rwR wz) ?_
          simp only [Act.put, p1, p2, p3]
          refine tk 5 rfl hH ?_
          simp only [Act.put, p1, p2, p3]
          refine rd1 6 rfl (fun K hK => ?_)
          go_simp
          refine (recordOf_nil _).mono ?_
          rintro e W ⟨rfl, hb⟩
          replace hM := hid (hM.out.later hb)
          clear hb
          go_wp2_with fail
          refine hK.out _ _ ⟨hM.out.at 2 rfl, hM.out.at 1 rfl⟩ (fun hH => ?_)
          clear hK K
          try simp only [Act.put, p1, p2, p3]
          refine tk 7 rfl hH ?_
          simp only [Act.put, p1, p2, p3]
          refine tk 8 rfl hH ?_
          simp only [Act.put, p1, p2, p3]
          refine tk 9 rfl hH ?_
          simp only [Act.put, p1, p2, p3]
          refine tk 10 rfl hH ?_
          simp only [Act.put, p1, p2, p3]
          refine tk 11 rfl hH ?_
          simp only [Act.put, p1, p2, p3]
          refine rd1 12 rfl (fun K hK => ?_)
          go_simp
          refine (sameDeeds_0 _ _ _ _ _).mono ?_
          rintro e W ⟨rfl, hb⟩
          replace hM := hid (hM.out.later hb)
          clear hb
          go_wp2_with fail
          refine hK.out _ _ ⟨hM.out.at 2 rfl, hM.out.at 1 rfl⟩ (fun hH => ?_)
          clear hK K
          try simp only [Act.put, p1, p2, p3]
          refine tk 13 rfl hH ?_
          simp only [Act.put, p1, p2, p3]
          refine tk 14 rfl hH ?_
          simp only [Act.put, p1, p2, p3]
          refine wpAnyH_done (by kernel_rfl) ?_ _
          go_wp2
          go_ret
          exact ⟨rfl, hM.out.below⟩
        refine rdc rfl (fun K hK => ?_) AllReadyH.nil
        go_simp
        replace hM := hid (hM.out.bornR rl_zero.symm 24 rfl)
        refine hK.out _ _ (hM.out.at 2 rfl) (fun hH => ?_)
        clear hK K
        generalize W.heap.size = bq2 at hM hH ⊢
        generalize World.alloc _ _ = W at hM hH  ⊢
        try simp only [Act.put, p1, p2, p3]
        refine rd1 2 rfl (fun K hK => ?_)
        go_simp
        refine (AO.out (D1.out.later hM.out.below)).mono ?_
        rintro e W ⟨a2, c2, rfl, hA, hb⟩
        replace hM := hid (hM.out.later hb)
        clear hb
        replace hA : Hid _ := hid hA
        go_wp2_with fail
        refine hK.out _ _ (hM.out.at 2 rfl) (fun hH => ?_)
        clear hK K
        try simp only [Act.put, p1, p2, p3]
        refine rd1 3 rfl (fun K hK => ?_)
        go_simp
        refine (DO.out _ _ _ hA.out (HT.out.below hM.out.below)).mono ?_
        rintro e W ⟨bh, rfl, hgb2, hG2, hb⟩
        replace hM := hid (hM.out.laterB hb hgb2 hG2)
        clear hb hgb2 hG2
        go_wp2_with fail
        refine hK.out _ _ (hM.out.at 3 rfl) (fun hH => ?_)
        clear hK K
        try simp only [Act.put, p1, p2, p3]
        refine tk 4 rfl hH ?_
        simp only [Act.put, p1, p2, p3]
        refine tk 5 rfl hH ?_
        simp only [Act.put, p1, p2, p3]
        refine tk 6 rfl hH ?_
        simp only [Act.put, p1, p2, p3]
        refine tk 7 rfl hH ?_
        simp only [Act.put, p1, p2, p3]
        refine rd1 9 rfl (fun K hK => ?_)
        refine stR rfl (hM.out.at 1 rfl) ((rwR wz).len (rwR wz)) (rwR wz) ?_
        simp only [Act.put]
        replace hM := hid (hM.out.put 1 rfl (rl wz) ((rwR wz).len (rwR wz)))
        refine hK.out _ _ (hM.out.at 3 rfl) (fun hH => ?_)
        clear hK K
        generalize World.setCells _ _ _ _ = W at hM hH ⊢
        try simp only [Act.put, p1, p2, p3]
        refine tk 10 rfl hH ?_
        simp only [Act.put, p1, p2, p3]
        refine tk 11 rfl hH ?_
        simp only [Act.put, p1, p2, p3]
        refine wpAnyH_done (by kernel_rfl) ?_ _
        go_wp2_with fail
        replace hM := hid (hM.out.drew)
        refine wp_region_held_drew (S := fun w' => Bo w' bx1 [.int .i64 ev, .int .i64 (m : Nat)] ∧ Bo w' bq2 (rl wz)) (by kernel_rfl) ⟨hM.out.at 2 rfl, hM.out.at 1 rfl⟩ (fun hH => ?_)
        generalize World.drew _ = W at hM hH  ⊢
        refine tk 0 rfl hH ?_
        simp only [Act.put, p1, p2, p3]
        refine tkR 1 rfl hH (fun _ h => h.1) (rwF ev (m : Nat)) ?_
        simp only [Act.put, p1, p2, p3]
        refine rd1 2 rfl (fun K hK => ?_)
        go_simp
        refine (placed_at ev (m : Nat) _ _ (HT.out.below hM.out.below) (hM.out.at 0 rfl)).mono ?_
        rintro e W ⟨rfl, hb⟩
        replace hM := hid (hM.out.later hb)
        clear hb
        go_wp2_with fail
        refine hK.out _ _ ⟨hM.out.at 2 rfl, hM.out.at 1 rfl⟩ (fun hH => ?_)
        clear hK K
        try simp only [Act.put, p1, p2, p3]
        refine tk 3 rfl hH ?_
        simp only [Act.put, p1, p2, p3]
        refine tkR 4 rfl hH (fun _ h => h.2) (rwR wz) ?_
        simp only [Act.put, p1, p2, p3]
        refine tk 5 rfl hH ?_
        simp only [Act.put, p1, p2, p3]
        refine rd1 6 rfl (fun K hK => ?_)
        go_simp
        refine (recordOf_nil _).mono ?_
        rintro e W ⟨rfl, hb⟩
        replace hM := hid (hM.out.later hb)
        clear hb
        go_wp2_with fail
        refine hK.out _ _ ⟨hM.out.at 2 rfl, hM.out.at 1 rfl⟩ (fun hH => ?_)
        clear hK K
        try simp only [Act.put, p1, p2, p3]
        refine tk 7 rfl hH ?_
        simp only [Act.put, p1, p2, p3]
        refine tk 8 rfl hH ?_
        simp only [Act.put, p1, p2, p3]
        refine tk 9 rfl hH ?_
        simp only [Act.put, p1, p2, p3]
        refine tk 10 rfl hH ?_
        simp only [Act.put, p1, p2, p3]
        refine tk 11 rfl hH ?_
        simp only [Act.put, p1, p2, p3]
        refine rd1 12 rfl (fun K hK => ?_)
        go_simp
        refine (sameDeeds_0 _ _ _ _ _).mono ?_
        rintro e W ⟨rfl, hb⟩
        replace hM := hid (hM.out.later hb)
        clear hb
        go_wp2_with fail
        refine hK.out _ _ ⟨hM.out.at 2 rfl, hM.out.at 1 rfl⟩ (fun hH => ?_)
        clear hK K
        try simp only [Act.put, p1, p2, p3]
        refine tk 13 rfl hH ?_
        simp only [Act.put, p1, p2, p3]
        refine tk 14 rfl hH ?_
        simp only [Act.put, p1, p2, p3]
        refine wpAnyH_done (by kernel_rfl) ?_ _
        go_wp2
        go_ret
        exact ⟨rfl, hM.out.below⟩
    · have BT : Hid (∀ (w : World) (bc : Nat) (hC : Bo w bc (rl r)), _) := fun w bc hC => RBatch_not U hr a1 n1 c1 w hC
      have DO : Hid (∀ (w : World) (a2 : Option Addr) (c2 : Nat), _) := fun w a2 c2 => do_not U hr a2 n1 c2 w
      clear hr U
      have hM : Hid _ := ((Ms.nil w).born (rl r) 24 (b := w.heap.size) rfl)
      go_enter Tryz.func3, Tryz.ntmps3
      go_wp2_with fail
      generalize World.alloc _ _ = W at hM ⊢
      generalize hsz : w.heap.size = n at hM ⊢
      clear hsz
      refine (BT.out _ _ (hM.out.at 0 rfl)).mono ?_
      rintro e W ⟨rfl, hb⟩
      replace hM := hid (hM.out.later hb)
      clear hb
      obtain ⟨bx1, hbx1⟩ : ∃ q, q = W.heap.size := ⟨_, rfl⟩
      replace hM := hid (hM.out.born [.int .i64 0, .int .i64 0] 30 (b := bx1) hbx1)
      have Hbx1 : Hid _ := hbx1
      clear hbx1
      go_wp2_with (first
        | (rw [← Hbx1.out]; refine sR rfl (hM.out.at 0 rfl) rfl ((rwF 0 0).len (rwF 1 (-1))) (rwF 1 (-1)) ?_
           replace hM := hid (hM.out.put 0 rfl [.int .i64 1, .int .i64 (-1)] ((rwF 0 0).len (rwF 1 (-1))))
           generalize World.setCells _ _ _ _ = W at hM ⊢))
      replace hM := hid (hM.out.drew)
      refine wp_region_held_drew (S := fun w' => Bo w' n (rl r)) (by kernel_rfl) (hM.out.at 1 rfl) (fun hH => ?_)
      generalize World.drew _ = W at hM hH  ⊢
      refine tkR 0 rfl hH (fun _ h => h) (rwR r) ?_
      simp only [Act.put, p1, p2, p3]
      refine tk 1 rfl hH ?_
      simp only [Act.put, p1, p2, p3]
      refine rdn [2, 8] ?_
      refine rdc rfl (fun K hK => ?_) ?_
      · go_simp
        refine (AO.out (D1.out.later hM.out.below)).mono ?_
        rintro e W ⟨a2, c2, rfl, hA, hb⟩
        replace hM := hid (hM.out.later hb)
        clear hb
        replace hA : Hid _ := hid hA
        go_wp2_with fail
        refine hK.out _ _ (hM.out.at 1 rfl) (fun hH => ?_)
        clear hK K
        try simp only [Act.put, p1, p2, p3]
        refine rdn [3, 8] ?_
        refine rdc rfl (fun K hK => ?_) ?_
        · go_simp
          refine (DO.out _ _ _).mono ?_
          rintro e W ⟨rfl, hb⟩
          replace hM := hid (hM.out.later hb)
          clear hb
          go_wp2_with fail
          refine hK.out _ _ (hM.out.at 1 rfl) (fun hH => ?_)
          clear hK K
          try simp only [Act.put, p1, p2, p3]
          refine tk 4 rfl hH ?_
          simp only [Act.put, p1, p2, p3]
          refine tk 5 rfl hH ?_
          simp only [Act.put, p1, p2, p3]
          refine tk 6 rfl hH ?_
          simp only [Act.put, p1, p2, p3]
          refine tk 7 rfl hH ?_
          simp only [Act.put, p1, p2, p3]
          refine rd1 8 rfl (fun K hK => ?_)
          go_simp
          replace hM := hid (hM.out.bornR rl_zero.symm 24 rfl)
          refine hK.out _ _ (hM.out.at 2 rfl) (fun hH => ?_)
          clear hK K
          generalize W.heap.size = bq2 at hM hH ⊢
          generalize World.alloc _ _ = W at hM hH  ⊢
          try simp only [Act.put, p1, p2, p3]
          refine rd1 9 rfl (fun K hK => ?_)
          refine stR rfl (hM.out.at 0 rfl) ((rwR wz).len (rwR wz)) (rwR wz) ?_
          simp only [Act.put]
          replace hM := hid (hM.out.put 0 rfl (rl wz) ((rwR wz).len (rwR wz)))
          refine hK.out _ _ (hM.out.at 2 rfl) (fun hH => ?_)
          clear hK K
          generalize World.setCells _ _ _ _ = W at hM hH ⊢
          try simp only [Act.put, p1, p2, p3]
          refine tk 10 rfl hH ?_
          simp only [Act.put, p1, p2, p3]
          refine tk 11 rfl hH ?_
          simp only [Act.put, p1, p2, p3]
          refine wpAnyH_done (by kernel_rfl) ?_ _
          go_wp2_with fail
          replace hM := hid (hM.out.drew)
          refine wp_region_held_drew (S := fun w' => Bo w' bx1 [.int .i64 1, .int .i64 (-1)] ∧ Bo w' bq2 (rl wz)) (by kernel_rfl) ⟨hM.out.at 1 rfl, hM.out.at 0 rfl⟩ (fun hH => ?_)
          generalize World.drew _ = W at hM hH  ⊢
          refine tk 0 rfl hH ?_
          simp only [Act.put, p1, p2, p3]
          refine tkR 1 rfl hH (fun _ h => h.1) (rwF 1 (-1)) ?_
          simp only [Act.put, p1, p2, p3]
          refine rd1 2 rfl (fun K hK => ?_)
          go_simp
          refine (placed_errno 1 _ (HT.out.below hM.out.below)).mono ?_
          rintro e W ⟨rfl, hb⟩
          replace hM := hid (hM.out.later hb)
          clear hb
          go_wp2_with fail
          refine hK.out _ _ ⟨hM.out.at 1 rfl, hM.out.at 0 rfl⟩ (fun hH => ?_)
          clear hK K
          try simp only [Act.put, p1, p2, p3]
          refine tk 3 rfl hH ?_
          simp only [Act.put, p1, p2, p3]
          refine tkR 4 rfl hH (fun _ h => h.2) (rwR wz) ?_
          simp only [Act.put, p1, p2, p3]
          refine tk 5 rfl hH ?_
          simp only [Act.put, p1, p2, p3]
          refine rd1 6 rfl (fun K hK => ?_)
          go_simp
          refine (recordOf_nil _).mono ?_
          rintro e W ⟨rfl, hb⟩
          replace hM := hid (hM.out.later hb)
          clear hb
          go_wp2_with fail
          refine hK.out _ _ ⟨hM.out.at 1 rfl, hM.out.at 0 rfl⟩ (fun hH => ?_)
          clear hK K
          try simp only [Act.put, p1, p2, p3]
          refine tk 7 rfl hH ?_
          simp only [Act.put, p1, p2, p3]
          refine tk 8 rfl hH ?_
          simp only [Act.put, p1, p2, p3]
          refine tk 9 rfl hH ?_
          simp only [Act.put, p1, p2, p3]
          refine tk 10 rfl hH ?_
          simp only [Act.put, p1, p2, p3]
          refine tk 11 rfl hH ?_
          simp only [Act.put, p1, p2, p3]
          refine rd1 12 rfl (fun K hK => ?_)
          go_simp
          refine (sameDeeds_0 _ _ _ _ _).mono ?_
          rintro e W ⟨rfl, hb⟩
          replace hM := hid (hM.out.later hb)
          clear hb
          go_wp2_with fail
          refine hK.out _ _ ⟨hM.out.at 1 rfl, hM.out.at 0 rfl⟩ (fun hH => ?_)
          clear hK K
          try simp only [Act.put, p1, p2, p3]
          refine tk 13 rfl hH ?_
          simp only [Act.put, p1, p2, p3]
          refine tk 14 rfl hH ?_
          simp only [Act.put, p1, p2, p3]
          refine wpAnyH_done (by kernel_rfl) ?_ _
          go_wp2
          go_ret
          exact ⟨rfl, hM.out.below⟩
        refine rdc rfl (fun K hK => ?_) AllReadyH.nil
        go_simp
        replace hM := hid (hM.out.bornR rl_zero.symm 24 rfl)
        have hb := hM.out.step
        replace hA := hid (hA.out.later hb)
        clear hb
        refine hK.out _ _ (hM.out.at 2 rfl) (fun hH => ?_)
        clear hK K
        generalize W.heap.size = bq2 at hM hH ⊢
        generalize World.alloc _ _ = W at hM hH hA ⊢
        try simp only [Act.put, p1, p2, p3]
        refine rd1 3 rfl (fun K hK => ?_)
        go_simp
        refine (DO.out _ _ _).mono ?_
        rintro e W ⟨rfl, hb⟩
        replace hM := hid (hM.out.later hb)
        clear hb
        go_wp2_with fail
        refine hK.out _ _ (hM.out.at 2 rfl) (fun hH => ?_)
        clear hK K
        try simp only [Act.put, p1, p2, p3]
        refine tk 4 rfl hH ?_
        simp only [Act.put, p1, p2, p3]
        refine tk 5 rfl hH ?_
        simp only [Act.put, p1, p2, p3]
        refine tk 6 rfl hH ?_
        simp only [Act.put, p1, p2, p3]
        refine tk 7 rfl hH ?_
        simp only [Act.put, p1, p2, p3]
        refine rd1 9 rfl (fun K hK => ?_)
        refine stR rfl (hM.out.at 0 rfl) ((rwR wz).len (rwR wz)) (rwR wz) ?_
        simp only [Act.put]
        replace hM := hid (hM.out.put 0 rfl (rl wz) ((rwR wz).len (rwR wz)))
        refine hK.out _ _ (hM.out.at 2 rfl) (fun hH => ?_)
        clear hK K
        generalize World.setCells _ _ _ _ = W at hM hH ⊢
        try simp only [Act.put, p1, p2, p3]
        refine tk 10 rfl hH ?_
        simp only [Act.put, p1, p2, p3]
        refine tk 11 rfl hH ?_
        simp only [Act.put, p1, p2, p3]
        refine wpAnyH_done (by kernel_rfl) ?_ _
        go_wp2_with fail
        replace hM := hid (hM.out.drew)
        refine wp_region_held_drew (S := fun w' => Bo w' bx1 [.int .i64 1, .int .i64 (-1)] ∧ Bo w' bq2 (rl wz)) (by kernel_rfl) ⟨hM.out.at 1 rfl, hM.out.at 0 rfl⟩ (fun hH => ?_)
        generalize World.drew _ = W at hM hH  ⊢
        refine tk 0 rfl hH ?_
        simp only [Act.put, p1, p2, p3]
        refine tkR 1 rfl hH (fun _ h => h.1) (rwF 1 (-1)) ?_
        simp only [Act.put, p1, p2, p3]
        refine rd1 2 rfl (fun K hK => ?_)
        go_simp
        refine (placed_errno 1 _ (HT.out.below hM.out.below)).mono ?_
        rintro e W ⟨rfl, hb⟩
        replace hM := hid (hM.out.later hb)
        clear hb
        go_wp2_with fail
        refine hK.out _ _ ⟨hM.out.at 1 rfl, hM.out.at 0 rfl⟩ (fun hH => ?_)
        clear hK K
        try simp only [Act.put, p1, p2, p3]
        refine tk 3 rfl hH ?_
        simp only [Act.put, p1, p2, p3]
        refine tkR 4 rfl hH (fun _ h => h.2) (rwR wz) ?_
        simp only [Act.put, p1, p2, p3]
        refine tk 5 rfl hH ?_
        simp only [Act.put, p1, p2, p3]
        refine rd1 6 rfl (fun K hK => ?_)
        go_simp
        refine (recordOf_nil _).mono ?_
        rintro e W ⟨rfl, hb⟩
        replace hM := hid (hM.out.later hb)
        clear hb
        go_wp2_with fail
        refine hK.out _ _ ⟨hM.out.at 1 rfl, hM.out.at 0 rfl⟩ (fun hH => ?_)
        clear hK K
        try simp only [Act.put, p1, p2, p3]
        refine tk 7 rfl hH ?_
        simp only [Act.put, p1, p2, p3]
        refine tk 8 rfl hH ?_
        simp only [Act.put, p1, p2, p3]
        refine tk 9 rfl hH ?_
        simp only [Act.put, p1, p2, p3]
        refine tk 10 rfl hH ?_
        simp only [Act.put, p1, p2, p3]
        refine tk 11 rfl hH ?_
        simp only [Act.put, p1, p2, p3]
        refine rd1 12 rfl (fun K hK => ?_)
        go_simp
        refine (sameDeeds_0 _ _ _ _ _).mono ?_
        rintro e W ⟨rfl, hb⟩
        replace hM := hid (hM.out.later hb)
        clear hb
        go_wp2_with fail
        refine hK.out _ _ ⟨hM.out.at 1 rfl, hM.out.at 0 rfl⟩ (fun hH => ?_)
        clear hK K
        try simp only [Act.put, p1, p2, p3]
        refine tk 13 rfl hH ?_
        simp only [Act.put, p1, p2, p3]
        refine tk 14 rfl hH ?_
        simp only [Act.put, p1, p2, p3]
        refine wpAnyH_done (by kernel_rfl) ?_ _
        go_wp2
        go_ret
        exact ⟨rfl, hM.out.below⟩
      refine rdc rfl (fun K hK => ?_) AllReadyH.nil
      go_simp
      replace hM := hid (hM.out.bornR rl_zero.symm 24 rfl)
      refine hK.out _ _ (hM.out.at 2 rfl) (fun hH => ?_)
      clear hK K
      generalize W.heap.size = bq2 at hM hH ⊢
      generalize World.alloc _ _ = W at hM hH  ⊢
      try simp only [Act.put, p1, p2, p3]
      refine rd1 2 rfl (fun K hK => ?_)
      go_simp
      refine (AO.out (D1.out.later hM.out.below)).mono ?_
      rintro e W ⟨a2, c2, rfl, hA, hb⟩
      replace hM := hid (hM.out.later hb)
      clear hb
      replace hA : Hid _ := hid hA
      go_wp2_with fail
      refine hK.out _ _ (hM.out.at 2 rfl) (fun hH => ?_)
      clear hK K
      try simp only [Act.put, p1, p2, p3]
      refine rd1 3 rfl (fun K hK => ?_)
      go_simp
      refine (DO.out _ _ _).mono ?_
      rintro e W ⟨rfl, hb⟩
      replace hM := hid (hM.out.later hb)
      clear hb
      go_wp2_with fail
      refine hK.out _ _ (hM.out.at 2 rfl) (fun hH => ?_)
      clear hK K
      try simp only [Act.put, p1, p2, p3]
      refine tk 4 rfl hH ?_
      simp only [Act.put, p1, p2, p3]
      refine tk 5 rfl hH ?_
      simp only [Act.put, p1, p2, p3]
      refine tk 6 rfl hH ?_
      simp only [Act.put, p1, p2, p3]
      refine tk 7 rfl hH ?_
      simp only [Act.put, p1, p2, p3]
      refine rd1 9 rfl (fun K hK => ?_)
      refine stR rfl (hM.out.at 0 rfl) ((rwR wz).len (rwR wz)) (rwR wz) ?_
      simp only [Act.put]
      replace hM := hid (hM.out.put 0 rfl (rl wz) ((rwR wz).len (rwR wz)))
      refine hK.out _ _ (hM.out.at 2 rfl) (fun hH => ?_)
      clear hK K
      generalize World.setCells _ _ _ _ = W at hM hH ⊢
      try simp only [Act.put, p1, p2, p3]
      refine tk 10 rfl hH ?_
      simp only [Act.put, p1, p2, p3]
      refine tk 11 rfl hH ?_
      simp only [Act.put, p1, p2, p3]
      refine wpAnyH_done (by kernel_rfl) ?_ _
      go_wp2_with fail
      replace hM := hid (hM.out.drew)
      refine wp_region_held_drew (S := fun w' => Bo w' bx1 [.int .i64 1, .int .i64 (-1)] ∧ Bo w' bq2 (rl wz)) (by kernel_rfl) ⟨hM.out.at 1 rfl, hM.out.at 0 rfl⟩ (fun hH => ?_)
      generalize World.drew _ = W at hM hH  ⊢
      refine tk 0 rfl hH ?_
      simp only [Act.put, p1, p2, p3]
      refine tkR 1 rfl hH (fun _ h => h.1) (rwF 1 (-1)) ?_
      simp only [Act.put, p1, p2, p3]
      refine rd1 2 rfl (fun K hK => ?_)
      go_simp
      refine (placed_errno 1 _ (HT.out.below hM.out.below)).mono ?_
      rintro e W ⟨rfl, hb⟩
      replace hM := hid (hM.out.later hb)
      clear hb
      go_wp2_with fail
      refine hK.out _ _ ⟨hM.out.at 1 rfl, hM.out.at 0 rfl⟩ (fun hH => ?_)
      clear hK K
      try simp only [Act.put, p1, p2, p3]
      refine tk 3 rfl hH ?_
      simp only [Act.put, p1, p2, p3]
      refine tkR 4 rfl hH (fun _ h => h.2) (rwR wz) ?_
      simp only [Act.put, p1, p2, p3]
      refine tk 5 rfl hH ?_
      simp only [Act.put, p1, p2, p3]
      refine rd1 6 rfl (fun K hK => ?_)
      go_simp
      refine (recordOf_nil _).mono ?_
      rintro e W ⟨rfl, hb⟩
      replace hM := hid (hM.out.later hb)
      clear hb
      go_wp2_with fail
      refine hK.out _ _ ⟨hM.out.at 1 rfl, hM.out.at 0 rfl⟩ (fun hH => ?_)
      clear hK K
      try simp only [Act.put, p1, p2, p3]
      refine tk 7 rfl hH ?_
      simp only [Act.put, p1, p2, p3]
      refine tk 8 rfl hH ?_
      simp only [Act.put, p1, p2, p3]
      refine tk 9 rfl hH ?_
      simp only [Act.put, p1, p2, p3]
      refine tk 10 rfl hH ?_
      simp only [Act.put, p1, p2, p3]
      refine tk 11 rfl hH ?_
      simp only [Act.put, p1, p2, p3]
      refine rd1 12 rfl (fun K hK => ?_)
      go_simp
      refine (sameDeeds_0 _ _ _ _ _).mono ?_
      rintro e W ⟨rfl, hb⟩
      replace hM := hid (hM.out.later hb)
      clear hb
      go_wp2_with fail
      refine hK.out _ _ ⟨hM.out.at 1 rfl, hM.out.at 0 rfl⟩ (fun hH => ?_)
      clear hK K
      try simp only [Act.put, p1, p2, p3]
      refine tk 13 rfl hH ?_
      simp only [Act.put, p1, p2, p3]
      refine tk 14 rfl hH ?_
      simp only [Act.put, p1, p2, p3]
      refine wpAnyH_done (by kernel_rfl) ?_ _
      go_wp2
      go_ret
      exact ⟨rfl, hM.out.below⟩


set_option maxRecDepth 100000 in
theorem lifted (os : Os) (started : os.Started) (H : Type) (enc : TypeId × Value → H) :
    ReturnsInHanded {} Tryz.checked os 3 .any (fun w args => (Rows.batchDoesSpec.pre enc Tryz.prog Tryz.f3 [] false w args ∧ laidMetH Tryz.prog laidHandle w) ∧ sizedMet enc Tryz.prog Tryz.f3 (OpenSpec.ofChange Rows.batchDoesSpec) false w args)
      (Rows.batchDoesSpec.post enc Tryz.prog Tryz.f3 false true false false) := by
  refine returnsInHanded_of_change_and (C := Tryz.checked) (X := fun w _ => laidMetH Tryz.prog laidHandle w) (fun _ _ _ hh h => h.of_heap hh) own started (by kernel_rfl) Tryz.func3
    (ChangeSpec.witness_shaped (enc := enc) (C := Tryz.checked) (os := os) (X := fun w _ => laidMetH Tryz.prog laidHandle w) false (World.doorLaid Tryz.prog 400 os) #[.agg #[.int .u64 0, .int .u64 0, .int .u64 0, .int .u64 0, .int .u64 0, .int .u64 0, .int .u64 0, .int .u64 0, .int .u64 0, .int .u64 0, .int .u64 0, .int .u64 0, .int .u64 0, .int .u64 0, .int .u64 0, .int .u64 0, .int .u64 0, .int .u64 0, .int .u64 0, .int .u64 0, .int .u64 0, .int .u64 0, .int .u64 0, .int .u64 0, .int .u64 0, .int .u64 0, .int .u64 0, .int .u64 0, .int .u64 0, .int .u64 0, .int .u64 0, .int .u64 0], .slice none 0 0] 8 rfl (World.shaped_of_RefB (by kernel_rfl) (by kernel_rfl)) (by kernel_rfl) (by kernel_rfl) (by kernel_rfl) (door_handle os _)) ?_
  intro W base args ds gs before hval0 hW _ _ hL _
  have hval : ∀ (j : Nat) t v, Tryz.f3.params[j]? = some t → args[j]? = some v → Value.okWide Tryz.prog W .any base t v := hval0
  have hW' := hW
  obtain ⟨p, q, hA0, hV, rfl, hfz, hnd⟩ := hW
  have hA : DataW.TrodAll enc Tryz.prog W 0 (fun _ => true) true Tryz.f3.params.toList args.toList ds p := hA0
  rw [Tryz.params3] at hA hval
  obtain ⟨v0, vs0, d0, ds0, p0, q0, hargs, rfl, rfl, h0, r0⟩ := trodAll_cons hA
  obtain ⟨v1, vs1, d1, ds1, p1, q1, rfl, rfl, rfl, h1, r1⟩ := trodAll_cons r0
  obtain ⟨rfl, rfl, rfl⟩ := trodAll_nil r1
  obtain rfl : args = #[v0, v1] := by cases args; simp_all
  obtain ⟨rfl, rfl⟩ := trodVars_none hV
  obtain ⟨t0, rfl, u0⟩ := record_of_trod (hval 0 24 v0 rfl rfl) h0
  obtain ⟨n1, q1, D1⟩ := asks_of_trod (hval 1 25 v1 rfl rfl) h1
  have hT := handle_of_laid hL
  have hlt := hW'.lt
  clear hA0 hval0
  refine (walk t0 v1 n1 q1 u0 W hT D1).mono fun e W' ⟨he, hg⟩ => ?_
  subst he
  exact ⟨_, rfl, post_below (pv := []) hW' (fun _ _ _ => (trodAll_cons_mk (shut_bool Tryz.underlying4 _) trodAll_mk0)) (fun sp hsp => (trodAll_cons_mk (record_stay h0 hg (fun x hx => hlt x (by simp [hx])) (fun x hx => hsp x (by simp [hx]))) (trodAll_cons_mk (asks_stay h1 hg (fun x hx => hlt x (by simp [hx])) (fun x hx => hsp x (by simp [hx]))) trodAll_mk0))) (fun _ _ => rfl) (by simp) (hg.frame _)⟩

theorem over : Rows.BatchDoesSaid :=
  OpenClaim.holds_of_wide 3 Tryz.f3 rfl rfl rfl rfl rfl rfl rfl ⟨rfl, rfl, rfl, rfl, rfl⟩ rfl rfl rfl rfl rfl (by kernel_rfl) Tryz.func3 (by kernel_rfl)
    (of_decide_eq_true (by kernel_rfl)) (by unfold Func.isWrapper; first | (rw [if_pos (by decide +kernel)]; kernel_rfl) | (rw [if_neg (by decide +kernel)]; exact ⟨rfl, rfl⟩))
    (fun os started H enc _ => lifted os started H enc)

theorem proved : Rows.BatchDoesCardSaid :=
  Claim7.holds_tied_plain_at .later [] [.handle] true (true, "a91206407ffc9ac50704e0f9d15d4c21b102433ee895ea6e11b36374faea923f") true
    over (fun _ h => by cases h) (by kernel_rfl) (fun _ h => by cases h) batchDoes_row_tie rfl ⟨rfl, rfl⟩ (by kernel_rfl) rfl
    (fun f fn hf hfn => by
      obtain rfl : f = 3 := Option.some.inj ((show Tryz.prog.funcNamed "gristmill/gristmilllaw.BatchDoes" = some 3 by kernel_rfl).symm.trans hf) |>.symm
      obtain rfl : fn = Tryz.f3 := (Option.some.inj (Tryz.func3.symm.trans hfn)).symm
      exact ⟨by kernel_rfl, fun j t ht => by
        rw [Tryz.params3] at ht
        have hm : t ∈ [24, 25] := by simpa using Array.mem_of_getElem? ht
        have hall : ([24, 25].all fun u => !Tryz.prog.wantsStandIn u) = true := by kernel_rfl
        exact (show Tryz.prog.wantsStandIn t = false by simpa using List.all_eq_true.1 hall t hm)⟩)
    (by kernel_rfl)
#print axioms proved
end Go.Proofs.YteogbpaaacmllaaGreatDoor.Tab.batchDoes
