/- Texts laid together: The keepers written, by its contract, with the version; Rows of deeds that are read, and append of one to another; The library Equal of deeds that are the same, by its contract; Records are held against each other; The library's handle of the type error, off the row's condition; Asks of threads that are all others: answered once; facts of no program, and append of an ask; The library ContainsFunc with the function of BatchOnce, by its contract. -/
import Derived.Test.YteogbpaaacmllaaGreatDoorPk07
import Derived.Test.YteogbpaaacmllaaGreatDoorPk03
import Derived.Deep.DeepCutAuto
import Derived.Deep.RegionHeld3
import Derived.ChangeKeysEq
import Derived.Test.YteogbpaaacmllaaGreatDoorTie
import Derived.ProofKit
import Derived.LaidMore
import Derived.LaidLaws
import Derived.LaidHandle
import Derived.OpenShut
import Derived.Stop.Joined
import Derived.Test.YteogbpaaacmllaaGreatDoorPk08
namespace Go.Proofs.YteogbpaaacmllaaGreatDoor.Tab
set_option maxRecDepth 20000
open Go.RowKit
set_option linter.unusedVariables false

set_option maxHeartbeats 8000000 in
theorem written_vnil {kind m : Nat} (h1 : 1 ≤ kind) (h6 : kind ≤ 6) (w : World) :
    Calls Tryz.prog 16 #[.int .i64 (kind : Nat), .slice none 0 0] w (fun e w' => ∃ r, isRec r ∧ r 0 = kind ∧ r 28 ≤ 30 ∧ r 27 = 0 ∧ (m = 0 → rl r = rl (newR kind)) ∧ e = .returned (.agg (rl r).toArray) ∧ Below w.heap.size w w') := by
  have NW : Hid (∀ w : World, _) := recNew_yes h1 h6
  have NR : Hid (isRec (newR kind)) := newR_rec h1 h6
  clear h1 h6
  have hM : Hid _ := ((Ms.nil w).bornR rl_zero.symm 24 (b := w.heap.size) rfl)
  go_enter Tryz.func16, Tryz.ntmps16
  go_wp2_with fail
  generalize World.alloc _ _ = W at hM ⊢
  generalize hsz : w.heap.size = n at hM ⊢
  clear hsz
  refine (NW.out _).mono ?_
  rintro e W ⟨rfl, hb⟩
  replace hM := hid (hM.out.later hb)
  clear hb
  obtain ⟨bx1, hbx1⟩ : ∃ q, q = W.heap.size := ⟨_, rfl⟩
  replace hM := hid (hM.out.bornR rl_zero.symm 24 (b := bx1) hbx1)
  have Hbx1 : Hid _ := hbx1
  clear hbx1
  go_wp2_with (first
    | (rw [← Hbx1.out]; refine sR rfl (hM.out.at 0 rfl) rfl ((rwR wz).len (rwR (newR kind))) (rwR (newR kind)) ?_
       replace hM := hid (hM.out.put 0 rfl (rl (newR kind)) ((rwR wz).len (rwR (newR kind))))
       generalize World.setCells _ _ _ _ = W at hM ⊢))
  go_loopg [22] 0 (fun gg s22 wt => wt = W ∧ s22 = .int .i64 0)
  case atStart => exact ⟨rfl, rfl⟩
  case round =>
    obtain ⟨hw, rfl⟩ := hrel
    rw [hw]; clear hw wr
    go_wp2_with (first
      | (refine lR rfl (hM.out.at 0 rfl) rfl (rwR (newR kind)) ?_)
      | (refine sR rfl (hM.out.at 1 rfl) rfl ((rwR wz).len (rwR (newR kind))) (rwR (newR kind)) ?_
         replace hM := hid (hM.out.put 1 rfl (rl (newR kind)) ((rwR wz).len (rwR (newR kind))))
         generalize World.setCells _ _ _ _ = W at hM ⊢))
    exact bodyPost_ret (res1 Tryz.results16 (hM.out.at 1 rfl) (rwR (newR kind))) rfl ⟨newR kind, NR.out, by unfold newR; rw [if_pos rfl], by unfold newR; rw [if_neg (by decide)]; omega, by unfold newR; rw [if_neg (by decide)], fun _ => rfl, rfl, hM.out.below⟩
set_option maxHeartbeats 8000000 in
theorem written_vnone {kind m : Nat} (h1 : 1 ≤ kind) (h6 : kind ≤ 6) (a : Addr) (c : Nat) (w : World) :
    Calls Tryz.prog 16 #[.int .i64 (kind : Nat), .slice (some a) 0 c] w (fun e w' => ∃ r, isRec r ∧ r 0 = kind ∧ r 28 ≤ 30 ∧ r 27 = 0 ∧ (m = 0 → rl r = rl (newR kind)) ∧ e = .returned (.agg (rl r).toArray) ∧ Below w.heap.size w w') := by
  have NW : Hid (∀ w : World, _) := recNew_yes h1 h6
  have NR : Hid (isRec (newR kind)) := newR_rec h1 h6
  clear h1 h6
  have hM : Hid _ := ((Ms.nil w).bornR rl_zero.symm 24 (b := w.heap.size) rfl)
  go_enter Tryz.func16, Tryz.ntmps16
  go_wp2_with fail
  generalize World.alloc _ _ = W at hM ⊢
  generalize hsz : w.heap.size = n at hM ⊢
  clear hsz
  refine (NW.out _).mono ?_
  rintro e W ⟨rfl, hb⟩
  replace hM := hid (hM.out.later hb)
  clear hb
  obtain ⟨bx1, hbx1⟩ : ∃ q, q = W.heap.size := ⟨_, rfl⟩
  replace hM := hid (hM.out.bornR rl_zero.symm 24 (b := bx1) hbx1)
  have Hbx1 : Hid _ := hbx1
  clear hbx1
  go_wp2_with (first
    | (rw [← Hbx1.out]; refine sR rfl (hM.out.at 0 rfl) rfl ((rwR wz).len (rwR (newR kind))) (rwR (newR kind)) ?_
       replace hM := hid (hM.out.put 0 rfl (rl (newR kind)) ((rwR wz).len (rwR (newR kind))))
       generalize World.setCells _ _ _ _ = W at hM ⊢))
  go_loopg [22] 0 (fun gg s22 wt => wt = W ∧ s22 = .int .i64 0)
  case atStart => exact ⟨rfl, rfl⟩
  case round =>
    obtain ⟨hw, rfl⟩ := hrel
    rw [hw]; clear hw wr
    go_wp2_with (first
      | (refine lR rfl (hM.out.at 0 rfl) rfl (rwR (newR kind)) ?_)
      | (refine sR rfl (hM.out.at 1 rfl) rfl ((rwR wz).len (rwR (newR kind))) (rwR (newR kind)) ?_
         replace hM := hid (hM.out.put 1 rfl (rl (newR kind)) ((rwR wz).len (rwR (newR kind))))
         generalize World.setCells _ _ _ _ = W at hM ⊢))
    exact bodyPost_ret (res1 Tryz.results16 (hM.out.at 1 rfl) (rwR (newR kind))) rfl ⟨newR kind, NR.out, by unfold newR; rw [if_pos rfl], by unfold newR; rw [if_neg (by decide)]; omega, by unfold newR; rw [if_neg (by decide)], fun _ => rfl, rfl, hM.out.below⟩
set_option maxHeartbeats 8000000 in
theorem written_vsome {kind : Nat} (h1 : 1 ≤ kind) (h6 : kind ≤ 6) {v : Value} {b off c m : Nat} (hv : v = .slice (some ⟨b, off, none⟩) m c) (h0 : 0 < m) (hc : m ≤ c) (hm : m ≤ 9223372036854775807) (w : World) (D : Dds w v m) :
    Calls Tryz.prog 16 #[.int .i64 (kind : Nat), v] w (fun e w' => ∃ r, isRec r ∧ r 0 = kind ∧ r 28 ≤ 30 ∧ r 27 = 0 ∧ (m = 0 → rl r = rl (newR kind)) ∧ e = .returned (.agg (rl r).toArray) ∧ Below w.heap.size w w') := by
  have NW : Hid (∀ w : World, _) := recNew_yes h1 h6
  have NR : Hid (isRec (newR kind)) := newR_rec h1 h6
  have HE : Hid (∀ w', Below w.heap.size w w' → ∀ i, i < m → ∃ t o k x cc y : Int, w'.rangeAt b (off + i * 6) (dl t o k x cc y)) := by
    intro w' hb i hi
    rcases D.later hb with ⟨h, _⟩ | ⟨b2, off2, c2, hv2, _, _, _, hh⟩
    · omega
    · rw [hv] at hv2
      injection hv2 with e1 _ _
      injection e1 with e1
      injection e1 with e1 e2
      subst e1 e2
      exact hh i hi
  clear D
  subst hv
  obtain ⟨q, hq⟩ : ∃ q, q = min m 30 := ⟨_, rfl⟩
  have eq : min (m : Int) 30 = (q : Int) := by omega
  have eq2 : (if (30 : Int) < (m : Int) then (30 : Int) else (m : Int)) = (q : Int) := by split <;> omega
  have hqc : (q : Int) ≤ (c : Int) := by omega
  have hq0 : (0 : Int) ≤ (q : Int) := by omega
  have HQ : Hid (q ≤ m ∧ q ≤ 30 ∧ 0 < m) := (by omega : q ≤ m ∧ q ≤ 30 ∧ 0 < m)
  clear hq h0 hc hm h1 h6
  have hM : Hid _ := ((Ms.nil w).bornR rl_zero.symm 24 (b := w.heap.size) rfl)
  go_enter Tryz.func16, Tryz.ntmps16
  go_wp2_with fail
  generalize World.alloc _ _ = W at hM ⊢
  generalize hsz : w.heap.size = n at hM ⊢
  clear hsz
  refine (NW.out _).mono ?_
  rintro e W ⟨rfl, hb⟩
  replace hM := hid (hM.out.later hb)
  clear hb
  obtain ⟨bx1, hbx1⟩ : ∃ q, q = W.heap.size := ⟨_, rfl⟩
  replace hM := hid (hM.out.bornR rl_zero.symm 24 (b := bx1) hbx1)
  have Hbx1 : Hid _ := hbx1
  clear hbx1
  go_wp2_with (first
    | (rw [← Hbx1.out]; refine sR rfl (hM.out.at 0 rfl) rfl ((rwR wz).len (rwR (newR kind))) (rwR (newR kind)) ?_
       replace hM := hid (hM.out.put 0 rfl (rl (newR kind)) ((rwR wz).len (rwR (newR kind))))
       generalize World.setCells _ _ _ _ = W at hM ⊢))
  go_loopg [22] q (fun gg s22 wt => ∃ i : Nat, i ≤ q ∧ q - i ≤ gg ∧ s22 = .int .i64 i ∧ ∃ d, Hid (isRec d ∧ d 0 = kind ∧ d 28 ≤ i ∧ d 27 = 0) ∧ Hid (Ms n w wt [(bx1, rl d), (n, rl wz)] []))
  case atStart => exact ⟨0, by omega, by omega, rfl, newR kind, ⟨NR.out, by unfold newR; rw [if_pos rfl], by unfold newR; rw [if_neg (by decide)]; omega, by unfold newR; rw [if_neg (by decide)]⟩, hM⟩
  case round =>
    clear hM
    obtain ⟨i, hi, hgg, rfl, d, I, hM⟩ := hrel
    obtain ⟨W, rfl⟩ : ∃ q, q = wr := ⟨_, rfl⟩
    by_cases hlt : i < q
    · have hi1 : (i : Int) < (q : Int) := by omega
      have hi0 : (0 : Int) ≤ (i : Int) := by omega
      obtain ⟨t, o, k, x, cc, y, hr⟩ := HE.out W hM.out.below i (by have := HQ.out; omega)
      have RA : Hid _ := hr
      clear hr
      obtain ⟨tt, ht4, PT⟩ := pick4_is t
      have PK : Hid _ := PT
      clear PT
      by_cases hR : Rt o k x
      · have DO : Hid (∀ w : World, _) := recDone_yes I.out.1.u64 ht4 I.out.1 hR
        have I2 : Hid (isRec (rdo d tt o k x) ∧ (rdo d tt o k x) 0 = kind ∧ (rdo d tt o k x) 28 ≤ i + 1 ∧ (rdo d tt o k x) 27 = 0) := ⟨rdo_rec I.out.1 hR ht4 (by have := I.out.2.2.1; have := HQ.out; omega), by rw [rdo_0 ht4]; exact I.out.2.1, by rw [rdo_28]; have := I.out.2.2.1; omega, by rw [rdo_27 ht4]; exact I.out.2.2.2⟩
        generalize rdo d tt o k x = d2 at *
        clear hR ht4
        obtain ⟨bd, hbd⟩ : ∃ q, q = W.heap.size := ⟨_, rfl⟩
        have HBD : Hid _ := hbd
        clear hbd
        go_wp2_with (first
          | (refine lO rfl RA.out rfl (rwD t o k x cc y) ?_)
          | (rw [← HBD.out]
             replace hM := hid (hM.out.born [.int .i64 0, .int .i64 0, .int .i64 0, .int .i64 0, .int .i64 0, .int .i64 0] 60 HBD.out)
             refine sR rfl (hM.out.at 0 rfl) rfl ((rwD 0 0 0 0 0 0).len (rwD t o k x cc y)) (rwD t o k x cc y) ?_
             replace hM := hid (hM.out.put 0 rfl (dl t o k x cc y) ((rwD 0 0 0 0 0 0).len (rwD t o k x cc y)))
             generalize World.setCells _ _ _ _ = W at hM ⊢))
        replace hM := hid (hM.out.drew)
        refine wp_region_held_drew (S := fun w' => Bo w' bx1 (rl d) ∧ Bo w' bd (dl t o k x cc y)) (by kernel_rfl) ⟨hM.out.at 1 rfl, hM.out.at 0 rfl⟩ (fun hH => ?_)
        generalize World.drew _ = W at hM hH  ⊢
        refine tkR 0 rfl hH (fun _ h => h.1) (rwR d) ?_
        simp only [Act.put, p1, p2, p3]
        refine tk 1 rfl hH ?_
        simp only [Act.put, p1, p2, p3]
        refine tk 2 rfl hH ?_ (by intro w h; have c0 := h.2.at 0 rfl; clear h; go_simp; try with_reducible rfl)
        simp only [Act.put, p1, p2, p3]
        refine tk 4 rfl hH ?_
        simp only [Act.put, p1, p2, p3]
        refine tk 5 rfl hH ?_ (by intro w h; have c0 := h.2.at 1 rfl; have c1 := h.2.at 2 rfl; have c2 := h.2.at 3 rfl; clear h; go_simp; try with_reducible rfl)
        simp only [Act.put, p1, p2, p3]
        refine rdn [3, 10] ?_
        refine rdc rfl (fun K hK => ?_) ?_
        · go_simp
          refine (PK.out _).mono ?_
          rintro e W ⟨rfl, hb⟩
          replace hM := hid (hM.out.later hb)
          clear hb
          go_wp2_with fail
          refine hK.out _ _ ⟨hM.out.at 1 rfl, hM.out.at 0 rfl⟩ (fun hH => ?_)
          clear hK K
          try simp only [Act.put, p1, p2, p3]
          refine rdn [6, 10] ?_
          refine rdc rfl (fun K hK => ?_) ?_
          · go_simp
            refine (DO.out _).mono ?_
            rintro e W ⟨rfl, hb⟩
            replace hM := hid (hM.out.later hb)
            clear hb
            go_wp2_with fail
            refine hK.out _ _ ⟨hM.out.at 1 rfl, hM.out.at 0 rfl⟩ (fun hH => ?_)
            clear hK K
            try simp only [Act.put, p1, p2, p3]
            refine tk 7 rfl hH ?_
            simp only [Act.put, p1, p2, p3]
            refine tk 8 rfl hH ?_
            simp only [Act.put, p1, p2, p3]
            refine tk 9 rfl hH ?_
            simp only [Act.put, p1, p2, p3]
            refine rd1 10 rfl (fun K hK => ?_)
            go_simp
            replace hM := hid (hM.out.bornR rl_zero.symm 24 rfl)
            refine hK.out _ _ ⟨hM.out.at 2 rfl, hM.out.at 1 rfl⟩ (fun hH => ?_)
            clear hK K
            generalize W.heap.size = bq2 at hM hH ⊢
            generalize World.alloc _ _ = W at hM hH  ⊢
            try simp only [Act.put, p1, p2, p3]
            refine rd1 11 rfl (fun K hK => ?_)
            refine stR rfl (hM.out.at 0 rfl) ((rwR wz).len (rwR d2)) (rwR d2) ?_
            simp only [Act.put]
            replace hM := hid (hM.out.put 0 rfl (rl d2) ((rwR wz).len (rwR d2)))
            refine hK.out _ _ ⟨hM.out.at 2 rfl, hM.out.at 1 rfl⟩ (fun hH => ?_)
            clear hK K
            generalize World.setCells _ _ _ _ = W at hM hH ⊢
            try simp only [Act.put, p1, p2, p3]
            refine tk 12 rfl hH ?_
            simp only [Act.put, p1, p2, p3]
            refine wpAnyH_done (by kernel_rfl) ?_ _
            go_wp2_with (first
              | (refine lR rfl (hM.out.at 0 rfl) rfl (rwR d2) ?_)
              | (refine sR rfl (hM.out.at 2 rfl) rfl ((rwR d).len (rwR d2)) (rwR d2) ?_
                 replace hM := hid (hM.out.put 2 rfl (rl d2) ((rwR d).len (rwR d2)))
                 generalize World.setCells _ _ _ _ = W at hM ⊢))
            go_roundg (q - (i + 1))
            case measure => omega
            case rel => exact ⟨i + 1, by omega, by omega, by go_num, d2, I2, hM.out.pick [2, 3]⟩
          refine rdc rfl (fun K hK => ?_) AllReadyH.nil
          go_simp
          replace hM := hid (hM.out.bornR rl_zero.symm 24 rfl)
          refine hK.out _ _ ⟨hM.out.at 2 rfl, hM.out.at 1 rfl⟩ (fun hH => ?_)
          clear hK K
          generalize W.heap.size = bq2 at hM hH ⊢
          generalize World.alloc _ _ = W at hM hH  ⊢
          try simp only [Act.put, p1, p2, p3]
          refine rd1 6 rfl (fun K hK => ?_)
          go_simp
          refine (DO.out _).mono ?_
          rintro e W ⟨rfl, hb⟩
          replace hM := hid (hM.out.later hb)
          clear hb
          go_wp2_with fail
          refine hK.out _ _ ⟨hM.out.at 2 rfl, hM.out.at 1 rfl⟩ (fun hH => ?_)
          clear hK K
          try simp only [Act.put, p1, p2, p3]
          refine tk 7 rfl hH ?_
          simp only [Act.put, p1, p2, p3]
          refine tk 8 rfl hH ?_
          simp only [Act.put, p1, p2, p3]
          refine tk 9 rfl hH ?_
          simp only [Act.put, p1, p2, p3]
          refine rd1 11 rfl (fun K hK => ?_)
          refine stR rfl (hM.out.at 0 rfl) ((rwR wz).len (rwR d2)) (rwR d2) ?_
          simp only [Act.put]
          replace hM := hid (hM.out.put 0 rfl (rl d2) ((rwR wz).len (rwR d2)))
          refine hK.out _ _ ⟨hM.out.at 2 rfl, hM.out.at 1 rfl⟩ (fun hH => ?_)
          clear hK K
          generalize World.setCells _ _ _ _ = W at hM hH ⊢
          try simp only [Act.put, p1, p2, p3]
          refine tk 12 rfl hH ?_
          simp only [Act.put, p1, p2, p3]
          refine wpAnyH_done (by kernel_rfl) ?_ _
          go_wp2_with (first
            | (refine lR rfl (hM.out.at 0 rfl) rfl (rwR d2) ?_)
            | (refine sR rfl (hM.out.at 2 rfl) rfl ((rwR d).len (rwR d2)) (rwR d2) ?_
               replace hM := hid (hM.out.put 2 rfl (rl d2) ((rwR d).len (rwR d2)))
               generalize World.setCells _ _ _ _ = W at hM ⊢))
          go_roundg (q - (i + 1))
          case measure => omega
          case rel => exact ⟨i + 1, by omega, by omega, by go_num, d2, I2, hM.out.pick [2, 3]⟩
        refine rdc rfl (fun K hK => ?_) AllReadyH.nil
        go_simp
        replace hM := hid (hM.out.bornR rl_zero.symm 24 rfl)
        refine hK.out _ _ ⟨hM.out.at 2 rfl, hM.out.at 1 rfl⟩ (fun hH => ?_)
        clear hK K
        generalize W.heap.size = bq2 at hM hH ⊢
        generalize World.alloc _ _ = W at hM hH  ⊢
        try simp only [Act.put, p1, p2, p3]
        refine rd1 3 rfl (fun K hK => ?_)
        go_simp
        refine (PK.out _).mono ?_
        rintro e W ⟨rfl, hb⟩
        replace hM := hid (hM.out.later hb)
        clear hb
        go_wp2_with fail
        refine hK.out _ _ ⟨hM.out.at 2 rfl, hM.out.at 1 rfl⟩ (fun hH => ?_)
        clear hK K
        try simp only [Act.put, p1, p2, p3]
        refine rd1 6 rfl (fun K hK => ?_)
        go_simp
        refine (DO.out _).mono ?_
        rintro e W ⟨rfl, hb⟩
        replace hM := hid (hM.out.later hb)
        clear hb
        go_wp2_with fail
        refine hK.out _ _ ⟨hM.out.at 2 rfl, hM.out.at 1 rfl⟩ (fun hH => ?_)
        clear hK K
        try simp only [Act.put, p1, p2, p3]
        refine tk 7 rfl hH ?_
        simp only [Act.put, p1, p2, p3]
        refine tk 8 rfl hH ?_
        simp only [Act.put, p1, p2, p3]
        refine tk 9 rfl hH ?_
        simp only [Act.put, p1, p2, p3]
        refine rd1 11 rfl (fun K hK => ?_)
        refine stR rfl (hM.out.at 0 rfl) ((rwR wz).len (rwR d2)) (rwR d2) ?_
        simp only [Act.put]
        replace hM := hid (hM.out.put 0 rfl (rl d2) ((rwR wz).len (rwR d2)))
        refine hK.out _ _ ⟨hM.out.at 2 rfl, hM.out.at 1 rfl⟩ (fun hH => ?_)
        clear hK K
        generalize World.setCells _ _ _ _ = W at hM hH ⊢
        try simp only [Act.put, p1, p2, p3]
        refine tk 12 rfl hH ?_
        simp only [Act.put, p1, p2, p3]
        refine wpAnyH_done (by kernel_rfl) ?_ _
        go_wp2_with (first
          | (refine lR rfl (hM.out.at 0 rfl) rfl (rwR d2) ?_)
          | (refine sR rfl (hM.out.at 2 rfl) rfl ((rwR d).len (rwR d2)) (rwR d2) ?_
             replace hM := hid (hM.out.put 2 rfl (rl d2) ((rwR d).len (rwR d2)))
             generalize World.setCells _ _ _ _ = W at hM ⊢))
        go_roundg (q - (i + 1))
        case measure => omega
        case rel => exact ⟨i + 1, by omega, by omega, by go_num, d2, I2, hM.out.pick [2, 3]⟩
      · have DO : Hid (∀ w : World, _) := recDone_wrong I.out.1.u64 ht4 I.out.1 hR
        clear hR ht4
        obtain ⟨bd, hbd⟩ : ∃ q, q = W.heap.size := ⟨_, rfl⟩
        have HBD : Hid _ := hbd
        clear hbd
        go_wp2_with (first
          | (refine lO rfl RA.out rfl (rwD t o k x cc y) ?_)
          | (rw [← HBD.out]
             replace hM := hid (hM.out.born [.int .i64 0, .int .i64 0, .int .i64 0, .int .i64 0, .int .i64 0, .int .i64 0] 60 HBD.out)
             refine sR rfl (hM.out.at 0 rfl) rfl ((rwD 0 0 0 0 0 0).len (rwD t o k x cc y)) (rwD t o k x cc y) ?_
             replace hM := hid (hM.out.put 0 rfl (dl t o k x cc y) ((rwD 0 0 0 0 0 0).len (rwD t o k x cc y)))
             generalize World.setCells _ _ _ _ = W at hM ⊢))
        replace hM := hid (hM.out.drew)
        refine wp_region_held_drew (S := fun w' => Bo w' bx1 (rl d) ∧ Bo w' bd (dl t o k x cc y)) (by kernel_rfl) ⟨hM.out.at 1 rfl, hM.out.at 0 rfl⟩ (fun hH => ?_)
        generalize World.drew _ = W at hM hH  ⊢
        refine tkR 0 rfl hH (fun _ h => h.1) (rwR d) ?_
        simp only [Act.put, p1, p2, p3]
        refine tk 1 rfl hH ?_
        simp only [Act.put, p1, p2, p3]
        refine tk 2 rfl hH ?_ (by intro w h; have c0 := h.2.at 0 rfl; clear h; go_simp; try with_reducible rfl)
        simp only [Act.put, p1, p2, p3]
        refine tk 4 rfl hH ?_
        simp only [Act.put, p1, p2, p3]
        refine tk 5 rfl hH ?_ (by intro w h; have c0 := h.2.at 1 rfl; have c1 := h.2.at 2 rfl; have c2 := h.2.at 3 rfl; clear h; go_simp; try with_reducible rfl)
        simp only [Act.put, p1, p2, p3]
        refine rdn [3, 10] ?_
        refine rdc rfl (fun K hK => ?_) ?_
        · go_simp
          refine (PK.out _).mono ?_
          rintro e W ⟨rfl, hb⟩
          replace hM := hid (hM.out.later hb)
          clear hb
          go_wp2_with fail
          refine hK.out _ _ ⟨hM.out.at 1 rfl, hM.out.at 0 rfl⟩ (fun hH => ?_)
          clear hK K
          try simp only [Act.put, p1, p2, p3]
          refine rdn [6, 10] ?_
          refine rdc rfl (fun K hK => ?_) ?_
          · go_simp
            refine (DO.out _).mono ?_
            rintro e W ⟨rfl, hb⟩
            replace hM := hid (hM.out.later hb)
            clear hb
            go_wp2_with fail
            refine hK.out _ _ ⟨hM.out.at 1 rfl, hM.out.at 0 rfl⟩ (fun hH => ?_)
            clear hK K
            try simp only [Act.put, p1, p2, p3]
            refine tk 7 rfl hH ?_
            simp only [Act.put, p1, p2, p3]
            refine tk 8 rfl hH ?_
            simp only [Act.put, p1, p2, p3]
            refine tk 9 rfl hH ?_
            simp only [Act.put, p1, p2, p3]
            refine rd1 10 rfl (fun K hK => ?_)
            go_simp
            replace hM := hid (hM.out.bornR rl_zero.symm 24 rfl)
            refine hK.out _ _ ⟨hM.out.at 2 rfl, hM.out.at 1 rfl⟩ (fun hH => ?_)
            clear hK K
            generalize W.heap.size = bq2 at hM hH ⊢
            generalize World.alloc _ _ = W at hM hH  ⊢
            try simp only [Act.put, p1, p2, p3]
            refine rd1 11 rfl (fun K hK => ?_)
            refine stR rfl (hM.out.at 0 rfl) ((rwR wz).len (rwR wz)) (rwR wz) ?_
            simp only [Act.put]
            replace hM := hid (hM.out.put 0 rfl (rl wz) ((rwR wz).len (rwR wz)))
            refine hK.out _ _ ⟨hM.out.at 2 rfl, hM.out.at 1 rfl⟩ (fun hH => ?_)
            clear hK K
            generalize World.setCells _ _ _ _ = W at hM hH ⊢
            try simp only [Act.put, p1, p2, p3]
            refine tk 12 rfl hH ?_
            simp only [Act.put, p1, p2, p3]
            refine wpAnyH_done (by kernel_rfl) ?_ _
            go_wp2
            go_roundg (q - (i + 1))
            case measure => omega
            case rel => exact ⟨i + 1, by omega, by omega, by go_num, d, ⟨I.out.1, I.out.2.1, Nat.le_succ_of_le I.out.2.2.1, I.out.2.2.2⟩, hM.out.pick [2, 3]⟩
          refine rdc rfl (fun K hK => ?_) AllReadyH.nil
          go_simp
          replace hM := hid (hM.out.bornR rl_zero.symm 24 rfl)
          refine hK.out _ _ ⟨hM.out.at 2 rfl, hM.out.at 1 rfl⟩ (fun hH => ?_)
          clear hK K
          generalize W.heap.size = bq2 at hM hH ⊢
          generalize World.alloc _ _ = W at hM hH  ⊢
          try simp only [Act.put, p1, p2, p3]
          refine rd1 6 rfl (fun K hK => ?_)
          go_simp
          refine (DO.out _).mono ?_
          rintro e W ⟨rfl, hb⟩
          replace hM := hid (hM.out.later hb)
          clear hb
          go_wp2_with fail
          refine hK.out _ _ ⟨hM.out.at 2 rfl, hM.out.at 1 rfl⟩ (fun hH => ?_)
          clear hK K
          try simp only [Act.put, p1, p2, p3]
          refine tk 7 rfl hH ?_
          simp only [Act.put, p1, p2, p3]
          refine tk 8 rfl hH ?_
          simp only [Act.put, p1, p2, p3]
          refine tk 9 rfl hH ?_
          simp only [Act.put, p1, p2, p3]
          refine rd1 11 rfl (fun K hK => ?_)
          refine stR rfl (hM.out.at 0 rfl) ((rwR wz).len (rwR wz)) (rwR wz) ?_
          simp only [Act.put]
          replace hM := hid (hM.out.put 0 rfl (rl wz) ((rwR wz).len (rwR wz)))
          refine hK.out _ _ ⟨hM.out.at 2 rfl, hM.out.at 1 rfl⟩ (fun hH => ?_)
          clear hK K
          generalize World.setCells _ _ _ _ = W at hM hH ⊢
          try simp only [Act.put, p1, p2, p3]
          refine tk 12 rfl hH ?_
          simp only [Act.put, p1, p2, p3]
          refine wpAnyH_done (by kernel_rfl) ?_ _
          go_wp2
          go_roundg (q - (i + 1))
          case measure => omega
          case rel => exact ⟨i + 1, by omega, by omega, by go_num, d, ⟨I.out.1, I.out.2.1, Nat.le_succ_of_le I.out.2.2.1, I.out.2.2.2⟩, hM.out.pick [2, 3]⟩
        refine rdc rfl (fun K hK => ?_) AllReadyH.nil
        go_simp
        replace hM := hid (hM.out.bornR rl_zero.symm 24 rfl)
        refine hK.out _ _ ⟨hM.out.at 2 rfl, hM.out.at 1 rfl⟩ (fun hH => ?_)
        clear hK K
        generalize W.heap.size = bq2 at hM hH ⊢
        generalize World.alloc _ _ = W at hM hH  ⊢
        try simp only [Act.put, p1, p2, p3]
        refine rd1 3 rfl (fun K hK => ?_)
        go_simp
        refine (PK.out _).mono ?_
        rintro e W ⟨rfl, hb⟩
        replace hM := hid (hM.out.later hb)
        clear hb
        go_wp2_with fail
        refine hK.out _ _ ⟨hM.out.at 2 rfl, hM.out.at 1 rfl⟩ (fun hH => ?_)
        clear hK K
        try simp only [Act.put, p1, p2, p3]
        refine rd1 6 rfl (fun K hK => ?_)
        go_simp
        refine (DO.out _).mono ?_
        rintro e W ⟨rfl, hb⟩
        replace hM := hid (hM.out.later hb)
        clear hb
        go_wp2_with fail
        refine hK.out _ _ ⟨hM.out.at 2 rfl, hM.out.at 1 rfl⟩ (fun hH => ?_)
        clear hK K
        try simp only [Act.put, p1, p2, p3]
        refine tk 7 rfl hH ?_
        simp only [Act.put, p1, p2, p3]
        refine tk 8 rfl hH ?_
        simp only [Act.put, p1, p2, p3]
        refine tk 9 rfl hH ?_
        simp only [Act.put, p1, p2, p3]
        refine rd1 11 rfl (fun K hK => ?_)
        refine stR rfl (hM.out.at 0 rfl) ((rwR wz).len (rwR wz)) (rwR wz) ?_
        simp only [Act.put]
        replace hM := hid (hM.out.put 0 rfl (rl wz) ((rwR wz).len (rwR wz)))
        refine hK.out _ _ ⟨hM.out.at 2 rfl, hM.out.at 1 rfl⟩ (fun hH => ?_)
        clear hK K
        generalize World.setCells _ _ _ _ = W at hM hH ⊢
        try simp only [Act.put, p1, p2, p3]
        refine tk 12 rfl hH ?_
        simp only [Act.put, p1, p2, p3]
        refine wpAnyH_done (by kernel_rfl) ?_ _
        go_wp2
        go_roundg (q - (i + 1))
        case measure => omega
        case rel => exact ⟨i + 1, by omega, by omega, by go_num, d, ⟨I.out.1, I.out.2.1, Nat.le_succ_of_le I.out.2.2.1, I.out.2.2.2⟩, hM.out.pick [2, 3]⟩
    · have hi1 : ¬ (i : Int) < (q : Int) := by omega
      go_wp2_with (first
        | (refine lR rfl (hM.out.at 0 rfl) rfl (rwR d) ?_)
        | (refine sR rfl (hM.out.at 1 rfl) rfl ((rwR wz).len (rwR d)) (rwR d) ?_
           replace hM := hid (hM.out.put 1 rfl (rl d) ((rwR wz).len (rwR d)))
           generalize World.setCells _ _ _ _ = W at hM ⊢))
      exact bodyPost_ret (res1 Tryz.results16 (hM.out.at 1 rfl) (rwR d)) rfl ⟨d, I.out.1, I.out.2.1, by have := I.out.2.2.1; have := HQ.out; omega, I.out.2.2.2, fun h => absurd h (by have := HQ.out; omega), rfl, hM.out.below⟩
theorem written_vis {kind : Nat} (h1 : 1 ≤ kind) (h6 : kind ≤ 6) {v : Value} {m : Nat} {w : World} (D : Dds w v m) :
    Calls Tryz.prog 16 #[.int .i64 (kind : Nat), v] w (fun e w' => ∃ r, isRec r ∧ r 0 = kind ∧ r 28 ≤ 30 ∧ r 27 = 0 ∧ (m = 0 → rl r = rl (newR kind)) ∧ e = .returned (.agg (rl r).toArray) ∧ Below w.heap.size w w') := by
  rcases id D with ⟨h0, a, c, hv, ha⟩ | ⟨b, off, c, hv, h0, hc, hm, _⟩
  · subst hv
    cases a with
    | none => obtain rfl := ha rfl; exact written_vnil h1 h6 w
    | some a => exact written_vnone h1 h6 a c w
  · exact written_vsome h1 h6 hv h0 hc hm w D
end Go.Proofs.YteogbpaaacmllaaGreatDoor.Tab
namespace Go.Proofs.YteogbpaaacmllaaGreatDoor.Tab
set_option maxRecDepth 20000
open Go.RowKit
set_option linter.unusedVariables false

/-- A row of deeds that lies somewhere, to be read. -/
def Ld (W : World) (v : Value) (l : List DD) : Prop :=
  (l = [] ∧ ∃ (a : Option Addr) (c : Nat), v = .slice a 0 c ∧ (a = none → c = 0)) ∨ ∃ g cap, v = .slice (some ⟨g, 0, none⟩) l.length cap ∧ l ≠ [] ∧ l.length ≤ cap ∧ Bo W g (dds l)
theorem Odd.ld {B : Nat} {W : World} {v : Value} {l : List DD} (h : Odd B W v l) : Ld W v l := by
  by_cases hl : l = []
  · subst hl
    rcases h.2 with ⟨e, _⟩ | ⟨g, cap, cur, e, _⟩
    · exact Or.inl ⟨rfl, none, 0, e, fun _ => rfl⟩
    · exact Or.inl ⟨rfl, _, _, e, fun h => by cases h⟩
  · rcases h.form with ⟨_, h⟩ | ⟨g, cap, h1, _, h3, h4⟩
    · exact absurd h hl
    · exact Or.inr ⟨g, cap, h1, hl, h3, h4⟩
theorem Ld.later {W W' : World} {v : Value} {l : List DD} (h : Ld W v l) (hb : Below W.heap.size W W') : Ld W' v l := by
  rcases h with h | ⟨g, cap, h1, h2, h3, h4⟩
  · exact Or.inl h
  · exact Or.inr ⟨g, cap, h1, h2, h3, h4.later hb⟩
theorem Ld.form {W : World} {v : Value} {l : List DD} (h : Ld W v l) : ∃ a c, v = .slice a l.length c := by
  rcases h with ⟨h, a, c, e, _⟩ | ⟨g, cap, h1, _⟩
  · exact ⟨a, c, by rw [h]; exact e⟩
  · exact ⟨_, _, h1⟩
theorem Ld.dq {W : World} {v : Value} {l : List DD} (h : Ld W v l) (hl : l.length ≤ 1000000) : Dq W v l.length (qof l) := by
  rcases h with ⟨h, a, c, e, hc⟩ | ⟨g, cap, h1, _, h3, h4⟩
  · exact Or.inl ⟨by rw [h]; rfl, a, c, e, hc⟩
  · rw [h1]; exact h4.dq (Nat.le_refl _) h3 hl
theorem dds_append (l m : List DD) : dds (l ++ m) = dds l ++ dds m := by simp [dds]
theorem dds_one (l : List DD) : ∀ u ∈ dds l, u.oneCell' = true := by
  intro u hu
  obtain ⟨d, _, hd⟩ := List.mem_flatMap.1 hu
  simp [DD.row, dl] at hd
  rcases hd with rfl | rfl | rfl | rfl | rfl | rfl <;> rfl
theorem Odd.onto {B : Nat} {W : World} {v u : Value} {l m : List DD} (h : Odd B W v l) (hB : B ≤ W.heap.size) (k : Ld W u m) (hn : l.length + m.length ≤ 1000000) (ty : TypeId) :
    ∃ v' W', (Builtin.append_ #[27, 27] ty #[v, u]).run Tryz.prog W = .ok v' W' ∧ Odd B W' v' (l ++ m) ∧ W.grownBy W' v.ownBlock := by
  obtain ⟨i0, hi, hz0, hz1, hz2⟩ := info_parts infoDeed
  have own : ∀ (a : Addr) (c : Nat), (∀ j x, (dds m)[j]? = some x → W.cell? (a.add j) = some x) →
      ∃ v' W', (Builtin.append_ #[27, 27] ty #[v, .slice (some a) m.length c]).run Tryz.prog W = .ok v' W' ∧ Odd B W' v' (l ++ m) ∧ W.grownBy W' v.ownBlock := by
    intro a c hc
    obtain ⟨v', w', hr, ho, hg, _⟩ := run_append_own (P := Tryz.prog) (w := W) B 27 ty 60 i0 (.agg #[.int .i64 0, .int .i64 0, .int .i64 0, .int .i64 0, .int .i64 0, .int .i64 0]) 6 48 deeds_desc hi hz0 hz1 hz2 rfl (by decide) v l.length (dds l) h a m.length c (dds m) (dds_length m) hc (dds_one m) (by unfold maxLen; omega) (by omega) hB
    refine ⟨v', w', hr, ?_, hg⟩
    unfold Odd
    rw [dds_append, List.length_append]
    exact ho
  rcases k with ⟨rfl, a, c, rfl, hc⟩ | ⟨g, cap, rfl, _, _, hG⟩
  · cases a with
    | none =>
      obtain rfl := hc rfl
      refine ⟨v, W, ?_, by rw [List.append_nil]; exact h, ⟨rfl, rfl, rfl, Nat.le_refl _, fun _ _ _ => rfl⟩⟩
      rcases h.2 with ⟨rfl, _⟩ | ⟨g, cap, cur, rfl, hb, hg, hn, hm, hs, ht⟩
      · simp [Builtin.append_, run_underlying deeds_desc, sizeOf, typeInfo, hi, Builtin.lenOf, Builtin.firstCells]
      · simp [Builtin.append_, run_underlying deeds_desc, sizeOf, typeInfo, hi, Builtin.lenOf, Builtin.firstCells, hn, storeCells]
    | some a => exact own a c (by intro j x hx; simp [dds] at hx)
  · exact own ⟨g, 0, none⟩ cap (fun j x hx => by rw [Addr.add_lit, Nat.zero_add]; exact hG.cell j x hx)
theorem wpList_ontoD {P : Program} (hP : P = Tryz.prog) {ops : Array Oper} {rest : List Oper} {o : Oper} {a : Act} {w : World} {Q : Exit → Act → World → Prop} (hgd : o.guard = none) (s x : Operand)
    (ho : o.op = .call { callee := .builtin .append, args := #[s, x], argTypes := #[27, 27] }) {B : Nat} {v u : Value} {l m : List DD} (hs : a.eval s = v) (hx : a.eval x = u) (hB : B ≤ w.heap.size) (h : Odd B w v l) (k : Ld w u m) (hn : l.length + m.length ≤ 1000000)
    (hk : ∀ v' w', Odd B w' v' (l ++ m) → Below B w w' → wpList P ops Q rest (a.put o.dst v') w') : wpList P ops Q (o :: rest) a w := by
  subst hP
  refine wpList_plain hgd fun K hK => ?_
  obtain ⟨v', w', hr, h2, h3⟩ := h.onto hB k hn o.type
  unfold Oper.wp execOp
  simp only [ho, resolve, invoke, builtin, Sem.run_bind, Sem.run_pure, Result.andThen_ok, List.map_toArray, List.map_cons, List.map_nil, hs, hx, hr]
  exact hK _ _ (hk v' w' h2 ((Below.refl _ w).grown h3 hB (fun j hj => (h.lt j hj).1)))
end Go.Proofs.YteogbpaaacmllaaGreatDoor.Tab
namespace Go.Proofs.YteogbpaaacmllaaGreatDoor.Tab
set_option maxRecDepth 20000
open Go.RowKit
set_option linter.unusedVariables false

theorem deed_self (t o k x c y : Int) (w : World) : (Op.equalIn 10000 60 (.agg (dl t o k x c y).toArray) (.agg (dl t o k x c y).toArray)).run Tryz.prog w = .ok true w := by
  show (Op.equalIn 10000 60 (.agg #[.int .i64 t, .int .i64 o, .int .i64 k, .int .i64 x, .int .i64 c, .int .i64 y]) (.agg #[.int .i64 t, .int .i64 o, .int .i64 k, .int .i64 x, .int .i64 c, .int .i64 y])).run Tryz.prog w = .ok true w
  go_simp
set_option maxHeartbeats 4000000 in
theorem equalD_0 (a1 : Option Addr) (c1 : Nat) (a2 : Option Addr) (c2 : Nat) (w : World) :
    Calls Tryz.prog 25 #[.slice a1 0 c1, .slice a2 0 c2] w (fun e w' => e = .returned (.bool true) ∧ Below w.heap.size w w') := by
  have hM : Hid _ := (Ms.nil w)
  go_enter Tryz.func25, Tryz.ntmps25
  go_wp2_with fail
  go_loopg [13] 0 (fun gg s13 wt => wt = w ∧ s13 = .int .i64 0)
  case atStart => exact ⟨rfl, rfl⟩
  case round =>
    obtain ⟨hw, rfl⟩ := hrel
    rw [hw]; clear hw wr
    go_wp2
    go_ret
    exact ⟨rfl, hM.out.below⟩
set_option maxHeartbeats 8000000 in
theorem equalD_n {b1 o1 c1 b2 o2 c2 n : Nat} {q : Nat → DD} (h1 : n ≤ c1) (h2 : n ≤ c2) (hn : n ≤ 1000000) (w : World) (D : Dq w (.slice (some ⟨b1, o1, none⟩) n c1) n q) (E : Dq w (.slice (some ⟨b2, o2, none⟩) n c2) n q) :
    Calls Tryz.prog 25 #[.slice (some ⟨b1, o1, none⟩) n c1, .slice (some ⟨b2, o2, none⟩) n c2] w (fun e w' => e = .returned (.bool true) ∧ Below w.heap.size w w') := by
  have HD : Hid _ := hid D.all
  have HE : Hid _ := hid E.all
  have HN : Hid (n ≤ 1000000) := hn
  clear D E hn
  have hM : Hid _ := (Ms.nil w)
  go_enter Tryz.func25, Tryz.ntmps25
  go_wp2_with fail
  generalize hsz : w.heap.size = n0 at hM ⊢
  clear hsz
  go_loopg [13] n (fun gg s13 wt => ∃ i : Nat, i ≤ n ∧ n - i ≤ gg ∧ s13 = .int .i64 i ∧ Hid (Ms n0 w wt [] []))
  case atStart => exact ⟨0, by omega, by omega, rfl, hM⟩
  case round =>
    clear hM
    obtain ⟨i, hi, hgg, rfl, hM⟩ := hrel
    obtain ⟨W, rfl⟩ : ∃ q, q = wr := ⟨_, rfl⟩
    by_cases hlt : i < n
    · have hi1 : (i : Int) < (n : Int) := by omega
      have hi0 : (0 : Int) ≤ (i : Int) := by omega
      obtain ⟨t, o, k, x, cc, y, hq, _⟩ := HD.out W hM.out.below i hlt
      have RD : Hid (∀ w', Below w.heap.size w w' → w'.rangeAt b1 (o1 + i * 6) (dl t o k x cc y)) := fun w' hb => by
        obtain ⟨t2, o3, k2, x2, c3, y2, hq2, hr⟩ := HD.out w' hb i hlt
        rw [hq] at hq2
        injection hq2 with e1 e2 e3 e4 e5 e6
        subst e1 e2 e3 e4 e5 e6
        exact hr
      have RE : Hid (∀ w', Below w.heap.size w w' → w'.rangeAt b2 (o2 + i * 6) (dl t o k x cc y)) := fun w' hb => by
        obtain ⟨t2, o3, k2, x2, c3, y2, hq2, hr⟩ := HE.out w' hb i hlt
        rw [hq] at hq2
        injection hq2 with e1 e2 e3 e4 e5 e6
        subst e1 e2 e3 e4 e5 e6
        exact hr
      clear hq
      have ES := deed_self t o k x cc y
      go_wp2_with fail
      replace hM := hid (hM.out.drew)
      refine wp_region_held_drew (S := fun w' => w'.rangeAt b1 (o1 + i * 6) (dl t o k x cc y) ∧ w'.rangeAt b2 (o2 + i * 6) (dl t o k x cc y)) (by kernel_rfl) ⟨RD.out _ hM.out.below, RE.out _ hM.out.below⟩ (fun hH => ?_)
      generalize World.drew _ = W at hM hH  ⊢
      refine tk 0 rfl hH ?_
      simp only [Act.put, p1, p2, p3]
      refine tk 1 rfl hH ?_
      simp only [Act.put, p1, p2, p3]
      refine tk 2 rfl hH ?_
      simp only [Act.put, p1, p2, p3]
      refine tkO 3 rfl hH (fun _ h => id (h.1)) (rwD t o k x cc y) ?_
      simp only [Act.put, p1, p2, p3]
      refine tk 4 rfl hH ?_
      simp only [Act.put, p1, p2, p3]
      refine tk 5 rfl hH ?_
      simp only [Act.put, p1, p2, p3]
      refine tk 6 rfl hH ?_
      simp only [Act.put, p1, p2, p3]
      refine tkO 7 rfl hH (fun _ h => id (h.2)) (rwD t o k x cc y) ?_
      simp only [Act.put, p1, p2, p3]
      refine tk 8 rfl hH ?_
      simp only [Act.put, p1, p2, p3]
      refine wpAnyH_done (by kernel_rfl) ?_ _
      go_wp2_with fail
      have hw : wrap64 ((i : Int) + 1) = ((i + 1 : Nat) : Int) := (by have := HN.out; unfold wrap64; omega)
      go_roundg (n - (i + 1))
      case measure => omega
      case rel => exact ⟨i + 1, by omega, by omega, by rw [hw], hM.out.pick []⟩
    · obtain rfl : i = n := by omega
      have hi1 : ¬ (i : Int) < (i : Int) := by omega
      go_wp2
      go_ret
      exact ⟨rfl, hM.out.below⟩
theorem equalD_is {v u : Value} {n : Nat} {q : Nat → DD} {w : World} (D : Dq w v n q) (E : Dq w u n q) (hn : n ≤ 1000000) :
    Calls Tryz.prog 25 #[v, u] w (fun e w' => e = .returned (.bool true) ∧ Below w.heap.size w w') := by
  rcases id D with ⟨h0, a, c, hv, _⟩ | ⟨b, off, c, hv, h0, hc, _, _⟩
  · rcases id E with ⟨_, a2, c2, hu, _⟩ | ⟨_, _, _, _, h1, _⟩
    · subst hv hu; exact equalD_0 a c a2 c2 w
    · omega
  · rcases id E with ⟨h1, _⟩ | ⟨b2, o2, c2, hu, _, hc2, _, _⟩
    · omega
    · subst hv hu; exact equalD_n hc hc2 hn w D E
end Go.Proofs.YteogbpaaacmllaaGreatDoor.Tab
namespace Go.Proofs.YteogbpaaacmllaaGreatDoor.Tab
set_option maxRecDepth 20000
open Go.RowKit
set_option linter.unusedVariables false
theorem rec_desc : Tryz.prog.underlying 24 = some (.array 32 22) := by kernel_rfl
theorem rpart0 (c : Nat → Nat) (w : World) : (part 22 (rl c).toArray 0).run Tryz.prog w = .ok (.int .u64 (c 0 : Nat)) w := by kernel_rfl
theorem rpart1 (c : Nat → Nat) (w : World) : (part 22 (rl c).toArray 1).run Tryz.prog w = .ok (.int .u64 (c 1 : Nat)) w := by kernel_rfl
theorem rpart2 (c : Nat → Nat) (w : World) : (part 22 (rl c).toArray 2).run Tryz.prog w = .ok (.int .u64 (c 2 : Nat)) w := by kernel_rfl
theorem rpart3 (c : Nat → Nat) (w : World) : (part 22 (rl c).toArray 3).run Tryz.prog w = .ok (.int .u64 (c 3 : Nat)) w := by kernel_rfl
theorem rpart4 (c : Nat → Nat) (w : World) : (part 22 (rl c).toArray 4).run Tryz.prog w = .ok (.int .u64 (c 4 : Nat)) w := by kernel_rfl
theorem rpart5 (c : Nat → Nat) (w : World) : (part 22 (rl c).toArray 5).run Tryz.prog w = .ok (.int .u64 (c 5 : Nat)) w := by kernel_rfl
theorem rpart6 (c : Nat → Nat) (w : World) : (part 22 (rl c).toArray 6).run Tryz.prog w = .ok (.int .u64 (c 6 : Nat)) w := by kernel_rfl
theorem rpart7 (c : Nat → Nat) (w : World) : (part 22 (rl c).toArray 7).run Tryz.prog w = .ok (.int .u64 (c 7 : Nat)) w := by kernel_rfl
theorem rpart8 (c : Nat → Nat) (w : World) : (part 22 (rl c).toArray 8).run Tryz.prog w = .ok (.int .u64 (c 8 : Nat)) w := by kernel_rfl
theorem rpart9 (c : Nat → Nat) (w : World) : (part 22 (rl c).toArray 9).run Tryz.prog w = .ok (.int .u64 (c 9 : Nat)) w := by kernel_rfl
theorem rpart10 (c : Nat → Nat) (w : World) : (part 22 (rl c).toArray 10).run Tryz.prog w = .ok (.int .u64 (c 10 : Nat)) w := by kernel_rfl
theorem rpart11 (c : Nat → Nat) (w : World) : (part 22 (rl c).toArray 11).run Tryz.prog w = .ok (.int .u64 (c 11 : Nat)) w := by kernel_rfl
theorem rpart12 (c : Nat → Nat) (w : World) : (part 22 (rl c).toArray 12).run Tryz.prog w = .ok (.int .u64 (c 12 : Nat)) w := by kernel_rfl
theorem rpart13 (c : Nat → Nat) (w : World) : (part 22 (rl c).toArray 13).run Tryz.prog w = .ok (.int .u64 (c 13 : Nat)) w := by kernel_rfl
theorem rpart14 (c : Nat → Nat) (w : World) : (part 22 (rl c).toArray 14).run Tryz.prog w = .ok (.int .u64 (c 14 : Nat)) w := by kernel_rfl
theorem rpart15 (c : Nat → Nat) (w : World) : (part 22 (rl c).toArray 15).run Tryz.prog w = .ok (.int .u64 (c 15 : Nat)) w := by kernel_rfl
theorem rpart16 (c : Nat → Nat) (w : World) : (part 22 (rl c).toArray 16).run Tryz.prog w = .ok (.int .u64 (c 16 : Nat)) w := by kernel_rfl
theorem rpart17 (c : Nat → Nat) (w : World) : (part 22 (rl c).toArray 17).run Tryz.prog w = .ok (.int .u64 (c 17 : Nat)) w := by kernel_rfl
theorem rpart18 (c : Nat → Nat) (w : World) : (part 22 (rl c).toArray 18).run Tryz.prog w = .ok (.int .u64 (c 18 : Nat)) w := by kernel_rfl
theorem rpart19 (c : Nat → Nat) (w : World) : (part 22 (rl c).toArray 19).run Tryz.prog w = .ok (.int .u64 (c 19 : Nat)) w := by kernel_rfl
theorem rpart20 (c : Nat → Nat) (w : World) : (part 22 (rl c).toArray 20).run Tryz.prog w = .ok (.int .u64 (c 20 : Nat)) w := by kernel_rfl
theorem rpart21 (c : Nat → Nat) (w : World) : (part 22 (rl c).toArray 21).run Tryz.prog w = .ok (.int .u64 (c 21 : Nat)) w := by kernel_rfl
theorem rpart22 (c : Nat → Nat) (w : World) : (part 22 (rl c).toArray 22).run Tryz.prog w = .ok (.int .u64 (c 22 : Nat)) w := by kernel_rfl
theorem rpart23 (c : Nat → Nat) (w : World) : (part 22 (rl c).toArray 23).run Tryz.prog w = .ok (.int .u64 (c 23 : Nat)) w := by kernel_rfl
theorem rpart24 (c : Nat → Nat) (w : World) : (part 22 (rl c).toArray 24).run Tryz.prog w = .ok (.int .u64 (c 24 : Nat)) w := by kernel_rfl
theorem rpart25 (c : Nat → Nat) (w : World) : (part 22 (rl c).toArray 25).run Tryz.prog w = .ok (.int .u64 (c 25 : Nat)) w := by kernel_rfl
theorem rpart26 (c : Nat → Nat) (w : World) : (part 22 (rl c).toArray 26).run Tryz.prog w = .ok (.int .u64 (c 26 : Nat)) w := by kernel_rfl
theorem rpart27 (c : Nat → Nat) (w : World) : (part 22 (rl c).toArray 27).run Tryz.prog w = .ok (.int .u64 (c 27 : Nat)) w := by kernel_rfl
theorem rpart28 (c : Nat → Nat) (w : World) : (part 22 (rl c).toArray 28).run Tryz.prog w = .ok (.int .u64 (c 28 : Nat)) w := by kernel_rfl
theorem rpart29 (c : Nat → Nat) (w : World) : (part 22 (rl c).toArray 29).run Tryz.prog w = .ok (.int .u64 (c 29 : Nat)) w := by kernel_rfl
theorem rpart30 (c : Nat → Nat) (w : World) : (part 22 (rl c).toArray 30).run Tryz.prog w = .ok (.int .u64 (c 30 : Nat)) w := by kernel_rfl
theorem rpart31 (c : Nat → Nat) (w : World) : (part 22 (rl c).toArray 31).run Tryz.prog w = .ok (.int .u64 (c 31 : Nat)) w := by kernel_rfl
theorem rword_equal (x : Int) (w : World) : (Op.equalIn 9999 22 (.int .u64 x) (.int .u64 x)).run Tryz.prog w = .ok true w := by
  go_simp
theorem rec_equal (c : Nat → Nat) (w : World) : (Op.equalIn 10000 24 (.agg (rl c).toArray) (.agg (rl c).toArray)).run Tryz.prog w = .ok true w := by
  have hc : Tryz.prog.cellsOf 22 = 1 := by kernel_rfl
  cases hi : Tryz.prog.info? 22 with
  | none => simp [Program.cellsOf, hi] at hc
  | some i =>
    have h := run_equalIn_array (w := w) 9999 (rl c).toArray (rl c).toArray rec_desc hi
    rw [h, hc]
    have hr : List.range 32 = [0, 1, 2, 3, 4, 5, 6, 7, 8, 9, 10, 11, 12, 13, 14, 15, 16, 17, 18, 19, 20, 21, 22, 23, 24, 25, 26, 27, 28, 29, 30, 31] := by decide
    rw [hr]
    simp [Op.eqItems, rpart0 c w, rpart1 c w, rpart2 c w, rpart3 c w, rpart4 c w, rpart5 c w, rpart6 c w, rpart7 c w, rpart8 c w, rpart9 c w, rpart10 c w, rpart11 c w, rpart12 c w, rpart13 c w, rpart14 c w, rpart15 c w, rpart16 c w, rpart17 c w, rpart18 c w, rpart19 c w, rpart20 c w, rpart21 c w, rpart22 c w, rpart23 c w, rpart24 c w, rpart25 c w, rpart26 c w, rpart27 c w, rpart28 c w, rpart29 c w, rpart30 c w, rpart31 c w, rword_equal]
theorem rec_zero (w : World) : (Op.equalIn 10000 24 (.agg (rl wz).toArray) (.agg #[.int .u64 0, .int .u64 0, .int .u64 0, .int .u64 0, .int .u64 0, .int .u64 0, .int .u64 0, .int .u64 0, .int .u64 0, .int .u64 0, .int .u64 0, .int .u64 0, .int .u64 0, .int .u64 0, .int .u64 0, .int .u64 0, .int .u64 0, .int .u64 0, .int .u64 0, .int .u64 0, .int .u64 0, .int .u64 0, .int .u64 0, .int .u64 0, .int .u64 0, .int .u64 0, .int .u64 0, .int .u64 0, .int .u64 0, .int .u64 0, .int .u64 0, .int .u64 0])).run Tryz.prog w = .ok true w := rec_equal wz w
end Go.Proofs.YteogbpaaacmllaaGreatDoor.Tab
namespace Go.Proofs.YteogbpaaacmllaaGreatDoor
set_option maxRecDepth 20000
open Go.ChangeShapes Go.WideShapes Go.ChangeAt Go.RowKit

theorem own : ownKnob Tryz.prog.godebug = none := by kernel_rfl
theorem gHandle : Tryz.prog.globalNamed "errors.errorType" = some 0 := by kernel_rfl
theorem rtHandle : (Tryz.prog.cutTypes.find? (·.1 == "internal/reflectlite.rtype")).map (·.2) = some 177 := by kernel_rfl
theorem oneRow : ((List.range 236).filter fun t => Tryz.prog.rowNamed t [101, 114, 114, 111, 114]) = [34] := by kernel_rfl
theorem typesSize : Tryz.prog.types.size = 236 := by kernel_rfl

abbrev laidHandle {H : Type} : List (String × DataW H) := [("errors.errorType", Rows.laid_errors_errorType)]

theorem door_handle (os : Os) (args : Array Value) : laidMetH Tryz.prog laidHandle ((World.doorLaid Tryz.prog 400 os).forCall (fun _ _ => 0) ⟨#[], args, []⟩).memory :=
  laidMetH_of_parts (laidMet_nil _ _) (by kernel_rfl)

theorem handle_of_laid {W : World} (h : laidMetH Tryz.prog laidHandle W) : HandleAt W := by
  have h' : laidMet Tryz.prog [] W ∧ handlesMet Tryz.prog laidHandle W := h
  obtain ⟨name, u, ty, e1, e2, e3, e4, e5⟩ := h'.2 _ (List.mem_singleton.2 rfl)
  have en : name = [101, 114, 114, 111, 114] := (Option.some.inj e1).symm
  subst en
  obtain rfl := Option.some.inj (rtHandle.symm.trans e2)
  have hm : ty ∈ (List.range 236).filter fun t => Tryz.prog.rowNamed t [101, 114, 114, 111, 114] := List.mem_filter.2 ⟨List.mem_range.2 (by rw [← typesSize]; exact e3), e4⟩
  rw [oneRow] at hm
  obtain rfl := List.mem_singleton.1 hm
  have hh : typeHandle Tryz.prog 34 = .pointer (some ⟨1, 34, none⟩) := by kernel_rfl
  rw [hh] at e5
  have := World.var?_cell gHandle e5 0
  rw [HandleAt, this]
  rfl
end Go.Proofs.YteogbpaaacmllaaGreatDoor
namespace Go.Proofs.YteogbpaaacmllaaGreatDoor.Tab
set_option maxRecDepth 20000
open Go.RowKit
set_option linter.unusedVariables false

theorem bt_nx {s : Nat → Nat} {a : AK} (hg : Ak1 a) : ((bt (nx s a) a.t.toNat : Nat) : Int) = a.g := by
  by_cases hs : a.g = (bt s a.t.toNat : Nat)
  · rw [nx_shut hs]; exact hs.symm
  · rw [nx_open hs]
    unfold bt at hs ⊢
    rw [rdo_26, Nat.testBit_xor, Nat.testBit_two_pow_self, Bool.xor_true]
    have h2 := hg.2
    cases h : (s 26).testBit a.t.toNat
    · rw [h] at hs
      rcases h2 with h2 | h2
      · exact absurd h2 hs
      · rw [h2]; rfl
    · rw [h] at hs
      rcases h2 with h2 | h2
      · rw [h2]; rfl
      · exact absurd h2 hs
theorem bt_nx_ne {s : Nat → Nat} {a : AK} {t : Nat} (h : t ≠ a.t.toNat) : bt (nx s a) t = bt s t := by
  by_cases hs : a.g = (bt s a.t.toNat : Nat)
  · rw [nx_shut hs]
  · rw [nx_open hs]
    unfold bt
    rw [rdo_26, Nat.testBit_xor, Nat.testBit_two_pow_of_ne (by omega), Bool.xor_false]
/-- Behind asks of threads that are all others each is answered. -/
theorem run_bt {s : Nat → Nat} {q : Nat → AK} : ∀ {n}, (∀ i, i < n → Gk (q i)) → (∀ i j, i < j → j < n → (q i).t ≠ (q j).t) → ∀ i, i < n → (q i).g = ((bt (st s q n) (q i).t.toNat : Nat) : Int)
  | n + 1, hg, hd, i, hi => by
    show (q i).g = ((bt (nx (st s q n) (q n)) (q i).t.toNat : Nat) : Int)
    by_cases e : i = n
    · subst e; exact (bt_nx (hg i hi).1).symm
    · have h1 := (hg i hi).1.1
      have h2 := (hg n (Nat.lt_succ_self n)).1.1
      have h3 := hd i n (by omega) (Nat.lt_succ_self n)
      rw [bt_nx_ne (by omega)]
      exact run_bt (fun j hj => hg j (by omega)) (fun a b h1 h2 => hd a b h1 (by omega)) i (by omega)
theorem all_shut {s : Nat → Nat} {q : Nat → AK} : ∀ {n}, (∀ i, i < n → (q i).g = ((bt s (q i).t.toNat : Nat) : Int)) → st s q n = s ∧ dn s q n = []
  | 0, _ => ⟨rfl, rfl⟩
  | n + 1, h => by
    obtain ⟨h1, h2⟩ := all_shut (s := s) (q := q) (n := n) fun i hi => h i (by omega)
    have hn := h n (Nat.lt_succ_self n)
    refine ⟨?_, ?_⟩
    · show nx (st s q n) (q n) = s
      rw [h1]; exact nx_shut hn
    · show dn s q n ++ nd' (st s q n) (q n) = []
      rw [h1, h2, nd_shut hn]; rfl
/-- Asks that may be, of threads that are all others. -/
def Un (l : List AK) : Prop := (∀ a, a ∈ l → Gk a) ∧ l.Pairwise fun a b => a.t ≠ b.t
theorem Un.nil : Un [] := ⟨fun a h => (by cases h), List.Pairwise.nil⟩
theorem Un.more {l : List AK} (h : Un l) {a : AK} (hg : Gk a) (hn : ∀ b, b ∈ l → b.t ≠ a.t) : Un (l ++ [a]) :=
  ⟨fun b hb => by
    rcases List.mem_append.1 hb with hb | hb
    · exact h.1 b hb
    · rw [List.mem_singleton.1 hb]; exact hg, List.pairwise_append.2 ⟨h.2, List.pairwise_singleton _ _, fun b hb c hc => by rw [List.mem_singleton.1 hc]; exact hn b hb⟩⟩
theorem Un.gk {l : List AK} (h : Un l) : ∀ i, i < l.length → Gk (aof l i) := fun i hi => h.1 _ (aof_mem hi)
theorem aof_get {l : List AK} {i : Nat} (hi : i < l.length) : aof l i = l[i] := by
  unfold aof
  rw [List.getD_eq_getElem?_getD, List.getElem?_eq_getElem hi]; rfl
theorem Un.ne {l : List AK} (h : Un l) : ∀ i j, i < j → j < l.length → (aof l i).t ≠ (aof l j).t := fun i j hi hj => by
  rw [aof_get hj, aof_get (show i < l.length by omega)]
  exact List.pairwise_iff_getElem.1 h.2 i j (by omega) hj hi
section
variable {P : Program} {ops : Array Oper} {rest : List Oper} {o : Oper} {a : Act} {w : World} {Q : Exit → Act → World → Prop}
theorem wpList_pushA (hP : P = Tryz.prog) (hgd : o.guard = none) (s x : Operand) (ho : o.op = .call { callee := .builtin .append, args := #[s, x], argTypes := #[37, 37] })
    {B : Nat} {v : Value} {l : List AK} {nb : Nat} {d : AK} (hs : a.eval s = v) (hx : a.eval x = .slice (some ⟨nb, 0, none⟩) 1 1) (hB : B ≤ w.heap.size) (h : Oak B w v l) (hc : Bo w nb d.row) (hn : l.length ≤ 1000000)
    (hk : ∀ v' w', Oak B w' v' (l ++ [d]) → Below B w w' → wpList P ops Q rest (a.put o.dst v') w') : wpList P ops Q (o :: rest) a w := by
  subst hP
  refine wpList_plain hgd fun K hK => ?_
  obtain ⟨v', w', hr, h2, h3⟩ := h.app hB hc hn o.type
  unfold Oper.wp execOp
  simp only [ho, resolve, invoke, builtin, Sem.run_bind, Sem.run_pure, Result.andThen_ok, List.map_toArray, List.map_cons, List.map_nil, hs, hx, hr]
  exact hK _ _ (hk v' w' h2 ((Below.refl _ w).grown h3 hB (fun j hj => (h.lt j hj).1)))
end
end Go.Proofs.YteogbpaaacmllaaGreatDoor.Tab
namespace Go.Proofs.YteogbpaaacmllaaGreatDoor.Tab
set_option maxRecDepth 20000
open Go.RowKit
set_option linter.unusedVariables false

set_option maxHeartbeats 2000000 in
theorem sameT_is {bx : Nat} (t2 g2 o2 k2 x2 t g o k x : Int) {v : Bool} (hv : (t2 == t) = v) (w : World) (hB : Bo w bx [.int .i64 t, .int .i64 g, .int .i64 o, .int .i64 k, .int .i64 x]) :
    Calls Tryz.prog 27 #[.agg #[.int .i64 t2, .int .i64 g2, .int .i64 o2, .int .i64 k2, .int .i64 x2], .pointer (some ⟨bx, 0, none⟩)] w (fun e w' => e = .returned (.bool v) ∧ Below w.heap.size w w') := by
  have HB : Hid _ := hB
  clear hB
  have hM : Hid _ := ((Ms.nil w).born [.int .i64 t2, .int .i64 g2, .int .i64 o2, .int .i64 k2, .int .i64 x2] 52 (b := w.heap.size) rfl)
  have c1 := hM.out.cell 0 0 rfl rfl
  have c9 := (HB.out.later hM.out.below).cell 0 _ rfl
  go_enter Tryz.func27, Tryz.ntmps27
  go_wp2
  go_ret
  exact ⟨rfl, hM.out.below⟩
set_option maxHeartbeats 2000000 in
theorem index_0 (a1 : Option Addr) (c1 : Nat) (q : Nat → AK) {bx : Nat} {t g o k x : Int} (w : World) (hB : Bo w bx [.int .i64 t, .int .i64 g, .int .i64 o, .int .i64 k, .int .i64 x]) :
    Calls Tryz.prog 45 #[.slice a1 0 c1, .func (.func 27) #[] #[.pointer (some ⟨bx, 0, none⟩)]] w (fun e w' => ∃ r : Int, e = .returned (.int .i64 r) ∧ ((r = -1 ∧ ∀ i, i < 0 → (q i).t ≠ t) ∨ 0 ≤ r ∧ ∃ i, i < 0 ∧ (q i).t = t) ∧ Below w.heap.size w w') := by
  clear hB
  have hM : Hid _ := (Ms.nil w)
  go_enter Tryz.func45, Tryz.ntmps45
  go_wp2_with fail
  go_loopg [8] 0 (fun gg s8 wt => wt = w ∧ s8 = .int .i64 0)
  case atStart => exact ⟨rfl, rfl⟩
  case round =>
    obtain ⟨hw, rfl⟩ := hrel
    rw [hw]; clear hw wr
    go_wp2
    go_ret
    exact ⟨-1, rfl, Or.inl ⟨rfl, fun i hi => absurd hi (Nat.not_lt_zero _)⟩, hM.out.below⟩
set_option maxHeartbeats 8000000 in
theorem index_n {b off c n : Nat} {q : Nat → AK} (hn : n ≤ 1000000) {bx : Nat} {t g o k x : Int} (w : World) (D : Aq w (.slice (some ⟨b, off, none⟩) n c) n q) (hB : Bo w bx [.int .i64 t, .int .i64 g, .int .i64 o, .int .i64 k, .int .i64 x]) :
    Calls Tryz.prog 45 #[.slice (some ⟨b, off, none⟩) n c, .func (.func 27) #[] #[.pointer (some ⟨bx, 0, none⟩)]] w (fun e w' => ∃ r : Int, e = .returned (.int .i64 r) ∧ ((r = -1 ∧ ∀ i, i < n → (q i).t ≠ t) ∨ 0 ≤ r ∧ ∃ i, i < n ∧ (q i).t = t) ∧ Below w.heap.size w w') := by
  have HE : Hid _ := hid D.all
  have HB : Hid _ := hB
  have HN : Hid (n ≤ 1000000) := hn
  clear D hB hn
  have hM : Hid _ := (Ms.nil w)
  go_enter Tryz.func45, Tryz.ntmps45
  go_wp2_with fail
  generalize hsz : w.heap.size = n0 at hM ⊢
  have HSZ : Hid (w.heap.size = n0) := hsz
  clear hsz
  go_loopg [8] n (fun gg s8 wt => ∃ i : Nat, i ≤ n ∧ n - i ≤ gg ∧ s8 = .int .i64 i ∧ Hid (∀ j, j < i → (q j).t ≠ t) ∧ Hid (Ms n0 w wt [] []))
  case atStart => exact ⟨0, by omega, by omega, rfl, hid (fun j hj => absurd hj (Nat.not_lt_zero _)), hM⟩
  case round =>
    clear hM
    obtain ⟨i, hi, hgg, rfl, HI, hM⟩ := hrel
    obtain ⟨W, rfl⟩ : ∃ q, q = wr := ⟨_, rfl⟩
    by_cases hlt : i < n
    · have hi1 : (i : Int) < (n : Int) := by omega
      have hi0 : (0 : Int) ≤ (i : Int) := by omega
      obtain ⟨t2, g2, o2, k2, x2, hq, hr⟩ := HE.out W hM.out.below i hlt
      have RA : Hid _ := hr
      have HQ : Hid _ := hid hq
      clear hr hq
      go_wp2_with (first
        | (refine lO rfl RA.out rfl (rwAk t2 g2 o2 k2 x2) ?_))
      by_cases ht : t2 = t
      · refine (sameT_is t2 g2 o2 k2 x2 t g o k x (v := true) (beq_iff_eq.2 ht) _ (HB.out.later hM.out.below)).mono ?_
        rintro e W ⟨rfl, hb⟩
        replace hM := hid (hM.out.later hb)
        clear hb
        go_wp2
        go_ret
        exact ⟨(i : Nat), rfl, Or.inr ⟨by omega, i, hlt, by rw [HQ.out]; exact ht⟩, hM.out.below⟩
      · refine (sameT_is t2 g2 o2 k2 x2 t g o k x (v := false) (beq_eq_false_iff_ne.2 ht) _ (HB.out.later hM.out.below)).mono ?_
        rintro e W ⟨rfl, hb⟩
        replace hM := hid (hM.out.later hb)
        clear hb
        have HT : Hid (t2 ≠ t) := ht
        clear ht
        go_wp2_with fail
        have hw : wrap64 ((i : Int) + 1) = ((i + 1 : Nat) : Int) := (by have := HN.out; unfold wrap64; omega)
        go_roundg (n - (i + 1))
        case measure => omega
        case rel => exact ⟨i + 1, by omega, by omega, by go_num, hid (fun j hj => by by_cases e : j = i; rw [e, HQ.out]; exact HT.out; exact HI.out j (by omega)), hM⟩
    · obtain rfl : i = n := by omega
      have hi1 : ¬ (i : Int) < (i : Int) := by omega
      go_wp2
      go_ret
      exact ⟨-1, rfl, Or.inl ⟨rfl, HI.out⟩, hM.out.below⟩
theorem index_is {v : Value} {n : Nat} {q : Nat → AK} (hn : n ≤ 1000000) {bx : Nat} {t g o k x : Int} {w : World} (D : Aq w v n q) (hB : Bo w bx [.int .i64 t, .int .i64 g, .int .i64 o, .int .i64 k, .int .i64 x]) :
    Calls Tryz.prog 45 #[v, .func (.func 27) #[] #[.pointer (some ⟨bx, 0, none⟩)]] w (fun e w' => ∃ r : Int, e = .returned (.int .i64 r) ∧ ((r = -1 ∧ ∀ i, i < n → (q i).t ≠ t) ∨ 0 ≤ r ∧ ∃ i, i < n ∧ (q i).t = t) ∧ Below w.heap.size w w') := by
  rcases id D with ⟨h0, a, c, hv, _⟩ | ⟨b, off, c, hv, _, _, _, _⟩
  · subst hv h0; exact index_0 a c q w hB
  · subst hv; exact index_n hn w D hB
set_option maxHeartbeats 2000000 in
theorem contains_is (a1 : Option Addr) (c1 : Nat) {n : Nat} {q : Nat → AK} (hn : n ≤ 1000000) {bx : Nat} {t g o k x : Int} (w : World) (D : Aq w (.slice a1 n c1) n q) (hB : Bo w bx [.int .i64 t, .int .i64 g, .int .i64 o, .int .i64 k, .int .i64 x]) :
    Calls Tryz.prog 26 #[.slice a1 n c1, .func (.func 27) #[] #[.pointer (some ⟨bx, 0, none⟩)]] w (fun e w' => ∃ b : Bool, e = .returned (.bool b) ∧ (b = false → ∀ i, i < n → (q i).t ≠ t) ∧ Below w.heap.size w w') := by
  have IX : Hid (∀ {w : World} (D : Aq w (.slice a1 n c1) n q) (hB : Bo w bx [.int .i64 t, .int .i64 g, .int .i64 o, .int .i64 k, .int .i64 x]) , _) := fun {w} D hB => index_is hn D hB
  have HD : Hid _ := hid D
  have HB : Hid _ := hid hB
  clear D hB hn
  have hM : Hid _ := (Ms.nil w)
  go_enter Tryz.func26, Tryz.ntmps26
  go_wp2_with fail
  refine (IX.out HD.out HB.out).mono ?_
  rintro e W ⟨r, rfl, hr, hb⟩
  replace hM := hid (hM.out.later hb)
  clear hb
  rcases hr with ⟨rfl, hr⟩ | ⟨h0, _⟩
  · have HR : Hid _ := hid hr
    clear hr
    go_wp2
    go_ret
    exact ⟨false, rfl, fun _ => HR.out, hM.out.below⟩
  · have h1 : r ≥ 0 := h0
    clear h0
    go_wp2
    go_ret
    exact ⟨true, rfl, fun h => (by cases h), hM.out.below⟩
end Go.Proofs.YteogbpaaacmllaaGreatDoor.Tab
