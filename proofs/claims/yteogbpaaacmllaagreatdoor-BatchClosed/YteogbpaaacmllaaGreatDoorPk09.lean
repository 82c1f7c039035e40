/- Texts laid together: The keepers written, by its contract, with the version; Rows of deeds that are read, and append of one to another; The library Equal of deeds that are the same, by its contract; Records are held against each other; The library's handle of the type error, off the row's condition; Asks of threads that are all others: answered once; facts of no program, and append of an ask; An ask that is not open, among others; rows of asks, some of them left out; facts of no program; Rows of asks: copied, cleared, inserted into: the library's Insert and Clone; no program of the document; The library Insert of one ask into a row of asks, by its three ways; The library Clone of a row of asks, and Insert of one ask, by their contracts; The library IndexFunc and DeleteFunc with the function of BatchClosed, by . -/
import Derived.Test.YteogbpaaacmllaaGreatDoorPk07
import Derived.Test.YteogbpaaacmllaaGreatDoorPk03
import Derived.Deep.DeepCutAuto
import Derived.Deep.RegionHeld3
import Derived.ChangeKeysEq
import Derived.Test.YteogbpaaacmllaaGreatDoorTie
import Derived.ProofKit
import Derived.LaidMore
import Derived.LaidLaws
import Derived.LaidHandle
import Derived.OpenShut
import Derived.Stop.Joined
import Derived.Test.YteogbpaaacmllaaGreatDoorPk08
import Derived.Lib.AppendZerosOnto
import Derived.Lib.AppendZeros
import Derived.Lib.Overlaps
import Derived.Lib.SliceRun
import Derived.Laws.Externs
import Derived.Laws.IdiomCopy
import Derived.Laws.NewBlocks
import Derived.Deep.RegionLaw
import Derived.Shelf.RegionOpenPlain
namespace Go.Proofs.YteogbpaaacmllaaGreatDoor.Tab
set_option maxRecDepth 20000
open Go.RowKit
set_option linter.unusedVariables false

set_option maxHeartbeats 8000000 in
theorem written_vnil {kind m : Nat} (h1 : 1 ≤ kind) (h6 : kind ≤ 6) (w : World) :
    Calls Tryz.prog 16 #[.int .i64 (kind : Nat), .slice none 0 0] w (fun e w' => ∃ r, isRec r ∧ r 0 = kind ∧ r 28 ≤ 30 ∧ r 27 = 0 ∧ (m = 0 → rl r = rl (newR kind)) ∧ e = .returned (.agg (rl r).toArray) ∧ Below w.heap.size w w') := by
  have NW : Hid (∀ w : World, _) := recNew_yes h1 h6
  have NR : Hid (isRec (newR kind)) := newR_rec h1 h6
  clear h1 h6
  have hM : Hid _ := ((Ms.nil w).bornR rl_zero.symm 24 (b := w.heap.size) rfl)
  go_enter Tryz.func16, Tryz.ntmps16
  go_wp2_with fail
  generalize World.alloc _ _ = W at hM ⊢
  generalize hsz : w.heap.size = n at hM ⊢
  clear hsz
  refine (NW.out _).mono ?_
  rintro e W ⟨rfl, hb⟩
  replace hM := hid (hM.out.later hb)
  clear hb
  obtain ⟨bx1, hbx1⟩ : ∃ q, q = W.heap.size := ⟨_, rfl⟩
  replace hM := hid (hM.out.bornR rl_zero.symm 24 (b := bx1) hbx1)
  have Hbx1 : Hid _ := hbx1
  clear hbx1
  go_wp2_with (first
    | (rw [← Hbx1.out]; refine sR rfl (hM.out.at 0 rfl) rfl ((rwR wz).len (rwR (newR kind))) (rwR (newR kind)) ?_
       replace hM := hid (hM.out.put 0 rfl (rl (newR kind)) ((rwR wz).len (rwR (newR kind))))
       generalize World.setCells _ _ _ _ = W at hM ⊢))
  go_loopg [22] 0 (fun gg s22 wt => wt = W ∧ s22 = .int .i64 0)
  case atStart => exact ⟨rfl, rfl⟩
  case round =>
    obtain ⟨hw, rfl⟩ := hrel
    rw [hw]; clear hw wr
    go_wp2_with (first
      | (refine lR rfl (hM.out.at 0 rfl) rfl (rwR (newR kind)) ?_)
      | (refine sR rfl (hM.out.at 1 rfl) rfl ((rwR wz).len (rwR (newR kind))) (rwR (newR kind)) ?_
         replace hM := hid (hM.out.put 1 rfl (rl (newR kind)) ((rwR wz).len (rwR (newR kind))))
         generalize World.setCells _ _ _ _ = W at hM ⊢))
    exact bodyPost_ret (res1 Tryz.results16 (hM.out.at 1 rfl) (rwR (newR kind))) rfl ⟨newR kind, NR.out, by unfold newR; rw [if_pos rfl], by unfold newR; rw [if_neg (by decide)]; omega, by unfold newR; rw [if_neg (by decide)], fun _ => rfl, rfl, hM.out.below⟩
set_option maxHeartbeats 8000000 in
theorem written_vnone {kind m : Nat} (h1 : 1 ≤ kind) (h6 : kind ≤ 6) (a : Addr) (c : Nat) (w : World) :
    Calls Tryz.prog 16 #[.int .i64 (kind : Nat), .slice (some a) 0 c] w (fun e w' => ∃ r, isRec r ∧ r 0 = kind ∧ r 28 ≤ 30 ∧ r 27 = 0 ∧ (m = 0 → rl r = rl (newR kind)) ∧ e = .returned (.agg (rl r).toArray) ∧ Below w.heap.size w w') := by
  have NW : Hid (∀ w : World, _) := recNew_yes h1 h6
  have NR : Hid (isRec (newR kind)) := newR_rec h1 h6
  clear h1 h6
  have hM : Hid _ := ((Ms.nil w).bornR rl_zero.symm 24 (b := w.heap.size) rfl)
  go_enter Tryz.func16, Tryz.ntmps16
  go_wp2_with fail
  generalize World.alloc _ _ = W at hM ⊢
  generalize hsz : w.heap.size = n at hM ⊢
  clear hsz
  refine (NW.out _).mono ?_
  rintro e W ⟨rfl, hb⟩
  replace hM := hid (hM.out.later hb)
  clear hb
  obtain ⟨bx1, hbx1⟩ : ∃ q, q = W.heap.size := ⟨_, rfl⟩
  replace hM := hid (hM.out.bornR rl_zero.symm 24 (b := bx1) hbx1)
  have Hbx1 : Hid _ := hbx1
  clear hbx1
  go_wp2_with (first
    | (rw [← Hbx1.out]; refine sR rfl (hM.out.at 0 rfl) rfl ((rwR wz).len (rwR (newR kind))) (rwR (newR kind)) ?_
       replace hM := hid (hM.out.put 0 rfl (rl (newR kind)) ((rwR wz).len (rwR (newR kind))))
       generalize World.setCells _ _ _ _ = W at hM ⊢))
  go_loopg [22] 0 (fun gg s22 wt => wt = W ∧ s22 = .int .i64 0)
  case atStart => exact ⟨rfl, rfl⟩
  case round =>
    obtain ⟨hw, rfl⟩ := hrel
    rw [hw]; clear hw wr
    go_wp2_with (first
      | (refine lR rfl (hM.out.at 0 rfl) rfl (rwR (newR kind)) ?_)
      | (refine sR rfl (hM.out.at 1 rfl) rfl ((rwR wz).len (rwR (newR kind))) (rwR (newR kind)) ?_
         replace hM := hid (hM.out.put 1 rfl (rl (newR kind)) ((rwR wz).len (rwR (newR kind))))
         generalize World.setCells _ _ _ _ = W at hM ⊢))
    exact bodyPost_ret (res1 Tryz.results16 (hM.out.at 1 rfl) (rwR (newR kind))) rfl ⟨newR kind, NR.out, by unfold newR; rw [if_pos rfl], by unfold newR; rw [if_neg (by decide)]; omega, by unfold newR; rw [if_neg (by decide)], fun _ => rfl, rfl, hM.out.below⟩
set_option maxHeartbeats 8000000 in
theorem written_vsome {kind : Nat} (h1 : 1 ≤ kind) (h6 : kind ≤ 6) {v : Value} {b off c m : Nat} (hv : v = .slice (some ⟨b, off, none⟩) m c) (h0 : 0 < m) (hc : m ≤ c) (hm : m ≤ 9223372036854775807) (w : World) (D : Dds w v m) :
    Calls Tryz.prog 16 #[.int .i64 (kind : Nat), v] w (fun e w' => ∃ r, isRec r ∧ r 0 = kind ∧ r 28 ≤ 30 ∧ r 27 = 0 ∧ (m = 0 → rl r = rl (newR kind)) ∧ e = .returned (.agg (rl r).toArray) ∧ Below w.heap.size w w') := by
  have NW : Hid (∀ w : World, _) := recNew_yes h1 h6
  have NR : Hid (isRec (newR kind)) := newR_rec h1 h6
  have HE : Hid (∀ w', Below w.heap.size w w' → ∀ i, i < m → ∃ t o k x cc y : Int, w'.rangeAt b (off + i * 6) (dl t o k x cc y)) := by
    intro w' hb i hi
    rcases D.later hb with ⟨h, _⟩ | ⟨b2, off2, c2, hv2, _, _, _, hh⟩
    · omega
    · rw [hv] at hv2
      injection hv2 with e1 _ _
      injection e1 with e1
      injection e1 with e1 e2
      subst e1 e2
      exact hh i hi
  clear D
  subst hv
  obtain ⟨q, hq⟩ : ∃ q, q = min m 30 := ⟨_, rfl⟩
  have eq : min (m : Int) 30 = (q : Int) := by omega
  have eq2 : (if (30 : Int) < (m : Int) then (30 : Int) else (m : Int)) = (q : Int) := by split <;> omega
  have hqc : (q : Int) ≤ (c : Int) := by omega
  have hq0 : (0 : Int) ≤ (q : Int) := by omega
  have HQ : Hid (q ≤ m ∧ q ≤ 30 ∧ 0 < m) := (by omega : q ≤ m ∧ q ≤ 30 ∧ 0 < m)
  clear hq h0 hc hm h1 h6
  have hM : Hid _ := ((Ms.nil w).bornR rl_zero.symm 24 (b := w.heap.size) rfl)
  go_enter Tryz.func16, Tryz.ntmps16
  go_wp2_with fail
  generalize World.alloc _ _ = W at hM ⊢
  generalize hsz : w.heap.size = n at hM ⊢
  clear hsz
  refine (NW.out _).mono ?_
  rintro e W ⟨rfl, hb⟩
  replace hM := hid (hM.out.later hb)
  clear hb
  obtain ⟨bx1, hbx1⟩ : ∃ q, q = W.heap.size := ⟨_, rfl⟩
  replace hM := hid (hM.out.bornR rl_zero.symm 24 (b := bx1) hbx1)
  have Hbx1 : Hid _ := hbx1
  clear hbx1
  go_wp2_with (first
    | (rw [← Hbx1.out]; refine sR rfl (hM.out.at 0 rfl) rfl ((rwR wz).len (rwR (newR kind))) (rwR (newR kind)) ?_
       replace hM := hid (hM.out.put 0 rfl (rl (newR kind)) ((rwR wz).len (rwR (newR kind))))
       generalize World.setCells _ _ _ _ = W at hM ⊢))
  go_loopg [22] q (fun gg s22 wt => ∃ i : Nat, i ≤ q ∧ q - i ≤ gg ∧ s22 = .int .i64 i ∧ ∃ d, Hid (isRec d ∧ d 0 = kind ∧ d 28 ≤ i ∧ d 27 = 0) ∧ Hid (Ms n w wt [(bx1, rl d), (n, rl wz)] []))
  case atStart => exact ⟨0, by omega, by omega, rfl, newR kind, ⟨NR.out, by unfold newR; rw [if_pos rfl], by unfold newR; rw [if_neg (by decide)]; omega, by unfold newR; rw [if_neg (by decide)]⟩, hM⟩
  case round =>
    clear hM
    obtain ⟨i, hi, hgg, rfl, d, I, hM⟩ := hrel
    obtain ⟨W, rfl⟩ : ∃ q, q = wr := ⟨_, rfl⟩
    by_cases hlt : i < q
    · have hi1 : (i : Int) < (q : Int) := by omega
      have hi0 : (0 : Int) ≤ (i : Int) := by omega
      obtain ⟨t, o, k, x, cc, y, hr⟩ := HE.out W hM.out.below i (by have := HQ.out; omega)
      have RA : Hid _ := hr
      clear hr
      obtain ⟨tt, ht4, PT⟩ := pick4_is t
      have PK : Hid _ := PT
      clear PT
      by_cases hR : Rt o k x
      · have DO : Hid (∀ w : World, _) := recDone_yes I.out.1.u64 ht4 I.out.1 hR
        have I2 : Hid (isRec (rdo d tt o k x) ∧ (rdo d tt o k x) 0 = kind ∧ (rdo d tt o k x) 28 ≤ i + 1 ∧ (rdo d tt o k x) 27 = 0) := ⟨rdo_rec I.out.1 hR ht4 (by have := I.out.2.2.1; have := HQ.out; omega), by rw [rdo_0 ht4]; exact I.out.2.1, by rw [rdo_28]; have := I.out.2.2.1; omega, by rw [rdo_27 ht4]; exact I.out.2.2.2⟩
        generalize rdo d tt o k x = d2 at *
        clear hR ht4
        obtain ⟨bd, hbd⟩ : ∃ q, q = W.heap.size := ⟨_, rfl⟩
        have HBD : Hid _ := hbd
        clear hbd
        go_wp2_with (first
          | (refine lO rfl RA.out rfl (rwD t o k x cc y) ?_)
          | (rw [← HBD.out]
             replace hM := hid (hM.out.born [.int .i64 0, .int .i64 0, .int .i64 0, .int .i64 0, .int .i64 0, .int .i64 0] 60 HBD.out)
             refine sR rfl (hM.out.at 0 rfl) rfl ((rwD 0 0 0 0 0 0).len (rwD t o k x cc y)) (rwD t o k x cc y) ?_
             replace hM := hid (hM.out.put 0 rfl (dl t o k x cc y) ((rwD 0 0 0 0 0 0).len (rwD t o k x cc y)))
             generalize World.setCells _ _ _ _ = W at hM ⊢))
        replace hM := hid (hM.out.drew)
        refine wp_region_held_drew (S := fun w' => Bo w' bx1 (rl d) ∧ Bo w' bd (dl t o k x cc y)) (by kernel_rfl) ⟨hM.out.at 1 rfl, hM.out.at 0 rfl⟩ (fun hH => ?_)
        generalize World.drew _ = W at hM hH  ⊢
        refine tkR 0 rfl hH (fun _ h => h.1) (rwR d) ?_
        simp only [Act.put, p1, p2, p3]
        refine tk 1 rfl hH ?_
        simp only [Act.put, p1, p2, p3]
        refine tk 2 rfl hH ?_ (by intro w h; have c0 := h.2.at 0 rfl; clear h; go_simp; try with_reducible rfl)
        simp only [Act.put, p1, p2, p3]
        refine tk 4 rfl hH ?_
        simp only [Act.put, p1, p2, p3]
        refine tk 5 rfl hH ?_ (by intro w h; have c0 := h.2.at 1 rfl; have c1 := h.2.at 2 rfl; have c2 := h.2.at 3 rfl; clear h; go_simp; try with_reducible rfl)
        simp only [Act.put, p1, p2, p3]
        refine rdn [3, 10] ?_
        refine rdc rfl (fun K hK => ?_) ?_
        · go_simp
          refine (PK.out _).mono ?_
          rintro e W ⟨rfl, hb⟩
          replace hM := hid (hM.out.later hb)
          clear hb
          go_wp2_with fail
          refine hK.out _ _ ⟨hM.out.at 1 rfl, hM.out.at 0 rfl⟩ (fun hH => ?_)
          clear hK K
          try simp only [Act.put, p1, p2, p3]
          refine rdn [6, 10] ?_
          refine rdc rfl (fun K hK => ?_) ?_
          · go_simp
            refine (DO.out _).mono ?_
            rintro e W ⟨rfl, hb⟩
            replace hM := hid (hM.out.later hb)
            clear hb
            go_wp2_with fail
            refine hK.out _ _ ⟨hM.out.at 1 rfl, hM.out.at 0 rfl⟩ (fun hH => ?_)
            clear hK K
            try simp only [Act.put, p1, p2, p3]
            refine tk 7 rfl hH ?_
            simp only [Act.put, p1, p2, p3]
            refine tk 8 rfl hH ?_
            simp only [Act.put, p1, p2, p3]
            refine tk 9 rfl hH ?_
            simp only [Act.put, p1, p2, p3]
            refine rd1 10 rfl (fun K hK => ?_)
            go_simp
            replace hM := hid (hM.out.bornR rl_zero.symm 24 rfl)
            refine hK.out _ _ ⟨hM.out.at 2 rfl, hM.out.at 1 rfl⟩ (fun hH => ?_)
            clear hK K
            generalize W.heap.size = bq2 at hM hH ⊢
            generalize World.alloc _ _ = W at hM hH  ⊢
            try simp only [Act.put, p1, p2, p3]
            refine rd1 11 rfl (fun K hK => ?_)
            refine stR rfl (hM.out.at 0 rfl) ((rwR wz).len (rwR d2)) (rwR d2) ?_
            simp only [Act.put]
            replace hM := hid (hM.out.put 0 rfl (rl d2) ((rwR wz).len (rwR d2)))
            refine hK.out _ _ ⟨hM.out.at 2 rfl, hM.out.at 1 rfl⟩ (fun hH => ?_)
            clear hK K
            generalize World.setCells _ _ _ _ = W at hM hH ⊢
            try simp only [Act.put, p1, p2, p3]
            refine tk 12 rfl hH ?_
            simp only [Act.put, p1, p2, p3]
            refine wpAnyH_done (by kernel_rfl) ?_ _
            go_wp2_with (first
              | (refine lR rfl (hM.out.at 0 rfl) rfl (rwR d2) ?_)
              | (refine sR rfl (hM.out.at 2 rfl) rfl ((rwR d).len (rwR d2)) (rwR d2) ?_
                 replace hM := hid (hM.out.put 2 rfl (rl d2) ((rwR d).len (rwR d2)))
                 generalize World.setCells _ _ _ _ = W at hM ⊢))
            go_roundg (q - (i + 1))
            case measure => omega
            case rel => exact ⟨i + 1, by omega, by omega, by go_num, d2, I2, hM.out.pick [2, 3]⟩
          refine rdc rfl (fun K hK => ?_) AllReadyH.nil
          go_simp
          replace hM := hid (hM.out.bornR rl_zero.symm 24 rfl)
          refine hK.out _ _ ⟨hM.out.at 2 rfl, hM.out.at 1 rfl⟩ (fun hH => ?_)
          clear hK K
          generalize W.heap.size = bq2 at hM hH ⊢
          generalize World.alloc _ _ = W at hM hH  ⊢
          try simp only [Act.put, p1, p2, p3]
          refine rd1 6 rfl (fun K hK => ?_)
          go_simp
          refine (DO.out _).mono ?_
          rintro e W ⟨rfl, hb⟩
          replace hM := hid (hM.out.later hb)
          clear hb
          go_wp2_with fail
          refine hK.out _ _ ⟨hM.out.at 2 rfl, hM.out.at 1 rfl⟩ (fun hH => ?_)
          clear hK K
          try simp only [Act.put, p1, p2, p3]
          refine tk 7 rfl hH ?_
          simp only [Act.put, p1, p2, p3]
          refine tk 8 rfl hH ?_
          simp only [Act.put, p1, p2, p3]
          refine tk 9 rfl hH ?_
          simp only [Act.put, p1, p2, p3]
          refine rd1 11 rfl (fun K hK => ?_)
          refine stR rfl (hM.out.at 0 rfl) ((rwR wz).len (rwR d2)) (rwR d2) ?_
          simp only [Act.put]
          replace hM := hid (hM.out.put 0 rfl (rl d2) ((rwR wz).len (rwR d2)))
          refine hK.out _ _ ⟨hM.out.at 2 rfl, hM.out.at 1 rfl⟩ (fun hH => ?_)
          clear hK K
          generalize World.setCells _ _ _ _ = W at hM hH ⊢
          try simp only [Act.put, p1, p2, p3]
          refine tk 12 rfl hH ?_
          simp only [Act.put, p1, p2, p3]
          refine wpAnyH_done (by kernel_rfl) ?_ _
          go_wp2_with (first
            | (refine lR rfl (hM.out.at 0 rfl) rfl (rwR d2) ?_)
            | (refine sR rfl (hM.out.at 2 rfl) rfl ((rwR d).len (rwR d2)) (rwR d2) ?_
               replace hM := hid (hM.out.put 2 rfl (rl d2) ((rwR d).len (rwR d2)))
               generalize World.setCells _ _ _ _ = W at hM ⊢))
          go_roundg (q - (i + 1))
          case measure => omega
          case rel => exact ⟨i + 1, by omega, by omega, by go_num, d2, I2, hM.out.pick [2, 3]⟩
        refine rdc rfl (fun K hK => ?_) AllReadyH.nil
        go_simp
        replace hM := hid (hM.out.bornR rl_zero.symm 24 rfl)
        refine hK.out _ _ ⟨hM.out.at 2 rfl, hM.out.at 1 rfl⟩ (fun hH => ?_)
        clear hK K
        generalize W.heap.size = bq2 at hM hH ⊢
        generalize World.alloc _ _ = W at hM hH  ⊢
        try simp only [Act.put, p1, p2, p3]
        refine rd1 3 rfl (fun K hK => ?_)
        go_simp
        refine (PK.out _).mono ?_
        rintro e W ⟨rfl, hb⟩
        replace hM := hid (hM.out.later hb)
        clear hb
        go_wp2_with fail
        refine hK.out _ _ ⟨hM.out.at 2 rfl, hM.out.at 1 rfl⟩ (fun hH => ?_)
        clear hK K
        try simp only [Act.put, p1, p2, p3]
        refine rd1 6 rfl (fun K hK => ?_)
        go_simp
        refine (DO.out _).mono ?_
        rintro e W ⟨rfl, hb⟩
        replace hM := hid (hM.out.later hb)
        clear hb
        go_wp2_with fail
        refine hK.out _ _ ⟨hM.out.at 2 rfl, hM.out.at 1 rfl⟩ (fun hH => ?_)
        clear hK K
        try simp only [Act.put, p1, p2, p3]
        refine tk 7 rfl hH ?_
        simp only [Act.put, p1, p2, p3]
        refine tk 8 rfl hH ?_
        simp only [Act.put, p1, p2, p3]
        refine tk 9 rfl hH ?_
        simp only [Act.put, p1, p2, p3]
        refine rd1 11 rfl (fun K hK => ?_)
        refine stR rfl (hM.out.at 0 rfl) ((rwR wz).len (rwR d2)) (rwR d2) ?_
        simp only [Act.put]
        replace hM := hid (hM.out.put 0 rfl (rl d2) ((rwR wz).len (rwR d2)))
        refine hK.out _ _ ⟨hM.out.at 2 rfl, hM.out.at 1 rfl⟩ (fun hH => ?_)
        clear hK K
        generalize World.setCells _ _ _ _ = W at hM hH ⊢
        try simp only [Act.put, p1, p2, p3]
        refine tk 12 rfl hH ?_
        simp only [Act.put, p1, p2, p3]
        refine wpAnyH_done (by kernel_rfl) ?_ _
        go_wp2_with (first
          | (refine lR rfl (hM.out.at 0 rfl) rfl (rwR d2) ?_)
          | (refine sR rfl (hM.out.at 2 rfl) rfl ((rwR d).len (rwR d2)) (rwR d2) ?_
             replace hM := hid (hM.out.put 2 rfl (rl d2) ((rwR d).len (rwR d2)))
             generalize World.setCells _ _ _ _ = W at hM ⊢))
        go_roundg (q - (i + 1))
        case measure => omega
        case rel => exact ⟨i + 1, by omega, by omega, by go_num, d2, I2, hM.out.pick [2, 3]⟩
      · have DO : Hid (∀ w : World, _) := recDone_wrong I.out.1.u64 ht4 I.out.1 hR
        clear hR ht4
        obtain ⟨bd, hbd⟩ : ∃ q, q = W.heap.size := ⟨_, rfl⟩
        have HBD : Hid _ := hbd
        clear hbd
        go_wp2_with (first
          | (refine lO rfl RA.out rfl (rwD t o k x cc y) ?_)
          | (rw [← HBD.out]
             replace hM := hid (hM.out.born [.int .i64 0, .int .i64 0, .int .i64 0, .int .i64 0, .int .i64 0, .int .i64 0] 60 HBD.out)
             refine sR rfl (hM.out.at 0 rfl) rfl ((rwD 0 0 0 0 0 0).len (rwD t o k x cc y)) (rwD t o k x cc y) ?_
             replace hM := hid (hM.out.put 0 rfl (dl t o k x cc y) ((rwD 0 0 0 0 0 0).len (rwD t o k x cc y)))
             generalize World.setCells _ _ _ _ = W at hM ⊢))
        replace hM := hid (hM.out.drew)
        refine wp_region_held_drew (S := fun w' => Bo w' bx1 (rl d) ∧ Bo w' bd (dl t o k x cc y)) (by kernel_rfl) ⟨hM.out.at 1 rfl, hM.out.at 0 rfl⟩ (fun hH => ?_)
        generalize World.drew _ = W at hM hH  ⊢
        refine tkR 0 rfl hH (fun _ h => h.1) (rwR d) ?_
        simp only [Act.put, p1, p2, p3]
        refine tk 1 rfl hH ?_
        simp only [Act.put, p1, p2, p3]
        refine tk 2 rfl hH ?_ (by intro w h; have c0 := h.2.at 0 rfl; clear h; go_simp; try with_reducible rfl)
        simp only [Act.put, p1, p2, p3]
        refine tk 4 rfl hH ?_
        simp only [Act.put, p1, p2, p3]
        refine tk 5 rfl hH ?_ (by intro w h; have c0 := h.2.at 1 rfl; have c1 := h.2.at 2 rfl; have c2 := h.2.at 3 rfl; clear h; go_simp; try with_reducible rfl)
        simp only [Act.put, p1, p2, p3]
        refine rdn [3, 10] ?_
        refine rdc rfl (fun K hK => ?_) ?_
        · go_simp
          refine (PK.out _).mono ?_
          rintro e W ⟨rfl, hb⟩
          replace hM := hid (hM.out.later hb)
          clear hb
          go_wp2_with fail
          refine hK.out _ _ ⟨hM.out.at 1 rfl, hM.out.at 0 rfl⟩ (fun hH => ?_)
          clear hK K
          try simp only [Act.put, p1, p2, p3]
          refine rdn [6, 10] ?_
          refine rdc rfl (fun K hK => ?_) ?_
          · go_simp
            refine (DO.out _).mono ?_
            rintro e W ⟨rfl, hb⟩
            replace hM := hid (hM.out.later hb)
            clear hb
            go_wp2_with fail
            refine hK.out _ _ ⟨hM.out.at 1 rfl, hM.out.at 0 rfl⟩ (fun hH => ?_)
            clear hK K
            try simp only [Act.put, p1, p2, p3]
            refine tk 7 rfl hH ?_
            simp only [Act.put, p1, p2, p3]
            refine tk 8 rfl hH ?_
            simp only [Act.put, p1, p2, p3]
            refine tk 9 rfl hH ?_
            simp only [Act.put, p1, p2, p3]
            refine rd1 10 rfl (fun K hK => ?_)
            go_simp
            replace hM := hid (hM.out.bornR rl_zero.symm 24 rfl)
            refine hK.out _ _ ⟨hM.out.at 2 rfl, hM.out.at 1 rfl⟩ (fun hH => ?_)
            clear hK K
            generalize W.heap.size = bq2 at hM hH ⊢
            generalize World.alloc _ _ = W at hM hH  ⊢
            try simp only [Act.put, p1, p2, p3]
            refine rd1 11 rfl (fun K hK => ?_)
            refine stR rfl (hM.out.at 0 rfl) ((rwR wz).len (rwR wz)) (rwR wz) ?_
            simp only [Act.put]
            replace hM := hid (hM.out.put 0 rfl (rl wz) ((rwR wz).len (rwR wz)))
            refine hK.out _ _ ⟨hM.out.at 2 rfl, hM.out.at 1 rfl⟩ (fun hH => ?_)
            clear hK K
            generalize World.setCells _ _ _ _ = W at hM hH ⊢
            try simp only [Act.put, p1, p2, p3]
            refine tk 12 rfl hH ?_
            simp only [Act.put, p1, p2, p3]
            refine wpAnyH_done (by kernel_rfl) ?_ _
            go_wp2
            go_roundg (q - (i + 1))
            case measure => omega
            case rel => exact ⟨i + 1, by omega, by omega, by go_num, d, ⟨I.out.1, I.out.2.1, Nat.le_succ_of_le I.out.2.2.1, I.out.2.2.2⟩, hM.out.pick [2, 3]⟩
          refine rdc rfl (fun K hK => ?_) AllReadyH.nil
          go_simp
          replace hM := hid (hM.out.bornR rl_zero.symm 24 rfl)
          refine hK.out _ _ ⟨hM.out.at 2 rfl, hM.out.at 1 rfl⟩ (fun hH => ?_)
          clear hK K
          generalize W.heap.size = bq2 at hM hH ⊢
          generalize World.alloc _ _ = W at hM hH  ⊢
          try simp only [Act.put, p1, p2, p3]
          refine rd1 6 rfl (fun K hK => ?_)
          go_simp
          refine (DO.out _).mono ?_
          rintro e W ⟨rfl, hb⟩
          replace hM := hid (hM.out.later hb)
          clear hb
          go_wp2_with fail
          refine hK.out _ _ ⟨hM.out.at 2 rfl, hM.out.at 1 rfl⟩ (fun hH => ?_)
          clear hK K
          try simp only [Act.put, p1, p2, p3]
          refine tk 7 rfl hH ?_
          simp only [Act.put, p1, p2, p3]
          refine tk 8 rfl hH ?_
          simp only [Act.put, p1, p2, p3]
          refine tk 9 rfl hH ?_
          simp only [Act.put, p1, p2, p3]
          refine rd1 11 rfl (fun K hK => ?_)
          refine stR rfl (hM.out.at 0 rfl) ((rwR wz).len (rwR wz)) (rwR wz) ?_
          simp only [Act.put]
          replace hM := hid (hM.out.put 0 rfl (rl wz) ((rwR wz).len (rwR wz)))
          refine hK.out _ _ ⟨hM.out.at 2 rfl, hM.out.at 1 rfl⟩ (fun hH => ?_)
          clear hK K
          generalize World.setCells _ _ _ _ = W at hM hH ⊢
          try simp only [Act.put, p1, p2, p3]
          refine tk 12 rfl hH ?_
          simp only [Act.put, p1, p2, p3]
          refine wpAnyH_done (by kernel_rfl) ?_ _
          go_wp2
          go_roundg (q - (i + 1))
          case measure => omega
          case rel => exact ⟨i + 1, by omega, by omega, by go_num, d, ⟨I.out.1, I.out.2.1, Nat.le_succ_of_le I.out.2.2.1, I.out.2.2.2⟩, hM.out.pick [2, 3]⟩
        refine rdc rfl (fun K hK => ?_) AllReadyH.nil
        go_simp
        replace hM := hid (hM.out.bornR rl_zero.symm 24 rfl)
        refine hK.out _ _ ⟨hM.out.at 2 rfl, hM.out.at 1 rfl⟩ (fun hH => ?_)
        clear hK K
        generalize W.heap.size = bq2 at hM hH ⊢
        generalize World.alloc _ _ = W at hM hH  ⊢
        try simp only [Act.put, p1, p2, p3]
        refine rd1 3 rfl (fun K hK => ?_)
        go_simp
        refine (PK.out _).mono ?_
        rintro e W ⟨rfl, hb⟩
        replace hM := hid (hM.out.later hb)
        clear hb
        go_wp2_with fail
        refine hK.out _ _ ⟨hM.out.at 2 rfl, hM.out.at 1 rfl⟩ (fun hH => ?_)
        clear hK K
        try simp only [Act.put, p1, p2, p3]
        refine rd1 6 rfl (fun K hK => ?_)
        go_simp
        refine (DO.out _).mono ?_
        rintro e W ⟨rfl, hb⟩
        replace hM := hid (hM.out.later hb)
        clear hb
        go_wp2_with fail
        refine hK.out _ _ ⟨hM.out.at 2 rfl, hM.out.at 1 rfl⟩ (fun hH => ?_)
        clear hK K
        try simp only [Act.put, p1, p2, p3]
        refine tk 7 rfl hH ?_
        simp only [Act.put, p1, p2, p3]
        refine tk 8 rfl hH ?_
        simp only [Act.put, p1, p2, p3]
        refine tk 9 rfl hH ?_
        simp only [Act.put, p1, p2, p3]
        refine rd1 11 rfl (fun K hK => ?_)
        refine stR rfl (hM.out.at 0 rfl) ((rwR wz).len (rwR wz)) (rwR wz) ?_
        simp only [Act.put]
        replace hM := hid (hM.out.put 0 rfl (rl wz) ((rwR wz).len (rwR wz)))
        refine hK.out _ _ ⟨hM.out.at 2 rfl, hM.out.at 1 rfl⟩ (fun hH => ?_)
        clear hK K
        generalize World.setCells _ _ _ _ = W at hM hH ⊢
        try simp only [Act.put, p1, p2, p3]
        refine tk 12 rfl hH ?_
        simp only [Act.put, p1, p2, p3]
        refine wpAnyH_done (by kernel_rfl) ?_ _
        go_wp2
        go_roundg (q - (i + 1))
        case measure => omega
        case rel => exact ⟨i + 1, by omega, by omega, by go_num, d, ⟨I.out.1, I.out.2.1, Nat.le_succ_of_le I.out.2.2.1, I.out.2.2.2⟩, hM.out.pick [2, 3]⟩
    · have hi1 : ¬ (i : Int) < (q : Int) := by omega
      go_wp2_with (first
        | (refine lR rfl (hM.out.at 0 rfl) rfl (rwR d) ?_)
        | (refine sR rfl (hM.out.at 1 rfl) rfl ((rwR wz).len (rwR d)) (rwR d) ?_
           replace hM := hid (hM.out.put 1 rfl (rl d) ((rwR wz).len (rwR d)))
           generalize World.setCells _ _ _ _ = W at hM ⊢))
      exact bodyPost_ret (res1 Tryz.results16 (hM.out.at 1 rfl) (rwR d)) rfl ⟨d, I.out.1, I.out.2.1, by have := I.out.2.2.1; have := HQ.out; omega, I.out.2.2.2, fun h => absurd h (by have := HQ.out; omega), rfl, hM.out.below⟩
theorem written_vis {kind : Nat} (h1 : 1 ≤ kind) (h6 : kind ≤ 6) {v : Value} {m : Nat} {w : World} (D : Dds w v m) :
    Calls Tryz.prog 16 #[.int .i64 (kind : Nat), v] w (fun e w' => ∃ r, isRec r ∧ r 0 = kind ∧ r 28 ≤ 30 ∧ r 27 = 0 ∧ (m = 0 → rl r = rl (newR kind)) ∧ e = .returned (.agg (rl r).toArray) ∧ Below w.heap.size w w') := by
  rcases id D with ⟨h0, a, c, hv, ha⟩ | ⟨b, off, c, hv, h0, hc, hm, _⟩
  · subst hv
    cases a with
    | none => obtain rfl := ha rfl; exact written_vnil h1 h6 w
    | some a => exact written_vnone h1 h6 a c w
  · exact written_vsome h1 h6 hv h0 hc hm w D
end Go.Proofs.YteogbpaaacmllaaGreatDoor.Tab
namespace Go.Proofs.YteogbpaaacmllaaGreatDoor.Tab
set_option maxRecDepth 20000
open Go.RowKit
set_option linter.unusedVariables false

/-- A row of deeds that lies somewhere, to be read. -/
def Ld (W : World) (v : Value) (l : List DD) : Prop :=
  (l = [] ∧ ∃ (a : Option Addr) (c : Nat), v = .slice a 0 c ∧ (a = none → c = 0)) ∨ ∃ g cap, v = .slice (some ⟨g, 0, none⟩) l.length cap ∧ l ≠ [] ∧ l.length ≤ cap ∧ Bo W g (dds l)
theorem Odd.ld {B : Nat} {W : World} {v : Value} {l : List DD} (h : Odd B W v l) : Ld W v l := by
  by_cases hl : l = []
  · subst hl
    rcases h.2 with ⟨e, _⟩ | ⟨g, cap, cur, e, _⟩
    · exact Or.inl ⟨rfl, none, 0, e, fun _ => rfl⟩
    · exact Or.inl ⟨rfl, _, _, e, fun h => by cases h⟩
  · rcases h.form with ⟨_, h⟩ | ⟨g, cap, h1, _, h3, h4⟩
    · exact absurd h hl
    · exact Or.inr ⟨g, cap, h1, hl, h3, h4⟩
theorem Ld.later {W W' : World} {v : Value} {l : List DD} (h : Ld W v l) (hb : Below W.heap.size W W') : Ld W' v l := by
  rcases h with h | ⟨g, cap, h1, h2, h3, h4⟩
  · exact Or.inl h
  · exact Or.inr ⟨g, cap, h1, h2, h3, h4.later hb⟩
theorem Ld.form {W : World} {v : Value} {l : List DD} (h : Ld W v l) : ∃ a c, v = .slice a l.length c := by
  rcases h with ⟨h, a, c, e, _⟩ | ⟨g, cap, h1, _⟩
  · exact ⟨a, c, by rw [h]; exact e⟩
  · exact ⟨_, _, h1⟩
theorem Ld.dq {W : World} {v : Value} {l : List DD} (h : Ld W v l) (hl : l.length ≤ 1000000) : Dq W v l.length (qof l) := by
  rcases h with ⟨h, a, c, e, hc⟩ | ⟨g, cap, h1, _, h3, h4⟩
  · exact Or.inl ⟨by rw [h]; rfl, a, c, e, hc⟩
  · rw [h1]; exact h4.dq (Nat.le_refl _) h3 hl
theorem dds_append (l m : List DD) : dds (l ++ m) = dds l ++ dds m := by simp [dds]
theorem dds_one (l : List DD) : ∀ u ∈ dds l, u.oneCell' = true := by
  intro u hu
  obtain ⟨d, _, hd⟩ := List.mem_flatMap.1 hu
  simp [DD.row, dl] at hd
  rcases hd with rfl | rfl | rfl | rfl | rfl | rfl <;> rfl
theorem Odd.onto {B : Nat} {W : World} {v u : Value} {l m : List DD} (h : Odd B W v l) (hB : B ≤ W.heap.size) (k : Ld W u m) (hn : l.length + m.length ≤ 1000000) (ty : TypeId) :
    ∃ v' W', (Builtin.append_ #[27, 27] ty #[v, u]).run Tryz.prog W = .ok v' W' ∧ Odd B W' v' (l ++ m) ∧ W.grownBy W' v.ownBlock := by
  obtain ⟨i0, hi, hz0, hz1, hz2⟩ := info_parts infoDeed
  have own : ∀ (a : Addr) (c : Nat), (∀ j x, (dds m)[j]? = some x → W.cell? (a.add j) = some x) →
      ∃ v' W', (Builtin.append_ #[27, 27] ty #[v, .slice (some a) m.length c]).run Tryz.prog W = .ok v' W' ∧ Odd B W' v' (l ++ m) ∧ W.grownBy W' v.ownBlock := by
    intro a c hc
    obtain ⟨v', w', hr, ho, hg, _⟩ := run_append_own (P := Tryz.prog) (w := W) B 27 ty 60 i0 (.agg #[.int .i64 0, .int .i64 0, .int .i64 0, .int .i64 0, .int .i64 0, .int .i64 0]) 6 48 deeds_desc hi hz0 hz1 hz2 rfl (by decide) v l.length (dds l) h a m.length c (dds m) (dds_length m) hc (dds_one m) (by unfold maxLen; omega) (by omega) hB
    refine ⟨v', w', hr, ?_, hg⟩
    unfold Odd
    rw [dds_append, List.length_append]
    exact ho
  rcases k with ⟨rfl, a, c, rfl, hc⟩ | ⟨g, cap, rfl, _, _, hG⟩
  · cases a with
    | none =>
      obtain rfl := hc rfl
      refine ⟨v, W, ?_, by rw [List.append_nil]; exact h, ⟨rfl, rfl, rfl, Nat.le_refl _, fun _ _ _ => rfl⟩⟩
      rcases h.2 with ⟨rfl, _⟩ | ⟨g, cap, cur, rfl, hb, hg, hn, hm, hs, ht⟩
      · simp [Builtin.append_, run_underlying deeds_desc, sizeOf, typeInfo, hi, Builtin.lenOf, Builtin.firstCells]
      · simp [Builtin.append_, run_underlying deeds_desc, sizeOf, typeInfo, hi, Builtin.lenOf, Builtin.firstCells, hn, storeCells]
    | some a => exact own a c (by intro j x hx; simp [dds] at hx)
  · exact own ⟨g, 0, none⟩ cap (fun j x hx => by rw [Addr.add_lit, Nat.zero_add]; exact hG.cell j x hx)
theorem wpList_ontoD {P : Program} (hP : P = Tryz.prog) {ops : Array Oper} {rest : List Oper} {o : Oper} {a : Act} {w : World} {Q : Exit → Act → World → Prop} (hgd : o.guard = none) (s x : Operand)
    (ho : o.op = .call { callee := .builtin .append, args := #[s, x], argTypes := #[27, 27] }) {B : Nat} {v u : Value} {l m : List DD} (hs : a.eval s = v) (hx : a.eval x = u) (hB : B ≤ w.heap.size) (h : Odd B w v l) (k : Ld w u m) (hn : l.length + m.length ≤ 1000000)
    (hk : ∀ v' w', Odd B w' v' (l ++ m) → Below B w w' → wpList P ops Q rest (a.put o.dst v') w') : wpList P ops Q (o :: rest) a w := by
  subst hP
  refine wpList_plain hgd fun K hK => ?_
  obtain ⟨v', w', hr, h2, h3⟩ := h.onto hB k hn o.type
  unfold Oper.wp execOp
  simp only [ho, resolve, invoke, builtin, Sem.run_bind, Sem.run_pure, Result.andThen_ok, List.map_toArray, List.map_cons, List.map_nil, hs, hx, hr]
  exact hK _ _ (hk v' w' h2 ((Below.refl _ w).grown h3 hB (fun j hj => (h.lt j hj).1)))
end Go.Proofs.YteogbpaaacmllaaGreatDoor.Tab
namespace Go.Proofs.YteogbpaaacmllaaGreatDoor.Tab
set_option maxRecDepth 20000
open Go.RowKit
set_option linter.unusedVariables false

theorem deed_self (t o k x c y : Int) (w : World) : (Op.equalIn 10000 60 (.agg (dl t o k x c y).toArray) (.agg (dl t o k x c y).toArray)).run Tryz.prog w = .ok true w := by
  show (Op.equalIn 10000 60 (.agg #[.int .i64 t, .int .i64 o, .int .i64 k, .int .i64 x, .int .i64 c, .int .i64 y]) (.agg #[.int .i64 t, .int .i64 o, .int .i64 k, .int .i64 x, .int .i64 c, .int .i64 y])).run Tryz.prog w = .ok true w
  go_simp
set_option maxHeartbeats 4000000 in
theorem equalD_0 (a1 : Option Addr) (c1 : Nat) (a2 : Option Addr) (c2 : Nat) (w : World) :
    Calls Tryz.prog 25 #[.slice a1 0 c1, .slice a2 0 c2] w (fun e w' => e = .returned (.bool true) ∧ Below w.heap.size w w') := by
  have hM : Hid _ := (Ms.nil w)
  go_enter Tryz.func25, Tryz.ntmps25
  go_wp2_with fail
  go_loopg [13] 0 (fun gg s13 wt => wt = w ∧ s13 = .int .i64 0)
  case atStart => exact ⟨rfl, rfl⟩
  case round =>
    obtain ⟨hw, rfl⟩ := hrel
    rw [hw]; clear hw wr
    go_wp2
    go_ret
    exact ⟨rfl, hM.out.below⟩
set_option maxHeartbeats 8000000 in
theorem equalD_n {b1 o1 c1 b2 o2 c2 n : Nat} {q : Nat → DD} (h1 : n ≤ c1) (h2 : n ≤ c2) (hn : n ≤ 1000000) (w : World) (D : Dq w (.slice (some ⟨b1, o1, none⟩) n c1) n q) (E : Dq w (.slice (some ⟨b2, o2, none⟩) n c2) n q) :
    Calls Tryz.prog 25 #[.slice (some ⟨b1, o1, none⟩) n c1, .slice (some ⟨b2, o2, none⟩) n c2] w (fun e w' => e = .returned (.bool true) ∧ Below w.heap.size w w') := by
  have HD : Hid _ := hid D.all
  have HE : Hid _ := hid E.all
  have HN : Hid (n ≤ 1000000) := hn
  clear D E hn
  have hM : Hid _ := (Ms.nil w)
  go_enter Tryz.func25, Tryz.ntmps25
  go_wp2_with fail
  generalize hsz : w.heap.size = n0 at hM ⊢
  clear hsz
  go_loopg [13] n (fun gg s13 wt => ∃ i : Nat, i ≤ n ∧ n - i ≤ gg ∧ s13 = .int .i64 i ∧ Hid (Ms n0 w wt [] []))
  case atStart => exact ⟨0, by omega, by omega, rfl, hM⟩
  case round =>
    clear hM
    obtain ⟨i, hi, hgg, rfl, hM⟩ := hrel
    obtain ⟨W, rfl⟩ : ∃ q, q = wr := ⟨_, rfl⟩
    by_cases hlt : i < n
    · have hi1 : (i : Int) < (n : Int) := by omega
      have hi0 : (0 : Int) ≤ (i : Int) := by omega
      obtain ⟨t, o, k, x, cc, y, hq, _⟩ := HD.out W hM.out.below i hlt
      have RD : Hid (∀ w', Below w.heap.size w w' → w'.rangeAt b1 (o1 + i * 6) (dl t o k x cc y)) := fun w' hb => by
        obtain ⟨t2, o3, k2, x2, c3, y2, hq2, hr⟩ := HD.out w' hb i hlt
        rw [hq] at hq2
        injection hq2 with e1 e2 e3 e4 e5 e6
        subst e1 e2 e3 e4 e5 e6
        exact hr
      have RE : Hid (∀ w', Below w.heap.size w w' → w'.rangeAt b2 (o2 + i * 6) (dl t o k x cc y)) := fun w' hb => by
        obtain ⟨t2, o3, k2, x2, c3, y2, hq2, hr⟩ := HE.out w' hb i hlt
        rw [hq] at hq2
        injection hq2 with e1 e2 e3 e4 e5 e6
        subst e1 e2 e3 e4 e5 e6
        exact hr
      clear hq
      have ES := deed_self t o k x cc y
      go_wp2_with fail
      replace hM := hid (hM.out.drew)
      refine wp_region_held_drew (S := fun w' => w'.rangeAt b1 (o1 + i * 6) (dl t o k x cc y) ∧ w'.rangeAt b2 (o2 + i * 6) (dl t o k x cc y)) (by kernel_rfl) ⟨RD.out _ hM.out.below, RE.out _ hM.out.below⟩ (fun hH => ?_)
      generalize World.drew _ = W at hM hH  ⊢
      refine tk 0 rfl hH ?_
      simp only [Act.put, p1, p2, p3]
      refine tk 1 rfl hH ?_
      simp only [Act.put, p1, p2, p3]
      refine tk 2 rfl hH ?_
      simp only [Act.put, p1, p2, p3]
      refine tkO 3 rfl hH (fun _ h => id (h.1)) (rwD t o k x cc y) ?_
      simp only [Act.put, p1, p2, p3]
      refine tk 4 rfl hH ?_
      simp only [Act.put, p1, p2, p3]
      refine tk 5 rfl hH ?_
      simp only [Act.put, p1, p2, p3]
      refine tk 6 rfl hH ?_
      simp only [Act.put, p1, p2, p3]
      refine tkO 7 rfl hH (fun _ h => id (h.2)) (rwD t o k x cc y) ?_
      simp only [Act.put, p1, p2, p3]
      refine tk 8 rfl hH ?_
      simp only [Act.put, p1, p2, p3]
      refine wpAnyH_done (by kernel_rfl) ?_ _
      go_wp2_with fail
      have hw : wrap64 ((i : Int) + 1) = ((i + 1 : Nat) : Int) := (by have := HN.out; unfold wrap64; omega)
      go_roundg (n - (i + 1))
      case measure => omega
      case rel => exact ⟨i + 1, by omega, by omega, by rw [hw], hM.out.pick []⟩
    · obtain rfl : i = n := by omega
      have hi1 : ¬ (i : Int) < (i : Int) := by omega
      go_wp2
      go_ret
      exact ⟨rfl, hM.out.below⟩
theorem equalD_is {v u : Value} {n : Nat} {q : Nat → DD} {w : World} (D : Dq w v n q) (E : Dq w u n q) (hn : n ≤ 1000000) :
    Calls Tryz.prog 25 #[v, u] w (fun e w' => e = .returned (.bool true) ∧ Below w.heap.size w w') := by
  rcases id D with ⟨h0, a, c, hv, _⟩ | ⟨b, off, c, hv, h0, hc, _, _⟩
  · rcases id E with ⟨_, a2, c2, hu, _⟩ | ⟨_, _, _, _, h1, _⟩
    · subst hv hu; exact equalD_0 a c a2 c2 w
    · omega
  · rcases id E with ⟨h1, _⟩ | ⟨b2, o2, c2, hu, _, hc2, _, _⟩
    · omega
    · subst hv hu; exact equalD_n hc hc2 hn w D E
end Go.Proofs.YteogbpaaacmllaaGreatDoor.Tab
namespace Go.Proofs.YteogbpaaacmllaaGreatDoor.Tab
set_option maxRecDepth 20000
open Go.RowKit
set_option linter.unusedVariables false
theorem rec_desc : Tryz.prog.underlying 24 = some (.array 32 22) := by kernel_rfl
theorem rpart0 (c : Nat → Nat) (w : World) : (part 22 (rl c).toArray 0).run Tryz.prog w = .ok (.int .u64 (c 0 : Nat)) w := by kernel_rfl
theorem rpart1 (c : Nat → Nat) (w : World) : (part 22 (rl c).toArray 1).run Tryz.prog w = .ok (.int .u64 (c 1 : Nat)) w := by kernel_rfl
theorem rpart2 (c : Nat → Nat) (w : World) : (part 22 (rl c).toArray 2).run Tryz.prog w = .ok (.int .u64 (c 2 : Nat)) w := by kernel_rfl
theorem rpart3 (c : Nat → Nat) (w : World) : (part 22 (rl c).toArray 3).run Tryz.prog w = .ok (.int .u64 (c 3 : Nat)) w := by kernel_rfl
theorem rpart4 (c : Nat → Nat) (w : World) : (part 22 (rl c).toArray 4).run Tryz.prog w = .ok (.int .u64 (c 4 : Nat)) w := by kernel_rfl
theorem rpart5 (c : Nat → Nat) (w : World) : (part 22 (rl c).toArray 5).run Tryz.prog w = .ok (.int .u64 (c 5 : Nat)) w := by kernel_rfl
theorem rpart6 (c : Nat → Nat) (w : World) : (part 22 (rl c).toArray 6).run Tryz.prog w = .ok (.int .u64 (c 6 : Nat)) w := by kernel_rfl
theorem rpart7 (c : Nat → Nat) (w : World) : (part 22 (rl c).toArray 7).run Tryz.prog w = .ok (.int .u64 (c 7 : Nat)) w := by kernel_rfl
theorem rpart8 (c : Nat → Nat) (w : World) : (part 22 (rl c).toArray 8).run Tryz.prog w = .ok (.int .u64 (c 8 : Nat)) w := by kernel_rfl
theorem rpart9 (c : Nat → Nat) (w : World) : (part 22 (rl c).toArray 9).run Tryz.prog w = .ok (.int .u64 (c 9 : Nat)) w := by kernel_rfl
theorem rpart10 (c : Nat → Nat) (w : World) : (part 22 (rl c).toArray 10).run Tryz.prog w = .ok (.int .u64 (c 10 : Nat)) w := by kernel_rfl
theorem rpart11 (c : Nat → Nat) (w : World) : (part 22 (rl c).toArray 11).run Tryz.prog w = .ok (.int .u64 (c 11 : Nat)) w := by kernel_rfl
theorem rpart12 (c : Nat → Nat) (w : World) : (part 22 (rl c).toArray 12).run Tryz.prog w = .ok (.int .u64 (c 12 : Nat)) w := by kernel_rfl
theorem rpart13 (c : Nat → Nat) (w : World) : (part 22 (rl c).toArray 13).run Tryz.prog w = .ok (.int .u64 (c 13 : Nat)) w := by kernel_rfl
theorem rpart14 (c : Nat → Nat) (w : World) : (part 22 (rl c).toArray 14).run Tryz.prog w = .ok (.int .u64 (c 14 : Nat)) w := by kernel_rfl
theorem rpart15 (c : Nat → Nat) (w : World) : (part 22 (rl c).toArray 15).run Tryz.prog w = .ok (.int .u64 (c 15 : Nat)) w := by kernel_rfl
theorem rpart16 (c : Nat → Nat) (w : World) : (part 22 (rl c).toArray 16).run Tryz.prog w = .ok (.int .u64 (c 16 : Nat)) w := by kernel_rfl
theorem rpart17 (c : Nat → Nat) (w : World) : (part 22 (rl c).toArray 17).run Tryz.prog w = .ok (.int .u64 (c 17 : Nat)) w := by kernel_rfl
theorem rpart18 (c : Nat → Nat) (w : World) : (part 22 (rl c).toArray 18).run Tryz.prog w = .ok (.int .u64 (c 18 : Nat)) w := by kernel_rfl
theorem rpart19 (c : Nat → Nat) (w : World) : (part 22 (rl c).toArray 19).run Tryz.prog w = .ok (.int .u64 (c 19 : Nat)) w := by kernel_rfl
theorem rpart20 (c : Nat → Nat) (w : World) : (part 22 (rl c).toArray 20).run Tryz.prog w = .ok (.int .u64 (c 20 : Nat)) w := by kernel_rfl
theorem rpart21 (c : Nat → Nat) (w : World) : (part 22 (rl c).toArray 21).run Tryz.prog w = .ok (.int .u64 (c 21 : Nat)) w := by kernel_rfl
theorem rpart22 (c : Nat → Nat) (w : World) : (part 22 (rl c).toArray 22).run Tryz.prog w = .ok (.int .u64 (c 22 : Nat)) w := by kernel_rfl
theorem rpart23 (c : Nat → Nat) (w : World) : (part 22 (rl c).toArray 23).run Tryz.prog w = .ok (.int .u64 (c 23 : Nat)) w := by kernel_rfl
theorem rpart24 (c : Nat → Nat) (w : World) : (part 22 (rl c).toArray 24).run Tryz.prog w = .ok (.int .u64 (c 24 : Nat)) w := by kernel_rfl
theorem rpart25 (c : Nat → Nat) (w : World) : (part 22 (rl c).toArray 25).run Tryz.prog w = .ok (.int .u64 (c 25 : Nat)) w := by kernel_rfl
theorem rpart26 (c : Nat → Nat) (w : World) : (part 22 (rl c).toArray 26).run Tryz.prog w = .ok (.int .u64 (c 26 : Nat)) w := by kernel_rfl
theorem rpart27 (c : Nat → Nat) (w : World) : (part 22 (rl c).toArray 27).run Tryz.prog w = .ok (.int .u64 (c 27 : Nat)) w := by kernel_rfl
theorem rpart28 (c : Nat → Nat) (w : World) : (part 22 (rl c).toArray 28).run Tryz.prog w = .ok (.int .u64 (c 28 : Nat)) w := by kernel_rfl
theorem rpart29 (c : Nat → Nat) (w : World) : (part 22 (rl c).toArray 29).run Tryz.prog w = .ok (.int .u64 (c 29 : Nat)) w := by kernel_rfl
theorem rpart30 (c : Nat → Nat) (w : World) : (part 22 (rl c).toArray 30).run Tryz.prog w = .ok (.int .u64 (c 30 : Nat)) w := by kernel_rfl
theorem rpart31 (c : Nat → Nat) (w : World) : (part 22 (rl c).toArray 31).run Tryz.prog w = .ok (.int .u64 (c 31 : Nat)) w := by kernel_rfl
theorem rword_equal (x : Int) (w : World) : (Op.equalIn 9999 22 (.int .u64 x) (.int .u64 x)).run Tryz.prog w = .ok true w := by
  go_simp
theorem rec_equal (c : Nat → Nat) (w : World) : (Op.equalIn 10000 24 (.agg (rl c).toArray) (.agg (rl c).toArray)).run Tryz.prog w = .ok true w := by
  have hc : Tryz.prog.cellsOf 22 = 1 := by kernel_rfl
  cases hi : Tryz.prog.info? 22 with
  | none => simp [Program.cellsOf, hi] at hc
  | some i =>
    have h := run_equalIn_array (w := w) 9999 (rl c).toArray (rl c).toArray rec_desc hi
    rw [h, hc]
    have hr : List.range 32 = [0, 1, 2, 3, 4, 5, 6, 7, 8, 9, 10, 11, 12, 13, 14, 15, 16, 17, 18, 19, 20, 21, 22, 23, 24, 25, 26, 27, 28, 29, 30, 31] := by decide
    rw [hr]
    simp [Op.eqItems, rpart0 c w, rpart1 c w, rpart2 c w, rpart3 c w, rpart4 c w, rpart5 c w, rpart6 c w, rpart7 c w, rpart8 c w, rpart9 c w, rpart10 c w, rpart11 c w, rpart12 c w, rpart13 c w, rpart14 c w, rpart15 c w, rpart16 c w, rpart17 c w, rpart18 c w, rpart19 c w, rpart20 c w, rpart21 c w, rpart22 c w, rpart23 c w, rpart24 c w, rpart25 c w, rpart26 c w, rpart27 c w, rpart28 c w, rpart29 c w, rpart30 c w, rpart31 c w, rword_equal]
theorem rec_zero (w : World) : (Op.equalIn 10000 24 (.agg (rl wz).toArray) (.agg #[.int .u64 0, .int .u64 0, .int .u64 0, .int .u64 0, .int .u64 0, .int .u64 0, .int .u64 0, .int .u64 0, .int .u64 0, .int .u64 0, .int .u64 0, .int .u64 0, .int .u64 0, .int .u64 0, .int .u64 0, .int .u64 0, .int .u64 0, .int .u64 0, .int .u64 0, .int .u64 0, .int .u64 0, .int .u64 0, .int .u64 0, .int .u64 0, .int .u64 0, .int .u64 0, .int .u64 0, .int .u64 0, .int .u64 0, .int .u64 0, .int .u64 0, .int .u64 0])).run Tryz.prog w = .ok true w := rec_equal wz w
end Go.Proofs.YteogbpaaacmllaaGreatDoor.Tab
namespace Go.Proofs.YteogbpaaacmllaaGreatDoor
set_option maxRecDepth 20000
open Go.ChangeShapes Go.WideShapes Go.ChangeAt Go.RowKit

theorem own : ownKnob Tryz.prog.godebug = none := by kernel_rfl
theorem gHandle : Tryz.prog.globalNamed "errors.errorType" = some 0 := by kernel_rfl
theorem rtHandle : (Tryz.prog.cutTypes.find? (·.1 == "internal/reflectlite.rtype")).map (·.2) = some 177 := by kernel_rfl
theorem oneRow : ((List.range 236).filter fun t => Tryz.prog.rowNamed t [101, 114, 114, 111, 114]) = [34] := by kernel_rfl
theorem typesSize : Tryz.prog.types.size = 236 := by kernel_rfl

abbrev laidHandle {H : Type} : List (String × DataW H) := [("errors.errorType", Rows.laid_errors_errorType)]

theorem door_handle (os : Os) (args : Array Value) : laidMetH Tryz.prog laidHandle ((World.doorLaid Tryz.prog 400 os).forCall (fun _ _ => 0) ⟨#[], args, []⟩).memory :=
  laidMetH_of_parts (laidMet_nil _ _) (by kernel_rfl)

theorem handle_of_laid {W : World} (h : laidMetH Tryz.prog laidHandle W) : HandleAt W := by
  have h' : laidMet Tryz.prog [] W ∧ handlesMet Tryz.prog laidHandle W := h
  obtain ⟨name, u, ty, e1, e2, e3, e4, e5⟩ := h'.2 _ (List.mem_singleton.2 rfl)
  have en : name = [101, 114, 114, 111, 114] := (Option.some.inj e1).symm
  subst en
  obtain rfl := Option.some.inj (rtHandle.symm.trans e2)
  have hm : ty ∈ (List.range 236).filter fun t => Tryz.prog.rowNamed t [101, 114, 114, 111, 114] := List.mem_filter.2 ⟨List.mem_range.2 (by rw [← typesSize]; exact e3), e4⟩
  rw [oneRow] at hm
  obtain rfl := List.mem_singleton.1 hm
  have hh : typeHandle Tryz.prog 34 = .pointer (some ⟨1, 34, none⟩) := by kernel_rfl
  rw [hh] at e5
  have := World.var?_cell gHandle e5 0
  rw [HandleAt, this]
  rfl
end Go.Proofs.YteogbpaaacmllaaGreatDoor
namespace Go.Proofs.YteogbpaaacmllaaGreatDoor.Tab
set_option maxRecDepth 20000
open Go.RowKit
set_option linter.unusedVariables false

theorem bt_nx {s : Nat → Nat} {a : AK} (hg : Ak1 a) : ((bt (nx s a) a.t.toNat : Nat) : Int) = a.g := by
  by_cases hs : a.g = (bt s a.t.toNat : Nat)
  · rw [nx_shut hs]; exact hs.symm
  · rw [nx_open hs]
    unfold bt at hs ⊢
    rw [rdo_26, Nat.testBit_xor, Nat.testBit_two_pow_self, Bool.xor_true]
    have h2 := hg.2
    cases h : (s 26).testBit a.t.toNat
    · rw [h] at hs
      rcases h2 with h2 | h2
      · exact absurd h2 hs
      · rw [h2]; rfl
    · rw [h] at hs
      rcases h2 with h2 | h2
      · rw [h2]; rfl
      · exact absurd h2 hs
theorem bt_nx_ne {s : Nat → Nat} {a : AK} {t : Nat} (h : t ≠ a.t.toNat) : bt (nx s a) t = bt s t := by
  by_cases hs : a.g = (bt s a.t.toNat : Nat)
  · rw [nx_shut hs]
  · rw [nx_open hs]
    unfold bt
    rw [rdo_26, Nat.testBit_xor, Nat.testBit_two_pow_of_ne (by omega), Bool.xor_false]
/-- Behind asks of threads that are all others each is answered. -/
theorem run_bt {s : Nat → Nat} {q : Nat → AK} : ∀ {n}, (∀ i, i < n → Gk (q i)) → (∀ i j, i < j → j < n → (q i).t ≠ (q j).t) → ∀ i, i < n → (q i).g = ((bt (st s q n) (q i).t.toNat : Nat) : Int)
  | n + 1, hg, hd, i, hi => by
    show (q i).g = ((bt (nx (st s q n) (q n)) (q i).t.toNat : Nat) : Int)
    by_cases e : i = n
    · subst e; exact (bt_nx (hg i hi).1).symm
    · have h1 := (hg i hi).1.1
      have h2 := (hg n (Nat.lt_succ_self n)).1.1
      have h3 := hd i n (by omega) (Nat.lt_succ_self n)
      rw [bt_nx_ne (by omega)]
      exact run_bt (fun j hj => hg j (by omega)) (fun a b h1 h2 => hd a b h1 (by omega)) i (by omega)
theorem all_shut {s : Nat → Nat} {q : Nat → AK} : ∀ {n}, (∀ i, i < n → (q i).g = ((bt s (q i).t.toNat : Nat) : Int)) → st s q n = s ∧ dn s q n = []
  | 0, _ => ⟨rfl, rfl⟩
  | n + 1, h => by
    obtain ⟨h1, h2⟩ := all_shut (s := s) (q := q) (n := n) fun i hi => h i (by omega)
    have hn := h n (Nat.lt_succ_self n)
    refine ⟨?_, ?_⟩
    · show nx (st s q n) (q n) = s
      rw [h1]; exact nx_shut hn
    · show dn s q n ++ nd' (st s q n) (q n) = []
      rw [h1, h2, nd_shut hn]; rfl
/-- Asks that may be, of threads that are all others. -/
def Un (l : List AK) : Prop := (∀ a, a ∈ l → Gk a) ∧ l.Pairwise fun a b => a.t ≠ b.t
theorem Un.nil : Un [] := ⟨fun a h => (by cases h), List.Pairwise.nil⟩
theorem Un.more {l : List AK} (h : Un l) {a : AK} (hg : Gk a) (hn : ∀ b, b ∈ l → b.t ≠ a.t) : Un (l ++ [a]) :=
  ⟨fun b hb => by
    rcases List.mem_append.1 hb with hb | hb
    · exact h.1 b hb
    · rw [List.mem_singleton.1 hb]; exact hg, List.pairwise_append.2 ⟨h.2, List.pairwise_singleton _ _, fun b hb c hc => by rw [List.mem_singleton.1 hc]; exact hn b hb⟩⟩
theorem Un.gk {l : List AK} (h : Un l) : ∀ i, i < l.length → Gk (aof l i) := fun i hi => h.1 _ (aof_mem hi)
theorem aof_get {l : List AK} {i : Nat} (hi : i < l.length) : aof l i = l[i] := by
  unfold aof
  rw [List.getD_eq_getElem?_getD, List.getElem?_eq_getElem hi]; rfl
theorem Un.ne {l : List AK} (h : Un l) : ∀ i j, i < j → j < l.length → (aof l i).t ≠ (aof l j).t := fun i j hi hj => by
  rw [aof_get hj, aof_get (show i < l.length by omega)]
  exact List.pairwise_iff_getElem.1 h.2 i j (by omega) hj hi
section
variable {P : Program} {ops : Array Oper} {rest : List Oper} {o : Oper} {a : Act} {w : World} {Q : Exit → Act → World → Prop}
theorem wpList_pushA (hP : P = Tryz.prog) (hgd : o.guard = none) (s x : Operand) (ho : o.op = .call { callee := .builtin .append, args := #[s, x], argTypes := #[37, 37] })
    {B : Nat} {v : Value} {l : List AK} {nb : Nat} {d : AK} (hs : a.eval s = v) (hx : a.eval x = .slice (some ⟨nb, 0, none⟩) 1 1) (hB : B ≤ w.heap.size) (h : Oak B w v l) (hc : Bo w nb d.row) (hn : l.length ≤ 1000000)
    (hk : ∀ v' w', Oak B w' v' (l ++ [d]) → Below B w w' → wpList P ops Q rest (a.put o.dst v') w') : wpList P ops Q (o :: rest) a w := by
  subst hP
  refine wpList_plain hgd fun K hK => ?_
  obtain ⟨v', w', hr, h2, h3⟩ := h.app hB hc hn o.type
  unfold Oper.wp execOp
  simp only [ho, resolve, invoke, builtin, Sem.run_bind, Sem.run_pure, Result.andThen_ok, List.map_toArray, List.map_cons, List.map_nil, hs, hx, hr]
  exact hK _ _ (hk v' w' h2 ((Below.refl _ w).grown h3 hB (fun j hj => (h.lt j hj).1)))
end
end Go.Proofs.YteogbpaaacmllaaGreatDoor.Tab
namespace Go.Proofs.YteogbpaaacmllaaGreatDoor.Tab
set_option maxRecDepth 20000
open Go.RowKit
set_option linter.unusedVariables false

theorem bt_st_ne {s : Nat → Nat} {q : Nat → AK} {t : Nat} : ∀ {n}, (∀ i, i < n → t ≠ (q i).t.toNat) → bt (st s q n) t = bt s t
  | 0, _ => rfl
  | n + 1, h => by
    show bt (nx (st s q n) (q n)) t = _
    rw [bt_nx_ne (h n (Nat.lt_succ_self n))]
    exact bt_st_ne fun i hi => h i (by omega)
/-- An ask more, of a thread that asks for nothing else, by the toggle that it has: nothing is done. -/
theorem shut_in {s : Nat → Nat} {q p : Nat → AK} {x : AK} {i : Nat} (hp : ∀ j, j < i → p j = q j) (hx : p i = x) (hb : ∀ j, i ≤ j → p (j + 1) = q j) (hn : ∀ j, j < i → x.t.toNat ≠ (q j).t.toNat) (hg : x.g = (bt s x.t.toNat : Nat)) :
    ∀ {n}, i ≤ n → st s p (n + 1) = st s q n ∧ dn s p (n + 1) = dn s q n
  | n, hi => by
    by_cases e : n = i
    · subst e
      have h1 : st s p n = st s q n := st_congr hp
      have h2 : dn s p n = dn s q n := dn_congr hp
      have h3 : x.g = (bt (st s q n) x.t.toNat : Nat) := by rw [bt_st_ne hn]; exact hg
      refine ⟨?_, ?_⟩
      · show nx (st s p n) (p n) = _
        rw [h1, hx, nx_shut h3]
      · show dn s p n ++ nd' (st s p n) (p n) = _
        rw [h1, h2, hx, nd_shut h3, List.append_nil]
    · match n, hi, e with
      | 0, hi, e => omega
      | m + 1, hi, e =>
        obtain ⟨h1, h2⟩ := shut_in hp hx hb hn hg (n := m) (by omega)
        refine ⟨?_, ?_⟩
        · show nx (st s p (m + 1)) (p (m + 1)) = nx (st s q m) (q m)
          rw [h1, hb m (by omega)]
        · show dn s p (m + 1) ++ nd' (st s p (m + 1)) (p (m + 1)) = dn s q m ++ nd' (st s q m) (q m)
          rw [h1, h2, hb m (by omega)]
/-- The list with x at i. -/
def insL (l : List AK) (i : Nat) (x : AK) : List AK := l.take i ++ x :: l.drop i
theorem insL_length {l : List AK} {i : Nat} {x : AK} (hi : i ≤ l.length) : (insL l i x).length = l.length + 1 := by
  unfold insL; rw [List.length_append, List.length_cons, List.length_take, List.length_drop]; omega
theorem insL_lo {l : List AK} {i : Nat} {x : AK} (hi : i ≤ l.length) {j : Nat} (hj : j < i) : aof (insL l i x) j = aof l j := by
  unfold aof insL
  rw [List.getD_eq_getElem?_getD, List.getD_eq_getElem?_getD, List.getElem?_append_left (by rw [List.length_take]; omega), List.getElem?_take_of_lt hj]
theorem insL_at {l : List AK} {i : Nat} {x : AK} (hi : i ≤ l.length) : aof (insL l i x) i = x := by
  unfold aof insL
  rw [List.getD_eq_getElem?_getD, List.getElem?_append_right (by rw [List.length_take]; omega), List.length_take, Nat.min_eq_left hi, Nat.sub_self]; rfl
theorem insL_hi {l : List AK} {i : Nat} {x : AK} (hi : i ≤ l.length) {j : Nat} (hj : i ≤ j) : aof (insL l i x) (j + 1) = aof l j := by
  unfold aof insL
  rw [List.getD_eq_getElem?_getD, List.getD_eq_getElem?_getD, List.getElem?_append_right (by rw [List.length_take]; omega), List.length_take, Nat.min_eq_left hi, show j + 1 - i = (j - i) + 1 by omega, List.getElem?_cons_succ, List.getElem?_drop, show i + (j - i) = j by omega]
theorem insL_mem {l : List AK} {i : Nat} {x a : AK} (h : a ∈ insL l i x) : a = x ∨ a ∈ l := by
  unfold insL at h
  rcases List.mem_append.1 h with h | h
  · exact Or.inr (List.mem_of_mem_take h)
  · rcases List.mem_cons.1 h with h | h
    · exact Or.inl h
    · exact Or.inr (List.mem_of_mem_drop h)
/-- Asks of all threads but one. -/
def keepF (t : Int) (l : List AK) : List AK := l.filter fun a => a.t != t
theorem keepF_mem {t : Int} {l : List AK} {a : AK} (h : a ∈ keepF t l) : a ∈ l ∧ a.t ≠ t := by
  unfold keepF at h
  rw [List.mem_filter] at h
  exact ⟨h.1, by simpa using h.2⟩
theorem keepF_len (t : Int) (l : List AK) : (keepF t l).length ≤ l.length := List.length_filter_le _ _
theorem keepF_yes {t : Int} {a : AK} (l : List AK) (h : a.t ≠ t) : keepF t (l ++ [a]) = keepF t l ++ [a] := by
  unfold keepF; rw [List.filter_append]; simp [h]
theorem keepF_no {t : Int} {a : AK} (l : List AK) (h : a.t = t) : keepF t (l ++ [a]) = keepF t l := by
  unfold keepF; rw [List.filter_append]; simp [h]
theorem keepF_all {t : Int} {l : List AK} (h : ∀ a, a ∈ l → a.t ≠ t) : keepF t l = l := by
  unfold keepF
  rw [List.filter_eq_self]
  intro a ha
  simpa using h a ha
theorem aks_append (l m : List AK) : aks (l ++ m) = aks l ++ aks m := by simp [aks]
theorem aks_single (a : AK) : aks [a] = a.row := by simp [aks]
theorem aks_oneCell (l : List AK) : ∀ u ∈ aks l, u.oneCell' = true := by
  intro u hu
  obtain ⟨d, _, hd⟩ := List.mem_flatMap.1 hu
  simp [AK.row] at hd
  rcases hd with rfl | rfl | rfl | rfl | rfl <;> rfl
/-- Some cells of a block are written anew. -/
theorem Bo.splice {w : World} {b : Nat} {A B C vs : List Value} (h : Bo w b (A ++ (B ++ C))) (hl : vs.length = B.length) {o : Nat} (ho : o = A.length) : Bo (w.setCells b o vs) b (A ++ (vs ++ C)) := by
  subst ho
  refine h.setAt (by simp; omega) fun j v hj => ?_
  by_cases h1 : j < A.length
  · refine Or.inr ⟨Or.inl h1, ?_⟩
    rw [List.getElem?_append_left h1] at hj ⊢; exact hj
  · rw [List.getElem?_append_right (by omega)] at hj
    by_cases h2 : j - A.length < vs.length
    · rw [List.getElem?_append_left h2] at hj
      exact Or.inl ⟨by omega, by omega, hj⟩
    · rw [List.getElem?_append_right (by omega)] at hj
      refine Or.inr ⟨Or.inr (by omega), ?_⟩
      rw [List.getElem?_append_right (by omega), List.getElem?_append_right (by omega), ← hl]; exact hj
theorem Bo.front {w : World} {b : Nat} {A B : List Value} (h : Bo w b (A ++ B)) : Bo w b A := ⟨fun j v hj => h.cell j v (by rw [List.getElem?_append_left (List.getElem?_eq_some_iff.1 hj).1]; exact hj), h.froz, h.lt⟩
end Go.Proofs.YteogbpaaacmllaaGreatDoor.Tab
namespace Go.Proofs.YteogbpaaacmllaaGreatDoor.Tab
set_option maxRecDepth 20000
open Go.RowKit Go.Lib
set_option linter.unusedVariables false
set_option linter.unusedSimpArgs false

theorem run_copy_k {P : Program} (w : World) (dT sT ty elem : TypeId) (k m : Nat) (b o dLen dCap : Nat) (a : Addr) (sLen sCap : Nat) (cs : List Value)
    (hu : P.underlying dT = some (.slice elem)) (hs : (P.info? elem).map (·.size) = some k) (hm : Nat.min sLen dLen = m) (hn : cs.length = m * k)
    (hsrc : ∀ j v, cs[j]? = some v → w.cell? (a.add j) = some v) (hc : ∀ j, j < cs.length → (w.cell? ⟨b, o + j, none⟩).isSome = true) (hf : ∀ j, j < cs.length → w.frozen? ⟨b, o + j, none⟩ = false) (h1 : ∀ v ∈ cs, v.oneCell' = true) :
    (Builtin.copy_ #[dT, sT] ty #[.slice (some ⟨b, o, none⟩) dLen dCap, .slice (some a) sLen sCap]).run P w = .ok (goInt m) (w.setCells b o cs) := by
  have hl := run_loadCells_list (P := P) w a cs hsrc
  have hst := run_storeCells_cells (P := P) b o cs 0 w (by simpa using hc) (by simpa using hf) h1
  cases hq : P.info? elem with
  | none => simp [hq] at hs
  | some i =>
    have hi : i.size = k := by simpa [hq] using hs
    simp [Builtin.copy_, run_underlying hu, Builtin.lenOf, Builtin.firstCells, sizeOf, typeInfo, hq, hi, hm, ← hn, hl, hst]
/-- The cells of n asks of noughts. -/
def zAsk (n : Nat) : List Value := (Builtin.zeroCells (Value.agg #[.int .i64 0, .int .i64 0, .int .i64 0, .int .i64 0, .int .i64 0]).cells n).toList
theorem zAsk_length (n : Nat) : (zAsk n).length = n * 5 := by
  unfold zAsk; rw [Array.length_toList, size_zeroCells]; rfl
theorem zAsk_one (n : Nat) : ∀ u ∈ zAsk n, u.oneCell' = true := by
  intro u hu
  unfold zAsk Builtin.zeroCells at hu
  simp only [Array.toList_map, List.mem_map] at hu
  obtain ⟨i, _, rfl⟩ := hu
  have e : (Value.agg #[.int .i64 0, .int .i64 0, .int .i64 0, .int .i64 0, .int .i64 0]).cells = #[.int .i64 0, .int .i64 0, .int .i64 0, .int .i64 0, .int .i64 0] := rfl
  rw [e]
  have h5 : i % 5 < 5 := Nat.mod_lt _ (by decide)
  show (#[Value.int .i64 0, .int .i64 0, .int .i64 0, .int .i64 0, .int .i64 0][i % 5]!).oneCell' = true
  generalize i % 5 = k at h5
  match k, h5 with
  | 0, _ => rfl
  | 1, _ => rfl
  | 2, _ => rfl
  | 3, _ => rfl
  | 4, _ => rfl
theorem run_clear_a (w : World) (ty : TypeId) (b o n c : Nat) (hn : 0 < n)
    (hc : ∀ j, j < n * 5 → (w.cell? ⟨b, o + j, none⟩).isSome = true) (hf : ∀ j, j < n * 5 → w.frozen? ⟨b, o + j, none⟩ = false) :
    (Builtin.clear_ #[37] ty #[.slice (some ⟨b, o, none⟩) n c]).run Tryz.prog w = .ok (.tuple #[]) (w.setCells b o (zAsk n)) := by
  have hv : ∀ w : World, (zeroValue 52).run Tryz.prog w = .ok (.agg #[.int .i64 0, .int .i64 0, .int .i64 0, .int .i64 0, .int .i64 0]) w := fun w => by
    obtain ⟨i0, hi, hz0, hz1, hz2⟩ := info_parts infoAsk
    simp [zeroValue, typeInfo, hi, hz0]
  have hl := zAsk_length n
  have hst := run_storeCells_cells (P := Tryz.prog) b o (zAsk n) 0 w (by rw [hl]; simpa using hc) (by rw [hl]; simpa using hf) (zAsk_one n)
  simp only [Nat.add_zero] at hst
  unfold zAsk at hst ⊢
  obtain ⟨m, rfl⟩ : ∃ m, n = m + 1 := ⟨n - 1, by omega⟩
  simp [Builtin.clear_, run_underlying asks_desc, hv, hst]
theorem wpList_clearA {P : Program} (hP : P = Tryz.prog) {ops : Array Oper} {rest : List Oper} {o : Oper} {a : Act} {w : World} {Q : Exit → Act → World → Prop} (hgd : o.guard = none) (d : Operand)
    (ho : o.op = .call { callee := .builtin .clear, args := #[d], argTypes := #[37] }) {b off n c : Nat} (hd : a.eval d = .slice (some ⟨b, off, none⟩) n c) (hn : 0 < n)
    (hc : ∀ j, j < n * 5 → (w.cell? ⟨b, off + j, none⟩).isSome = true) (hf : ∀ j, j < n * 5 → w.frozen? ⟨b, off + j, none⟩ = false)
    (hk : wpList P ops Q rest (a.put o.dst (.tuple #[])) (w.setCells b off (zAsk n))) : wpList P ops Q (o :: rest) a w := by
  subst hP
  refine wpList_plain hgd fun K hK => ?_
  have hr := run_clear_a w o.type b off n c hn hc hf
  unfold Oper.wp execOp
  simp only [ho, resolve, invoke, builtin, Sem.run_bind, Sem.run_pure, Result.andThen_ok, List.map_toArray, List.map_cons, List.map_nil, hd, hr]
  exact hK _ _ hk
theorem wp_copy_runA {P : Program} (w : World) {o : Oper} {a : Act} {K : Act → World → Prop} {Q : Exit → Act → World → Prop} (d s : Operand) (t t' : TypeId)
    (ho : o.op = .call { callee := .builtin .copy, args := #[d, s], argTypes := #[t, t'] }) (v u : Value) (hd : a.eval d = v) (hs : a.eval s = u) {v' : Value} {w' : World}
    (hr : (Builtin.copy_ #[t, t'] o.type #[v, u]).run P w = .ok v' w') (h : K (a.put o.dst v') w') : o.wp P a w K Q := by
  unfold Oper.wp execOp
  simp only [ho, resolve, invoke, builtin, Sem.run_bind, Sem.run_pure, Result.andThen_ok, List.map_toArray, List.map_cons, List.map_nil, hd, hs, hr]
  exact h
theorem wpList_copy_runA {P : Program} (w : World) {ops : Array Oper} {rest : List Oper} {o : Oper} {a : Act} {Q : Exit → Act → World → Prop} (hgd : o.guard = none) (d s : Operand) (t t' : TypeId)
    (ho : o.op = .call { callee := .builtin .copy, args := #[d, s], argTypes := #[t, t'] }) (v u : Value) (hd : a.eval d = v) (hs : a.eval s = u) {v' : Value} {w' : World}
    (hr : (Builtin.copy_ #[t, t'] o.type #[v, u]).run P w = .ok v' w') (h : wpList P ops Q rest (a.put o.dst v') w') : wpList P ops Q (o :: rest) a w :=
  wpList_plain hgd fun _ hK => wp_copy_runA w d s t t' ho v u hd hs hr (hK _ _ h)
theorem step_copy_runA {P : Program} {ops : Array Oper} {o : Oper} {a : Act} {w : World} {K : Act → World → Prop} {Q : Exit → Act → World → Prop} {E : Prop}
    (hg : o.guard = none) (d x : Operand) (dT sT : TypeId) (hop : o.op = Op.call { callee := Callee.builtin Builtin.copy, args := #[d, x], argTypes := #[dT, sT] })
    (v u : Value) (hd : a.eval d = v) (hx : a.eval x = u) {v' : Value} {w' : World} (hr : (Builtin.copy_ #[dT, sT] o.type #[v, u]).run P w = .ok v' w') (hK : K (a.put o.dst v') w') :
    if Region.wanted o (yielded ops a.tmps) = true then Oper.wp P o a w K Q else E := by
  have hw : Region.wanted o (yielded ops a.tmps) = true := by simp [Region.wanted, hg]
  rw [if_pos hw]
  unfold Oper.wp
  simp [execOp, hop, resolve, invoke, builtin, hd, hx, hr, Result.andThen]
  exact hK
theorem drew_setCellsA (b : Nat) : ∀ (vs : List Value) (o : Nat) (w : World), (w.setCells b o vs).drew = w.drew.setCells b o vs
  | [], _, _ => rfl
  | v :: r, o, w => by rw [World.setCells, World.setCells, drew_setCellsA b r]; rfl
theorem isSome_setCellsA (b : Nat) (vs : List Value) (o : Nat) (w : World) (h : ∀ j, j < vs.length → (w.cell? ⟨b, o + j, none⟩).isSome = true) (k : Nat) (hk : (w.cell? ⟨b, k, none⟩).isSome = true) : ((w.setCells b o vs).cell? ⟨b, k, none⟩).isSome = true := by
  by_cases hin : o ≤ k ∧ k < o + vs.length
  · have := World.cell?_setCells_in b vs o w h (k - o) (by omega)
    rw [show o + (k - o) = k by omega] at this
    rw [this]; rfl
  · rw [World.cell?_setCells_out b vs o w ⟨b, k, none⟩ (fun _ _ => by show k < o ∨ o + vs.length ≤ k; omega)]
    exact hk
theorem askSize : (Tryz.prog.info? 52).map (·.size) = some 5 := by
  obtain ⟨i0, hi0, h0, h1, h2⟩ := info_parts infoAsk
  rw [hi0]; simp [h1]
end Go.Proofs.YteogbpaaacmllaaGreatDoor.Tab
namespace Go.Proofs.YteogbpaaacmllaaGreatDoor.Tab
set_option maxRecDepth 20000
open Go.RowKit Go.Lib
set_option linter.unusedVariables false
set_option linter.unusedSimpArgs false

theorem askRow_one (x : AK) : ∀ u ∈ x.row, u.oneCell' = true := by
  intro u hu
  simp [AK.row] at hu
  rcases hu with rfl | rfl | rfl | rfl | rfl <;> rfl
set_option maxHeartbeats 8000000 in
set_option maxRecDepth 100000 in
/-- There is room, and something behind. -/
theorem insert_shift {b n c i vb : Nat} {cs : List Value} {x : AK} (w : World) (hi : i < n) (hroom : n + 1 ≤ c) (hc63 : c ≤ 9223372036854775807) (hvb : vb ≠ b) (hcl : cs.length = n * 5)
    (hcs : ∀ j v, cs[j]? = some v → w.cell? ⟨b, j, none⟩ = some v) (hsp : ∀ j, j < (n + 1) * 5 → (w.cell? ⟨b, j, none⟩).isSome = true) (hfz : ∀ j, j < (n + 1) * 5 → w.frozen? ⟨b, j, none⟩ = false)
    (hvs : ∀ j v, x.row[j]? = some v → w.cell? ⟨vb, 0 + j, none⟩ = some v) (h1c : ∀ v ∈ cs, v.oneCell' = true)
    (tA tB : TypeId) (kA kB : Nat) (hsa : w.shape? vb = some (tA, kA)) (hsb : w.shape? b = some (tB, kB)) (hkB : kB ≠ 0) (hfa : w.frozen? ⟨vb, 0, none⟩ = false) (hfe : w.frozen? ⟨vb, kA, none⟩ = false) :
    Calls Tryz.prog 22 #[.slice (some ⟨b, 0, none⟩) n c, .int .i64 i, .slice (some ⟨vb, 0, none⟩) 1 1] w fun e w' =>
      e = .returned (.slice (some ⟨b, 0, none⟩) (n + 1) c) ∧ w' = (w.drew.setCells b ((i + 1) * 5) (cs.drop (i * 5))).setCells b (i * 5) x.row := by
  have hz2 : ¬ ((i : Int) = (n : Int)) := by omega
  have hov : ∀ lb cb, (callFunc 46 #[.slice (some ⟨vb, 0, none⟩) 1 1, .slice (some ⟨b, (i + 1) * 5, none⟩) lb cb]).run Tryz.prog w = .ok (.value (.bool false)) w := fun lb cb => by
    rw [run_callFunc_extern Tryz.func46 (by kernel_rfl) (by kernel_rfl) (by kernel_rfl) (e := Extern.SlicesOverlaps.overlaps #[37, 37] #[4]) (by kernel_rfl),
      Lib.run_overlaps_apart w 37 4 52 asks_desc 5 (fun w => by
        obtain ⟨i0, hi0, h0, h1, h2⟩ := info_parts infoAsk
        simp [Go.sizeOf, typeInfo, hi0, h1]) ⟨vb, 0, none⟩ ⟨b, (i + 1) * 5, none⟩ 1 1 lb cb hvb tA tB kA kB hsa hsb hkB hfa hfe]
    rfl
  have hdl : (cs.drop (i * 5)).length = (n - i) * 5 := by rw [List.length_drop, hcl]; omega
  have hw1 : IntKind.i64.wrap ((i : Int) + (1 : Int)) = (i : Int) + (1 : Int) := by rw [IntKind.wrap_i64]; omega
  have hb1 : (0 : Int) ≤ (i : Int) + (1 : Int) := by omega
  have hin : i ≤ n := by omega
  have htn : ((i : Int) + (1 : Int)).toNat = i + 1 := by omega
  have hb2 : ¬ (c = i + 1) := by omega
  have hb3 : (i : Int) ≤ (n : Int) + (1 : Int) := by omega
  have hb4 : ¬ (c = i) := by omega
  have hcp1 : ∀ ty dc sc, (Builtin.copy_ #[37, 37] ty #[.slice (some ⟨b, (i + 1) * 5, none⟩) (n - i) dc, .slice (some ⟨b, i * 5, none⟩) (n + 1 - i) sc]).run Tryz.prog w.drew = .ok (goInt (n - i : Nat)) (w.drew.setCells b ((i + 1) * 5) (cs.drop (i * 5))) := fun ty dc sc =>
    run_copy_k w.drew _ _ ty 52 5 (n - i) b ((i + 1) * 5) (n - i) dc ⟨b, i * 5, none⟩ (n + 1 - i) sc (cs.drop (i * 5)) asks_desc askSize (by simp only [Nat.min_def]; split <;> omega) hdl
      (fun j v hj => by rw [Addr.add_lit]; exact hcs (i * 5 + j) v (by rwa [List.getElem?_drop] at hj))
      (fun j hj => hsp _ (by omega)) (fun j hj => hfz _ (by omega)) (fun v hv => h1c v (List.mem_of_mem_drop hv))
  obtain ⟨W1, hW1⟩ : ∃ W1, W1 = w.drew.setCells b ((i + 1) * 5) (cs.drop (i * 5)) := ⟨_, rfl⟩
  have hsp1 : ∀ k, k < (n + 1) * 5 → (W1.cell? ⟨b, k, none⟩).isSome = true := fun k hk => by
    rw [hW1]
    exact isSome_setCellsA b _ _ _ (by intro j hj; exact hsp _ (by omega)) _ (hsp k hk)
  have hcp2 : ∀ (W : World), (∀ x, W.cell? x = W1.cell? x) → (∀ x, W.frozen? x = W1.frozen? x) → ∀ ty dc, (Builtin.copy_ #[37, 37] ty #[.slice (some ⟨b, i * 5, none⟩) (n + 1 - i) dc, .slice (some ⟨vb, 0, none⟩) 1 1]).run Tryz.prog W = .ok (goInt (1 : Nat)) (W.setCells b (i * 5) x.row) := fun W hWc hWf ty dc =>
    run_copy_k W _ _ ty 52 5 1 b (i * 5) (n + 1 - i) dc ⟨vb, 0, none⟩ 1 1 x.row asks_desc askSize (by simp only [Nat.min_def]; split <;> omega) rfl
      (fun j v hj => by
        rw [Addr.add_lit, hWc, hW1, World.cell?_setCells_out b _ _ _ _ (fun h _ => absurd h hvb)]
        exact hvs j v hj)
      (fun j hj => by rw [hWc]; have : j < 5 := hj; exact hsp1 _ (by omega)) (fun j hj => by rw [hWf, hW1, World.frozen?_setCells]; have : j < 5 := hj; exact hfz _ (by omega)) (askRow_one x)
  rw [← hW1] at hcp1
  have mixed : Tryz.prog.follows Departure.mixedOrders = true := by kernel_rfl
  go_enter Tryz.func22, Tryz.ntmps22
  go_wp2_with (simp only [hov])
  go_region_law_o (refine step_copy_runA rfl _ _ 37 37 rfl _ _ (by simp [Act.eval, Act.put]) (by simp [Act.eval, Act.put]) (hcp1 _ _ _) ?_)
  go_wp2_with (at_builtin; refine wpList_copy_runA _ rfl _ _ 37 37 rfl _ _ rfl rfl (hcp2 _ (fun _ => rfl) (fun _ => rfl) _ _) ?_)
  go_ret
  first | exact ⟨rfl, rfl⟩ | exact ⟨rfl, by rw [hW1]⟩
set_option maxHeartbeats 8000000 in
set_option maxRecDepth 100000 in
/-- There is no room, and something behind: a new row. -/
theorem insert_grow {b n c i vb : Nat} {cs vs : List Value} (w : World) (hi : i < n) (hnc : n ≤ c) (hroom : c < n + 1) (hbig : n ≤ 1000000) (hcl : cs.length = n * 5)
    (hcs : ∀ j v, cs[j]? = some v → w.cell? ⟨b, j, none⟩ = some v) (hvl : vs.length = 5) (hvs : ∀ j v, vs[j]? = some v → w.cell? ⟨vb, 0 + j, none⟩ = some v) (h1v : ∀ v ∈ vs, v.oneCell' = true) (h1c : ∀ v ∈ cs, v.oneCell' = true) :
    Calls Tryz.prog 22 #[.slice (some ⟨b, 0, none⟩) n c, .int .i64 i, .slice (some ⟨vb, 0, none⟩) 1 1] w fun e w' =>
      ∃ (G : Nat) (Z : List Value), n + 1 ≤ G ∧ e = .returned (.slice (some ⟨w.heap.size, 0, none⟩) (n + 1) G) ∧
      w' = (((w.alloc (.cells (cs.take (i * 5) ++ (zAsk (n + 1 - i) ++ Z)).toArray 52)).drew.setCells w.heap.size (i * 5) vs).drew).setCells w.heap.size ((i + 1) * 5) (cs.drop (i * 5)) := by
  obtain ⟨i0, hi0, hz0, hzs, hzb⟩ := info_parts infoAsk
  have hz2 : ¬ ((i : Int) = (n : Int)) := by omega
  have hz3 : (c : Int) < (n : Int) + (1 : Int) := by omega
  have hbw : b < w.heap.size := block_lt_of_cell (hcs 0 _ (List.getElem?_eq_getElem (by omega)))
  have hvw : vb < w.heap.size := block_lt_of_cell (hvs 0 _ (List.getElem?_eq_getElem (by omega)))
  have hkk : (n : Int) + (1 : Int) - (i : Int) = ((n + 1 - i : Nat) : Int) := by omega
  have hik : i + (n + 1 - i) = n + 1 := by omega
  have hold : (Builtin.firstCells i0.size i (.slice (some ⟨b, 0, none⟩) i c)).run Tryz.prog w.drew = .ok (cs.take (i * 5)).toArray w.drew := by
    rw [hzs]
    exact run_firstCells_some w.drew 5 i ⟨b, 0, none⟩ i c (cs.take (i * 5)) (by rw [List.length_take]; omega) (fun j v hj => by
      rw [Addr.add_lit, Nat.zero_add]
      rw [List.getElem?_take] at hj
      split at hj
      · exact hcs j v hj
      · cases hj)
  have hrz : ∀ ty, (Builtin.append_ #[37, 3] ty #[.slice (some ⟨b, 0, none⟩) i c, .int .i64 ((n : Int) + (1 : Int) - (i : Int))]).run Tryz.prog w =
      .ok (.slice (some ⟨w.heap.size, 0, none⟩) (n + 1) (grownCap w (n + 1) c 52)) (w.drew.alloc (.cells ((cs.take (i * 5)).toArray ++ Builtin.zeroCells (Value.agg #[.int .i64 0, .int .i64 0, .int .i64 0, .int .i64 0, .int .i64 0]).cells (n + 1 - i) ++ Builtin.zeroCells (Value.agg #[.int .i64 0, .int .i64 0, .int .i64 0, .int .i64 0, .int .i64 0]).cells (grownCap w (n + 1) c 52 - (n + 1))) 52)) := fun ty => by
    have h := Lib.run_append_grow_zeros w 37 3 ty 52 i0 _ .i64 .i64 asks_desc (by kernel_rfl) hi0 hz0 (some ⟨b, 0, none⟩) i c (cs.take (i * 5)) hold (n + 1 - i) (by omega) (by omega) (by omega) (by omega) (by rw [hzb]; omega) (by rw [hzb, hik]; exact growslice_fits hroom (by omega))
    rw [hik] at h
    rw [hkk]
    exact h
  obtain ⟨G, hG⟩ : ∃ G, G = grownCap w (n + 1) c 52 := ⟨_, rfl⟩
  obtain ⟨Z, hZ⟩ : ∃ Z, Z = zAsk (G - (n + 1)) := ⟨_, rfl⟩
  obtain ⟨ROW, hROW⟩ : ∃ ROW : Array Value, ROW = (cs.take (i * 5) ++ (zAsk (n + 1 - i) ++ Z)).toArray := ⟨_, rfl⟩
  rw [← hG] at hrz
  have hRR : (cs.take (i * 5)).toArray ++ Builtin.zeroCells (Value.agg #[.int .i64 0, .int .i64 0, .int .i64 0, .int .i64 0, .int .i64 0]).cells (n + 1 - i) ++ Builtin.zeroCells (Value.agg #[.int .i64 0, .int .i64 0, .int .i64 0, .int .i64 0, .int .i64 0]).cells (G - (n + 1)) = ROW := by
    rw [hROW, hZ]; unfold zAsk; simp
  rw [hRR] at hrz
  have hRl : (n + 1) * 5 ≤ ROW.size := by
    rw [hROW]
    simp [zAsk_length]
    omega
  have hGn : n + 1 ≤ G := by rw [hG]; exact grownCap_ge w _ _ _
  have hG63 : G ≤ 9223372036854775807 := by
    have := grownCap_le_maxLen w (n + 1) c 52 (by unfold maxLen; omega)
    rw [← hG] at this
    unfold maxLen at this
    omega
  suffices hS : Calls Tryz.prog 22 #[.slice (some ⟨b, 0, none⟩) n c, .int .i64 i, .slice (some ⟨vb, 0, none⟩) 1 1] w fun e w' =>
      e = .returned (.slice (some ⟨w.heap.size, 0, none⟩) (n + 1) G) ∧ w' = (((w.alloc (.cells ROW 52)).drew.setCells w.heap.size (i * 5) vs).drew).setCells w.heap.size ((i + 1) * 5) (cs.drop (i * 5)) from
    hS.mono fun e w' ⟨h1, h2⟩ => ⟨G, Z, hGn, h1, by rw [← hROW]; exact h2⟩
  obtain ⟨W1, hW1⟩ : ∃ W1, W1 = w.drew.alloc (.cells ROW 52) := ⟨_, rfl⟩
  rw [← hW1] at hrz
  have hN : ∀ j, j < (n + 1) * 5 → (W1.cell? ⟨w.heap.size, j, none⟩).isSome = true := fun j hj => by
    rw [hW1, World.cell?_alloc_at (w := w.drew) ROW _ w.heap.size j rfl, Array.getElem?_eq_getElem (by omega)]; rfl
  have hNf : ∀ j, W1.frozen? ⟨w.heap.size, j, none⟩ = false := fun j => by rw [hW1]; exact World.frozen?_alloc_at (w := w.drew) ROW _ w.heap.size j rfl
  have hOb : ∀ j v, w.cell? ⟨b, j, none⟩ = some v → W1.cell? ⟨b, j, none⟩ = some v := fun j v h => by rw [hW1, World.cell?_alloc_past (w := w.drew) _ b j hbw]; exact h
  have hOv : ∀ j v, w.cell? ⟨vb, j, none⟩ = some v → W1.cell? ⟨vb, j, none⟩ = some v := fun j v h => by rw [hW1, World.cell?_alloc_past (w := w.drew) _ vb j hvw]; exact h
  have hcpA : ∀ (W : World), (∀ x, W.cell? x = W1.cell? x) → (∀ x, W.frozen? x = W1.frozen? x) → ∀ ty dc, (Builtin.copy_ #[37, 37] ty #[.slice (some ⟨w.heap.size, i * 5, none⟩) (n + 1 - i) dc, .slice (some ⟨vb, 0, none⟩) 1 1]).run Tryz.prog W = .ok (goInt (1 : Nat)) (W.setCells w.heap.size (i * 5) vs) := fun W hWc hWf ty dc =>
    run_copy_k W _ _ ty 52 5 1 w.heap.size (i * 5) (n + 1 - i) dc ⟨vb, 0, none⟩ 1 1 vs asks_desc askSize (by simp only [Nat.min_def]; split <;> omega) hvl
      (fun j v hj => by rw [Addr.add_lit, hWc]; exact hOv _ v (hvs j v hj))
      (fun j hj => by have : j < 5 := hvl ▸ hj; rw [hWc]; exact hN _ (by omega)) (fun j hj => by rw [hWf]; exact hNf _) h1v
  have hGi : ¬ (G = i) := by omega
  have hGim : ¬ (G = i + 1) := by omega
  have hci : ¬ (c = i) := by omega
  have hbN : b ≠ w.heap.size := by omega
  have hdl : (cs.drop (i * 5)).length = (n - i) * 5 := by rw [List.length_drop, hcl]; omega
  have hcpB : ∀ (W : World), (∀ y, W.cell? y = (W1.setCells w.heap.size (i * 5) vs).cell? y) → (∀ y, W.frozen? y = (W1.setCells w.heap.size (i * 5) vs).frozen? y) → ∀ ty dc sc, (Builtin.copy_ #[37, 37] ty #[.slice (some ⟨w.heap.size, (i + 1) * 5, none⟩) (n - i) dc, .slice (some ⟨b, i * 5, none⟩) (n - i) sc]).run Tryz.prog W = .ok (goInt (n - i : Nat)) (W.setCells w.heap.size ((i + 1) * 5) (cs.drop (i * 5))) := fun W hWc hWf ty dc sc =>
    run_copy_k W _ _ ty 52 5 (n - i) w.heap.size ((i + 1) * 5) (n - i) dc ⟨b, i * 5, none⟩ (n - i) sc (cs.drop (i * 5)) asks_desc askSize (by simp only [Nat.min_def]; split <;> omega) hdl
      (fun j v hj => by
        rw [Addr.add_lit, hWc, World.cell?_setCells_out _ _ _ _ _ (fun h _ => absurd h hbN)]
        exact hOb _ v (hcs (i * 5 + j) v (by rwa [List.getElem?_drop] at hj)))
      (fun j hj => by rw [hWc]; exact isSome_setCellsA _ _ _ _ (by intro t ht; have : t < 5 := hvl ▸ ht; exact hN _ (by omega)) _ (hN _ (by omega)))
      (fun j hj => by rw [hWf, World.frozen?_setCells]; exact hNf _) (fun v hv => h1c v (List.mem_of_mem_drop hv))
  subst hW1
  have hE1 : ∀ x, ((w.alloc (.cells ROW 52)).drew).cell? x = (w.drew.alloc (.cells ROW 52)).cell? x := fun x => rfl
  have hE2 : ∀ x, ((w.alloc (.cells ROW 52)).drew).frozen? x = (w.drew.alloc (.cells ROW 52)).frozen? x := fun x => rfl
  have hF1 : ∀ y, (((w.alloc (.cells ROW 52)).drew.setCells w.heap.size (i * 5) vs).drew).cell? y = ((w.drew.alloc (.cells ROW 52)).setCells w.heap.size (i * 5) vs).cell? y := fun x => rfl
  have hF2 : ∀ y, (((w.alloc (.cells ROW 52)).drew.setCells w.heap.size (i * 5) vs).drew).frozen? y = ((w.drew.alloc (.cells ROW 52)).setCells w.heap.size (i * 5) vs).frozen? y := fun x => rfl
  have hw1 : IntKind.i64.wrap ((i : Int) + (1 : Int)) = (i : Int) + (1 : Int) := by rw [IntKind.wrap_i64]; omega
  have hb1 : (0 : Int) ≤ (i : Int) + (1 : Int) := by omega
  have hin : i ≤ n := by omega
  have htn : ((i : Int) + (1 : Int)).toNat = i + 1 := by omega
  have hb3 : (i : Int) ≤ (n : Int) := by omega
  have mixed : Tryz.prog.follows Departure.mixedOrders = true := by kernel_rfl
  clear hkk hik hold hROW hG hRl hRR hZ
  go_enter Tryz.func22, Tryz.ntmps22
  go_wp2_with (first
    | (at_builtin; refine Lib.wpList_append_run _ rfl _ _ _ _ rfl _ _ rfl rfl _ _ (hrz _) ?_)
    | (at_builtin; refine wpList_copy_runA _ rfl _ _ 37 37 rfl _ _ rfl rfl (hcpA _ hE1 hE2 _ _) ?_))
  go_region_law_o (refine step_copy_runA rfl _ _ 37 37 rfl (.slice (some ⟨w.heap.size, (i + 1) * 5, none⟩) (n - i) (G - (i + 1))) (.slice (some ⟨b, i * 5, none⟩) (n - i) (c - i)) (by simp [Act.eval, Act.put]) (by simp [Act.eval, Act.put]) (hcpB _ hF1 hF2 3 (G - (i + 1)) (c - i)) ?_)
  go_wp2
  go_ret
  exact ⟨rfl, rfl⟩
end Go.Proofs.YteogbpaaacmllaaGreatDoor.Tab
namespace Go.Proofs.YteogbpaaacmllaaGreatDoor.Tab
set_option maxRecDepth 20000
open Go.RowKit Go.Lib
set_option linter.unusedVariables false

theorem below_setCells {B : Nat} {a w : World} (h : Below B a w) {c : Nat} (hc : B ≤ c) (o : Nat) (vs : List Value) : Below B a (w.setCells c o vs) :=
  ⟨by rw [← h.os]; exact os_setCells c _ _ _, by rw [← h.tape]; exact tape_setCells c _ _ _, by rw [← h.output]; exact output_setCells c _ _ _, by rw [size_setCells]; exact h.size,
    fun k hk => (heap_setCells (by omega) _ _ _).trans (h.block k hk)⟩
/-- A row of asks that lies somewhere, to be read. -/
def La (W : World) (v : Value) (l : List AK) : Prop :=
  (l = [] ∧ ∃ (a : Option Addr) (c : Nat), v = .slice a 0 c ∧ (a = none → c = 0)) ∨ ∃ g cap, v = .slice (some ⟨g, 0, none⟩) l.length cap ∧ l ≠ [] ∧ l.length ≤ cap ∧ Bo W g (aks l)
theorem La.later {W W' : World} {v : Value} {l : List AK} (h : La W v l) (hb : Below W.heap.size W W') : La W' v l := by
  rcases h with h | ⟨g, cap, h1, h2, h3, h4⟩
  · exact Or.inl h
  · exact Or.inr ⟨g, cap, h1, h2, h3, h4.later hb⟩
theorem La.form {W : World} {v : Value} {l : List AK} (h : La W v l) : ∃ a c, v = .slice a l.length c := by
  rcases h with ⟨h, a, c, e, _⟩ | ⟨g, cap, h1, _⟩
  · exact ⟨a, c, by rw [h]; exact e⟩
  · exact ⟨_, _, h1⟩
theorem La.aq {W : World} {v : Value} {l : List AK} (h : La W v l) (hl : l.length ≤ 1000000) : Aq W v l.length (aof l) := by
  rcases h with ⟨h, a, c, e, hc⟩ | ⟨g, cap, h1, _, h3, h4⟩
  · subst h; exact Or.inl ⟨rfl, a, c, e, hc⟩
  · rw [h1]; exact h4.aq (Nat.le_refl _) h3 hl
theorem Oak.onto {B : Nat} {W : World} {v u : Value} {l m : List AK} (h : Oak B W v l) (hB : B ≤ W.heap.size) (k : La W u m) (hn : l.length + m.length ≤ 1000000) (ty : TypeId) :
    ∃ v' W', (Builtin.append_ #[37, 37] ty #[v, u]).run Tryz.prog W = .ok v' W' ∧ Oak B W' v' (l ++ m) ∧ W.grownBy W' v.ownBlock := by
  obtain ⟨i0, hi, hz0, hz1, hz2⟩ := info_parts infoAsk
  have own : ∀ (a : Addr) (c : Nat), (∀ j x, (aks m)[j]? = some x → W.cell? (a.add j) = some x) →
      ∃ v' W', (Builtin.append_ #[37, 37] ty #[v, .slice (some a) m.length c]).run Tryz.prog W = .ok v' W' ∧ Oak B W' v' (l ++ m) ∧ W.grownBy W' v.ownBlock := by
    intro a c hc
    obtain ⟨v', w', hr, ho, hg, _⟩ := run_append_own (P := Tryz.prog) (w := W) B 37 ty 52 i0 (.agg #[.int .i64 0, .int .i64 0, .int .i64 0, .int .i64 0, .int .i64 0]) 5 40 asks_desc hi hz0 hz1 hz2 rfl (by decide) v l.length (aks l) h a m.length c (aks m) (aks_length m) hc (aks_oneCell m) (by unfold maxLen; omega) (by omega) hB
    refine ⟨v', w', hr, ?_, hg⟩
    unfold Oak
    rw [aks_append, List.length_append]
    exact ho
  rcases k with ⟨rfl, a, c, rfl, hc⟩ | ⟨g, cap, rfl, _, _, hG⟩
  · cases a with
    | none =>
      obtain rfl := hc rfl
      refine ⟨v, W, ?_, by rw [List.append_nil]; exact h, ⟨rfl, rfl, rfl, Nat.le_refl _, fun _ _ _ => rfl⟩⟩
      rcases h.2 with ⟨rfl, _⟩ | ⟨g, cap, cur, rfl, hb, hg, hn, hm, hs, ht⟩
      · simp [Builtin.append_, run_underlying asks_desc, sizeOf, typeInfo, hi, Builtin.lenOf, Builtin.firstCells]
      · simp [Builtin.append_, run_underlying asks_desc, sizeOf, typeInfo, hi, Builtin.lenOf, Builtin.firstCells, hn, storeCells]
    | some a => exact own a c (by intro j x hx; simp [aks] at hx)
  · exact own ⟨g, 0, none⟩ cap (fun j x hx => by rw [Addr.add_lit, Nat.zero_add]; exact hG.cell j x hx)
theorem wpList_ontoA {P : Program} (hP : P = Tryz.prog) {ops : Array Oper} {rest : List Oper} {o : Oper} {a : Act} {w : World} {Q : Exit → Act → World → Prop} (hgd : o.guard = none) (s x : Operand)
    (ho : o.op = .call { callee := .builtin .append, args := #[s, x], argTypes := #[37, 37] }) {B : Nat} {v u : Value} {l m : List AK} (hs : a.eval s = v) (hx : a.eval x = u) (hB : B ≤ w.heap.size) (h : Oak B w v l) (k : La w u m) (hn : l.length + m.length ≤ 1000000)
    (hk : ∀ v' w', Oak B w' v' (l ++ m) → Below B w w' → wpList P ops Q rest (a.put o.dst v') w') : wpList P ops Q (o :: rest) a w := by
  subst hP
  refine wpList_plain hgd fun K hK => ?_
  obtain ⟨v', w', hr, h2, h3⟩ := h.onto hB k hn o.type
  unfold Oper.wp execOp
  simp only [ho, resolve, invoke, builtin, Sem.run_bind, Sem.run_pure, Result.andThen_ok, List.map_toArray, List.map_cons, List.map_nil, hs, hx, hr]
  exact hK _ _ (hk v' w' h2 ((Below.refl _ w).grown h3 hB (fun j hj => (h.lt j hj).1)))
theorem Oak.empty (w : World) : Oak w.heap.size (w.alloc (.cells #[] 52)) (.slice (some ⟨w.heap.size, 0, none⟩) 0 0) [] :=
  ⟨rfl, Or.inr ⟨w.heap.size, 0, #[], rfl, Nat.le_refl _, (show (w.heap.push _)[w.heap.size]? = _ from Array.getElem?_push_size), Nat.le_refl _, by unfold maxLen; omega, rfl, rfl⟩⟩
set_option maxHeartbeats 4000000 in
theorem clone_nil (w : World) :
    Calls Tryz.prog 23 #[.slice none 0 0] w (fun e w' => e = .returned (.slice none 0 0) ∧ Below w.heap.size w w') := by
  have hM : Hid _ := (Ms.nil w)
  have heq : ∀ w, (binOp .eql 37 (.slice none 0 0) (.slice none 0 0)).run Tryz.prog w = .ok (.bool true) w := fun w => by rw [Lib.run_eql_slice_nil w _ _ none 0 0 0 0 asks_desc]; rfl
  go_enter Tryz.func23, Tryz.ntmps23
  go_wp2
  go_ret
  exact ⟨rfl, hM.out.below⟩
set_option maxHeartbeats 4000000 in
theorem clone_some {ad : Addr} {n c : Nat} {l : List AK} (w : World) (hl : l.length ≤ 1000000) (h : La w (.slice (some ad) n c) l) :
    Calls Tryz.prog 23 #[.slice (some ad) n c] w (fun e w' => ∃ v', e = .returned v' ∧ Oak w.heap.size w' v' l ∧ Below w.heap.size w w') := by
  have HL : Hid _ := hid h
  have HN : Hid (l.length ≤ 1000000) := hl
  clear h hl
  have E : Hid (∀ w : World, _) := hid Oak.empty
  have heq : ∀ w, (binOp .eql 37 (.slice (some ad) n c) (.slice none 0 0)).run Tryz.prog w = .ok (.bool false) w := fun w => by rw [Lib.run_eql_slice_nil w _ _ (some ad) n c 0 0 asks_desc]; rfl
  go_enter Tryz.func23, Tryz.ntmps23
  go_wp2_with (first
    | (at_builtin; refine wpList_ontoA rfl rfl (.tmp 5) (.tmp 6) rfl rfl rfl (B := w.heap.size) (l := []) (by simp) (E.out w) (HL.out.later (new_below w _)) (by have := HN.out; simpa using this) ?_
       intro v9 w9 hO9 hb9
       have hO9 : Hid _ := hid hO9
       have hb9 : Hid _ := hid hb9))
  go_ret
  exact ⟨_, rfl, hO9.out, (new_below w _).trans hb9.out⟩
theorem clone_is {v : Value} {l : List AK} (w : World) (hl : l.length ≤ 1000000) (h : La w v l) :
    Calls Tryz.prog 23 #[v] w (fun e w' => ∃ v', e = .returned v' ∧ Oak w.heap.size w' v' l ∧ Below w.heap.size w w') := by
  rcases id h with ⟨rfl, a, c, rfl, hc⟩ | ⟨g, cap, rfl, _⟩
  · cases a with
    | none =>
      obtain rfl := hc rfl
      exact (clone_nil w).mono fun e w' ⟨he, hb⟩ => ⟨_, he, Oak.nil _ _, hb⟩
    | some a => exact clone_some w hl h
  · exact clone_some w hl h
set_option maxHeartbeats 4000000 in
theorem insert_end {B : Nat} {v : Value} {l : List AK} {x : AK} {vb : Nat} (w : World) (hO : Oak B w v l) (hB : B ≤ w.heap.size) (hx : Bo w vb x.row) (hl : l.length ≤ 1000000) :
    Calls Tryz.prog 22 #[v, .int .i64 l.length, .slice (some ⟨vb, 0, none⟩) 1 1] w (fun e w' => ∃ v', e = .returned v' ∧ Oak B w' v' (l ++ [x]) ∧ Below B w w') := by
  have HO : Hid (Oak B w v l) := hO
  have HB : Hid (B ≤ w.heap.size) := hB
  have HX : Hid _ := hid hx
  have HL : Hid (l.length ≤ 1000000) := hl
  have hF := hO.form
  clear hO hB hx hl
  rcases hF with ⟨rfl, rfl⟩ | ⟨g, cap, rfl, _, hc, _⟩
  · go_enter Tryz.func22, Tryz.ntmps22
    go_wp2_with (first
      | (at_builtin; refine wpList_pushA rfl rfl (.tmp 23) (.tmp 24) rfl rfl rfl HB.out HO.out HX.out HL.out ?_
         intro v9 w9 hO9 hb9
         have hO9 : Hid _ := hid hO9
         have hb9 : Hid _ := hid hb9))
    go_ret
    exact ⟨_, rfl, hO9.out, hb9.out⟩
  · have hcc : l.length ≤ cap := hc
    go_enter Tryz.func22, Tryz.ntmps22
    go_wp2_with (first
      | (at_builtin; refine wpList_pushA rfl rfl (.tmp 23) (.tmp 24) rfl rfl rfl HB.out HO.out HX.out HL.out ?_
         intro v9 w9 hO9 hb9
         have hO9 : Hid _ := hid hO9
         have hb9 : Hid _ := hid hb9))
    all_goals (go_ret; exact ⟨_, rfl, hO9.out, hb9.out⟩)
theorem insL_aks (l : List AK) (i : Nat) (x : AK) : aks (insL l i x) = aks (l.take i) ++ (x.row ++ aks (l.drop i)) := by
  unfold insL; rw [aks_append]; rfl
theorem aks_split (l : List AK) (i : Nat) : aks l = aks (l.take i) ++ aks (l.drop i) := by rw [← aks_append, List.take_append_drop]
theorem aks_take {l : List AK} {i : Nat} (hi : i ≤ l.length) : (aks l).take (i * 5) = aks (l.take i) := by
  rw [aks_split l i]
  exact List.take_left' (by rw [aks_length, List.length_take, Nat.min_eq_left hi])
theorem aks_drop {l : List AK} {i : Nat} (hi : i ≤ l.length) : (aks l).drop (i * 5) = aks (l.drop i) := by
  rw [aks_split l i]
  exact List.drop_left' (by rw [aks_length, List.length_take, Nat.min_eq_left hi])
theorem insert_is {B : Nat} {v : Value} {l : List AK} {x : AK} {i vb : Nat} (w : World) (hO : Oak B w v l) (hB : B ≤ w.heap.size) (hx : Bo w vb x.row) (hvb : ∀ g, v.ownBlock = some g → g ≠ vb) (hi : i ≤ l.length) (hl : l.length ≤ 1000) :
    Calls Tryz.prog 22 #[v, .int .i64 i, .slice (some ⟨vb, 0, none⟩) 1 1] w (fun e w' => ∃ v', e = .returned v' ∧ Aq w' v' (l.length + 1) (aof (insL l i x)) ∧ Below B w w') := by
  by_cases he : i = l.length
  · subst he
    refine (insert_end w hO hB hx (by omega)).mono fun e w' ⟨v', h1, h2, h3⟩ => ⟨v', h1, ?_, h3⟩
    have e2 : insL l l.length x = l ++ [x] := by unfold insL; simp
    have h4 := h2.aq (by simp; omega)
    rw [e2]
    rwa [List.length_append] at h4
  · have hin : i < l.length := by omega
    rcases id hO.2 with ⟨_, h0⟩ | ⟨g, cap, cur, rfl, hg0, hg, hn, hm, hs, ht⟩
    · omega
    · have hG : Bo w g (aks l) := by
        rcases hO.form with ⟨e, _⟩ | ⟨g2, cap2, e, _, _, h⟩
        · cases e
        · injection e with e _ _
          injection e with e
          injection e with e _ _
          rw [e]; exact h
      have hne : vb ≠ g := fun e => hvb g rfl e.symm
      have hxl : ∀ j v, x.row[j]? = some v → w.cell? ⟨vb, 0 + j, none⟩ = some v := fun j v hj => by rw [Nat.zero_add]; exact hx.cell j v hj
      have hlen : (insL l i x).length = l.length + 1 := insL_length hi
      by_cases hr : l.length + 1 ≤ cap
      · have hcell : ∀ j, w.cell? ⟨g, j, none⟩ = cur[j]? := fun j => by simp [World.cell?, hg]
        have hsp : ∀ j, j < (l.length + 1) * 5 → (w.cell? ⟨g, j, none⟩).isSome = true := fun j hj => by
          rw [hcell, Array.getElem?_eq_getElem (by rw [hs]; omega)]; rfl
        have hfz : ∀ j, w.frozen? ⟨g, j, none⟩ = false := fun j => hG.froz j
        obtain ⟨tA, kA, hsa, _⟩ := World.shape?_of_cell? (hx.cell 0 _ rfl)
        have hsb : w.shape? g = some (52, cur.size) := by simp [World.shape?, hg]
        refine (insert_shift w hin hr (by unfold maxLen at hm; omega) hne (aks_length l) hG.cell hsp (fun j _ => hfz j) hxl (aks_oneCell l) tA 52 kA cur.size hsa hsb (by rw [hs]; omega) (hx.froz 0) (hx.froz kA)).mono ?_
        rintro e w' ⟨h1, h2⟩
        refine ⟨_, h1, ?_, ?_⟩
        · have hE : ∃ E : List Value, E.length = 5 ∧ Bo w g (aks l ++ E) := by
            refine ⟨(cur.toList.take ((l.length + 1) * 5)).drop (l.length * 5), ?_, ⟨fun j v hj => ?_, hG.froz, hG.lt⟩⟩
            · have hcl : cur.toList.length = cap * 5 := by rw [Array.length_toList, hs]
              rw [List.length_drop, List.length_take, hcl]
              have : (l.length + 1) * 5 ≤ cap * 5 := Nat.mul_le_mul_right _ hr
              omega
            · by_cases hj2 : j < l.length * 5
              · rw [List.getElem?_append_left (by rw [aks_length]; exact hj2)] at hj
                exact hG.cell j v hj
              · rw [List.getElem?_append_right (by rw [aks_length]; omega), aks_length, List.getElem?_drop, List.getElem?_take] at hj
                rw [hcell]
                split at hj
                · rw [show l.length * 5 + (j - l.length * 5) = j by omega, Array.getElem?_toList] at hj; exact hj
                · cases hj
          obtain ⟨E, hE1, hE2⟩ := hE
          have hdl : (aks (l.drop i)).length = (l.length - i) * 5 := by rw [aks_length, List.length_drop]
          have hal : (aks (l.take i)).length = i * 5 := by rw [aks_length, List.length_take, Nat.min_eq_left hi]
          have b1 : Bo w.drew g ((aks (l.take i) ++ (aks (l.drop i)).take 5) ++ (((aks (l.drop i)).drop 5 ++ E) ++ [])) := by
            have e : (aks (l.take i) ++ (aks (l.drop i)).take 5) ++ (((aks (l.drop i)).drop 5 ++ E) ++ []) = aks l ++ E := by
              rw [aks_split l i, List.append_nil, List.append_assoc, ← List.append_assoc ((aks (l.drop i)).take 5), List.take_append_drop, List.append_assoc]
            rw [e]; exact hE2.drew
          have b2 := b1.splice (vs := aks (l.drop i)) (o := (i + 1) * 5) (by simp only [List.length_append, List.length_drop, hdl, hE1]; omega) (by simp only [List.length_append, List.length_take, hal, hdl]; omega)
          rw [List.append_assoc] at b2
          have b3 := b2.splice (vs := x.row) (o := i * 5) (by simp only [List.length_take, hdl]; show 5 = _; omega) hal.symm
          rw [List.append_nil, ← insL_aks] at b3
          rw [h2, aks_drop hi]
          exact b3.aq (by omega) hr (by omega)
        · rw [h2]
          exact below_setCells (below_setCells (Below.drew (Below.refl B w)) hg0 _ _) hg0 _ _
      · refine (insert_grow w hin hn (by omega) (by omega) (aks_length l) hG.cell (vs := x.row) rfl hxl (askRow_one x) (aks_oneCell l)).mono ?_
        rintro e w' ⟨G, Z, h0, h1, h2⟩
        have hbw := Nat.le_refl w.heap.size
        refine ⟨_, h1, ?_, ?_⟩
        · have hdl : (aks (l.drop i)).length = (l.length - i) * 5 := by rw [aks_length, List.length_drop]
          have hal : (aks (l.take i)).length = i * 5 := by rw [aks_length, List.length_take, Nat.min_eq_left hi]
          have hzl := zAsk_length (l.length + 1 - i)
          rw [aks_take hi, aks_drop hi] at h2
          have b0 := (Bo.born w (aks (l.take i) ++ (zAsk (l.length + 1 - i) ++ Z)) 52 rfl).drew
          have b1 : Bo (w.alloc (.cells (aks (l.take i) ++ (zAsk (l.length + 1 - i) ++ Z)).toArray 52)).drew w.heap.size (aks (l.take i) ++ ((zAsk (l.length + 1 - i)).take 5 ++ ((zAsk (l.length + 1 - i)).drop 5 ++ Z))) := by
            rw [← List.append_assoc ((zAsk _).take 5), List.take_append_drop]; exact b0
          have b2 := (b1.splice (vs := x.row) (o := i * 5) (by simp only [List.length_take, hzl]; show 5 = _; omega) hal.symm).drew
          rw [← List.append_assoc (aks (l.take i)) x.row] at b2
          have b3 := b2.splice (vs := aks (l.drop i)) (o := (i + 1) * 5) (by simp only [List.length_drop, hdl, hzl]; omega) (by rw [List.length_append, hal]; show (i + 1) * 5 = i * 5 + 5; omega)
          rw [← h2, List.append_assoc, ← List.append_assoc x.row, ← List.append_assoc, ← insL_aks] at b3
          exact b3.front.aq (by omega) (by omega) (by omega)
        · rw [h2]
          exact below_setCells (Below.drew (below_setCells (Below.drew ((new_below w _).mono hB)) hB _ _)) hB _ _
end Go.Proofs.YteogbpaaacmllaaGreatDoor.Tab
namespace Go.Proofs.YteogbpaaacmllaaGreatDoor.Tab
set_option maxRecDepth 20000
open Go.RowKit
set_option linter.unusedVariables false

set_option maxHeartbeats 2000000 in
theorem sameC_is {bx : Nat} (t2 g2 o2 k2 x2 t : Int) {v : Bool} (hv : (t2 == t) = v) (w : World) (hB : Bo w bx [.int .i64 t]) :
    Calls Tryz.prog 21 #[.agg #[.int .i64 t2, .int .i64 g2, .int .i64 o2, .int .i64 k2, .int .i64 x2], .pointer (some ⟨bx, 0, none⟩)] w (fun e w' => e = .returned (.bool v) ∧ Below w.heap.size w w') := by
  have HB : Hid _ := hB
  clear hB
  have hM : Hid _ := ((Ms.nil w).born [.int .i64 t2, .int .i64 g2, .int .i64 o2, .int .i64 k2, .int .i64 x2] 52 (b := w.heap.size) rfl)
  have c1 := hM.out.cell 0 0 rfl rfl
  have c9 := (HB.out.later hM.out.below).cell 0 _ rfl
  go_enter Tryz.func21, Tryz.ntmps21
  go_wp2
  go_ret
  exact ⟨rfl, hM.out.below⟩
set_option maxHeartbeats 2000000 in
theorem indexC_0 (a1 : Option Addr) (c1 : Nat) (q : Nat → AK) {bx : Nat} {t : Int} (w : World) (hB : Bo w bx [.int .i64 t]) :
    Calls Tryz.prog 45 #[.slice a1 0 c1, .func (.func 21) #[] #[.pointer (some ⟨bx, 0, none⟩)]] w (fun e w' => ∃ r : Int, e = .returned (.int .i64 r) ∧ ((r = -1 ∧ ∀ i, i < 0 → (q i).t ≠ t) ∨ ∃ i : Nat, r = i ∧ i < 0 ∧ (q i).t = t ∧ ∀ j, j < i → (q j).t ≠ t) ∧ Below w.heap.size w w') := by
  clear hB
  have hM : Hid _ := (Ms.nil w)
  go_enter Tryz.func45, Tryz.ntmps45
  go_wp2_with fail
  go_loopg [8] 0 (fun gg s8 wt => wt = w ∧ s8 = .int .i64 0)
  case atStart => exact ⟨rfl, rfl⟩
  case round =>
    obtain ⟨hw, rfl⟩ := hrel
    rw [hw]; clear hw wr
    go_wp2
    go_ret
    exact ⟨-1, rfl, Or.inl ⟨rfl, fun i hi => absurd hi (Nat.not_lt_zero _)⟩, hM.out.below⟩
set_option maxHeartbeats 8000000 in
theorem indexC_n {b off c n : Nat} {q : Nat → AK} (hn : n ≤ 1000000) {bx : Nat} {t : Int} (w : World) (D : Aq w (.slice (some ⟨b, off, none⟩) n c) n q) (hB : Bo w bx [.int .i64 t]) :
    Calls Tryz.prog 45 #[.slice (some ⟨b, off, none⟩) n c, .func (.func 21) #[] #[.pointer (some ⟨bx, 0, none⟩)]] w (fun e w' => ∃ r : Int, e = .returned (.int .i64 r) ∧ ((r = -1 ∧ ∀ i, i < n → (q i).t ≠ t) ∨ ∃ i : Nat, r = i ∧ i < n ∧ (q i).t = t ∧ ∀ j, j < i → (q j).t ≠ t) ∧ Below w.heap.size w w') := by
  have HE : Hid _ := hid D.all
  have HB : Hid _ := hB
  have HN : Hid (n ≤ 1000000) := hn
  clear D hB hn
  have hM : Hid _ := (Ms.nil w)
  go_enter Tryz.func45, Tryz.ntmps45
  go_wp2_with fail
  generalize hsz : w.heap.size = n0 at hM ⊢
  have HSZ : Hid (w.heap.size = n0) := hsz
  clear hsz
  go_loopg [8] n (fun gg s8 wt => ∃ i : Nat, i ≤ n ∧ n - i ≤ gg ∧ s8 = .int .i64 i ∧ Hid (∀ j, j < i → (q j).t ≠ t) ∧ Hid (Ms n0 w wt [] []))
  case atStart => exact ⟨0, by omega, by omega, rfl, hid (fun j hj => absurd hj (Nat.not_lt_zero _)), hM⟩
  case round =>
    clear hM
    obtain ⟨i, hi, hgg, rfl, HI, hM⟩ := hrel
    obtain ⟨W, rfl⟩ : ∃ q, q = wr := ⟨_, rfl⟩
    by_cases hlt : i < n
    · have hi1 : (i : Int) < (n : Int) := by omega
      have hi0 : (0 : Int) ≤ (i : Int) := by omega
      obtain ⟨t2, g2, o2, k2, x2, hq, hr⟩ := HE.out W hM.out.below i hlt
      have RA : Hid _ := hr
      have HQ : Hid _ := hid hq
      clear hr hq
      go_wp2_with (first
        | (refine lO rfl RA.out rfl (rwAk t2 g2 o2 k2 x2) ?_))
      by_cases ht : t2 = t
      · refine (sameC_is t2 g2 o2 k2 x2 t (v := true) (beq_iff_eq.2 ht) _ (HB.out.later hM.out.below)).mono ?_
        rintro e W ⟨rfl, hb⟩
        replace hM := hid (hM.out.later hb)
        clear hb
        go_wp2
        go_ret
        exact ⟨(i : Nat), rfl, Or.inr ⟨i, rfl, hlt, by rw [HQ.out]; exact ht, HI.out⟩, hM.out.below⟩
      · refine (sameC_is t2 g2 o2 k2 x2 t (v := false) (beq_eq_false_iff_ne.2 ht) _ (HB.out.later hM.out.below)).mono ?_
        rintro e W ⟨rfl, hb⟩
        replace hM := hid (hM.out.later hb)
        clear hb
        have HT : Hid (t2 ≠ t) := ht
        clear ht
        go_wp2_with fail
        have hw : wrap64 ((i : Int) + 1) = ((i + 1 : Nat) : Int) := (by have := HN.out; unfold wrap64; omega)
        go_roundg (n - (i + 1))
        case measure => omega
        case rel => exact ⟨i + 1, by omega, by omega, by go_num, hid (fun j hj => by by_cases e : j = i; rw [e, HQ.out]; exact HT.out; exact HI.out j (by omega)), hM⟩
    · obtain rfl : i = n := by omega
      have hi1 : ¬ (i : Int) < (i : Int) := by omega
      go_wp2
      go_ret
      exact ⟨-1, rfl, Or.inl ⟨rfl, HI.out⟩, hM.out.below⟩
theorem indexC_is {v : Value} {n : Nat} {q : Nat → AK} (hn : n ≤ 1000000) {bx : Nat} {t : Int} {w : World} (D : Aq w v n q) (hB : Bo w bx [.int .i64 t]) :
    Calls Tryz.prog 45 #[v, .func (.func 21) #[] #[.pointer (some ⟨bx, 0, none⟩)]] w (fun e w' => ∃ r : Int, e = .returned (.int .i64 r) ∧ ((r = -1 ∧ ∀ i, i < n → (q i).t ≠ t) ∨ ∃ i : Nat, r = i ∧ i < n ∧ (q i).t = t ∧ ∀ j, j < i → (q j).t ≠ t) ∧ Below w.heap.size w w') := by
  rcases id D with ⟨h0, a, c, hv, _⟩ | ⟨b, off, c, hv, _, _, _, _⟩
  · subst hv h0; exact indexC_0 a c q w hB
  · subst hv; exact indexC_n hn w D hB
theorem Ms.tailC {n : Nat} {w W : World} {L : List (Nat × List Value)} {Q : List (Nat × Value × List Int)} {p : Nat × List Value} (h : Ms n w W (p :: L) Q) : Ms n w W L Q where
  gd := h.gd
  bo x hx := h.bo x (List.mem_cons_of_mem _ hx)
  ge x hx := h.ge x (List.mem_cons_of_mem _ hx)
  nd := by have := h.nd; rw [List.map_cons, List.nodup_cons] at this; exact this.2
  li q hq := (h.li q hq).keep (Nat.le_refl _) (fun b hb _ hm => hb (List.mem_cons_of_mem _ hm)) (fun _ _ _ => rfl)
theorem Bo.ask_at {W : World} {g : Nat} {P C : List AK} {c : AK} (h : Bo W g (aks (P ++ c :: C))) {j : Nat} (hj : j = P.length) : W.rangeAt g (j * 5) c.row := by
  subst hj
  intro k v hk
  refine h.cell (P.length * 5 + k) v ?_
  rw [aks_append, List.getElem?_append_right (by rw [aks_length]; omega), aks_length, Nat.add_sub_cancel_left]
  show (c.row ++ aks C)[k]? = _
  rw [List.getElem?_append_left (List.getElem?_eq_some_iff.1 hk).1]; exact hk
theorem Bo.ask_there {W : World} {g : Nat} {m : List AK} (h : Bo W g (aks m)) {i n : Nat} (hi : i < m.length) (hn : n = 5) : W.there g (i * 5) n := by
  subst hn
  exact h.thereAt (by rw [aks_length]; omega)
theorem Bo.ask_put {W : World} {g : Nat} {A B C : List AK} {b c : AK} (h : Bo W g (aks (A ++ (b :: B ++ c :: C)))) {i : Nat} (hi : i = A.length) : Bo (W.setCells g (i * 5) c.row) g (aks ((A ++ [c]) ++ ((B ++ [c]) ++ C))) := by
  have h2 : Bo W g (aks A ++ (b.row ++ (aks B ++ aks (c :: C)))) := by
    have e : aks (A ++ (b :: B ++ c :: C)) = aks A ++ (b.row ++ (aks B ++ aks (c :: C))) := by simp [aks]
    rw [← e]; exact h
  have h3 := h2.splice (vs := c.row) rfl (o := i * 5) (by rw [aks_length, hi])
  have e : aks ((A ++ [c]) ++ ((B ++ [c]) ++ C)) = aks A ++ (c.row ++ (aks B ++ aks (c :: C))) := by simp [aks]
  rw [e]; exact h3
theorem Bo.ask_clear {W : World} {g : Nat} {A B : List AK} (h : Bo W g (aks (A ++ (B ++ [])))) {i n : Nat} (hi : i = A.length) (hn : n = B.length) : Bo (W.setCells g (i * 5) (zAsk n)) g (aks A ++ (zAsk n ++ [])) := by
  have h2 : Bo W g (aks A ++ (aks B ++ [])) := by
    have e : aks (A ++ (B ++ [])) = aks A ++ (aks B ++ []) := by simp [aks]
    rw [← e]; exact h
  exact h2.splice (by rw [zAsk_length, aks_length, hn]) (by rw [aks_length, hi])
set_option maxHeartbeats 8000000 in
theorem delete_some {n0 : Nat} {w0 w : World} {L : List (Nat × List Value)} {b bx cap : Nat} {l : List AK} {t : Int} (hM0 : Ms n0 w0 w ((b, aks l) :: (bx, [.int .i64 t]) :: L) []) (hcap : l.length ≤ cap) (hl : l.length ≤ 1000000) :
    Calls Tryz.prog 19 #[.slice (some ⟨b, 0, none⟩) l.length cap, .func (.func 21) #[] #[.pointer (some ⟨bx, 0, none⟩)]] w (fun e w' => ∃ row, e = .returned (.slice (some ⟨b, 0, none⟩) (keepF t l).length cap) ∧ Ms n0 w0 w' ((b, aks (keepF t l) ++ row) :: (bx, [.int .i64 t]) :: L) []) := by
  have hM : Hid _ := hM0
  clear hM0
  have HC : Hid (l.length ≤ cap) := hcap
  have HL : Hid (l.length ≤ 1000000) := hl
  clear hcap hl
  go_enter Tryz.func19, Tryz.ntmps19
  go_wp2_with fail
  refine (indexC_is HL.out ((hM.out.at 0 rfl).aq (Nat.le_refl _) HC.out HL.out) (hM.out.at 1 rfl)).mono ?_
  rintro e W ⟨r, rfl, hr, hb⟩
  replace hM := hid (hM.out.later hb)
  clear hb
  rcases hr with ⟨rfl, hr⟩ | ⟨i0, rfl, hi0, ht0, hr⟩
  · have HK : Hid (keepF t l = l) := hid (keepF_all fun a ha => by obtain ⟨j, hj, rfl⟩ := List.mem_iff_getElem.1 ha; rw [← aof_get hj]; exact hr j hj)
    clear hr
    go_wp2_with fail
    go_ret
    rw [HK.out]
    exact ⟨[], rfl, by rw [List.append_nil]; exact hM.out⟩
  · have hne : ¬ ((i0 : Nat) : Int) = -1 := by omega
    have hw : wrap64 ((i0 : Int) + 1) = ((i0 + 1 : Nat) : Int) := (by have := HL.out; unfold wrap64; omega)
    have hd := List.drop_eq_getElem_cons hi0
    have H0 : ∃ D C A B : List AK, l = D ++ C ∧ A = keepF t D ∧ B ≠ [] ∧ A.length + B.length = D.length ∧ A.length = i0 ∧ D.length = i0 + 1 ∧ A ++ (B ++ C) = l := by
      refine ⟨l.take i0 ++ [l[i0]], l.drop (i0 + 1), l.take i0, [l[i0]], ?_, ?_, by simp, by rw [List.length_append, List.length_take, List.length_singleton], by rw [List.length_take]; omega, by rw [List.length_append, List.length_take, List.length_singleton]; omega, ?_⟩
      · rw [List.append_assoc, List.singleton_append, ← hd, List.take_append_drop]
      · rw [keepF_no _ (by rw [← aof_get hi0]; exact ht0), keepF_all]
        intro a ha
        obtain ⟨j, hj, rfl⟩ := List.mem_iff_getElem.1 ha
        rw [List.length_take] at hj
        rw [List.getElem_take, ← aof_get (show j < l.length by omega)]
        exact hr j (by omega)
      · rw [List.singleton_append, ← hd, List.take_append_drop]
    have HH0 : Hid _ := hid H0
    have HI0 : Hid (i0 < l.length) := hid hi0
    clear H0 hr ht0 hi0 hd
    go_wp2_with fail
    go_loopg [5, 6] l.length (fun gg s5 s6 wt => ∃ (D C A B : List AK) (i j : Nat), Hid (l = D ++ C) ∧ Hid (A = keepF t D) ∧ B ≠ [] ∧ A.length + B.length = D.length ∧ A.length = i ∧ D.length = j ∧ C.length ≤ gg ∧ s5 = .int .i64 i ∧ s6 = .int .i64 j ∧ Hid (Ms n0 w0 wt ((b, aks (A ++ (B ++ C))) :: (bx, [.int .i64 t]) :: L) []))
    case atStart =>
      obtain ⟨D, C, A, B, h1, h2, h3, h4, h5, h6, h7⟩ := HH0.out
      exact ⟨D, C, A, B, i0, i0 + 1, h1, h2, h3, h4, h5, h6, by rw [h1, List.length_append]; omega, rfl, congrArg _ hw, by rw [h7]; exact hM⟩
    case round =>
      clear hM hne hw HH0 HI0
      obtain ⟨D, C, A, B, i, j, HD, HA, hB0, hAB, hi, hj, hgg, rfl, rfl, hM⟩ := hrel
      obtain ⟨W, rfl⟩ : ∃ q, q = wr := ⟨_, rfl⟩
      have HDL : Hid (D.length + C.length = l.length) := hid (by rw [HD.out, List.length_append])
      have HB0 : Hid (B ≠ []) := hid hB0
      have HAB : Hid (A.length + B.length = D.length) := hid hAB
      have HI : Hid (A.length = i) := hid hi
      have HJ : Hid (D.length = j) := hid hj
      clear hB0 hAB hi hj
      have HIJ : Hid (i < j ∧ j ≤ l.length) := hid (by have h1 := HB0.out; have h2 := HAB.out; have h3 := HI.out; have h4 := HJ.out; have h5 := HDL.out; have : 0 < B.length := List.length_pos_iff.2 h1; omega)
      cases C with
      | nil =>
        have hlt : ¬ (j : Int) < (l.length : Int) := by have h1 := HDL.out; have h2 := HJ.out; simp at h1; omega
        have hi0 : (0 : Int) ≤ (i : Int) := by omega
        have hil : (i : Int) ≤ (l.length : Int) := by have := HIJ.out; omega
        have hil2 : i ≤ l.length := by have := HIJ.out; omega
        have hcb : ¬ cap = i := by have := HIJ.out; have := HC.out; omega
        have hic : (i : Int) ≤ (cap : Int) := by have := HIJ.out; have := HC.out; omega
        have hic2 : i ≤ cap := by have := HIJ.out; have := HC.out; omega
        have HLB : Hid (l.length - i = B.length) := hid (by have h1 := HDL.out; have h2 := HAB.out; have h3 := HI.out; simp at h1; omega)
        have HTH : Hid (W.there b (i * 5) ((l.length - i) * 5)) := hid ((hM.out.at 0 rfl).thereAt (by rw [aks_length]; have h1 := HDL.out; have h2 := HAB.out; have h3 := HI.out; simp at h1 ⊢; omega))
        go_wp2_with (first
          | (refine wpList_clearA rfl rfl (.tmp 38) rfl rfl (by have := HIJ.out; omega) (fun k hk => (HTH.out k hk).1) (fun k hk => (HTH.out k hk).2) ?_
             rw [HLB.out]
             replace hM := hid (hM.out.putAt 0 (i * 5) rfl (zAsk B.length) (aks A ++ (zAsk B.length ++ [])) (Bo.ask_clear (hM.out.at 0 rfl) HI.out.symm rfl))
             generalize World.setCells _ _ _ _ = W at hM ⊢))
        go_ret
        have e1 : keepF t l = A := by rw [HD.out, List.append_nil]; exact HA.out.symm
        rw [e1, HI.out]
        exact ⟨rfl, _, hM.out⟩
      | cons c C =>
        obtain ⟨b0, B, rfl⟩ : ∃ b0 B2, B = b0 :: B2 := by cases B with | nil => exact absurd rfl HB0.out | cons b0 B2 => exact ⟨b0, B2, rfl⟩
        have hlt : (j : Int) < (l.length : Int) := by have h1 := HDL.out; have h2 := HJ.out; simp at h1; omega
        have hltn : j < l.length := by omega
        have hj0 : (0 : Int) ≤ (j : Int) := by omega
        obtain ⟨t2, g2, o2, k2, x2⟩ := c
        have RA : Hid (W.rangeAt b (j * 5) [.int .i64 t2, .int .i64 g2, .int .i64 o2, .int .i64 k2, .int .i64 x2]) := hid ((hM.out.at 0 rfl : Bo W b (aks (A ++ (b0 :: B ++ ⟨t2, g2, o2, k2, x2⟩ :: C)))) |> fun h => Bo.ask_at (P := A ++ b0 :: B) (c := ⟨t2, g2, o2, k2, x2⟩) (C := C) (by rw [List.append_assoc]; exact h) (by rw [List.length_append]; have h1 := HAB.out; have h2 := HJ.out; omega))
        obtain ⟨ba, hba⟩ : ∃ q, q = W.heap.size := ⟨_, rfl⟩
        have HBA : Hid _ := hba
        clear hba
        go_wp2_with (first
          | (refine lO rfl RA.out rfl (rwAk t2 g2 o2 k2 x2) ?_)
          | (rw [← HBA.out]
             replace hM := hid (hM.out.born [.int .i64 0, .int .i64 0, .int .i64 0, .int .i64 0, .int .i64 0] 52 HBA.out)
             refine sR rfl (hM.out.at 0 rfl) rfl ((rwAk 0 0 0 0 0).len (rwAk t2 g2 o2 k2 x2)) (rwAk t2 g2 o2 k2 x2) ?_
             replace hM := hid (hM.out.put 0 rfl [.int .i64 t2, .int .i64 g2, .int .i64 o2, .int .i64 k2, .int .i64 x2] ((rwAk 0 0 0 0 0).len (rwAk t2 g2 o2 k2 x2)))
             generalize World.setCells _ _ _ _ = W at hM ⊢)
          | (refine lR rfl (hM.out.at 0 rfl) rfl (rwAk t2 g2 o2 k2 x2) ?_))
        by_cases ht : t2 = t
        · refine (sameC_is t2 g2 o2 k2 x2 t (v := true) (beq_iff_eq.2 ht) _ (hM.out.at 2 rfl)).mono ?_
          rintro e W ⟨rfl, hb⟩
          replace hM := hid (hM.out.later hb)
          clear hb
          have HT : Hid (t2 = t) := ht
          clear ht
          have hwj : wrap64 ((j : Int) + 1) = ((j + 1 : Nat) : Int) := (by have := HL.out; have := HIJ.out; unfold wrap64; omega)
          go_wp2_with fail
          go_roundg C.length
          case measure => simp at hgg; omega
          case rel => exact ⟨D ++ [⟨t2, g2, o2, k2, x2⟩], C, A, b0 :: B ++ [⟨t2, g2, o2, k2, x2⟩], i, j + 1, hid (by rw [HD.out]; simp), hid (by rw [keepF_no _ HT.out]; exact HA.out), by simp, by have := HAB.out; simp at this ⊢; omega, HI.out, by have := HJ.out; simp; omega, by omega, rfl, by go_num, by rw [show A ++ ((b0 :: B ++ [⟨t2, g2, o2, k2, x2⟩]) ++ C) = A ++ (b0 :: B ++ ⟨t2, g2, o2, k2, x2⟩ :: C) by simp]; exact hM.out.tailC⟩
        · refine (sameC_is t2 g2 o2 k2 x2 t (v := false) (beq_eq_false_iff_ne.2 ht) _ (hM.out.at 2 rfl)).mono ?_
          rintro e W ⟨rfl, hb⟩
          replace hM := hid (hM.out.later hb)
          clear hb
          have HT : Hid (t2 ≠ t) := ht
          clear ht
          have hwi : wrap64 ((i : Int) + 1) = ((i + 1 : Nat) : Int) := (by have := HL.out; have := HIJ.out; unfold wrap64; omega)
          have hwj : wrap64 ((j : Int) + 1) = ((j + 1 : Nat) : Int) := (by have := HL.out; have := HIJ.out; unfold wrap64; omega)
          have hi1 : (i : Int) < (l.length : Int) := by have := HIJ.out; omega
          have hi2 : i < l.length := by have := HIJ.out; omega
          have hi0 : (0 : Int) ≤ (i : Int) := by omega
          have HBB : Hid (Bo W b (aks (A ++ (b0 :: B ++ ⟨t2, g2, o2, k2, x2⟩ :: C)))) := hid (hM.out.at 1 rfl)
          have HTH : Hid (W.there b (i * 5) 5) := hid (Bo.ask_there HBB.out (by have h1 := HI.out; rw [List.length_append]; simp; omega) rfl)
          have HPU : Hid (Bo (W.setCells b (i * 5) [.int .i64 t2, .int .i64 g2, .int .i64 o2, .int .i64 k2, .int .i64 x2]) b (aks ((A ++ [⟨t2, g2, o2, k2, x2⟩]) ++ ((B ++ [⟨t2, g2, o2, k2, x2⟩]) ++ C)))) := hid (Bo.ask_put HBB.out HI.out.symm)
          clear HBB
          go_wp2_with (first
            | (refine lR rfl (hM.out.at 0 rfl) rfl (rwAk t2 g2 o2 k2 x2) ?_)
            | (refine sO rfl HTH.out rfl (rwAk t2 g2 o2 k2 x2) ?_
               replace hM := hid (hM.out.putAt 1 (i * 5) rfl [.int .i64 t2, .int .i64 g2, .int .i64 o2, .int .i64 k2, .int .i64 x2] (aks ((A ++ [⟨t2, g2, o2, k2, x2⟩]) ++ ((B ++ [⟨t2, g2, o2, k2, x2⟩]) ++ C))) HPU.out)
               clear HTH HPU
               generalize World.setCells _ _ _ _ = W at hM ⊢))
          go_roundg C.length
          case measure => simp at hgg; omega
          case rel => exact ⟨D ++ [⟨t2, g2, o2, k2, x2⟩], C, A ++ [⟨t2, g2, o2, k2, x2⟩], B ++ [⟨t2, g2, o2, k2, x2⟩], i + 1, j + 1, hid (by rw [HD.out]; simp), hid (by rw [keepF_yes _ HT.out]; rw [← HA.out]), by simp, by have := HAB.out; simp at this ⊢; omega, by have := HI.out; simp; omega, by have := HJ.out; simp; omega, by omega, by go_num, by go_num, by exact hid hM.out.tailC⟩
end Go.Proofs.YteogbpaaacmllaaGreatDoor.Tab
namespace Go.Proofs.YteogbpaaacmllaaGreatDoor.Tab
set_option maxRecDepth 20000
open Go.RowKit Go.Lib
set_option linter.unusedVariables false

theorem La.drew {W : World} {v : Value} {l : List AK} (h : La W v l) : La W.drew v l := by
  rcases h with h | ⟨g, cap, h1, h2, h3, h4⟩
  · exact Or.inl h
  · exact Or.inr ⟨g, cap, h1, h2, h3, h4.drew⟩
theorem La.laterC {W W' : World} {v : Value} {l : List AK} {B : Nat} (h : La W v l) (hb : Below B W W') (hg : l ≠ [] → ∀ g, v.ownBlock = some g → g < B) : La W' v l := by
  rcases h with h | ⟨g, cap, h1, h2, h3, h4⟩
  · exact Or.inl h
  · have hB : g < B := hg h2 g (by rw [h1]; rfl)
    exact Or.inr ⟨g, cap, h1, h2, h3, h4.keep (hb.block g hB) (Nat.lt_of_lt_of_le h4.lt hb.size)⟩
theorem La.lt {W : World} {v : Value} {l : List AK} (h : La W v l) (hn : l ≠ []) : ∀ g, v.ownBlock = some g → g < W.heap.size := by
  rcases h with ⟨h, _⟩ | ⟨g, cap, h1, h2, h3, h4⟩
  · exact absurd h hn
  · intro g2 hg2
    rw [h1] at hg2
    injection hg2 with e
    rw [← e]; exact h4.lt
theorem asksFor_own {n0 : Nat} {w0 W : World} {L : List (Nat × List Value)} (hM : Ms n0 w0 W L []) {v : Value} {m : Nat} (D : Dds W v m) :
    Calls Tryz.prog 20 #[v] W (fun e w' => ∃ (B : Nat) (v' : Value) (l : List AK), l.length ≤ 12 ∧ (∀ a, a ∈ l → Gk a) ∧ e = .returned v' ∧ Oak B w' v' l ∧ (∀ g, v'.ownBlock = some g → n0 ≤ g ∧ g ∉ L.map (·.1)) ∧ Below W.heap.size W w') :=
  (asksFor_is D).mono fun e w' ⟨B, v', l, hB, hl, hg, he, hO, hb⟩ => ⟨B, v', l, hl, hg, he, hO, fun g h => by
    have h1 := (hO.lt g h).1
    exact ⟨Nat.le_trans hM.le (Nat.le_trans hB h1), fun hm => by have := hM.lt g hm; omega⟩, hb⟩
set_option maxHeartbeats 4000000 in
theorem delete_nil {t : Int} {bx : Nat} (w : World) (hB : Bo w bx [.int .i64 t]) :
    Calls Tryz.prog 19 #[.slice none 0 0, .func (.func 21) #[] #[.pointer (some ⟨bx, 0, none⟩)]] w (fun e w' => e = .returned (.slice none 0 0) ∧ Below w.heap.size w w') := by
  have HB : Hid _ := hid hB
  clear hB
  have hM : Hid _ := (Ms.nil w)
  go_enter Tryz.func19, Tryz.ntmps19
  go_wp2_with fail
  refine (indexC_0 none 0 (aof []) _ HB.out).mono ?_
  rintro e W ⟨r, rfl, hr, hb⟩
  replace hM := hid (hM.out.later hb)
  clear hb
  rcases hr with ⟨rfl, _⟩ | ⟨i0, _, hi0, _⟩
  · go_wp2
    go_ret
    exact ⟨rfl, hM.out.below⟩
  · exact absurd hi0 (Nat.not_lt_zero _)
theorem delete_is {n0 : Nat} {w0 w : World} {L : List (Nat × List Value)} {B bx : Nat} {v : Value} {l : List AK} {t : Int} (hM : Ms n0 w0 w ((bx, [.int .i64 t]) :: L) []) (hO : Oak B w v l) (hB : ∀ g, v.ownBlock = some g → n0 ≤ g ∧ g ∉ ((bx, [Value.int .i64 t]) :: L).map (·.1)) (hl : l.length ≤ 1000000) :
    Calls Tryz.prog 19 #[v, .func (.func 21) #[] #[.pointer (some ⟨bx, 0, none⟩)]] w (fun e w' => ∃ v', e = .returned v' ∧ La w' v' (keepF t l) ∧ Ms n0 w0 w' ((bx, [.int .i64 t]) :: L) []) := by
  rcases hO.form with ⟨rfl, rfl⟩ | ⟨g, cap, rfl, _, hc, hG⟩
  · exact (delete_nil w (hM.at 0 rfl)).mono fun e w' ⟨he, hb⟩ => ⟨_, he, Or.inl ⟨rfl, none, 0, rfl, fun _ => rfl⟩, hM.later hb⟩
  · have hM2 : Ms n0 w0 w ((g, aks l) :: (bx, [.int .i64 t]) :: L) [] := hM.also hG (hB g rfl)
    refine (delete_some hM2 hc hl).mono fun e w' ⟨row, he, hM3⟩ => ⟨_, he, ?_, hM3.tailC⟩
    by_cases hk : keepF t l = []
    · exact Or.inl ⟨hk, _, _, by rw [hk]; rfl, fun h => by cases h⟩
    · exact Or.inr ⟨g, cap, rfl, hk, Nat.le_trans (keepF_len t l) hc, Bo.front (hM3.at 0 rfl)⟩
/-- A row of asks of the law's own beside one that it reads, and beside its blocks. -/
structure Cq (n0 : Nat) (K : List Nat) (va : Value) (B : Nat) (W : World) (v : Value) (l : List AK) : Prop where
  own : Oak B W v l
  le : B ≤ W.heap.size
  low : n0 ≤ B
  key : ∀ b ∈ K, b < B
  ab : l ≠ [] → ∀ g, va.ownBlock = some g → g < B
theorem Cq.later {n0 : Nat} {K : List Nat} {va : Value} {B : Nat} {W W' : World} {v : Value} {l : List AK} (h : Cq n0 K va B W v l) (hb : Below W.heap.size W W') : Cq n0 K va B W' v l := ⟨h.own.later hb, Nat.le_trans h.le hb.size, h.low, h.key, h.ab⟩
theorem Cq.drew {n0 : Nat} {K : List Nat} {va : Value} {B : Nat} {W : World} {v : Value} {l : List AK} (h : Cq n0 K va B W v l) : Cq n0 K va B W.drew v l := ⟨h.own.drew, h.le, h.low, h.key, h.ab⟩
theorem clone_own {n0 : Nat} {w0 W : World} {L : List (Nat × List Value)} {va : Value} {l : List AK} (hM : Ms n0 w0 W L []) (hA : La W va l) (hl : l.length ≤ 1000000) :
    Calls Tryz.prog 23 #[va] W (fun e w' => ∃ (B : Nat) (v' : Value), e = .returned v' ∧ Cq n0 (L.map (·.1)) va B w' v' l ∧ Below W.heap.size W w') :=
  (clone_is W hl hA).mono fun e w' ⟨v', he, hO, hb⟩ => ⟨W.heap.size, v', he, ⟨hO, hb.size, hM.le, hM.lt, fun hn => hA.lt hn⟩, hb⟩
theorem insert_own {n0 : Nat} {w0 W : World} {L : List (Nat × List Value)} {va v : Value} {B vb i : Nat} {l : List AK} {x : AK} (hM : Ms n0 w0 W L []) (hC : Cq n0 (L.map (·.1)) va B W v l) (hA : La W va l) (hx : Bo W vb x.row) (hvb : ∀ g, v.ownBlock = some g → g ≠ vb) (hi : i ≤ l.length) (hl : l.length ≤ 1000) :
    Calls Tryz.prog 22 #[v, .int .i64 i, .slice (some ⟨vb, 0, none⟩) 1 1] W (fun e w' => ∃ v', e = .returned v' ∧ Aq w' v' (l.length + 1) (aof (insL l i x)) ∧ La w' va l ∧ Ms n0 w0 w' L []) :=
  (insert_is W hC.own hC.le hx hvb hi hl).mono fun e w' ⟨v', he, hq, hb⟩ => ⟨v', he, hq, hA.laterC hb hC.ab, hM.laterA hb ⟨hC.low, hC.key⟩⟩
theorem ins_do {d : Nat → Nat} {b : Nat} (hd : Sv d b) {l : List AK} {i t : Nat} {o k x : Int} (hi : i ≤ l.length) (hl : b + (l.length + 1) < 1000) (hg : ∀ a, a ∈ l → Gk a) (hn : ∀ a, a ∈ l → a.t ≠ (t : Nat)) (ht : t < 4) (hr : Rt o k x) {v : Value} {w : World} (D : Aq w v (l.length + 1) (aof (insL l i ⟨(t : Nat), (bt d t : Nat), o, k, x⟩))) :
    Calls Tryz.prog 8 #[.agg (rl d).toArray, v] w (fun e w' => ∃ (o : Option Nat) (a : Option Addr) (c : Nat), e = .returned (.tuple #[.agg (rl (bump (st d (aof l) l.length))).toArray, .slice a (dn d (aof l) l.length).length c, .nilIface]) ∧ (∀ g, o = some g → w.heap.size ≤ g) ∧ Lo w' o (.slice a (dn d (aof l) l.length).length c) (dn d (aof l) l.length) ∧ Below w.heap.size w w') := by
  have hq : Gk ⟨(t : Nat), (bt d t : Nat), o, k, x⟩ := ⟨⟨⟨by show (0 : Int) ≤ (t : Nat); omega, by show ((t : Nat) : Int) < 4; omega⟩, by
    show ((bt d t : Nat) : Int) = 0 ∨ ((bt d t : Nat) : Int) = 1
    unfold bt; cases (d 26).testBit t
    · exact Or.inl rfl
    · exact Or.inr rfl⟩, hr⟩
  have hlen : (insL l i ⟨(t : Nat), (bt d t : Nat), o, k, x⟩).length = l.length + 1 := insL_length hi
  have h1 := do_sv hd D hl (fun j hj => by
    rcases insL_mem (aof_mem (show j < (insL l i ⟨(t : Nat), (bt d t : Nat), o, k, x⟩).length by omega)) with h | h
    · rw [h]; exact hq
    · exact hg _ h)
  obtain ⟨e1, e2⟩ := shut_in (s := d) (q := aof l) (p := aof (insL l i ⟨(t : Nat), (bt d t : Nat), o, k, x⟩)) (x := ⟨(t : Nat), (bt d t : Nat), o, k, x⟩) (i := i) (fun j hj => insL_lo hi hj) (insL_at hi) (fun j hj => insL_hi hi hj) (fun j hj => by
    have hm := aof_mem (show j < l.length by omega)
    have h2 := hn _ hm
    have h3 := (hg _ hm).1.1
    show ((t : Nat) : Int).toNat ≠ _
    omega) rfl (n := l.length) hi
  rw [e1, e2] at h1
  exact h1
end Go.Proofs.YteogbpaaacmllaaGreatDoor.Tab
