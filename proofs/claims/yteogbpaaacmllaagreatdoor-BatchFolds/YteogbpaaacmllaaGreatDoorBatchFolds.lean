/- BatchFolds is proved: for every number of a kind and every two lists of deeds the call returns true (many at once are as many batches of one each, but for the version); the library's handle of the type error stands as the program's text lays it. -/
import Derived.Test.YteogbpaaacmllaaGreatDoorRows
import Derived.Test.YteogbpaaacmllaaGreatDoorPk08
import Derived.Test.YteogbpaaacmllaaGreatDoorPk09
import Derived.Test.YteogbpaaacmllaaGreatDoorPk07
import Derived.Test.YteogbpaaacmllaaGreatDoorPk00
import Derived.Test.YteogbpaaacmllaaGreatDoorCards
import Derived.Deep.DeepCutAuto
import Derived.Deep.RegionHeld3
import Derived.SevenTiedAt

namespace Go.Proofs.YteogbpaaacmllaaGreatDoor.Tab.batchFolds
set_option maxRecDepth 20000
open Go.ChangeShapes Go.WideShapes Go.ChangeAt Go.RowKit
set_option linter.unusedVariables false

set_option maxHeartbeats 16000000 in
set_option maxRecDepth 20000 in
theorem walk (a0 : Int) (va : Value) (n1 : Nat) (vb : Value) (n2 : Nat) (w0 : (Lit.int .i64 a0).wf = true) (w : World) (hT : HandleAt w) (D : Dds w va n1) (E : Dds w vb n2) :
    Calls Tryz.prog 6 #[.int .i64 a0, va, vb] w fun e w' => e = .returned (.bool true) ∧ Below w.heap.size w w' := by
  clear w0 hT
  have RC : Hid (∀ w : World, _) := recorded_is
  have BC : Hid (∀ w : World, _) := batched_is
  obtain ⟨kk, k1, k6, hko⟩ := kindOf_is a0
  have KO : Hid _ := hko
  clear hko
  have D1 : Hid (Dds w va n1) := D
  have D2 : Hid (Dds w vb n2) := E
  clear D E
  have hM : Hid _ := (Ms.nil w)
  go_enter Tryz.func6, Tryz.ntmps6
  go_wp2_with fail
  refine (BC.out _).mono ?_
  rintro e W ⟨rfl, hb⟩
  replace hM := hid (hM.out.later hb)
  clear hb
  go_wp2_with fail
  refine (RC.out _).mono ?_
  rintro e W ⟨rfl, hb⟩
  replace hM := hid (hM.out.later hb)
  clear hb
  go_wp2_with fail
  refine (KO.out _).mono ?_
  rintro e ux ⟨rfl, hw⟩
  rw [hw]; clear hw ux
  go_wp2_with fail
  refine (written_vis k1 k6 (Dds.later (v := va) (n := n1) D1.out hM.out.below)).mono ?_
  rintro e W ⟨d, hd, hk, hc, hv, hm, rfl, hb⟩
  replace hM := hid (hM.out.later hb)
  clear hb
  have SV : Hid (Sv d 30) := ⟨hd, hc, by omega⟩
  have V0 : Hid (d 27 = 0) := hv
  clear hd hk hc hv hm k1 k6
  generalize hsz : w.heap.size = n0 at hM ⊢
  clear hsz
  obtain ⟨bx1, hbx1⟩ : ∃ q, q = W.heap.size := ⟨_, rfl⟩
  replace hM := hid (hM.out.bornR rl_zero.symm 24 (b := bx1) hbx1)
  have Hbx1 : Hid _ := hbx1
  clear hbx1
  go_wp2_with (first
    | (rw [← Hbx1.out]; refine sR rfl (hM.out.at 0 rfl) rfl ((rwR wz).len (rwR d)) (rwR d) ?_
       replace hM := hid (hM.out.put 0 rfl (rl d) ((rwR wz).len (rwR d)))
       generalize World.setCells _ _ _ _ = W at hM ⊢))
  refine (asksFor_aq (Dds.later D2.out hM.out.below)).mono ?_
  rintro e W ⟨a1, c1, n, q, hn, hg, rfl, hA, hb⟩
  replace hM := hid (hM.out.later hb)
  have hA : Hid _ := hid hA
  have HN : Hid (n ≤ 12) := hn
  have HG : Hid _ := hid hg
  clear hb hn hg
  rcases id hA.out with ⟨h0, a, c, hv, ha⟩ | ⟨b, off, c, hv, h0, hc, _, _⟩
  · subst h0
    clear hv ha
    go_wp2_with (first
      | (refine lR rfl (hM.out.at 0 rfl) rfl (rwR d) ?_))
    refine (do_sv SV.out hA.out (by have := HN.out; omega) HG.out).mono ?_
    rintro e W ⟨o1, b1, d1, rfl, ho, hl, hb⟩
    replace hA := hid (hA.out.later hb)
    replace hM := hid (hM.out.later hb)
    have hL1 : Hid _ := hid hl
    clear hb ho hl
    have DL : Hid _ := hid (dn_length d q 0)
    obtain ⟨t1, ht1⟩ : ∃ z, z = bump (st d q 0) := ⟨_, rfl⟩
    obtain ⟨l1, hl1⟩ : ∃ z, z = dn d q 0 := ⟨_, rfl⟩
    rw [← hl1] at hL1 DL
    rw [← ht1, ← hl1]
    have HS1 : Hid _ := ht1
    have HL1 : Hid _ := hl1
    clear ht1 hl1
    have hLn : Hid (∀ g, o1 = some g → g < W.heap.size) := hL1.out.lt
    replace hL1 := hid (hL1.out.later (new_below W (.cells #[.int .u64 0, .int .u64 0, .int .u64 0, .int .u64 0, .int .u64 0, .int .u64 0, .int .u64 0, .int .u64 0, .int .u64 0, .int .u64 0, .int .u64 0, .int .u64 0, .int .u64 0, .int .u64 0, .int .u64 0, .int .u64 0, .int .u64 0, .int .u64 0, .int .u64 0, .int .u64 0, .int .u64 0, .int .u64 0, .int .u64 0, .int .u64 0, .int .u64 0, .int .u64 0, .int .u64 0, .int .u64 0, .int .u64 0, .int .u64 0, .int .u64 0, .int .u64 0] 24)))
    replace hA := hid (hA.out.later (new_below W (.cells #[.int .u64 0, .int .u64 0, .int .u64 0, .int .u64 0, .int .u64 0, .int .u64 0, .int .u64 0, .int .u64 0, .int .u64 0, .int .u64 0, .int .u64 0, .int .u64 0, .int .u64 0, .int .u64 0, .int .u64 0, .int .u64 0, .int .u64 0, .int .u64 0, .int .u64 0, .int .u64 0, .int .u64 0, .int .u64 0, .int .u64 0, .int .u64 0, .int .u64 0, .int .u64 0, .int .u64 0, .int .u64 0, .int .u64 0, .int .u64 0, .int .u64 0, .int .u64 0] 24)))
    obtain ⟨bx2, hbx2⟩ : ∃ q, q = W.heap.size := ⟨_, rfl⟩
    replace hM := hid (hM.out.bornR rl_zero.symm 24 (b := bx2) hbx2)
    have Hbx2 : Hid _ := hbx2
    clear hbx2
    go_wp2_with (first
      | (rw [← Hbx2.out]; refine sR rfl (hM.out.at 0 rfl) rfl ((rwR wz).len (rwR t1)) (rwR t1) ?_
         replace hL1 := hid (hL1.out.asideL (c := bx2) (fun h => by have := hLn.out _ h; have := Hbx2.out; omega) 0 (rl t1))
         replace hM := hid (hM.out.put 0 rfl (rl t1) ((rwR wz).len (rwR t1)))
         replace hA : Hid True := trivial
         generalize World.setCells _ _ _ _ = W at hM hL1 hA ⊢
         obtain ⟨W0, hW0⟩ : ∃ z, z = W := ⟨_, rfl⟩
         subst hW0
         have R0 : Hid (Bo W0 bx1 (rl d)) := (hM.out.at 1 rfl)
         have X0 : Hid (Bo W0 bx2 (rl t1)) := (hM.out.at 0 rfl)
         have hBw : Hid (Below w.heap.size w W0) := hM.out.below
         have hSz : Hid (w.heap.size ≤ W0.heap.size) := hid hM.out.below.size
         clear hM
         obtain ⟨bp, hbp⟩ : ∃ z, z = W0.heap.size := ⟨_, rfl⟩
         have hM : Hid (Ms bp W0 (W0.alloc (.cells #[.int .u64 0, .int .u64 0, .int .u64 0, .int .u64 0, .int .u64 0, .int .u64 0, .int .u64 0, .int .u64 0, .int .u64 0, .int .u64 0, .int .u64 0, .int .u64 0, .int .u64 0, .int .u64 0, .int .u64 0, .int .u64 0, .int .u64 0, .int .u64 0, .int .u64 0, .int .u64 0, .int .u64 0, .int .u64 0, .int .u64 0, .int .u64 0, .int .u64 0, .int .u64 0, .int .u64 0, .int .u64 0, .int .u64 0, .int .u64 0, .int .u64 0, .int .u64 0] 24)) [(bp, rl wz)] []) := hid (by subst hbp; exact (Ms.nil W0).bornR rl_zero.symm 24 rfl)
         have HBP : Hid _ := hbp
         clear hbp)
      | (refine lR rfl R0.out rfl (rwR d) ?_)
      | (rw [← HBP.out]
         refine sR rfl (hM.out.at 0 rfl) rfl ((rwR wz).len (rwR d)) (rwR d) ?_
         replace hM := hid (hM.out.put 0 rfl (rl d) ((rwR wz).len (rwR d)))
         generalize World.setCells _ _ _ _ = W at hM ⊢))
    go_loopg [12, 40] 0 (fun gg s12 s40 wt => wt = W ∧ s12 = .slice none 0 0 ∧ s40 = .int .i64 0)
    case atStart => exact ⟨rfl, rfl, rfl⟩
    case round =>
      obtain ⟨hw, rfl, rfl⟩ := hrel
      rw [hw]; clear hw wr
      obtain ⟨u, hu⟩ : ∃ z, z = d := ⟨_, rfl⟩
      rw [← hu] at hM
      have hS : Hid (Sa (st d q 0) u) := hid (by rw [hu]; exact fun j hj hn => rfl)
      clear hu
      have hO : Hid (Odd (bp + 1) W (.slice none 0 0) l1) := hid (by rw [HL1.out]; exact Odd.nil _ _)
      obtain ⟨vn, hvn⟩ : ∃ v, v = d 27 := ⟨_, rfl⟩
      have w27 : IntKind.u64.wrap ((vn : Int) + 1) = ((vn + 1 : Nat) : Int) := by rw [IntKind.wrap_u64]; have := V0.out; omega
      obtain ⟨v1, hv1⟩ : ∃ v, v = vn + 1 := ⟨_, rfl⟩
      rw [← hv1] at w27
      have HE : Hid (rl (upw u 27 v1) = rl t1) := hid (by rw [HS1.out, ← fold_end HG.out hS.out, hv1, hvn])
      have HVN : Hid (d 27 = vn) := hvn.symm
      clear hvn hv1
      have EE := rec_equal t1
      have x27 := (R0.out.later hM.out.below).rwordx (show 27 < 32 by decide) HVN.out
      go_wp2_with (first
        | (refine s1 rfl (hM.out.at 0 rfl) 27 rfl (.int .u64 (v1 : Nat)) rfl sz_u ?_ (by rw [rl_length]; decide)
           replace hM := hid (hM.out.put1 0 27 rfl (.int .u64 (v1 : Nat)) (rl (upw u 27 v1)) (by rw [rl_length]; decide) (rl_set _ _ (by decide)))
           replace hO := hid (hO.out.aside1 (Nat.lt_succ_self bp) 27 (.int .u64 (v1 : Nat)))
           generalize World.setCell _ _ _ = W at hM hO ⊢
           rw [HE.out] at hM
           clear x27)
        | (refine lW rfl (X0.out.later hM.out.below) rfl (rwR t1) ?_)
        | (refine lW rfl (hM.out.at 0 rfl) rfl (rwR t1) ?_))
      refine (equalD_is ((hL1.out.later hM.out.below).dq (by have := DL.out; have := HN.out; omega)) (hO.out.ld.dq (by have := DL.out; have := HN.out; omega)) (by have := DL.out; have := HN.out; omega)).mono ?_
      rintro e W ⟨rfl, hb⟩
      replace hM := hid (hM.out.later hb)
      clear hb
      go_wp2
      go_ret
      exact ⟨rfl, hBw.out.trans (hM.out.below.mono hSz.out)⟩
  · injection hv with e1 _ e3
    subst e1 e3
    have HC : Hid (0 < n ∧ n ≤ c1) := ⟨h0, hc⟩
    clear h0 hc
    go_wp2_with (first
      | (refine lR rfl (hM.out.at 0 rfl) rfl (rwR d) ?_))
    refine (do_sv SV.out hA.out (by have := HN.out; omega) HG.out).mono ?_
    rintro e W ⟨o1, b1, d1, rfl, ho, hl, hb⟩
    replace hA := hid (hA.out.later hb)
    replace hM := hid (hM.out.later hb)
    have hL1 : Hid _ := hid hl
    clear hb ho hl
    have DL : Hid _ := hid (dn_length d q n)
    obtain ⟨t1, ht1⟩ : ∃ z, z = bump (st d q n) := ⟨_, rfl⟩
    obtain ⟨l1, hl1⟩ : ∃ z, z = dn d q n := ⟨_, rfl⟩
    rw [← hl1] at hL1 DL
    rw [← ht1, ← hl1]
    have HS1 : Hid _ := ht1
    have HL1 : Hid _ := hl1
    clear ht1 hl1
    have hLn : Hid (∀ g, o1 = some g → g < W.heap.size) := hL1.out.lt
    have hAn : Hid (b < W.heap.size) := hid (hA.out.lt HC.out.1)
    replace hL1 := hid (hL1.out.later (new_below W (.cells #[.int .u64 0, .int .u64 0, .int .u64 0, .int .u64 0, .int .u64 0, .int .u64 0, .int .u64 0, .int .u64 0, .int .u64 0, .int .u64 0, .int .u64 0, .int .u64 0, .int .u64 0, .int .u64 0, .int .u64 0, .int .u64 0, .int .u64 0, .int .u64 0, .int .u64 0, .int .u64 0, .int .u64 0, .int .u64 0, .int .u64 0, .int .u64 0, .int .u64 0, .int .u64 0, .int .u64 0, .int .u64 0, .int .u64 0, .int .u64 0, .int .u64 0, .int .u64 0] 24)))
    replace hA := hid (hA.out.later (new_below W (.cells #[.int .u64 0, .int .u64 0, .int .u64 0, .int .u64 0, .int .u64 0, .int .u64 0, .int .u64 0, .int .u64 0, .int .u64 0, .int .u64 0, .int .u64 0, .int .u64 0, .int .u64 0, .int .u64 0, .int .u64 0, .int .u64 0, .int .u64 0, .int .u64 0, .int .u64 0, .int .u64 0, .int .u64 0, .int .u64 0, .int .u64 0, .int .u64 0, .int .u64 0, .int .u64 0, .int .u64 0, .int .u64 0, .int .u64 0, .int .u64 0, .int .u64 0, .int .u64 0] 24)))
    obtain ⟨bx2, hbx2⟩ : ∃ q, q = W.heap.size := ⟨_, rfl⟩
    replace hM := hid (hM.out.bornR rl_zero.symm 24 (b := bx2) hbx2)
    have Hbx2 : Hid _ := hbx2
    clear hbx2
    go_wp2_with (first
      | (rw [← Hbx2.out]; refine sR rfl (hM.out.at 0 rfl) rfl ((rwR wz).len (rwR t1)) (rwR t1) ?_
         replace hL1 := hid (hL1.out.asideL (c := bx2) (fun h => by have := hLn.out _ h; have := Hbx2.out; omega) 0 (rl t1))
         replace hM := hid (hM.out.put 0 rfl (rl t1) ((rwR wz).len (rwR t1)))
         replace hA := hid (hA.out.asideL (c := bx2) (by have := hAn.out; have := Hbx2.out; omega) 0 (rl t1))
         generalize World.setCells _ _ _ _ = W at hM hL1 hA ⊢
         obtain ⟨W0, hW0⟩ : ∃ z, z = W := ⟨_, rfl⟩
         subst hW0
         have R0 : Hid (Bo W0 bx1 (rl d)) := (hM.out.at 1 rfl)
         have X0 : Hid (Bo W0 bx2 (rl t1)) := (hM.out.at 0 rfl)
         have hBw : Hid (Below w.heap.size w W0) := hM.out.below
         have hSz : Hid (w.heap.size ≤ W0.heap.size) := hid hM.out.below.size
         clear hM
         obtain ⟨bp, hbp⟩ : ∃ z, z = W0.heap.size := ⟨_, rfl⟩
         have hM : Hid (Ms bp W0 (W0.alloc (.cells #[.int .u64 0, .int .u64 0, .int .u64 0, .int .u64 0, .int .u64 0, .int .u64 0, .int .u64 0, .int .u64 0, .int .u64 0, .int .u64 0, .int .u64 0, .int .u64 0, .int .u64 0, .int .u64 0, .int .u64 0, .int .u64 0, .int .u64 0, .int .u64 0, .int .u64 0, .int .u64 0, .int .u64 0, .int .u64 0, .int .u64 0, .int .u64 0, .int .u64 0, .int .u64 0, .int .u64 0, .int .u64 0, .int .u64 0, .int .u64 0, .int .u64 0, .int .u64 0] 24)) [(bp, rl wz)] []) := hid (by subst hbp; exact (Ms.nil W0).bornR rl_zero.symm 24 rfl)
         have HBP : Hid _ := hbp
         clear hbp)
      | (refine lR rfl R0.out rfl (rwR d) ?_)
      | (rw [← HBP.out]
         refine sR rfl (hM.out.at 0 rfl) rfl ((rwR wz).len (rwR d)) (rwR d) ?_
         replace hM := hid (hM.out.put 0 rfl (rl d) ((rwR wz).len (rwR d)))
         generalize World.setCells _ _ _ _ = W at hM ⊢))
    go_loopg [12, 40] n (fun gg s12 s40 wt => ∃ (i : Nat) (u : Nat → Nat), i ≤ n ∧ n - i ≤ gg ∧ s40 = .int .i64 i ∧ Hid (Sa (st d q i) u) ∧ Hid (Sv u (30 + 2 * i)) ∧ Hid (Odd (bp + 1) wt s12 (dn d q i)) ∧ Hid (Ms bp W0 wt [(bp, rl u)] []))
    case atStart => exact ⟨0, d, by omega, by omega, rfl, hid (fun j hj hn => rfl), SV, Odd.nil _ _, hM⟩
    case round =>
      clear hM
      obtain ⟨i, u, hi, hgg, rfl, hS, SU, hO, hM⟩ := hrel
      obtain ⟨W, rfl⟩ : ∃ q, q = wr := ⟨_, rfl⟩
      by_cases hlt : i < n
      · have hi1 : (i : Int) < (n : Int) := by omega
        have hi0 : (0 : Int) ≤ (i : Int) := by omega
        obtain ⟨i1, hi1e⟩ : ∃ z, z = i + 1 := ⟨_, rfl⟩
        have hj1 : IntKind.i64.wrap ((i : Int) + 1) = ((i1 : Nat) : Int) := by have := HN.out; rw [IntKind.wrap_i64]; omega
        have hj0 : (0 : Int) ≤ (i1 : Int) := by omega
        have hj4 : (i1 : Int) ≤ (c1 : Int) := by have := HC.out; omega
        have hj3 : i ≤ i1 := by omega
        have hj5 : ¬ c1 = i := by have := HC.out; omega
        have hj6 : i1 - i = 1 := by omega
        clear hi1e
        have HLT : Hid (i < n) := hlt
        have FS := fold_step hlt SV.out HN.out HG.out hS.out
        have SN : Hid (Sv (bump (st u (fun _ => q i) 1)) (30 + 2 * (i + 1))) := hid (((SU.out.run (n := 1) (q := fun _ => q i) (by have := HN.out; omega) (fun _ _ => HG.out i hlt)).bump (by have := HN.out; omega)).mono (by omega))
        have DO : Hid (∀ (w : World) (D : Aq w (.slice (some ⟨b, off + i * 5, none⟩) 1 (c1 - i)) 1 (fun _ => q i)), _) := fun w D => do_sv SU.out D (by have := HN.out; omega) (fun _ _ => HG.out i hlt)
        have e2 : dn d q (i + 1) = dn d q i ++ nd' (st d q i) (q i) := rfl
        rw [FS.2] at DO
        have HLE : Hid ((dn d q i).length + (nd' (st d q i) (q i)).length ≤ 1000000) := hid (by have h1 := dn_length d q (i + 1); rw [e2, List.length_append] at h1; have := HN.out; omega)
        obtain ⟨m, hm⟩ : ∃ z, z = nd' (st d q i) (q i) := ⟨_, rfl⟩
        obtain ⟨un, hun⟩ : ∃ z, z = bump (st u (fun _ => q i) 1) := ⟨_, rfl⟩
        rw [← hm] at DO HLE e2
        rw [← hun] at DO SN FS
        have SF : Hid _ := hid FS.1
        have HE2 : Hid _ := e2
        clear FS e2 hm hun
        go_wp2_with fail
        replace hM := hid (hM.out.drew)
        replace hO := hid (hO.out.drew)
        refine wp_region_held_drew (S := fun w' => Bo w' bp (rl u)) (by kernel_rfl) (hM.out.at 0 rfl) (fun hH => ?_)
        generalize World.drew _ = W at hM hH hO ⊢
        refine tkR 0 rfl hH (fun _ h => h) (rwR u) ?_
        simp only [Act.put, p1, p2, p3]
        refine tk 1 rfl hH ?_
        simp only [Act.put, p1, p2, p3]
        refine tk 2 rfl hH ?_
        simp only [Act.put, p1, p2, p3]
        refine tk 3 rfl hH ?_
        simp only [Act.put, p1, p2, p3]
        refine tk 4 rfl hH ?_
        simp only [Act.put, p1, p2, p3]
        refine tk 5 rfl hH ?_
        simp only [Act.put, p1, p2, p3]
        refine rdn [6, 11] ?_
        refine rdc rfl (fun K hK => ?_) ?_
        · go_simp
          have hlp := hM.out.len 0 rfl
          refine (DO.out _ ((hA.out.later hM.out.below).one HLT.out)).mono ?_
          rintro e W ⟨o3, b3, d3, rfl, ho, hl, hb⟩
          have Hpo3 : Hid (o3 ≠ some bp) := hid fun h => by have := ho _ h; omega
          replace hM := hid (hM.out.later hb)
          replace hO := hid (hO.out.later hb)
          have hL3 : Hid _ := hid hl
          clear hb hl ho hlp
          go_wp2_with fail
          refine hK.out _ _ (hM.out.at 0 rfl) (fun hH => ?_)
          clear hK K
          try simp only [Act.put, p1, p2, p3]
          refine tk 7 rfl hH ?_
          simp only [Act.put, p1, p2, p3]
          refine tk 8 rfl hH ?_
          simp only [Act.put, p1, p2, p3]
          refine tk 9 rfl hH ?_
          simp only [Act.put, p1, p2, p3]
          refine tk 10 rfl hH ?_
          simp only [Act.put, p1, p2, p3]
          refine rd1 11 rfl (fun K hK => ?_)
          have hown := fun g hg => (hO.out.lt g hg).2
          go_simp
          obtain ⟨bq3, hbq3⟩ : ∃ q, q = W.heap.size := ⟨_, rfl⟩
          have HOy : Hid (∀ g, u12.ownBlock = some g → g ≠ bq3) := hid fun g hg => by have := hown g hg; omega
          clear hown
          have Hyo3 : Hid (o3 ≠ some bq3) := hid fun h => by have := hL3.out.lt _ h; omega
          replace hM := hid (hM.out.bornR rl_zero.symm 24 (b := bq3) hbq3)
          have hb := hM.out.step
          replace hO := hid (hO.out.later hb)
          replace hL3 := hid (hL3.out.later hb)
          clear hb
          rw [← hbq3]
          clear hbq3
          refine hK.out _ _ (hM.out.at 1 rfl) (fun hH => ?_)
          clear hK K
          generalize World.alloc _ _ = W at hM hH hO hL3 ⊢
          try simp only [Act.put, p1, p2, p3]
          refine rd1 12 rfl (fun K hK => ?_)
          refine stR rfl (hM.out.at 0 rfl) ((rwR wz).len (rwR un)) (rwR un) ?_
          simp only [Act.put]
          replace hL3 := hid (hL3.out.asideL Hyo3.out 0 (rl un))
          replace hO := hid (hO.out.asideL HOy.out 0 (rl un))
          replace hM := hid (hM.out.put 0 rfl (rl un) ((rwR wz).len (rwR un)))
          refine hK.out _ _ (hM.out.at 1 rfl) (fun hH => ?_)
          clear hK K
          generalize World.setCells _ _ _ _ = W at hM hH hO hL3 ⊢
          try simp only [Act.put, p1, p2, p3]
          refine tk 13 rfl hH ?_
          simp only [Act.put, p1, p2, p3]
          refine tk 14 rfl hH ?_
          simp only [Act.put, p1, p2, p3]
          refine wpAnyH_done (by kernel_rfl) ?_ _
          go_wp2_with (first
            | (refine lR rfl (hM.out.at 0 rfl) rfl (rwR un) ?_)
            | (refine sR rfl (hM.out.at 1 rfl) rfl ((rwR u).len (rwR un)) (rwR un) ?_
               replace hM := hid (hM.out.put 1 rfl (rl un) ((rwR u).len (rwR un)))
               replace hO := hid (hO.out.aside (Nat.lt_succ_self bp) 0 (rl un))
               replace hL3 := hid (hL3.out.asideL Hpo3.out 0 (rl un))
               generalize World.setCells _ _ _ _ = W at hM hO hL3 ⊢)
            | (at_builtin
               refine wpList_ontoD rfl rfl (.tmp 57) (.tmp 58) rfl rfl rfl (B := bp + 1) (Nat.succ_le_of_lt (hM.out.len 1 rfl)) hO.out hL3.out.at HLE.out ?_
               intro v9 w9 hO9 hb9
               have hO9 : Hid _ := hid hO9
               have hM9 : Hid _ := hid ((hM.out.pick [1]).laterA hb9 ⟨Nat.le_succ bp, by intro b hb; simp at hb; omega⟩)
               clear hb9))
          have hw : wrap64 ((i : Int) + 1) = ((i + 1 : Nat) : Int) := (by have := HN.out; unfold wrap64; omega)
          go_roundg (n - (i + 1))
          case measure => omega
          case rel => exact ⟨i + 1, un, by omega, by omega, by go_num, SF, SN, by rw [HE2.out]; exact hO9, hM9⟩
        refine rdc rfl (fun K hK => ?_) AllReadyH.nil
        have hown := fun g hg => (hO.out.lt g hg).2
        go_simp
        obtain ⟨bq3, hbq3⟩ : ∃ q, q = W.heap.size := ⟨_, rfl⟩
        have HOy : Hid (∀ g, u12.ownBlock = some g → g ≠ bq3) := hid fun g hg => by have := hown g hg; omega
        clear hown
        replace hM := hid (hM.out.bornR rl_zero.symm 24 (b := bq3) hbq3)
        have hb := hM.out.step
        replace hO := hid (hO.out.later hb)
        clear hb
        rw [← hbq3]
        clear hbq3
        refine hK.out _ _ (hM.out.at 1 rfl) (fun hH => ?_)
        clear hK K
        generalize World.alloc _ _ = W at hM hH hO ⊢
        try simp only [Act.put, p1, p2, p3]
        refine rd1 6 rfl (fun K hK => ?_)
        go_simp
        have hly := hM.out.len 0 rfl
        have hlp := hM.out.len 1 rfl
        refine (DO.out _ ((hA.out.later hM.out.below).one HLT.out)).mono ?_
        rintro e W ⟨o3, b3, d3, rfl, ho, hl, hb⟩
        have Hyo3 : Hid (o3 ≠ some bq3) := hid fun h => by have := ho _ h; omega
        have Hpo3 : Hid (o3 ≠ some bp) := hid fun h => by have := ho _ h; omega
        replace hM := hid (hM.out.later hb)
        replace hO := hid (hO.out.later hb)
        have hL3 : Hid _ := hid hl
        clear hb hl ho hly hlp
        go_wp2_with fail
        refine hK.out _ _ (hM.out.at 1 rfl) (fun hH => ?_)
        clear hK K
        try simp only [Act.put, p1, p2, p3]
        refine tk 7 rfl hH ?_
        simp only [Act.put, p1, p2, p3]
        refine tk 8 rfl hH ?_
        simp only [Act.put, p1, p2, p3]
        refine tk 9 rfl hH ?_
        simp only [Act.put, p1, p2, p3]
        refine tk 10 rfl hH ?_
        simp only [Act.put, p1, p2, p3]
        refine rd1 12 rfl (fun K hK => ?_)
        refine stR rfl (hM.out.at 0 rfl) ((rwR wz).len (rwR un)) (rwR un) ?_
        simp only [Act.put]
        replace hL3 := hid (hL3.out.asideL Hyo3.out 0 (rl un))
        replace hO := hid (hO.out.asideL HOy.out 0 (rl un))
        replace hM := hid (hM.out.put 0 rfl (rl un) ((rwR wz).len (rwR un)))
        refine hK.out _ _ (hM.out.at 1 rfl) (fun hH => ?_)
        clear hK K
        generalize World.setCells _ _ _ _ = W at hM hH hO hL3 ⊢
        try simp only [Act.put, p1, p2, p3]
        refine tk 13 rfl hH ?_
        simp only [Act.put, p1, p2, p3]
        refine tk 14 rfl hH ?_
        simp only [Act.put, p1, p2, p3]
        refine wpAnyH_done (by kernel_rfl) ?_ _
        go_wp2_with (first
          | (refine lR rfl (hM.out.at 0 rfl) rfl (rwR un) ?_)
          | (refine sR rfl (hM.out.at 1 rfl) rfl ((rwR u).len (rwR un)) (rwR un) ?_
             replace hM := hid (hM.out.put 1 rfl (rl un) ((rwR u).len (rwR un)))
             replace hO := hid (hO.out.aside (Nat.lt_succ_self bp) 0 (rl un))
             replace hL3 := hid (hL3.out.asideL Hpo3.out 0 (rl un))
             generalize World.setCells _ _ _ _ = W at hM hO hL3 ⊢)
          | (at_builtin
             refine wpList_ontoD rfl rfl (.tmp 57) (.tmp 58) rfl rfl rfl (B := bp + 1) (Nat.succ_le_of_lt (hM.out.len 1 rfl)) hO.out hL3.out.at HLE.out ?_
             intro v9 w9 hO9 hb9
             have hO9 : Hid _ := hid hO9
             have hM9 : Hid _ := hid ((hM.out.pick [1]).laterA hb9 ⟨Nat.le_succ bp, by intro b hb; simp at hb; omega⟩)
             clear hb9))
        have hw : wrap64 ((i : Int) + 1) = ((i + 1 : Nat) : Int) := (by have := HN.out; unfold wrap64; omega)
        go_roundg (n - (i + 1))
        case measure => omega
        case rel => exact ⟨i + 1, un, by omega, by omega, by go_num, SF, SN, by rw [HE2.out]; exact hO9, hM9⟩
      · obtain rfl : i = n := by omega
        have hi1 : ¬ (i : Int) < (i : Int) := by omega
        rw [← HL1.out] at hO
        obtain ⟨vn, hvn⟩ : ∃ v, v = d 27 := ⟨_, rfl⟩
        have w27 : IntKind.u64.wrap ((vn : Int) + 1) = ((vn + 1 : Nat) : Int) := by rw [IntKind.wrap_u64]; have := V0.out; omega
        obtain ⟨v1, hv1⟩ : ∃ v, v = vn + 1 := ⟨_, rfl⟩
        rw [← hv1] at w27
        have HE : Hid (rl (upw u 27 v1) = rl t1) := hid (by rw [HS1.out, ← fold_end HG.out hS.out, hv1, hvn])
        have HVN : Hid (d 27 = vn) := hvn.symm
        clear hvn hv1
        have EE := rec_equal t1
        have x27 := (R0.out.later hM.out.below).rwordx (show 27 < 32 by decide) HVN.out
        go_wp2_with (first
          | (refine s1 rfl (hM.out.at 0 rfl) 27 rfl (.int .u64 (v1 : Nat)) rfl sz_u ?_ (by rw [rl_length]; decide)
             replace hM := hid (hM.out.put1 0 27 rfl (.int .u64 (v1 : Nat)) (rl (upw u 27 v1)) (by rw [rl_length]; decide) (rl_set _ _ (by decide)))
             replace hO := hid (hO.out.aside1 (Nat.lt_succ_self bp) 27 (.int .u64 (v1 : Nat)))
             generalize World.setCell _ _ _ = W at hM hO ⊢
             rw [HE.out] at hM
             clear x27)
          | (refine lW rfl (X0.out.later hM.out.below) rfl (rwR t1) ?_)
          | (refine lW rfl (hM.out.at 0 rfl) rfl (rwR t1) ?_))
        refine (equalD_is ((hL1.out.later hM.out.below).dq (by have := DL.out; have := HN.out; omega)) (hO.out.ld.dq (by have := DL.out; have := HN.out; omega)) (by have := DL.out; have := HN.out; omega)).mono ?_
        rintro e W ⟨rfl, hb⟩
        replace hM := hid (hM.out.later hb)
        clear hb
        go_wp2
        go_ret
        exact ⟨rfl, hBw.out.trans (hM.out.below.mono hSz.out)⟩


set_option maxRecDepth 100000 in
theorem lifted (os : Os) (started : os.Started) (H : Type) (enc : TypeId × Value → H) :
    ReturnsInHanded {} Tryz.checked os 6 .any (fun w args => (Rows.batchFoldsSpec.pre enc Tryz.prog Tryz.f6 [] false w args ∧ laidMetH Tryz.prog laidHandle w) ∧ sizedMet enc Tryz.prog Tryz.f6 (OpenSpec.ofChange Rows.batchFoldsSpec) false w args)
      (Rows.batchFoldsSpec.post enc Tryz.prog Tryz.f6 false true false false) := by
  refine returnsInHanded_of_change_and (C := Tryz.checked) (X := fun w _ => laidMetH Tryz.prog laidHandle w) (fun _ _ _ hh h => h.of_heap hh) own started (by kernel_rfl) Tryz.func6
    (ChangeSpec.witness_shaped (enc := enc) (C := Tryz.checked) (os := os) (X := fun w _ => laidMetH Tryz.prog laidHandle w) false (World.doorLaid Tryz.prog 400 os) #[.int .i64 0, .slice none 0 0, .slice none 0 0] 8 rfl (World.shaped_of_RefB (by kernel_rfl) (by kernel_rfl)) (by kernel_rfl) (by kernel_rfl) (by kernel_rfl) (door_handle os _)) ?_
  intro W base args ds gs before hval0 hW _ _ hL _
  have hval : ∀ (j : Nat) t v, Tryz.f6.params[j]? = some t → args[j]? = some v → Value.okWide Tryz.prog W .any base t v := hval0
  have hW' := hW
  obtain ⟨p, q, hA0, hV, rfl, hfz, hnd⟩ := hW
  have hA : DataW.TrodAll enc Tryz.prog W 0 (fun _ => true) true Tryz.f6.params.toList args.toList ds p := hA0
  rw [Tryz.params6] at hA hval
  obtain ⟨v0, vs0, d0, ds0, p0, q0, hargs, rfl, rfl, h0, r0⟩ := trodAll_cons hA
  obtain ⟨v1, vs1, d1, ds1, p1, q1, rfl, rfl, rfl, h1, r1⟩ := trodAll_cons r0
  obtain ⟨v2, vs2, d2, ds2, p2, q2, rfl, rfl, rfl, h2, r2⟩ := trodAll_cons r1
  obtain ⟨rfl, rfl, rfl⟩ := trodAll_nil r2
  obtain rfl : args = #[v0, v1, v2] := by cases args; simp_all
  obtain ⟨rfl, rfl⟩ := trodVars_none hV
  obtain ⟨a0, rfl, rfl, rfl, w0⟩ := open_int Tryz.underlying3 (hval 0 3 v0 rfl rfl) h0
  obtain ⟨n1, D1⟩ := adeeds_of_trod (hval 1 27 v1 rfl rfl) h1
  obtain ⟨n2, D2⟩ := adeeds_of_trod (hval 2 27 v2 rfl rfl) h2
  have hT := handle_of_laid hL
  have hlt := hW'.lt
  clear hA0 hval0
  refine (walk a0 v1 n1 v2 n2 w0 W hT D1 D2).mono fun e W' ⟨he, hg⟩ => ?_
  subst he
  exact ⟨_, rfl, post_below (pv := []) hW' (fun _ _ _ => (trodAll_cons_mk (shut_bool Tryz.underlying4 _) trodAll_mk0)) (fun sp hsp => (trodAll_cons_mk (shut_int Tryz.underlying3 w0) (trodAll_cons_mk (adeeds_stay h1 hg (fun x hx => hlt x (by simp [hx])) (fun x hx => hsp x (by simp [hx]))) (trodAll_cons_mk (adeeds_stay h2 hg (fun x hx => hlt x (by simp [hx])) (fun x hx => hsp x (by simp [hx]))) trodAll_mk0)))) (fun _ _ => rfl) (by simp) (hg.frame _)⟩

theorem over : Rows.BatchFoldsSaid :=
  OpenClaim.holds_of_wide 6 Tryz.f6 rfl rfl rfl rfl rfl rfl rfl ⟨rfl, rfl, rfl, rfl, rfl⟩ rfl rfl rfl rfl rfl (by kernel_rfl) Tryz.func6 (by kernel_rfl)
    (of_decide_eq_true (by kernel_rfl)) (by unfold Func.isWrapper; first | (rw [if_pos (by decide +kernel)]; kernel_rfl) | (rw [if_neg (by decide +kernel)]; exact ⟨rfl, rfl⟩))
    (fun os started H enc _ => lifted os started H enc)

theorem proved : Rows.BatchFoldsCardSaid :=
  Claim7.holds_tied_plain_at .later [] [.handle] true (true, "a91206407ffc9ac50704e0f9d15d4c21b102433ee895ea6e11b36374faea923f") true
    over (fun _ h => by cases h) (by kernel_rfl) (fun _ h => by cases h) batchFolds_row_tie rfl ⟨rfl, rfl⟩ (by kernel_rfl) rfl
    (fun f fn hf hfn => by
      obtain rfl : f = 6 := Option.some.inj ((show Tryz.prog.funcNamed "gristmill/gristmillkeep.BatchFolds" = some 6 by kernel_rfl).symm.trans hf) |>.symm
      obtain rfl : fn = Tryz.f6 := (Option.some.inj (Tryz.func6.symm.trans hfn)).symm
      exact ⟨by kernel_rfl, fun j t ht => by
        rw [Tryz.params6] at ht
        have hm : t ∈ [3, 27, 27] := by simpa using Array.mem_of_getElem? ht
        have hall : ([3, 27, 27].all fun u => !Tryz.prog.wantsStandIn u) = true := by kernel_rfl
        exact (show Tryz.prog.wantsStandIn t = false by simpa using List.all_eq_true.1 hall t hm)⟩)
    (by kernel_rfl)
#print axioms proved
end Go.Proofs.YteogbpaaacmllaaGreatDoor.Tab.batchFolds
