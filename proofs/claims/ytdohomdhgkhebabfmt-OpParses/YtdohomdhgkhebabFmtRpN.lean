/- The reference's OpParse, by its contract: at what is printed, and at what is not; fmt's text told. -/
import Derived.Test.YtdohomdhgkhebabFmtRpK
import Derived.Test.YtdohomdhgkhebabFmtParse
namespace Go.Proofs.YtdohomdhgkhebabFmt
open Go.RowKit Go.Kit Go.Extern.Stop Go.Stop Go.Extern

theorem ba_head {R : ByteArray} {c : UInt8} (h : R.data.toList.head? = some c) : 1 ≤ R.size := by
  rw [Lib.size_eq]
  cases hl : R.data.toList with
  | nil => rw [hl] at h; cases h
  | cons _ _ => simp

theorem no_of {l : List UInt8} (h : NoText l) {a b c : Int} (hr : Rt a b c) : ¬ txt a b c = l := by
  obtain ⟨o, k, v, rfl, rfl, rfl⟩ := rt_nat hr
  exact h o k v hr

/-- Digits behind a mark, as they are read there. -/
theorem dig_at (R : ByteArray) (hR : R.size ≤ 1000) : ∃ (Q R1 : ByteArray) (K : Int), R.extract 1 R.size = Q ∧ K = dgNum (R.data.toList.drop 1) ∧ R1 = ⟨(dgRest (R.data.toList.drop 1)).toArray⟩ ∧ R1.size ≤ 1000 ∧
    ∀ W : World, Calls Tryf.prog 12 #[.string Q] W fun e w' => e = .returned (.tuple #[.int .i64 K, .string R1]) ∧ Below W.heap.size W w' := by
  have hq : (R.extract 1 R.size).data.toList = R.data.toList.drop 1 := drop_list R 1
  have hz : R.size = R.data.toList.length := Lib.size_eq R
  have hl : (R.extract 1 R.size).size ≤ 1000 := by rw [Lib.size_eq, hq, List.length_drop]; omega
  refine ⟨_, _, _, rfl, rfl, rfl, ?_, fun W => ?_⟩
  · show (dgRest (R.data.toList.drop 1)).length ≤ 1000
    have h1 : (dgRest (R.data.toList.drop 1)).length ≤ (R.data.toList.drop 1).length := by
      unfold dgRest
      split
      · exact Nat.le_refl _
      · rw [List.length_drop]; omega
    rw [List.length_drop] at h1; omega
  · have h := digits_any (R.extract 1 R.size) hl W
    rw [hq] at h
    exact h

set_option maxHeartbeats 8000000 in
theorem RfParse_none (F : Interp) (s : ByteArray) (hs : s.size ≤ 1000) (hno : NoText s.data.toList) (w : World) (hF : F.told.answers w.tape) (hA : As w) :
    Calls Tryf.prog 5 #[.string s] w fun e w' => e = .returned (.tuple #[.agg #[.int .i64 0, .int .i64 0, .int .i64 0], .int .i64 3]) ∧ Below w.heap.size w w' := by
  have HNO : Hid (NoText s.data.toList) := hno
  have hs' : (s.size : Int) ≤ 1000 := by omega
  clear hno
  have V0 : Hid (Below w.heap.size w (w.alloc (.cells #[.int .i64 0, .int .i64 0, .int .i64 0] 23))) := (Below.refl _ _).alloc (Nat.le_refl _) _
  have A0 : Hid (As (w.alloc (.cells #[.int .i64 0, .int .i64 0, .int .i64 0] 23))) := As.later hA V0.out
  have z0 : Hid (∀ j : Nat, j < 3 → (w.alloc (.cells #[.int .i64 0, .int .i64 0, .int .i64 0] 23)).cell? ⟨w.heap.size, j, none⟩ = some (.int .i64 0)) := (fun j hj => by
    obtain rfl | rfl | rfl : j = 0 ∨ j = 1 ∨ j = 2 := by omega
    all_goals simp)
  have z1 : Hid (∀ j : Nat, (w.alloc (.cells #[.int .i64 0, .int .i64 0, .int .i64 0] 23)).frozen? ⟨w.heap.size, j, none⟩ = false) := fun j => by rw [frozen?_alloc_cells]; exact frozen_past w (Nat.le_refl _)
  have HF : Hid (F.told.answers (w.alloc (.cells #[.int .i64 0, .int .i64 0, .int .i64 0] 23)).tape) := hF
  clear hA hF
  go_enter Tryf.func5, Tryf.ntmps5
  go_wp2_with fail
  generalize hV : w.alloc (.cells #[.int .i64 0, .int .i64 0, .int .i64 0] 23) = V at *
  clear hV
  generalize hn : w.heap.size = n at *
  have HN : Hid _ := hn
  clear hn
  refine (fields_any _ A0.out).mono ?_
  rintro e w1 ⟨rfl, hb, hz, hc⟩
  have C1 : Hid (Cx w1 n V.heap.size) := ⟨fun j hj => below_cell hb (z0.out j hj), fun j => (hb.frozen (p := ⟨n, j, none⟩) (show n < V.heap.size from World.block_lt_of_cell? V ⟨n, 0, none⟩ (z0.out 0 (by decide)))).trans (z1.out j), hc, A0.out.later hb⟩
  have B1 : Hid (Below n w w1) := V0.out.trans (hb.mono (HN.out ▸ V0.out.size))
  have F1 : Hid (F.told.answers w1.tape) := hb.tape ▸ HF.out
  clear hb hz hc z0 z1 A0 HF V0
  generalize V.heap.size = fb at *
  go_wp2
  go_loopw [12] (fun i wr => ∃ k : Nat, k ≤ 6 ∧ i = .int .i64 k ∧ Below w1.heap.size w1 wr) (fun i _ => 6 - (intOf i).toNat)
  case atStart => exact ⟨0, by omega, rfl, Below.refl _ _⟩
  case round =>
    obtain ⟨k, hk, rfl, hbr⟩ := hrel
    have CR : Hid (Cx wr n fb) := C1.out.later hbr
    have BR : Hid _ := hbr
    clear hbr
    by_cases hlt : k < 6
    · have i0 : (0 : Int) ≤ (k : Int) := by omega
      have i1 : (k : Int) < 6 := by omega
      have fk := CR.out.fl k (by omega)
      by_cases hp : Lib.hasPrefix s.data.toList (nm ((k : Int) + 1)) = true
      · have hsp := pre_split hp
        have hL0 : (nm ((k : Int) + 1)).length ≤ s.size := by rw [Lib.size_eq, hsp]; simp
        have hL : (((nm ((k : Int) + 1)).length : Nat) : Int) ≤ (s.size : Int) := by omega
        obtain ⟨R0, e0⟩ : ∃ R0 : ByteArray, s.extract (nm ((k : Int) + 1)).length s.size = R0 := ⟨_, rfl⟩
        have r0l : R0.data.toList = s.data.toList.drop (nm ((k : Int) + 1)).length := by rw [← e0, drop_list]
        have hR0 : R0.size ≤ 1000 := by rw [Lib.size_eq, r0l, List.length_drop, ← Lib.size_eq]; omega
        by_cases h58 : R0.data.toList.head? = some 58
        · have p1 : Lib.hasPrefix R0.data.toList [58] = true := by rw [pre_one]; simp [h58]
          have s1 : (1 : Int) ≤ (R0.size : Int) := by have := ba_head h58; omega
          obtain ⟨Q0, R1, K, x1, kK, kR1, hR1, d1⟩ := dig_at R0 hR0
          have D1 : Hid _ := d1
          have KK : Hid _ := kK
          have KR1 : Hid _ := kR1
          clear d1 kK kR1
          by_cases h61 : R1.data.toList.head? = some 61
          · have p2 : Lib.hasPrefix R1.data.toList [61] = true := by rw [pre_one]; simp [h61]
            have s2 : (1 : Int) ≤ (R1.size : Int) := by have := ba_head h61; omega
            obtain ⟨Q1, R2, V, x2, vV, vR2, hR2, d2⟩ := dig_at R1 hR1
            have D2 : Hid _ := d2
            have VV : Hid _ := vV
            have VR2 : Hid _ := vR2
            clear d2 vV vR2
            by_cases hrt : Rt ((k : Int) + 1) K V
            · have hne := no_of HNO.out hrt
              have hq : (txt ((k : Int) + 1) K V == s.toList) = false := by rw [Lib.toList_data]; exact beq_eq_false_iff_ne.2 hne
              have TT : Hid (∀ W : World, F.told.answers W.tape → As W → Calls Tryf.prog 13 #[.agg #[.int .i64 ((k : Int) + 1), .int .i64 K, .int .i64 V]] W fun e w' => e = .returned (.tuple #[.string ⟨(txt ((k : Int) + 1) K V).toArray⟩, .int .i64 0]) ∧ Below W.heap.size W w') := fun W hF hA => RfText_yes F hrt W hF hA
              clear hne hrt hsp r0l h58 h61
              go_wp2_with fail
              refine (sh_strings_HasPrefix _ _ _).mono ?_
              rintro e wx ⟨rfl, hwx⟩
              rw [hwx]; clear hwx wx
              go_wp2_with fail
              have O0 : Hid (Ob (wr.alloc (.cells #[.int .i64 ((k : Int) + 1), .int .i64 0, .int .i64 0] 23)) wr.heap.size ((k : Int) + 1) 0 0) := Ob.born _ _ _ _ _
              have X0 : Hid (Below w1.heap.size w1 (wr.alloc (.cells #[.int .i64 ((k : Int) + 1), .int .i64 0, .int .i64 0] 23))) := BR.out.alloc BR.out.size _
              have hb1 : Hid (w1.heap.size ≤ wr.heap.size) := BR.out.size
              clear fk
              generalize wr.alloc (.cells #[.int .i64 ((k : Int) + 1), .int .i64 0, .int .i64 0] 23) = v0 at *
              generalize wr.heap.size = b at *
              refine (sh_strings_HasPrefix _ _ _).mono ?_
              rintro e wx ⟨rfl, hwx⟩
              rw [hwx]; clear hwx wx
              go_wp2_with fail
              refine (D1.out _).mono ?_
              rintro e u1 ⟨rfl, hb2⟩
              have Ou1 : Hid _ := O0.out.later hb2
              have Xu1 : Hid (Below w1.heap.size w1 u1) := X0.out.trans (hb2.mono X0.out.size)
              clear hb2 O0 X0
              have q := Ou1.out.c1
              have g := Ou1.out.f 1
              go_wp2_with fail
              have Ou1s : Hid (Ob (u1.setCell ⟨b, 1, none⟩ (.int .i64 K)) b ((k : Int) + 1) K 0) := Ou1.out.key K
              have Xu1s : Hid (Below w1.heap.size w1 (u1.setCell ⟨b, 1, none⟩ (.int .i64 K))) := Xu1.out.setCell hb1.out _
              clear q g Ou1 Xu1
              generalize u1.setCell ⟨b, 1, none⟩ (.int .i64 K) = vu1 at *
              refine (sh_strings_HasPrefix _ _ _).mono ?_
              rintro e wx ⟨rfl, hwx⟩
              rw [hwx]; clear hwx wx
              go_wp2_with fail
              refine (D2.out _).mono ?_
              rintro e u2 ⟨rfl, hb2⟩
              have Ou2 : Hid _ := Ou1s.out.later hb2
              have Xu2 : Hid (Below w1.heap.size w1 u2) := Xu1s.out.trans (hb2.mono Xu1s.out.size)
              clear hb2 Ou1s Xu1s
              have q0 := Ou2.out.c0
              have q1 := Ou2.out.c1
              have q2 := Ou2.out.c2
              have g := Ou2.out.f 2
              go_wp2_with fail
              have Ou2s : Hid (Ob (u2.setCell ⟨b, 2, none⟩ (.int .i64 V)) b ((k : Int) + 1) K V) := Ou2.out.val V
              have Xu2s : Hid (Below w1.heap.size w1 (u2.setCell ⟨b, 2, none⟩ (.int .i64 V))) := Xu2.out.setCell hb1.out _
              clear q0 q1 q2 g Ou2 Xu2
              generalize u2.setCell ⟨b, 2, none⟩ (.int .i64 V) = vu2 at *
              refine (TT.out _ (Xu2s.out.tape ▸ F1.out) (C1.out.later Xu2s.out).asc).mono ?_
              rintro e u3 ⟨rfl, hb3⟩
              have X3 : Hid (Below w1.heap.size w1 u3) := Xu2s.out.trans (hb3.mono Xu2s.out.size)
              clear hb3 Ou2s Xu2s
              go_wp2
              go_roundw
              case rel => exact ⟨k + 1, by omega, by go_num, X3.out⟩
              case measure => simp [intOf]; omega
            · have TT : Hid (∀ W : World, F.told.answers W.tape → As W → Calls Tryf.prog 13 #[.agg #[.int .i64 ((k : Int) + 1), .int .i64 K, .int .i64 V]] W fun e w' => e = .returned (.tuple #[.string ⟨#[]⟩, .int .i64 1]) ∧ Below W.heap.size W w') := fun W _ _ => RfText_no hrt W
              clear hrt hsp r0l h58 h61
              go_wp2_with fail
              refine (sh_strings_HasPrefix _ _ _).mono ?_
              rintro e wx ⟨rfl, hwx⟩
              rw [hwx]; clear hwx wx
              go_wp2_with fail
              have O0 : Hid (Ob (wr.alloc (.cells #[.int .i64 ((k : Int) + 1), .int .i64 0, .int .i64 0] 23)) wr.heap.size ((k : Int) + 1) 0 0) := Ob.born _ _ _ _ _
              have X0 : Hid (Below w1.heap.size w1 (wr.alloc (.cells #[.int .i64 ((k : Int) + 1), .int .i64 0, .int .i64 0] 23))) := BR.out.alloc BR.out.size _
              have hb1 : Hid (w1.heap.size ≤ wr.heap.size) := BR.out.size
              clear fk
              generalize wr.alloc (.cells #[.int .i64 ((k : Int) + 1), .int .i64 0, .int .i64 0] 23) = v0 at *
              generalize wr.heap.size = b at *
              refine (sh_strings_HasPrefix _ _ _).mono ?_
              rintro e wx ⟨rfl, hwx⟩
              rw [hwx]; clear hwx wx
              go_wp2_with fail
              refine (D1.out _).mono ?_
              rintro e u1 ⟨rfl, hb2⟩
              have Ou1 : Hid _ := O0.out.later hb2
              have Xu1 : Hid (Below w1.heap.size w1 u1) := X0.out.trans (hb2.mono X0.out.size)
              clear hb2 O0 X0
              have q := Ou1.out.c1
              have g := Ou1.out.f 1
              go_wp2_with fail
              have Ou1s : Hid (Ob (u1.setCell ⟨b, 1, none⟩ (.int .i64 K)) b ((k : Int) + 1) K 0) := Ou1.out.key K
              have Xu1s : Hid (Below w1.heap.size w1 (u1.setCell ⟨b, 1, none⟩ (.int .i64 K))) := Xu1.out.setCell hb1.out _
              clear q g Ou1 Xu1
              generalize u1.setCell ⟨b, 1, none⟩ (.int .i64 K) = vu1 at *
              refine (sh_strings_HasPrefix _ _ _).mono ?_
              rintro e wx ⟨rfl, hwx⟩
              rw [hwx]; clear hwx wx
              go_wp2_with fail
              refine (D2.out _).mono ?_
              rintro e u2 ⟨rfl, hb2⟩
              have Ou2 : Hid _ := Ou1s.out.later hb2
              have Xu2 : Hid (Below w1.heap.size w1 u2) := Xu1s.out.trans (hb2.mono Xu1s.out.size)
              clear hb2 Ou1s Xu1s
              have q0 := Ou2.out.c0
              have q1 := Ou2.out.c1
              have q2 := Ou2.out.c2
              have g := Ou2.out.f 2
              go_wp2_with fail
              have Ou2s : Hid (Ob (u2.setCell ⟨b, 2, none⟩ (.int .i64 V)) b ((k : Int) + 1) K V) := Ou2.out.val V
              have Xu2s : Hid (Below w1.heap.size w1 (u2.setCell ⟨b, 2, none⟩ (.int .i64 V))) := Xu2.out.setCell hb1.out _
              clear q0 q1 q2 g Ou2 Xu2
              generalize u2.setCell ⟨b, 2, none⟩ (.int .i64 V) = vu2 at *
              refine (TT.out _ (Xu2s.out.tape ▸ F1.out) (C1.out.later Xu2s.out).asc).mono ?_
              rintro e u3 ⟨rfl, hb3⟩
              have X3 : Hid (Below w1.heap.size w1 u3) := Xu2s.out.trans (hb3.mono Xu2s.out.size)
              clear hb3 Ou2s Xu2s
              go_wp2
              go_roundw
              case rel => exact ⟨k + 1, by omega, by go_num, X3.out⟩
              case measure => simp [intOf]; omega
          · have p2 : Lib.hasPrefix R1.data.toList [61] = false := by rw [pre_one]; simp [h61]
            by_cases hrt : Rt ((k : Int) + 1) K 0
            · have hne := no_of HNO.out hrt
              have hq : (txt ((k : Int) + 1) K 0 == s.toList) = false := by rw [Lib.toList_data]; exact beq_eq_false_iff_ne.2 hne
              have TT : Hid (∀ W : World, F.told.answers W.tape → As W → Calls Tryf.prog 13 #[.agg #[.int .i64 ((k : Int) + 1), .int .i64 K, .int .i64 0]] W fun e w' => e = .returned (.tuple #[.string ⟨(txt ((k : Int) + 1) K 0).toArray⟩, .int .i64 0]) ∧ Below W.heap.size W w') := fun W hF hA => RfText_yes F hrt W hF hA
              clear hne hrt hsp r0l h58 h61
              go_wp2_with fail
              refine (sh_strings_HasPrefix _ _ _).mono ?_
              rintro e wx ⟨rfl, hwx⟩
              rw [hwx]; clear hwx wx
              go_wp2_with fail
              have O0 : Hid (Ob (wr.alloc (.cells #[.int .i64 ((k : Int) + 1), .int .i64 0, .int .i64 0] 23)) wr.heap.size ((k : Int) + 1) 0 0) := Ob.born _ _ _ _ _
              have X0 : Hid (Below w1.heap.size w1 (wr.alloc (.cells #[.int .i64 ((k : Int) + 1), .int .i64 0, .int .i64 0] 23))) := BR.out.alloc BR.out.size _
              have hb1 : Hid (w1.heap.size ≤ wr.heap.size) := BR.out.size
              clear fk
              generalize wr.alloc (.cells #[.int .i64 ((k : Int) + 1), .int .i64 0, .int .i64 0] 23) = v0 at *
              generalize wr.heap.size = b at *
              refine (sh_strings_HasPrefix _ _ _).mono ?_
              rintro e wx ⟨rfl, hwx⟩
              rw [hwx]; clear hwx wx
              go_wp2_with fail
              refine (D1.out _).mono ?_
              rintro e u1 ⟨rfl, hb2⟩
              have Ou1 : Hid _ := O0.out.later hb2
              have Xu1 : Hid (Below w1.heap.size w1 u1) := X0.out.trans (hb2.mono X0.out.size)
              clear hb2 O0 X0
              have q := Ou1.out.c1
              have g := Ou1.out.f 1
              go_wp2_with fail
              have Ou1s : Hid (Ob (u1.setCell ⟨b, 1, none⟩ (.int .i64 K)) b ((k : Int) + 1) K 0) := Ou1.out.key K
              have Xu1s : Hid (Below w1.heap.size w1 (u1.setCell ⟨b, 1, none⟩ (.int .i64 K))) := Xu1.out.setCell hb1.out _
              clear q g Ou1 Xu1
              generalize u1.setCell ⟨b, 1, none⟩ (.int .i64 K) = vu1 at *
              refine (sh_strings_HasPrefix _ _ _).mono ?_
              rintro e wx ⟨rfl, hwx⟩
              rw [hwx]; clear hwx wx
              have q0 := Ou1s.out.c0
              have q1 := Ou1s.out.c1
              have q2 := Ou1s.out.c2
              go_wp2_with fail
              clear q0 q1 q2
              refine (TT.out _ (Xu1s.out.tape ▸ F1.out) (C1.out.later Xu1s.out).asc).mono ?_
              rintro e u3 ⟨rfl, hb3⟩
              have X3 : Hid (Below w1.heap.size w1 u3) := Xu1s.out.trans (hb3.mono Xu1s.out.size)
              clear hb3 Ou1s Xu1s
              go_wp2
              go_roundw
              case rel => exact ⟨k + 1, by omega, by go_num, X3.out⟩
              case measure => simp [intOf]; omega
            · have TT : Hid (∀ W : World, F.told.answers W.tape → As W → Calls Tryf.prog 13 #[.agg #[.int .i64 ((k : Int) + 1), .int .i64 K, .int .i64 0]] W fun e w' => e = .returned (.tuple #[.string ⟨#[]⟩, .int .i64 1]) ∧ Below W.heap.size W w') := fun W _ _ => RfText_no hrt W
              clear hrt hsp r0l h58 h61
              go_wp2_with fail
              refine (sh_strings_HasPrefix _ _ _).mono ?_
              rintro e wx ⟨rfl, hwx⟩
              rw [hwx]; clear hwx wx
              go_wp2_with fail
              have O0 : Hid (Ob (wr.alloc (.cells #[.int .i64 ((k : Int) + 1), .int .i64 0, .int .i64 0] 23)) wr.heap.size ((k : Int) + 1) 0 0) := Ob.born _ _ _ _ _
              have X0 : Hid (Below w1.heap.size w1 (wr.alloc (.cells #[.int .i64 ((k : Int) + 1), .int .i64 0, .int .i64 0] 23))) := BR.out.alloc BR.out.size _
              have hb1 : Hid (w1.heap.size ≤ wr.heap.size) := BR.out.size
              clear fk
              generalize wr.alloc (.cells #[.int .i64 ((k : Int) + 1), .int .i64 0, .int .i64 0] 23) = v0 at *
              generalize wr.heap.size = b at *
              refine (sh_strings_HasPrefix _ _ _).mono ?_
              rintro e wx ⟨rfl, hwx⟩
              rw [hwx]; clear hwx wx
              go_wp2_with fail
              refine (D1.out _).mono ?_
              rintro e u1 ⟨rfl, hb2⟩
              have Ou1 : Hid _ := O0.out.later hb2
              have Xu1 : Hid (Below w1.heap.size w1 u1) := X0.out.trans (hb2.mono X0.out.size)
              clear hb2 O0 X0
              have q := Ou1.out.c1
              have g := Ou1.out.f 1
              go_wp2_with fail
              have Ou1s : Hid (Ob (u1.setCell ⟨b, 1, none⟩ (.int .i64 K)) b ((k : Int) + 1) K 0) := Ou1.out.key K
              have Xu1s : Hid (Below w1.heap.size w1 (u1.setCell ⟨b, 1, none⟩ (.int .i64 K))) := Xu1.out.setCell hb1.out _
              clear q g Ou1 Xu1
              generalize u1.setCell ⟨b, 1, none⟩ (.int .i64 K) = vu1 at *
              refine (sh_strings_HasPrefix _ _ _).mono ?_
              rintro e wx ⟨rfl, hwx⟩
              rw [hwx]; clear hwx wx
              have q0 := Ou1s.out.c0
              have q1 := Ou1s.out.c1
              have q2 := Ou1s.out.c2
              go_wp2_with fail
              clear q0 q1 q2
              refine (TT.out _ (Xu1s.out.tape ▸ F1.out) (C1.out.later Xu1s.out).asc).mono ?_
              rintro e u3 ⟨rfl, hb3⟩
              have X3 : Hid (Below w1.heap.size w1 u3) := Xu1s.out.trans (hb3.mono Xu1s.out.size)
              clear hb3 Ou1s Xu1s
              go_wp2
              go_roundw
              case rel => exact ⟨k + 1, by omega, by go_num, X3.out⟩
              case measure => simp [intOf]; omega
        · have p1 : Lib.hasPrefix R0.data.toList [58] = false := by rw [pre_one]; simp [h58]
          by_cases h61 : R0.data.toList.head? = some 61
          · have p2 : Lib.hasPrefix R0.data.toList [61] = true := by rw [pre_one]; simp [h61]
            have s2 : (1 : Int) ≤ (R0.size : Int) := by have := ba_head h61; omega
            obtain ⟨Q1, R2, V, x2, vV, vR2, hR2, d2⟩ := dig_at R0 hR0
            have D2 : Hid _ := d2
            have VV : Hid _ := vV
            have VR2 : Hid _ := vR2
            clear d2 vV vR2
            by_cases hrt : Rt ((k : Int) + 1) 0 V
            · have hne := no_of HNO.out hrt
              have hq : (txt ((k : Int) + 1) 0 V == s.toList) = false := by rw [Lib.toList_data]; exact beq_eq_false_iff_ne.2 hne
              have TT : Hid (∀ W : World, F.told.answers W.tape → As W → Calls Tryf.prog 13 #[.agg #[.int .i64 ((k : Int) + 1), .int .i64 0, .int .i64 V]] W fun e w' => e = .returned (.tuple #[.string ⟨(txt ((k : Int) + 1) 0 V).toArray⟩, .int .i64 0]) ∧ Below W.heap.size W w') := fun W hF hA => RfText_yes F hrt W hF hA
              clear hne hrt hsp r0l h58 h61
              go_wp2_with fail
              refine (sh_strings_HasPrefix _ _ _).mono ?_
              rintro e wx ⟨rfl, hwx⟩
              rw [hwx]; clear hwx wx
              go_wp2_with fail
              have O0 : Hid (Ob (wr.alloc (.cells #[.int .i64 ((k : Int) + 1), .int .i64 0, .int .i64 0] 23)) wr.heap.size ((k : Int) + 1) 0 0) := Ob.born _ _ _ _ _
              have X0 : Hid (Below w1.heap.size w1 (wr.alloc (.cells #[.int .i64 ((k : Int) + 1), .int .i64 0, .int .i64 0] 23))) := BR.out.alloc BR.out.size _
              have hb1 : Hid (w1.heap.size ≤ wr.heap.size) := BR.out.size
              clear fk
              generalize wr.alloc (.cells #[.int .i64 ((k : Int) + 1), .int .i64 0, .int .i64 0] 23) = v0 at *
              generalize wr.heap.size = b at *
              refine (sh_strings_HasPrefix _ _ _).mono ?_
              rintro e wx ⟨rfl, hwx⟩
              rw [hwx]; clear hwx wx
              go_wp2_with fail
              refine (sh_strings_HasPrefix _ _ _).mono ?_
              rintro e wx ⟨rfl, hwx⟩
              rw [hwx]; clear hwx wx
              go_wp2_with fail
              refine (D2.out _).mono ?_
              rintro e u2 ⟨rfl, hb2⟩
              have Ou2 : Hid _ := O0.out.later hb2
              have Xu2 : Hid (Below w1.heap.size w1 u2) := X0.out.trans (hb2.mono X0.out.size)
              clear hb2 O0 X0
              have q0 := Ou2.out.c0
              have q1 := Ou2.out.c1
              have q2 := Ou2.out.c2
              have g := Ou2.out.f 2
              go_wp2_with fail
              have Ou2s : Hid (Ob (u2.setCell ⟨b, 2, none⟩ (.int .i64 V)) b ((k : Int) + 1) 0 V) := Ou2.out.val V
              have Xu2s : Hid (Below w1.heap.size w1 (u2.setCell ⟨b, 2, none⟩ (.int .i64 V))) := Xu2.out.setCell hb1.out _
              clear q0 q1 q2 g Ou2 Xu2
              generalize u2.setCell ⟨b, 2, none⟩ (.int .i64 V) = vu2 at *
              refine (TT.out _ (Xu2s.out.tape ▸ F1.out) (C1.out.later Xu2s.out).asc).mono ?_
              rintro e u3 ⟨rfl, hb3⟩
              have X3 : Hid (Below w1.heap.size w1 u3) := Xu2s.out.trans (hb3.mono Xu2s.out.size)
              clear hb3 Ou2s Xu2s
              go_wp2
              go_roundw
              case rel => exact ⟨k + 1, by omega, by go_num, X3.out⟩
              case measure => simp [intOf]; omega
            · have TT : Hid (∀ W : World, F.told.answers W.tape → As W → Calls Tryf.prog 13 #[.agg #[.int .i64 ((k : Int) + 1), .int .i64 0, .int .i64 V]] W fun e w' => e = .returned (.tuple #[.string ⟨#[]⟩, .int .i64 1]) ∧ Below W.heap.size W w') := fun W _ _ => RfText_no hrt W
              clear hrt hsp r0l h58 h61
              go_wp2_with fail
              refine (sh_strings_HasPrefix _ _ _).mono ?_
              rintro e wx ⟨rfl, hwx⟩
              rw [hwx]; clear hwx wx
              go_wp2_with fail
              have O0 : Hid (Ob (wr.alloc (.cells #[.int .i64 ((k : Int) + 1), .int .i64 0, .int .i64 0] 23)) wr.heap.size ((k : Int) + 1) 0 0) := Ob.born _ _ _ _ _
              have X0 : Hid (Below w1.heap.size w1 (wr.alloc (.cells #[.int .i64 ((k : Int) + 1), .int .i64 0, .int .i64 0] 23))) := BR.out.alloc BR.out.size _
              have hb1 : Hid (w1.heap.size ≤ wr.heap.size) := BR.out.size
              clear fk
              generalize wr.alloc (.cells #[.int .i64 ((k : Int) + 1), .int .i64 0, .int .i64 0] 23) = v0 at *
              generalize wr.heap.size = b at *
              refine (sh_strings_HasPrefix _ _ _).mono ?_
              rintro e wx ⟨rfl, hwx⟩
              rw [hwx]; clear hwx wx
              go_wp2_with fail
              refine (sh_strings_HasPrefix _ _ _).mono ?_
              rintro e wx ⟨rfl, hwx⟩
              rw [hwx]; clear hwx wx
              go_wp2_with fail
              refine (D2.out _).mono ?_
              rintro e u2 ⟨rfl, hb2⟩
              have Ou2 : Hid _ := O0.out.later hb2
              have Xu2 : Hid (Below w1.heap.size w1 u2) := X0.out.trans (hb2.mono X0.out.size)
              clear hb2 O0 X0
              have q0 := Ou2.out.c0
              have q1 := Ou2.out.c1
              have q2 := Ou2.out.c2
              have g := Ou2.out.f 2
              go_wp2_with fail
              have Ou2s : Hid (Ob (u2.setCell ⟨b, 2, none⟩ (.int .i64 V)) b ((k : Int) + 1) 0 V) := Ou2.out.val V
              have Xu2s : Hid (Below w1.heap.size w1 (u2.setCell ⟨b, 2, none⟩ (.int .i64 V))) := Xu2.out.setCell hb1.out _
              clear q0 q1 q2 g Ou2 Xu2
              generalize u2.setCell ⟨b, 2, none⟩ (.int .i64 V) = vu2 at *
              refine (TT.out _ (Xu2s.out.tape ▸ F1.out) (C1.out.later Xu2s.out).asc).mono ?_
              rintro e u3 ⟨rfl, hb3⟩
              have X3 : Hid (Below w1.heap.size w1 u3) := Xu2s.out.trans (hb3.mono Xu2s.out.size)
              clear hb3 Ou2s Xu2s
              go_wp2
              go_roundw
              case rel => exact ⟨k + 1, by omega, by go_num, X3.out⟩
              case measure => simp [intOf]; omega
          · have p2 : Lib.hasPrefix R0.data.toList [61] = false := by rw [pre_one]; simp [h61]
            by_cases hrt : Rt ((k : Int) + 1) 0 0
            · have hne := no_of HNO.out hrt
              have hq : (txt ((k : Int) + 1) 0 0 == s.toList) = false := by rw [Lib.toList_data]; exact beq_eq_false_iff_ne.2 hne
              have TT : Hid (∀ W : World, F.told.answers W.tape → As W → Calls Tryf.prog 13 #[.agg #[.int .i64 ((k : Int) + 1), .int .i64 0, .int .i64 0]] W fun e w' => e = .returned (.tuple #[.string ⟨(txt ((k : Int) + 1) 0 0).toArray⟩, .int .i64 0]) ∧ Below W.heap.size W w') := fun W hF hA => RfText_yes F hrt W hF hA
              clear hne hrt hsp r0l h58 h61
              go_wp2_with fail
              refine (sh_strings_HasPrefix _ _ _).mono ?_
              rintro e wx ⟨rfl, hwx⟩
              rw [hwx]; clear hwx wx
              go_wp2_with fail
              have O0 : Hid (Ob (wr.alloc (.cells #[.int .i64 ((k : Int) + 1), .int .i64 0, .int .i64 0] 23)) wr.heap.size ((k : Int) + 1) 0 0) := Ob.born _ _ _ _ _
              have X0 : Hid (Below w1.heap.size w1 (wr.alloc (.cells #[.int .i64 ((k : Int) + 1), .int .i64 0, .int .i64 0] 23))) := BR.out.alloc BR.out.size _
              have hb1 : Hid (w1.heap.size ≤ wr.heap.size) := BR.out.size
              clear fk
              generalize wr.alloc (.cells #[.int .i64 ((k : Int) + 1), .int .i64 0, .int .i64 0] 23) = v0 at *
              generalize wr.heap.size = b at *
              refine (sh_strings_HasPrefix _ _ _).mono ?_
              rintro e wx ⟨rfl, hwx⟩
              rw [hwx]; clear hwx wx
              go_wp2_with fail
              refine (sh_strings_HasPrefix _ _ _).mono ?_
              rintro e wx ⟨rfl, hwx⟩
              rw [hwx]; clear hwx wx
              have q0 := O0.out.c0
              have q1 := O0.out.c1
              have q2 := O0.out.c2
              go_wp2_with fail
              clear q0 q1 q2
              refine (TT.out _ (X0.out.tape ▸ F1.out) (C1.out.later X0.out).asc).mono ?_
              rintro e u3 ⟨rfl, hb3⟩
              have X3 : Hid (Below w1.heap.size w1 u3) := X0.out.trans (hb3.mono X0.out.size)
              clear hb3 O0 X0
              go_wp2
              go_roundw
              case rel => exact ⟨k + 1, by omega, by go_num, X3.out⟩
              case measure => simp [intOf]; omega
            · have TT : Hid (∀ W : World, F.told.answers W.tape → As W → Calls Tryf.prog 13 #[.agg #[.int .i64 ((k : Int) + 1), .int .i64 0, .int .i64 0]] W fun e w' => e = .returned (.tuple #[.string ⟨#[]⟩, .int .i64 1]) ∧ Below W.heap.size W w') := fun W _ _ => RfText_no hrt W
              clear hrt hsp r0l h58 h61
              go_wp2_with fail
              refine (sh_strings_HasPrefix _ _ _).mono ?_
              rintro e wx ⟨rfl, hwx⟩
              rw [hwx]; clear hwx wx
              go_wp2_with fail
              have O0 : Hid (Ob (wr.alloc (.cells #[.int .i64 ((k : Int) + 1), .int .i64 0, .int .i64 0] 23)) wr.heap.size ((k : Int) + 1) 0 0) := Ob.born _ _ _ _ _
              have X0 : Hid (Below w1.heap.size w1 (wr.alloc (.cells #[.int .i64 ((k : Int) + 1), .int .i64 0, .int .i64 0] 23))) := BR.out.alloc BR.out.size _
              have hb1 : Hid (w1.heap.size ≤ wr.heap.size) := BR.out.size
              clear fk
              generalize wr.alloc (.cells #[.int .i64 ((k : Int) + 1), .int .i64 0, .int .i64 0] 23) = v0 at *
              generalize wr.heap.size = b at *
              refine (sh_strings_HasPrefix _ _ _).mono ?_
              rintro e wx ⟨rfl, hwx⟩
              rw [hwx]; clear hwx wx
              go_wp2_with fail
              refine (sh_strings_HasPrefix _ _ _).mono ?_
              rintro e wx ⟨rfl, hwx⟩
              rw [hwx]; clear hwx wx
              have q0 := O0.out.c0
              have q1 := O0.out.c1
              have q2 := O0.out.c2
              go_wp2_with fail
              clear q0 q1 q2
              refine (TT.out _ (X0.out.tape ▸ F1.out) (C1.out.later X0.out).asc).mono ?_
              rintro e u3 ⟨rfl, hb3⟩
              have X3 : Hid (Below w1.heap.size w1 u3) := X0.out.trans (hb3.mono X0.out.size)
              clear hb3 O0 X0
              go_wp2
              go_roundw
              case rel => exact ⟨k + 1, by omega, by go_num, X3.out⟩
              case measure => simp [intOf]; omega
      · have hp' : Lib.hasPrefix s.data.toList (nm ((k : Int) + 1)) = false := by simpa using hp
        clear hp
        go_wp2_with (go_at_call 11; refine (sh_strings_HasPrefix _ _ _).mono ?_; rintro e w' ⟨rfl, rfl⟩)
        go_roundw
        case rel => exact ⟨k + 1, by omega, by go_num, BR.out⟩
        case measure => simp [intOf]; omega
    · obtain rfl : k = 6 := by omega
      have z0 := CR.out.z 0 (by decide)
      have z1 := CR.out.z 1 (by decide)
      have z2 := CR.out.z 2 (by decide)
      have y0 := CR.out.zf 0
      have y1 := CR.out.zf 1
      have y2 := CR.out.zf 2
      clear hk hlt
      go_wp2
      exact bodyPost_ret (v := .tuple #[.agg #[.int .i64 0, .int .i64 0, .int .i64 0], .int .i64 3]) (by simp [results, Tryf.results5, go_sem, z0, z1, z2]) rfl ⟨rfl, by
        rw [HN.out]
        have := B1.out.trans (BR.out.mono (HN.out ▸ B1.out.size))
        exact ((this.setCell (Nat.le_refl _) _).setCell (Nat.le_refl _) _).setCell (Nat.le_refl _) _⟩
end Go.Proofs.YtdohomdhgkhebabFmt
