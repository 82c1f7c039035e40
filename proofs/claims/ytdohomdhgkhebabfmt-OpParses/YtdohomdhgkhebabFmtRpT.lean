/- The reference's OpParse at what is printed, by its contract; fmt's text told. -/
import Derived.Test.YtdohomdhgkhebabFmtRpN
namespace Go.Proofs.YtdohomdhgkhebabFmt
open Go.RowKit Go.Kit Go.Extern.Stop Go.Stop Go.Extern

theorem ret_op {a b c d x e : Int} (h1 : c = d) (h2 : x = e) : Ending.returned (.tuple #[.agg #[.int .i64 a, .int .i64 c, .int .i64 x], .int .i64 b]) = .returned (.tuple #[.agg #[.int .i64 a, .int .i64 d, .int .i64 e], .int .i64 b]) := by rw [h1, h2]

set_option maxHeartbeats 8000000 in
theorem RfParse_txt (F : Interp) {m : Nat} {kk vv : Int} (h : Rt ((m : Int) + 1) kk vv) (s : ByteArray) (hsl : s.data.toList = txt ((m : Int) + 1) kk vv) (w : World) (hF : F.told.answers w.tape) (hA : As w) :
    Calls Tryf.prog 5 #[.string s] w fun e w' => e = .returned (.tuple #[.agg #[.int .i64 ((m : Int) + 1), .int .i64 kk, .int .i64 vv], .int .i64 0]) ∧ Below w.heap.size w w' := by
  have hm : m < 6 := by have := h.w6; omega
  have hs : s.size ≤ 1000 := by have := txt_len h; rw [Lib.size_eq, hsl]; omega
  have hs' : (s.size : Int) ≤ 1000 := by omega
  have HS : Hid (s = ⟨(txt ((m : Int) + 1) kk vv).toArray⟩) := ba_of hsl
  have HSL : Hid _ := hsl
  clear hsl
  have V0 : Hid (Below w.heap.size w (w.alloc (.cells #[.int .i64 0, .int .i64 0, .int .i64 0] 23))) := (Below.refl _ _).alloc (Nat.le_refl _) _
  have A0 : Hid (As (w.alloc (.cells #[.int .i64 0, .int .i64 0, .int .i64 0] 23))) := As.later hA V0.out
  have z0 : Hid (∀ j : Nat, j < 3 → (w.alloc (.cells #[.int .i64 0, .int .i64 0, .int .i64 0] 23)).cell? ⟨w.heap.size, j, none⟩ = some (.int .i64 0)) := (fun j hj => by
    obtain rfl | rfl | rfl : j = 0 ∨ j = 1 ∨ j = 2 := by omega
    all_goals simp)
  have z1 : Hid (∀ j : Nat, (w.alloc (.cells #[.int .i64 0, .int .i64 0, .int .i64 0] 23)).frozen? ⟨w.heap.size, j, none⟩ = false) := fun j => by rw [frozen?_alloc_cells]; exact frozen_past w (Nat.le_refl _)
  have HF : Hid (F.told.answers (w.alloc (.cells #[.int .i64 0, .int .i64 0, .int .i64 0] 23)).tape) := hF
  clear hA hF
  go_enter Tryf.func5, Tryf.ntmps5
  go_wp2_with fail
  generalize hV : w.alloc (.cells #[.int .i64 0, .int .i64 0, .int .i64 0] 23) = V at *
  clear hV
  generalize hn : w.heap.size = n at *
  have HN : Hid _ := hn
  clear hn
  refine (fields_any _ A0.out).mono ?_
  rintro e w1 ⟨rfl, hb, hz, hc⟩
  have C1 : Hid (Cx w1 n V.heap.size) := ⟨fun j hj => below_cell hb (z0.out j hj), fun j => (hb.frozen (p := ⟨n, j, none⟩) (show n < V.heap.size from World.block_lt_of_cell? V ⟨n, 0, none⟩ (z0.out 0 (by decide)))).trans (z1.out j), hc, A0.out.later hb⟩
  have B1 : Hid (Below n w w1) := V0.out.trans (hb.mono (HN.out ▸ V0.out.size))
  have F1 : Hid (F.told.answers w1.tape) := hb.tape ▸ HF.out
  clear hb hz hc z0 z1 A0 HF V0
  generalize V.heap.size = fb at *
  go_wp2
  go_loopw [12] (fun i wr => ∃ k : Nat, k ≤ m ∧ i = .int .i64 k ∧ Below w1.heap.size w1 wr) (fun i _ => 6 - (intOf i).toNat)
  case atStart => exact ⟨0, Nat.zero_le _, rfl, Below.refl _ _⟩
  case round =>
    obtain ⟨k, hk, rfl, hbr⟩ := hrel
    have CR : Hid (Cx wr n fb) := C1.out.later hbr
    have BR : Hid _ := hbr
    clear hbr
    by_cases hlt : k < 6
    · have i0 : (0 : Int) ≤ (k : Int) := by omega
      have i1 : (k : Int) < 6 := by omega
      have fk := CR.out.fl k (by omega)
      by_cases hkm : k = m
      · subst hkm
        have hp : Lib.hasPrefix s.data.toList (nm ((k : Int) + 1)) = true := by rw [HSL.out, txt, List.append_assoc]; exact pre_txt _ _
        have hsp := pre_split hp
        have hL0 : (nm ((k : Int) + 1)).length ≤ s.size := by rw [Lib.size_eq, hsp]; simp
        have hL : (((nm ((k : Int) + 1)).length : Nat) : Int) ≤ (s.size : Int) := by omega
        obtain ⟨R0, e0⟩ : ∃ R0 : ByteArray, s.extract (nm ((k : Int) + 1)).length s.size = R0 := ⟨_, rfl⟩
        have r0l : R0.data.toList = s.data.toList.drop (nm ((k : Int) + 1)).length := by rw [← e0, drop_list]
        have hR0 : R0.size ≤ 1000 := by rw [Lib.size_eq, r0l, List.length_drop, ← Lib.size_eq]; omega
        have r0t : R0.data.toList = prt 58 kk ++ prt 61 vv := by rw [r0l, HSL.out, txt, List.append_assoc]; simp
        by_cases h58 : R0.data.toList.head? = some 58
        · have p1 : Lib.hasPrefix R0.data.toList [58] = true := by rw [pre_one]; simp [h58]
          have s1 : (1 : Int) ≤ (R0.size : Int) := by have := ba_head h58; omega
          obtain ⟨Q0, R1, K, x1, kK, kR1, hR1, d1⟩ := dig_at R0 hR0
          have D1 : Hid _ := d1
          have KK : Hid _ := kK
          have KR1 : Hid _ := kR1
          clear d1 kK kR1
          by_cases h61 : R1.data.toList.head? = some 61
          · have p2 : Lib.hasPrefix R1.data.toList [61] = true := by rw [pre_one]; simp [h61]
            have s2 : (1 : Int) ≤ (R1.size : Int) := by have := ba_head h61; omega
            obtain ⟨Q1, R2, V, x2, vV, vR2, hR2, d2⟩ := dig_at R1 hR1
            have D2 : Hid _ := d2
            have VV : Hid _ := vV
            have VR2 : Hid _ := vR2
            clear d2 vV vR2
            have EK : Hid (K = kk) := by
              have a := (rKey_txt kk vv h.k0 h.k1).1
              have b := KK.out
              rw [r0t] at b h58
              rw [rKey, if_pos h58] at a
              exact b.trans a
            have r1t : R1.data.toList = prt 61 vv := by
              have a := (rKey_txt kk vv h.k0 h.k1).2
              have b := KR1.out
              rw [r0t] at b h58
              rw [rKeyRest, if_pos h58] at a
              rw [b]; exact a
            have EV : Hid (V = vv) := by
              have a := (rVal_txt vv h.v0 h.v1).1
              have b := VV.out
              have hh := h61
              rw [r1t] at b hh
              rw [rVal, if_pos hh] at a
              exact b.trans a
            have e2 : R2 = ⟨#[]⟩ := by
              have a := (rVal_txt vv h.v0 h.v1).2
              have b := VR2.out
              have hh := h61
              rw [r1t] at b hh
              rw [rValRest, if_pos hh] at a
              rw [b, a]
            have TT : Hid (∀ W : World, F.told.answers W.tape → As W → Calls Tryf.prog 13 #[.agg #[.int .i64 ((k : Int) + 1), .int .i64 K, .int .i64 V]] W fun e w' => e = .returned (.tuple #[.string s, .int .i64 0]) ∧ Below W.heap.size W w') := fun W hF hA => by
              have t := RfText_yes F h W hF hA
              rw [← HS.out, ← EK.out, ← EV.out] at t
              exact t
            clear r1t r0l r0t h58 h61 hsp
            clear VR2 VV
            clear KR1 KK
            subst e2
            go_wp2_with fail
            refine (sh_strings_HasPrefix _ _ _).mono ?_
            rintro e wx ⟨rfl, hwx⟩
            rw [hwx]; clear hwx wx
            go_wp2_with fail
            have O0 : Hid (Ob (wr.alloc (.cells #[.int .i64 ((k : Int) + 1), .int .i64 0, .int .i64 0] 23)) wr.heap.size ((k : Int) + 1) 0 0) := Ob.born _ _ _ _ _
            have X0 : Hid (Below w1.heap.size w1 (wr.alloc (.cells #[.int .i64 ((k : Int) + 1), .int .i64 0, .int .i64 0] 23))) := BR.out.alloc BR.out.size _
            have hb1 : Hid (w1.heap.size ≤ wr.heap.size) := BR.out.size
            clear fk
            generalize wr.alloc (.cells #[.int .i64 ((k : Int) + 1), .int .i64 0, .int .i64 0] 23) = v0 at *
            generalize wr.heap.size = b at *
            refine (sh_strings_HasPrefix _ _ _).mono ?_
            rintro e wx ⟨rfl, hwx⟩
            rw [hwx]; clear hwx wx
            go_wp2_with fail
            refine (D1.out _).mono ?_
            rintro e u1 ⟨rfl, hb2⟩
            have Ou1 : Hid _ := O0.out.later hb2
            have Xu1 : Hid (Below w1.heap.size w1 u1) := X0.out.trans (hb2.mono X0.out.size)
            clear hb2 O0 X0
            have q := Ou1.out.c1
            have g := Ou1.out.f 1
            go_wp2_with fail
            have Ou1s : Hid (Ob (u1.setCell ⟨b, 1, none⟩ (.int .i64 K)) b ((k : Int) + 1) K 0) := Ou1.out.key K
            have Xu1s : Hid (Below w1.heap.size w1 (u1.setCell ⟨b, 1, none⟩ (.int .i64 K))) := Xu1.out.setCell hb1.out _
            clear q g Ou1 Xu1
            generalize u1.setCell ⟨b, 1, none⟩ (.int .i64 K) = vu1 at *
            refine (sh_strings_HasPrefix _ _ _).mono ?_
            rintro e wx ⟨rfl, hwx⟩
            rw [hwx]; clear hwx wx
            go_wp2_with fail
            refine (D2.out _).mono ?_
            rintro e u2 ⟨rfl, hb2⟩
            have Ou2 : Hid _ := Ou1s.out.later hb2
            have Xu2 : Hid (Below w1.heap.size w1 u2) := Xu1s.out.trans (hb2.mono Xu1s.out.size)
            clear hb2 Ou1s Xu1s
            have q0 := Ou2.out.c0
            have q1 := Ou2.out.c1
            have q2 := Ou2.out.c2
            have g := Ou2.out.f 2
            go_wp2_with fail
            have Ou2s : Hid (Ob (u2.setCell ⟨b, 2, none⟩ (.int .i64 V)) b ((k : Int) + 1) K V) := Ou2.out.val V
            have Xu2s : Hid (Below w1.heap.size w1 (u2.setCell ⟨b, 2, none⟩ (.int .i64 V))) := Xu2.out.setCell hb1.out _
            clear q0 q1 q2 g Ou2 Xu2
            generalize u2.setCell ⟨b, 2, none⟩ (.int .i64 V) = vu2 at *
            refine (TT.out _ (Xu2s.out.tape ▸ F1.out) (C1.out.later Xu2s.out).asc).mono ?_
            rintro e u3 ⟨rfl, hb3⟩
            have X3 : Hid (Below w1.heap.size w1 u3) := Xu2s.out.trans (hb3.mono Xu2s.out.size)
            have O3 : Hid _ := Ou2s.out.later hb3
            have C3 : Hid (Cx u3 n fb) := C1.out.later X3.out
            clear hb3 Ou2s Xu2s
            have z0 := C3.out.z 0 (by decide)
            have y0 := C3.out.zf 0
            have q0 := O3.out.c0
            have z1 := C3.out.z 1 (by decide)
            have y1 := C3.out.zf 1
            have q1 := O3.out.c1
            have z2 := C3.out.z 2 (by decide)
            have y2 := C3.out.zf 2
            have q2 := O3.out.c2
            have hnb : n ≠ b := by
              have h1 : n < w1.heap.size := World.block_lt_of_cell? w1 ⟨n, 0, none⟩ (C1.out.z 0 (by decide))
              have := hb1.out
              omega
            go_wp2
            exact bodyPost_ret (v := .tuple #[.agg #[.int .i64 ((k : Int) + 1), .int .i64 K, .int .i64 V], .int .i64 0]) (by simp [results, Tryf.results5, go_sem, z0, z1, z2]) rfl ⟨ret_op EK.out EV.out, by
              rw [HN.out]
              have := B1.out.trans (X3.out.mono (HN.out ▸ B1.out.size))
              exact ((this.setCell (Nat.le_refl _) _).setCell (Nat.le_refl _) _).setCell (Nat.le_refl _) _⟩
          · have p2 : Lib.hasPrefix R1.data.toList [61] = false := by rw [pre_one]; simp [h61]
            have EK : Hid (K = kk) := by
              have a := (rKey_txt kk vv h.k0 h.k1).1
              have b := KK.out
              rw [r0t] at b h58
              rw [rKey, if_pos h58] at a
              exact b.trans a
            have r1t : R1.data.toList = prt 61 vv := by
              have a := (rKey_txt kk vv h.k0 h.k1).2
              have b := KR1.out
              rw [r0t] at b h58
              rw [rKeyRest, if_pos h58] at a
              rw [b]; exact a
            have EV : Hid ((0 : Int) = vv) := by
              have a := (rVal_txt vv h.v0 h.v1).1
              have hh := h61
              rw [r1t] at hh
              rw [rVal, if_neg hh] at a
              exact a
            have e2 : R1 = ⟨#[]⟩ := by
              have a := (rVal_txt vv h.v0 h.v1).2
              have hh := h61
              rw [r1t] at hh
              rw [rValRest, if_neg hh] at a
              exact ba_of (r1t.trans a)
            have TT : Hid (∀ W : World, F.told.answers W.tape → As W → Calls Tryf.prog 13 #[.agg #[.int .i64 ((k : Int) + 1), .int .i64 K, .int .i64 0]] W fun e w' => e = .returned (.tuple #[.string s, .int .i64 0]) ∧ Below W.heap.size W w') := fun W hF hA => by
              have t := RfText_yes F h W hF hA
              rw [← HS.out, ← EK.out, ← EV.out] at t
              exact t
            clear r1t r0l r0t h58 h61 hsp
            clear KR1 KK
            subst e2
            have p2e : Lib.hasPrefix [] [61] = false := rfl
            clear p2
            go_wp2_with fail
            refine (sh_strings_HasPrefix _ _ _).mono ?_
            rintro e wx ⟨rfl, hwx⟩
            rw [hwx]; clear hwx wx
            go_wp2_with fail
            have O0 : Hid (Ob (wr.alloc (.cells #[.int .i64 ((k : Int) + 1), .int .i64 0, .int .i64 0] 23)) wr.heap.size ((k : Int) + 1) 0 0) := Ob.born _ _ _ _ _
            have X0 : Hid (Below w1.heap.size w1 (wr.alloc (.cells #[.int .i64 ((k : Int) + 1), .int .i64 0, .int .i64 0] 23))) := BR.out.alloc BR.out.size _
            have hb1 : Hid (w1.heap.size ≤ wr.heap.size) := BR.out.size
            clear fk
            generalize wr.alloc (.cells #[.int .i64 ((k : Int) + 1), .int .i64 0, .int .i64 0] 23) = v0 at *
            generalize wr.heap.size = b at *
            refine (sh_strings_HasPrefix _ _ _).mono ?_
            rintro e wx ⟨rfl, hwx⟩
            rw [hwx]; clear hwx wx
            go_wp2_with fail
            refine (D1.out _).mono ?_
            rintro e u1 ⟨rfl, hb2⟩
            have Ou1 : Hid _ := O0.out.later hb2
            have Xu1 : Hid (Below w1.heap.size w1 u1) := X0.out.trans (hb2.mono X0.out.size)
            clear hb2 O0 X0
            have q := Ou1.out.c1
            have g := Ou1.out.f 1
            go_wp2_with fail
            have Ou1s : Hid (Ob (u1.setCell ⟨b, 1, none⟩ (.int .i64 K)) b ((k : Int) + 1) K 0) := Ou1.out.key K
            have Xu1s : Hid (Below w1.heap.size w1 (u1.setCell ⟨b, 1, none⟩ (.int .i64 K))) := Xu1.out.setCell hb1.out _
            clear q g Ou1 Xu1
            generalize u1.setCell ⟨b, 1, none⟩ (.int .i64 K) = vu1 at *
            refine (sh_strings_HasPrefix _ _ _).mono ?_
            rintro e wx ⟨rfl, hwx⟩
            rw [hwx]; clear hwx wx
            have q0 := Ou1s.out.c0
            have q1 := Ou1s.out.c1
            have q2 := Ou1s.out.c2
            go_wp2_with fail
            clear q0 q1 q2
            refine (TT.out _ (Xu1s.out.tape ▸ F1.out) (C1.out.later Xu1s.out).asc).mono ?_
            rintro e u3 ⟨rfl, hb3⟩
            have X3 : Hid (Below w1.heap.size w1 u3) := Xu1s.out.trans (hb3.mono Xu1s.out.size)
            have O3 : Hid _ := Ou1s.out.later hb3
            have C3 : Hid (Cx u3 n fb) := C1.out.later X3.out
            clear hb3 Ou1s Xu1s
            have z0 := C3.out.z 0 (by decide)
            have y0 := C3.out.zf 0
            have q0 := O3.out.c0
            have z1 := C3.out.z 1 (by decide)
            have y1 := C3.out.zf 1
            have q1 := O3.out.c1
            have z2 := C3.out.z 2 (by decide)
            have y2 := C3.out.zf 2
            have q2 := O3.out.c2
            have hnb : n ≠ b := by
              have h1 : n < w1.heap.size := World.block_lt_of_cell? w1 ⟨n, 0, none⟩ (C1.out.z 0 (by decide))
              have := hb1.out
              omega
            go_wp2
            exact bodyPost_ret (v := .tuple #[.agg #[.int .i64 ((k : Int) + 1), .int .i64 K, .int .i64 0], .int .i64 0]) (by simp [results, Tryf.results5, go_sem, z0, z1, z2]) rfl ⟨ret_op EK.out EV.out, by
              rw [HN.out]
              have := B1.out.trans (X3.out.mono (HN.out ▸ B1.out.size))
              exact ((this.setCell (Nat.le_refl _) _).setCell (Nat.le_refl _) _).setCell (Nat.le_refl _) _⟩
        · have p1 : Lib.hasPrefix R0.data.toList [58] = false := by rw [pre_one]; simp [h58]
          by_cases h61 : R0.data.toList.head? = some 61
          · have p2 : Lib.hasPrefix R0.data.toList [61] = true := by rw [pre_one]; simp [h61]
            have s2 : (1 : Int) ≤ (R0.size : Int) := by have := ba_head h61; omega
            obtain ⟨Q1, R2, V, x2, vV, vR2, hR2, d2⟩ := dig_at R0 hR0
            have D2 : Hid _ := d2
            have VV : Hid _ := vV
            have VR2 : Hid _ := vR2
            clear d2 vV vR2
            have EK : Hid ((0 : Int) = kk) := by
              have a := (rKey_txt kk vv h.k0 h.k1).1
              rw [r0t] at h58
              rw [rKey, if_neg h58] at a
              exact a
            have r1t : R0.data.toList = prt 61 vv := by
              have a := (rKey_txt kk vv h.k0 h.k1).2
              have hh := h58
              rw [r0t] at hh
              rw [rKeyRest, if_neg hh] at a
              rw [r0t]; exact a
            have EV : Hid (V = vv) := by
              have a := (rVal_txt vv h.v0 h.v1).1
              have b := VV.out
              have hh := h61
              rw [r1t] at b hh
              rw [rVal, if_pos hh] at a
              exact b.trans a
            have e2 : R2 = ⟨#[]⟩ := by
              have a := (rVal_txt vv h.v0 h.v1).2
              have b := VR2.out
              have hh := h61
              rw [r1t] at b hh
              rw [rValRest, if_pos hh] at a
              rw [b, a]
            have TT : Hid (∀ W : World, F.told.answers W.tape → As W → Calls Tryf.prog 13 #[.agg #[.int .i64 ((k : Int) + 1), .int .i64 0, .int .i64 V]] W fun e w' => e = .returned (.tuple #[.string s, .int .i64 0]) ∧ Below W.heap.size W w') := fun W hF hA => by
              have t := RfText_yes F h W hF hA
              rw [← HS.out, ← EK.out, ← EV.out] at t
              exact t
            clear r1t r0l r0t h58 h61 hsp
            clear VR2 VV
            subst e2
            go_wp2_with fail
            refine (sh_strings_HasPrefix _ _ _).mono ?_
            rintro e wx ⟨rfl, hwx⟩
            rw [hwx]; clear hwx wx
            go_wp2_with fail
            have O0 : Hid (Ob (wr.alloc (.cells #[.int .i64 ((k : Int) + 1), .int .i64 0, .int .i64 0] 23)) wr.heap.size ((k : Int) + 1) 0 0) := Ob.born _ _ _ _ _
            have X0 : Hid (Below w1.heap.size w1 (wr.alloc (.cells #[.int .i64 ((k : Int) + 1), .int .i64 0, .int .i64 0] 23))) := BR.out.alloc BR.out.size _
            have hb1 : Hid (w1.heap.size ≤ wr.heap.size) := BR.out.size
            clear fk
            generalize wr.alloc (.cells #[.int .i64 ((k : Int) + 1), .int .i64 0, .int .i64 0] 23) = v0 at *
            generalize wr.heap.size = b at *
            refine (sh_strings_HasPrefix _ _ _).mono ?_
            rintro e wx ⟨rfl, hwx⟩
            rw [hwx]; clear hwx wx
            go_wp2_with fail
            refine (sh_strings_HasPrefix _ _ _).mono ?_
            rintro e wx ⟨rfl, hwx⟩
            rw [hwx]; clear hwx wx
            go_wp2_with fail
            refine (D2.out _).mono ?_
            rintro e u2 ⟨rfl, hb2⟩
            have Ou2 : Hid _ := O0.out.later hb2
            have Xu2 : Hid (Below w1.heap.size w1 u2) := X0.out.trans (hb2.mono X0.out.size)
            clear hb2 O0 X0
            have q0 := Ou2.out.c0
            have q1 := Ou2.out.c1
            have q2 := Ou2.out.c2
            have g := Ou2.out.f 2
            go_wp2_with fail
            have Ou2s : Hid (Ob (u2.setCell ⟨b, 2, none⟩ (.int .i64 V)) b ((k : Int) + 1) 0 V) := Ou2.out.val V
            have Xu2s : Hid (Below w1.heap.size w1 (u2.setCell ⟨b, 2, none⟩ (.int .i64 V))) := Xu2.out.setCell hb1.out _
            clear q0 q1 q2 g Ou2 Xu2
            generalize u2.setCell ⟨b, 2, none⟩ (.int .i64 V) = vu2 at *
            refine (TT.out _ (Xu2s.out.tape ▸ F1.out) (C1.out.later Xu2s.out).asc).mono ?_
            rintro e u3 ⟨rfl, hb3⟩
            have X3 : Hid (Below w1.heap.size w1 u3) := Xu2s.out.trans (hb3.mono Xu2s.out.size)
            have O3 : Hid _ := Ou2s.out.later hb3
            have C3 : Hid (Cx u3 n fb) := C1.out.later X3.out
            clear hb3 Ou2s Xu2s
            have z0 := C3.out.z 0 (by decide)
            have y0 := C3.out.zf 0
            have q0 := O3.out.c0
            have z1 := C3.out.z 1 (by decide)
            have y1 := C3.out.zf 1
            have q1 := O3.out.c1
            have z2 := C3.out.z 2 (by decide)
            have y2 := C3.out.zf 2
            have q2 := O3.out.c2
            have hnb : n ≠ b := by
              have h1 : n < w1.heap.size := World.block_lt_of_cell? w1 ⟨n, 0, none⟩ (C1.out.z 0 (by decide))
              have := hb1.out
              omega
            go_wp2
            exact bodyPost_ret (v := .tuple #[.agg #[.int .i64 ((k : Int) + 1), .int .i64 0, .int .i64 V], .int .i64 0]) (by simp [results, Tryf.results5, go_sem, z0, z1, z2]) rfl ⟨ret_op EK.out EV.out, by
              rw [HN.out]
              have := B1.out.trans (X3.out.mono (HN.out ▸ B1.out.size))
              exact ((this.setCell (Nat.le_refl _) _).setCell (Nat.le_refl _) _).setCell (Nat.le_refl _) _⟩
          · have p2 : Lib.hasPrefix R0.data.toList [61] = false := by rw [pre_one]; simp [h61]
            have EK : Hid ((0 : Int) = kk) := by
              have a := (rKey_txt kk vv h.k0 h.k1).1
              rw [r0t] at h58
              rw [rKey, if_neg h58] at a
              exact a
            have r1t : R0.data.toList = prt 61 vv := by
              have a := (rKey_txt kk vv h.k0 h.k1).2
              have hh := h58
              rw [r0t] at hh
              rw [rKeyRest, if_neg hh] at a
              rw [r0t]; exact a
            have EV : Hid ((0 : Int) = vv) := by
              have a := (rVal_txt vv h.v0 h.v1).1
              have hh := h61
              rw [r1t] at hh
              rw [rVal, if_neg hh] at a
              exact a
            have e2 : R0 = ⟨#[]⟩ := by
              have a := (rVal_txt vv h.v0 h.v1).2
              have hh := h61
              rw [r1t] at hh
              rw [rValRest, if_neg hh] at a
              exact ba_of (r1t.trans a)
            have TT : Hid (∀ W : World, F.told.answers W.tape → As W → Calls Tryf.prog 13 #[.agg #[.int .i64 ((k : Int) + 1), .int .i64 0, .int .i64 0]] W fun e w' => e = .returned (.tuple #[.string s, .int .i64 0]) ∧ Below W.heap.size W w') := fun W hF hA => by
              have t := RfText_yes F h W hF hA
              rw [← HS.out, ← EK.out, ← EV.out] at t
              exact t
            clear r1t r0l r0t h58 h61 hsp
            subst e2
            have p2e : Lib.hasPrefix [] [61] = false := rfl
            clear p2
            have p1e : Lib.hasPrefix [] [58] = false := rfl
            clear p1
            go_wp2_with fail
            refine (sh_strings_HasPrefix _ _ _).mono ?_
            rintro e wx ⟨rfl, hwx⟩
            rw [hwx]; clear hwx wx
            go_wp2_with fail
            have O0 : Hid (Ob (wr.alloc (.cells #[.int .i64 ((k : Int) + 1), .int .i64 0, .int .i64 0] 23)) wr.heap.size ((k : Int) + 1) 0 0) := Ob.born _ _ _ _ _
            have X0 : Hid (Below w1.heap.size w1 (wr.alloc (.cells #[.int .i64 ((k : Int) + 1), .int .i64 0, .int .i64 0] 23))) := BR.out.alloc BR.out.size _
            have hb1 : Hid (w1.heap.size ≤ wr.heap.size) := BR.out.size
            clear fk
            generalize wr.alloc (.cells #[.int .i64 ((k : Int) + 1), .int .i64 0, .int .i64 0] 23) = v0 at *
            generalize wr.heap.size = b at *
            refine (sh_strings_HasPrefix _ _ _).mono ?_
            rintro e wx ⟨rfl, hwx⟩
            rw [hwx]; clear hwx wx
            go_wp2_with fail
            refine (sh_strings_HasPrefix _ _ _).mono ?_
            rintro e wx ⟨rfl, hwx⟩
            rw [hwx]; clear hwx wx
            have q0 := O0.out.c0
            have q1 := O0.out.c1
            have q2 := O0.out.c2
            go_wp2_with fail
            clear q0 q1 q2
            refine (TT.out _ (X0.out.tape ▸ F1.out) (C1.out.later X0.out).asc).mono ?_
            rintro e u3 ⟨rfl, hb3⟩
            have X3 : Hid (Below w1.heap.size w1 u3) := X0.out.trans (hb3.mono X0.out.size)
            have O3 : Hid _ := O0.out.later hb3
            have C3 : Hid (Cx u3 n fb) := C1.out.later X3.out
            clear hb3 O0 X0
            have z0 := C3.out.z 0 (by decide)
            have y0 := C3.out.zf 0
            have q0 := O3.out.c0
            have z1 := C3.out.z 1 (by decide)
            have y1 := C3.out.zf 1
            have q1 := O3.out.c1
            have z2 := C3.out.z 2 (by decide)
            have y2 := C3.out.zf 2
            have q2 := O3.out.c2
            have hnb : n ≠ b := by
              have h1 : n < w1.heap.size := World.block_lt_of_cell? w1 ⟨n, 0, none⟩ (C1.out.z 0 (by decide))
              have := hb1.out
              omega
            go_wp2
            exact bodyPost_ret (v := .tuple #[.agg #[.int .i64 ((k : Int) + 1), .int .i64 0, .int .i64 0], .int .i64 0]) (by simp [results, Tryf.results5, go_sem, z0, z1, z2]) rfl ⟨ret_op EK.out EV.out, by
              rw [HN.out]
              have := B1.out.trans (X3.out.mono (HN.out ▸ B1.out.size))
              exact ((this.setCell (Nat.le_refl _) _).setCell (Nat.le_refl _) _).setCell (Nat.le_refl _) _⟩
      · have hp' : Lib.hasPrefix s.data.toList (nm ((k : Int) + 1)) = false := by
          cases hpp : Lib.hasPrefix s.data.toList (nm ((k : Int) + 1)) with
          | false => rfl
          | true =>
            have a := pre_split hpp
            rw [HSL.out, txt, List.append_assoc] at a
            have := nm_only (by omega) (by omega) h.w1 h.w6 a.symm
            omega
        go_wp2_with (go_at_call 11; refine (sh_strings_HasPrefix _ _ _).mono ?_; rintro e w' ⟨rfl, rfl⟩)
        go_roundw
        case rel => exact ⟨k + 1, by omega, by go_num, BR.out⟩
        case measure => simp [intOf]; omega
    · omega
end Go.Proofs.YtdohomdhgkhebabFmt
