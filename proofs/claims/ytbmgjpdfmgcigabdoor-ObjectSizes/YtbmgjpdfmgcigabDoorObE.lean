/- Package object: the words of slots. -/
import Derived.Test.YtbmgjpdfmgcigabDoorObA
namespace Go.Proofs.YtbmgjpdfmgcigabDoor.Tab
set_option maxRecDepth 20000
open Go.RowKit

def twp (t : Tb) (i : Nat) : Nat → Nat := fun j => if j < 2 * i then tw t j else 0
theorem twp_zero (t : Tb) : wl (twp t 0) = wl wz := wl_congr fun j _ => by simp [twp, wz]
theorem twp_next (t : Tb) {i : Nat} (hi : i < 8) : wl (upw (upw (twp t i) (2 * i) (t.k i).toNat) (2 * i + 1) (t.v i).toNat) = wl (twp t (i + 1)) := by
  refine wl_congr fun j _ => ?_
  unfold upw twp tw
  by_cases e1 : j = 2 * i + 1
  · subst e1
    rw [if_pos rfl, if_pos (by omega), if_pos (by omega), if_neg (by omega), show (2 * i + 1) / 2 = i by omega]
  · rw [if_neg e1]
    by_cases e0 : j = 2 * i
    · subst e0
      rw [if_pos rfl, if_pos (by omega), if_pos (by omega), if_pos (by omega), show (2 * i) / 2 = i by omega]
    · rw [if_neg e0]
      by_cases h : j < 2 * i
      · have h2 : j < 2 * (i + 1) := by omega
        simp only [h, h2, if_true]
      · have h2 : ¬ j < 2 * (i + 1) := by omega
        simp only [h, h2, if_false]
theorem twp_all (t : Tb) : wl (twp t 8) = wl (tw t) := wl_congr fun j hj => by
  unfold twp
  by_cases h : j < 16
  · rw [if_pos (by omega)]
  · rw [if_neg (by omega)]; unfold tw; rw [if_neg h]

set_option maxHeartbeats 4000000 in
theorem tableWords_is (t : Tb) (hk : ∀ i, i < 8 → 0 ≤ t.k i ∧ t.k i ≤ 4294967295) (hv : ∀ i, i < 8 → 0 ≤ t.v i ∧ t.v i ≤ 4294967295) (w : World) :
    Calls Tryd.prog 59 #[.agg t.all.toArray] w fun e w' => e = .returned (.agg (wl (tw t)).toArray) ∧ Below w.heap.size w w' := by
  obtain ⟨na, ea, hd⟩ := slots_array
  have HD : Hid _ := hd
  clear hd
  obtain ⟨nb, eb, hd⟩ := cells_array
  have HC : Hid _ := hd
  clear hd
  have HS : Hid (∀ t : Tb, (Tryd.prog.info? 92).map (·.size) = some t.all.length) := slots_size
  have HCS : Hid _ := cells_size
  have HCZ : Hid _ := cells_size2
  have HX : Hid (∀ i : Nat, i < 8 → ∀ w, (Instr.index 92 (.agg t.all.toArray) (.int .i64 (i : Nat))).run Tryd.prog w = .ok (.agg #[.int .i64 (t.k i), .int .i64 (t.v i)]) w) := slot_at t
  have HK : Hid _ := hk
  have HV : Hid _ := hv
  clear hk hv
  have G : Hid (Gd w.heap.size w (((w.alloc (.cells t.all.toArray 92)).alloc (.cells #[.int .u64 0, .int .u64 0, .int .u64 0, .int .u64 0, .int .u64 0, .int .u64 0, .int .u64 0, .int .u64 0, .int .u64 0, .int .u64 0, .int .u64 0, .int .u64 0, .int .u64 0, .int .u64 0, .int .u64 0, .int .u64 0, .int .u64 0] 24)).alloc (.cells #[.int .u64 0, .int .u64 0, .int .u64 0, .int .u64 0, .int .u64 0, .int .u64 0, .int .u64 0, .int .u64 0, .int .u64 0, .int .u64 0, .int .u64 0, .int .u64 0, .int .u64 0, .int .u64 0, .int .u64 0, .int .u64 0, .int .u64 0] 24))) := (((Gd.refl w).new _).new _).new _
  have T : Hid (TAt (((w.alloc (.cells t.all.toArray 92)).alloc (.cells #[.int .u64 0, .int .u64 0, .int .u64 0, .int .u64 0, .int .u64 0, .int .u64 0, .int .u64 0, .int .u64 0, .int .u64 0, .int .u64 0, .int .u64 0, .int .u64 0, .int .u64 0, .int .u64 0, .int .u64 0, .int .u64 0, .int .u64 0] 24)).alloc (.cells #[.int .u64 0, .int .u64 0, .int .u64 0, .int .u64 0, .int .u64 0, .int .u64 0, .int .u64 0, .int .u64 0, .int .u64 0, .int .u64 0, .int .u64 0, .int .u64 0, .int .u64 0, .int .u64 0, .int .u64 0, .int .u64 0, .int .u64 0] 24)) w.heap.size t) := ((TAt.born w t _).new _).new _
  have R : Hid (Bo (((w.alloc (.cells t.all.toArray 92)).alloc (.cells #[.int .u64 0, .int .u64 0, .int .u64 0, .int .u64 0, .int .u64 0, .int .u64 0, .int .u64 0, .int .u64 0, .int .u64 0, .int .u64 0, .int .u64 0, .int .u64 0, .int .u64 0, .int .u64 0, .int .u64 0, .int .u64 0, .int .u64 0] 24)).alloc (.cells #[.int .u64 0, .int .u64 0, .int .u64 0, .int .u64 0, .int .u64 0, .int .u64 0, .int .u64 0, .int .u64 0, .int .u64 0, .int .u64 0, .int .u64 0, .int .u64 0, .int .u64 0, .int .u64 0, .int .u64 0, .int .u64 0, .int .u64 0] 24)) (w.heap.size + 1) (wl wz)) := (Bo.born _ (wl wz) _ (by simp)).new _
  have L : Hid (Bo (((w.alloc (.cells t.all.toArray 92)).alloc (.cells #[.int .u64 0, .int .u64 0, .int .u64 0, .int .u64 0, .int .u64 0, .int .u64 0, .int .u64 0, .int .u64 0, .int .u64 0, .int .u64 0, .int .u64 0, .int .u64 0, .int .u64 0, .int .u64 0, .int .u64 0, .int .u64 0, .int .u64 0] 24)).alloc (.cells #[.int .u64 0, .int .u64 0, .int .u64 0, .int .u64 0, .int .u64 0, .int .u64 0, .int .u64 0, .int .u64 0, .int .u64 0, .int .u64 0, .int .u64 0, .int .u64 0, .int .u64 0, .int .u64 0, .int .u64 0, .int .u64 0, .int .u64 0] 24)) (w.heap.size + 2) (wl (twp t 0))) := by rw [twp_zero]; exact Bo.born _ (wl wz) _ (by simp)
  have NX : Hid _ := @twp_next t
  have AL : Hid _ := twp_all t
  obtain ⟨cs, hcs⟩ : ∃ cs, cs = t.all := ⟨_, rfl⟩
  have RG : Hid _ := T.out.range
  rw [← hcs] at RG HX G R L ⊢
  have HS1 : Hid ((Tryd.prog.info? 92).map (·.size) = some cs.length) := by rw [hcs]; exact HS.out t
  clear T hcs HS
  go_enter Tryd.func59, Tryd.ntmps59
  go_wp2_with (refine wpList_load_mid rfl 92 _ rfl w.heap.size _ rfl cs _ RG.out HD.out rfl HS1.out ?_)
  generalize World.alloc _ _ = W at G R L RG ⊢
  generalize hsz : w.heap.size = n at G R L RG ⊢
  have HSZ : Hid (w.heap.size = n) := hsz
  clear hsz RG
  go_loopg [7] 8 (fun gg s7 wt => ∃ i : Nat, i ≤ 8 ∧ 8 - i ≤ gg ∧ s7 = .int .i64 i ∧ Hid (Bo wt (n + 1) (wl wz)) ∧ Hid (Bo wt (n + 2) (wl (twp t i))) ∧ Hid (Gd n w wt))
  case atStart => exact ⟨0, by omega, by omega, rfl, R, L, G⟩
  case round =>
    clear R L G
    obtain ⟨i, hi, hgg, rfl, R, L, G⟩ := hrel
    by_cases hlt : i < 8
    · have hx := HX.out i hlt
      have k0 := HK.out i hlt
      have v0 := HV.out i hlt
      have nx := NX.out hlt
      generalize t.k i = x at hx k0 nx
      generalize t.v i = y at hx v0 nx
      obtain ⟨a, rfl⟩ : ∃ a : Nat, (a : Int) = x := ⟨x.toNat, by omega⟩
      obtain ⟨b, rfl⟩ : ∃ b : Nat, (b : Int) = y := ⟨y.toNat, by omega⟩
      rw [Int.toNat_natCast, Int.toNat_natCast] at nx
      have NX1 : Hid _ := nx
      clear nx
      have ex1 : IntKind.u64.wrap (a : Int) = a := by rw [IntKind.wrap_u64]; omega
      have ey1 : IntKind.u64.wrap (b : Int) = b := by rw [IntKind.wrap_u64]; omega
      have i1 : (i : Int) < 8 := by omega
      have i0 : (0 : Int) ≤ (i : Int) := by omega
      have i2 : 2 * (i : Int) < 17 := by omega
      have i3 : 2 * (i : Int) + 1 < 17 := by omega
      have i4 : (0 : Int) ≤ 2 * (i : Int) := by omega
      have i5 : (0 : Int) ≤ 2 * (i : Int) + 1 := by omega
      have ls : n + 2 < wr.heap.size := L.out.lt
      have R1 : Hid (Bo (wr.alloc (.cells #[.int .i64 a, .int .i64 b] 90)) (n + 1) (wl wz)) := R.out.new _
      have L1 : Hid (Bo (wr.alloc (.cells #[.int .i64 a, .int .i64 b] 90)) (n + 2) (wl (twp t i))) := L.out.new _
      have G1 : Hid (Gd n w (wr.alloc (.cells #[.int .i64 a, .int .i64 b] 90))) := G.out.new _
      have S1 : Hid (Bo (wr.alloc (.cells #[.int .i64 a, .int .i64 b] 90)) wr.heap.size [.int .i64 a, .int .i64 b]) := Bo.born wr [.int .i64 a, .int .i64 b] _ rfl
      clear R L G k0 v0
      go_wp2_with fail
      generalize wr.alloc (.cells #[.int .i64 a, .int .i64 b] 90) = V at R1 L1 G1 S1 ⊢
      have c0 := L1.out.word (show 2 * i < 17 by omega)
      have c1 := L1.out.word (show 2 * i + 1 < 17 by omega)
      have f0 := L1.out.froz (2 * i)
      have f1 := L1.out.froz (2 * i + 1)
      have s0 := S1.out.at 0 rfl
      have s1 := S1.out.at 1 rfl
      have ne : wr.heap.size ≠ n + 2 := by omega
      generalize wr.heap.size = q at S1 s0 s1 ne ⊢
      go_region
      all_goals go_wp2
      all_goals go_roundg (8 - (i + 1))
      case measure => omega
      case rel => exact ⟨i + 1, by omega, by omega, by go_num, (R1.out.drew.aside (show n + 1 ≠ n + 2 by omega) _).aside (show n + 1 ≠ n + 2 by omega) _, by rw [← NX1.out]; exact (L1.out.drew.setw a (by omega)).setw b (by omega), (G1.out.drew.aside (show n ≤ n + 2 by omega) _).aside (show n ≤ n + 2 by omega) _⟩
    · have ei : i = 8 := by omega
      subst ei
      rw [AL.out] at L
      clear hlt
      go_wp2_with (first
        | (refine wpList_load_mid rfl 24 _ rfl (n + 2) _ rfl (wl (tw t)) _ L.out.range HC.out rfl (HCS.out (tw t)) ?_)
        | (refine wpList_store_mid rfl 24 _ _ rfl (n + 1) _ (wl (tw t)).toArray rfl rfl (R.out.thereW (tw t)) (HCZ.out (tw t)) (wl_all (tw t)) ?_
           have R1 : Hid (Bo (wr.setCells (n + 1) 0 (wl (tw t))) (n + 1) (wl (tw t))) := R.out.setW (tw t)
           have G1 : Hid (Gd n w (wr.setCells (n + 1) 0 (wl (tw t)))) := G.out.asideL (by omega) _ _
           clear R G L
           generalize wr.setCells (n + 1) 0 (wl (tw t)) = V at R1 G1 ⊢))
      exact bodyPost_ret (results_row Tryd.results59 _ _ (n + 1) (wl (tw t)) _ rfl R1.out.range HC.out rfl (HCS.out (tw t))) rfl ⟨rfl, G1.out.2⟩
end Go.Proofs.YtbmgjpdfmgcigabDoor.Tab
