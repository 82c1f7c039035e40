/- Package table: free, home. -/
import Derived.Test.YtbmgjpdfmgcigabDoorRows
import Derived.Test.YtbmgjpdfmgcigabDoorTm
import Derived.Deep.LoopGhost
import Derived.Deep.QuietTactic
import Derived.Deep.RegionHeld3
import Derived.BigQuiet
import Derived.Deep.RegionWith
namespace Go.Proofs.YtbmgjpdfmgcigabDoor.Tab
set_option maxRecDepth 20000
open Go.RowKit

theorem free_is (k v : Int) (w : World) :
    Calls Tryd.prog 64 #[.agg #[.int .i64 k, .int .i64 v]] w fun e w' => e = .returned (.bool (k == 0)) ∧ Below w.heap.size w w' := by
  go_enter Tryd.func64, Tryd.ntmps64
  go_wp2
  go_ret
  exact ⟨rfl, new_below _ _⟩

theorem home_eq (k : Int) : wrap64 ((IntKind.u64.wrap (5 * IntKind.u64.wrap k)).tmod 8) = (home k : Nat) := by
  rw [IntKind.wrap_u64, IntKind.wrap_u64, Int.tmod_eq_emod_of_nonneg (by omega)]
  have e : 5 * (k % 18446744073709551616) % 18446744073709551616 % 8 = 5 * k % 8 := by omega
  rw [e]
  unfold wrap64 home
  omega
theorem home_is (k : Int) (w : World) :
    Calls Tryd.prog 78 #[.int .i64 k] w fun e w' => e = .returned (.int .i64 (home k : Nat)) ∧ w' = w := by
  go_enter Tryd.func78, Tryd.ntmps78
  go_wp2
  go_ret
  exact ⟨congrArg (fun x => Ending.returned (.int .i64 x)) (home_eq k), rfl⟩

/-- What place tells. -/
def Placed (t : Tb) (k : Int) (w : World) (e : Ending) (w' : World) : Prop := e = .returned (.tuple #[.int .i64 (place t k : Nat), .bool (t.k (place t k) == k)]) ∧ Below w.heap.size w w'

set_option maxHeartbeats 1000000 in
theorem place_eq (t : Tb) (k : Int) (w : World) : Calls Tryd.prog 70 #[.agg t.all.toArray, .int .i64 k] w (Placed t k w) := by
  have T0 : Hid (TAt (w.alloc (.cells t.all.toArray 92)) w.heap.size t) := TAt.born w t _
  have B0 : Hid (Below w.heap.size w (w.alloc (.cells t.all.toArray 92))) := new_below w _
  have hh := home_lt k
  have HM := home_is k
  have P : Hid (plF t k 7 0 = place t k) := rfl
  have RA : Hid (∀ i, rowAt k i = (home k + i) % 8) := fun _ => rfl
  generalize home k = h at *
  go_enter Tryd.func70, Tryd.ntmps70
  go_wp2_with fail
  generalize w.alloc (.cells t.all.toArray 92) = W at T0 B0 ⊢
  generalize hb : w.heap.size = b at T0 ⊢
  have HB : Hid (w.heap.size = b) := hb
  clear hb
  go_loopg [4, 7] 8 (fun gg s4 s7 wt => Hid (TAt wt b t) ∧ Hid (Below w.heap.size w wt) ∧ ∃ i : Nat, i ≤ 8 ∧ 8 - i ≤ gg ∧ s7 = .int .i64 i ∧ Hid ((i < 8 ∧ plF t k (7 - i) i = place t k) ∨ (i = 8 ∧ s4 = .int .i64 (place t k : Nat) ∧ ¬ Hit t k (place t k))))
  case atStart => exact ⟨T0, B0, 0, by omega, by omega, rfl, Or.inl ⟨by omega, P.out⟩⟩
  case round =>
    obtain ⟨T, B, i, hi, hgg, rfl, D⟩ := hrel
    by_cases hlt : i < 8
    · clear T0 B0
      go_wp2_with fail
      refine (HM wr).mono ?_
      rintro e w1 ⟨rfl, rfl⟩
      obtain ⟨p, hpe⟩ : ∃ p, p = (h + i) % 8 := ⟨_, rfl⟩
      have ep : ((h : Int) + (i : Int)) % 8 = (p : Int) := by omega
      have hp : p < 8 := by omega
      have hp1 : (p : Int) < 8 := by omega
      have hp0 : (0 : Int) ≤ (p : Int) := by omega
      have EP : Hid (rowAt k i = p) := (RA.out i).trans hpe.symm
      have g0 := T.out.key hp
      have g1 := T.out.val hp
      obtain ⟨x, hx⟩ : ∃ x, t.k p = x := ⟨_, rfl⟩
      have X : Hid (t.k p = x) := hx
      rw [hx] at g0
      generalize t.v p = y at g1
      clear hpe hx
      have D' : Hid (plF t k (7 - i) i = place t k) := by
        rcases D.out with d | d
        · exact d.2
        · exact absurd d.1 (by omega)
      clear D
      by_cases hk : x = k
      · have m1 : (x == k) = true := by simp [hk]
        have PL : Hid (place t k = p ∧ (t.k (place t k) == k) = true) := by
          have : place t k = p := by
            rw [← D'.out, ← EP.out]
            cases hn : 7 - i with
            | zero => rfl
            | succ n => rw [plF, if_pos (show Hit t k (rowAt k i) from Or.inl (by rw [EP.out, X.out, hk]))]
          exact ⟨this, by rw [this, X.out]; exact m1⟩
        clear hk
        go_wp2_with fail
        go_region
        all_goals go_wp2
        refine bodyPost_ret (v := .tuple #[.int .i64 (p : Nat), .bool true]) (by simp [results, Tryd.results70, go_sem, ep]) rfl ⟨?_, B.out.drew⟩
        rw [PL.out.2, PL.out.1]
      · have m1 : (x == k) = false := by simp [hk]
        by_cases h0 : x = 0
        · have m0 : (x == 0) = true := by simp [h0]
          have PL : Hid (place t k = p ∧ (t.k (place t k) == k) = false) := by
            have : place t k = p := by
              rw [← D'.out, ← EP.out]
              cases hn : 7 - i with
              | zero => rfl
              | succ n => rw [plF, if_pos (show Hit t k (rowAt k i) from Or.inr (by rw [EP.out, X.out, h0]))]
            exact ⟨this, by rw [this, X.out]; exact m1⟩
          clear hk h0
          go_wp2_with fail
          refine (free_is x y _).mono ?_
          rintro e w2 ⟨rfl, hb2⟩
          have B2 : Hid (Below w.heap.size w w2) := B.out.trans (hb2.mono B.out.size)
          have T2 : Hid (TAt w2 b t) := T.out.later hb2
          have g2 := T2.out.key hp
          rw [X.out] at g2
          clear hb2 g0 g1 T B
          go_wp2_with fail
          go_region
          all_goals go_wp2
          refine bodyPost_ret (v := .tuple #[.int .i64 (p : Nat), .bool false]) (by simp [results, Tryd.results70, go_sem]) rfl ⟨?_, B2.out.drew⟩
          rw [PL.out.2, PL.out.1]
        · have m0 : (x == 0) = false := by simp [h0]
          have NH : Hid (¬ Hit t k (rowAt k i)) := by
            rw [EP.out]; unfold Hit; rw [X.out]
            rintro (e | e)
            · exact hk e
            · exact h0 e
          clear hk h0
          go_wp2_with fail
          refine (free_is x y _).mono ?_
          rintro e w2 ⟨rfl, hb2⟩
          have B2 : Hid (Below w.heap.size w w2) := B.out.trans (hb2.mono B.out.size)
          have T2 : Hid (TAt w2 b t) := T.out.later hb2
          clear hb2 g0 g1 T B
          go_wp2
          go_roundg (8 - (i + 1))
          case measure => omega
          case rel =>
            refine ⟨T2, B2, i + 1, by omega, by omega, by go_num, ?_⟩
            by_cases h7 : i = 7
            · subst h7
              have hpl : place t k = rowAt k 7 := D'.out.symm
              exact Or.inr ⟨rfl, by rw [hpl, EP.out], by rw [hpl]; exact NH.out⟩
            · refine Or.inl ⟨by omega, ?_⟩
              have e7 : 7 - i = (7 - (i + 1)) + 1 := by omega
              have := D'.out
              rw [e7, plF, if_neg NH.out] at this
              exact this
    · obtain rfl : i = 8 := by omega
      have D' : u4 = .int .i64 (place t k : Nat) ∧ Hid (¬ Hit t k (place t k)) := by
        rcases D.out with d | d
        · exact absurd d.1 (by omega)
        · exact ⟨d.2.1, d.2.2⟩
      obtain ⟨rfl, NH⟩ := D'
      clear D
      go_wp2
      refine bodyPost_ret (v := .tuple #[.int .i64 (place t k : Nat), .bool false]) (by simp [results, Tryd.results70, go_sem]) rfl ⟨?_, B.out⟩
      have : (t.k (place t k) == k) = false := by
        have := NH.out
        unfold Hit at this
        simp only [beq_eq_false_iff_ne]
        exact fun e => this (Or.inl e)
      rw [this]
end Go.Proofs.YtbmgjpdfmgcigabDoor.Tab
