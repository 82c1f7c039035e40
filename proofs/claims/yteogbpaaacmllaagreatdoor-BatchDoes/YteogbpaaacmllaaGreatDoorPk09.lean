/- Texts laid together: The reference's place, by its contract; The reference's Table, by its contract: of a table; The reference's tally, by its contract; The reference's Thing.Do, by its contract: of a queue, a stack, a deque, a heap, a table, a tally; What a row of one's own looks like; The reference's append of lists, said and within. -/
import Derived.Test.YteogbpaaacmllaaGreatDoorPk07
import Derived.Test.YteogbpaaacmllaaGreatDoorPk08
import Derived.Test.YteogbpaaacmllaaGreatDoorPk01
import Derived.Test.YteogbpaaacmllaaGreatDoorPk03
import Derived.Deep.RegionWith
import Derived.Test.YteogbpaaacmllaaGreatDoorPk02
import Derived.Deep.RegionLawGrows
import Derived.Deep.AppendSrc
namespace Go.Proofs.YteogbpaaacmllaaGreatDoor.Tab
set_option maxRecDepth 20000
open Go.RowKit

set_option maxHeartbeats 1000000 in
theorem RPlace_is (t : Tb) (k : Int) (h0 : 0 ≤ k) (h1 : k ≤ 1000) (hf : ∃ p, p < 8 ∧ t.k p = 0) (w : World) :
    Calls Tryz.prog 99 #[.agg t.all.toArray, .int .i64 k] w fun e w' => e = .returned (.int .i64 (place t k : Nat)) ∧ Below w.heap.size w w' := by
  have T0 : Hid (TAt (w.alloc (.cells t.all.toArray 70)) w.heap.size t) := TAt.born w t _
  have B0 : Hid (Gd w.heap.size w (w.alloc (.cells t.all.toArray 70))) := (Gd.refl w).new _
  have HH : Hid (Hit t k (place t k)) := by
    obtain ⟨p, hp, e⟩ := hf
    exact place_hit t k hp (Or.inr e)
  have P : Hid (plF t k 7 0 = place t k) := rfl
  clear hf
  have RW := row_is k h0 h1
  go_enter Tryz.func99, Tryz.ntmps99
  go_wp2_with fail
  refine (RW _).mono ?_
  rintro e W ⟨v, rfl, hi, hb⟩
  obtain ⟨b, off, c, rfl, hcell⟩ := rowL_isL hi
  have T1 : Hid (TAt W w.heap.size t) := T0.out.later hb
  have G1 : Hid (Gd w.heap.size w W) := B0.out.later hb
  have C : Hid (∀ i, i < 8 → W.cell? ⟨b, off + i, none⟩ = some (.int .i64 (rowAt k i : Nat))) := hcell
  clear hi hb hcell T0 B0 RW
  generalize w.heap.size = n at T1 G1 ⊢
  go_wp2_with fail
  go_loopg [10] 8 (fun gg s10 wt => W = wt ∧ ∃ i : Nat, i < 8 ∧ 8 - i ≤ gg ∧ s10 = .int .i64 i ∧ Hid (plF t k (7 - i) i = place t k))
  case atStart => exact ⟨rfl, 0, by omega, by omega, rfl, P⟩
  case round =>
    obtain ⟨rfl, i, hlt, hgg, rfl, D⟩ := hrel
    have c0 := C.out i hlt
    have hp := rowAt_lt k i
    obtain ⟨p, hpe⟩ : ∃ p, rowAt k i = p := ⟨_, rfl⟩
    have EP : Hid (rowAt k i = p) := hpe
    rw [hpe] at c0 hp
    clear hpe
    have hi1 : (i : Int) < 8 := by omega
    have hi0 : (0 : Int) ≤ (i : Int) := by omega
    have hp1 : (p : Int) < 8 := by omega
    have hp0 : (0 : Int) ≤ (p : Int) := by omega
    have c1 := T1.out.key hp
    obtain ⟨x, hx⟩ : ∃ x, t.k p = x := ⟨_, rfl⟩
    have X : Hid (t.k p = x) := hx
    rw [hx] at c1
    clear hx
    by_cases hh : x = k ∨ x = 0
    · have PL : Hid (place t k = p) := by
        show place t k = p
        rw [← D.out, ← EP.out]
        cases hn : 7 - i with
        | zero => rfl
        | succ m => rw [plF, if_pos (show Hit t k (rowAt k i) by unfold Hit; rw [EP.out, X.out]; exact hh)]
      by_cases hk : x = k
      · have m1 : (x == k) = true := by simp [hk]
        clear hh hk
        go_wp2
        go_ret
        exact ⟨by rw [PL.out]; rfl, G1.out.2⟩
      · have h0' : x = 0 := hh.resolve_left hk
        have m1 : (x == k) = false := by simp [hk]
        have m0 : (x == 0) = true := by simp [h0']
        clear hh hk h0'
        go_wp2
        go_ret
        exact ⟨by rw [PL.out]; rfl, G1.out.2⟩
    · have NH : ¬ Hit t k (rowAt k i) := by unfold Hit; rw [EP.out, X.out]; exact hh
      have m1 : (x == k) = false := by simp; exact fun e => hh (Or.inl e)
      have m0 : (x == 0) = false := by simp; exact fun e => hh (Or.inr e)
      have h7 : i ≠ 7 := by
        intro e
        subst e
        have : place t k = rowAt k 7 := D.out.symm
        have := HH.out
        rw [‹place t k = rowAt k 7›] at this
        exact NH this
      have D' : Hid (plF t k (7 - (i + 1)) (i + 1) = place t k) := by
        have := D.out
        rw [show 7 - i = (7 - (i + 1)) + 1 by omega, plF, if_neg NH] at this
        exact this
      clear hh NH
      go_wp2
      go_roundg (8 - (i + 1))
      case measure => omega
      case rel => exact ⟨rfl, i + 1, by omega, by omega, by go_num, D'⟩
end Go.Proofs.YteogbpaaacmllaaGreatDoor.Tab
namespace Go.Proofs.YteogbpaaacmllaaGreatDoor.Tab
set_option maxRecDepth 20000
open Go.RowKit

theorem own_bo {B : Nat} {w : World} {a : Option Addr} {c m : Nat} {xs : List Int} (h : Own B w (.slice a m c) xs) (h0 : 0 < xs.length) : ∃ g, a = some ⟨g, 0, none⟩ ∧ B ≤ g ∧ Bo w g (xs.map (Value.int .i64)) := by
  have h' := h
  unfold Own at h'
  rcases h.2 with ⟨_, h1⟩ | ⟨g, cap, cur, hv, hb, _⟩
  · omega
  · injection hv with h1 h2 h3
    subst h1 h2 h3
    refine ⟨g, rfl, hb, fun j v hv => ?_, fun j => h'.frozenAt _, (World.ownsRow.lt h' g rfl).2⟩
    have hj : j < xs.length := by simpa using (List.getElem?_eq_some_iff.1 hv).1
    rw [h'.cellAt j (by omega), hv]

/-- The first c slots behind slot p. -/
def bh (p c : Nat) : List Int := (List.range c).map fun j => (((p + (j + 1)) % 8 : Nat) : Int)
theorem bh_len (p c : Nat) : (bh p c).length = c := by simp [bh]
theorem bh_succ (p c : Nat) : bh p (c + 1) = bh p c ++ [(((p + (c + 1)) % 8 : Nat) : Int)] := by simp [bh, List.range_succ]
theorem bh_at (p : Nat) {c m : Nat} (h : m < c) : ((bh p c).map (Value.int .i64))[m]? = some (.int .i64 (((p + (m + 1)) % 8 : Nat) : Int)) := by simp [bh, h]

set_option maxHeartbeats 2000000 in
theorem rT_count (t : Tb) (k x : Int) (w : World) :
    Calls Tryz.prog 80 #[.agg t.all.toArray, .agg #[.int .i64 6, .int .i64 k, .int .i64 x]] w (Told w (t, 1, (len t : Int))) := by
  have L := RLen_is t
  have SA := said_is 1 (len t : Nat)
  have hM : Hid _ := (((((Ms.nil w).born t.all 70 (b := w.heap.size) rfl).born [.int .i64 6, .int .i64 k, .int .i64 x] 44 (b := w.heap.size + 1) (by simp)).bornR Tb.zero_all.symm 70 (b := w.heap.size + 2) (by simp)).born [.int .i64 0, .int .i64 0] 58 (b := w.heap.size + 3) (by simp))
  have c1 := hM.out.cell 2 0 rfl rfl
  have c2 := hM.out.cell 2 1 rfl rfl
  have c3 := hM.out.cell 2 2 rfl rfl
  go_enter Tryz.func80, Tryz.ntmps80
  go_wp2_with fail
  clear c1 c2 c3
  generalize World.alloc _ _ = W at hM ⊢
  generalize hsz : w.heap.size = n at hM ⊢
  clear hsz
  replace hM := hid (hM.out.drew)
  refine wp_region_held_drew (S := fun w' => Bo w' n t.all) (by kernel_rfl) (hM.out.at 3 rfl) (fun hH => ?_)
  generalize World.drew _ = W at hM hH  ⊢
  refine tkR 0 rfl hH (fun _ h => h) (rwRS t) ?_
  simp only [Act.put, p1, p2, p3]
  refine tkR 1 rfl hH (fun _ h => h) (rwRS t) ?_
  simp only [Act.put, p1, p2, p3]
  refine rd1 2 rfl (fun K hK => ?_)
  go_simp
  refine (L _).mono ?_
  rintro e W ⟨rfl, hb⟩
  replace hM := hid (hM.out.later hb)
  clear hb
  go_wp2_with fail
  refine hK.out _ _ (hM.out.at 3 rfl) (fun hH => ?_)
  clear hK K
  try simp only [Act.put, p1, p2, p3]
  refine rd1 3 rfl (fun K hK => ?_)
  go_simp
  refine (SA _).mono ?_
  rintro e W ⟨rfl, hb⟩
  replace hM := hid (hM.out.later hb)
  clear hb
  go_wp2_with fail
  refine hK.out _ _ (hM.out.at 3 rfl) (fun hH => ?_)
  clear hK K
  try simp only [Act.put, p1, p2, p3]
  refine rd1 4 rfl (fun K hK => ?_)
  refine stR rfl (hM.out.at 1 rfl) ((rwRS Tb.zero).len (rwRS t)) (rwRS t) ?_
  simp only [Act.put]
  replace hM := hid (hM.out.put 1 rfl t.all ((rwRS Tb.zero).len (rwRS t)))
  refine hK.out _ _ (hM.out.at 3 rfl) (fun hH => ?_)
  clear hK K
  generalize World.setCells _ _ _ _ = W at hM hH ⊢
  try simp only [Act.put, p1, p2, p3]
  refine rd1 5 rfl (fun K hK => ?_)
  refine stR rfl (hM.out.at 0 rfl) ((rwA 0 0).len (rwA _ _)) (rwA _ _) ?_
  simp only [Act.put]
  replace hM := hid (hM.out.put 0 rfl [.int .i64 1, .int .i64 (len t : Nat)] ((rwA 0 0).len (rwA _ _)))
  refine hK.out _ _ (hM.out.at 3 rfl) (fun hH => ?_)
  clear hK K
  generalize World.setCells _ _ _ _ = W at hM hH ⊢
  try simp only [Act.put, p1, p2, p3]
  refine wpAnyH_done (by kernel_rfl) ?_ _
  go_wp2
  exact bodyPost_ret (res2 Tryz.results80 (hM.out.at 1 rfl) (rwRS t) (hM.out.at 0 rfl) (rwA _ _)) rfl ⟨rfl, hM.out.below⟩

set_option maxHeartbeats 2000000 in
theorem rT_wrong1 (t : Tb) (o k x : Int) (h6 : o ≠ 6) (h : o < 1 ∨ 6 < o) (w : World) :
    Calls Tryz.prog 80 #[.agg t.all.toArray, .agg #[.int .i64 o, .int .i64 k, .int .i64 x]] w (Told w (t, 5, 0)) := by
  have m6 : (o == 6) = false := by simp [h6]
  have W1 := rwithin_no o 1 6
  have H1 : Hid _ := h
  clear h6 h
  have hM : Hid _ := (((((Ms.nil w).born t.all 70 (b := w.heap.size) rfl).born [.int .i64 o, .int .i64 k, .int .i64 x] 44 (b := w.heap.size + 1) (by simp)).bornR Tb.zero_all.symm 70 (b := w.heap.size + 2) (by simp)).born [.int .i64 0, .int .i64 0] 58 (b := w.heap.size + 3) (by simp))
  have c1 := hM.out.cell 2 0 rfl rfl
  have c2 := hM.out.cell 2 1 rfl rfl
  have c3 := hM.out.cell 2 2 rfl rfl
  go_enter Tryz.func80, Tryz.ntmps80
  go_wp2_with fail
  clear c1 c2 c3
  generalize World.alloc _ _ = W at hM ⊢
  generalize hsz : w.heap.size = n at hM ⊢
  clear hsz
  have c4 := hM.out.cell 2 0 rfl rfl
  have c5 := hM.out.cell 2 1 rfl rfl
  refine (W1 _ H1.out).mono ?_
  rintro e ux ⟨rfl, hw⟩
  rw [hw]; clear hw ux
  go_wp2_with fail
  clear c4 c5
  have SA := said_is (5) (0)
  replace hM := hid (hM.out.drew)
  refine wp_region_held_drew (S := fun w' => Bo w' n t.all) (by kernel_rfl) (hM.out.at 3 rfl) (fun hH => ?_)
  generalize World.drew _ = W at hM hH  ⊢
  refine tkR 0 rfl hH (fun _ h => h) (rwRS t) ?_
  simp only [Act.put, p1, p2, p3]
  refine rd1 1 rfl (fun K hK => ?_)
  go_simp
  refine (SA _).mono ?_
  rintro e W ⟨rfl, hb⟩
  replace hM := hid (hM.out.later hb)
  clear hb
  go_wp2_with fail
  refine hK.out _ _ (hM.out.at 3 rfl) (fun hH => ?_)
  clear hK K
  try simp only [Act.put, p1, p2, p3]
  refine rd1 2 rfl (fun K hK => ?_)
  refine stR rfl (hM.out.at 1 rfl) ((rwRS Tb.zero).len (rwRS t)) (rwRS t) ?_
  simp only [Act.put]
  replace hM := hid (hM.out.put 1 rfl t.all ((rwRS Tb.zero).len (rwRS t)))
  refine hK.out _ _ (hM.out.at 3 rfl) (fun hH => ?_)
  clear hK K
  generalize World.setCells _ _ _ _ = W at hM hH ⊢
  try simp only [Act.put, p1, p2, p3]
  refine rd1 3 rfl (fun K hK => ?_)
  refine stR rfl (hM.out.at 0 rfl) ((rwA 0 0).len (rwA _ _)) (rwA _ _) ?_
  simp only [Act.put]
  replace hM := hid (hM.out.put 0 rfl [.int .i64 (5), .int .i64 (0)] ((rwA 0 0).len (rwA _ _)))
  refine hK.out _ _ (hM.out.at 3 rfl) (fun hH => ?_)
  clear hK K
  generalize World.setCells _ _ _ _ = W at hM hH ⊢
  try simp only [Act.put, p1, p2, p3]
  refine wpAnyH_done (by kernel_rfl) ?_ _
  go_wp2
  exact bodyPost_ret (res2 Tryz.results80 (hM.out.at 1 rfl) (rwRS t) (hM.out.at 0 rfl) (rwA _ _)) rfl ⟨rfl, hM.out.below⟩

set_option maxHeartbeats 2000000 in
theorem rT_wrong3 (t : Tb) (k x : Int) (w : World) :
    Calls Tryz.prog 80 #[.agg t.all.toArray, .agg #[.int .i64 3, .int .i64 k, .int .i64 x]] w (Told w (t, 5, 0)) := by
  have W1 := rwithin_yes 3 1 6
  have hM : Hid _ := (((((Ms.nil w).born t.all 70 (b := w.heap.size) rfl).born [.int .i64 3, .int .i64 k, .int .i64 x] 44 (b := w.heap.size + 1) (by simp)).bornR Tb.zero_all.symm 70 (b := w.heap.size + 2) (by simp)).born [.int .i64 0, .int .i64 0] 58 (b := w.heap.size + 3) (by simp))
  have c1 := hM.out.cell 2 0 rfl rfl
  have c2 := hM.out.cell 2 1 rfl rfl
  have c3 := hM.out.cell 2 2 rfl rfl
  go_enter Tryz.func80, Tryz.ntmps80
  go_wp2_with fail
  clear c1 c2 c3
  generalize World.alloc _ _ = W at hM ⊢
  generalize hsz : w.heap.size = n at hM ⊢
  clear hsz
  have c4 := hM.out.cell 2 0 rfl rfl
  have c5 := hM.out.cell 2 1 rfl rfl
  refine (W1 _ (by decide) (by decide)).mono ?_
  rintro e ux ⟨rfl, hw⟩
  rw [hw]; clear hw ux
  go_wp2_with fail
  clear c4 c5
  have SA := said_is (5) (0)
  replace hM := hid (hM.out.drew)
  refine wp_region_held_drew (S := fun w' => Bo w' n t.all) (by kernel_rfl) (hM.out.at 3 rfl) (fun hH => ?_)
  generalize World.drew _ = W at hM hH  ⊢
  refine tkR 0 rfl hH (fun _ h => h) (rwRS t) ?_
  simp only [Act.put, p1, p2, p3]
  refine rd1 1 rfl (fun K hK => ?_)
  go_simp
  refine (SA _).mono ?_
  rintro e W ⟨rfl, hb⟩
  replace hM := hid (hM.out.later hb)
  clear hb
  go_wp2_with fail
  refine hK.out _ _ (hM.out.at 3 rfl) (fun hH => ?_)
  clear hK K
  try simp only [Act.put, p1, p2, p3]
  refine rd1 2 rfl (fun K hK => ?_)
  refine stR rfl (hM.out.at 1 rfl) ((rwRS Tb.zero).len (rwRS t)) (rwRS t) ?_
  simp only [Act.put]
  replace hM := hid (hM.out.put 1 rfl t.all ((rwRS Tb.zero).len (rwRS t)))
  refine hK.out _ _ (hM.out.at 3 rfl) (fun hH => ?_)
  clear hK K
  generalize World.setCells _ _ _ _ = W at hM hH ⊢
  try simp only [Act.put, p1, p2, p3]
  refine rd1 3 rfl (fun K hK => ?_)
  refine stR rfl (hM.out.at 0 rfl) ((rwA 0 0).len (rwA _ _)) (rwA _ _) ?_
  simp only [Act.put]
  replace hM := hid (hM.out.put 0 rfl [.int .i64 (5), .int .i64 (0)] ((rwA 0 0).len (rwA _ _)))
  refine hK.out _ _ (hM.out.at 3 rfl) (fun hH => ?_)
  clear hK K
  generalize World.setCells _ _ _ _ = W at hM hH ⊢
  try simp only [Act.put, p1, p2, p3]
  refine wpAnyH_done (by kernel_rfl) ?_ _
  go_wp2
  exact bodyPost_ret (res2 Tryz.results80 (hM.out.at 1 rfl) (rwRS t) (hM.out.at 0 rfl) (rwA _ _)) rfl ⟨rfl, hM.out.below⟩

set_option maxHeartbeats 2000000 in
theorem rT_wrong4 (t : Tb) (k x : Int) (w : World) :
    Calls Tryz.prog 80 #[.agg t.all.toArray, .agg #[.int .i64 4, .int .i64 k, .int .i64 x]] w (Told w (t, 5, 0)) := by
  have W1 := rwithin_yes 4 1 6
  have hM : Hid _ := (((((Ms.nil w).born t.all 70 (b := w.heap.size) rfl).born [.int .i64 4, .int .i64 k, .int .i64 x] 44 (b := w.heap.size + 1) (by simp)).bornR Tb.zero_all.symm 70 (b := w.heap.size + 2) (by simp)).born [.int .i64 0, .int .i64 0] 58 (b := w.heap.size + 3) (by simp))
  have c1 := hM.out.cell 2 0 rfl rfl
  have c2 := hM.out.cell 2 1 rfl rfl
  have c3 := hM.out.cell 2 2 rfl rfl
  go_enter Tryz.func80, Tryz.ntmps80
  go_wp2_with fail
  clear c1 c2 c3
  generalize World.alloc _ _ = W at hM ⊢
  generalize hsz : w.heap.size = n at hM ⊢
  clear hsz
  have c4 := hM.out.cell 2 0 rfl rfl
  have c5 := hM.out.cell 2 1 rfl rfl
  refine (W1 _ (by decide) (by decide)).mono ?_
  rintro e ux ⟨rfl, hw⟩
  rw [hw]; clear hw ux
  go_wp2_with fail
  clear c4 c5
  have SA := said_is (5) (0)
  replace hM := hid (hM.out.drew)
  refine wp_region_held_drew (S := fun w' => Bo w' n t.all) (by kernel_rfl) (hM.out.at 3 rfl) (fun hH => ?_)
  generalize World.drew _ = W at hM hH  ⊢
  refine tkR 0 rfl hH (fun _ h => h) (rwRS t) ?_
  simp only [Act.put, p1, p2, p3]
  refine rd1 1 rfl (fun K hK => ?_)
  go_simp
  refine (SA _).mono ?_
  rintro e W ⟨rfl, hb⟩
  replace hM := hid (hM.out.later hb)
  clear hb
  go_wp2_with fail
  refine hK.out _ _ (hM.out.at 3 rfl) (fun hH => ?_)
  clear hK K
  try simp only [Act.put, p1, p2, p3]
  refine rd1 2 rfl (fun K hK => ?_)
  refine stR rfl (hM.out.at 1 rfl) ((rwRS Tb.zero).len (rwRS t)) (rwRS t) ?_
  simp only [Act.put]
  replace hM := hid (hM.out.put 1 rfl t.all ((rwRS Tb.zero).len (rwRS t)))
  refine hK.out _ _ (hM.out.at 3 rfl) (fun hH => ?_)
  clear hK K
  generalize World.setCells _ _ _ _ = W at hM hH ⊢
  try simp only [Act.put, p1, p2, p3]
  refine rd1 3 rfl (fun K hK => ?_)
  refine stR rfl (hM.out.at 0 rfl) ((rwA 0 0).len (rwA _ _)) (rwA _ _) ?_
  simp only [Act.put]
  replace hM := hid (hM.out.put 0 rfl [.int .i64 (5), .int .i64 (0)] ((rwA 0 0).len (rwA _ _)))
  refine hK.out _ _ (hM.out.at 3 rfl) (fun hH => ?_)
  clear hK K
  generalize World.setCells _ _ _ _ = W at hM hH ⊢
  try simp only [Act.put, p1, p2, p3]
  refine wpAnyH_done (by kernel_rfl) ?_ _
  go_wp2
  exact bodyPost_ret (res2 Tryz.results80 (hM.out.at 1 rfl) (rwRS t) (hM.out.at 0 rfl) (rwA _ _)) rfl ⟨rfl, hM.out.below⟩

set_option maxHeartbeats 2000000 in
theorem rT_wrongk (t : Tb) (o k x : Int) (ho : o = 1 ∨ o = 2 ∨ o = 5) (h : k < 1 ∨ 1000 < k) (w : World) :
    Calls Tryz.prog 80 #[.agg t.all.toArray, .agg #[.int .i64 o, .int .i64 k, .int .i64 x]] w (Told w (t, 5, 0)) := by
  have m6 : (o == 6) = false := by rcases ho with rfl | rfl | rfl <;> rfl
  have m3 : (o == 3) = false := by rcases ho with rfl | rfl | rfl <;> rfl
  have m4 : (o == 4) = false := by rcases ho with rfl | rfl | rfl <;> rfl
  have W1 := rwithin_yes o 1 6
  have W2 := rwithin_no k 1 1000
  have H1 : Hid (1 ≤ o ∧ o ≤ 6) := (by omega : 1 ≤ o ∧ o ≤ 6)
  have H2 : Hid _ := h
  clear ho h
  have hM : Hid _ := (((((Ms.nil w).born t.all 70 (b := w.heap.size) rfl).born [.int .i64 o, .int .i64 k, .int .i64 x] 44 (b := w.heap.size + 1) (by simp)).bornR Tb.zero_all.symm 70 (b := w.heap.size + 2) (by simp)).born [.int .i64 0, .int .i64 0] 58 (b := w.heap.size + 3) (by simp))
  have c1 := hM.out.cell 2 0 rfl rfl
  have c2 := hM.out.cell 2 1 rfl rfl
  have c3 := hM.out.cell 2 2 rfl rfl
  go_enter Tryz.func80, Tryz.ntmps80
  go_wp2_with fail
  clear c1 c2 c3
  generalize World.alloc _ _ = W at hM ⊢
  generalize hsz : w.heap.size = n at hM ⊢
  clear hsz
  have c4 := hM.out.cell 2 0 rfl rfl
  have c5 := hM.out.cell 2 1 rfl rfl
  refine (W1 _ H1.out.1 H1.out.2).mono ?_
  rintro e ux ⟨rfl, hw⟩
  rw [hw]; clear hw ux
  go_wp2_with fail
  refine (W2 _ H2.out).mono ?_
  rintro e ux ⟨rfl, hw⟩
  rw [hw]; clear hw ux
  go_wp2_with fail
  clear c4 c5
  have SA := said_is (5) (0)
  replace hM := hid (hM.out.drew)
  refine wp_region_held_drew (S := fun w' => Bo w' n t.all) (by kernel_rfl) (hM.out.at 3 rfl) (fun hH => ?_)
  generalize World.drew _ = W at hM hH  ⊢
  refine tkR 0 rfl hH (fun _ h => h) (rwRS t) ?_
  simp only [Act.put, p1, p2, p3]
  refine rd1 1 rfl (fun K hK => ?_)
  go_simp
  refine (SA _).mono ?_
  rintro e W ⟨rfl, hb⟩
  replace hM := hid (hM.out.later hb)
  clear hb
  go_wp2_with fail
  refine hK.out _ _ (hM.out.at 3 rfl) (fun hH => ?_)
  clear hK K
  try simp only [Act.put, p1, p2, p3]
  refine rd1 2 rfl (fun K hK => ?_)
  refine stR rfl (hM.out.at 1 rfl) ((rwRS Tb.zero).len (rwRS t)) (rwRS t) ?_
  simp only [Act.put]
  replace hM := hid (hM.out.put 1 rfl t.all ((rwRS Tb.zero).len (rwRS t)))
  refine hK.out _ _ (hM.out.at 3 rfl) (fun hH => ?_)
  clear hK K
  generalize World.setCells _ _ _ _ = W at hM hH ⊢
  try simp only [Act.put, p1, p2, p3]
  refine rd1 3 rfl (fun K hK => ?_)
  refine stR rfl (hM.out.at 0 rfl) ((rwA 0 0).len (rwA _ _)) (rwA _ _) ?_
  simp only [Act.put]
  replace hM := hid (hM.out.put 0 rfl [.int .i64 (5), .int .i64 (0)] ((rwA 0 0).len (rwA _ _)))
  refine hK.out _ _ (hM.out.at 3 rfl) (fun hH => ?_)
  clear hK K
  generalize World.setCells _ _ _ _ = W at hM hH ⊢
  try simp only [Act.put, p1, p2, p3]
  refine wpAnyH_done (by kernel_rfl) ?_ _
  go_wp2
  exact bodyPost_ret (res2 Tryz.results80 (hM.out.at 1 rfl) (rwRS t) (hM.out.at 0 rfl) (rwA _ _)) rfl ⟨rfl, hM.out.below⟩

theorem rT_wrong (t : Tb) (o k x : Int) (h6 : o ≠ 6) (hb : ¬ byKey o k) (w : World) : Calls Tryz.prog 80 #[.agg t.all.toArray, .agg #[.int .i64 o, .int .i64 k, .int .i64 x]] w (Told w (t, 5, 0)) := by
  by_cases h1 : o < 1 ∨ 6 < o
  · exact rT_wrong1 t o k x h6 h1 w
  by_cases h3 : o = 3
  · subst h3; exact rT_wrong3 t k x w
  by_cases h4 : o = 4
  · subst h4; exact rT_wrong4 t k x w
  refine rT_wrongk t o k x (by omega) ?_ w
  by_cases hk : k < 1 ∨ 1000 < k
  · exact hk
  · exact absurd ⟨by omega, by omega, by omega⟩ hb

set_option maxHeartbeats 2000000 in
theorem rT_full (t : Tb) (k x : Int) (hn : t.k (place t k) ≠ k) (hl : 6 ≤ len t) (hR : RT t) (hk1 : 1 ≤ k) (hk2 : k ≤ 1000) (w : World) :
    Calls Tryz.prog 80 #[.agg t.all.toArray, .agg #[.int .i64 1, .int .i64 k, .int .i64 x]] w (Told w (t, 3, 0)) := by
  have R : Hid (RT t) := hR
  have PL := RPlace_is t k (by omega) hk2 hR.free
  have W1 := rwithin_yes 1 1 6
  have W2 := rwithin_yes k 1 1000
  have H1 : Hid ((1 : Int) ≤ 1 ∧ (1 : Int) ≤ 6) := (by omega : (1 : Int) ≤ 1 ∧ (1 : Int) ≤ 6)
  have H2 : Hid (1 ≤ k ∧ k ≤ 1000) := ⟨hk1, hk2⟩
  have hp := place_lt t k
  have hx0 : t.k (place t k) = 0 := free_of_place hR hn
  clear hn
  have HL : Hid (len t = 6) := (by have := hR.room; omega : len t = 6)
  clear hl
  generalize place t k = p at *
  have hp1 : (p : Int) < 8 := by omega
  have hp0 : (0 : Int) ≤ (p : Int) := by omega
  clear hk1 hk2 hR
  have hM : Hid _ := (((((Ms.nil w).born t.all 70 (b := w.heap.size) rfl).born [.int .i64 1, .int .i64 k, .int .i64 x] 44 (b := w.heap.size + 1) (by simp)).bornR Tb.zero_all.symm 70 (b := w.heap.size + 2) (by simp)).born [.int .i64 0, .int .i64 0] 58 (b := w.heap.size + 3) (by simp))
  have c1 := hM.out.cell 2 0 rfl rfl
  have c2 := hM.out.cell 2 1 rfl rfl
  have c3 := hM.out.cell 2 2 rfl rfl
  go_enter Tryz.func80, Tryz.ntmps80
  go_wp2_with fail
  clear c1 c2 c3
  generalize World.alloc _ _ = W at hM ⊢
  generalize hsz : w.heap.size = n at hM ⊢
  clear hsz
  have c4 := hM.out.cell 2 0 rfl rfl
  have c5 := hM.out.cell 2 1 rfl rfl
  refine (W1 _ H1.out.1 H1.out.2).mono ?_
  rintro e ux ⟨rfl, hw⟩
  rw [hw]; clear hw ux
  go_wp2_with fail
  refine (W2 _ H2.out.1 H2.out.2).mono ?_
  rintro e ux ⟨rfl, hw⟩
  rw [hw]; clear hw ux
  go_wp2_with (first
    | (refine lR rfl (hM.out.at 3 rfl) rfl (rwRS t) ?_))
  refine (PL _).mono ?_
  rintro e W ⟨rfl, hb⟩
  replace hM := hid (hM.out.later hb)
  clear hb
  clear c4 c5
  clear PL W1 W2
  have c6 := hM.out.cell 2 0 rfl rfl
  have cx := (hM.out.at 3 rfl).tkey hp
  rw [hx0] at cx
  have LL := RLen_is t
  rw [HL.out] at LL
  go_wp2_with (first
    | (refine lW rfl (hM.out.at 3 rfl) rfl (rwRS t) ?_))
  refine (LL _).mono ?_
  rintro e W ⟨rfl, hb⟩
  replace hM := hid (hM.out.later hb)
  clear hb
  clear LL
  go_wp2_with fail
  have SA := said_is (3) (0)
  replace hM := hid (hM.out.drew)
  refine wp_region_held_drew (S := fun w' => Bo w' n t.all) (by kernel_rfl) (hM.out.at 3 rfl) (fun hH => ?_)
  generalize World.drew _ = W at hM hH  ⊢
  refine tkR 0 rfl hH (fun _ h => h) (rwRS t) ?_
  simp only [Act.put, p1, p2, p3]
  refine rd1 1 rfl (fun K hK => ?_)
  go_simp
  refine (SA _).mono ?_
  rintro e W ⟨rfl, hb⟩
  replace hM := hid (hM.out.later hb)
  clear hb
  go_wp2_with fail
  refine hK.out _ _ (hM.out.at 3 rfl) (fun hH => ?_)
  clear hK K
  try simp only [Act.put, p1, p2, p3]
  refine rd1 2 rfl (fun K hK => ?_)
  refine stR rfl (hM.out.at 1 rfl) ((rwRS Tb.zero).len (rwRS t)) (rwRS t) ?_
  simp only [Act.put]
  replace hM := hid (hM.out.put 1 rfl t.all ((rwRS Tb.zero).len (rwRS t)))
  refine hK.out _ _ (hM.out.at 3 rfl) (fun hH => ?_)
  clear hK K
  generalize World.setCells _ _ _ _ = W at hM hH ⊢
  try simp only [Act.put, p1, p2, p3]
  refine rd1 3 rfl (fun K hK => ?_)
  refine stR rfl (hM.out.at 0 rfl) ((rwA 0 0).len (rwA _ _)) (rwA _ _) ?_
  simp only [Act.put]
  replace hM := hid (hM.out.put 0 rfl [.int .i64 (3), .int .i64 (0)] ((rwA 0 0).len (rwA _ _)))
  refine hK.out _ _ (hM.out.at 3 rfl) (fun hH => ?_)
  clear hK K
  generalize World.setCells _ _ _ _ = W at hM hH ⊢
  try simp only [Act.put, p1, p2, p3]
  refine wpAnyH_done (by kernel_rfl) ?_ _
  go_wp2
  exact bodyPost_ret (res2 Tryz.results80 (hM.out.at 1 rfl) (rwRS t) (hM.out.at 0 rfl) (rwA _ _)) rfl ⟨rfl, hM.out.below⟩

set_option maxHeartbeats 2000000 in
theorem rT_put_has (t : Tb) (k x : Int) (hn : t.k (place t k) = k) (hR : RT t) (hk1 : 1 ≤ k) (hk2 : k ≤ 1000) (w : World) :
    Calls Tryz.prog 80 #[.agg t.all.toArray, .agg #[.int .i64 1, .int .i64 k, .int .i64 x]] w (Told w (t.set (place t k) k x, 1, 0)) := by
  have R : Hid (RT t) := hR
  have PL := RPlace_is t k (by omega) hk2 hR.free
  have W1 := rwithin_yes 1 1 6
  have W2 := rwithin_yes k 1 1000
  have H1 : Hid ((1 : Int) ≤ 1 ∧ (1 : Int) ≤ 6) := (by omega : (1 : Int) ≤ 1 ∧ (1 : Int) ≤ 6)
  have H2 : Hid (1 ≤ k ∧ k ≤ 1000) := ⟨hk1, hk2⟩
  have hp := place_lt t k
  have hx0 : (t.k (place t k) == 0) = false := by simp [hn]; omega
  have HX : Hid (t.k (place t k) = k) := hn
  clear hn
  generalize place t k = p at *
  have hp1 : (p : Int) < 8 := by omega
  have hp0 : (0 : Int) ≤ (p : Int) := by omega
  clear hk1 hk2 hR
  have hM : Hid _ := (((((Ms.nil w).born t.all 70 (b := w.heap.size) rfl).born [.int .i64 1, .int .i64 k, .int .i64 x] 44 (b := w.heap.size + 1) (by simp)).bornR Tb.zero_all.symm 70 (b := w.heap.size + 2) (by simp)).born [.int .i64 0, .int .i64 0] 58 (b := w.heap.size + 3) (by simp))
  have c1 := hM.out.cell 2 0 rfl rfl
  have c2 := hM.out.cell 2 1 rfl rfl
  have c3 := hM.out.cell 2 2 rfl rfl
  go_enter Tryz.func80, Tryz.ntmps80
  go_wp2_with fail
  clear c1 c2 c3
  generalize World.alloc _ _ = W at hM ⊢
  generalize hsz : w.heap.size = n at hM ⊢
  clear hsz
  have c4 := hM.out.cell 2 0 rfl rfl
  have c5 := hM.out.cell 2 1 rfl rfl
  refine (W1 _ H1.out.1 H1.out.2).mono ?_
  rintro e ux ⟨rfl, hw⟩
  rw [hw]; clear hw ux
  go_wp2_with fail
  refine (W2 _ H2.out.1 H2.out.2).mono ?_
  rintro e ux ⟨rfl, hw⟩
  rw [hw]; clear hw ux
  go_wp2_with (first
    | (refine lR rfl (hM.out.at 3 rfl) rfl (rwRS t) ?_))
  refine (PL _).mono ?_
  rintro e W ⟨rfl, hb⟩
  replace hM := hid (hM.out.later hb)
  clear hb
  clear c4 c5
  clear PL W1 W2
  have c6 := hM.out.cell 2 0 rfl rfl
  have cx := (hM.out.at 3 rfl).tkey hp
  have c7 := hM.out.cell 2 1 rfl rfl
  have c8 := hM.out.cell 2 2 rfl rfl
  go_wp2_with (first
    | (refine sO rfl ((hM.out.at 3 rfl).tthere hp) rfl (rwRl k x) ?_
       replace hM := hid (hM.out.putAt 3 (p * 2) rfl [.int .i64 k, .int .i64 x] (t.set p k x).all ((hM.out.at 3 rfl).tset hp k x))
       generalize World.setCells _ _ _ _ = W at hM ⊢))
  have SA := said_is (1) (0)
  replace hM := hid (hM.out.drew)
  refine wp_region_held_drew (S := fun w' => Bo w' n (t.set p k x).all) (by kernel_rfl) (hM.out.at 3 rfl) (fun hH => ?_)
  generalize World.drew _ = W at hM hH  ⊢
  refine tkR 0 rfl hH (fun _ h => h) (rwRS (t.set p k x)) ?_
  simp only [Act.put, p1, p2, p3]
  refine rd1 1 rfl (fun K hK => ?_)
  go_simp
  refine (SA _).mono ?_
  rintro e W ⟨rfl, hb⟩
  replace hM := hid (hM.out.later hb)
  clear hb
  go_wp2_with fail
  refine hK.out _ _ (hM.out.at 3 rfl) (fun hH => ?_)
  clear hK K
  try simp only [Act.put, p1, p2, p3]
  refine rd1 2 rfl (fun K hK => ?_)
  refine stR rfl (hM.out.at 1 rfl) ((rwRS Tb.zero).len (rwRS (t.set p k x))) (rwRS (t.set p k x)) ?_
  simp only [Act.put]
  replace hM := hid (hM.out.put 1 rfl (t.set p k x).all ((rwRS Tb.zero).len (rwRS (t.set p k x))))
  refine hK.out _ _ (hM.out.at 3 rfl) (fun hH => ?_)
  clear hK K
  generalize World.setCells _ _ _ _ = W at hM hH ⊢
  try simp only [Act.put, p1, p2, p3]
  refine rd1 3 rfl (fun K hK => ?_)
  refine stR rfl (hM.out.at 0 rfl) ((rwA 0 0).len (rwA _ _)) (rwA _ _) ?_
  simp only [Act.put]
  replace hM := hid (hM.out.put 0 rfl [.int .i64 (1), .int .i64 (0)] ((rwA 0 0).len (rwA _ _)))
  refine hK.out _ _ (hM.out.at 3 rfl) (fun hH => ?_)
  clear hK K
  generalize World.setCells _ _ _ _ = W at hM hH ⊢
  try simp only [Act.put, p1, p2, p3]
  refine wpAnyH_done (by kernel_rfl) ?_ _
  go_wp2
  exact bodyPost_ret (res2 Tryz.results80 (hM.out.at 1 rfl) (rwRS (t.set p k x)) (hM.out.at 0 rfl) (rwA _ _)) rfl ⟨rfl, hM.out.below⟩

set_option maxHeartbeats 2000000 in
theorem rT_put_new (t : Tb) (k x : Int) (hn : t.k (place t k) ≠ k) (hl : len t < 6) (hR : RT t) (hk1 : 1 ≤ k) (hk2 : k ≤ 1000) (w : World) :
    Calls Tryz.prog 80 #[.agg t.all.toArray, .agg #[.int .i64 1, .int .i64 k, .int .i64 x]] w (Told w (t.set (place t k) k x, 1, 0)) := by
  have R : Hid (RT t) := hR
  have PL := RPlace_is t k (by omega) hk2 hR.free
  have W1 := rwithin_yes 1 1 6
  have W2 := rwithin_yes k 1 1000
  have H1 : Hid ((1 : Int) ≤ 1 ∧ (1 : Int) ≤ 6) := (by omega : (1 : Int) ≤ 1 ∧ (1 : Int) ≤ 6)
  have H2 : Hid (1 ≤ k ∧ k ≤ 1000) := ⟨hk1, hk2⟩
  have hp := place_lt t k
  have hx0 : t.k (place t k) = 0 := free_of_place hR hn
  clear hn
  generalize place t k = p at *
  have hp1 : (p : Int) < 8 := by omega
  have hp0 : (0 : Int) ≤ (p : Int) := by omega
  clear hk1 hk2 hR
  have hM : Hid _ := (((((Ms.nil w).born t.all 70 (b := w.heap.size) rfl).born [.int .i64 1, .int .i64 k, .int .i64 x] 44 (b := w.heap.size + 1) (by simp)).bornR Tb.zero_all.symm 70 (b := w.heap.size + 2) (by simp)).born [.int .i64 0, .int .i64 0] 58 (b := w.heap.size + 3) (by simp))
  have c1 := hM.out.cell 2 0 rfl rfl
  have c2 := hM.out.cell 2 1 rfl rfl
  have c3 := hM.out.cell 2 2 rfl rfl
  go_enter Tryz.func80, Tryz.ntmps80
  go_wp2_with fail
  clear c1 c2 c3
  generalize World.alloc _ _ = W at hM ⊢
  generalize hsz : w.heap.size = n at hM ⊢
  clear hsz
  have c4 := hM.out.cell 2 0 rfl rfl
  have c5 := hM.out.cell 2 1 rfl rfl
  refine (W1 _ H1.out.1 H1.out.2).mono ?_
  rintro e ux ⟨rfl, hw⟩
  rw [hw]; clear hw ux
  go_wp2_with fail
  refine (W2 _ H2.out.1 H2.out.2).mono ?_
  rintro e ux ⟨rfl, hw⟩
  rw [hw]; clear hw ux
  go_wp2_with (first
    | (refine lR rfl (hM.out.at 3 rfl) rfl (rwRS t) ?_))
  refine (PL _).mono ?_
  rintro e W ⟨rfl, hb⟩
  replace hM := hid (hM.out.later hb)
  clear hb
  clear c4 c5
  clear PL W1 W2
  have c6 := hM.out.cell 2 0 rfl rfl
  have cx := (hM.out.at 3 rfl).tkey hp
  rw [hx0] at cx
  have LL := RLen_is t
  generalize len t = l at *
  have hl1 : ((l : Int) == 6) = false := by simp only [beq_eq_false_iff_ne]; omega
  go_wp2_with (first
    | (refine lW rfl (hM.out.at 3 rfl) rfl (rwRS t) ?_))
  refine (LL _).mono ?_
  rintro e W ⟨rfl, hb⟩
  replace hM := hid (hM.out.later hb)
  clear hb
  clear LL
  have c7 := hM.out.cell 2 0 rfl rfl
  have c8 := hM.out.cell 2 1 rfl rfl
  have c9 := hM.out.cell 2 2 rfl rfl
  go_wp2_with (first
    | (refine sO rfl ((hM.out.at 3 rfl).tthere hp) rfl (rwRl k x) ?_
       replace hM := hid (hM.out.putAt 3 (p * 2) rfl [.int .i64 k, .int .i64 x] (t.set p k x).all ((hM.out.at 3 rfl).tset hp k x))
       generalize World.setCells _ _ _ _ = W at hM ⊢))
  have SA := said_is (1) (0)
  replace hM := hid (hM.out.drew)
  refine wp_region_held_drew (S := fun w' => Bo w' n (t.set p k x).all) (by kernel_rfl) (hM.out.at 3 rfl) (fun hH => ?_)
  generalize World.drew _ = W at hM hH  ⊢
  refine tkR 0 rfl hH (fun _ h => h) (rwRS (t.set p k x)) ?_
  simp only [Act.put, p1, p2, p3]
  refine rd1 1 rfl (fun K hK => ?_)
  go_simp
  refine (SA _).mono ?_
  rintro e W ⟨rfl, hb⟩
  replace hM := hid (hM.out.later hb)
  clear hb
  go_wp2_with fail
  refine hK.out _ _ (hM.out.at 3 rfl) (fun hH => ?_)
  clear hK K
  try simp only [Act.put, p1, p2, p3]
  refine rd1 2 rfl (fun K hK => ?_)
  refine stR rfl (hM.out.at 1 rfl) ((rwRS Tb.zero).len (rwRS (t.set p k x))) (rwRS (t.set p k x)) ?_
  simp only [Act.put]
  replace hM := hid (hM.out.put 1 rfl (t.set p k x).all ((rwRS Tb.zero).len (rwRS (t.set p k x))))
  refine hK.out _ _ (hM.out.at 3 rfl) (fun hH => ?_)
  clear hK K
  generalize World.setCells _ _ _ _ = W at hM hH ⊢
  try simp only [Act.put, p1, p2, p3]
  refine rd1 3 rfl (fun K hK => ?_)
  refine stR rfl (hM.out.at 0 rfl) ((rwA 0 0).len (rwA _ _)) (rwA _ _) ?_
  simp only [Act.put]
  replace hM := hid (hM.out.put 0 rfl [.int .i64 (1), .int .i64 (0)] ((rwA 0 0).len (rwA _ _)))
  refine hK.out _ _ (hM.out.at 3 rfl) (fun hH => ?_)
  clear hK K
  generalize World.setCells _ _ _ _ = W at hM hH ⊢
  try simp only [Act.put, p1, p2, p3]
  refine wpAnyH_done (by kernel_rfl) ?_ _
  go_wp2
  exact bodyPost_ret (res2 Tryz.results80 (hM.out.at 1 rfl) (rwRS (t.set p k x)) (hM.out.at 0 rfl) (rwA _ _)) rfl ⟨rfl, hM.out.below⟩

set_option maxHeartbeats 2000000 in
theorem rT_absent (t : Tb) (o k x : Int) (ho : o = 2 ∨ o = 5) (hn : t.k (place t k) ≠ k) (hR : RT t) (hk1 : 1 ≤ k) (hk2 : k ≤ 1000) (w : World) :
    Calls Tryz.prog 80 #[.agg t.all.toArray, .agg #[.int .i64 o, .int .i64 k, .int .i64 x]] w (Told w (t, 4, 0)) := by
  have R : Hid (RT t) := hR
  have PL := RPlace_is t k (by omega) hk2 hR.free
  have W1 := rwithin_yes o 1 6
  have W2 := rwithin_yes k 1 1000
  have H1 : Hid ((1 : Int) ≤ o ∧ (o : Int) ≤ 6) := (by omega : (1 : Int) ≤ o ∧ (o : Int) ≤ 6)
  have H2 : Hid (1 ≤ k ∧ k ≤ 1000) := ⟨hk1, hk2⟩
  have hp := place_lt t k
  have hx0 : t.k (place t k) = 0 := free_of_place hR hn
  clear hn
  have m1 : (o == 1) = false := by rcases ho with rfl | rfl <;> rfl
  have m3 : (o == 3) = false := by rcases ho with rfl | rfl <;> rfl
  have m4 : (o == 4) = false := by rcases ho with rfl | rfl <;> rfl
  have m6 : (o == 6) = false := by rcases ho with rfl | rfl <;> rfl
  clear ho
  generalize place t k = p at *
  have hp1 : (p : Int) < 8 := by omega
  have hp0 : (0 : Int) ≤ (p : Int) := by omega
  clear hk1 hk2 hR
  have hM : Hid _ := (((((Ms.nil w).born t.all 70 (b := w.heap.size) rfl).born [.int .i64 o, .int .i64 k, .int .i64 x] 44 (b := w.heap.size + 1) (by simp)).bornR Tb.zero_all.symm 70 (b := w.heap.size + 2) (by simp)).born [.int .i64 0, .int .i64 0] 58 (b := w.heap.size + 3) (by simp))
  have c1 := hM.out.cell 2 0 rfl rfl
  have c2 := hM.out.cell 2 1 rfl rfl
  have c3 := hM.out.cell 2 2 rfl rfl
  go_enter Tryz.func80, Tryz.ntmps80
  go_wp2_with fail
  clear c1 c2 c3
  generalize World.alloc _ _ = W at hM ⊢
  generalize hsz : w.heap.size = n at hM ⊢
  clear hsz
  have c4 := hM.out.cell 2 0 rfl rfl
  have c5 := hM.out.cell 2 1 rfl rfl
  refine (W1 _ H1.out.1 H1.out.2).mono ?_
  rintro e ux ⟨rfl, hw⟩
  rw [hw]; clear hw ux
  go_wp2_with fail
  refine (W2 _ H2.out.1 H2.out.2).mono ?_
  rintro e ux ⟨rfl, hw⟩
  rw [hw]; clear hw ux
  go_wp2_with (first
    | (refine lR rfl (hM.out.at 3 rfl) rfl (rwRS t) ?_))
  refine (PL _).mono ?_
  rintro e W ⟨rfl, hb⟩
  replace hM := hid (hM.out.later hb)
  clear hb
  clear c4 c5
  clear PL W1 W2
  have c6 := hM.out.cell 2 0 rfl rfl
  have cx := (hM.out.at 3 rfl).tkey hp
  rw [hx0] at cx
  go_wp2_with fail
  have SA := said_is (4) (0)
  replace hM := hid (hM.out.drew)
  refine wp_region_held_drew (S := fun w' => Bo w' n t.all) (by kernel_rfl) (hM.out.at 3 rfl) (fun hH => ?_)
  generalize World.drew _ = W at hM hH  ⊢
  refine tkR 0 rfl hH (fun _ h => h) (rwRS t) ?_
  simp only [Act.put, p1, p2, p3]
  refine rd1 1 rfl (fun K hK => ?_)
  go_simp
  refine (SA _).mono ?_
  rintro e W ⟨rfl, hb⟩
  replace hM := hid (hM.out.later hb)
  clear hb
  go_wp2_with fail
  refine hK.out _ _ (hM.out.at 3 rfl) (fun hH => ?_)
  clear hK K
  try simp only [Act.put, p1, p2, p3]
  refine rd1 2 rfl (fun K hK => ?_)
  refine stR rfl (hM.out.at 1 rfl) ((rwRS Tb.zero).len (rwRS t)) (rwRS t) ?_
  simp only [Act.put]
  replace hM := hid (hM.out.put 1 rfl t.all ((rwRS Tb.zero).len (rwRS t)))
  refine hK.out _ _ (hM.out.at 3 rfl) (fun hH => ?_)
  clear hK K
  generalize World.setCells _ _ _ _ = W at hM hH ⊢
  try simp only [Act.put, p1, p2, p3]
  refine rd1 3 rfl (fun K hK => ?_)
  refine stR rfl (hM.out.at 0 rfl) ((rwA 0 0).len (rwA _ _)) (rwA _ _) ?_
  simp only [Act.put]
  replace hM := hid (hM.out.put 0 rfl [.int .i64 (4), .int .i64 (0)] ((rwA 0 0).len (rwA _ _)))
  refine hK.out _ _ (hM.out.at 3 rfl) (fun hH => ?_)
  clear hK K
  generalize World.setCells _ _ _ _ = W at hM hH ⊢
  try simp only [Act.put, p1, p2, p3]
  refine wpAnyH_done (by kernel_rfl) ?_ _
  go_wp2
  exact bodyPost_ret (res2 Tryz.results80 (hM.out.at 1 rfl) (rwRS t) (hM.out.at 0 rfl) (rwA _ _)) rfl ⟨rfl, hM.out.below⟩

set_option maxHeartbeats 2000000 in
theorem rT_peek (t : Tb) (k x : Int) (hn : t.k (place t k) = k) (hR : RT t) (hk1 : 1 ≤ k) (hk2 : k ≤ 1000) (w : World) :
    Calls Tryz.prog 80 #[.agg t.all.toArray, .agg #[.int .i64 5, .int .i64 k, .int .i64 x]] w (Told w (t, 1, t.v (place t k))) := by
  have R : Hid (RT t) := hR
  have PL := RPlace_is t k (by omega) hk2 hR.free
  have W1 := rwithin_yes 5 1 6
  have W2 := rwithin_yes k 1 1000
  have H1 : Hid ((1 : Int) ≤ 5 ∧ (5 : Int) ≤ 6) := (by omega : (1 : Int) ≤ 5 ∧ (5 : Int) ≤ 6)
  have H2 : Hid (1 ≤ k ∧ k ≤ 1000) := ⟨hk1, hk2⟩
  have hp := place_lt t k
  have hx0 : (t.k (place t k) == 0) = false := by simp [hn]; omega
  have HX : Hid (t.k (place t k) = k) := hn
  clear hn
  generalize place t k = p at *
  have hp1 : (p : Int) < 8 := by omega
  have hp0 : (0 : Int) ≤ (p : Int) := by omega
  clear hk1 hk2 hR
  have hM : Hid _ := (((((Ms.nil w).born t.all 70 (b := w.heap.size) rfl).born [.int .i64 5, .int .i64 k, .int .i64 x] 44 (b := w.heap.size + 1) (by simp)).bornR Tb.zero_all.symm 70 (b := w.heap.size + 2) (by simp)).born [.int .i64 0, .int .i64 0] 58 (b := w.heap.size + 3) (by simp))
  have c1 := hM.out.cell 2 0 rfl rfl
  have c2 := hM.out.cell 2 1 rfl rfl
  have c3 := hM.out.cell 2 2 rfl rfl
  go_enter Tryz.func80, Tryz.ntmps80
  go_wp2_with fail
  clear c1 c2 c3
  generalize World.alloc _ _ = W at hM ⊢
  generalize hsz : w.heap.size = n at hM ⊢
  clear hsz
  have c4 := hM.out.cell 2 0 rfl rfl
  have c5 := hM.out.cell 2 1 rfl rfl
  refine (W1 _ H1.out.1 H1.out.2).mono ?_
  rintro e ux ⟨rfl, hw⟩
  rw [hw]; clear hw ux
  go_wp2_with fail
  refine (W2 _ H2.out.1 H2.out.2).mono ?_
  rintro e ux ⟨rfl, hw⟩
  rw [hw]; clear hw ux
  go_wp2_with (first
    | (refine lR rfl (hM.out.at 3 rfl) rfl (rwRS t) ?_))
  refine (PL _).mono ?_
  rintro e W ⟨rfl, hb⟩
  replace hM := hid (hM.out.later hb)
  clear hb
  clear c4 c5
  clear PL W1 W2
  have c6 := hM.out.cell 2 0 rfl rfl
  have cx := (hM.out.at 3 rfl).tkey hp
  have x7 := (hM.out.at 3 rfl).tval hp
  go_wp2_with fail
  have SA := said_is (1) (t.v p)
  replace hM := hid (hM.out.drew)
  refine wp_region_held_drew (S := fun w' => Bo w' n t.all) (by kernel_rfl) (hM.out.at 3 rfl) (fun hH => ?_)
  generalize World.drew _ = W at hM hH  ⊢
  refine tkR 0 rfl hH (fun _ h => h) (rwRS t) ?_
  simp only [Act.put, p1, p2, p3]
  refine tk 1 rfl hH ?_
  simp only [Act.put, p1, p2, p3]
  refine rd1 2 rfl (fun K hK => ?_)
  go_simp
  refine (SA _).mono ?_
  rintro e W ⟨rfl, hb⟩
  replace hM := hid (hM.out.later hb)
  clear hb
  go_wp2_with fail
  refine hK.out _ _ (hM.out.at 3 rfl) (fun hH => ?_)
  clear hK K
  try simp only [Act.put, p1, p2, p3]
  refine rd1 3 rfl (fun K hK => ?_)
  refine stR rfl (hM.out.at 1 rfl) ((rwRS Tb.zero).len (rwRS t)) (rwRS t) ?_
  simp only [Act.put]
  replace hM := hid (hM.out.put 1 rfl t.all ((rwRS Tb.zero).len (rwRS t)))
  refine hK.out _ _ (hM.out.at 3 rfl) (fun hH => ?_)
  clear hK K
  generalize World.setCells _ _ _ _ = W at hM hH ⊢
  try simp only [Act.put, p1, p2, p3]
  refine rd1 4 rfl (fun K hK => ?_)
  refine stR rfl (hM.out.at 0 rfl) ((rwA 0 0).len (rwA _ _)) (rwA _ _) ?_
  simp only [Act.put]
  replace hM := hid (hM.out.put 0 rfl [.int .i64 (1), .int .i64 (t.v p)] ((rwA 0 0).len (rwA _ _)))
  refine hK.out _ _ (hM.out.at 3 rfl) (fun hH => ?_)
  clear hK K
  generalize World.setCells _ _ _ _ = W at hM hH ⊢
  try simp only [Act.put, p1, p2, p3]
  refine wpAnyH_done (by kernel_rfl) ?_ _
  go_wp2
  exact bodyPost_ret (res2 Tryz.results80 (hM.out.at 1 rfl) (rwRS t) (hM.out.at 0 rfl) (rwA _ _)) rfl ⟨rfl, hM.out.below⟩

set_option maxHeartbeats 2000000 in
theorem rT_take (t : Tb) (k x : Int) (hn : t.k (place t k) = k) (hR : RT t) (hk1 : 1 ≤ k) (hk2 : k ≤ 1000) (w : World) :
    Calls Tryz.prog 80 #[.agg t.all.toArray, .agg #[.int .i64 2, .int .i64 k, .int .i64 x]] w (Told w (without t (place t k), 1, t.v (place t k))) := by
  have R : Hid (RT t) := hR
  have PL := RPlace_is t k (by omega) hk2 hR.free
  have W1 := rwithin_yes 2 1 6
  have W2 := rwithin_yes k 1 1000
  have H1 : Hid ((1 : Int) ≤ 2 ∧ (2 : Int) ≤ 6) := (by omega : (1 : Int) ≤ 2 ∧ (2 : Int) ≤ 6)
  have H2 : Hid (1 ≤ k ∧ k ≤ 1000) := ⟨hk1, hk2⟩
  have hp := place_lt t k
  have hx0 : (t.k (place t k) == 0) = false := by simp [hn]; omega
  have HX : Hid (t.k (place t k) = k) := hn
  clear hn
  generalize place t k = p at *
  have hp1 : (p : Int) < 8 := by omega
  have hp0 : (0 : Int) ≤ (p : Int) := by omega
  clear hk1 hk2 hR
  have hM : Hid _ := (((((Ms.nil w).born t.all 70 (b := w.heap.size) rfl).born [.int .i64 2, .int .i64 k, .int .i64 x] 44 (b := w.heap.size + 1) (by simp)).bornR Tb.zero_all.symm 70 (b := w.heap.size + 2) (by simp)).born [.int .i64 0, .int .i64 0] 58 (b := w.heap.size + 3) (by simp))
  have c1 := hM.out.cell 2 0 rfl rfl
  have c2 := hM.out.cell 2 1 rfl rfl
  have c3 := hM.out.cell 2 2 rfl rfl
  go_enter Tryz.func80, Tryz.ntmps80
  go_wp2_with fail
  clear c1 c2 c3
  generalize World.alloc _ _ = W at hM ⊢
  generalize hsz : w.heap.size = n at hM ⊢
  clear hsz
  have c4 := hM.out.cell 2 0 rfl rfl
  have c5 := hM.out.cell 2 1 rfl rfl
  refine (W1 _ H1.out.1 H1.out.2).mono ?_
  rintro e ux ⟨rfl, hw⟩
  rw [hw]; clear hw ux
  go_wp2_with fail
  refine (W2 _ H2.out.1 H2.out.2).mono ?_
  rintro e ux ⟨rfl, hw⟩
  rw [hw]; clear hw ux
  go_wp2_with (first
    | (refine lR rfl (hM.out.at 3 rfl) rfl (rwRS t) ?_))
  refine (PL _).mono ?_
  rintro e W ⟨rfl, hb⟩
  replace hM := hid (hM.out.later hb)
  clear hb
  clear c4 c5
  clear PL W1 W2
  have c6 := hM.out.cell 2 0 rfl rfl
  have cx := (hM.out.at 3 rfl).tkey hp
  have x7 := (hM.out.at 3 rfl).tval hp
  have hk0 : t.k p ≠ 0 := by intro e; simp [e] at hx0
  obtain ⟨Fp, hJ, -⟩ := J.start R.out hp hk0
  obtain ⟨d, hd⟩ : ∃ d, ds p Fp = d := ⟨_, rfl⟩
  have JJ : Hid (J (t.set p 0 0) p Fp 0) := hJ
  have HDD : Hid (ds p Fp = d) := hd
  have hd8 : d < 8 := hd ▸ ds_lt _ _
  have hd1 : 0 < d := hd ▸ hJ.mF
  have W0 : Hid (woF 7 (t.set p 0 0) p = without t p) := rfl
  clear hJ hd hk0
  go_wp2_with (first
    | (refine sO rfl ((hM.out.at 3 rfl).tthere hp) rfl (rwRl 0 0) ?_
       replace hM := hid (hM.out.putAt 3 (p * 2) rfl [.int .i64 0, .int .i64 0] (t.set p 0 0).all ((hM.out.at 3 rfl).tset hp 0 0))
       generalize World.setCells _ _ _ _ = W at hM ⊢))
  clear c6 x7
  clear cx
  have hBn : ∀ b ∈ [n + 3, n + 2, n + 1, n], b < W.heap.size := hM.out.lt
  obtain ⟨B, hBe⟩ : ∃ B, B = W.heap.size := ⟨_, rfl⟩
  have hB : n + 4 ≤ B := by have := hBn (n + 3) (by simp); omega
  have hBU : B ≤ W.heap.size := by omega
  have N0 : Hid (Own B W (.slice none 0 0) []) := World.ownsRow_nil W _ _ 1
  clear hBe hBn
  go_loopg [9, 10] d (fun gg s9 s10 wt => ∃ c : Nat, c + 1 ≤ d ∧ d - c ≤ gg ∧ s10 = .int .i64 ((p : Int) + 1 + (c : Int)) ∧ Hid (Own B wt s9 (bh p c)) ∧ B ≤ wt.heap.size ∧ Hid (Ms n w wt [(n + 3, [.int .i64 0, .int .i64 0]), (n + 2, Tb.zero.all), (n + 1, [.int .i64 2, .int .i64 k, .int .i64 x]), (n, (t.set p 0 0).all)] []))
  case atStart => exact ⟨0, by omega, by omega, by simp, N0, hBU, hM⟩
  case round =>
    clear N0 hBU hM
    obtain ⟨c, hc, hgg, rfl, O, hBw, hM⟩ := hrel
    obtain ⟨q, hq⟩ : ∃ q, (p + (c + 1)) % 8 = q := ⟨_, rfl⟩
    have eq : ((p : Int) + 1 + (c : Int)) % 8 = (q : Int) := by omega
    have hq8 : q < 8 := by omega
    have hq1 : (q : Int) < 8 := by omega
    have hq0 : (0 : Int) ≤ (q : Int) := by omega
    have HQ : Hid ((p + (c + 1)) % 8 = q) := hq
    clear hq
    have cx := (hM.out.at 3 rfl).tkey hq8
    by_cases hcd : c + 1 = d
    · have eF : (t.set p 0 0).k q = 0 := by
        have := JJ.out.free
        have e : Fp = q := by rw [← HQ.out]; have h1 := JJ.out.p8; have h2 := JJ.out.F8; have h3 := HDD.out; unfold ds at h3; omega
        rw [e] at this; exact this
      rw [eF] at cx
      obtain ⟨a9, c9, rfl⟩ := O.out.form
      have hlen : (bh p c).length = c := bh_len p c
      rw [hlen]
      have O2 : Hid (Own B wr (.slice a9 c c9) (bh p c)) := by rw [hlen] at O; exact O
      clear O hlen
      by_cases hc0 : c = 0
      · subst hc0
        have eq0 : ((p : Int) + 1) % 8 = (q : Int) := by omega
        have eq00 : (p : Int) + 1 + ((0 : Nat) : Int) = (p : Int) + 1 := by omega
        clear eq
        rw [eq00]
        clear eq00
        have E : Hid (without t p = t.set p 0 0) := by
          have := W0.out
          rw [woF, show (p + 1) % 8 = q from HQ.out, if_pos eF] at this
          exact this.symm
        clear eF O2
        obtain ⟨wq, rfl⟩ : ∃ wq, wq = wr := ⟨_, rfl⟩
        go_wp2_with fail
        clear cx
        go_loopg [102] 0 (fun gg s102 wt => wt = wq ∧ s102 = .int .i64 0)
        case atStart => exact ⟨rfl, rfl⟩
        case round =>
          obtain ⟨hw, rfl⟩ := hrel
          rw [hw]
          clear hw wr
          go_wp2_with fail
          generalize wq = W at hM ⊢
          have SA := said_is (1) (t.v p)
          replace hM := hid (hM.out.drew)
          refine wp_region_held_drew (S := fun w' => Bo w' n (t.set p 0 0).all) (by kernel_rfl) (hM.out.at 3 rfl) (fun hH => ?_)
          generalize World.drew _ = W at hM hH  ⊢
          refine tkR 0 rfl hH (fun _ h => h) (rwRS (t.set p 0 0)) ?_
          simp only [Act.put, p1, p2, p3]
          refine tk 1 rfl hH ?_
          simp only [Act.put, p1, p2, p3]
          refine rd1 2 rfl (fun K hK => ?_)
          go_simp
          refine (SA _).mono ?_
          rintro e W ⟨rfl, hb⟩
          replace hM := hid (hM.out.later hb)
          clear hb
          go_wp2_with fail
          refine hK.out _ _ (hM.out.at 3 rfl) (fun hH => ?_)
          clear hK K
          try simp only [Act.put, p1, p2, p3]
          refine rd1 3 rfl (fun K hK => ?_)
          refine stR rfl (hM.out.at 1 rfl) ((rwRS Tb.zero).len (rwRS (t.set p 0 0))) (rwRS (t.set p 0 0)) ?_
          simp only [Act.put]
          replace hM := hid (hM.out.put 1 rfl (t.set p 0 0).all ((rwRS Tb.zero).len (rwRS (t.set p 0 0))))
          refine hK.out _ _ (hM.out.at 3 rfl) (fun hH => ?_)
          clear hK K
          generalize World.setCells _ _ _ _ = W at hM hH ⊢
          try simp only [Act.put, p1, p2, p3]
          refine rd1 4 rfl (fun K hK => ?_)
          refine stR rfl (hM.out.at 0 rfl) ((rwA 0 0).len (rwA _ _)) (rwA _ _) ?_
          simp only [Act.put]
          replace hM := hid (hM.out.put 0 rfl [.int .i64 (1), .int .i64 (t.v p)] ((rwA 0 0).len (rwA _ _)))
          refine hK.out _ _ (hM.out.at 3 rfl) (fun hH => ?_)
          clear hK K
          generalize World.setCells _ _ _ _ = W at hM hH ⊢
          try simp only [Act.put, p1, p2, p3]
          refine wpAnyH_done (by kernel_rfl) ?_ _
          go_wp2
          exact bodyPost_ret (res2 Tryz.results80 (hM.out.at 1 rfl) (rwRS (t.set p 0 0)) (hM.out.at 0 rfl) (rwA _ _)) rfl ⟨(by show _ = Ending.returned (.tuple #[.agg (without t p).all.toArray, .agg #[.int .i64 (1), .int .i64 (t.v p)]]); rw [E.out]), hM.out.below⟩
      · obtain ⟨g9, e9, hg9, LB⟩ := own_bo O2.out (by rw [bh_len]; omega)
        subst e9
        have L9 : Hid (Bo wr g9 ((bh p c).map (Value.int .i64))) := LB
        have hM9 : Hid _ := hM.out.also L9.out (by simp; omega)
        clear eF O2 LB L9 hM
        obtain ⟨wq, rfl⟩ : ∃ wq, wq = wr := ⟨_, rfl⟩
        obtain ⟨gk0, rfl⟩ : ∃ gk0, gk0 = gk := ⟨_, rfl⟩
        go_wp2_with fail
        clear cx eq
        go_loopg [102] c (fun gg s102 wt => ∃ m : Nat, m ≤ c ∧ c - m ≤ gg ∧ s102 = .int .i64 m ∧ ∃ u : Tb, Hid (J u p Fp m) ∧ Hid (woF (7 - m) u ((p + m) % 8) = without t p) ∧ Hid (Ms n w wt [(g9, (bh p c).map (Value.int .i64)), (n + 3, [.int .i64 0, .int .i64 0]), (n + 2, Tb.zero.all), (n + 1, [.int .i64 2, .int .i64 k, .int .i64 x]), (n, u.all)] []))
        case atStart => exact ⟨0, by omega, by omega, rfl, t.set p 0 0, JJ, (by rw [Nat.add_zero, Nat.mod_eq_of_lt hp]; exact W0.out), hM9⟩
        case round =>
          obtain ⟨m, hm, hgm, rfl, u, J2, W2, hM⟩ := hrel
          clear hM9
          generalize wr = W at hM ⊢
          by_cases hmc : m < c
          · obtain ⟨b, hb8⟩ : ∃ b, (p + (m + 1)) % 8 = b := ⟨_, rfl⟩
            have hb : b < 8 := by omega
            have hb1 : (b : Int) < 8 := by omega
            have hb0 : (0 : Int) ≤ (b : Int) := by omega
            have hm1 : (m : Int) < (c : Int) := by omega
            have hm0 : (0 : Int) ≤ (m : Int) := by omega
            have HB8 : Hid ((p + (m + 1)) % 8 = b) := hb8
            have cl : W.cell? ⟨g9, m, none⟩ = some (.int .i64 (b : Nat)) := hM.out.cell 0 m rfl (by rw [bh_at p hmc, hb8])
            have JN : m + 1 < ds p Fp := by rw [HDD.out]; omega
            have J3 := J2.out.step JN
            have hy0 := J2.out.taken _ (Nat.mod_lt _ (by decide)) (J2.out.q_bt JN).2
            rw [hb8] at J3 hy0
            have W3 : Hid (woF (7 - (m + 1)) (anew u b) ((p + (m + 1)) % 8) = without t p) := by
              have := W2.out
              rw [show 7 - m = (7 - (m + 1)) + 1 by omega, woF, show ((p + m) % 8 + 1) % 8 = b by rw [← hb8]; omega, if_neg hy0] at this
              rw [HB8.out]; exact this
            have c0 := (hM.out.at 4 rfl).tkey hb
            have c1 := (hM.out.at 4 rfl).tval hb
            have hkr := J2.out.keys b hb
            have J4 : Hid _ := J3
            obtain ⟨y, ey⟩ : ∃ y, u.k b = y := ⟨_, rfl⟩
            obtain ⟨z, ez⟩ : ∃ z, u.v b = z := ⟨_, rfl⟩
            have RP := RPlace_is (u.set b 0 0) y (by omega) (by omega) ⟨b, hb, by rw [Tb.set_k, if_pos rfl]⟩
            obtain ⟨a, ea⟩ : ∃ a, place (u.set b 0 0) y = a := ⟨_, rfl⟩
            have ha : a < 8 := ea ▸ place_lt _ _
            have ha1 : (a : Int) < 8 := by omega
            have ha0 : (0 : Int) ≤ (a : Int) := by omega
            have AN : Hid (anew u b = (u.set b 0 0).set a y z) := by show anew u b = _; unfold anew; rw [ey, ez, ea]
            rw [ea] at RP
            rw [ey] at c0
            rw [ez] at c1
            clear hb8 J3 hy0 hkr ey ez ea JN
            obtain ⟨bs, hbs⟩ : ∃ q, q = W.heap.size := ⟨_, rfl⟩
            replace hM := hid (hM.out.born [.int .i64 y, .int .i64 z] 68 hbs)
            have HBS : Hid _ := hbs
            clear hbs
            go_wp2_with (first
              | (rw [← HBS.out]; refine sO rfl ((hM.out.at 5 rfl).tthere hb) rfl (rwRl 0 0) ?_
                 replace hM := hid (hM.out.putAt 5 (b * 2) rfl [.int .i64 0, .int .i64 0] (u.set b 0 0).all ((hM.out.at 5 rfl).tset hb 0 0))
                 generalize World.setCells _ _ _ _ = W at hM ⊢))
            clear cl c0 c1 HBS
            replace hM := hid (hM.out.drew)
            refine wp_region_held_drew (S := fun w' => Bo w' bs [.int .i64 y, .int .i64 z]) (by kernel_rfl) (hM.out.at 0 rfl) (fun hH => ?_)
            generalize World.drew _ = W at hM hH  ⊢
            refine tk 1 rfl hH ?_
            simp only [Act.put, p1, p2, p3]
            refine tk 2 rfl hH ?_ (by intro w h; have c0 := h.at 0 rfl; clear h; go_simp; try with_reducible rfl)
            simp only [Act.put, p1, p2, p3]
            refine tk 4 rfl hH ?_ (by intro w h; have c0 := h.at 0 rfl; have c1 := h.at 1 rfl; clear h; go_simp; try with_reducible rfl)
            simp only [Act.put, p1, p2, p3]
            refine rd1 0 rfl (fun K hK => ?_)
            refine ldR rfl (hM.out.at 5 rfl) (rwRS (u.set b 0 0)) ?_
            refine hK.out _ _ (hM.out.at 0 rfl) (fun hH => ?_)
            clear hK K
            try simp only [Act.put, p1, p2, p3]
            refine rd1 3 rfl (fun K hK => ?_)
            go_simp
            refine (RP _).mono ?_
            rintro e W ⟨rfl, hb⟩
            replace hM := hid (hM.out.later hb)
            clear hb
            go_wp2_with fail
            refine hK.out _ _ (hM.out.at 0 rfl) (fun hH => ?_)
            clear hK K
            try simp only [Act.put, p1, p2, p3]
            refine tk 5 rfl hH ?_
            simp only [Act.put, p1, p2, p3]
            refine rd1 6 rfl (fun K hK => ?_)
            refine stO rfl ((hM.out.at 5 rfl).tthere ha) (rwRl y z) ?_
            simp only [Act.put]
            replace hM := hid (hM.out.putAt 5 (a * 2) rfl [.int .i64 y, .int .i64 z] ((u.set b 0 0).set a y z).all ((hM.out.at 5 rfl).tset ha y z))
            refine hK.out _ _ (hM.out.at 0 rfl) (fun hH => ?_)
            clear hK K
            generalize World.setCells _ _ _ _ = W at hM hH ⊢
            try simp only [Act.put, p1, p2, p3]
            refine wpAnyH_done (by kernel_rfl) ?_ _
            go_wp2
            go_roundg (c - (m + 1))
            case measure => omega
            case rel => exact ⟨m + 1, by omega, by omega, by go_num, (u.set b 0 0).set a y z, AN.out ▸ J4, AN.out ▸ W3, hM.out.pick [1, 2, 3, 4, 5]⟩
          · obtain rfl : c = m := by omega
            have E : Hid (without t p = u) := by
              have h1 := W2.out
              have h2 := J2.out.free
              have e : Fp = q := by rw [← HQ.out]; have h1 := J2.out.p8; have h2 := J2.out.F8; have h3 := HDD.out; unfold ds at h3; omega
              rw [e] at h2
              rw [show 7 - c = (7 - (c + 1)) + 1 by omega, woF, show ((p + c) % 8 + 1) % 8 = q by rw [← HQ.out]; omega, if_pos h2] at h1
              exact h1.symm
            go_wp2_with fail
            have SA := said_is (1) (t.v p)
            replace hM := hid (hM.out.drew)
            refine wp_region_held_drew (S := fun w' => Bo w' n u.all) (by kernel_rfl) (hM.out.at 4 rfl) (fun hH => ?_)
            generalize World.drew _ = W at hM hH  ⊢
            refine tkR 0 rfl hH (fun _ h => h) (rwRS u) ?_
            simp only [Act.put, p1, p2, p3]
            refine tk 1 rfl hH ?_
            simp only [Act.put, p1, p2, p3]
            refine rd1 2 rfl (fun K hK => ?_)
            go_simp
            refine (SA _).mono ?_
            rintro e W ⟨rfl, hb⟩
            replace hM := hid (hM.out.later hb)
            clear hb
            go_wp2_with fail
            refine hK.out _ _ (hM.out.at 4 rfl) (fun hH => ?_)
            clear hK K
            try simp only [Act.put, p1, p2, p3]
            refine rd1 3 rfl (fun K hK => ?_)
            refine stR rfl (hM.out.at 2 rfl) ((rwRS Tb.zero).len (rwRS u)) (rwRS u) ?_
            simp only [Act.put]
            replace hM := hid (hM.out.put 2 rfl u.all ((rwRS Tb.zero).len (rwRS u)))
            refine hK.out _ _ (hM.out.at 4 rfl) (fun hH => ?_)
            clear hK K
            generalize World.setCells _ _ _ _ = W at hM hH ⊢
            try simp only [Act.put, p1, p2, p3]
            refine rd1 4 rfl (fun K hK => ?_)
            refine stR rfl (hM.out.at 1 rfl) ((rwA 0 0).len (rwA _ _)) (rwA _ _) ?_
            simp only [Act.put]
            replace hM := hid (hM.out.put 1 rfl [.int .i64 (1), .int .i64 (t.v p)] ((rwA 0 0).len (rwA _ _)))
            refine hK.out _ _ (hM.out.at 4 rfl) (fun hH => ?_)
            clear hK K
            generalize World.setCells _ _ _ _ = W at hM hH ⊢
            try simp only [Act.put, p1, p2, p3]
            refine wpAnyH_done (by kernel_rfl) ?_ _
            go_wp2
            exact bodyPost_ret (res2 Tryz.results80 (hM.out.at 2 rfl) (rwRS u) (hM.out.at 1 rfl) (rwA _ _)) rfl ⟨(by show _ = Ending.returned (.tuple #[.agg (without t p).all.toArray, .agg #[.int .i64 (1), .int .i64 (t.v p)]]); rw [E.out]), hM.out.below⟩
    · have eN : (t.set p 0 0).k q ≠ 0 := by
        have hb := JJ.out.taken q hq8
        refine hb ?_
        have h1 := JJ.out.p8
        have e : ds p q = c + 1 := by rw [← HQ.out]; unfold ds; omega
        exact ⟨by omega, by rw [e, HDD.out]; omega⟩
      have m0 : ((t.set p 0 0).k q == 0) = false := by simp [eN]
      have m1 : ((t.set p 0 0).k q != 0) = true := by simp [eN]
      clear eN
      have BS : Hid (bh p (c + 1) = bh p c ++ [(q : Int)]) := by rw [← HQ.out]; exact bh_succ p c
      have hl : Hid ((bh p c).length + 1 ≤ 1000000) := by have := bh_len p c; show (bh p c).length + 1 ≤ 1000000; omega
      replace hM := hid (hM.out.new (.cells #[.int .i64 (q : Int)] 3))
      have LI : Hid (IsL 0 (wr.alloc (.cells #[.int .i64 (q : Int)] 3)) (.slice (some ⟨wr.heap.size, 0, none⟩) 1 1) [(q : Int)]) := IsL.lit wr [(q : Int)] Nat.zero_lt_one
      have OI : Hid (Own B (wr.alloc (.cells #[.int .i64 (q : Int)] 3)) u9 (bh p c)) := own_new O.out _
      have hBI : B ≤ (wr.alloc (.cells #[.int .i64 (q : Int)] 3)).heap.size := by simp; omega
      have HBI : Hid _ := hBI
      clear O hBI
      go_wp2_with (at_builtin; refine wpList_onto rfl rfl (.tmp 95) (.tmp 98) rfl rfl rfl HBI.out OI.out LI.out hl.out ?_; intro v3 w3 hO3 hb3; replace hM := hid (hM.out.laterA hb3 (by simp; omega)); have Q3 : Hid (Own B w3 v3 (bh p c ++ [(q : Int)]) ∧ B ≤ w3.heap.size) := ⟨hO3, Nat.le_trans HBI.out hb3.size⟩; clear hO3 hb3)
      go_roundg (d - (c + 1))
      case measure => omega
      case rel => exact ⟨c + 1, by omega, by omega, by go_num, BS.out ▸ Q3.out.1, Q3.out.2, hM⟩

theorem RTable_eq {t : Tb} (h : RT t) (o k x : Int) (w : World) : Calls Tryz.prog 80 #[.agg t.all.toArray, .agg #[.int .i64 o, .int .i64 k, .int .i64 x]] w (Told w (tdo t o k x)) := by
  by_cases h6 : o = 6
  · subst h6
    exact rT_count t k x w
  by_cases hb : byKey o k
  · obtain ⟨ho, h1, h2⟩ := hb
    by_cases hh : t.k (place t k) = k
    · rcases ho with rfl | rfl | rfl
      · rw [tdo_put x h1 h2 (Or.inl hh)]; exact rT_put_has t k x hh h h1 h2 w
      · rw [tdo_take x h1 h2 hh]; exact rT_take t k x hh h h1 h2 w
      · rw [tdo_peek x h1 h2, look, if_pos hh]; exact rT_peek t k x hh h h1 h2 w
    · rcases ho with rfl | ho
      · by_cases hl : 6 ≤ len t
        · rw [tdo_full x h1 h2 hh hl]; exact rT_full t k x hh hl h h1 h2 w
        · rw [tdo_put x h1 h2 (Or.inr (by omega))]; exact rT_put_new t k x hh (by omega) h h1 h2 w
      · rw [tdo_absent x ho h1 h2 hh]; exact rT_absent t o k x ho hh h h1 h2 w
  · rw [tdo_wrong t x h6 hb]; exact rT_wrong t o k x h6 hb w
end Go.Proofs.YteogbpaaacmllaaGreatDoor.Tab
namespace Go.Proofs.YteogbpaaacmllaaGreatDoor
set_option maxRecDepth 20000
set_option linter.unusedVariables false
open Go.RowKit

theorem said_to (c y : Int) (w : World) : Calls Tryz.prog 97 #[.int .i64 c, .int .i64 y] w fun e w' => e = .returned (.agg #[.int .i64 c, .int .i64 y]) ∧ w' = w.alloc (.cells #[.int .i64 c, .int .i64 y] 58) := by
  go_enter Tryz.func97, Tryz.ntmps97
  go_wp2
  exact bodyPost_ret (v := .agg #[.int .i64 c, .int .i64 y]) (by simp [results, Tryz.results97, go_sem]) rfl ⟨rfl, rfl⟩

theorem rTally_put_full (n k x : Int) (n0 : 0 ≤ n) (n1 : n ≤ 4294967295) (x0 : 0 ≤ x) (x1 : x ≤ 4294967295) (h : 4294967295 < n + x) (w : World) :
    Calls Tryz.prog 81 #[.int .i64 n, .agg #[.int .i64 1, .int .i64 k, .int .i64 x]] w fun e w' => e = .returned (.tuple #[.int .i64 (n), .agg #[.int .i64 3, .int .i64 0]]) ∧ Below w.heap.size w w' := by
  have hs : IntKind.i64.wrap (n + x) = n + x := by rw [IntKind.wrap_i64]; omega
  go_enter Tryz.func81, Tryz.ntmps81
  go_wp2_with (go_at_call 97; refine (said_to _ _ _).mono ?_; rintro e u1 ⟨rfl, rfl⟩)
  try (go_region_with (go_at_call 97; refine (said_to _ _ _).mono ?_; rintro e u1 ⟨rfl, rfl⟩); all_goals go_wp2)
  all_goals exact bodyPost_ret (v := .tuple #[.int .i64 (n), .agg #[.int .i64 3, .int .i64 0]]) (by simp [results, Tryz.results81, go_sem]) rfl ⟨rfl, by repeat first | with_reducible exact Below.refl _ _ | with_reducible apply Below.drew | (with_reducible refine Below.alloc ?_ ?g _; case g => (simp <;> omega)) | (with_reducible refine Below.setCell ?_ ?g _; case g => (simp <;> omega))⟩
theorem rTally_put (n k x : Int) (n0 : 0 ≤ n) (n1 : n ≤ 4294967295) (x0 : 0 ≤ x) (x1 : x ≤ 4294967295) (h : n + x ≤ 4294967295) (w : World) :
    Calls Tryz.prog 81 #[.int .i64 n, .agg #[.int .i64 1, .int .i64 k, .int .i64 x]] w fun e w' => e = .returned (.tuple #[.int .i64 (n + x), .agg #[.int .i64 1, .int .i64 n]]) ∧ Below w.heap.size w w' := by
  have hs : IntKind.i64.wrap (n + x) = n + x := by rw [IntKind.wrap_i64]; omega
  go_enter Tryz.func81, Tryz.ntmps81
  go_wp2_with (go_at_call 97; refine (said_to _ _ _).mono ?_; rintro e u1 ⟨rfl, rfl⟩)
  try (go_region_with (go_at_call 97; refine (said_to _ _ _).mono ?_; rintro e u1 ⟨rfl, rfl⟩); all_goals go_wp2)
  all_goals exact bodyPost_ret (v := .tuple #[.int .i64 (n + x), .agg #[.int .i64 1, .int .i64 n]]) (by simp [results, Tryz.results81, go_sem]) rfl ⟨rfl, by repeat first | with_reducible exact Below.refl _ _ | with_reducible apply Below.drew | (with_reducible refine Below.alloc ?_ ?g _; case g => (simp <;> omega)) | (with_reducible refine Below.setCell ?_ ?g _; case g => (simp <;> omega))⟩
theorem rTally_take_none (n k x : Int) (n0 : 0 ≤ n) (n1 : n ≤ 4294967295) (x0 : 0 ≤ x) (x1 : x ≤ 4294967295) (h : n < x) (w : World) :
    Calls Tryz.prog 81 #[.int .i64 n, .agg #[.int .i64 2, .int .i64 k, .int .i64 x]] w fun e w' => e = .returned (.tuple #[.int .i64 (n), .agg #[.int .i64 2, .int .i64 0]]) ∧ Below w.heap.size w w' := by
  have hs : IntKind.i64.wrap (n - x) = n - x := by rw [IntKind.wrap_i64]; omega
  have hd : n - x < 0 := by omega
  go_enter Tryz.func81, Tryz.ntmps81
  go_wp2_with (go_at_call 97; refine (said_to _ _ _).mono ?_; rintro e u1 ⟨rfl, rfl⟩)
  try (go_region_with (go_at_call 97; refine (said_to _ _ _).mono ?_; rintro e u1 ⟨rfl, rfl⟩); all_goals go_wp2)
  all_goals exact bodyPost_ret (v := .tuple #[.int .i64 (n), .agg #[.int .i64 2, .int .i64 0]]) (by simp [results, Tryz.results81, go_sem]) rfl ⟨rfl, by repeat first | with_reducible exact Below.refl _ _ | with_reducible apply Below.drew | (with_reducible refine Below.alloc ?_ ?g _; case g => (simp <;> omega)) | (with_reducible refine Below.setCell ?_ ?g _; case g => (simp <;> omega))⟩
theorem rTally_take (n k x : Int) (n0 : 0 ≤ n) (n1 : n ≤ 4294967295) (x0 : 0 ≤ x) (x1 : x ≤ 4294967295) (h : x ≤ n) (w : World) :
    Calls Tryz.prog 81 #[.int .i64 n, .agg #[.int .i64 2, .int .i64 k, .int .i64 x]] w fun e w' => e = .returned (.tuple #[.int .i64 (n - x), .agg #[.int .i64 1, .int .i64 n]]) ∧ Below w.heap.size w w' := by
  have hs : IntKind.i64.wrap (n - x) = n - x := by rw [IntKind.wrap_i64]; omega
  have hd : 0 ≤ n - x := by omega
  go_enter Tryz.func81, Tryz.ntmps81
  go_wp2_with (go_at_call 97; refine (said_to _ _ _).mono ?_; rintro e u1 ⟨rfl, rfl⟩)
  try (go_region_with (go_at_call 97; refine (said_to _ _ _).mono ?_; rintro e u1 ⟨rfl, rfl⟩); all_goals go_wp2)
  all_goals exact bodyPost_ret (v := .tuple #[.int .i64 (n - x), .agg #[.int .i64 1, .int .i64 n]]) (by simp [results, Tryz.results81, go_sem]) rfl ⟨rfl, by repeat first | with_reducible exact Below.refl _ _ | with_reducible apply Below.drew | (with_reducible refine Below.alloc ?_ ?g _; case g => (simp <;> omega)) | (with_reducible refine Below.setCell ?_ ?g _; case g => (simp <;> omega))⟩
theorem rTally_look5 (n k x : Int) (n0 : 0 ≤ n) (n1 : n ≤ 4294967295) (x0 : 0 ≤ x) (x1 : x ≤ 4294967295)  (w : World) :
    Calls Tryz.prog 81 #[.int .i64 n, .agg #[.int .i64 5, .int .i64 k, .int .i64 x]] w fun e w' => e = .returned (.tuple #[.int .i64 (n), .agg #[.int .i64 1, .int .i64 n]]) ∧ Below w.heap.size w w' := by
  go_enter Tryz.func81, Tryz.ntmps81
  go_wp2_with (go_at_call 97; refine (said_to _ _ _).mono ?_; rintro e u1 ⟨rfl, rfl⟩)
  try (go_region_with (go_at_call 97; refine (said_to _ _ _).mono ?_; rintro e u1 ⟨rfl, rfl⟩); all_goals go_wp2)
  all_goals exact bodyPost_ret (v := .tuple #[.int .i64 (n), .agg #[.int .i64 1, .int .i64 n]]) (by simp [results, Tryz.results81, go_sem]) rfl ⟨rfl, by repeat first | with_reducible exact Below.refl _ _ | with_reducible apply Below.drew | (with_reducible refine Below.alloc ?_ ?g _; case g => (simp <;> omega)) | (with_reducible refine Below.setCell ?_ ?g _; case g => (simp <;> omega))⟩
theorem rTally_look6 (n k x : Int) (n0 : 0 ≤ n) (n1 : n ≤ 4294967295) (x0 : 0 ≤ x) (x1 : x ≤ 4294967295)  (w : World) :
    Calls Tryz.prog 81 #[.int .i64 n, .agg #[.int .i64 6, .int .i64 k, .int .i64 x]] w fun e w' => e = .returned (.tuple #[.int .i64 (n), .agg #[.int .i64 1, .int .i64 n]]) ∧ Below w.heap.size w w' := by
  go_enter Tryz.func81, Tryz.ntmps81
  go_wp2_with (go_at_call 97; refine (said_to _ _ _).mono ?_; rintro e u1 ⟨rfl, rfl⟩)
  try (go_region_with (go_at_call 97; refine (said_to _ _ _).mono ?_; rintro e u1 ⟨rfl, rfl⟩); all_goals go_wp2)
  all_goals exact bodyPost_ret (v := .tuple #[.int .i64 (n), .agg #[.int .i64 1, .int .i64 n]]) (by simp [results, Tryz.results81, go_sem]) rfl ⟨rfl, by repeat first | with_reducible exact Below.refl _ _ | with_reducible apply Below.drew | (with_reducible refine Below.alloc ?_ ?g _; case g => (simp <;> omega)) | (with_reducible refine Below.setCell ?_ ?g _; case g => (simp <;> omega))⟩
theorem rTally_wrong (o : Int) (n k x : Int) (n0 : 0 ≤ n) (n1 : n ≤ 4294967295) (x0 : 0 ≤ x) (x1 : x ≤ 4294967295) (m1 : (o == 1) = false) (m2 : (o == 2) = false) (m5 : (o == 5) = false) (m6 : (o == 6) = false) (w : World) :
    Calls Tryz.prog 81 #[.int .i64 n, .agg #[.int .i64 o, .int .i64 k, .int .i64 x]] w fun e w' => e = .returned (.tuple #[.int .i64 (n), .agg #[.int .i64 5, .int .i64 0]]) ∧ Below w.heap.size w w' := by
  go_enter Tryz.func81, Tryz.ntmps81
  go_wp2_with (go_at_call 97; refine (said_to _ _ _).mono ?_; rintro e u1 ⟨rfl, rfl⟩)
  try (go_region_with (go_at_call 97; refine (said_to _ _ _).mono ?_; rintro e u1 ⟨rfl, rfl⟩); all_goals go_wp2)
  all_goals exact bodyPost_ret (v := .tuple #[.int .i64 (n), .agg #[.int .i64 5, .int .i64 0]]) (by simp [results, Tryz.results81, go_sem]) rfl ⟨rfl, by repeat first | with_reducible exact Below.refl _ _ | with_reducible apply Below.drew | (with_reducible refine Below.alloc ?_ ?g _; case g => (simp <;> omega)) | (with_reducible refine Below.setCell ?_ ?g _; case g => (simp <;> omega))⟩
theorem rTally_eq {n o k x m c y : Int} (n0 : 0 ≤ n) (n1 : n ≤ 4294967295) (x0 : 0 ≤ x) (x1 : x ≤ 4294967295) (h : ado n o x = (m, c, y)) (w : World) :
    Calls Tryz.prog 81 #[.int .i64 n, .agg #[.int .i64 o, .int .i64 k, .int .i64 x]] w fun e w' => e = .returned (.tuple #[.int .i64 m, .agg #[.int .i64 c, .int .i64 y]]) ∧ Below w.heap.size w w' := by
  unfold ado at h
  by_cases e1 : o = 1
  · subst e1
    by_cases hf : 4294967295 < n + x
    · simp [hf] at h; obtain ⟨rfl, rfl, rfl⟩ := h; exact rTally_put_full n k x n0 n1 x0 x1 hf w
    · simp [hf] at h; obtain ⟨rfl, rfl, rfl⟩ := h; exact rTally_put n k x n0 n1 x0 x1 (by omega) w
  by_cases e2 : o = 2
  · subst e2
    by_cases hf : n < x
    · simp [hf] at h; obtain ⟨rfl, rfl, rfl⟩ := h; exact rTally_take_none n k x n0 n1 x0 x1 hf w
    · simp [hf] at h; obtain ⟨rfl, rfl, rfl⟩ := h; exact rTally_take n k x n0 n1 x0 x1 (by omega) w
  by_cases e5 : o = 5
  · subst e5
    simp at h; obtain ⟨rfl, rfl, rfl⟩ := h; exact rTally_look5 n k x n0 n1 x0 x1 w
  by_cases e6 : o = 6
  · subst e6
    simp at h; obtain ⟨rfl, rfl, rfl⟩ := h; exact rTally_look6 n k x n0 n1 x0 x1 w
  · simp [e1, e2, e5, e6] at h; obtain ⟨rfl, rfl, rfl⟩ := h
    exact rTally_wrong o n k x n0 n1 x0 x1 (by simp [e1]) (by simp [e2]) (by simp [e5]) (by simp [e6]) w
end Go.Proofs.YteogbpaaacmllaaGreatDoor
namespace Go.Proofs.YteogbpaaacmllaaGreatDoor.Tab
set_option maxRecDepth 20000
open Go.RowKit
set_option linter.unusedVariables false

set_option maxHeartbeats 4000000 in
theorem TDo_1 {B : Nat} {v : Value} {xs ys : List Int} {o k x cc y : Int} (t : Tb) (n0 : Int) {w : World} (h : IsL B w v xs) (hk : ∀ W, IsL B W v xs → Calls Tryz.prog 76 #[v, .agg #[.int .i64 o, .int .i64 k, .int .i64 x]] W (MadeR W v xs ys cc y)) :
    Calls Tryz.prog 54 #[.agg (tg 1 v t n0).toArray, .agg #[.int .i64 o, .int .i64 k, .int .i64 x]] w fun e w' => ∃ v', e = .returned (.tuple #[.agg (tg 1 v' t n0).toArray, .agg #[.int .i64 cc, .int .i64 y]]) ∧ ((v' = v ∧ ys = xs) ∨ IsL w.heap.size w' v' ys) ∧ Below w.heap.size w w' := by
  have HV : Hid (v.oneCell' = true) := by obtain ⟨a, k, hv⟩ := h.form; rw [hv]; rfl
  have RC : Hid _ := hk
  clear hk
  have hM : Hid _ := (((((((Ms.nil w).oldL h).born (tg 1 v t n0) 72 (b := w.heap.size) rfl).born [.int .i64 o, .int .i64 k, .int .i64 x] 44 (b := w.heap.size + 1) (by simp)).bornR (tg_zero 0).symm 72 (b := w.heap.size + 2) (by simp)).born [.int .i64 0, .int .i64 0] 58 (b := w.heap.size + 3) (by simp)).born [.int .i64 0, .int .i64 0] 58 (b := w.heap.size + 4) (by simp))
  clear h
  have c1 := hM.out.cell 4 0 rfl rfl
  have c2 := hM.out.cell 4 1 rfl rfl
  have c3 := hM.out.cell 3 0 rfl rfl
  have c4 := hM.out.cell 3 1 rfl rfl
  have c5 := hM.out.cell 3 2 rfl rfl
  go_enter Tryz.func54, Tryz.ntmps54
  go_wp2_with fail
  clear c1 c2 c3 c4 c5
  generalize World.alloc _ _ = W at hM ⊢
  generalize hsz : w.heap.size = n at hM ⊢
  clear hsz
  have hnW := hM.out.le
  refine (RC.out _ (hM.out.isL 0 rfl)).mono ?_
  rintro e W ⟨v2, rfl, hv2, hb⟩
  obtain ⟨B2, hB2, hM⟩ := hM.out.laterM hb hv2
  clear hb
  clear hv2
  obtain ⟨a2, c2, rfl⟩ := (hM.out.isL 0 rfl).form
  generalize ys.length = l2 at hM hB2 ⊢
  go_wp2_with (first
    | (refine s1 rfl (hM.out.at 4 rfl) 1 rfl (.slice a2 l2 c2) rfl sz_sl ?_ (by rw [tg_length]; decide)
       replace hM := hid (hM.out.put1 4 1 rfl (.slice a2 l2 c2) (tg 1 (.slice a2 l2 c2) t n0) (by rw [tg_length]; decide) (tg_list _ _ (.slice a2 l2 c2) _ _))
       generalize World.setCell _ _ _ = W at hM ⊢)
    | (refine sR rfl (hM.out.at 0 rfl) rfl ((rwA 0 0).len (rwA cc y)) (rwA cc y) ?_
       replace hM := hid (hM.out.put 0 rfl [.int .i64 cc, .int .i64 y] ((rwA 0 0).len (rwA cc y)))
       generalize World.setCells _ _ _ _ = W at hM ⊢))
  replace hM := hid (hM.out.drew)
  refine wp_region_held_drew (S := fun w' => Bo w' n (tg 1 (.slice a2 l2 c2) t n0) ∧ Bo w' (n + 4) [.int .i64 cc, .int .i64 y]) (by kernel_rfl) ⟨hM.out.at 4 rfl, hM.out.at 0 rfl⟩ (fun hH => ?_)
  generalize World.drew _ = W at hM hH  ⊢
  refine tkR 0 rfl hH (fun _ h => h.1) (rwTh 1 rfl t n0) ?_
  simp only [Act.put, p1, p2, p3]
  refine tk 1 rfl hH ?_ (by intro w h; have c0 := h.2.at 0 rfl; have c1 := h.2.at 1 rfl; clear h; go_simp; try with_reducible rfl)
  simp only [Act.put, p1, p2, p3]
  refine rd1 2 rfl (fun K hK => ?_)
  refine stR rfl (hM.out.at 2 rfl) (rwN.len (rwTh 1 rfl t n0)) (rwTh 1 rfl t n0) ?_
  simp only [Act.put]
  replace hM := hid (hM.out.put 2 rfl (tg 1 (.slice a2 l2 c2) t n0) (rwN.len (rwTh 1 rfl t n0)))
  refine hK.out _ _ ⟨hM.out.at 4 rfl, hM.out.at 0 rfl⟩ (fun hH => ?_)
  clear hK K
  generalize World.setCells _ _ _ _ = W at hM hH ⊢
  try simp only [Act.put, p1, p2, p3]
  refine rd1 3 rfl (fun K hK => ?_)
  refine stR rfl (hM.out.at 1 rfl) ((rwA 0 0).len (rwA cc y)) (rwA cc y) ?_
  simp only [Act.put]
  replace hM := hid (hM.out.put 1 rfl [.int .i64 cc, .int .i64 y] ((rwA 0 0).len (rwA cc y)))
  refine hK.out _ _ ⟨hM.out.at 4 rfl, hM.out.at 0 rfl⟩ (fun hH => ?_)
  clear hK K
  generalize World.setCells _ _ _ _ = W at hM hH ⊢
  try simp only [Act.put, p1, p2, p3]
  refine wpAnyH_done (by kernel_rfl) ?_ _
  go_wp2
  exact bodyPost_ret (res2 Tryz.results54 (hM.out.at 2 rfl) (rwTh 1 rfl t n0) (hM.out.at 1 rfl) (rwA _ _)) rfl ⟨_, rfl, hB2.out.imp id fun hB => ((hM.out.isL 0 rfl)).mono (by have := hM.out.size; have := hnW; omega), hM.out.below⟩
set_option maxHeartbeats 4000000 in
theorem TDo_2 {B : Nat} {v : Value} {xs ys : List Int} {o k x cc y : Int} (t : Tb) (n0 : Int) {w : World} (h : IsL B w v xs) (hk : ∀ W, IsL B W v xs → Calls Tryz.prog 77 #[v, .agg #[.int .i64 o, .int .i64 k, .int .i64 x]] W (MadeR W v xs ys cc y)) :
    Calls Tryz.prog 54 #[.agg (tg 2 v t n0).toArray, .agg #[.int .i64 o, .int .i64 k, .int .i64 x]] w fun e w' => ∃ v', e = .returned (.tuple #[.agg (tg 2 v' t n0).toArray, .agg #[.int .i64 cc, .int .i64 y]]) ∧ ((v' = v ∧ ys = xs) ∨ IsL w.heap.size w' v' ys) ∧ Below w.heap.size w w' := by
  have HV : Hid (v.oneCell' = true) := by obtain ⟨a, k, hv⟩ := h.form; rw [hv]; rfl
  have RC : Hid _ := hk
  clear hk
  have hM : Hid _ := (((((((Ms.nil w).oldL h).born (tg 2 v t n0) 72 (b := w.heap.size) rfl).born [.int .i64 o, .int .i64 k, .int .i64 x] 44 (b := w.heap.size + 1) (by simp)).bornR (tg_zero 0).symm 72 (b := w.heap.size + 2) (by simp)).born [.int .i64 0, .int .i64 0] 58 (b := w.heap.size + 3) (by simp)).born [.int .i64 0, .int .i64 0] 58 (b := w.heap.size + 4) (by simp))
  clear h
  have c1 := hM.out.cell 4 0 rfl rfl
  have c2 := hM.out.cell 4 1 rfl rfl
  have c3 := hM.out.cell 3 0 rfl rfl
  have c4 := hM.out.cell 3 1 rfl rfl
  have c5 := hM.out.cell 3 2 rfl rfl
  go_enter Tryz.func54, Tryz.ntmps54
  go_wp2_with fail
  clear c1 c2 c3 c4 c5
  generalize World.alloc _ _ = W at hM ⊢
  generalize hsz : w.heap.size = n at hM ⊢
  clear hsz
  have hnW := hM.out.le
  refine (RC.out _ (hM.out.isL 0 rfl)).mono ?_
  rintro e W ⟨v2, rfl, hv2, hb⟩
  obtain ⟨B2, hB2, hM⟩ := hM.out.laterM hb hv2
  clear hb
  clear hv2
  obtain ⟨a2, c2, rfl⟩ := (hM.out.isL 0 rfl).form
  generalize ys.length = l2 at hM hB2 ⊢
  go_wp2_with (first
    | (refine s1 rfl (hM.out.at 4 rfl) 1 rfl (.slice a2 l2 c2) rfl sz_sl ?_ (by rw [tg_length]; decide)
       replace hM := hid (hM.out.put1 4 1 rfl (.slice a2 l2 c2) (tg 2 (.slice a2 l2 c2) t n0) (by rw [tg_length]; decide) (tg_list _ _ (.slice a2 l2 c2) _ _))
       generalize World.setCell _ _ _ = W at hM ⊢)
    | (refine sR rfl (hM.out.at 0 rfl) rfl ((rwA 0 0).len (rwA cc y)) (rwA cc y) ?_
       replace hM := hid (hM.out.put 0 rfl [.int .i64 cc, .int .i64 y] ((rwA 0 0).len (rwA cc y)))
       generalize World.setCells _ _ _ _ = W at hM ⊢))
  replace hM := hid (hM.out.drew)
  refine wp_region_held_drew (S := fun w' => Bo w' n (tg 2 (.slice a2 l2 c2) t n0) ∧ Bo w' (n + 4) [.int .i64 cc, .int .i64 y]) (by kernel_rfl) ⟨hM.out.at 4 rfl, hM.out.at 0 rfl⟩ (fun hH => ?_)
  generalize World.drew _ = W at hM hH  ⊢
  refine tkR 0 rfl hH (fun _ h => h.1) (rwTh 2 rfl t n0) ?_
  simp only [Act.put, p1, p2, p3]
  refine tk 1 rfl hH ?_ (by intro w h; have c0 := h.2.at 0 rfl; have c1 := h.2.at 1 rfl; clear h; go_simp; try with_reducible rfl)
  simp only [Act.put, p1, p2, p3]
  refine rd1 2 rfl (fun K hK => ?_)
  refine stR rfl (hM.out.at 2 rfl) (rwN.len (rwTh 2 rfl t n0)) (rwTh 2 rfl t n0) ?_
  simp only [Act.put]
  replace hM := hid (hM.out.put 2 rfl (tg 2 (.slice a2 l2 c2) t n0) (rwN.len (rwTh 2 rfl t n0)))
  refine hK.out _ _ ⟨hM.out.at 4 rfl, hM.out.at 0 rfl⟩ (fun hH => ?_)
  clear hK K
  generalize World.setCells _ _ _ _ = W at hM hH ⊢
  try simp only [Act.put, p1, p2, p3]
  refine rd1 3 rfl (fun K hK => ?_)
  refine stR rfl (hM.out.at 1 rfl) ((rwA 0 0).len (rwA cc y)) (rwA cc y) ?_
  simp only [Act.put]
  replace hM := hid (hM.out.put 1 rfl [.int .i64 cc, .int .i64 y] ((rwA 0 0).len (rwA cc y)))
  refine hK.out _ _ ⟨hM.out.at 4 rfl, hM.out.at 0 rfl⟩ (fun hH => ?_)
  clear hK K
  generalize World.setCells _ _ _ _ = W at hM hH ⊢
  try simp only [Act.put, p1, p2, p3]
  refine wpAnyH_done (by kernel_rfl) ?_ _
  go_wp2
  exact bodyPost_ret (res2 Tryz.results54 (hM.out.at 2 rfl) (rwTh 2 rfl t n0) (hM.out.at 1 rfl) (rwA _ _)) rfl ⟨_, rfl, hB2.out.imp id fun hB => ((hM.out.isL 0 rfl)).mono (by have := hM.out.size; have := hnW; omega), hM.out.below⟩
set_option maxHeartbeats 4000000 in
theorem TDo_3 {B : Nat} {v : Value} {xs ys : List Int} {o k x cc y : Int} (t : Tb) (n0 : Int) {w : World} (h : IsL B w v xs) (hk : ∀ W, IsL B W v xs → Calls Tryz.prog 78 #[v, .agg #[.int .i64 o, .int .i64 k, .int .i64 x]] W (MadeR W v xs ys cc y)) :
    Calls Tryz.prog 54 #[.agg (tg 3 v t n0).toArray, .agg #[.int .i64 o, .int .i64 k, .int .i64 x]] w fun e w' => ∃ v', e = .returned (.tuple #[.agg (tg 3 v' t n0).toArray, .agg #[.int .i64 cc, .int .i64 y]]) ∧ ((v' = v ∧ ys = xs) ∨ IsL w.heap.size w' v' ys) ∧ Below w.heap.size w w' := by
  have HV : Hid (v.oneCell' = true) := by obtain ⟨a, k, hv⟩ := h.form; rw [hv]; rfl
  have RC : Hid _ := hk
  clear hk
  have hM : Hid _ := (((((((Ms.nil w).oldL h).born (tg 3 v t n0) 72 (b := w.heap.size) rfl).born [.int .i64 o, .int .i64 k, .int .i64 x] 44 (b := w.heap.size + 1) (by simp)).bornR (tg_zero 0).symm 72 (b := w.heap.size + 2) (by simp)).born [.int .i64 0, .int .i64 0] 58 (b := w.heap.size + 3) (by simp)).born [.int .i64 0, .int .i64 0] 58 (b := w.heap.size + 4) (by simp))
  clear h
  have c1 := hM.out.cell 4 0 rfl rfl
  have c2 := hM.out.cell 4 1 rfl rfl
  have c3 := hM.out.cell 3 0 rfl rfl
  have c4 := hM.out.cell 3 1 rfl rfl
  have c5 := hM.out.cell 3 2 rfl rfl
  go_enter Tryz.func54, Tryz.ntmps54
  go_wp2_with fail
  clear c1 c2 c3 c4 c5
  generalize World.alloc _ _ = W at hM ⊢
  generalize hsz : w.heap.size = n at hM ⊢
  clear hsz
  have hnW := hM.out.le
  refine (RC.out _ (hM.out.isL 0 rfl)).mono ?_
  rintro e W ⟨v2, rfl, hv2, hb⟩
  obtain ⟨B2, hB2, hM⟩ := hM.out.laterM hb hv2
  clear hb
  clear hv2
  obtain ⟨a2, c2, rfl⟩ := (hM.out.isL 0 rfl).form
  generalize ys.length = l2 at hM hB2 ⊢
  go_wp2_with (first
    | (refine s1 rfl (hM.out.at 4 rfl) 1 rfl (.slice a2 l2 c2) rfl sz_sl ?_ (by rw [tg_length]; decide)
       replace hM := hid (hM.out.put1 4 1 rfl (.slice a2 l2 c2) (tg 3 (.slice a2 l2 c2) t n0) (by rw [tg_length]; decide) (tg_list _ _ (.slice a2 l2 c2) _ _))
       generalize World.setCell _ _ _ = W at hM ⊢)
    | (refine sR rfl (hM.out.at 0 rfl) rfl ((rwA 0 0).len (rwA cc y)) (rwA cc y) ?_
       replace hM := hid (hM.out.put 0 rfl [.int .i64 cc, .int .i64 y] ((rwA 0 0).len (rwA cc y)))
       generalize World.setCells _ _ _ _ = W at hM ⊢))
  replace hM := hid (hM.out.drew)
  refine wp_region_held_drew (S := fun w' => Bo w' n (tg 3 (.slice a2 l2 c2) t n0) ∧ Bo w' (n + 4) [.int .i64 cc, .int .i64 y]) (by kernel_rfl) ⟨hM.out.at 4 rfl, hM.out.at 0 rfl⟩ (fun hH => ?_)
  generalize World.drew _ = W at hM hH  ⊢
  refine tkR 0 rfl hH (fun _ h => h.1) (rwTh 3 rfl t n0) ?_
  simp only [Act.put, p1, p2, p3]
  refine tk 1 rfl hH ?_ (by intro w h; have c0 := h.2.at 0 rfl; have c1 := h.2.at 1 rfl; clear h; go_simp; try with_reducible rfl)
  simp only [Act.put, p1, p2, p3]
  refine rd1 2 rfl (fun K hK => ?_)
  refine stR rfl (hM.out.at 2 rfl) (rwN.len (rwTh 3 rfl t n0)) (rwTh 3 rfl t n0) ?_
  simp only [Act.put]
  replace hM := hid (hM.out.put 2 rfl (tg 3 (.slice a2 l2 c2) t n0) (rwN.len (rwTh 3 rfl t n0)))
  refine hK.out _ _ ⟨hM.out.at 4 rfl, hM.out.at 0 rfl⟩ (fun hH => ?_)
  clear hK K
  generalize World.setCells _ _ _ _ = W at hM hH ⊢
  try simp only [Act.put, p1, p2, p3]
  refine rd1 3 rfl (fun K hK => ?_)
  refine stR rfl (hM.out.at 1 rfl) ((rwA 0 0).len (rwA cc y)) (rwA cc y) ?_
  simp only [Act.put]
  replace hM := hid (hM.out.put 1 rfl [.int .i64 cc, .int .i64 y] ((rwA 0 0).len (rwA cc y)))
  refine hK.out _ _ ⟨hM.out.at 4 rfl, hM.out.at 0 rfl⟩ (fun hH => ?_)
  clear hK K
  generalize World.setCells _ _ _ _ = W at hM hH ⊢
  try simp only [Act.put, p1, p2, p3]
  refine wpAnyH_done (by kernel_rfl) ?_ _
  go_wp2
  exact bodyPost_ret (res2 Tryz.results54 (hM.out.at 2 rfl) (rwTh 3 rfl t n0) (hM.out.at 1 rfl) (rwA _ _)) rfl ⟨_, rfl, hB2.out.imp id fun hB => ((hM.out.isL 0 rfl)).mono (by have := hM.out.size; have := hnW; omega), hM.out.below⟩
set_option maxHeartbeats 4000000 in
theorem TDo_4 {B : Nat} {v : Value} {xs ys : List Int} {o k x cc y : Int} (t : Tb) (n0 : Int) {w : World} (h : IsL B w v xs) (hk : ∀ W, IsL B W v xs → Calls Tryz.prog 79 #[v, .agg #[.int .i64 o, .int .i64 k, .int .i64 x]] W (MadeR W v xs ys cc y)) :
    Calls Tryz.prog 54 #[.agg (tg 4 v t n0).toArray, .agg #[.int .i64 o, .int .i64 k, .int .i64 x]] w fun e w' => ∃ v', e = .returned (.tuple #[.agg (tg 4 v' t n0).toArray, .agg #[.int .i64 cc, .int .i64 y]]) ∧ ((v' = v ∧ ys = xs) ∨ IsL w.heap.size w' v' ys) ∧ Below w.heap.size w w' := by
  have HV : Hid (v.oneCell' = true) := by obtain ⟨a, k, hv⟩ := h.form; rw [hv]; rfl
  have RC : Hid _ := hk
  clear hk
  have hM : Hid _ := (((((((Ms.nil w).oldL h).born (tg 4 v t n0) 72 (b := w.heap.size) rfl).born [.int .i64 o, .int .i64 k, .int .i64 x] 44 (b := w.heap.size + 1) (by simp)).bornR (tg_zero 0).symm 72 (b := w.heap.size + 2) (by simp)).born [.int .i64 0, .int .i64 0] 58 (b := w.heap.size + 3) (by simp)).born [.int .i64 0, .int .i64 0] 58 (b := w.heap.size + 4) (by simp))
  clear h
  have c1 := hM.out.cell 4 0 rfl rfl
  have c2 := hM.out.cell 4 1 rfl rfl
  have c3 := hM.out.cell 3 0 rfl rfl
  have c4 := hM.out.cell 3 1 rfl rfl
  have c5 := hM.out.cell 3 2 rfl rfl
  go_enter Tryz.func54, Tryz.ntmps54
  go_wp2_with fail
  clear c1 c2 c3 c4 c5
  generalize World.alloc _ _ = W at hM ⊢
  generalize hsz : w.heap.size = n at hM ⊢
  clear hsz
  have hnW := hM.out.le
  refine (RC.out _ (hM.out.isL 0 rfl)).mono ?_
  rintro e W ⟨v2, rfl, hv2, hb⟩
  obtain ⟨B2, hB2, hM⟩ := hM.out.laterM hb hv2
  clear hb
  clear hv2
  obtain ⟨a2, c2, rfl⟩ := (hM.out.isL 0 rfl).form
  generalize ys.length = l2 at hM hB2 ⊢
  go_wp2_with (first
    | (refine s1 rfl (hM.out.at 4 rfl) 1 rfl (.slice a2 l2 c2) rfl sz_sl ?_ (by rw [tg_length]; decide)
       replace hM := hid (hM.out.put1 4 1 rfl (.slice a2 l2 c2) (tg 4 (.slice a2 l2 c2) t n0) (by rw [tg_length]; decide) (tg_list _ _ (.slice a2 l2 c2) _ _))
       generalize World.setCell _ _ _ = W at hM ⊢)
    | (refine sR rfl (hM.out.at 0 rfl) rfl ((rwA 0 0).len (rwA cc y)) (rwA cc y) ?_
       replace hM := hid (hM.out.put 0 rfl [.int .i64 cc, .int .i64 y] ((rwA 0 0).len (rwA cc y)))
       generalize World.setCells _ _ _ _ = W at hM ⊢))
  replace hM := hid (hM.out.drew)
  refine wp_region_held_drew (S := fun w' => Bo w' n (tg 4 (.slice a2 l2 c2) t n0) ∧ Bo w' (n + 4) [.int .i64 cc, .int .i64 y]) (by kernel_rfl) ⟨hM.out.at 4 rfl, hM.out.at 0 rfl⟩ (fun hH => ?_)
  generalize World.drew _ = W at hM hH  ⊢
  refine tkR 0 rfl hH (fun _ h => h.1) (rwTh 4 rfl t n0) ?_
  simp only [Act.put, p1, p2, p3]
  refine tk 1 rfl hH ?_ (by intro w h; have c0 := h.2.at 0 rfl; have c1 := h.2.at 1 rfl; clear h; go_simp; try with_reducible rfl)
  simp only [Act.put, p1, p2, p3]
  refine rd1 2 rfl (fun K hK => ?_)
  refine stR rfl (hM.out.at 2 rfl) (rwN.len (rwTh 4 rfl t n0)) (rwTh 4 rfl t n0) ?_
  simp only [Act.put]
  replace hM := hid (hM.out.put 2 rfl (tg 4 (.slice a2 l2 c2) t n0) (rwN.len (rwTh 4 rfl t n0)))
  refine hK.out _ _ ⟨hM.out.at 4 rfl, hM.out.at 0 rfl⟩ (fun hH => ?_)
  clear hK K
  generalize World.setCells _ _ _ _ = W at hM hH ⊢
  try simp only [Act.put, p1, p2, p3]
  refine rd1 3 rfl (fun K hK => ?_)
  refine stR rfl (hM.out.at 1 rfl) ((rwA 0 0).len (rwA cc y)) (rwA cc y) ?_
  simp only [Act.put]
  replace hM := hid (hM.out.put 1 rfl [.int .i64 cc, .int .i64 y] ((rwA 0 0).len (rwA cc y)))
  refine hK.out _ _ ⟨hM.out.at 4 rfl, hM.out.at 0 rfl⟩ (fun hH => ?_)
  clear hK K
  generalize World.setCells _ _ _ _ = W at hM hH ⊢
  try simp only [Act.put, p1, p2, p3]
  refine wpAnyH_done (by kernel_rfl) ?_ _
  go_wp2
  exact bodyPost_ret (res2 Tryz.results54 (hM.out.at 2 rfl) (rwTh 4 rfl t n0) (hM.out.at 1 rfl) (rwA _ _)) rfl ⟨_, rfl, hB2.out.imp id fun hB => ((hM.out.isL 0 rfl)).mono (by have := hM.out.size; have := hnW; omega), hM.out.below⟩
set_option maxHeartbeats 4000000 in
theorem TDo_5 {v : Value} (hv : v.oneCell' = true) {t u : Tb} {o k x cc y : Int} (n0 : Int) {w : World} (hr : RT t) (hq : tdo t o k x = (u, cc, y)) :
    Calls Tryz.prog 54 #[.agg (tg 5 v t n0).toArray, .agg #[.int .i64 o, .int .i64 k, .int .i64 x]] w fun e w' => e = .returned (.tuple #[.agg (tg 5 v u n0).toArray, .agg #[.int .i64 cc, .int .i64 y]]) ∧ Below w.heap.size w w' := by
  have HV : Hid (v.oneCell' = true) := hv
  have RC : Hid (∀ W, Calls Tryz.prog 80 #[.agg t.all.toArray, .agg #[.int .i64 o, .int .i64 k, .int .i64 x]] W fun e w' => e = .returned (.tuple #[.agg u.all.toArray, .agg #[.int .i64 cc, .int .i64 y]]) ∧ Below W.heap.size W w') := fun W => by have := RTable_eq hr o k x W; rw [hq] at this; exact this
  clear hr hq hv
  have hM : Hid _ := ((((((Ms.nil w).born (tg 5 v t n0) 72 (b := w.heap.size) rfl).born [.int .i64 o, .int .i64 k, .int .i64 x] 44 (b := w.heap.size + 1) (by simp)).bornR (tg_zero 0).symm 72 (b := w.heap.size + 2) (by simp)).born [.int .i64 0, .int .i64 0] 58 (b := w.heap.size + 3) (by simp)).born [.int .i64 0, .int .i64 0] 58 (b := w.heap.size + 4) (by simp))
  have c1 := hM.out.cell 4 0 rfl rfl
  have c2 := hM.out.cell 3 0 rfl rfl
  have c3 := hM.out.cell 3 1 rfl rfl
  have c4 := hM.out.cell 3 2 rfl rfl
  go_enter Tryz.func54, Tryz.ntmps54
  go_wp2_with (first
    | (refine lO rfl (hM.out.at 4 rfl).slots rfl (rwRS t) ?_))
  clear c1 c2 c3 c4
  generalize World.alloc _ _ = W at hM ⊢
  generalize hsz : w.heap.size = n at hM ⊢
  clear hsz
  refine (RC.out _).mono ?_
  rintro e W ⟨rfl, hb⟩
  replace hM := hid (hM.out.later hb)
  clear hb
  go_wp2_with (first
    | (refine sO rfl ((hM.out.at 4 rfl).thereTb u) rfl (rwRS u) ?_
       replace hM := hid (hM.out.putAt 4 2 rfl u.all (tg 5 v u n0) ((hM.out.at 4 rfl).setTab u))
       generalize World.setCells _ _ _ _ = W at hM ⊢)
    | (refine sR rfl (hM.out.at 0 rfl) rfl ((rwA 0 0).len (rwA cc y)) (rwA cc y) ?_
       replace hM := hid (hM.out.put 0 rfl [.int .i64 cc, .int .i64 y] ((rwA 0 0).len (rwA cc y)))
       generalize World.setCells _ _ _ _ = W at hM ⊢))
  replace hM := hid (hM.out.drew)
  refine wp_region_held_drew (S := fun w' => Bo w' n (tg 5 v u n0) ∧ Bo w' (n + 4) [.int .i64 cc, .int .i64 y]) (by kernel_rfl) ⟨hM.out.at 4 rfl, hM.out.at 0 rfl⟩ (fun hH => ?_)
  generalize World.drew _ = W at hM hH  ⊢
  refine tkR 0 rfl hH (fun _ h => h.1) (rwTh _ HV.out u n0) ?_
  simp only [Act.put, p1, p2, p3]
  refine tk 1 rfl hH ?_ (by intro w h; have c0 := h.2.at 0 rfl; have c1 := h.2.at 1 rfl; clear h; go_simp; try with_reducible rfl)
  simp only [Act.put, p1, p2, p3]
  refine rd1 2 rfl (fun K hK => ?_)
  refine stR rfl (hM.out.at 2 rfl) (rwN.len (rwTh _ HV.out u n0)) (rwTh _ HV.out u n0) ?_
  simp only [Act.put]
  replace hM := hid (hM.out.put 2 rfl (tg 5 v u n0) (rwN.len (rwTh _ HV.out u n0)))
  refine hK.out _ _ ⟨hM.out.at 4 rfl, hM.out.at 0 rfl⟩ (fun hH => ?_)
  clear hK K
  generalize World.setCells _ _ _ _ = W at hM hH ⊢
  try simp only [Act.put, p1, p2, p3]
  refine rd1 3 rfl (fun K hK => ?_)
  refine stR rfl (hM.out.at 1 rfl) ((rwA 0 0).len (rwA cc y)) (rwA cc y) ?_
  simp only [Act.put]
  replace hM := hid (hM.out.put 1 rfl [.int .i64 cc, .int .i64 y] ((rwA 0 0).len (rwA cc y)))
  refine hK.out _ _ ⟨hM.out.at 4 rfl, hM.out.at 0 rfl⟩ (fun hH => ?_)
  clear hK K
  generalize World.setCells _ _ _ _ = W at hM hH ⊢
  try simp only [Act.put, p1, p2, p3]
  refine wpAnyH_done (by kernel_rfl) ?_ _
  go_wp2
  exact bodyPost_ret (res2 Tryz.results54 (hM.out.at 2 rfl) (rwTh _ HV.out u n0) (hM.out.at 1 rfl) (rwA _ _)) rfl ⟨rfl, hM.out.below⟩
set_option maxHeartbeats 4000000 in
theorem TDo_6 {v : Value} (hv : v.oneCell' = true) (t : Tb) {o k x cc y n0 m : Int} {w : World} (n1 : 0 ≤ n0) (n2 : n0 ≤ 4294967295) (x0 : 0 ≤ x) (x1 : x ≤ 4294967295) (hq : ado n0 o x = (m, cc, y)) :
    Calls Tryz.prog 54 #[.agg (tg 6 v t n0).toArray, .agg #[.int .i64 o, .int .i64 k, .int .i64 x]] w fun e w' => e = .returned (.tuple #[.agg (tg 6 v t m).toArray, .agg #[.int .i64 cc, .int .i64 y]]) ∧ Below w.heap.size w w' := by
  have HV : Hid (v.oneCell' = true) := hv
  have RC : Hid (∀ W, _) := fun W => rTally_eq (k := k) n1 n2 x0 x1 hq W
  clear n1 n2 x0 x1 hq hv
  have hM : Hid _ := ((((((Ms.nil w).born (tg 6 v t n0) 72 (b := w.heap.size) rfl).born [.int .i64 o, .int .i64 k, .int .i64 x] 44 (b := w.heap.size + 1) (by simp)).bornR (tg_zero 0).symm 72 (b := w.heap.size + 2) (by simp)).born [.int .i64 0, .int .i64 0] 58 (b := w.heap.size + 3) (by simp)).born [.int .i64 0, .int .i64 0] 58 (b := w.heap.size + 4) (by simp))
  have c1 := hM.out.cell 4 0 rfl rfl
  have x2 := (hM.out.at 4 rfl).tcell.2.2
  have c3 := hM.out.cell 3 0 rfl rfl
  have c4 := hM.out.cell 3 1 rfl rfl
  have c5 := hM.out.cell 3 2 rfl rfl
  go_enter Tryz.func54, Tryz.ntmps54
  go_wp2_with fail
  clear c1 x2 c3 c4 c5
  generalize World.alloc _ _ = W at hM ⊢
  generalize hsz : w.heap.size = n at hM ⊢
  clear hsz
  refine (RC.out _).mono ?_
  rintro e W ⟨rfl, hb⟩
  replace hM := hid (hM.out.later hb)
  clear hb
  go_wp2_with (first
    | (refine s1 rfl (hM.out.at 4 rfl) 18 rfl (.int .i64 m) rfl sz_i ?_ (by rw [tg_length]; decide)
       replace hM := hid (hM.out.put1 4 18 rfl (.int .i64 m) (tg 6 v t m) (by rw [tg_length]; decide) (tg_num _ _ _ _ m))
       generalize World.setCell _ _ _ = W at hM ⊢)
    | (refine sR rfl (hM.out.at 0 rfl) rfl ((rwA 0 0).len (rwA cc y)) (rwA cc y) ?_
       replace hM := hid (hM.out.put 0 rfl [.int .i64 cc, .int .i64 y] ((rwA 0 0).len (rwA cc y)))
       generalize World.setCells _ _ _ _ = W at hM ⊢))
  replace hM := hid (hM.out.drew)
  refine wp_region_held_drew (S := fun w' => Bo w' n (tg 6 v t m) ∧ Bo w' (n + 4) [.int .i64 cc, .int .i64 y]) (by kernel_rfl) ⟨hM.out.at 4 rfl, hM.out.at 0 rfl⟩ (fun hH => ?_)
  generalize World.drew _ = W at hM hH  ⊢
  refine tkR 0 rfl hH (fun _ h => h.1) (rwTh _ HV.out t m) ?_
  simp only [Act.put, p1, p2, p3]
  refine tk 1 rfl hH ?_ (by intro w h; have c0 := h.2.at 0 rfl; have c1 := h.2.at 1 rfl; clear h; go_simp; try with_reducible rfl)
  simp only [Act.put, p1, p2, p3]
  refine rd1 2 rfl (fun K hK => ?_)
  refine stR rfl (hM.out.at 2 rfl) (rwN.len (rwTh _ HV.out t m)) (rwTh _ HV.out t m) ?_
  simp only [Act.put]
  replace hM := hid (hM.out.put 2 rfl (tg 6 v t m) (rwN.len (rwTh _ HV.out t m)))
  refine hK.out _ _ ⟨hM.out.at 4 rfl, hM.out.at 0 rfl⟩ (fun hH => ?_)
  clear hK K
  generalize World.setCells _ _ _ _ = W at hM hH ⊢
  try simp only [Act.put, p1, p2, p3]
  refine rd1 3 rfl (fun K hK => ?_)
  refine stR rfl (hM.out.at 1 rfl) ((rwA 0 0).len (rwA cc y)) (rwA cc y) ?_
  simp only [Act.put]
  replace hM := hid (hM.out.put 1 rfl [.int .i64 cc, .int .i64 y] ((rwA 0 0).len (rwA cc y)))
  refine hK.out _ _ ⟨hM.out.at 4 rfl, hM.out.at 0 rfl⟩ (fun hH => ?_)
  clear hK K
  generalize World.setCells _ _ _ _ = W at hM hH ⊢
  try simp only [Act.put, p1, p2, p3]
  refine wpAnyH_done (by kernel_rfl) ?_ _
  go_wp2
  exact bodyPost_ret (res2 Tryz.results54 (hM.out.at 2 rfl) (rwTh _ HV.out t m) (hM.out.at 1 rfl) (rwA _ _)) rfl ⟨rfl, hM.out.below⟩
end Go.Proofs.YteogbpaaacmllaaGreatDoor.Tab
namespace Go.Proofs.YteogbpaaacmllaaGreatDoor
set_option maxRecDepth 20000
open Go.RowKit

theorem Own.formp {B : Nat} {w : World} {v : Value} {xs : List Int} (h : Own B w v xs) (h0 : 0 < xs.length) : ∃ g c, v = .slice (some ⟨g, 0, none⟩) xs.length c ∧ B ≤ g := by
  rcases h.2 with ⟨_, h1⟩ | ⟨g, cap, cur, rfl, hb, _⟩
  · omega
  · exact ⟨g, cap, rfl, hb⟩

theorem Own.stored {B : Nat} {w : World} {g c : Nat} {xs ys : List Int} (j : Nat) (x : Int) (h : Own B w (.slice (some ⟨g, 0, none⟩) xs.length c) xs) (hy : xs.set j x = ys) : Own B (w.setCell ⟨g, j, none⟩ (.int .i64 x)) (.slice (some ⟨g, 0, none⟩) xs.length c) ys := by
  have := (World.ownsRow.stored h j (.int .i64 x)).1
  subst hy
  unfold Own
  rw [List.map_set, List.length_set]
  exact this

end Go.Proofs.YteogbpaaacmllaaGreatDoor
namespace Go.Proofs.YteogbpaaacmllaaGreatDoor
set_option maxRecDepth 20000
open Go.RowKit

theorem said_is (c y : Int) (w : World) :
    Calls Tryz.prog 97 #[.int .i64 c, .int .i64 y] w fun e w' => e = .returned (.agg #[.int .i64 c, .int .i64 y]) ∧ Below w.heap.size w w' := by
  go_enter Tryz.func97, Tryz.ntmps97
  go_wp2
  exact bodyPost_ret (v := .agg #[.int .i64 c, .int .i64 y]) (by simp [results, Tryz.results97, go_sem]) rfl ⟨rfl, new_below _ _⟩

theorem within_is (n lo hi : Int) (w : World) :
    Calls Tryz.prog 31 #[.int .i64 n, .int .i64 lo, .int .i64 hi] w fun e w' => e = .returned (.bool (decide (lo ≤ n ∧ n ≤ hi))) ∧ w' = w := by
  by_cases h1 : lo ≤ n
  · by_cases h2 : n ≤ hi
    · go_enter Tryz.func31, Tryz.ntmps31
      go_wp2
      go_ret
      exact ⟨by simp [h1, h2], rfl⟩
    · go_enter Tryz.func31, Tryz.ntmps31
      go_wp2
      go_ret
      exact ⟨by simp [h2], rfl⟩
  · go_enter Tryz.func31, Tryz.ntmps31
    go_wp2
    go_ret
    exact ⟨by simp; omega, rfl⟩

/-- append(nil, l...): a copy. -/
theorem run_copy {B : Nat} {w : World} {v : Value} {xs : List Int} (ty : TypeId) (h : IsL B w v xs) (hx : xs.length ≤ 1000000) :
    ∃ v' w', (Builtin.append_ #[66, 66] ty #[.slice none 0 0, v]).run Tryz.prog w = .ok v' w' ∧ Own w.heap.size w' v' xs ∧ Below w.heap.size w w' := by
  obtain ⟨i0, hi, hz0, hz1, hz2⟩ := info_parts info_int
  have own : ∀ (a : Addr) (c : Nat), (∀ j u, (xs.map (Value.int .i64))[j]? = some u → w.cell? (a.add j) = some u) →
      ∃ v' w', (Builtin.append_ #[66, 66] ty #[.slice none 0 0, .slice (some a) xs.length c]).run Tryz.prog w = .ok v' w' ∧ Own w.heap.size w' v' xs ∧ Below w.heap.size w w' := by
    intro a c hc
    obtain ⟨v', w', hr, ho, hg, _⟩ := run_append_own (P := Tryz.prog) w w.heap.size 66 ty 3 i0 (.int .i64 0) 1 8 Tryz.underlying66 hi hz0 hz1 hz2 rfl (by decide) (.slice none 0 0) 0 [] (World.ownsRow_nil w _ _ 1) a xs.length c (xs.map (Value.int .i64)) (by simp) hc (ints_one xs) (by unfold maxLen; omega) (by omega) (Nat.le_refl _)
    refine ⟨v', w', hr, ?_, (Below.refl _ w).grown hg (Nat.le_refl _) (by intro k hk; simp [Value.ownBlock] at hk)⟩
    simpa [Own] using ho
  rcases h with ⟨rfl, a, c, rfl⟩ | ⟨b, off, c, rfl, hB, h0, hc, hcell, _⟩
  · cases a with
    | none =>
      refine ⟨.slice none 0 0, w, ?_, World.ownsRow_nil w _ _ 1, Below.refl _ _⟩
      simp [Builtin.append_, run_underlying Tryz.underlying66, sizeOf, typeInfo, hi, Builtin.lenOf, Builtin.firstCells]
    | some a => exact own a c (by intro j u hu; simp at hu)
  · exact own ⟨b, off, none⟩ c (ints_at hcell)

theorem wpList_copy {P : Program} (hP : P = Tryz.prog) {ops : Array Oper} {rest : List Oper} {o : Oper} {a : Act} {w : World} {Q : Exit → Act → World → Prop} (hgd : o.guard = none) (s x : Operand)
    (ho : o.op = .call { callee := .builtin .append, args := #[s, x], argTypes := #[66, 66] }) (hs : a.eval s = .slice none 0 0) {B : Nat} {v : Value} {xs : List Int} (hx : a.eval x = v) (h : IsL B w v xs) (hn : xs.length ≤ 1000000)
    (k : ∀ v' w', Own w.heap.size w' v' xs → Below w.heap.size w w' → wpList P ops Q rest (a.put o.dst v') w') : wpList P ops Q (o :: rest) a w := by
  subst hP
  refine wpList_plain hgd fun K hK => ?_
  obtain ⟨v', w', hr, h2, h3⟩ := run_copy o.type h hn
  unfold Oper.wp execOp
  simp only [ho, resolve, invoke, builtin, Sem.run_bind, Sem.run_pure, Result.andThen_ok, List.map_toArray, List.map_cons, List.map_nil, hs, hx, hr]
  exact hK _ _ (k v' w' h2 h3)

/-- append(x[:n:n], y...): both, one behind the other. -/
theorem run_join {B : Nat} {w : World} {g off : Nat} {xs ys : List Int} (ty : TypeId) (hB : B ≤ w.heap.size) (h : IsL B w (.slice (some ⟨g, off, none⟩) xs.length xs.length) xs) (ad : Addr) (c : Nat)
    (hy : ∀ j u, (ys.map (Value.int .i64))[j]? = some u → w.cell? (ad.add j) = some u) (hx : xs.length + ys.length ≤ 1000000) :
    ∃ v' w', (Builtin.append_ #[66, 66] ty #[.slice (some ⟨g, off, none⟩) xs.length xs.length, .slice (some ad) ys.length c]).run Tryz.prog w = .ok v' w' ∧ IsL B w' v' (xs ++ ys) ∧ Below w.heap.size w w' := by
  obtain ⟨i0, hi, hz0, hz1, hz2⟩ := info_parts info_int
  by_cases hm : ys.length = 0
  · have : ys = [] := List.eq_nil_of_length_eq_zero hm
    subst this
    have hr := run_append_room_cells (P := Tryz.prog) w 66 ty 3 i0 Tryz.underlying66 hi g off xs.length xs.length ad 0 c [] (by simp) (by simp) (by simp) (by omega) (by simp) (by simp)
    refine ⟨_, _, hr, ?_, ?_⟩
    · rw [List.append_nil]; exact h
    · exact Below.refl _ _
  · have hc : ∀ j u, (xs.map (Value.int .i64))[j]? = some u → w.cell? ((⟨g, off, none⟩ : Addr).add j) = some u := ints_at (fun j hj => h.at hj)
    obtain ⟨v', w', hr, ho, hg⟩ := run_append_arg_grows (P := Tryz.prog) w 66 ty 3 i0 (.int .i64 0) 1 8 Tryz.underlying66 hi hz0 hz1 hz2 rfl (by decide) ⟨g, off, none⟩ xs.length xs.length (xs.map (Value.int .i64)) (by simp) hc ad ys.length c (ys.map (Value.int .i64)) (by simp) hy (by omega) (by unfold maxLen; omega) (by omega)
    refine ⟨v', w', hr, ?_, (Below.refl _ w).grown hg (Nat.le_refl _) (by intro k hk; cases hk)⟩
    have o1 : Own w.heap.size w' v' (xs ++ ys) := by unfold Own; rw [List.map_append, List.length_append]; exact ho
    exact o1.isL.mono hB

theorem step_join {ops : Array Oper} {o : Oper} {a : Act} {w : World} {K : Act → World → Prop} {Q : Exit → Act → World → Prop} {E : Prop}
    (hg : o.guard = none) (s x : Operand) (hop : o.op = Op.call { callee := Callee.builtin Builtin.append, args := #[s, x], argTypes := #[66, 66] })
    {B g off n m c : Nat} {ad : Addr} {xs ys : List Int} (hs : a.eval s = .slice (some ⟨g, off, none⟩) n n) (hx : a.eval x = .slice (some ad) m c) (hn : n = xs.length) (hm : m = ys.length)
    (hB : B ≤ w.heap.size) (h : IsL B w (.slice (some ⟨g, off, none⟩) xs.length xs.length) xs) (hy : ∀ j u, (ys.map (Value.int .i64))[j]? = some u → w.cell? (ad.add j) = some u) (hl : xs.length + ys.length ≤ 1000000)
    (hK : ∀ v' w', IsL B w' v' (xs ++ ys) → Below w.heap.size w w' → K (a.put o.dst v') w') :
    if Region.wanted o (yielded ops a.tmps) = true then Oper.wp Tryz.prog o a w K Q else E := by
  have hw : Region.wanted o (yielded ops a.tmps) = true := by simp [Region.wanted, hg]
  rw [if_pos hw]
  subst hn hm
  obtain ⟨v', w', hr, h1, h2⟩ := run_join o.type hB h ad c hy hl
  unfold Oper.wp
  simp [execOp, hop, resolve, invoke, builtin, hs, hx, hr, Result.andThen]
  exact hK v' w' h1 h2
end Go.Proofs.YteogbpaaacmllaaGreatDoor
