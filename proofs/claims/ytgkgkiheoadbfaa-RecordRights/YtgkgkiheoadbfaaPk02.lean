/- Texts laid together: The reference Words, by its contract; The library's Grow of nothing, and its Concat of two lists, by their contracts; The library functions that are called, by their contracts off the shelf: laid at this program; The library's Clone at lists of numbers; Package queue, by its contracts; Package queue's Do, by its contract; What the keepers' walks carry from world to world: answers in blocks of their own, lists that are written out; Appending onto a row of one's own: the texts that have it here; Package table: Do, by its contract; What slots take in memory: the text that has it here; The reference's row, within, said, TableLen, by their contracts; Rows of this program's types: the reference's tables; Heaps as lists: what rises, what sinks; facts of no program; A thing of the reference's as a. -/
import Derived.Test.YtgkgkiheoadbfaaPk01
import Derived.Laws.MakeOwn
import Derived.Deep.LoopGhost
import Derived.Deep.DeepCutAuto
import Derived.Deep.RegionHeld3
import Derived.Test.YtgkgkiheoadbfaaRows
import Derived.Test.YtgkgkiheoadbfaaPk00
import Derived.Lib.AppendZeros
import Derived.Maps.AppendAt
import Derived.Ground.Names2Prog
import Derived.Shelf.Slices.Clone
import Derived.Ground.SlgnProg
import Derived.Shelf.SlicesE.Clone
import Derived.Test.YtgkgkiheoadbfaaProg
import Derived.WalkKit
namespace Go.Proofs.Ytgkgkiheoadbfaa.Tab
set_option maxRecDepth 20000
open Go.RowKit
set_option linter.unusedVariables false

theorem ixw {e : Int} (h0 : 0 ≤ e) (h1 : e < 1000) : IntKind.i64.wrap e = e ∧ wrap64 e = e := ⟨by rw [IntKind.wrap_i64]; omega, by unfold wrap64; omega⟩
theorem ixn {e : Int} {n : Nat} (h : e = (n : Int)) : e.toNat = n := by omega
theorem made32 : madeCells (Value.int .u64 0).cells 32 = (rl wz).toArray := by kernel_rfl
theorem mk32 (w : World) : (Instr.makeSlice 31 (.int .i64 32) (.int .i64 32)).run Try.prog w = .ok (.slice (some ⟨w.heap.size, 0, none⟩) 32 32) (w.alloc (.cells (rl wz).toArray 22)) := by
  obtain ⟨i, hi, hz, h1, h2⟩ := info_parts info_u64
  have := run_make (P := Try.prog) w 31 22 i _ Try.underlying31 hi hz .i64 .i64 32 32 (by decide) (by decide) (by rw [h2]; decide) (by decide)
  rw [h1] at this
  rw [← made32]
  exact this
theorem mk32b (w : World) (o : Obj) : (Instr.makeSlice 31 (.int .i64 32) (.int .i64 32)).run Try.prog (w.alloc o) = .ok (.slice (some ⟨w.heap.size + 1, 0, none⟩) 32 32) ((w.alloc o).alloc (.cells (rl wz).toArray 22)) := by
  have := mk32 (w.alloc o)
  simpa using this
theorem upw_self {f : Nat → Nat} {j x : Nat} (h : f j = x) : upw f j x = f := by
  funext k; unfold upw; by_cases e : k = j
  · rw [if_pos e, e, h]
  · rw [if_neg e]
set_option maxHeartbeats 8000000 in
theorem Words_is {ρ c : Nat → Nat} {th : List Value} (hl : th.length = 19) (ho : ∀ v ∈ th, v.oneCell' = true) (hrow : Rw Try.prog 40 th) (h0 : th.getD 0 undef = .int .i64 ((ρ 0 : Nat) : Int)) (h6 : ρ 0 ≤ 6) (hc : ∀ j, j < 17 → c j = ob ρ j) (U : ∀ j, j < 32 → ρ j < 18446744073709551616) (hA : ∀ t, t < 4 → ρ (18 + t) = 0 ∨ Aw (ρ (18 + t))) (w : World) (CE : ∀ W, Below w.heap.size w W → Calls Try.prog 41 #[.agg th.toArray] W fun e w' => Wd W.heap.size e w' c ∧ Below W.heap.size W w') :
    Calls Try.prog 26 #[.agg (rv (rf th ρ 4)).toArray] w (fun e w' => (∃ b, e = .returned (.slice (some ⟨b, 0, none⟩) 32 32) ∧ w.heap.size ≤ b ∧ Bo w' b (rl (nw ρ))) ∧ Below w.heap.size w w') := by
  have AWI : Hid (∀ t, t < 4 → ∃ ae : Value, ∀ w, Calls Try.prog 43 #[.agg #[.int .i64 (ρ (18 + t) / 4294967296 : Nat), .int .i64 (ρ (18 + t) % 4294967296 : Nat)]] w fun e w' => e = .returned (.tuple #[.int .u64 (ρ (18 + t) : Nat), ae]) ∧ Below w.heap.size w w') := fun t ht => by
    rcases hA t ht with h | h
    · rw [h]; exact ⟨_, fun w => rword_no (c := 0) (v := 0) (by decide) w⟩
    · exact ⟨_, fun w => rword_yes h w⟩
  have CEH : Hid _ := CE
  have HL : Hid _ := hl
  have H0 : Hid _ := h0
  have HRW : Hid _ := hrow
  have U64 : Hid _ := U
  have e0 : IntKind.u64.wrap ((ρ 0 : Nat) : Int) = (ρ 0 : Nat) := by rw [IntKind.wrap_u64]; omega
  have W0 : Hid (rl (wo (upw wz 0 (ρ 0)) c) = rl (wq ρ 0)) := wq_zero ρ c hc
  have F1 : Hid (∀ j, j < 37 → (rf th ρ 4 j).oneCell' = true) := rf_one ho hl
  have mk := mk32b w (.cells (rv (rf th ρ 4)).toArray 47)
  clear hA CE hl h0 hrow h6 hc U ho
  have hM : Hid _ := (((Ms.nil w).born (rv (rf th ρ 4)) 47 (b := w.heap.size) rfl).born (rl wz) 22 (b := w.heap.size + 1) (by simp))
  have x1 := (hM.out.at 1 rfl).rcell (j := 0) (by decide) ((rf_th (by decide)).trans H0.out)
  go_enter Try.func26, Try.ntmps26
  go_wp2_with (first
    | (refine s1 rfl (hM.out.at 0 rfl) 0 rfl (.int .u64 (ρ 0 : Nat)) rfl sz_u ?_ (by rw [rl_length]; decide)
       replace hM := hid (hM.out.put1 0 0 rfl (.int .u64 (ρ 0 : Nat)) (rl (upw wz 0 (ρ 0))) (by rw [rl_length]; decide) (rl_set _ _ (by decide)))
       generalize World.setCell _ _ _ = W at hM ⊢
       clear x1
       clear mk))
  generalize hsz : w.heap.size = n at hM CEH ⊢
  clear hsz
  replace hM := hid (hM.out.drew)
  refine wp_region_held_drew (S := fun w' => Bo w' n (rv (rf th ρ 4)) ∧ Bo w' n th) (by kernel_rfl) ⟨hM.out.at 1 rfl, Bo.thing (hM.out.at 1 rfl) HL.out (fun j hj => rf_th hj)⟩ (fun hH => ?_)
  generalize World.drew _ = W at hM hH  ⊢
  refine tk 0 rfl hH ?_
  simp only [Act.put, p1, p2, p3]
  refine tk 1 rfl hH ?_
  simp only [Act.put, p1, p2, p3]
  refine tk 2 rfl hH ?_
  simp only [Act.put, p1, p2, p3]
  refine tkR 3 rfl hH (fun _ h => h.2) HRW.out ?_
  simp only [Act.put, p1, p2, p3]
  refine rd1 4 rfl (fun K hK => ?_)
  go_simp
  refine (CEH.out _ hM.out.low).mono ?_
  rintro e W ⟨⟨bq, rfl, hq, hWq⟩, hb⟩
  replace hM := hid (hM.out.laterB hb hq hWq)
  clear hb
  go_wp2_with fail
  refine hK.out _ _ ⟨hM.out.at 2 rfl, Bo.thing (hM.out.at 2 rfl) HL.out (fun j hj => rf_th hj)⟩ (fun hH => ?_)
  clear hK K
  try simp only [Act.put, p1, p2, p3]
  refine rd1 5 rfl (fun K hK => ?_)
  refine cpR rfl Try.underlying31 sz_u (vs := wl c) (off := 1) (dLen := 31) (sLen := 17) (by rw [wl_length]; rfl) ((hM.out.at 0 rfl).cellsZ) ((hM.out.at 1 rfl).thereAt (o := 1) (n := (wl c).length) (by rw [wl_length, rl_length]; decide)) (wl_one _) ?_
  replace hM := hid (hM.out.putAt 1 1 rfl (wl c) (rl (wo (upw wz 0 (ρ 0)) c)) ((hM.out.at 1 rfl).setOb c))
  rw [W0.out] at hM
  refine hK.out _ _ ⟨hM.out.at 2 rfl, Bo.thing (hM.out.at 2 rfl) HL.out (fun j hj => rf_th hj)⟩ (fun hH => ?_)
  clear hK K
  generalize World.setCells _ _ _ _ = W at hM hH ⊢
  try simp only [Act.put, p1, p2, p3]
  refine wpAnyH_done (by kernel_rfl) ?_ _
  go_wp2_with fail
  go_loopg [18] 4 (fun gg s18 wt => ∃ i : Nat, i ≤ 4 ∧ 4 - i ≤ gg ∧ s18 = .int .i64 i ∧ Hid (Ms n w wt [((n + 1), rl (wq ρ i)), (n, rv (rf th ρ 4))] []))
  case atStart => exact ⟨0, by omega, by omega, rfl, hM.out.pick [1, 2]⟩
  case round =>
    clear hM
    obtain ⟨i, hi, hgg, rfl, hM⟩ := hrel
    obtain ⟨W, rfl⟩ : ∃ q, q = wr := ⟨_, rfl⟩
    by_cases hlt : i < 4
    · have hi1 : (i : Int) < 4 := by omega
      have hi0 : (0 : Int) ≤ (i : Int) := by omega
      have fa0 : (0 : Int) ≤ 18 + (i : Int) := by omega
      have fa1 : 18 + (i : Int) < 32 := by omega
      have fan : Hid (18 + (i : Int) = ((18 + i : Nat) : Int)) := (by omega : 18 + (i : Int) = ((18 + i : Nat) : Int))
      have fax : 18 + i < 32 := by omega
      have fb0 : (0 : Int) ≤ 22 + (i : Int) := by omega
      have fb1 : 22 + (i : Int) < 32 := by omega
      have fbn : Hid (22 + (i : Int) = ((22 + i : Nat) : Int)) := (by omega : 22 + (i : Int) = ((22 + i : Nat) : Int))
      have fbx : 22 + i < 32 := by omega
      have fc0 : (0 : Int) ≤ 19 + (i : Int) * 2 := by omega
      have fc1 : 19 + (i : Int) * 2 < 37 := by omega
      have fcn : Hid (19 + (i : Int) * 2 = ((19 + i * 2 : Nat) : Int)) := (by omega : 19 + (i : Int) * 2 = ((19 + i * 2 : Nat) : Int))
      have fcx : 19 + i * 2 < 37 := by omega
      have fd0 : (0 : Int) ≤ 27 + (i : Int) := by omega
      have fd1 : 27 + (i : Int) < 37 := by omega
      have fdn : Hid (27 + (i : Int) = ((27 + i : Nat) : Int)) := (by omega : 27 + (i : Int) = ((27 + i : Nat) : Int))
      have fdx : 27 + i < 37 := by omega
      have fe0 : (0 : Int) ≤ 31 + (i : Int) := by omega
      have fe1 : 31 + (i : Int) < 37 := by omega
      have fen : Hid (31 + (i : Int) = ((31 + i : Nat) : Int)) := (by omega : 31 + (i : Int) = ((31 + i : Nat) : Int))
      have fex : 31 + i < 37 := by omega
      obtain ⟨ae, aw⟩ := AWI.out i hlt
      obtain ⟨x, hx⟩ : ∃ x, ρ (18 + i) = x := ⟨_, rfl⟩
      obtain ⟨y, hy⟩ : ∃ y, ρ (22 + i) = y := ⟨_, rfl⟩
      have RA : Hid (∀ W, Bo W n (rv (rf th ρ 4)) → W.rangeAt n (19 + i * 2) [.int .i64 (x / 4294967296 : Nat), .int .i64 (x % 4294967296 : Nat)]) := fun W h => h.two (by omega) ((rf_code hlt hlt).trans (by rw [hx])) ((rf_val hlt hlt).trans (by rw [hx]))
      have RY : Hid (∀ W, Bo W n (rv (rf th ρ 4)) → W.cell? ⟨n, 27 + i, none⟩ = some (.int .u64 (y : Nat))) := fun W h => h.rcell (by omega) ((rf_when hlt hlt).trans (by rw [hy]))
      have WN : Hid _ := wq_next ρ hlt
      have fl := refFlip_yes (ρ 26 % 2 ^ i) i
      rw [hx, hy] at WN
      rw [hx] at aw
      have AW2 : Hid _ := aw
      have hg26 : ρ 26 % 2 ^ i < 18446744073709551616 := Nat.lt_of_le_of_lt (Nat.mod_le _ _) (U64.out 26 (by decide))
      have FL : Hid (∀ w, _) := fun w => fl w hg26 (by omega)
      have M1 : ρ 26 % 2 ^ (i + 1) = ρ 26 % 2 ^ i + 2 ^ i * ((ρ 26).testBit i).toNat := by rw [Nat.pow_succ, Nat.mod_mul, ← bt_test]; rfl
      rw [mod_xor] at FL
      have ew : upw (upw (wq ρ i) (18 + i) x) (22 + i) y 26 = ρ 26 % 2 ^ i := by rw [upw_neq (by omega), upw_neq (by omega)]; unfold wq; rw [if_neg (by omega), if_neg (by omega), if_neg (by omega), if_pos rfl]
      obtain ⟨g, hg⟩ : ∃ g, ρ 26 % 2 ^ i = g := ⟨_, rfl⟩
      obtain ⟨b, hb⟩ : ∃ b, (ρ 26).testBit i = b := ⟨_, rfl⟩
      have RT : Hid (∀ W, Bo W n (rv (rf th ρ 4)) → W.cell? ⟨n, 31 + i, none⟩ = some (.int .i64 (b.toNat : Nat))) := fun W h => h.rcell (by omega) ((rf_tog hlt hlt).trans (by rw [hb]))
      have HG : Hid (upw (upw (wq ρ i) (18 + i) x) (22 + i) y 26 = g) := ew.trans hg
      rw [hg, hb] at M1
      rw [hg] at FL
      clear aw hx hy fl ew hg26 hg hb
      have fa2 : IntKind.i64.wrap (18 + (i : Int)) = 18 + (i : Int) := (ixw fa0 (Int.lt_of_lt_of_le fa1 (by decide))).1
      have fb2 : IntKind.i64.wrap (22 + (i : Int)) = 22 + (i : Int) := (ixw fb0 (Int.lt_of_lt_of_le fb1 (by decide))).1
      have fc2 : IntKind.i64.wrap (19 + (i : Int) * 2) = 19 + (i : Int) * 2 := (ixw fc0 (Int.lt_of_lt_of_le fc1 (by decide))).1
      have fd2 : IntKind.i64.wrap (27 + (i : Int)) = 27 + (i : Int) := (ixw fd0 (Int.lt_of_lt_of_le fd1 (by decide))).1
      have fe2 : IntKind.i64.wrap (31 + (i : Int)) = 31 + (i : Int) := (ixw fe0 (Int.lt_of_lt_of_le fe1 (by decide))).1
      rcases b with _ | _
      · have WN2 : Hid (rl (upw (upw (wq ρ i) (18 + i) x) (22 + i) y) = rl (wq ρ (i + 1))) := by
          have h := WN.out
          rw [M1, show 2 ^ i * (false).toNat = 0 from Nat.mul_zero _, Nat.add_zero, upw_self HG.out] at h
          exact h
        clear M1 WN FL
        have bt : (((false).toNat : Nat) : Int) = 0 := rfl
        rw [bt] at RT
        clear bt
        go_wp2_with (first
          | (refine lO rfl (RA.out _ (hM.out.at 1 rfl)) rfl (rwA _ _) ?_))
        refine (AW2.out _).mono ?_
        rintro e W ⟨rfl, hb⟩
        replace hM := hid (hM.out.later hb)
        clear hb
        go_wp2_with (first
          | (refine s1 rfl (hM.out.at 0 rfl) (18 + i) rfl (.int .u64 (x : Nat)) rfl sz_u ?_ (by rw [rl_length]; exact fax)
             replace hM := hid (hM.out.put1 0 (18 + i) rfl (.int .u64 (x : Nat)) (rl (upw (wq ρ i) (18 + i) x)) (by rw [rl_length]; exact fax) (rl_set _ _ (by exact fax)))
             generalize World.setCell _ _ _ = W at hM ⊢
             have x2 := RY.out _ (hM.out.at 1 rfl))
          | (refine s1 rfl (hM.out.at 0 rfl) (22 + i) rfl (.int .u64 (y : Nat)) rfl sz_u ?_ (by rw [rl_length]; exact fbx)
             replace hM := hid (hM.out.put1 0 (22 + i) rfl (.int .u64 (y : Nat)) (rl (upw (upw (wq ρ i) (18 + i) x) (22 + i) y)) (by rw [rl_length]; exact fbx) (rl_set _ _ (by exact fbx)))
             generalize World.setCell _ _ _ = W at hM ⊢
             clear x2
             clear fa2 fb2 fc2 fd2 fa0 fa1 fb0 fb1 fc0 fc1 fd0 fd1 fax fbx fcx fdx
             have x3 := RT.out _ (hM.out.at 1 rfl)
             have x4 := (hM.out.at 0 rfl).rwordx (show 26 < 32 by decide) HG.out))
        rw [WN2.out] at hM
        clear fe2
        go_roundg (4 - (i + 1))
        case measure => omega
        case rel => exact ⟨i + 1, by omega, by omega, by go_num, hM⟩
      · have WN2 : Hid (rl (upw (upw (upw (wq ρ i) (18 + i) x) (22 + i) y) 26 (g + 2 ^ i)) = rl (wq ρ (i + 1))) := by
          have h := WN.out
          rw [M1, show 2 ^ i * (true).toNat = 2 ^ i from Nat.mul_one _] at h
          exact h
        obtain ⟨g2, hg2⟩ : ∃ g2, g + 2 ^ i = g2 := ⟨_, rfl⟩
        rw [hg2] at WN2 FL
        clear hg2 M1 WN
        have bt : (((true).toNat : Nat) : Int) = 1 := rfl
        rw [bt] at RT
        clear bt
        go_wp2_with (first
          | (refine lO rfl (RA.out _ (hM.out.at 1 rfl)) rfl (rwA _ _) ?_))
        refine (AW2.out _).mono ?_
        rintro e W ⟨rfl, hb⟩
        replace hM := hid (hM.out.later hb)
        clear hb
        go_wp2_with (first
          | (refine s1 rfl (hM.out.at 0 rfl) (18 + i) rfl (.int .u64 (x : Nat)) rfl sz_u ?_ (by rw [rl_length]; exact fax)
             replace hM := hid (hM.out.put1 0 (18 + i) rfl (.int .u64 (x : Nat)) (rl (upw (wq ρ i) (18 + i) x)) (by rw [rl_length]; exact fax) (rl_set _ _ (by exact fax)))
             generalize World.setCell _ _ _ = W at hM ⊢
             have x2 := RY.out _ (hM.out.at 1 rfl))
          | (refine s1 rfl (hM.out.at 0 rfl) (22 + i) rfl (.int .u64 (y : Nat)) rfl sz_u ?_ (by rw [rl_length]; exact fbx)
             replace hM := hid (hM.out.put1 0 (22 + i) rfl (.int .u64 (y : Nat)) (rl (upw (upw (wq ρ i) (18 + i) x) (22 + i) y)) (by rw [rl_length]; exact fbx) (rl_set _ _ (by exact fbx)))
             generalize World.setCell _ _ _ = W at hM ⊢
             clear x2
             clear fa2 fb2 fc2 fd2 fa0 fa1 fb0 fb1 fc0 fc1 fd0 fd1 fax fbx fcx fdx
             have x3 := RT.out _ (hM.out.at 1 rfl)
             have x4 := (hM.out.at 0 rfl).rwordx (show 26 < 32 by decide) HG.out))
        refine (FL.out _).mono ?_
        rintro e W ⟨rfl, hg⟩
        have hb := hg.below
        clear hg
        replace hM := hid (hM.out.later hb)
        clear hb
        clear x3 x4
        go_wp2_with (first
          | (refine s1 rfl (hM.out.at 0 rfl) 26 rfl (.int .u64 (g2 : Nat)) rfl sz_u ?_ (by rw [rl_length]; decide)
             replace hM := hid (hM.out.put1 0 26 rfl (.int .u64 (g2 : Nat)) (rl (upw (upw (upw (wq ρ i) (18 + i) x) (22 + i) y) 26 g2)) (by rw [rl_length]; decide) (rl_set _ _ (by decide)))
             generalize World.setCell _ _ _ = W at hM ⊢))
        rw [WN2.out] at hM
        clear fe2
        go_roundg (4 - (i + 1))
        case measure => omega
        case rel => exact ⟨i + 1, by omega, by omega, by go_num, hM⟩
    · obtain rfl : i = 4 := by omega
      go_wp2_with fail
      replace hM := hid (hM.out.drew)
      refine wp_region_held_drew (S := fun w' => Bo w' n (rv (rf th ρ 4))) (by kernel_rfl) (hM.out.at 1 rfl) (fun hH => ?_)
      generalize World.drew _ = W at hM hH  ⊢
      refine tk 0 rfl hH ?_
      simp only [Act.put, p1, p2, p3]
      refine tk 1 rfl hH ?_
      simp only [Act.put, p1, p2, p3]
      refine tk 2 rfl hH ?_
      simp only [Act.put, p1, p2, p3]
      refine tk 3 rfl hH ?_ (by intro w h; have c0 := h.rcell (j := 35) (by decide) rf_ver; clear h; go_simp; try with_reducible rfl)
      simp only [Act.put, p1, p2, p3]
      refine tk 4 rfl hH ?_
      simp only [Act.put, p1, p2, p3]
      refine tk 5 rfl hH ?_ (by intro w h; have c0 := h.rcell (j := 36) (by decide) rf_cnt; clear h; go_simp; try with_reducible rfl)
      simp only [Act.put, p1, p2, p3]
      refine tk 6 rfl hH ?_
      simp only [Act.put, p1, p2, p3]
      refine rd1 7 rfl (fun K hK => ?_)
      refine st1o rfl (hM.out.at 0 rfl) 27 (.int .u64 (ρ 27 : Nat)) rfl sz_u (by rw [rl_length]; decide) ?_
      replace hM := hid (hM.out.put1 0 27 rfl (.int .u64 (ρ 27 : Nat)) (rl (upw (wq ρ 4) 27 (ρ 27))) (by rw [rl_length]; decide) (rl_set _ _ (by decide)))
      refine hK.out _ _ (hM.out.at 1 rfl) (fun hH => ?_)
      clear hK K
      generalize World.setCell _ _ _ = W at hM hH ⊢
      try simp only [Act.put]
      refine tk 8 rfl hH ?_
      simp only [Act.put, p1, p2, p3]
      refine rd1 9 rfl (fun K hK => ?_)
      refine st1o rfl (hM.out.at 0 rfl) 28 (.int .u64 (ρ 28 : Nat)) rfl sz_u (by rw [rl_length]; decide) ?_
      replace hM := hid (hM.out.put1 0 28 rfl (.int .u64 (ρ 28 : Nat)) (rl (upw (upw (wq ρ 4) 27 (ρ 27)) 28 (ρ 28))) (by rw [rl_length]; decide) (rl_set _ _ (by decide)))
      refine hK.out _ _ (hM.out.at 1 rfl) (fun hH => ?_)
      clear hK K
      generalize World.setCell _ _ _ = W at hM hH ⊢
      try simp only [Act.put]
      refine wpAnyH_done (by kernel_rfl) ?_ _
      rw [wq_all] at hM
      go_wp2
      go_ret
      exact ⟨⟨_, rfl, by rw [hM.out.size]; exact hM.out.key 0 rfl, hM.out.at 0 rfl⟩, hM.out.below⟩
end Go.Proofs.Ytgkgkiheoadbfaa.Tab
namespace Go.Proofs.Ytgkgkiheoadbfaa
set_option maxRecDepth 20000
open Go.RowKit

theorem infoI : (Try.prog.info? 3).map (fun i => (i.zero, i.size, i.bytes)) = some (some (.int .i64 0), 1, 8) := by kernel_rfl

theorem ints_one (xs : List Int) : ∀ u ∈ xs.map (Value.int .i64), u.oneCell' = true := by
  intro u hu
  obtain ⟨x, _, rfl⟩ := List.mem_map.1 hu
  rfl
theorem ints_at {w : World} {b off : Nat} {xs : List Int} (h : ∀ j, j < xs.length → w.cell? ⟨b, off + j, none⟩ = some (.int .i64 (xs.getD j 0))) :
    ∀ j u, (xs.map (Value.int .i64))[j]? = some u → w.cell? ((⟨b, off, none⟩ : Addr).add j) = some u := by
  intro j u hu
  have hj : j < xs.length := by simpa using (List.getElem?_eq_some_iff.1 hu).1
  rw [Addr.add_lit, h j hj, ← hu]
  simp [List.getD, hj]

set_option maxHeartbeats 1000000 in
theorem Grow_nil (n : Nat) (h0 : 0 < n) (hn : n ≤ 1000000) (w : World) :
    Calls Try.prog 90 #[.slice none 0 0, .int .i64 n] w fun e w' => ∃ v', e = .returned v' ∧ Own w.heap.size w' v' [] ∧ Below w.heap.size w w' := by
  obtain ⟨i0, hi, hz0, hz1, hz2⟩ := info_parts infoI
  have hr : Hid (∀ ty, (Builtin.append_ #[34, 3] ty #[.slice none 0 0, .int .i64 n]).run Try.prog w = .ok (.slice (some ⟨w.heap.size, 0, none⟩) n (grownCap w n 0 3)) (w.drew.alloc (.cells (Builtin.zeroCells (Value.int .i64 0).cells n ++ Builtin.zeroCells (Value.int .i64 0).cells (grownCap w n 0 3 - n)) 3))) :=
    fun ty => Lib.run_append_nil_zeros w 34 3 ty 3 i0 (.int .i64 0) .i64 .i64 Try.underlying34 Try.underlying3 hi hz0 n h0 (by omega) (by omega) (by rw [hz2]; omega)
  have hG : n ≤ grownCap w n 0 3 := grownCap_ge w _ _ _
  have hM : grownCap w n 0 3 ≤ maxLen := grownCap_le_maxLen w n 0 3 (by unfold maxLen; omega)
  obtain ⟨G, hGe⟩ : ∃ G, G = grownCap w n 0 3 := ⟨_, rfl⟩
  rw [← hGe] at hr hG hM
  clear hGe hi hz0 hz1 hz2
  have h1 : ¬ ((n : Int) < 0) := by omega
  have h2 : (n : Int) > 0 := by omega
  go_enter Try.func90, Try.ntmps90
  go_wp2_with (at_builtin; refine Lib.wpList_append_run _ rfl _ _ _ _ rfl _ _ rfl rfl _ _ (hr.out _) ?_)
  go_ret
  refine ⟨_, rfl, ?_, ((Below.refl _ w).drew).alloc (by simp) _⟩
  exact World.ownsRow_made (base := w.heap.size) w.drew _ G (by simp) hM (by simp [Builtin.zeroCells]; omega)

/-- append(a row of the call's own, l...). -/
theorem run_onto {B C : Nat} {w : World} {v u : Value} {xs ys : List Int} (ty : TypeId) (hB : B ≤ w.heap.size) (h : Own B w v xs) (k : IsL C w u ys) (hx : xs.length + ys.length ≤ 1000000) :
    ∃ v' w', (Builtin.append_ #[34, 34] ty #[v, u]).run Try.prog w = .ok v' w' ∧ Own B w' v' (xs ++ ys) ∧ Below B w w' := by
  obtain ⟨i0, hi, hz0, hz1, hz2⟩ := info_parts infoI
  have own : ∀ (a : Addr) (c : Nat), (∀ j x, (ys.map (Value.int .i64))[j]? = some x → w.cell? (a.add j) = some x) →
      ∃ v' w', (Builtin.append_ #[34, 34] ty #[v, .slice (some a) ys.length c]).run Try.prog w = .ok v' w' ∧ Own B w' v' (xs ++ ys) ∧ Below B w w' := by
    intro a c hc
    obtain ⟨v', w', hr, ho, hg, _⟩ := run_append_own (P := Try.prog) w B 34 ty 3 i0 (.int .i64 0) 1 8 Try.underlying34 hi hz0 hz1 hz2 rfl (by decide) v xs.length (xs.map (Value.int .i64)) h a ys.length c (ys.map (Value.int .i64)) (by simp) hc (ints_one ys) (by unfold maxLen; omega) (by omega) hB
    refine ⟨v', w', hr, ?_, (Below.refl _ w).grown hg hB (fun j hj => (World.ownsRow.lt h j hj).1)⟩
    simpa [Own] using ho
  rcases k with ⟨rfl, a, c, rfl⟩ | ⟨b, off, c, rfl, hC, h0, hc, hcell, _⟩
  · cases a with
    | none =>
      refine ⟨v, w, ?_, by rw [List.append_nil]; exact h, Below.refl _ _⟩
      have h' := h
      rcases h'.2 with ⟨rfl, _⟩ | ⟨g, cap, cur, rfl, hb, hg, hn, hm, hs, ht⟩
      · simp [Builtin.append_, run_underlying Try.underlying34, sizeOf, typeInfo, hi, Builtin.lenOf, Builtin.firstCells]
      · simp [Builtin.append_, run_underlying Try.underlying34, sizeOf, typeInfo, hi, Builtin.lenOf, Builtin.firstCells, hn, storeCells]
    | some a => exact own a c (by intro j u hu; simp at hu)
  · exact own ⟨b, off, none⟩ c (ints_at hcell)

theorem wpList_onto {P : Program} (hP : P = Try.prog) {ops : Array Oper} {rest : List Oper} {o : Oper} {a : Act} {w : World} {Q : Exit → Act → World → Prop} (hgd : o.guard = none) (s x : Operand)
    (ho : o.op = .call { callee := .builtin .append, args := #[s, x], argTypes := #[34, 34] }) {B C : Nat} {v u : Value} {xs ys : List Int} (hs : a.eval s = v) (hx : a.eval x = u) (hB : B ≤ w.heap.size) (h : Own B w v xs) (k : IsL C w u ys) (hn : xs.length + ys.length ≤ 1000000)
    (hk : ∀ v' w', Own B w' v' (xs ++ ys) → Below B w w' → wpList P ops Q rest (a.put o.dst v') w') : wpList P ops Q (o :: rest) a w := by
  subst hP
  refine wpList_plain hgd fun K hK => ?_
  obtain ⟨v', w', hr, h2, h3⟩ := run_onto o.type hB h k hn
  unfold Oper.wp execOp
  simp only [ho, resolve, invoke, builtin, Sem.run_bind, Sem.run_pure, Result.andThen_ok, List.map_toArray, List.map_cons, List.map_nil, hs, hx, hr]
  exact hK _ _ (hk v' w' h2 h3)

set_option maxHeartbeats 2000000 in
theorem Concat_two {B C A : Nat} {u v : Value} {xs ys : List Int} {w : World} (h0 : w.cell? ⟨A, 0, none⟩ = some u) (h1 : w.cell? ⟨A, 1, none⟩ = some v) (h : IsL B w u xs) (k : IsL C w v ys) (hp : 0 < xs.length) (hx : xs.length + ys.length ≤ 1000000) :
    Calls Try.prog 84 #[.slice (some ⟨A, 0, none⟩) 2 2] w fun e w' => ∃ v', e = .returned v' ∧ Own w.heap.size w' v' (xs ++ ys) ∧ Below w.heap.size w w' := by
  obtain ⟨au, cu, rfl⟩ := h.form
  obtain ⟨av, cv, rfl⟩ := k.form
  have H : Hid (IsL B w (.slice au xs.length cu) xs) := h
  have K : Hid (IsL C w (.slice av ys.length cv) ys) := k
  clear h k
  have hA : A < w.heap.size := World.block_lt_of_cell? _ _ h0
  obtain ⟨m, hm⟩ : ∃ m, m = xs.length := ⟨_, rfl⟩
  obtain ⟨n, hn⟩ : ∃ n, n = ys.length := ⟨_, rfl⟩
  have M : Hid (m = xs.length) := hm
  have N : Hid (n = ys.length) := hn
  rw [← hm] at h0 H hp hx
  rw [← hn] at h1 K hx
  clear hm hn
  have e0 : ¬ ((m : Int) < 0) := by omega
  have e1 : ¬ ((m : Int) + (n : Int) < 0) := by omega
  go_enter Try.func84, Try.ntmps84
  go_wp2_with fail
  go_loopg [3, 11] 2 (fun gg s3 s11 wt => w = wt ∧ ((s11 = .int .i64 0 ∧ s3 = .int .i64 0 ∧ 2 ≤ gg) ∨ (s11 = .int .i64 1 ∧ s3 = .int .i64 m ∧ 1 ≤ gg) ∨ (s11 = .int .i64 2 ∧ s3 = .int .i64 ((m : Int) + n))))
  case atStart => exact ⟨rfl, Or.inl ⟨rfl, rfl, Nat.le_refl _⟩⟩
  case round =>
    obtain ⟨rfl, ⟨rfl, rfl, hgg⟩ | ⟨rfl, rfl, hgg⟩ | ⟨rfl, rfl⟩⟩ := hrel
    · go_wp2
      go_roundg 1
      case measure => omega
      case rel => exact ⟨rfl, Or.inr (Or.inl ⟨rfl, rfl, Nat.le_refl _⟩)⟩
    · go_wp2
      go_roundg 0
      case measure => omega
      case rel => exact ⟨rfl, Or.inr (Or.inr ⟨rfl, rfl⟩)⟩
    · go_wp2_with fail
      have e2 : (m : Int) + (n : Int) = ((m + n : Nat) : Int) := by omega
      rw [e2]
      refine (Grow_nil (m + n) (by omega) hx _).mono ?_
      rintro e w1 ⟨v1, rfl, hown, hb⟩
      have S0 : Hid (Own w.heap.size w1 v1 [] ∧ Below w.heap.size w w1) := ⟨hown, hb⟩
      clear hown hb e0 e1 e2
      go_wp2_with fail
      go_loopg [6, 27] 2 (fun gg s6 s27 wt => ∃ zs, Own w.heap.size wt s6 zs ∧ Below w.heap.size w wt ∧ ((s27 = .int .i64 0 ∧ zs = [] ∧ 2 ≤ gg) ∨ (s27 = .int .i64 1 ∧ zs = xs ∧ 1 ≤ gg) ∨ (s27 = .int .i64 2 ∧ zs = xs ++ ys)))
      case atStart => exact ⟨[], S0.out.1, S0.out.2, Or.inl ⟨rfl, rfl, Nat.le_refl _⟩⟩
      case round =>
        obtain ⟨zs, hO, hG, ⟨rfl, hz, hgg⟩ | ⟨rfl, hz, hgg⟩ | ⟨rfl, hz⟩⟩ := hrel
        · have c0 : wr.cell? ⟨A, 0, none⟩ = some (.slice au m cu) := by rw [hG.cell (p := ⟨A, 0, none⟩) hA]; exact h0
          have H' : Hid (IsL B wr (.slice au m cu) xs) := H.out.later hG
          have O' : Hid (Own w.heap.size wr u6 []) := hz ▸ hO
          have G' : Hid (Below w.heap.size w wr) := hG
          have hl : Hid (([] : List Int).length + xs.length ≤ 1000000) := show ([] : List Int).length + xs.length ≤ 1000000 by rw [← M.out]; simp; omega
          clear hO hG hz S0
          go_wp2_with (at_builtin; refine wpList_onto rfl rfl (.tmp 31) (.tmp 32) rfl rfl rfl G'.out.size O'.out H'.out hl.out ?_; intro v3 w3 hO3 hb3; have Q3 : Hid (Own w.heap.size w3 v3 ([] ++ xs) ∧ Below w.heap.size w w3) := ⟨hO3, G'.out.trans hb3⟩; clear hO3 hb3)
          go_roundg 1
          case measure => omega
          case rel => exact ⟨xs, Q3.out.1, Q3.out.2, Or.inr (Or.inl ⟨rfl, rfl, Nat.le_refl _⟩)⟩
        · have c1 : wr.cell? ⟨A, 1, none⟩ = some (.slice av n cv) := by rw [hG.cell (p := ⟨A, 1, none⟩) hA]; exact h1
          have H' : Hid (IsL C wr (.slice av n cv) ys) := K.out.later hG
          have O' : Hid (Own w.heap.size wr u6 xs) := hz ▸ hO
          have G' : Hid (Below w.heap.size w wr) := hG
          have hl : Hid (xs.length + ys.length ≤ 1000000) := show xs.length + ys.length ≤ 1000000 by rw [← M.out, ← N.out]; exact hx
          clear hO hG hz S0
          go_wp2_with (at_builtin; refine wpList_onto rfl rfl (.tmp 31) (.tmp 32) rfl rfl rfl G'.out.size O'.out H'.out hl.out ?_; intro v3 w3 hO3 hb3; have Q3 : Hid (Own w.heap.size w3 v3 (xs ++ ys) ∧ Below w.heap.size w w3) := ⟨hO3, G'.out.trans hb3⟩; clear hO3 hb3)
          go_roundg 0
          case measure => omega
          case rel => exact ⟨xs ++ ys, Q3.out.1, Q3.out.2, Or.inr (Or.inr ⟨rfl, rfl⟩)⟩
        · have Q3 : Hid (Own w.heap.size wr u6 (xs ++ ys) ∧ Below w.heap.size w wr) := ⟨hz ▸ hO, hG⟩
          clear hO hG hz S0
          go_wp2
          go_ret
          exact ⟨_, rfl, Q3.out.1, Q3.out.2⟩
end Go.Proofs.Ytgkgkiheoadbfaa
namespace Go.Proofs.Ytgkgkiheoadbfaa
open Go.Shelf
def sh_laysNm215_ren : Go.Shelf.Ren := ⟨fun | 15 => 74 | n => n, fun | 22 => 34 | 3 => 3 | 4 => 4 | n => n, fun | n => n⟩
theorem sh_laysNm215 : Go.Proofs.Lays2.n15 Try.prog sh_laysNm215_ren := {
  mixed := by kernel_rfl
  f15 := Try.func74.trans (congrArg some (by kernel_rfl))
  t3 := Try.underlying3
  a3 := Try.isAgg3
  z3 := Try.sizeOf3
  v3 := Try.zeroValue3
  t4 := Try.underlying4
  a4 := Try.isAgg4
  z4 := Try.sizeOf4
  v4 := Try.zeroValue4
  t22 := Try.underlying34
  a22 := Try.isAgg34
  z22 := Try.sizeOf34
  v22 := Try.zeroValue34
  i3 := by kernel_rfl }
open Go.RowKit Go.Lib in
theorem sh_slices_Clone_int (b off n c : Nat) (zs : List Int) (w : World) (hz : n ≤ zs.length) (hbig : n * 8 ≤ 140737488355328) (hc : ∀ j, j < zs.length → w.cell? ⟨b, off + j, none⟩ = some (.int .i64 (zs.getD j 0))) :
    Calls Try.prog 74 #[.slice (some ⟨b, off, none⟩) n c] w fun e w' => ∃ v', e = .returned v' ∧ w'.ownsRow w.heap.size 3 1 v' n ((zs.take n).map (Value.int .i64)) ∧ v' ≠ .slice none 0 0 ∧ Below w.heap.size w w' := Any.slices_Clone_int sh_laysNm215 b off n c zs w hz hbig hc
open Go.RowKit Go.Lib in
theorem sh_slices_Clone_int_nil (n c : Nat) (w : World) :
    Calls Try.prog 74 #[.slice none n c] w fun e w' => e = .returned (.slice none 0 0) ∧ w' = w := Any.slices_Clone_int_nil sh_laysNm215 n c w
open Go.RowKit Go.Lib in
theorem sh_slices_Clone_int_zero (a : Addr) (c : Nat) (w : World) :
    Calls Try.prog 74 #[.slice (some a) 0 c] w fun e w' => ∃ v', e = .returned v' ∧ w'.ownsRow w.heap.size 3 1 v' 0 [] ∧ v' ≠ .slice none 0 0 ∧ Below w.heap.size w w' := Any.slices_Clone_int_zero sh_laysNm215 a c w
end Go.Proofs.Ytgkgkiheoadbfaa
namespace Go.Proofs.Ytgkgkiheoadbfaa
set_option maxRecDepth 20000
open Go.RowKit

theorem Clone_is {B : Nat} {v : Value} {xs : List Int} {w : World} (h : IsL B w v xs) (hx : xs.length ≤ 1000000) :
    Calls Try.prog 74 #[v] w fun e w' => ∃ v', e = .returned v' ∧ Own w.heap.size w' v' xs ∧ Below w.heap.size w w' := by
  rcases h with ⟨rfl, a, c, rfl⟩ | ⟨b, off, c, rfl, _, h0, hc, hcell, _⟩
  · cases a with
    | none => exact (sh_slices_Clone_int_nil 0 c w).mono fun e w' ⟨he, hw⟩ => ⟨_, he, World.ownsRow_nil _ _ _ _, hw ▸ Below.refl _ _⟩
    | some a => exact (sh_slices_Clone_int_zero a c w).mono fun e w' ⟨v', he, ho, _, hb⟩ => ⟨v', he, ho, hb⟩
  · refine (sh_slices_Clone_int b off xs.length c xs w (Nat.le_refl _) (by omega) hcell).mono fun e w' ⟨v', he, ho, _, hb⟩ => ⟨v', he, ?_, hb⟩
    rw [List.take_length] at ho
    exact ho

end Go.Proofs.Ytgkgkiheoadbfaa
namespace Go.Proofs.Ytgkgkiheoadbfaa
set_option maxRecDepth 20000
open Go.RowKit

theorem info_int : (Try.prog.info? 3).map (fun i => (i.zero, i.size, i.bytes)) = some (some (.int .i64 0), 1, 8) := by kernel_rfl

theorem qput_full {B : Nat} {v : Value} {xs : List Int} {w : World} (x : Int) (h : IsL B w v xs) (h6 : 6 ≤ xs.length) :
    Calls Try.prog 75 #[v, .int .i64 x] w fun e w' => e = .returned (.tuple #[v, .agg #[.int .i64 3, .int .i64 0]]) ∧ Below w.heap.size w w' := by
  rcases h with ⟨rfl, a, c, rfl⟩ | ⟨b, off, c, rfl, hB, h0, hc, hcell, hfz⟩
  · simp at h6
  · clear hcell hfz
    generalize xs.length = n at *
    have h6' : (6 : Int) ≤ (n : Int) := by omega
    go_enter Try.func75, Try.ntmps75
    go_wp2
    exact bodyPost_ret (v := .tuple #[.slice (some ⟨b, off, none⟩) n c, .agg #[.int .i64 3, .int .i64 0]]) (by simp [results, Try.results75, go_sem]) rfl ⟨rfl, (Below.refl _ w).alloc (Nat.le_refl _) _⟩

theorem qput_room {B : Nat} {v : Value} {xs : List Int} {w : World} (x : Int) (h : Own B w v xs) (hB : B ≤ w.heap.size) (h6 : xs.length < 6) :
    Calls Try.prog 75 #[v, .int .i64 x] w fun e w' => ∃ v', e = .returned (.tuple #[v', .agg #[.int .i64 1, .int .i64 0]]) ∧ Own B w' v' (xs ++ [x]) ∧ Below B w w' := by
  obtain ⟨i0, hi, hz0, hz1, hz2⟩ := info_parts info_int
  obtain ⟨a, c, rfl⟩ := h.form
  have X : Hid (Own B w (.slice a xs.length c) xs) := h
  have hlt : Hid (∀ k, (Value.slice a xs.length c).ownBlock = some k → B ≤ k ∧ k < w.heap.size) := h.lt
  clear h
  have h6' : (xs.length : Int) < 6 := by omega
  go_enter Try.func75, Try.ntmps75
  go_wp2_with (at_builtin; refine wpList_append_own_at _ rfl _ _ 34 rfl B 3 i0 (.int .i64 0) 1 8 Try.underlying34 hi hz0 hz1 hz2 rfl (by decide) _ _ _ rfl ((X.out.alloc _).alloc _) ⟨w.heap.size + 1, 0, none⟩ 1 1 [.int .i64 x] rfl rfl ?c1 ?c2 ?c3 ?c4 ?c5 ?_)
  case c1 => intro j u hj; simpa using cell_one_new (w.alloc (.cells #[.int .i64 0, .int .i64 0] 42)) (.int .i64 x) 3 j u hj
  case c2 => intro u hu; simp at hu; subst hu; rfl
  case c3 => unfold maxLen; omega
  case c4 => omega
  case c5 => simp; omega
  intro v' w1 hown hgrow _ hat
  have hne : some w.heap.size ≠ (Value.slice a xs.length c).ownBlock := fun e => by have := hlt.out _ e.symm; omega
  have hblk := hgrow.block w.heap.size (by simp; omega) hne
  have hne' : v'.ownBlock ≠ some w.heap.size := by
    rcases hat with h | h
    · rw [h]; exact hne.symm
    · rw [h]; simp; omega
  have c0 : w1.cell? ⟨w.heap.size, 0, none⟩ = some (.int .i64 0) := by rw [World.cell?_of_block hblk]; simp
  have c1 : w1.cell? ⟨w.heap.size, 1, none⟩ = some (.int .i64 0) := by rw [World.cell?_of_block hblk]; simp
  have f0 : w1.frozen? ⟨w.heap.size, 0, none⟩ = false := by rw [World.frozen?_of_block hblk]; simp
  have f1 : w1.frozen? ⟨w.heap.size, 1, none⟩ = false := by rw [World.frozen?_of_block hblk]; simp
  have O : Hid (Own B w1 v' (xs ++ [x])) := by
    show w1.ownsRow B _ 1 v' _ _
    simpa using hown
  have G : Hid (Below B w w1) := (((Below.refl B w).alloc hB _).alloc (by simp; omega) _).grown hgrow (by simp; omega) (fun k hk => (hlt.out k hk).1)
  clear hown hgrow hat hblk hne
  go_wp2
  refine bodyPost_ret (v := .tuple #[v', .agg #[.int .i64 1, .int .i64 0]]) ?_ rfl ⟨v', rfl, ?_, ?_⟩
  · have d0 := World.cell?_setCell_same w1 ⟨w.heap.size, 0, none⟩ (.int .i64 1) c0
    have d1 : (w1.setCell ⟨w.heap.size, 0, none⟩ (.int .i64 1)).cell? ⟨w.heap.size, 1, none⟩ = some (.int .i64 0) := by rw [World.cell?_setCell_other]; exact c1; simp
    simp [results, Try.results75, go_sem, d0, d1]
  · exact ownsRow_setCell_other (ownsRow_setCell_other O.out hne' _) hne' _
  · exact (G.out.setCell hB _).setCell hB _

theorem qtake_none (a : Option Addr) (c : Nat) (w : World) :
    Calls Try.prog 76 #[.slice a 0 c] w fun e w' => e = .returned (.tuple #[.slice a 0 c, .agg #[.int .i64 2, .int .i64 0]]) ∧ Below w.heap.size w w' := by
  go_enter Try.func76, Try.ntmps76
  go_wp2
  exact bodyPost_ret (v := .tuple #[.slice a 0 c, .agg #[.int .i64 2, .int .i64 0]]) (by simp [results, Try.results76, go_sem]) rfl ⟨rfl, (Below.refl _ w).alloc (Nat.le_refl _) _⟩

theorem tail_is {B : Nat} {w : World} {b off n c : Nat} {r : List Int} (hB : B ≤ b) (N : n = r.length + 1) (hc : n ≤ c) (T : ∀ j, j < r.length → w.cell? ⟨b, off + (j + 1), none⟩ = some (.int .i64 (r.getD j 0)))
    (Z : 0 < B → ∀ j, j < r.length → w.frozen? ⟨b, off + (j + 1), none⟩ = false) : IsL B w (.slice (some ⟨b, off + 1, none⟩) (n - 1) (c - 1)) r := by
  subst N
  by_cases h : r.length = 0
  · have : r = [] := List.eq_nil_of_length_eq_zero h
    subst this
    exact IsL.nil _ _ _ _
  · refine Or.inr ⟨b, off + 1, c - 1, rfl, hB, by omega, by omega, fun j hj => ?_, fun h0 j hj => ?_⟩
    rotate_left
    · have := Z h0 j hj
      rwa [show off + (j + 1) = off + 1 + j by omega] at this
    have := T j hj
    rwa [show off + (j + 1) = off + 1 + j by omega] at this

theorem qtake_one {B : Nat} {v : Value} {x : Int} {r : List Int} {w : World} (h : IsL B w v (x :: r)) :
    Calls Try.prog 76 #[v] w fun e w' => ∃ v', e = .returned (.tuple #[v', .agg #[.int .i64 1, .int .i64 x]]) ∧ IsL B w' v' r ∧ Below w.heap.size w w' := by
  rcases h with ⟨h, _⟩ | ⟨b, off, c, rfl, hB, h0, hc, hcell, hfz⟩
  · cases h
  have hx : w.cell? ⟨b, off, none⟩ = some (.int .i64 x) := hcell 0 (Nat.succ_pos _)
  have T : Hid (∀ j, j < r.length → w.cell? ⟨b, off + (j + 1), none⟩ = some (.int .i64 (r.getD j 0))) := fun j hj => by simpa using hcell (j + 1) (by simpa using hj)
  have Z : Hid (0 < B → ∀ j, j < r.length → w.frozen? ⟨b, off + (j + 1), none⟩ = false) := fun h0 j hj => hfz h0 (j + 1) (by simpa using hj)
  clear hcell hfz
  have hbl : b < w.heap.size := World.block_lt_of_cell? _ _ hx
  obtain ⟨n, hn⟩ : ∃ n, n = (x :: r).length := ⟨_, rfl⟩
  have N : Hid (n = r.length + 1) := show n = r.length + 1 by simpa using hn
  rw [← hn] at h0 hc ⊢
  clear hn
  have h1 : (1 : Int) ≤ (n : Int) := by omega
  have h2 : (n : Int) ≤ (c : Int) := by omega
  have h3 : (0 : Int) < (n : Int) := by omega
  have h4 : ((n : Int) == 0) = false := by simp; omega
  go_enter Try.func76, Try.ntmps76
  go_wp2_with fail
  go_region
  all_goals go_wp2
  · have hr : r = [] := List.eq_nil_of_length_eq_zero (by have := N.out; omega)
    subst hr
    have hn1 : n = 1 := N.out
    subst hn1
    exact bodyPost_ret (v := .tuple #[.slice (some ⟨b, off, none⟩) 0 0, .agg #[.int .i64 1, .int .i64 x]]) (by simp [results, Try.results76, go_sem]) rfl ⟨_, rfl, IsL.nil _ _ _ _, ((Below.refl _ w).alloc (Nat.le_refl _) _).drew⟩
  · have hg : Below w.heap.size w (w.alloc (.cells #[.int .i64 1, .int .i64 x] 42)).drew := ((Below.refl _ w).alloc (Nat.le_refl _) _).drew
    exact bodyPost_ret (v := .tuple #[.slice (some ⟨b, off + 1, none⟩) (n - 1) (c - 1), .agg #[.int .i64 1, .int .i64 x]]) (by simp [results, Try.results76, go_sem]) rfl ⟨_, rfl, (tail_is hB N.out hc T.out Z.out).later hg, hg⟩
end Go.Proofs.Ytgkgkiheoadbfaa
namespace Go.Proofs.Ytgkgkiheoadbfaa
set_option maxRecDepth 20000
open Go.RowKit

/-- What an operation makes of a queue, and its answer: 5.1. -/
def qdo (xs : List Int) (what value : Int) : List Int × Int × Int :=
  if what = 1 then (if 6 ≤ xs.length then (xs, 3, 0) else (xs ++ [value], 1, 0))
  else if what = 2 then (match xs with | [] => ([], 2, 0) | x :: r => (r, 1, x))
  else if what = 5 then (match xs with | [] => ([], 2, 0) | x :: r => (x :: r, 1, x))
  else if what = 6 then (xs, 1, xs.length) else (xs, 5, 0)

/-- An operation and an answer to be, in the two blocks behind w's. -/
structure Fr (w w' : World) (o k x : Int) : Prop where
  o0 : w'.cell? ⟨w.heap.size, 0, none⟩ = some (.int .i64 o)
  o1 : w'.cell? ⟨w.heap.size, 1, none⟩ = some (.int .i64 k)
  o2 : w'.cell? ⟨w.heap.size, 2, none⟩ = some (.int .i64 x)
  r0 : w'.cell? ⟨w.heap.size + 1, 0, none⟩ = some (.int .i64 0)
  r1 : w'.cell? ⟨w.heap.size + 1, 1, none⟩ = some (.int .i64 0)
  f0 : w'.frozen? ⟨w.heap.size + 1, 0, none⟩ = false
  f1 : w'.frozen? ⟨w.heap.size + 1, 1, none⟩ = false
  gr : Below w.heap.size w w'
  sz : w.heap.size + 2 ≤ w'.heap.size

def two (w : World) (o k x : Int) : World := (w.alloc (.cells #[.int .i64 o, .int .i64 k, .int .i64 x] 54)).alloc (.cells #[.int .i64 0, .int .i64 0] 42)
theorem Fr.start (w : World) (o k x : Int) : Fr w (two w o k x) o k x where
  o0 := by simp [two]
  o1 := by simp [two]
  o2 := by simp [two]
  r0 := by simp [two]
  r1 := by simp [two]
  f0 := by simp [two]
  f1 := by simp [two]
  gr := ((Below.refl _ w).alloc (Nat.le_refl _) _).alloc (by simp) _
  sz := by simp [two]

theorem Fr.later {w w1 w2 : World} {o k x : Int} (h : Fr w w1 o k x) (hb : Below (w.heap.size + 2) w1 w2) : Fr w w2 o k x where
  o0 := by rw [hb.cell (p := ⟨w.heap.size, 0, none⟩) (by simp)]; exact h.o0
  o1 := by rw [hb.cell (p := ⟨w.heap.size, 1, none⟩) (by simp)]; exact h.o1
  o2 := by rw [hb.cell (p := ⟨w.heap.size, 2, none⟩) (by simp)]; exact h.o2
  r0 := by rw [hb.cell (p := ⟨w.heap.size + 1, 0, none⟩) (by simp)]; exact h.r0
  r1 := by rw [hb.cell (p := ⟨w.heap.size + 1, 1, none⟩) (by simp)]; exact h.r1
  f0 := by rw [World.frozen?_of_block (hb.block (w.heap.size + 1) (by omega))]; exact h.f0
  f1 := by rw [World.frozen?_of_block (hb.block (w.heap.size + 1) (by omega))]; exact h.f1
  gr := h.gr.trans (hb.mono (by omega))
  sz := Nat.le_trans h.sz hb.size
theorem two_size (w : World) (o k x : Int) : (two w o k x).heap.size = w.heap.size + 2 := by simp [two]

/-- The world behind an answer that is written. -/
def wr (w W : World) (c y : Int) : World := (W.setCell ⟨w.heap.size + 1, 0, none⟩ (.int .i64 c)).setCell ⟨w.heap.size + 1, 1, none⟩ (.int .i64 y)
theorem Fr.ends {w W : World} {o k x : Int} (h : Fr w W o k x) (c y : Int) : (wr w W c y).cell? ⟨w.heap.size + 1, 0, none⟩ = some (.int .i64 c) ∧ (wr w W c y).cell? ⟨w.heap.size + 1, 1, none⟩ = some (.int .i64 y) ∧ Below w.heap.size w (wr w W c y) := by
  have d0 := World.cell?_setCell_same W ⟨w.heap.size + 1, 0, none⟩ (.int .i64 c) h.r0
  have d1 : (W.setCell ⟨w.heap.size + 1, 0, none⟩ (.int .i64 c)).cell? ⟨w.heap.size + 1, 1, none⟩ = some (.int .i64 0) := by rw [World.cell?_setCell_other]; exact h.r1; simp
  refine ⟨?_, World.cell?_setCell_same _ _ _ d1, (h.gr.setCell (by simp) _).setCell (by simp) _⟩
  rw [wr, World.cell?_setCell_other]
  · exact d0
  · simp
theorem IsL.wr {w W : World} {v : Value} {xs : List Int} (h : IsL (w.heap.size + 2) W v xs) (c y : Int) : IsL w.heap.size (wr w W c y) v xs :=
  ((h.setCell (by simp) _).setCell (by simp) _).mono (by omega)

/-- What Do has made: the slice and the answer. -/
def Made (w : World) (ys : List Int) (c y : Int) (e : Ending) (w' : World) : Prop :=
  ∃ v', e = .returned (.tuple #[v', .agg #[.int .i64 c, .int .i64 y]]) ∧ IsL w.heap.size w' v' ys ∧ Below w.heap.size w w'

theorem Fr.made {w W : World} {o k x : Int} {v : Value} {ys : List Int} (h : Fr w W o k x) (c y : Int) (I : IsL (w.heap.size + 2) W v ys) : Made w ys c y (.returned (.tuple #[v, .agg #[.int .i64 c, .int .i64 y]])) (wr w W c y) :=
  ⟨v, rfl, I.wr c y, (h.ends c y).2.2⟩
theorem Fr.ends2 {w W : World} {o k x : Int} (h : Fr w W o k x) (c y : Int) (O : Obj) : ((wr w W c y).alloc O).cell? ⟨w.heap.size + 1, 0, none⟩ = some (.int .i64 c) ∧ ((wr w W c y).alloc O).cell? ⟨w.heap.size + 1, 1, none⟩ = some (.int .i64 y) ∧ Below w.heap.size w ((wr w W c y).alloc O).drew := by
  obtain ⟨e0, e1, e2⟩ := h.ends c y
  have hb : Below (wr w W c y).heap.size (wr w W c y) ((wr w W c y).alloc O) := (Below.refl _ _).alloc (Nat.le_refl _) _
  refine ⟨?_, ?_, (e2.alloc e2.size _).drew⟩
  · rw [hb.cell (p := ⟨w.heap.size + 1, 0, none⟩) (World.block_lt_of_cell? _ _ e0)]; exact e0
  · rw [hb.cell (p := ⟨w.heap.size + 1, 1, none⟩) (World.block_lt_of_cell? _ _ e1)]; exact e1
theorem Fr.made2 {w W : World} {o k x : Int} {v : Value} {ys : List Int} (h : Fr w W o k x) (c y : Int) (O : Obj) (I : IsL (w.heap.size + 2) W v ys) : Made w ys c y (.returned (.tuple #[v, .agg #[.int .i64 c, .int .i64 y]])) ((wr w W c y).alloc O).drew :=
  ⟨v, rfl, (I.wr c y).later ((Below.refl _ _).alloc (Nat.le_refl _) _).drew, (h.ends2 c y O).2.2⟩

set_option maxHeartbeats 1000000 in
theorem qDo_wrong {B : Nat} {v : Value} {xs : List Int} {w : World} (o k x : Int) (h : IsL B w v xs) (hx : xs.length ≤ 1000000) (n1 : o ≠ 1) (n2 : o ≠ 2) (n5 : o ≠ 5) (n6 : o ≠ 6) :
    Calls Try.prog 62 #[v, .agg #[.int .i64 o, .int .i64 k, .int .i64 x]] w (Made w xs 5 0) := by
  have F0 : Hid (Fr w (two w o k x) o k x) := Fr.start w o k x
  have X : Hid (IsL B (two w o k x) v xs) := h.later F0.out.gr
  clear h
  go_enter Try.func62, Try.ntmps62
  go_wp2_with fail
  refine (Clone_is (w := two w o k x) X.out hx).mono ?_
  rintro e w1 ⟨v1, rfl, hown, hb⟩
  rw [two_size] at hown hb
  have F1 : Hid (Fr w w1 o k x) := F0.out.later hb
  have O1 : Hid (Own (w.heap.size + 2) w1 v1 xs) := hown
  clear hown hb F0 X
  have o0 := F1.out.o0
  have o2 := F1.out.o2
  have r0 := F1.out.r0
  have r1 := F1.out.r1
  have f0 := F1.out.f0
  have f1 := F1.out.f1
  have sz := F1.out.sz
  obtain ⟨a, c, rfl⟩ := O1.out.form
  go_wp2
  refine bodyPost_ret (v := .tuple #[.slice a xs.length c, .agg #[.int .i64 5, .int .i64 0]]) ?_ rfl (F1.out.made 5 0 O1.out.isL)
  have E := F1.out.ends 5 0
  unfold wr at E
  simp [results, Try.results62, go_sem, E.1, E.2.1]

set_option maxHeartbeats 1000000 in
theorem qDo_count {B : Nat} {v : Value} {xs : List Int} {w : World} (k x : Int) (h : IsL B w v xs) (hx : xs.length ≤ 1000000)  :
    Calls Try.prog 62 #[v, .agg #[.int .i64 6, .int .i64 k, .int .i64 x]] w (Made w xs 1 xs.length) := by
  have F0 : Hid (Fr w (two w 6 k x) 6 k x) := Fr.start w 6 k x
  have X : Hid (IsL B (two w 6 k x) v xs) := h.later F0.out.gr
  clear h
  go_enter Try.func62, Try.ntmps62
  go_wp2_with fail
  refine (Clone_is (w := two w 6 k x) X.out hx).mono ?_
  rintro e w1 ⟨v1, rfl, hown, hb⟩
  rw [two_size] at hown hb
  have F1 : Hid (Fr w w1 6 k x) := F0.out.later hb
  have O1 : Hid (Own (w.heap.size + 2) w1 v1 xs) := hown
  clear hown hb F0 X
  have o0 := F1.out.o0
  have o2 := F1.out.o2
  have r0 := F1.out.r0
  have r1 := F1.out.r1
  have f0 := F1.out.f0
  have f1 := F1.out.f1
  have sz := F1.out.sz
  obtain ⟨a, c, rfl⟩ := O1.out.form
  go_wp2
  refine bodyPost_ret (v := .tuple #[.slice a xs.length c, .agg #[.int .i64 1, .int .i64 xs.length]]) ?_ rfl (F1.out.made 1 xs.length O1.out.isL)
  have E := F1.out.ends 1 xs.length
  unfold wr at E
  simp [results, Try.results62, go_sem, E.1, E.2.1]

set_option maxHeartbeats 1000000 in
theorem qDo_full {B : Nat} {v : Value} {xs : List Int} {w : World} (k x : Int) (h : IsL B w v xs) (hx : xs.length ≤ 1000000) (h6 : 6 ≤ xs.length) :
    Calls Try.prog 62 #[v, .agg #[.int .i64 1, .int .i64 k, .int .i64 x]] w (Made w xs 3 0) := by
  have F0 : Hid (Fr w (two w 1 k x) 1 k x) := Fr.start w 1 k x
  have X : Hid (IsL B (two w 1 k x) v xs) := h.later F0.out.gr
  clear h
  go_enter Try.func62, Try.ntmps62
  go_wp2_with fail
  refine (Clone_is (w := two w 1 k x) X.out hx).mono ?_
  rintro e w1 ⟨v1, rfl, hown, hb⟩
  rw [two_size] at hown hb
  have F1 : Hid (Fr w w1 1 k x) := F0.out.later hb
  have O1 : Hid (Own (w.heap.size + 2) w1 v1 xs) := hown
  clear hown hb F0 X
  have o0 := F1.out.o0
  have o2 := F1.out.o2
  have r0 := F1.out.r0
  have r1 := F1.out.r1
  have f0 := F1.out.f0
  have f1 := F1.out.f1
  have sz := F1.out.sz
  go_wp2_with fail
  refine (qput_full x O1.out.isL h6).mono ?_
  rintro e w2 ⟨rfl, hb⟩
  have F2 : Hid (Fr w w2 1 k x) := F1.out.later (hb.mono F1.out.sz)
  have I2 : Hid (IsL (w.heap.size + 2) w2 v1 xs) := O1.out.isL.later hb
  clear hb o0 o2 r0 r1 f0 f1 sz F1 O1
  have o0 := F2.out.o0
  have o2 := F2.out.o2
  have r0 := F2.out.r0
  have r1 := F2.out.r1
  have f0 := F2.out.f0
  have f1 := F2.out.f1
  have sz := F2.out.sz
  go_wp2
  refine bodyPost_ret (v := .tuple #[v1, .agg #[.int .i64 3, .int .i64 0]]) ?_ rfl (F2.out.made 3 0 I2.out)
  have E := F2.out.ends 3 0
  unfold wr at E
  simp [results, Try.results62, go_sem, E.1, E.2.1]

set_option maxHeartbeats 1000000 in
theorem qDo_put {B : Nat} {v : Value} {xs : List Int} {w : World} (k x : Int) (h : IsL B w v xs) (hx : xs.length ≤ 1000000) (h6 : xs.length < 6) :
    Calls Try.prog 62 #[v, .agg #[.int .i64 1, .int .i64 k, .int .i64 x]] w (Made w (xs ++ [x]) 1 0) := by
  have F0 : Hid (Fr w (two w 1 k x) 1 k x) := Fr.start w 1 k x
  have X : Hid (IsL B (two w 1 k x) v xs) := h.later F0.out.gr
  clear h
  go_enter Try.func62, Try.ntmps62
  go_wp2_with fail
  refine (Clone_is (w := two w 1 k x) X.out hx).mono ?_
  rintro e w1 ⟨v1, rfl, hown, hb⟩
  rw [two_size] at hown hb
  have F1 : Hid (Fr w w1 1 k x) := F0.out.later hb
  have O1 : Hid (Own (w.heap.size + 2) w1 v1 xs) := hown
  clear hown hb F0 X
  have o0 := F1.out.o0
  have o2 := F1.out.o2
  have r0 := F1.out.r0
  have r1 := F1.out.r1
  have f0 := F1.out.f0
  have f1 := F1.out.f1
  have sz := F1.out.sz
  go_wp2_with fail
  refine (qput_room x O1.out F1.out.sz h6).mono ?_
  rintro e w2 ⟨v2, rfl, hown, hb⟩
  have F2 : Hid (Fr w w2 1 k x) := F1.out.later hb
  have I2 : Hid (IsL (w.heap.size + 2) w2 v2 (xs ++ [x])) := hown.isL
  clear hb hown o0 o2 r0 r1 f0 f1 sz F1 O1
  have o0 := F2.out.o0
  have o2 := F2.out.o2
  have r0 := F2.out.r0
  have r1 := F2.out.r1
  have f0 := F2.out.f0
  have f1 := F2.out.f1
  have sz := F2.out.sz
  go_wp2
  refine bodyPost_ret (v := .tuple #[v2, .agg #[.int .i64 1, .int .i64 0]]) ?_ rfl (F2.out.made 1 0 I2.out)
  have E := F2.out.ends 1 0
  unfold wr at E
  simp [results, Try.results62, go_sem, E.1, E.2.1]

set_option maxHeartbeats 1000000 in
theorem qDo_empty {B : Nat} {v : Value}  {w : World} (k x : Int) (h : IsL B w v ([] : List Int)) (hx : ([] : List Int).length ≤ 1000000)  :
    Calls Try.prog 62 #[v, .agg #[.int .i64 2, .int .i64 k, .int .i64 x]] w (Made w [] 2 0) := by
  have F0 : Hid (Fr w (two w 2 k x) 2 k x) := Fr.start w 2 k x
  have X : Hid (IsL B (two w 2 k x) v ([] : List Int)) := h.later F0.out.gr
  clear h
  go_enter Try.func62, Try.ntmps62
  go_wp2_with fail
  refine (Clone_is (w := two w 2 k x) X.out hx).mono ?_
  rintro e w1 ⟨v1, rfl, hown, hb⟩
  rw [two_size] at hown hb
  have F1 : Hid (Fr w w1 2 k x) := F0.out.later hb
  have O1 : Hid (Own (w.heap.size + 2) w1 v1 ([] : List Int)) := hown
  clear hown hb F0 X
  have o0 := F1.out.o0
  have o2 := F1.out.o2
  have r0 := F1.out.r0
  have r1 := F1.out.r1
  have f0 := F1.out.f0
  have f1 := F1.out.f1
  have sz := F1.out.sz
  obtain ⟨a, c, rfl⟩ := O1.out.form
  go_wp2_with fail
  refine (qtake_none a c w1).mono ?_
  rintro e w2 ⟨rfl, hb⟩
  have F2 : Hid (Fr w w2 2 k x) := F1.out.later (hb.mono F1.out.sz)
  clear hb o0 o2 r0 r1 f0 f1 sz F1 O1
  have o0 := F2.out.o0
  have o2 := F2.out.o2
  have r0 := F2.out.r0
  have r1 := F2.out.r1
  have f0 := F2.out.f0
  have f1 := F2.out.f1
  have sz := F2.out.sz
  go_wp2
  refine bodyPost_ret (v := .tuple #[.slice a 0 c, .agg #[.int .i64 2, .int .i64 0]]) ?_ rfl (F2.out.made 2 0 (IsL.nil _ _ _ _))
  have E := F2.out.ends 2 0
  unfold wr at E
  simp [results, Try.results62, go_sem, E.1, E.2.1]

set_option maxHeartbeats 1000000 in
theorem qDo_take {B : Nat} {v : Value} {z : Int} {r : List Int} {w : World} (k x : Int) (h : IsL B w v (z :: r)) (hx : (z :: r).length ≤ 1000000)  :
    Calls Try.prog 62 #[v, .agg #[.int .i64 2, .int .i64 k, .int .i64 x]] w (Made w r 1 z) := by
  have F0 : Hid (Fr w (two w 2 k x) 2 k x) := Fr.start w 2 k x
  have X : Hid (IsL B (two w 2 k x) v (z :: r)) := h.later F0.out.gr
  clear h
  go_enter Try.func62, Try.ntmps62
  go_wp2_with fail
  refine (Clone_is (w := two w 2 k x) X.out hx).mono ?_
  rintro e w1 ⟨v1, rfl, hown, hb⟩
  rw [two_size] at hown hb
  have F1 : Hid (Fr w w1 2 k x) := F0.out.later hb
  have O1 : Hid (Own (w.heap.size + 2) w1 v1 (z :: r)) := hown
  clear hown hb F0 X
  have o0 := F1.out.o0
  have o2 := F1.out.o2
  have r0 := F1.out.r0
  have r1 := F1.out.r1
  have f0 := F1.out.f0
  have f1 := F1.out.f1
  have sz := F1.out.sz
  go_wp2_with fail
  refine (qtake_one O1.out.isL).mono ?_
  rintro e w2 ⟨v2, rfl, hi, hb⟩
  have F2 : Hid (Fr w w2 2 k x) := F1.out.later (hb.mono F1.out.sz)
  have I2 : Hid (IsL (w.heap.size + 2) w2 v2 r) := hi
  clear hb hi o0 o2 r0 r1 f0 f1 sz F1 O1
  have o0 := F2.out.o0
  have o2 := F2.out.o2
  have r0 := F2.out.r0
  have r1 := F2.out.r1
  have f0 := F2.out.f0
  have f1 := F2.out.f1
  have sz := F2.out.sz
  go_wp2
  refine bodyPost_ret (v := .tuple #[v2, .agg #[.int .i64 1, .int .i64 z]]) ?_ rfl (F2.out.made 1 z I2.out)
  have E := F2.out.ends 1 z
  unfold wr at E
  simp [results, Try.results62, go_sem, E.1, E.2.1]

set_option maxHeartbeats 1000000 in
theorem qDo_peekno {B : Nat} {v : Value}  {w : World} (k x : Int) (h : IsL B w v ([] : List Int)) (hx : ([] : List Int).length ≤ 1000000)  :
    Calls Try.prog 62 #[v, .agg #[.int .i64 5, .int .i64 k, .int .i64 x]] w (Made w [] 2 0) := by
  have F0 : Hid (Fr w (two w 5 k x) 5 k x) := Fr.start w 5 k x
  have X : Hid (IsL B (two w 5 k x) v ([] : List Int)) := h.later F0.out.gr
  clear h
  go_enter Try.func62, Try.ntmps62
  go_wp2_with fail
  refine (Clone_is (w := two w 5 k x) X.out hx).mono ?_
  rintro e w1 ⟨v1, rfl, hown, hb⟩
  rw [two_size] at hown hb
  have F1 : Hid (Fr w w1 5 k x) := F0.out.later hb
  have O1 : Hid (Own (w.heap.size + 2) w1 v1 ([] : List Int)) := hown
  clear hown hb F0 X
  have o0 := F1.out.o0
  have o2 := F1.out.o2
  have r0 := F1.out.r0
  have r1 := F1.out.r1
  have f0 := F1.out.f0
  have f1 := F1.out.f1
  have sz := F1.out.sz
  obtain ⟨a, c, rfl⟩ := O1.out.form
  go_wp2_with fail
  refine (qtake_none a c w1).mono ?_
  rintro e w2 ⟨rfl, hb⟩
  have F3 : Hid (Fr w w2 5 k x) := F1.out.later (hb.mono F1.out.sz)
  have I3 : Hid (IsL (w.heap.size + 2) w2 (.slice a 0 c) []) := O1.out.isL.later hb
  clear hb  o0 o2 r0 r1 f0 f1 sz F1 O1
  have o0 := F3.out.o0
  have o2 := F3.out.o2
  have r0 := F3.out.r0
  have r1 := F3.out.r1
  have f0 := F3.out.f0
  have f1 := F3.out.f1
  have sz := F3.out.sz
  have l1 : w.heap.size + 1 < w2.heap.size := F3.out.sz
  go_wp2_with fail
  go_region
  all_goals go_wp2
  refine bodyPost_ret (v := .tuple #[(.slice a 0 c), .agg #[.int .i64 2, .int .i64 0]]) ?_ rfl (F3.out.made2 2 0 (.cells #[.int .i64 2, .int .i64 0] 42) I3.out)
  have E := F3.out.ends2 2 0 (.cells #[.int .i64 2, .int .i64 0] 42)
  unfold wr at E
  simp [results, Try.results62, go_sem, E.1, E.2.1]

set_option maxHeartbeats 1000000 in
theorem qDo_peek {B : Nat} {v : Value} {z : Int} {r : List Int} {w : World} (k x : Int) (h : IsL B w v (z :: r)) (hx : (z :: r).length ≤ 1000000)  :
    Calls Try.prog 62 #[v, .agg #[.int .i64 5, .int .i64 k, .int .i64 x]] w (Made w (z :: r) 1 z) := by
  have F0 : Hid (Fr w (two w 5 k x) 5 k x) := Fr.start w 5 k x
  have X : Hid (IsL B (two w 5 k x) v (z :: r)) := h.later F0.out.gr
  clear h
  go_enter Try.func62, Try.ntmps62
  go_wp2_with fail
  refine (Clone_is (w := two w 5 k x) X.out hx).mono ?_
  rintro e w1 ⟨v1, rfl, hown, hb⟩
  rw [two_size] at hown hb
  have F1 : Hid (Fr w w1 5 k x) := F0.out.later hb
  have O1 : Hid (Own (w.heap.size + 2) w1 v1 (z :: r)) := hown
  clear hown hb F0 X
  have o0 := F1.out.o0
  have o2 := F1.out.o2
  have r0 := F1.out.r0
  have r1 := F1.out.r1
  have f0 := F1.out.f0
  have f1 := F1.out.f1
  have sz := F1.out.sz
  go_wp2_with fail
  refine (qtake_one O1.out.isL).mono ?_
  rintro e w2 ⟨v2, rfl, hi, hb⟩
  have F3 : Hid (Fr w w2 5 k x) := F1.out.later (hb.mono F1.out.sz)
  have I3 : Hid (IsL (w.heap.size + 2) w2 v1 (z :: r)) := O1.out.isL.later hb
  clear hb hi o0 o2 r0 r1 f0 f1 sz F1 O1
  have o0 := F3.out.o0
  have o2 := F3.out.o2
  have r0 := F3.out.r0
  have r1 := F3.out.r1
  have f0 := F3.out.f0
  have f1 := F3.out.f1
  have sz := F3.out.sz
  have l1 : w.heap.size + 1 < w2.heap.size := F3.out.sz
  go_wp2_with fail
  go_region
  all_goals go_wp2
  refine bodyPost_ret (v := .tuple #[v1, .agg #[.int .i64 1, .int .i64 z]]) ?_ rfl (F3.out.made2 1 z (.cells #[.int .i64 1, .int .i64 z] 42) I3.out)
  have E := F3.out.ends2 1 z (.cells #[.int .i64 1, .int .i64 z] 42)
  unfold wr at E
  simp [results, Try.results62, go_sem, E.1, E.2.1]

theorem qdo_looks (ys : List Int) : ∃ r c y, qdo ys 5 0 = (ys, c, y) ∧ qdo ys 2 0 = (r, c, y) := by
  cases ys with
  | nil => exact ⟨[], 2, 0, rfl, rfl⟩
  | cons z r => exact ⟨r, 1, z, rfl, rfl⟩
theorem qdo_count (ys : List Int) (x : Int) : qdo ys 6 x = (ys, 1, (ys.length : Int)) := by simp [qdo]
theorem qDo_eq {B : Nat} {v : Value} {xs ys : List Int} {w : World} {o x c y : Int} (k : Int) (h : IsL B w v xs) (hx : xs.length ≤ 1000000) (hq : qdo xs o x = (ys, c, y)) :
    Calls Try.prog 62 #[v, .agg #[.int .i64 o, .int .i64 k, .int .i64 x]] w (Made w ys c y) := by
  by_cases n1 : o = 1
  · subst n1
    by_cases h6 : 6 ≤ xs.length
    · simp [qdo, h6] at hq
      obtain ⟨rfl, rfl, rfl⟩ := hq
      exact qDo_full k x h hx h6
    · simp [qdo, h6] at hq
      obtain ⟨rfl, rfl, rfl⟩ := hq
      exact qDo_put k x h hx (by omega)
  by_cases n2 : o = 2
  · subst n2
    cases xs with
    | nil => simp [qdo] at hq; obtain ⟨rfl, rfl, rfl⟩ := hq; exact qDo_empty k x h hx
    | cons z r => simp [qdo] at hq; obtain ⟨rfl, rfl, rfl⟩ := hq; exact qDo_take k x h hx
  by_cases n5 : o = 5
  · subst n5
    cases xs with
    | nil => simp [qdo] at hq; obtain ⟨rfl, rfl, rfl⟩ := hq; exact qDo_peekno k x h hx
    | cons z r => simp [qdo] at hq; obtain ⟨rfl, rfl, rfl⟩ := hq; exact qDo_peek k x h hx
  by_cases n6 : o = 6
  · subst n6
    simp [qdo] at hq
    obtain ⟨rfl, rfl, rfl⟩ := hq
    exact qDo_count k x h hx
  · simp [qdo, n1, n2, n5, n6] at hq
    obtain ⟨rfl, rfl, rfl⟩ := hq
    exact qDo_wrong o k x h hx n1 n2 n5 n6
end Go.Proofs.Ytgkgkiheoadbfaa
namespace Go.Proofs.Ytgkgkiheoadbfaa
set_option maxRecDepth 20000
open Go.RowKit

/-- The answer (c, y) lies in block n. -/
structure Bx (n : Nat) (c y : Int) (w : World) : Prop where
  lt : n < w.heap.size
  c0 : w.cell? ⟨n, 0, none⟩ = some (.int .i64 c)
  c1 : w.cell? ⟨n, 1, none⟩ = some (.int .i64 y)
  f0 : w.frozen? ⟨n, 0, none⟩ = false
  f1 : w.frozen? ⟨n, 1, none⟩ = false
theorem Bx.later {n : Nat} {c y : Int} {w w' : World} (h : Bx n c y w) (hb : Below w.heap.size w w') : Bx n c y w' where
  lt := Nat.lt_of_lt_of_le h.lt hb.size
  c0 := by rw [hb.cell (p := ⟨n, 0, none⟩) h.lt]; exact h.c0
  c1 := by rw [hb.cell (p := ⟨n, 1, none⟩) h.lt]; exact h.c1
  f0 := by rw [World.frozen?_of_block (hb.block n h.lt)]; exact h.f0
  f1 := by rw [World.frozen?_of_block (hb.block n h.lt)]; exact h.f1
theorem Bx.born (w : World) (c y : Int) (t : TypeId) : Bx w.heap.size c y (w.alloc (.cells #[.int .i64 c, .int .i64 y] t)) where
  lt := by simp
  c0 := by simp
  c1 := by simp
  f0 := by simp
  f1 := by simp
theorem Bx.bornAt (w : World) (c y : Int) (t : TypeId) {n : Nat} (h : n = w.heap.size) : Bx n c y (w.alloc (.cells #[.int .i64 c, .int .i64 y] t)) := h ▸ Bx.born w c y t

/-- w' has all that w had. -/
def Gd (w w' : World) : Prop := Below w.heap.size w w'
theorem Gd.refl (w : World) : Gd w w := Below.refl _ _
theorem Gd.later {w a b : World} (h : Gd w a) (hb : Below a.heap.size a b) : Gd w b := Below.trans h (hb.mono (Below.size h))
theorem new_below (w : World) (o : Obj) : Below w.heap.size w (w.alloc o) := (Below.refl _ w).alloc (Nat.le_refl _) o
theorem Gd.new {w a : World} (h : Gd w a) (o : Obj) : Gd w (a.alloc o) := h.later (new_below a o)
theorem IsL.new {B : Nat} {w : World} {v : Value} {xs : List Int} (h : IsL B w v xs) (o : Obj) : IsL B (w.alloc o) v xs := h.later (new_below w o)
theorem Bx.new {n : Nat} {c y : Int} {w : World} (h : Bx n c y w) (o : Obj) : Bx n c y (w.alloc o) := h.later (new_below w o)
theorem IsL.any {B : Nat} {w : World} {v : Value} {xs : List Int} (h : IsL B w v xs) : IsL 0 w v xs := h.mono (Nat.zero_le _)

theorem IsL.lit (w : World) (cs : List Int) (h : 0 < cs.length) : IsL 0 (w.alloc (.cells (cs.map (Value.int .i64)).toArray 3)) (.slice (some ⟨w.heap.size, 0, none⟩) cs.length cs.length) cs :=
  Or.inr ⟨_, 0, _, rfl, Nat.zero_le _, h, Nat.le_refl _, fun j hj => by simp [List.getD, hj], fun h0 => absurd h0 (by decide)⟩
theorem IsL.litAt (w : World) (cs : List Int) (h : 0 < cs.length) {n : Nat} (hn : n = w.heap.size) : IsL 0 (w.alloc (.cells (cs.map (Value.int .i64)).toArray 3)) (.slice (some ⟨n, 0, none⟩) cs.length cs.length) cs := hn ▸ IsL.lit w cs h

theorem IsL.formp {B : Nat} {w : World} {v : Value} {xs : List Int} (h : IsL B w v xs) (h0 : 0 < xs.length) : ∃ b off c, v = .slice (some ⟨b, off, none⟩) xs.length c := by
  rcases h with ⟨rfl, _⟩ | ⟨b, off, c, rfl, _⟩
  · simp at h0
  · exact ⟨b, off, c, rfl⟩
theorem IsL.at {B : Nat} {w : World} {xs : List Int} {b off c i : Nat} (h : IsL B w (.slice (some ⟨b, off, none⟩) xs.length c) xs) (hi : i < xs.length) : w.cell? ⟨b, off + i, none⟩ = some (.int .i64 (xs.getD i 0)) := by
  rcases h with ⟨rfl, _⟩ | ⟨b', off', c', h1, _, _, _, h4, _⟩
  · simp at hi
  · injection h1 with h1 _ h3
    injection h1 with h1
    injection h1 with h1 h2
    subst h1 h2
    exact h4 i hi
theorem IsL.frz {B : Nat} {w : World} {xs : List Int} {b off c i : Nat} (h : IsL B w (.slice (some ⟨b, off, none⟩) xs.length c) xs) (h0 : 0 < B) (hi : i < xs.length) : w.frozen? ⟨b, off + i, none⟩ = false := by
  rcases h with ⟨rfl, _⟩ | ⟨b', off', c', h1, _, _, _, _, h4⟩
  · simp at hi
  · injection h1 with h1 _ h3
    injection h1 with h1
    injection h1 with h1 h2
    subst h1 h2
    exact h4 h0 i hi
theorem take_more (l : List Int) (i : Nat) (h : i < l.length) : l.take i ++ [l.getD i 0] = l.take (i + 1) := by
  rw [List.take_add_one]
  simp [List.getD, h]
theorem drop_one (l : List Int) (i : Nat) (h : i < l.length) : l.drop i = l.getD i 0 :: l.drop (i + 1) := by
  rw [List.drop_eq_getElem_cons h]
  simp [List.getD, h]
/-- An answer that is written into its block. -/
theorem Bx.put {n : Nat} {c y c' y' : Int} {w W : World} (h : Bx n c y W) (hn : w.heap.size ≤ n) (g : Gd w W) : Bx n c' y' ((W.setCell ⟨n, 0, none⟩ (.int .i64 c')).setCell ⟨n, 1, none⟩ (.int .i64 y')) ∧ Gd w ((W.setCell ⟨n, 0, none⟩ (.int .i64 c')).setCell ⟨n, 1, none⟩ (.int .i64 y')) := by
  have d0 := World.cell?_setCell_same W ⟨n, 0, none⟩ (.int .i64 c') h.c0
  have d1 : (W.setCell ⟨n, 0, none⟩ (.int .i64 c')).cell? ⟨n, 1, none⟩ = some (.int .i64 y) := by rw [World.cell?_setCell_other]; exact h.c1; simp
  refine ⟨⟨by simpa using h.lt, ?_, World.cell?_setCell_same _ _ _ d1, ?_, ?_⟩, (Below.setCell g hn _).setCell hn _⟩
  · rw [World.cell?_setCell_other]
    · exact d0
    · simp
  · simpa using h.f0
  · simpa using h.f1

/-- The first things of a list, where it lies. -/
theorem IsL.cut {B : Nat} {w : World} {v : Value} {l r : List Int} (h : IsL B w v (l ++ r)) (hr : 0 < r.length) : ∃ b off c, v = .slice (some ⟨b, off, none⟩) (l.length + r.length) c ∧ l.length + r.length ≤ c ∧ IsL B w (.slice (some ⟨b, off, none⟩) l.length c) l := by
  rcases h with ⟨h, _⟩ | ⟨b, off, c, rfl, hB, h0, hc, hcell, hfz⟩
  · simp at h
    simp [h.2] at hr
  · rw [List.length_append] at h0 hc ⊢
    refine ⟨b, off, c, rfl, hc, ?_⟩
    by_cases hl : l.length = 0
    · have : l = [] := List.eq_nil_of_length_eq_zero hl
      subst this
      exact IsL.nil _ _ _ _
    · refine Or.inr ⟨b, off, c, rfl, hB, by omega, by omega, fun j hj => ?_, fun h0 j hj => hfz h0 j (by simp; omega)⟩
      rw [hcell j (by simp; omega)]
      simp [List.getD, List.getElem?_append_left hj]
end Go.Proofs.Ytgkgkiheoadbfaa
namespace Go.Proofs.Ytgkgkiheoadbfaa.Tab
set_option maxRecDepth 20000
open Go.RowKit

/-- What Do hands back. -/
def Told (w : World) (r : Tb × Int × Int) (e : Ending) (w' : World) : Prop := e = .returned (.tuple #[.agg r.1.all.toArray, .agg #[.int .i64 r.2.1, .int .i64 r.2.2]]) ∧ Below w.heap.size w w'

set_option maxHeartbeats 2000000 in
theorem tDo_count (t : Tb) (k x : Int) (w : World) :
    Calls Try.prog 80 #[.agg t.all.toArray, .agg #[.int .i64 6, .int .i64 k, .int .i64 x]] w (Told w (t, 1, (len t : Int))) := by
  have L := Len_is t
  have hM : Hid _ := (((((Ms.nil w).born t.all 109 (b := w.heap.size) rfl).born [.int .i64 6, .int .i64 k, .int .i64 x] 54 (b := w.heap.size + 1) (by simp)).bornR Tb.zero_all.symm 109 (b := w.heap.size + 2) (by simp)).born [.int .i64 0, .int .i64 0] 42 (b := w.heap.size + 3) (by simp))
  have c1 := hM.out.cell 2 0 rfl rfl
  have c2 := hM.out.cell 2 1 rfl rfl
  have c3 := hM.out.cell 2 2 rfl rfl
  go_enter Try.func80, Try.ntmps80
  go_wp2_with fail
  clear c1 c2 c3
  generalize World.alloc _ _ = W at hM ⊢
  generalize hsz : w.heap.size = n at hM ⊢
  clear hsz
  replace hM := hid (hM.out.drew)
  refine wp_region_held_drew (S := fun w' => Bo w' n t.all) (by kernel_rfl) (hM.out.at 3 rfl) (fun hH => ?_)
  generalize World.drew _ = W at hM hH  ⊢
  refine tkR 0 rfl hH (fun _ h => h) (rwS t) ?_
  simp only [Act.put, p1, p2, p3]
  refine tkR 1 rfl hH (fun _ h => h) (rwS t) ?_
  simp only [Act.put, p1, p2, p3]
  refine rd1 2 rfl (fun K hK => ?_)
  go_simp
  refine (L _).mono ?_
  rintro e W ⟨rfl, hb⟩
  replace hM := hid (hM.out.later hb)
  clear hb
  go_wp2_with fail
  refine hK.out _ _ (hM.out.at 3 rfl) (fun hH => ?_)
  clear hK K
  try simp only [Act.put, p1, p2, p3]
  refine tk 3 rfl hH ?_
  simp only [Act.put, p1, p2, p3]
  refine rd1 4 rfl (fun K hK => ?_)
  refine stR rfl (hM.out.at 1 rfl) ((rwS Tb.zero).len (rwS t)) (rwS t) ?_
  simp only [Act.put]
  replace hM := hid (hM.out.put 1 rfl t.all ((rwS Tb.zero).len (rwS t)))
  refine hK.out _ _ (hM.out.at 3 rfl) (fun hH => ?_)
  clear hK K
  generalize World.setCells _ _ _ _ = W at hM hH ⊢
  try simp only [Act.put, p1, p2, p3]
  refine rd1 5 rfl (fun K hK => ?_)
  refine stR rfl (hM.out.at 0 rfl) ((rwA 0 0).len (rwA _ _)) (rwA _ _) ?_
  simp only [Act.put]
  replace hM := hid (hM.out.put 0 rfl [.int .i64 1, .int .i64 (len t : Nat)] ((rwA 0 0).len (rwA _ _)))
  refine hK.out _ _ (hM.out.at 3 rfl) (fun hH => ?_)
  clear hK K
  generalize World.setCells _ _ _ _ = W at hM hH ⊢
  try simp only [Act.put, p1, p2, p3]
  refine wpAnyH_done (by kernel_rfl) ?_ _
  go_wp2
  exact bodyPost_ret (res2 Try.results80 (hM.out.at 1 rfl) (rwS t) (hM.out.at 0 rfl) (rwA _ _)) rfl ⟨rfl, hM.out.below⟩

set_option maxHeartbeats 2000000 in
theorem tDo_wrong (t : Tb) (o k x : Int) (h6 : o ≠ 6) (hb : ¬ byKey o k) (w : World) :
    Calls Try.prog 80 #[.agg t.all.toArray, .agg #[.int .i64 o, .int .i64 k, .int .i64 x]] w (Told w (t, 5, 0)) := by
  have m6 : (o == 6) = false := by simp [h6]
  have L := byKey_is o k x
  rw [decide_eq_false hb] at L
  clear h6 hb
  have hM : Hid _ := (((((Ms.nil w).born t.all 109 (b := w.heap.size) rfl).born [.int .i64 o, .int .i64 k, .int .i64 x] 54 (b := w.heap.size + 1) (by simp)).bornR Tb.zero_all.symm 109 (b := w.heap.size + 2) (by simp)).born [.int .i64 0, .int .i64 0] 42 (b := w.heap.size + 3) (by simp))
  have c1 := hM.out.cell 2 0 rfl rfl
  have c2 := hM.out.cell 2 1 rfl rfl
  have c3 := hM.out.cell 2 2 rfl rfl
  go_enter Try.func80, Try.ntmps80
  go_wp2_with fail
  clear c1 c2 c3
  generalize World.alloc _ _ = W at hM ⊢
  generalize hsz : w.heap.size = n at hM ⊢
  clear hsz
  refine (L _).mono ?_
  rintro e W ⟨rfl, hb⟩
  replace hM := hid (hM.out.later hb)
  clear hb
  go_wp2_with (first
    | (refine lR rfl (hM.out.at 3 rfl) rfl (rwS t) ?_)
    | (refine sR rfl (hM.out.at 1 rfl) rfl ((rwS Tb.zero).len (rwS t)) (rwS t) ?_
       replace hM := hid (hM.out.put 1 rfl t.all ((rwS Tb.zero).len (rwS t)))
       generalize World.setCells _ _ _ _ = W at hM ⊢)
    | (refine sR rfl (hM.out.at 0 rfl) rfl ((rwA 0 0).len (rwA _ _)) (rwA _ _) ?_
       replace hM := hid (hM.out.put 0 rfl [.int .i64 5, .int .i64 0] ((rwA 0 0).len (rwA _ _)))
       generalize World.setCells _ _ _ _ = W at hM ⊢))
  exact bodyPost_ret (res2 Try.results80 (hM.out.at 1 rfl) (rwS t) (hM.out.at 0 rfl) (rwA _ _)) rfl ⟨rfl, hM.out.below⟩

set_option maxHeartbeats 2000000 in
theorem tDo_full (t : Tb) (k x : Int) (hn : t.k (place t k) ≠ k) (hl : 6 ≤ len t) (hk1 : 1 ≤ k) (hk2 : k ≤ 1000) (w : World) :
    Calls Try.prog 80 #[.agg t.all.toArray, .agg #[.int .i64 1, .int .i64 k, .int .i64 x]] w (Told w (t, 3, 0)) := by
  have L := byKey_is 1 k x
  rw [decide_eq_true (show byKey 1 k from ⟨by omega, hk1, hk2⟩)] at L
  have PL := place_eq t k
  unfold Placed at PL
  have hp := place_lt t k
  have LL := Len_is t
  rw [show (t.k (place t k) == k) = false by simp [hn]] at PL
  generalize len t = l at *
  have hl1 : (6 : Int) ≤ (l : Int) := by omega
  clear hn hl
  generalize place t k = p at *
  have hp1 : (p : Int) < 8 := by omega
  have hp0 : (0 : Int) ≤ (p : Int) := by omega
  clear hk1 hk2
  have hM : Hid _ := (((((Ms.nil w).born t.all 109 (b := w.heap.size) rfl).born [.int .i64 1, .int .i64 k, .int .i64 x] 54 (b := w.heap.size + 1) (by simp)).bornR Tb.zero_all.symm 109 (b := w.heap.size + 2) (by simp)).born [.int .i64 0, .int .i64 0] 42 (b := w.heap.size + 3) (by simp))
  have c1 := hM.out.cell 2 0 rfl rfl
  have c2 := hM.out.cell 2 1 rfl rfl
  have c3 := hM.out.cell 2 2 rfl rfl
  go_enter Try.func80, Try.ntmps80
  go_wp2_with fail
  clear c1 c2 c3
  generalize World.alloc _ _ = W at hM ⊢
  generalize hsz : w.heap.size = n at hM ⊢
  clear hsz
  refine (L _).mono ?_
  rintro e W ⟨rfl, hb⟩
  replace hM := hid (hM.out.later hb)
  clear hb
  have c4 := hM.out.cell 2 1 rfl rfl
  go_wp2_with (first
    | (refine lR rfl (hM.out.at 3 rfl) rfl (rwS t) ?_))
  refine (PL _).mono ?_
  rintro e W ⟨rfl, hb⟩
  replace hM := hid (hM.out.later hb)
  clear hb
  clear c4
  clear PL L
  have c5 := hM.out.cell 2 0 rfl rfl
  go_wp2_with (first
    | (refine lW rfl (hM.out.at 3 rfl) rfl (rwS t) ?_))
  refine (LL _).mono ?_
  rintro e W ⟨rfl, hb⟩
  replace hM := hid (hM.out.later hb)
  clear hb
  clear c5
  clear LL
  go_wp2_with (first
    | (refine lR rfl (hM.out.at 3 rfl) rfl (rwS t) ?_)
    | (refine sR rfl (hM.out.at 1 rfl) rfl ((rwS Tb.zero).len (rwS t)) (rwS t) ?_
       replace hM := hid (hM.out.put 1 rfl t.all ((rwS Tb.zero).len (rwS t)))
       generalize World.setCells _ _ _ _ = W at hM ⊢)
    | (refine sR rfl (hM.out.at 0 rfl) rfl ((rwA 0 0).len (rwA _ _)) (rwA _ _) ?_
       replace hM := hid (hM.out.put 0 rfl [.int .i64 3, .int .i64 0] ((rwA 0 0).len (rwA _ _)))
       generalize World.setCells _ _ _ _ = W at hM ⊢))
  exact bodyPost_ret (res2 Try.results80 (hM.out.at 1 rfl) (rwS t) (hM.out.at 0 rfl) (rwA _ _)) rfl ⟨rfl, hM.out.below⟩

set_option maxHeartbeats 2000000 in
theorem tDo_put_has (t : Tb) (k x : Int) (hn : t.k (place t k) = k) (hk1 : 1 ≤ k) (hk2 : k ≤ 1000) (w : World) :
    Calls Try.prog 80 #[.agg t.all.toArray, .agg #[.int .i64 1, .int .i64 k, .int .i64 x]] w (Told w (t.set (place t k) k x, 1, 0)) := by
  have L := byKey_is 1 k x
  rw [decide_eq_true (show byKey 1 k from ⟨by omega, hk1, hk2⟩)] at L
  have PL := place_eq t k
  unfold Placed at PL
  have hp := place_lt t k
  rw [show (t.k (place t k) == k) = true by simp [hn]] at PL
  clear hn
  generalize place t k = p at *
  have hp1 : (p : Int) < 8 := by omega
  have hp0 : (0 : Int) ≤ (p : Int) := by omega
  clear hk1 hk2
  have hM : Hid _ := (((((Ms.nil w).born t.all 109 (b := w.heap.size) rfl).born [.int .i64 1, .int .i64 k, .int .i64 x] 54 (b := w.heap.size + 1) (by simp)).bornR Tb.zero_all.symm 109 (b := w.heap.size + 2) (by simp)).born [.int .i64 0, .int .i64 0] 42 (b := w.heap.size + 3) (by simp))
  have c1 := hM.out.cell 2 0 rfl rfl
  have c2 := hM.out.cell 2 1 rfl rfl
  have c3 := hM.out.cell 2 2 rfl rfl
  go_enter Try.func80, Try.ntmps80
  go_wp2_with fail
  clear c1 c2 c3
  generalize World.alloc _ _ = W at hM ⊢
  generalize hsz : w.heap.size = n at hM ⊢
  clear hsz
  refine (L _).mono ?_
  rintro e W ⟨rfl, hb⟩
  replace hM := hid (hM.out.later hb)
  clear hb
  have c4 := hM.out.cell 2 1 rfl rfl
  go_wp2_with (first
    | (refine lR rfl (hM.out.at 3 rfl) rfl (rwS t) ?_))
  refine (PL _).mono ?_
  rintro e W ⟨rfl, hb⟩
  replace hM := hid (hM.out.later hb)
  clear hb
  clear c4
  clear PL L
  have c5 := hM.out.cell 2 0 rfl rfl
  have c6 := hM.out.cell 2 1 rfl rfl
  have c7 := hM.out.cell 2 2 rfl rfl
  go_wp2_with (first
    | (refine sO rfl ((hM.out.at 3 rfl).tthere hp) rfl (rwSl k x) ?_
       replace hM := hid (hM.out.putAt 3 (p * 2) rfl [.int .i64 k, .int .i64 x] (t.set p k x).all ((hM.out.at 3 rfl).tset hp k x))
       generalize World.setCells _ _ _ _ = W at hM ⊢)
    | (refine lR rfl (hM.out.at 3 rfl) rfl (rwS (t.set p k x)) ?_)
    | (refine sR rfl (hM.out.at 1 rfl) rfl ((rwS Tb.zero).len (rwS (t.set p k x))) (rwS (t.set p k x)) ?_
       replace hM := hid (hM.out.put 1 rfl (t.set p k x).all ((rwS Tb.zero).len (rwS (t.set p k x))))
       generalize World.setCells _ _ _ _ = W at hM ⊢)
    | (refine sR rfl (hM.out.at 0 rfl) rfl ((rwA 0 0).len (rwA _ _)) (rwA _ _) ?_
       replace hM := hid (hM.out.put 0 rfl [.int .i64 1, .int .i64 0] ((rwA 0 0).len (rwA _ _)))
       generalize World.setCells _ _ _ _ = W at hM ⊢))
  exact bodyPost_ret (res2 Try.results80 (hM.out.at 1 rfl) (rwS (t.set p k x)) (hM.out.at 0 rfl) (rwA _ _)) rfl ⟨rfl, hM.out.below⟩

set_option maxHeartbeats 2000000 in
theorem tDo_put_new (t : Tb) (k x : Int) (hn : t.k (place t k) ≠ k) (hl : len t < 6) (hk1 : 1 ≤ k) (hk2 : k ≤ 1000) (w : World) :
    Calls Try.prog 80 #[.agg t.all.toArray, .agg #[.int .i64 1, .int .i64 k, .int .i64 x]] w (Told w (t.set (place t k) k x, 1, 0)) := by
  have L := byKey_is 1 k x
  rw [decide_eq_true (show byKey 1 k from ⟨by omega, hk1, hk2⟩)] at L
  have PL := place_eq t k
  unfold Placed at PL
  have hp := place_lt t k
  have LL := Len_is t
  rw [show (t.k (place t k) == k) = false by simp [hn]] at PL
  generalize len t = l at *
  have hl1 : ¬ (6 : Int) ≤ (l : Int) := by omega
  clear hn hl
  generalize place t k = p at *
  have hp1 : (p : Int) < 8 := by omega
  have hp0 : (0 : Int) ≤ (p : Int) := by omega
  clear hk1 hk2
  have hM : Hid _ := (((((Ms.nil w).born t.all 109 (b := w.heap.size) rfl).born [.int .i64 1, .int .i64 k, .int .i64 x] 54 (b := w.heap.size + 1) (by simp)).bornR Tb.zero_all.symm 109 (b := w.heap.size + 2) (by simp)).born [.int .i64 0, .int .i64 0] 42 (b := w.heap.size + 3) (by simp))
  have c1 := hM.out.cell 2 0 rfl rfl
  have c2 := hM.out.cell 2 1 rfl rfl
  have c3 := hM.out.cell 2 2 rfl rfl
  go_enter Try.func80, Try.ntmps80
  go_wp2_with fail
  clear c1 c2 c3
  generalize World.alloc _ _ = W at hM ⊢
  generalize hsz : w.heap.size = n at hM ⊢
  clear hsz
  refine (L _).mono ?_
  rintro e W ⟨rfl, hb⟩
  replace hM := hid (hM.out.later hb)
  clear hb
  have c4 := hM.out.cell 2 1 rfl rfl
  go_wp2_with (first
    | (refine lR rfl (hM.out.at 3 rfl) rfl (rwS t) ?_))
  refine (PL _).mono ?_
  rintro e W ⟨rfl, hb⟩
  replace hM := hid (hM.out.later hb)
  clear hb
  clear c4
  clear PL L
  have c5 := hM.out.cell 2 0 rfl rfl
  go_wp2_with (first
    | (refine lW rfl (hM.out.at 3 rfl) rfl (rwS t) ?_))
  refine (LL _).mono ?_
  rintro e W ⟨rfl, hb⟩
  replace hM := hid (hM.out.later hb)
  clear hb
  clear c5
  clear LL
  have c6 := hM.out.cell 2 0 rfl rfl
  have c7 := hM.out.cell 2 1 rfl rfl
  have c8 := hM.out.cell 2 2 rfl rfl
  go_wp2_with (first
    | (refine sO rfl ((hM.out.at 3 rfl).tthere hp) rfl (rwSl k x) ?_
       replace hM := hid (hM.out.putAt 3 (p * 2) rfl [.int .i64 k, .int .i64 x] (t.set p k x).all ((hM.out.at 3 rfl).tset hp k x))
       generalize World.setCells _ _ _ _ = W at hM ⊢)
    | (refine lR rfl (hM.out.at 3 rfl) rfl (rwS (t.set p k x)) ?_)
    | (refine sR rfl (hM.out.at 1 rfl) rfl ((rwS Tb.zero).len (rwS (t.set p k x))) (rwS (t.set p k x)) ?_
       replace hM := hid (hM.out.put 1 rfl (t.set p k x).all ((rwS Tb.zero).len (rwS (t.set p k x))))
       generalize World.setCells _ _ _ _ = W at hM ⊢)
    | (refine sR rfl (hM.out.at 0 rfl) rfl ((rwA 0 0).len (rwA _ _)) (rwA _ _) ?_
       replace hM := hid (hM.out.put 0 rfl [.int .i64 1, .int .i64 0] ((rwA 0 0).len (rwA _ _)))
       generalize World.setCells _ _ _ _ = W at hM ⊢))
  exact bodyPost_ret (res2 Try.results80 (hM.out.at 1 rfl) (rwS (t.set p k x)) (hM.out.at 0 rfl) (rwA _ _)) rfl ⟨rfl, hM.out.below⟩

set_option maxHeartbeats 2000000 in
theorem tDo_absent (t : Tb) (o k x : Int) (ho : o = 2 ∨ o = 5) (hn : t.k (place t k) ≠ k) (hk1 : 1 ≤ k) (hk2 : k ≤ 1000) (w : World) :
    Calls Try.prog 80 #[.agg t.all.toArray, .agg #[.int .i64 o, .int .i64 k, .int .i64 x]] w (Told w (t, 4, 0)) := by
  have L := byKey_is o k x
  rw [decide_eq_true (show byKey o k from ⟨by omega, hk1, hk2⟩)] at L
  have PL := place_eq t k
  unfold Placed at PL
  have hp := place_lt t k
  rw [show (t.k (place t k) == k) = false by simp [hn]] at PL
  have m1 : (o == 1) = false := by rcases ho with rfl | rfl <;> rfl
  have m6 : (o == 6) = false := by rcases ho with rfl | rfl <;> rfl
  clear hn ho
  generalize place t k = p at *
  have hp1 : (p : Int) < 8 := by omega
  have hp0 : (0 : Int) ≤ (p : Int) := by omega
  clear hk1 hk2
  have hM : Hid _ := (((((Ms.nil w).born t.all 109 (b := w.heap.size) rfl).born [.int .i64 o, .int .i64 k, .int .i64 x] 54 (b := w.heap.size + 1) (by simp)).bornR Tb.zero_all.symm 109 (b := w.heap.size + 2) (by simp)).born [.int .i64 0, .int .i64 0] 42 (b := w.heap.size + 3) (by simp))
  have c1 := hM.out.cell 2 0 rfl rfl
  have c2 := hM.out.cell 2 1 rfl rfl
  have c3 := hM.out.cell 2 2 rfl rfl
  go_enter Try.func80, Try.ntmps80
  go_wp2_with fail
  clear c1 c2 c3
  generalize World.alloc _ _ = W at hM ⊢
  generalize hsz : w.heap.size = n at hM ⊢
  clear hsz
  refine (L _).mono ?_
  rintro e W ⟨rfl, hb⟩
  replace hM := hid (hM.out.later hb)
  clear hb
  have c4 := hM.out.cell 2 1 rfl rfl
  go_wp2_with (first
    | (refine lR rfl (hM.out.at 3 rfl) rfl (rwS t) ?_))
  refine (PL _).mono ?_
  rintro e W ⟨rfl, hb⟩
  replace hM := hid (hM.out.later hb)
  clear hb
  clear c4
  clear PL L
  have c5 := hM.out.cell 2 0 rfl rfl
  go_wp2_with (first
    | (refine lR rfl (hM.out.at 3 rfl) rfl (rwS t) ?_)
    | (refine sR rfl (hM.out.at 1 rfl) rfl ((rwS Tb.zero).len (rwS t)) (rwS t) ?_
       replace hM := hid (hM.out.put 1 rfl t.all ((rwS Tb.zero).len (rwS t)))
       generalize World.setCells _ _ _ _ = W at hM ⊢)
    | (refine sR rfl (hM.out.at 0 rfl) rfl ((rwA 0 0).len (rwA _ _)) (rwA _ _) ?_
       replace hM := hid (hM.out.put 0 rfl [.int .i64 4, .int .i64 0] ((rwA 0 0).len (rwA _ _)))
       generalize World.setCells _ _ _ _ = W at hM ⊢))
  exact bodyPost_ret (res2 Try.results80 (hM.out.at 1 rfl) (rwS t) (hM.out.at 0 rfl) (rwA _ _)) rfl ⟨rfl, hM.out.below⟩

set_option maxHeartbeats 2000000 in
theorem tDo_peek (t : Tb) (k x : Int) (hn : t.k (place t k) = k) (hk1 : 1 ≤ k) (hk2 : k ≤ 1000) (w : World) :
    Calls Try.prog 80 #[.agg t.all.toArray, .agg #[.int .i64 5, .int .i64 k, .int .i64 x]] w (Told w (t, 1, t.v (place t k))) := by
  have L := byKey_is 5 k x
  rw [decide_eq_true (show byKey 5 k from ⟨by omega, hk1, hk2⟩)] at L
  have PL := place_eq t k
  unfold Placed at PL
  have hp := place_lt t k
  rw [show (t.k (place t k) == k) = true by simp [hn]] at PL
  clear hn
  generalize place t k = p at *
  have hp1 : (p : Int) < 8 := by omega
  have hp0 : (0 : Int) ≤ (p : Int) := by omega
  clear hk1 hk2
  have hM : Hid _ := (((((Ms.nil w).born t.all 109 (b := w.heap.size) rfl).born [.int .i64 5, .int .i64 k, .int .i64 x] 54 (b := w.heap.size + 1) (by simp)).bornR Tb.zero_all.symm 109 (b := w.heap.size + 2) (by simp)).born [.int .i64 0, .int .i64 0] 42 (b := w.heap.size + 3) (by simp))
  have c1 := hM.out.cell 2 0 rfl rfl
  have c2 := hM.out.cell 2 1 rfl rfl
  have c3 := hM.out.cell 2 2 rfl rfl
  go_enter Try.func80, Try.ntmps80
  go_wp2_with fail
  clear c1 c2 c3
  generalize World.alloc _ _ = W at hM ⊢
  generalize hsz : w.heap.size = n at hM ⊢
  clear hsz
  refine (L _).mono ?_
  rintro e W ⟨rfl, hb⟩
  replace hM := hid (hM.out.later hb)
  clear hb
  have c4 := hM.out.cell 2 1 rfl rfl
  go_wp2_with (first
    | (refine lR rfl (hM.out.at 3 rfl) rfl (rwS t) ?_))
  refine (PL _).mono ?_
  rintro e W ⟨rfl, hb⟩
  replace hM := hid (hM.out.later hb)
  clear hb
  clear c4
  clear PL L
  have c5 := hM.out.cell 2 0 rfl rfl
  have x6 := (hM.out.at 3 rfl).tval hp
  replace hM := hid (hM.out.born [.int .i64 1, .int .i64 (t.v p)] 42 rfl)
  have c7 := hM.out.cell 3 0 rfl rfl
  go_wp2_with fail
  clear c5 x6 c7
  generalize W.heap.size = ba at hM ⊢
  generalize World.alloc _ _ = W at hM ⊢
  replace hM := hid (hM.out.drew)
  refine wp_region_held_drew (S := fun w' => Bo w' n t.all ∧ Bo w' ba [.int .i64 1, .int .i64 (t.v p)]) (by kernel_rfl) ⟨hM.out.at 4 rfl, hM.out.at 0 rfl⟩ (fun hH => ?_)
  generalize World.drew _ = W at hM hH  ⊢
  refine tkR 0 rfl hH (fun _ h => h.1) (rwS t) ?_
  simp only [Act.put, p1, p2, p3]
  refine tk 1 rfl hH ?_ (by intro w h; have c0 := h.2.at 0 rfl; have c1 := h.2.at 1 rfl; clear h; go_simp; try with_reducible rfl)
  simp only [Act.put, p1, p2, p3]
  refine rd1 2 rfl (fun K hK => ?_)
  refine stR rfl (hM.out.at 2 rfl) ((rwS Tb.zero).len (rwS t)) (rwS t) ?_
  simp only [Act.put]
  replace hM := hid (hM.out.put 2 rfl t.all ((rwS Tb.zero).len (rwS t)))
  refine hK.out _ _ ⟨hM.out.at 4 rfl, hM.out.at 0 rfl⟩ (fun hH => ?_)
  clear hK K
  generalize World.setCells _ _ _ _ = W at hM hH ⊢
  try simp only [Act.put, p1, p2, p3]
  refine rd1 3 rfl (fun K hK => ?_)
  refine stR rfl (hM.out.at 1 rfl) ((rwA 0 0).len (rwA _ _)) (rwA _ _) ?_
  simp only [Act.put]
  replace hM := hid (hM.out.put 1 rfl [.int .i64 1, .int .i64 (t.v p)] ((rwA 0 0).len (rwA _ _)))
  refine hK.out _ _ ⟨hM.out.at 4 rfl, hM.out.at 0 rfl⟩ (fun hH => ?_)
  clear hK K
  generalize World.setCells _ _ _ _ = W at hM hH ⊢
  try simp only [Act.put, p1, p2, p3]
  refine wpAnyH_done (by kernel_rfl) ?_ _
  go_wp2
  exact bodyPost_ret (res2 Try.results80 (hM.out.at 2 rfl) (rwS t) (hM.out.at 1 rfl) (rwA _ _)) rfl ⟨rfl, hM.out.below⟩

set_option maxHeartbeats 2000000 in
theorem tDo_take (t : Tb) (k x : Int) (hn : t.k (place t k) = k) (hk1 : 1 ≤ k) (hk2 : k ≤ 1000) (w : World) :
    Calls Try.prog 80 #[.agg t.all.toArray, .agg #[.int .i64 2, .int .i64 k, .int .i64 x]] w (Told w (without t (place t k), 1, t.v (place t k))) := by
  have L := byKey_is 2 k x
  rw [decide_eq_true (show byKey 2 k from ⟨by omega, hk1, hk2⟩)] at L
  have PL := place_eq t k
  unfold Placed at PL
  have hp := place_lt t k
  rw [show (t.k (place t k) == k) = true by simp [hn]] at PL
  clear hn
  generalize place t k = p at *
  have hp1 : (p : Int) < 8 := by omega
  have hp0 : (0 : Int) ≤ (p : Int) := by omega
  clear hk1 hk2
  have hM : Hid _ := (((((Ms.nil w).born t.all 109 (b := w.heap.size) rfl).born [.int .i64 2, .int .i64 k, .int .i64 x] 54 (b := w.heap.size + 1) (by simp)).bornR Tb.zero_all.symm 109 (b := w.heap.size + 2) (by simp)).born [.int .i64 0, .int .i64 0] 42 (b := w.heap.size + 3) (by simp))
  have c1 := hM.out.cell 2 0 rfl rfl
  have c2 := hM.out.cell 2 1 rfl rfl
  have c3 := hM.out.cell 2 2 rfl rfl
  go_enter Try.func80, Try.ntmps80
  go_wp2_with fail
  clear c1 c2 c3
  generalize World.alloc _ _ = W at hM ⊢
  generalize hsz : w.heap.size = n at hM ⊢
  clear hsz
  refine (L _).mono ?_
  rintro e W ⟨rfl, hb⟩
  replace hM := hid (hM.out.later hb)
  clear hb
  have c4 := hM.out.cell 2 1 rfl rfl
  go_wp2_with (first
    | (refine lR rfl (hM.out.at 3 rfl) rfl (rwS t) ?_))
  refine (PL _).mono ?_
  rintro e W ⟨rfl, hb⟩
  replace hM := hid (hM.out.later hb)
  clear hb
  clear c4
  clear PL L
  have c5 := hM.out.cell 2 0 rfl rfl
  have x6 := (hM.out.at 3 rfl).tval hp
  have hWB : ∃ q, q = W.heap.size := ⟨_, rfl⟩
  obtain ⟨ba, hba⟩ := hWB
  replace hM := hid (hM.out.born [.int .i64 1, .int .i64 (t.v p)] 42 hba)
  have HBA : Hid _ := hba
  clear hba
  have c7 := hM.out.cell 3 0 rfl rfl
  have WO := without_is t p hp
  go_wp2_with (first
    | (rw [← HBA.out]; refine lR rfl (hM.out.at 4 rfl) rfl (rwS t) ?_))
  refine (WO _).mono ?_
  rintro e W ⟨rfl, hb⟩
  replace hM := hid (hM.out.later hb)
  clear hb
  clear c5 x6 c7
  clear WO HBA
  go_wp2_with (first
    | (refine sR rfl (hM.out.at 4 rfl) rfl ((rwS t).len (rwS (without t p))) (rwS (without t p)) ?_
       replace hM := hid (hM.out.put 4 rfl (without t p).all ((rwS t).len (rwS (without t p))))
       generalize World.setCells _ _ _ _ = W at hM ⊢))
  replace hM := hid (hM.out.drew)
  refine wp_region_held_drew (S := fun w' => Bo w' n (without t p).all ∧ Bo w' ba [.int .i64 1, .int .i64 (t.v p)]) (by kernel_rfl) ⟨hM.out.at 4 rfl, hM.out.at 0 rfl⟩ (fun hH => ?_)
  generalize World.drew _ = W at hM hH  ⊢
  refine tkR 0 rfl hH (fun _ h => h.1) (rwS (without t p)) ?_
  simp only [Act.put, p1, p2, p3]
  refine tk 1 rfl hH ?_ (by intro w h; have c0 := h.2.at 0 rfl; have c1 := h.2.at 1 rfl; clear h; go_simp; try with_reducible rfl)
  simp only [Act.put, p1, p2, p3]
  refine rd1 2 rfl (fun K hK => ?_)
  refine stR rfl (hM.out.at 2 rfl) ((rwS Tb.zero).len (rwS (without t p))) (rwS (without t p)) ?_
  simp only [Act.put]
  replace hM := hid (hM.out.put 2 rfl (without t p).all ((rwS Tb.zero).len (rwS (without t p))))
  refine hK.out _ _ ⟨hM.out.at 4 rfl, hM.out.at 0 rfl⟩ (fun hH => ?_)
  clear hK K
  generalize World.setCells _ _ _ _ = W at hM hH ⊢
  try simp only [Act.put, p1, p2, p3]
  refine rd1 3 rfl (fun K hK => ?_)
  refine stR rfl (hM.out.at 1 rfl) ((rwA 0 0).len (rwA _ _)) (rwA _ _) ?_
  simp only [Act.put]
  replace hM := hid (hM.out.put 1 rfl [.int .i64 1, .int .i64 (t.v p)] ((rwA 0 0).len (rwA _ _)))
  refine hK.out _ _ ⟨hM.out.at 4 rfl, hM.out.at 0 rfl⟩ (fun hH => ?_)
  clear hK K
  generalize World.setCells _ _ _ _ = W at hM hH ⊢
  try simp only [Act.put, p1, p2, p3]
  refine wpAnyH_done (by kernel_rfl) ?_ _
  go_wp2
  exact bodyPost_ret (res2 Try.results80 (hM.out.at 2 rfl) (rwS (without t p)) (hM.out.at 1 rfl) (rwA _ _)) rfl ⟨rfl, hM.out.below⟩

theorem tDo_eq (t : Tb) (o k x : Int) (w : World) : Calls Try.prog 80 #[.agg t.all.toArray, .agg #[.int .i64 o, .int .i64 k, .int .i64 x]] w (Told w (tdo t o k x)) := by
  by_cases h6 : o = 6
  · subst h6
    exact tDo_count t k x w
  by_cases hb : byKey o k
  · obtain ⟨ho, h1, h2⟩ := hb
    by_cases hh : t.k (place t k) = k
    · rcases ho with rfl | rfl | rfl
      · rw [tdo_put x h1 h2 (Or.inl hh)]; exact tDo_put_has t k x hh h1 h2 w
      · rw [tdo_take x h1 h2 hh]; exact tDo_take t k x hh h1 h2 w
      · rw [tdo_peek x h1 h2, look, if_pos hh]; exact tDo_peek t k x hh h1 h2 w
    · rcases ho with rfl | ho
      · by_cases hl : 6 ≤ len t
        · rw [tdo_full x h1 h2 hh hl]; exact tDo_full t k x hh hl h1 h2 w
        · rw [tdo_put x h1 h2 (Or.inr (by omega))]; exact tDo_put_new t k x hh (by omega) h1 h2 w
      · rw [tdo_absent x ho h1 h2 hh]; exact tDo_absent t o k x ho hh h1 h2 w
  · rw [tdo_wrong t x h6 hb]; exact tDo_wrong t o k x h6 hb w
end Go.Proofs.Ytgkgkiheoadbfaa.Tab
namespace Go.Proofs.Ytgkgkiheoadbfaa.Tab
set_option maxRecDepth 20000
open Go.RowKit

theorem own_new {B : Nat} {w : World} {v : Value} {xs : List Int} (h : Own B w v xs) (o : Obj) : Own B (w.alloc o) v xs := World.ownsRow.alloc h o
theorem rwithin_yes (n a b : Int) (w : World) (h1 : a ≤ n) (h2 : n ≤ b) :
    Calls Try.prog 19 #[.int .i64 n, .int .i64 a, .int .i64 b] w fun e w' => e = .returned (.bool true) ∧ w' = w := by
  go_enter Try.func19, Try.ntmps19
  go_wp2
  go_ret
  exact ⟨rfl, rfl⟩
theorem rwithin_no (n a b : Int) (w : World) (h : n < a ∨ b < n) :
    Calls Try.prog 19 #[.int .i64 n, .int .i64 a, .int .i64 b] w fun e w' => e = .returned (.bool false) ∧ w' = w := by
  by_cases h1 : a ≤ n
  · have h2 : ¬ n ≤ b := by omega
    clear h
    go_enter Try.func19, Try.ntmps19
    go_wp2
    go_ret
    exact ⟨rfl, rfl⟩
  · clear h
    go_enter Try.func19, Try.ntmps19
    go_wp2
    go_ret
    exact ⟨rfl, rfl⟩

/-- The first i slots of a key's row. -/
def rowL (k : Int) (i : Nat) : List Int := (List.range i).map fun j => (rowAt k j : Int)
theorem rowL_len (k : Int) (i : Nat) : (rowL k i).length = i := by simp [rowL]
theorem rowL_succ (k : Int) (i : Nat) : rowL k (i + 1) = rowL k i ++ [(rowAt k i : Int)] := by simp [rowL, List.range_succ]
theorem rowL_at (k : Int) {i n : Nat} (h : i < n) : (rowL k n).getD i 0 = (rowAt k i : Int) := by simp [rowL, List.getD, h]

set_option maxHeartbeats 1000000 in
theorem row_is (k : Int) (h0 : 0 ≤ k) (h1 : k ≤ 1000) (w : World) :
    Calls Try.prog 54 #[.int .i64 k] w fun e w' => ∃ v, e = .returned v ∧ IsL w.heap.size w' v (rowL k 8) ∧ Below w.heap.size w w' := by
  have N0 : Hid (Own w.heap.size w (.slice none 0 0) []) := World.ownsRow_nil w _ _ 1
  go_enter Try.func54, Try.ntmps54
  go_wp2_with fail
  go_loopg [3, 5] 8 (fun gg s3 s5 wt => ∃ i : Nat, i ≤ 8 ∧ 8 - i ≤ gg ∧ s5 = .int .i64 i ∧ Hid (Own w.heap.size wt s3 (rowL k i)) ∧ Hid (Below w.heap.size w wt))
  case atStart => exact ⟨0, by omega, by omega, rfl, N0, Below.refl _ _⟩
  case round =>
    obtain ⟨i, hi, hgg, rfl, O, B⟩ := hrel
    clear N0
    by_cases hlt : i < 8
    · have RS : Hid (rowL k (i + 1) = rowL k i ++ [(rowAt k i : Int)]) := rowL_succ k i
      have ep : (k * 5 % 8 + (i : Int)) % 8 = (rowAt k i : Nat) := by unfold rowAt home; omega
      have hl : Hid ((rowL k i).length + 1 ≤ 1000000) := by have := rowL_len k i; show (rowL k i).length + 1 ≤ 1000000; omega
      generalize rowAt k i = p at *
      have L : Hid (IsL 0 (wr.alloc (.cells #[.int .i64 (p : Int)] 3)) (.slice (some ⟨wr.heap.size, 0, none⟩) 1 1) [(p : Int)]) := IsL.lit wr [(p : Int)] Nat.zero_lt_one
      have O' : Hid (Own w.heap.size (wr.alloc (.cells #[.int .i64 (p : Int)] 3)) u3 (rowL k i)) := own_new O.out _
      have B' : Hid (Below w.heap.size w (wr.alloc (.cells #[.int .i64 (p : Int)] 3))) := B.out.alloc B.out.size _
      clear O B
      go_wp2_with (at_builtin; refine wpList_onto rfl rfl (.tmp 8) (.tmp 15) rfl rfl rfl B'.out.size O'.out L.out hl.out ?_; intro v3 w3 hO3 hb3; have Q3 : Hid (Own w.heap.size w3 v3 (rowL k i ++ [(p : Int)]) ∧ Below w.heap.size w w3) := ⟨hO3, B'.out.trans hb3⟩; clear hO3 hb3)
      go_roundg (8 - (i + 1))
      case measure => omega
      case rel => exact ⟨i + 1, by omega, by omega, by go_num, RS.out ▸ Q3.out.1, Q3.out.2⟩
    · obtain rfl : i = 8 := by omega
      go_wp2
      go_ret
      exact ⟨_, rfl, O.out.isL, B.out⟩
theorem rslot_at0 (t : Tb) (w : World) : (Instr.index 38 (.agg t.all.toArray) (.int .i64 0)).run Try.prog w = .ok (.agg #[.int .i64 (t.k 0), .int .i64 (t.v 0)]) w := by kernel_rfl
theorem rslot_at1 (t : Tb) (w : World) : (Instr.index 38 (.agg t.all.toArray) (.int .i64 1)).run Try.prog w = .ok (.agg #[.int .i64 (t.k 1), .int .i64 (t.v 1)]) w := by kernel_rfl
theorem rslot_at2 (t : Tb) (w : World) : (Instr.index 38 (.agg t.all.toArray) (.int .i64 2)).run Try.prog w = .ok (.agg #[.int .i64 (t.k 2), .int .i64 (t.v 2)]) w := by kernel_rfl
theorem rslot_at3 (t : Tb) (w : World) : (Instr.index 38 (.agg t.all.toArray) (.int .i64 3)).run Try.prog w = .ok (.agg #[.int .i64 (t.k 3), .int .i64 (t.v 3)]) w := by kernel_rfl
theorem rslot_at4 (t : Tb) (w : World) : (Instr.index 38 (.agg t.all.toArray) (.int .i64 4)).run Try.prog w = .ok (.agg #[.int .i64 (t.k 4), .int .i64 (t.v 4)]) w := by kernel_rfl
theorem rslot_at5 (t : Tb) (w : World) : (Instr.index 38 (.agg t.all.toArray) (.int .i64 5)).run Try.prog w = .ok (.agg #[.int .i64 (t.k 5), .int .i64 (t.v 5)]) w := by kernel_rfl
theorem rslot_at6 (t : Tb) (w : World) : (Instr.index 38 (.agg t.all.toArray) (.int .i64 6)).run Try.prog w = .ok (.agg #[.int .i64 (t.k 6), .int .i64 (t.v 6)]) w := by kernel_rfl
theorem rslot_at7 (t : Tb) (w : World) : (Instr.index 38 (.agg t.all.toArray) (.int .i64 7)).run Try.prog w = .ok (.agg #[.int .i64 (t.k 7), .int .i64 (t.v 7)]) w := by kernel_rfl
theorem rslot_at (t : Tb) (i : Nat) (hi : i < 8) (w : World) :
    (Instr.index 38 (.agg t.all.toArray) (.int .i64 (i : Nat))).run Try.prog w = .ok (.agg #[.int .i64 (t.k i), .int .i64 (t.v i)]) w := by
  have : i = 0 ∨ i = 1 ∨ i = 2 ∨ i = 3 ∨ i = 4 ∨ i = 5 ∨ i = 6 ∨ i = 7 := by omega
  rcases this with rfl | rfl | rfl | rfl | rfl | rfl | rfl | rfl
  · exact rslot_at0 t w
  · exact rslot_at1 t w
  · exact rslot_at2 t w
  · exact rslot_at3 t w
  · exact rslot_at4 t w
  · exact rslot_at5 t w
  · exact rslot_at6 t w
  · exact rslot_at7 t w
theorem rslots_array : ∃ n e, Try.prog.underlying 38 = some (.array n e) := ⟨_, _, Try.underlying38⟩
theorem rslots_size (t : Tb) : (Try.prog.info? 38).map (·.size) = some t.all.length := by rw [t.all_length]; kernel_rfl
theorem rslots_size2 (t : Tb) : (Try.prog.info? 38).map (·.size) = some t.all.toArray.size := by rw [List.size_toArray]; exact rslots_size t
theorem rslot_size : (Try.prog.info? 36).map (·.size) = some 2 := by kernel_rfl

set_option maxHeartbeats 1000000 in
theorem RLen_is (t : Tb) (w : World) : Calls Try.prog 55 #[.agg t.all.toArray] w fun e w' => e = .returned (.int .i64 (len t : Nat)) ∧ Below w.heap.size w w' := by
  have T0 : Hid (TAt (w.alloc (.cells t.all.toArray 38)) w.heap.size t) := TAt.born w t _
  have B0 : Hid (Below w.heap.size w (w.alloc (.cells t.all.toArray 38))) := new_below w _
  have HL : Hid (cnt t 8 = len t) := cnt_len t
  go_enter Try.func55, Try.ntmps55
  go_wp2_with fail
  generalize w.alloc (.cells t.all.toArray 38) = W at T0 B0 ⊢
  generalize hn : w.heap.size = n at T0 ⊢
  have HN : Hid (w.heap.size = n) := hn
  clear hn
  go_loopg [3, 5] 8 (fun gg s3 s5 wt => W = wt ∧ ∃ i : Nat, i ≤ 8 ∧ 8 - i ≤ gg ∧ s5 = .int .i64 i ∧ ∃ c : Nat, c ≤ i ∧ s3 = .int .i64 c ∧ Hid (cnt t i = c))
  case atStart => exact ⟨rfl, 0, by omega, by omega, rfl, 0, by omega, rfl, rfl⟩
  case round =>
    obtain ⟨rfl, i, hi, hgg, rfl, c, hc, rfl, C⟩ := hrel
    by_cases hlt : i < 8
    · have hi1 : (i : Int) < 8 := by omega
      have hi0 : (0 : Int) ≤ (i : Int) := by omega
      have c0 := T0.out.key hlt
      by_cases h0 : t.k i = 0
      · have C' : Hid (cnt t (i + 1) = c) := by show cnt t i + ind t i = c; rw [C.out]; unfold ind; rw [if_pos h0]; rfl
        rw [h0] at c0
        clear h0
        go_wp2
        go_roundg (8 - (i + 1))
        case measure => omega
        case rel => exact ⟨rfl, i + 1, by omega, by omega, by go_num, c, by omega, rfl, C'⟩
      · have C' : Hid (cnt t (i + 1) = c + 1) := by show cnt t i + ind t i = c + 1; rw [C.out]; unfold ind; rw [if_neg h0]
        have m0 : (t.k i == 0) = false := by simp [h0]
        have m1 : (t.k i != 0) = true := by simp [h0]
        clear h0
        go_wp2
        go_roundg (8 - (i + 1))
        case measure => omega
        case rel => exact ⟨rfl, i + 1, by omega, by omega, by go_num, c + 1, by omega, by go_num, C'⟩
    · obtain rfl : i = 8 := by omega
      go_wp2
      go_ret
      refine ⟨by rw [← HL.out, C.out]; rfl, ?_⟩
      first | exact B0.out | exact HN.out ▸ B0.out
end Go.Proofs.Ytgkgkiheoadbfaa.Tab
namespace Go.Proofs.Ytgkgkiheoadbfaa.Tab
set_option maxRecDepth 20000
open Go.RowKit
theorem rwRS (t : Tb) : Rw Try.prog 38 t.all := ⟨let ⟨_, _, h⟩ := rslots_array; ⟨_, h, rfl⟩, rslots_size t, t.all_one⟩
theorem rwRl (x y : Int) : Rw Try.prog 36 [.int .i64 x, .int .i64 y] := two_row x y ⟨_, Try.underlying36, rfl⟩ rslot_size
end Go.Proofs.Ytgkgkiheoadbfaa.Tab
namespace Go.Proofs.Ytgkgkiheoadbfaa
set_option maxRecDepth 20000

/-- The thing at a place. -/
def gt (l : List Int) (i : Nat) : Int := l.getD i 0
/-- Two things that change places. -/
def swp (l : List Int) (i j : Nat) : List Int := (l.set i (gt l j)).set j (gt l i)
theorem swp_len (l : List Int) (i j : Nat) : (swp l i j).length = l.length := by simp [swp]
theorem gt_set (l : List Int) (i k : Nat) (x : Int) (hi : i < l.length) : gt (l.set i x) k = if k = i then x else gt l k := by
  unfold gt
  rw [List.getD_eq_getElem?_getD, List.getD_eq_getElem?_getD, List.getElem?_set]
  by_cases h : k = i
  · subst h; simp [hi]
  · simp [h, Ne.symm h]
theorem gt_swp (l : List Int) (i j k : Nat) (hi : i < l.length) (hj : j < l.length) : gt (swp l i j) k = if k = j then gt l i else if k = i then gt l j else gt l k := by
  unfold swp
  rw [gt_set _ _ _ _ (by simpa using hj), gt_set _ _ _ _ hi]
theorem swp_perm (l : List Int) (i j : Nat) (hi : i < l.length) (hj : j < l.length) : (swp l i j).Perm l := by
  have h := List.set_set_perm hi hj
  simpa [swp, gt, List.getD, hi, hj] using h

/-- What rises from place i: while it is less than the one above. -/
def riseF : Nat → List Int → Nat → List Int
  | 0, l, _ => l
  | n + 1, l, i => if 0 < i ∧ gt l i < gt l ((i - 1) / 2) then riseF n (swp l i ((i - 1) / 2)) ((i - 1) / 2) else l
/-- The place of the lesser one below place i. -/
def blw (l : List Int) (i : Nat) : Nat := if 2 * i + 2 < l.length ∧ gt l (2 * i + 2) < gt l (2 * i + 1) then 2 * i + 2 else 2 * i + 1
/-- What sinks from place i: while the lesser one below it is less. -/
def sinkF : Nat → List Int → Nat → List Int
  | 0, l, _ => l
  | n + 1, l, i => if blw l i < l.length ∧ gt l (blw l i) < gt l i then sinkF n (swp l i (blw l i)) (blw l i) else l

/-- A heap, but for how many. -/
def Hp (l : List Int) : Prop := ∀ i, 0 < i → i < l.length → gt l ((i - 1) / 2) ≤ gt l i
/-- A heap, but for what stands above place i. -/
structure Hu (l : List Int) (i : Nat) : Prop where
  lt : i < l.length
  a : ∀ k, 0 < k → k < l.length → k ≠ i → gt l ((k - 1) / 2) ≤ gt l k
  b : 0 < i → ∀ k, 0 < k → k < l.length → (k - 1) / 2 = i → gt l ((i - 1) / 2) ≤ gt l k
/-- A heap, but for what stands below place i. -/
structure Hd (l : List Int) (i : Nat) : Prop where
  lt : i < l.length
  a : ∀ k, 0 < k → k < l.length → (k - 1) / 2 ≠ i → gt l ((k - 1) / 2) ≤ gt l k
  b : 0 < i → ∀ k, 0 < k → k < l.length → (k - 1) / 2 = i → gt l ((i - 1) / 2) ≤ gt l k

theorem riseF_perm : ∀ (n : Nat) (l : List Int) (i : Nat), i < l.length → (riseF n l i).Perm l
  | 0, l, _, _ => .refl l
  | n + 1, l, i, hi => by
    unfold riseF
    split
    · exact (riseF_perm n _ _ (by rw [swp_len]; omega)).trans (swp_perm l _ _ hi (by omega))
    · exact .refl l
theorem riseF_heap : ∀ (n : Nat) (l : List Int) (i : Nat), i ≤ n → Hu l i → Hp (riseF n l i)
  | 0, l, i, hn, h => by
    intro k h0 hk
    exact h.a k h0 hk (by omega)
  | n + 1, l, i, hn, h => by
    have hi := h.lt
    unfold riseF
    split
    · rename_i hc
      obtain ⟨h0, hlt⟩ := hc
      have hp : (i - 1) / 2 < l.length := by omega
      refine riseF_heap n _ _ (by omega) ⟨by rw [swp_len]; exact hp, fun k k0 kl kn => ?_, fun p0 k k0 kl kp => ?_⟩
      · rw [swp_len] at kl
        rw [gt_swp l i _ _ hi hp, gt_swp l i _ _ hi hp, if_neg kn]
        by_cases e1 : k = i
        · subst e1
          rw [if_pos rfl, if_pos rfl]; omega
        · rw [if_neg e1]
          by_cases e2 : (k - 1) / 2 = (i - 1) / 2
          · rw [if_pos e2]
            have := h.a k k0 kl e1
            rw [e2] at this; omega
          · rw [if_neg e2]
            by_cases e3 : (k - 1) / 2 = i
            · rw [if_pos e3]; exact h.b h0 k k0 kl e3
            · rw [if_neg e3]; exact h.a k k0 kl e1
      · rw [swp_len] at kl
        have q := h.a ((i - 1) / 2) p0 hp (by omega)
        rw [gt_swp l i _ _ hi hp, gt_swp l i _ _ hi hp, if_neg (show k ≠ (i - 1) / 2 by omega), if_neg (show ((i - 1) / 2 - 1) / 2 ≠ (i - 1) / 2 by omega), if_neg (show ((i - 1) / 2 - 1) / 2 ≠ i by omega)]
        by_cases e1 : k = i
        · rw [if_pos e1]; exact q
        · rw [if_neg e1]
          have := h.a k k0 kl e1
          rw [kp] at this; omega
    · rename_i hc
      intro k h0 hk
      by_cases e : k = i
      · subst e; exact Int.not_lt.1 fun hh => hc ⟨h0, hh⟩
      · exact h.a k h0 hk e
theorem riseF_len (n : Nat) (l : List Int) (i : Nat) (h : i < l.length) : (riseF n l i).length = l.length := (riseF_perm n l i h).length_eq

theorem blw_gt (l : List Int) (i : Nat) : i < blw l i := by unfold blw; split <;> omega
theorem blw_par (l : List Int) (i : Nat) : (blw l i - 1) / 2 = i := by unfold blw; split <;> omega
theorem blw_least (l : List Int) (i k : Nat) (hk : k < l.length) (h0 : 0 < k) (hp : (k - 1) / 2 = i) : blw l i < l.length ∧ gt l (blw l i) ≤ gt l k := by
  have : k = 2 * i + 1 ∨ k = 2 * i + 2 := by omega
  unfold blw
  split
  · rename_i hc
    refine ⟨hc.1, ?_⟩
    rcases this with rfl | rfl <;> omega
  · rename_i hc
    refine ⟨by omega, ?_⟩
    rcases this with rfl | rfl
    · exact Int.le_refl _
    · exact Int.not_lt.1 fun hh => hc ⟨hk, hh⟩
theorem sinkF_perm : ∀ (n : Nat) (l : List Int) (i : Nat), i < l.length → (sinkF n l i).Perm l
  | 0, l, _, _ => .refl l
  | n + 1, l, i, hi => by
    unfold sinkF
    split
    · rename_i hc
      exact (sinkF_perm n _ _ (by rw [swp_len]; exact hc.1)).trans (swp_perm l _ _ hi hc.1)
    · exact .refl l
theorem sinkF_heap : ∀ (n : Nat) (l : List Int) (i : Nat), l.length ≤ n + i + 1 → Hd l i → Hp (sinkF n l i)
  | 0, l, i, hn, h => by
    intro k h0 hk
    have hk' : k < l.length := hk
    exact h.a k h0 hk' (by omega)
  | n + 1, l, i, hn, h => by
    have hi := h.lt
    have hg := blw_gt l i
    have hp := blw_par l i
    unfold sinkF
    split
    · rename_i hc
      obtain ⟨hl, hlt⟩ := hc
      have hb := blw_least l i
      generalize blw l i = c at *
      refine sinkF_heap n _ _ (by rw [swp_len]; omega) ⟨by rw [swp_len]; exact hl, fun k k0 kl kn => ?_, fun p0 k k0 kl kp => ?_⟩
      · rw [swp_len] at kl
        rw [gt_swp l i _ _ hi hl, gt_swp l i _ _ hi hl, if_neg kn]
        by_cases e1 : k = c
        · subst e1
          rw [if_pos rfl, if_pos hp]; omega
        · rw [if_neg e1]
          by_cases e2 : (k - 1) / 2 = i
          · rw [if_pos e2, if_neg (show k ≠ i by omega)]
            exact (hb k kl k0 e2).2
          · rw [if_neg e2]
            by_cases e3 : k = i
            · rw [if_pos e3]
              subst e3
              exact h.b k0 c (by omega) hl hp
            · rw [if_neg e3]; exact h.a k k0 kl e2
      · rw [swp_len] at kl
        rw [gt_swp l i _ _ hi hl, gt_swp l i _ _ hi hl, if_neg (show k ≠ c by omega), if_neg (show k ≠ i by omega), if_neg (show (c - 1) / 2 ≠ c by omega), if_pos hp]
        have := h.a k k0 kl (by omega)
        rw [kp] at this; exact this
    · rename_i hc
      intro k h0 hk
      by_cases e : (k - 1) / 2 = i
      · obtain ⟨q1, q2⟩ := blw_least l i k hk h0 e
        have : gt l i ≤ gt l (blw l i) := Int.not_lt.1 fun hh => hc ⟨q1, hh⟩
        rw [e]; omega
      · exact h.a k h0 hk e

theorem Hp.least {l : List Int} (h : Hp l) : ∀ (n i : Nat), i ≤ n → i < l.length → gt l 0 ≤ gt l i
  | 0, i, hn, _ => by rw [show i = 0 by omega]; exact Int.le_refl _
  | n + 1, i, hn, hi => by
    by_cases h0 : i = 0
    · rw [h0]; exact Int.le_refl _
    · have := h.least n ((i - 1) / 2) (by omega) (by omega)
      have := h i (by omega) hi
      omega
theorem gt_mem (l : List Int) (x : Int) (h : x ∈ l) : ∃ i, i < l.length ∧ gt l i = x := by
  obtain ⟨i, hi, e⟩ := List.mem_iff_getElem.1 h
  exact ⟨i, hi, by simp [gt, List.getD, hi, e]⟩
theorem Hp.head {x : Int} {r : List Int} (h : Hp (x :: r)) : ∀ y ∈ x :: r, x ≤ y := by
  intro y hy
  obtain ⟨i, hi, rfl⟩ := gt_mem _ _ hy
  exact h.least i i (Nat.le_refl _) hi

/-- One more. -/
def rise (l : List Int) : List Int := riseF l.length l (l.length - 1)
theorem rise_perm (l : List Int) : (rise l).Perm l := by
  unfold rise
  cases l with
  | nil => simp [riseF]
  | cons x r => exact riseF_perm _ _ _ (by simp)
theorem rise_heap (l : List Int) (x : Int) (h : Hp l) : Hp (rise (l ++ [x])) := by
  unfold rise
  refine riseF_heap _ _ _ (by simp) ⟨by simp, fun k k0 kl kn => ?_, fun p0 k k0 kl kp => ?_⟩
  · have hk : k < l.length := by simp at kl kn; omega
    have e : ∀ j, j < l.length → gt (l ++ [x]) j = gt l j := fun j hj => by simp [gt, List.getD, List.getElem?_append_left hj]
    rw [e _ hk, e _ (by omega)]
    exact h k k0 hk
  · simp at kl kp; omega
/-- One less, another one at the top. -/
def sink (l : List Int) : List Int := sinkF l.length l 0
theorem sink_perm (l : List Int) : (sink l).Perm l := by
  unfold sink
  cases l with
  | nil => simp [sinkF]
  | cons x r => exact sinkF_perm _ _ _ (by simp)
theorem sink_heap (x z : Int) (r : List Int) (h : Hp (x :: r)) : Hp (sink (z :: r)) := by
  unfold sink
  refine sinkF_heap _ _ _ (by omega) ⟨by simp, fun k k0 kl kn => ?_, fun p0 => by omega⟩
  have e : ∀ j, 0 < j → gt (z :: r) j = gt (x :: r) j := fun j hj => by
    obtain ⟨m, rfl⟩ : ∃ m, j = m + 1 := ⟨j - 1, by omega⟩
    simp [gt, List.getD]
  rw [e _ k0, e _ (by omega)]
  exact h k k0 (by simpa using kl)
theorem Hp.cut {l r : List Int} (h : Hp (l ++ r)) : Hp l := by
  intro i h0 hi
  have e : ∀ j, j < l.length → gt (l ++ r) j = gt l j := fun j hj => by simp [gt, List.getD, List.getElem?_append_left hj]
  have := h i h0 (by simp; omega)
  rwa [e _ hi, e _ (by omega)] at this

/-- In order. -/
def srt (l : List Int) : List Int := l.mergeSort fun x y => decide (x ≤ y)
theorem srt_perm (l : List Int) : (srt l).Perm l := List.mergeSort_perm l _
theorem srt_rises (l : List Int) : (srt l).Pairwise (· ≤ ·) := by
  have := List.pairwise_mergeSort (le := fun x y : Int => decide (x ≤ y)) (fun a b c => by simp; omega) (fun a b => by simp; omega) l
  unfold srt
  simpa using this
theorem srt_eq {l m : List Int} (h : l.Perm m) : srt l = srt m :=
  List.Perm.eq_of_pairwise (le := (· ≤ ·)) (fun _ _ _ _ h1 h2 => Int.le_antisymm h1 h2) (srt_rises l) (srt_rises m) ((srt_perm l).trans (h.trans (srt_perm m).symm))
theorem srt_len (l : List Int) : (srt l).length = l.length := (srt_perm l).length_eq
end Go.Proofs.Ytgkgkiheoadbfaa
namespace Go.Proofs.Ytgkgkiheoadbfaa.Tab
set_option maxRecDepth 20000
open Go.RowKit
set_option linter.unusedVariables false

theorem thing_struct : ∃ fs, Try.prog.underlying 40 = some (.struct fs) := ⟨_, Try.underlying40⟩
theorem thing_size (kind : Int) (v : Value) (t : Tb) (n : Int) : (Try.prog.info? 40).map (·.size) = some (tg kind v t n).length := by rw [tg_length]; kernel_rfl
theorem thing_size2 (kind : Int) (v : Value) (t : Tb) (n : Int) : (Try.prog.info? 40).map (·.size) = some (tg kind v t n).toArray.size := by rw [List.size_toArray, tg_length]; kernel_rfl
theorem thing_size3 : (Try.prog.info? 40).map (·.size) = some 19 := by kernel_rfl
theorem tg_all (kind : Int) {v : Value} (hv : v.oneCell' = true) (t : Tb) (n : Int) : (tg kind v t n).toArray.all (·.oneCell') = true := all_oneCell_toArray (tg_one kind hv t n)
theorem results_rowS {P : Program} {fn : Func} {p q : Tmp} {ty : TypeId} (h : fn.results = #[.cell p ty, .tmp q]) (tmps : Array Value) (w : World) (b : Nat) (cs : List Value) (d : TypeDesc) (r : Value) (hp : tmps.getD p undef = .pointer (some ⟨b, 0, none⟩)) (hq : tmps.getD q undef = r)
    (hc : w.rangeAt b 0 cs) (hu : P.underlying ty = some d) (hd : d.isRow = true) (hi : (P.info? ty).map (·.size) = some cs.length) :
    (results fn tmps).run P w = .ok (.tuple #[.agg cs.toArray, r]) w := by
  have hp' : tmps[p]?.getD undef = .pointer (some ⟨b, 0, none⟩) := by simpa using hp
  have hq' : tmps[q]?.getD undef = r := by simpa using hq
  simp [results, h, hp', hq', asAddr, run_loadVar_mid w b 0 ty cs d hc hu hd hi]

theorem Bo.bornTh (w : World) (kind : Int) (ty : TypeId) {n : Nat} (hn : n = w.heap.size) : Bo (w.alloc (.cells #[.int .i64 kind, .slice none 0 0, .int .i64 0, .int .i64 0, .int .i64 0, .int .i64 0, .int .i64 0, .int .i64 0, .int .i64 0, .int .i64 0, .int .i64 0, .int .i64 0, .int .i64 0, .int .i64 0, .int .i64 0, .int .i64 0, .int .i64 0, .int .i64 0, .int .i64 0] ty)) n (tg kind (.slice none 0 0) Tb.zero 0) := by
  rw [← tg_zero]; exact Bo.born w _ ty hn
theorem tg_nil (kind : Int) : tg kind (.slice none 0 0) Tb.zero 0 = [.int .i64 kind, .slice none 0 0, .int .i64 0, .int .i64 0, .int .i64 0, .int .i64 0, .int .i64 0, .int .i64 0, .int .i64 0, .int .i64 0, .int .i64 0, .int .i64 0, .int .i64 0, .int .i64 0, .int .i64 0, .int .i64 0, .int .i64 0, .int .i64 0, .int .i64 0] := congrArg Array.toList (tg_zero kind)
theorem Bo.setZ {w : World} {b : Nat} {k : Int} {v : Value} {t : Tb} {n : Int} (h : Bo w b (tg k v t n)) (kind : Int) : Bo (w.setCells b 0 [.int .i64 kind, .slice none 0 0, .int .i64 0, .int .i64 0, .int .i64 0, .int .i64 0, .int .i64 0, .int .i64 0, .int .i64 0, .int .i64 0, .int .i64 0, .int .i64 0, .int .i64 0, .int .i64 0, .int .i64 0, .int .i64 0, .int .i64 0, .int .i64 0, .int .i64 0]) b (tg kind (.slice none 0 0) Tb.zero 0) := by
  rw [← tg_nil]; exact h.setL (by rw [tg_length, tg_length])
theorem nil_all (kind : Int) : (#[.int .i64 kind, .slice none 0 0, .int .i64 0, .int .i64 0, .int .i64 0, .int .i64 0, .int .i64 0, .int .i64 0, .int .i64 0, .int .i64 0, .int .i64 0, .int .i64 0, .int .i64 0, .int .i64 0, .int .i64 0, .int .i64 0, .int .i64 0, .int .i64 0, .int .i64 0] : Array Value).all (·.oneCell') = true := by
  rw [← tg_zero]; exact all_oneCell_toArray (tg_one kind rfl Tb.zero 0)
theorem Bo.setT {w : World} {b : Nat} {k : Int} {v : Value} {t : Tb} {n : Int} (h : Bo w b (tg k v t n)) (k' : Int) (v' : Value) (t' : Tb) (n' : Int) : Bo (w.setCells b 0 (tg k' v' t' n')) b (tg k' v' t' n') := h.setL (by rw [tg_length, tg_length])
theorem Bo.thereT {w : World} {b : Nat} {k : Int} {v : Value} {t : Tb} {n : Int} (h : Bo w b (tg k v t n)) (k' : Int) (v' : Value) (t' : Tb) (n' : Int) : w.there b 0 (tg k' v' t' n').toArray.size := by
  rw [List.size_toArray, tg_length]; exact h.thereL (tg_length _ _ _ _).symm

/-- Seventeen words lie in block b, from o on. -/
structure Wf (w : World) (b o : Nat) (c : Nat → Nat) : Prop where
  cell : ∀ j, j < 17 → w.cell? ⟨b, o + j, none⟩ = some (.int .u64 (c j : Nat))
theorem Wf.lt {w : World} {b o : Nat} {c : Nat → Nat} (h : Wf w b o c) : b < w.heap.size := World.block_lt_of_cell? w _ (h.cell 0 (by decide))
theorem Wf.later {w w' : World} {b o : Nat} {c : Nat → Nat} (h : Wf w b o c) (hb : Below w.heap.size w w') : Wf w' b o c :=
  ⟨fun j hj => by rw [hb.cell (p := ⟨b, o + j, none⟩) h.lt]; exact h.cell j hj⟩
theorem Wf.keep {w w' : World} {b o : Nat} {c : Nat → Nat} (h : Wf w b o c) (hb : w'.heap[b]? = w.heap[b]?) : Wf w' b o c :=
  ⟨fun j hj => by rw [World.cell?_of_block (w := w) hb]; exact h.cell j hj⟩
theorem Wf.of_bo {w : World} {b : Nat} {c : Nat → Nat} (h : Bo w b (wl c)) : Wf w b 0 c := ⟨fun j hj => by rw [Nat.zero_add]; exact h.word hj⟩

theorem Wf.new {w : World} {b o : Nat} {c : Nat → Nat} (h : Wf w b o c) (x : Obj) : Wf (w.alloc x) b o c := h.later (new_below w x)
theorem Wf.drew {w : World} {b o : Nat} {c : Nat → Nat} (h : Wf w b o c) : Wf w.drew b o c := ⟨h.cell⟩
theorem Wf.asideL {w : World} {b o k : Nat} {c : Nat → Nat} (h : Wf w b o c) (hk : b ≠ k) (p : Nat) (vs : List Value) : Wf (w.setCells k p vs) b o c := h.keep (heap_setCells hk _ _ _)
theorem Wf.aside {w : World} {b o : Nat} {c : Nat → Nat} (h : Wf w b o c) {p : Addr} (hp : b ≠ p.block) (v : Value) : Wf (w.setCell p v) b o c := h.keep (Below.heap_setCell _ _ _ _ hp)
theorem isL_block {B : Nat} {w w' : World} {v : Value} {xs : List Int} (h : IsL B w v xs) (hb : ∀ b, B ≤ b → w'.heap[b]? = w.heap[b]?) : IsL B w' v xs := by
  rcases h with h | ⟨b, off, c, h1, hB, h2, h3, h4, h5⟩
  · exact Or.inl h
  · refine Or.inr ⟨b, off, c, h1, hB, h2, h3, fun j hj => ?_, fun h0 j hj => ?_⟩
    · rw [World.cell?_of_block (w := w) (hb b hB)]; exact h4 j hj
    · rw [World.frozen?_of_block (w := w) (hb b hB)]; exact h5 h0 j hj
end Go.Proofs.Ytgkgkiheoadbfaa.Tab
namespace Go.Proofs.Ytgkgkiheoadbfaa
set_option maxRecDepth 20000
open Go.RowKit
theorem IsL.drew {B : Nat} {w : World} {v : Value} {xs : List Int} (h : IsL B w v xs) : IsL B w.drew v xs := Tab.isL_block h fun _ _ => rfl
theorem IsL.asideL {B k : Nat} {w : World} {v : Value} {xs : List Int} (h : IsL B w v xs) (hk : k < B) (p : Nat) (vs : List Value) : IsL B (w.setCells k p vs) v xs := Tab.isL_block h fun b hb => Tab.heap_setCells (by omega) _ _ _
theorem IsL.aside {B : Nat} {w : World} {v : Value} {xs : List Int} (h : IsL B w v xs) {p : Addr} (hp : p.block < B) (u : Value) : IsL B (w.setCell p u) v xs := h.setCell hp u
theorem Own.new {B : Nat} {w : World} {v : Value} {xs : List Int} (h : Own B w v xs) (o : Obj) : Own B (w.alloc o) v xs := World.ownsRow.alloc h o
theorem Own.drew {B : Nat} {w : World} {v : Value} {xs : List Int} (h : Own B w v xs) : Own B w.drew v xs := h
theorem Own.aside {B : Nat} {w : World} {v : Value} {xs : List Int} (h : Own B w v xs) {p : Addr} (hp : p.block < B) (u : Value) : Own B (w.setCell p u) v xs := ownsRow_setCell_below h hp u
end Go.Proofs.Ytgkgkiheoadbfaa
namespace Go.Proofs.Ytgkgkiheoadbfaa.Tab
set_option maxRecDepth 20000
open Go.RowKit
theorem Bo.laterB {B : Nat} {w w' : World} {b : Nat} {cs : List Value} (h : Bo w b cs) (hB : b < B) (hb : Below B w w') : Bo w' b cs := h.keep (hb.block b hB) (Nat.lt_of_lt_of_le h.lt hb.size)
theorem Wf.laterB {B : Nat} {w w' : World} {b o : Nat} {c : Nat → Nat} (h : Wf w b o c) (hB : b < B) (hb : Below B w w') : Wf w' b o c := h.keep (hb.block b hB)
theorem Gd.laterB {B n : Nat} {w a b : World} (h : Gd n w a) (hB : n ≤ B) (hb : Below B a b) : Gd n w b := ⟨h.1, h.2.trans (hb.mono (h.1 ▸ hB))⟩

/-- What words are a thing of a kind. -/
def WT (c : Nat → Nat) : Prop := (∀ j, j < 16 → c j ≤ 4294967295) ∧ c 16 = 0 ∧ RT (tbl c)
def WN (c : Nat → Nat) : Prop := c 0 ≤ 4294967295 ∧ ∀ j, 1 ≤ j → j < 17 → c j = 0
def isTh (kind : Int) (c : Nat → Nat) : Prop :=
  ((kind = 1 ∨ kind = 2 ∨ kind = 3) ∧ WList c) ∨ (kind = 4 ∧ WList c ∧ Hp (lst c)) ∨ (kind = 5 ∧ WT c) ∨ (kind = 6 ∧ WN c)
theorem isTh.kind {k : Int} {c : Nat → Nat} (h : isTh k c) : 1 ≤ k ∧ k ≤ 6 := by
  rcases h with ⟨h, _⟩ | ⟨h, _⟩ | ⟨h, _⟩ | ⟨h, _⟩ <;> omega
theorem WList.le {c : Nat → Nat} (h : WList c) : ∀ j, j < 17 → c j ≤ 4294967295 := fun j hj => by
  have := h.len
  by_cases e : j = 0
  · subst e; omega
  · by_cases e1 : j ≤ c 0
    · exact h.val j (by omega) e1
    · rw [h.rest j (by omega) hj]; omega
theorem isTh.le {k : Int} {c : Nat → Nat} (h : isTh k c) : ∀ j, j < 17 → c j ≤ 4294967295 := fun j hj => by
  rcases h with ⟨_, h⟩ | ⟨_, h, _⟩ | ⟨_, h⟩ | ⟨_, h⟩
  · exact h.le j hj
  · exact h.le j hj
  · by_cases e : j < 16
    · exact h.1 j e
    · rw [show j = 16 by omega, h.2.1]; omega
  · by_cases e : j = 0
    · subst e; exact h.1
    · rw [h.2 j (by omega) hj]; omega
end Go.Proofs.Ytgkgkiheoadbfaa.Tab
