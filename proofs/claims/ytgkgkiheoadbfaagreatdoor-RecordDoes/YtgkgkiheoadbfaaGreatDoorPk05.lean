/- Texts laid together: The reference's Thing.Cells, by its contract: a list; The reference's ThingOf: lists; The reference's ThingOf, by its contract; What the reference's queue, stack, deque and heap hand back; Lists in memory that lie ahead of some blocks, or behind them; a thing's row of cells, written in part; The reference's place, by its contract. -/
import Derived.Test.YtgkgkiheoadbfaaGreatDoorPk04
import Derived.Test.YtgkgkiheoadbfaaGreatDoorPk02
import Derived.Test.YtgkgkiheoadbfaaGreatDoorPk03
import Derived.Test.YtgkgkiheoadbfaaGreatDoorPk01
namespace Go.Proofs.YtgkgkiheoadbfaaGreatDoor.Tab
set_option maxRecDepth 20000
open Go.RowKit
set_option linter.unusedVariables false

def lwq (l : List Int) (i : Nat) : Nat → Nat := fun j => if j = 0 then l.length else if j ≤ i then (l.getD (j - 1) 0).toNat else 0
theorem lwq_next (l : List Int) (i : Nat) : wl (upw (lwq l i) (1 + i) (l.getD i 0).toNat) = wl (lwq l (i + 1)) := by
  refine wl_congr fun j _ => ?_
  unfold upw lwq
  by_cases e : j = 1 + i
  · subst e
    rw [if_pos rfl, if_neg (by omega), if_pos (by omega), show 1 + i - 1 = i by omega]
  · rw [if_neg e]
    by_cases e0 : j = 0
    · rw [if_pos e0, if_pos e0]
    · rw [if_neg e0, if_neg e0]
      by_cases e1 : j ≤ i
      · rw [if_pos e1, if_pos (by omega)]
      · rw [if_neg e1, if_neg (by omega)]
theorem lwq_all (l : List Int) : wl (lwq l l.length) = wl (lw l) := by
  refine wl_congr fun j _ => ?_
  unfold lwq lw
  by_cases e0 : j = 0
  · rw [if_pos e0, if_pos e0]
  · rw [if_neg e0, if_neg e0]
    by_cases e1 : j ≤ l.length
    · rw [if_pos e1]
    · rw [if_neg e1, List.getD_eq_getElem?_getD, List.getElem?_eq_none (by omega)]; rfl
theorem lwq_zero (l : List Int) : wl (lwq l 0) = (wl wz).set 0 (.int .u64 (l.length : Nat)) := by
  rw [wl_set wz l.length (by decide)]
  refine wl_congr fun j _ => ?_
  unfold lwq upw wz
  by_cases e0 : j = 0
  · rw [if_pos e0, if_pos e0]
  · rw [if_neg e0, if_neg e0, if_neg (by omega)]

set_option maxHeartbeats 2000000 in
theorem Cells_list {B : Nat} {k : Int} (k5 : k ≠ 5) (k6 : k ≠ 6) {v : Value} {l : List Int} (t : Tb) (x : Int) {w : World} (h : IsL B w v l) (h6 : l.length ≤ 6) (hv : ∀ x ∈ l, 0 ≤ x ∧ x ≤ 4294967295) :
    Calls Tryz.prog 25 #[.agg (tg k v t x).toArray] w fun e w' => Wd w.heap.size e w' (lw l) ∧ Below w.heap.size w w' := by
  obtain ⟨a, c, rfl⟩ := h.form
  have HL : Hid (∀ i, i < l.length → ∃ b off, a = some ⟨b, off, none⟩ ∧ (∀ W, Below w.heap.size w W → W.cell? ⟨b, off + i, none⟩ = some (.int .i64 ((l.getD i 0).toNat : Nat)))) := fun i hi => by
    rcases h with ⟨rfl, _⟩ | ⟨b, off, c, h1, hB, h0, hc, hcell, _⟩
    · simp at hi
    · injection h1 with h1 _ _
      refine ⟨b, off, h1, fun W hW => ?_⟩
      have hx := hv (l.getD i 0) (by rw [List.getD_eq_getElem?_getD, List.getElem?_eq_getElem hi]; exact List.getElem_mem hi)
      rw [hW.cell (p := ⟨b, off + i, none⟩) (World.block_lt_of_cell? _ _ (hcell i hi)), hcell i hi]
      congr 2; omega
  have HX : Hid (∀ i, i < l.length → (l.getD i 0).toNat ≤ 4294967295) := fun i hi => by
    have hx := hv (l.getD i 0) (by rw [List.getD_eq_getElem?_getD, List.getElem?_eq_getElem hi]; exact List.getElem_mem hi)
    omega
  clear hv h
  have LZ : Hid _ := lwq_zero l
  obtain ⟨N, hN⟩ : ∃ N, l.length = N := ⟨_, rfl⟩
  have HN : Hid (l.length = N) := hN
  have m5 : (k == 5) = false := by simp [k5]
  have m6 : (k == 6) = false := by simp [k6]
  rw [hN] at HL HX LZ h6 ⊢
  clear k5 k6 hN
  have mk := mk17b w (.cells (tg k (.slice a N c) t x).toArray 33)
  have S0 : Hid (Bo ((w.alloc (.cells (tg k (.slice a N c) t x).toArray 33)).alloc (.cells (wl wz).toArray 22)) w.heap.size (tg k (.slice a N c) t x)) := (Bo.born w (tg k (.slice a N c) t x) _ rfl).new _
  have T0 : Hid (Bo ((w.alloc (.cells (tg k (.slice a N c) t x).toArray 33)).alloc (.cells (wl wz).toArray 22)) (w.heap.size + 1) (wl wz)) := Bo.born _ (wl wz) _ (by simp)
  have S1 : Hid (Bo ((w.alloc (.cells (tg k (.slice a N c) t x).toArray 33)).alloc (.cells ((wl wz).set 0 (.int .u64 N)).toArray 22)) w.heap.size (tg k (.slice a N c) t x)) := (Bo.born w (tg k (.slice a N c) t x) _ rfl).new _
  have T1 : Hid (Bo ((w.alloc (.cells (tg k (.slice a N c) t x).toArray 33)).alloc (.cells ((wl wz).set 0 (.int .u64 N)).toArray 22)) (w.heap.size + 1) (wl (lwq l 0))) := by
    rw [LZ.out]; exact Bo.born _ _ _ (by simp)
  have G1 : Hid (Gd w.heap.size w ((w.alloc (.cells (tg k (.slice a N c) t x).toArray 33)).alloc (.cells ((wl wz).set 0 (.int .u64 N)).toArray 22))) := ((Gd.refl w).new _).new _
  have c0 := S0.out.tcell.1
  have c1 := S0.out.tcell.2.1
  have c2 := S1.out.tcell.2.1
  have d0 := T0.out.word (show 0 < 17 by decide)
  have d1 := T0.out.froz 0
  have ew : IntKind.u64.wrap (N : Int) = N := by rw [IntKind.wrap_u64]; omega
  go_enter Tryz.func25, Tryz.ntmps25
  go_wp2_with fail
  clear c0 c1 c2 d0 d1 S0 T0 mk
  generalize (w.alloc (.cells (tg k (.slice a N c) t x).toArray 33)).alloc (.cells ((wl wz).set 0 (.int .u64 N)).toArray 22) = W at S1 T1 G1 ⊢
  generalize hsz : w.heap.size = n at S1 T1 G1 ⊢
  have HSZ : Hid (w.heap.size = n) := hsz
  clear hsz
  go_loopg [20] N (fun gg s20 wt => ∃ i : Nat, i ≤ N ∧ N - i ≤ gg ∧ s20 = .int .i64 i ∧ Hid (Bo wt (n + 1) (wl (lwq l i))) ∧ Hid (Bo wt n (tg k (.slice a N c) t x)) ∧ Hid (Gd n w wt))
  case atStart => exact ⟨0, by omega, by omega, rfl, T1, S1, G1⟩
  case round =>
    clear T1 S1 G1
    obtain ⟨i, hi, hgg, rfl, T, S, G⟩ := hrel
    by_cases hlt : i < N
    · obtain ⟨b, off, rfl, hc⟩ := HL.out i hlt
      have c0 := hc wr G.out.2
      have NX : Hid _ := lwq_next l i
      have e1 := T.out.word (show 1 + i < 17 by omega)
      have f1 := T.out.froz (1 + i)
      have j1 : (i : Int) + 1 < 17 := by omega
      have j0 : (0 : Int) ≤ (i : Int) + 1 := by omega
      have i1 : (i : Int) < (N : Int) := by omega
      have i0 : (0 : Int) ≤ (i : Int) := by omega
      have T1 : Hid (Bo (wr.setCell ⟨n + 1, 1 + i, none⟩ (.int .u64 ((l.getD i 0).toNat : Nat))) (n + 1) (wl (lwq l (i + 1)))) := by
        rw [← NX.out]; exact T.out.setw _ (by omega)
      have S1 : Hid (Bo (wr.setCell ⟨n + 1, 1 + i, none⟩ (.int .u64 ((l.getD i 0).toNat : Nat))) n (tg k (.slice (some ⟨b, off, none⟩) N c) t x)) := S.out.aside (by simp) _
      have G1 : Hid (Gd n w (wr.setCell ⟨n + 1, 1 + i, none⟩ (.int .u64 ((l.getD i 0).toNat : Nat)))) := G.out.aside (by simp) _
      have hx : (l.getD i 0).toNat ≤ 4294967295 := HX.out i hlt
      rw [Nat.add_comm 1 i] at e1 f1 T1 S1 G1
      clear hc NX T S G
      generalize lwq l i (i + 1) = z at e1
      generalize (l.getD i 0).toNat = y at c0 T1 S1 G1 hx
      have ew2 : IntKind.u64.wrap (y : Int) = y := by rw [IntKind.wrap_u64]; omega
      go_wp2
      go_roundg (N - (i + 1))
      case measure => omega
      case rel => exact ⟨i + 1, by omega, by omega, by go_num, T1, S1, G1⟩
    · have ei : i = N := by omega
      have LA := lwq_all l
      rw [HN.out, ← ei] at LA
      rw [LA] at T
      clear LA
      go_wp2
      go_ret
      exact ⟨⟨n + 1, rfl, by have := HSZ.out; omega, T.out⟩, G.out.2⟩
end Go.Proofs.YtgkgkiheoadbfaaGreatDoor.Tab
namespace Go.Proofs.YtgkgkiheoadbfaaGreatDoor.Tab
set_option maxRecDepth 20000
open Go.RowKit
set_option linter.unusedVariables false

set_option maxHeartbeats 8000000 in
theorem ThingOf_long {bc oc kc : Nat} {c : Nat → Nat} {w : World} {b : Bool} {kind : Int} (k5 : 1 ≤ kind ∧ kind ≤ 4) (hc : Wf w bc oc c) (hm : ∀ j, j < 17 → c j ≤ 4294967295) (h6 : 6 < c 0) :
    Calls Tryz.prog 11 #[.int .i64 kind, .slice (some ⟨bc, oc, none⟩) 17 kc] w fun e w' => ∃ v t x, v.oneCell' = true ∧ e = .returned (.tuple #[.agg (tg kind v t x).toArray, .bool false]) ∧ Below w.heap.size w w' := by
  have hk : 1 ≤ kind ∧ kind ≤ 6 := by omega
  have m5 : (kind == 5) = false := by simp; omega
  have m6 : (kind == 6) = false := by simp; omega
  have HK : Hid (kind ≠ 5 ∧ kind ≠ 6) := ⟨by omega, by omega⟩
  have HM : Hid _ := hm
  have H6 : Hid _ := h6
  have hC : Hid _ := hc
  clear k5 hm h6 hc
  have hM : Hid _ := (((Ms.nil w).bornR (tg_zero 0).symm 33 (b := w.heap.size) rfl).bornR (tg_zero 0).symm 33 (b := w.heap.size + 1) (by simp))
  go_enter Tryz.func11, Tryz.ntmps11
  go_wp2_with (first
    | (refine sR rfl (hM.out.at 0 rfl) rfl (rwN.len (rwK kind)) (rwK kind) ?_
       replace hM := hid (hM.out.put 0 rfl _ (rwN.len (rwK kind)))
       generalize World.setCells _ _ _ _ = W at hM ⊢
       rw [← tg_nil] at hM))
  generalize hsz : w.heap.size = n at hM ⊢
  clear hsz
  refine (rwithin_yes kind 1 6 _ hk.1 hk.2).mono ?_
  rintro e ux ⟨rfl, hw⟩
  rw [hw]; clear hw ux
  go_wp2_with fail
  go_loopg [19] 17 (fun gg s19 wt => wt = W ∧ ∃ i : Nat, i ≤ 17 ∧ 17 - i ≤ gg ∧ s19 = .int .i64 i ∧ Hid (∀ j, j < i → c j ≤ 4294967295))
  case atStart => exact ⟨rfl, 0, by omega, by omega, rfl, fun j hj => absurd hj (by omega)⟩
  case round =>
    obtain ⟨rfl, i, hi, hgg, rfl, U⟩ := hrel
    by_cases hlt : i < 17
    · have g0 := (hC.out.later hM.out.below).cell i hlt
      have hi1 : (i : Int) < 17 := by omega
      have hi0 : (0 : Int) ≤ (i : Int) := by omega
      by_cases hle : c i ≤ 4294967295
      · have U' : Hid (∀ j, j < i + 1 → c j ≤ 4294967295) := fun j hj => by
          by_cases e : j = i
          · subst e; exact hle
          · exact U.out j (by omega)
        have hd : ¬ 4294967295 < ((c i : Nat) : Int) := by omega
        clear U
        generalize c i = x at g0 hd hle
        clear hle
        go_wp2
        go_roundg (17 - (i + 1))
        case measure => omega
        case rel => exact ⟨rfl, i + 1, by omega, by omega, by go_num, U'⟩
      · exact absurd (HM.out i hlt) hle
    · obtain rfl : i = 17 := by omega
      clear U hlt
      have g0 : wr.cell? ⟨bc, oc, none⟩ = _ := (hC.out.later hM.out.below).cell 0 (by decide)
      have h6 := H6.out
      have hd : decide ((6 : Int) < ((c 0 : Nat) : Int)) = true := by simp; omega
      generalize c 0 = z at g0 hd
      clear h6
      go_wp2_with (first
        | (refine lR rfl (hM.out.at 0 rfl) rfl (rwTh kind rfl _ _) ?_)
        | (refine sR rfl (hM.out.at 1 rfl) rfl (rwN.len (rwTh kind rfl _ _)) (rwTh kind rfl _ _) ?_
           replace hM := hid (hM.out.put 1 rfl (tg kind (.slice none 0 0) Tb.zero 0) (rwN.len (rwTh kind rfl _ _)))
           generalize World.setCells _ _ _ _ = W at hM ⊢))
      exact bodyPost_ret (res1s Tryz.results11 (hM.out.at 1 rfl) (rwTh kind rfl _ _) (.bool false)) rfl ⟨(.slice none 0 0), Tb.zero, 0, rfl, rfl, hM.out.below⟩
set_option maxHeartbeats 8000000 in
theorem ThingOf_4n {bc oc kc : Nat} {c : Nat → Nat} {w : World} {b : Bool} {kind : Int} (k5 : 1 ≤ kind ∧ kind ≤ 4) (hc : Wf w bc oc c) (hm : ∀ j, j < 17 → c j ≤ 4294967295) (h6 : c 0 ≤ 6) (h4 : kind = 4) (hp : ¬ Hp (lst c)) :
    Calls Tryz.prog 11 #[.int .i64 kind, .slice (some ⟨bc, oc, none⟩) 17 kc] w fun e w' => ∃ v t x, v.oneCell' = true ∧ e = .returned (.tuple #[.agg (tg kind v t x).toArray, .bool false]) ∧ Below w.heap.size w w' := by
  have hk : 1 ≤ kind ∧ kind ≤ 6 := by omega
  have m5 : (kind == 5) = false := by simp; omega
  have m6 : (kind == 6) = false := by simp; omega
  have HK : Hid (kind ≠ 5 ∧ kind ≠ 6) := ⟨by omega, by omega⟩
  have HM : Hid _ := hm
  have H6 : Hid _ := h6
  have hC : Hid _ := hc
  clear k5 hm h6 hc
  have H4 : Hid _ := h4
  have HP : Hid _ := hp
  clear h4 hp
  have LT : Hid (∀ i, i < c 0 → (lst c).take i ++ [((c (i + 1) : Nat) : Int)] = (lst c).take (i + 1)) := fun i hi => lsq_take c hi
  have LL : Hid (∀ i, i ≤ c 0 → ((lst c).take i).length = i) := fun i hi => by rw [List.length_take, lst_length]; omega
  have LE : Hid ((lst c).take (c 0) = lst c) := List.take_of_length_le (by rw [lst_length]; exact Nat.le_refl _)
  have LX : Hid (∀ x ∈ lst c, 0 ≤ x ∧ x ≤ 4294967295) := lst_le (fun j hj => HM.out j hj) H6.out
  have LL0 : Hid _ := lst_length c
  have hM : Hid _ := (((Ms.nil w).bornR (tg_zero 0).symm 33 (b := w.heap.size) rfl).bornR (tg_zero 0).symm 33 (b := w.heap.size + 1) (by simp))
  go_enter Tryz.func11, Tryz.ntmps11
  go_wp2_with (first
    | (refine sR rfl (hM.out.at 0 rfl) rfl (rwN.len (rwK kind)) (rwK kind) ?_
       replace hM := hid (hM.out.put 0 rfl _ (rwN.len (rwK kind)))
       generalize World.setCells _ _ _ _ = W at hM ⊢
       rw [← tg_nil] at hM))
  generalize hsz : w.heap.size = n at hM ⊢
  clear hsz
  refine (rwithin_yes kind 1 6 _ hk.1 hk.2).mono ?_
  rintro e ux ⟨rfl, hw⟩
  rw [hw]; clear hw ux
  go_wp2_with fail
  go_loopg [19] 17 (fun gg s19 wt => wt = W ∧ ∃ i : Nat, i ≤ 17 ∧ 17 - i ≤ gg ∧ s19 = .int .i64 i ∧ Hid (∀ j, j < i → c j ≤ 4294967295))
  case atStart => exact ⟨rfl, 0, by omega, by omega, rfl, fun j hj => absurd hj (by omega)⟩
  case round =>
    obtain ⟨rfl, i, hi, hgg, rfl, U⟩ := hrel
    by_cases hlt : i < 17
    · have g0 := (hC.out.later hM.out.below).cell i hlt
      have hi1 : (i : Int) < 17 := by omega
      have hi0 : (0 : Int) ≤ (i : Int) := by omega
      by_cases hle : c i ≤ 4294967295
      · have U' : Hid (∀ j, j < i + 1 → c j ≤ 4294967295) := fun j hj => by
          by_cases e : j = i
          · subst e; exact hle
          · exact U.out j (by omega)
        have hd : ¬ 4294967295 < ((c i : Nat) : Int) := by omega
        clear U
        generalize c i = x at g0 hd hle
        clear hle
        go_wp2
        go_roundg (17 - (i + 1))
        case measure => omega
        case rel => exact ⟨rfl, i + 1, by omega, by omega, by go_num, U'⟩
      · exact absurd (HM.out i hlt) hle
    · obtain rfl : i = 17 := by omega
      clear U hlt
      have g0 : wr.cell? ⟨bc, oc, none⟩ = _ := (hC.out.later hM.out.below).cell 0 (by decide)
      have h6 := H6.out
      have ez1 : IntKind.i64.wrap ((c 0 : Nat) : Int) = (c 0 : Nat) := by rw [IntKind.wrap_i64]; omega
      have ez2 : wrap64 ((c 0 : Nat) : Int) = (c 0 : Nat) := by unfold wrap64; omega
      have hd : decide ((6 : Int) < ((c 0 : Nat) : Int)) = false := by simp; omega
      have hdn : ¬ (6 : Int) < ((c 0 : Nat) : Int) := by omega
      obtain ⟨z, hz⟩ : ∃ z, c 0 = z := ⟨_, rfl⟩
      rw [hz] at g0 ez1 ez2 hd hdn LT LL LE LL0 h6
      clear hz
      obtain ⟨wq, rfl⟩ : ∃ wq, wq = wr := ⟨_, rfl⟩
      go_wp2_with fail
      clear g0 hd hdn
      have hnw : n + 2 ≤ wq.heap.size := by have := hM.out.len 0 rfl; omega
      go_loopg [37] z (fun gg s37 wt => ∃ i : Nat, i ≤ z ∧ z - i ≤ gg ∧ s37 = .int .i64 i ∧ n + 2 ≤ wt.heap.size ∧ ∃ v, Hid (Own (n + 2) wt v ((lst c).take i)) ∧ Hid (Ms n w wt [(n + 1, tg kind v Tb.zero 0), (n, tg 0 (.slice none 0 0) Tb.zero 0)] []))
      case atStart => exact ⟨0, by omega, by omega, rfl, hnw, (.slice none 0 0), ⟨rfl, Or.inl ⟨rfl, rfl⟩⟩, hM⟩
      case round =>
        clear hM hnw
        obtain ⟨i, hi, hgg, rfl, hnw, v, O, hM⟩ := hrel
        by_cases hlt : i < z
        · have N1 : Hid _ := LT.out i hlt
          have L1 : Hid (((lst c).take i).length + 1 ≤ 1000000) := by have := LL.out i (by omega); show _ + 1 ≤ 1000000; omega
          have x1 := HM.out (i + 1) (by omega)
          have ex1 : IntKind.i64.wrap ((c (i + 1) : Nat) : Int) = (c (i + 1) : Nat) := by rw [IntKind.wrap_i64]; omega
          have ex2 : wrap64 ((c (i + 1) : Nat) : Int) = (c (i + 1) : Nat) := by unfold wrap64; omega
          have i1 : (i : Int) < (z : Int) := by omega
          have j1 : (i : Int) + 1 < 17 := by omega
          have j0 : (0 : Int) ≤ (i : Int) + 1 := by omega
          have j2 : IntKind.i64.wrap ((i : Int) + 1) = (i : Int) + 1 := by rw [IntKind.wrap_i64]; omega
          have j3 : ((i : Int) + 1).toNat = i + 1 := by omega
          generalize (lst c).take i = ys at O N1 L1
          go_wp2_with fail
          generalize wr = W at hM O hnw ⊢
          replace hM := hid (hM.out.drew)
          replace O := hid (Own.drew O.out)
          replace hnw : n + 2 ≤ W.drew.heap.size := hnw
          refine wp_region_held_drew (S := fun w' => Wf w' bc oc c) (by kernel_rfl) (hC.out.later hM.out.below) (fun hH => ?_)
          generalize World.drew _ = W at hM O hnw hH ⊢
          refine tk 0 rfl hH ?_
          simp only [Act.put, p1, p2, p3]
          refine tk 2 rfl hH ?_
          simp only [Act.put, p1, p2, p3]
          refine tk 3 rfl hH ?_
          simp only [Act.put, p1, p2, p3]
          refine tk 4 rfl hH ?_
          simp only [Act.put, p1, p2, p3]
          refine tk 5 rfl hH ?_
          simp only [Act.put, p1, p2, p3]
          refine tk 6 rfl hH ?_ (by intro w h; have c0 := h.cell (i + 1) (by omega); clear h; go_simp; try with_reducible rfl)
          simp only [Act.put, p1, p2, p3]
          refine tk 7 rfl hH ?_
          simp only [Act.put, p1, p2, p3]
          refine rdn [1, 8] ?_
          refine rdc rfl (fun K hK => ?_) ?_
          · have c0 := hM.out.cell 0 1 rfl (tg_1 _ _ _ _)
            go_simp
            clear c0
            refine hK.out _ _ (hC.out.later hM.out.below) (fun hH => ?_)
            clear hK K
            try simp only [Act.put, p1, p2, p3]
            refine rd1 8 rfl (fun K hK => ?_)
            go_simp
            have hI : Hid (IsL 0 (W.alloc (.cells #[.int .i64 (c (i + 1) : Nat)] 3)) (.slice (some ⟨W.heap.size, 0, none⟩) 1 1) [((c (i + 1) : Nat) : Int)]) := IsL.lit W [((c (i + 1) : Nat) : Int)] Nat.zero_lt_one
            replace O := hid (Own.new O.out (.cells #[.int .i64 (c (i + 1) : Nat)] 3))
            replace hM := hid (hM.out.new (.cells #[.int .i64 (c (i + 1) : Nat)] 3))
            replace hnw : n + 2 ≤ (W.alloc (.cells #[.int .i64 (c (i + 1) : Nat)] 3)).heap.size := by simp; omega
            refine hK.out _ _ (hC.out.later hM.out.below) (fun hH => ?_)
            clear hK K
            generalize World.alloc _ _ = W1 at hM hI O hnw hH ⊢
            try simp only [Act.put, p1, p2, p3]
            refine rd1 9 rfl (fun K hK => ?_)
            refine apO (.tmp 41) (.tmp 48) rfl hnw O.out hI.out rfl rfl L1.out ?_
            intro W3 w3 hO3 hb3
            obtain ⟨a3, k3, rfl⟩ := hO3.form
            generalize hl3 : (ys ++ [((c (i + 1) : Nat) : Int)]).length = l3
            rw [hl3] at hO3; clear hl3
            replace hM := hid (hM.out.laterA hb3 (by simp))
            replace hnw : n + 2 ≤ w3.heap.size := Nat.le_trans hnw hb3.size
            clear O hI
            have O : Hid _ := hO3
            clear hO3 hb3
            refine hK.out _ _ (hC.out.later hM.out.below) (fun hH => ?_)
            clear hK K
            try simp only [Act.put, p1, p2, p3]
            refine tk 10 rfl hH ?_
            simp only [Act.put, p1, p2, p3]
            refine rd1 11 rfl (fun K hK => ?_)
            have c0 := hM.out.cell 0 1 rfl (tg_1 _ _ _ _)
            have c1 := hM.out.froz 0 1 rfl
            go_simp
            clear c0 c1
            replace hM := hid (hM.out.put1 0 1 rfl (.slice a3 l3 k3) (tg kind (.slice a3 l3 k3) Tb.zero 0) (by rw [tg_length]; decide) (tg_list _ _ (.slice a3 l3 k3) _ _))
            replace O := hid (Own.aside O.out (p := ⟨n + 1, 1, none⟩) (by simp) (.slice a3 l3 k3))
            refine hK.out _ _ (hC.out.later hM.out.below) (fun hH => ?_)
            clear hK K
            try simp only [p1, p2, p3]
            refine wpAnyH_done (by kernel_rfl) ?_ _
            go_wp2
            go_roundg (z - (i + 1))
            case measure => omega
            case rel => exact ⟨i + 1, by omega, by omega, by go_num, by simpa [World.setCell] using hnw, (.slice a3 l3 k3), by rw [← N1.out]; exact O.out, hM⟩
          refine rdc rfl (fun K hK => ?_) AllReadyH.nil
          go_simp
          have hI : Hid (IsL 0 (W.alloc (.cells #[.int .i64 (c (i + 1) : Nat)] 3)) (.slice (some ⟨W.heap.size, 0, none⟩) 1 1) [((c (i + 1) : Nat) : Int)]) := IsL.lit W [((c (i + 1) : Nat) : Int)] Nat.zero_lt_one
          replace O := hid (Own.new O.out (.cells #[.int .i64 (c (i + 1) : Nat)] 3))
          replace hM := hid (hM.out.new (.cells #[.int .i64 (c (i + 1) : Nat)] 3))
          replace hnw : n + 2 ≤ (W.alloc (.cells #[.int .i64 (c (i + 1) : Nat)] 3)).heap.size := by simp; omega
          refine hK.out _ _ (hC.out.later hM.out.below) (fun hH => ?_)
          clear hK K
          generalize World.alloc _ _ = W1 at hM hI O hnw hH ⊢
          try simp only [Act.put, p1, p2, p3]
          refine rd1 1 rfl (fun K hK => ?_)
          have c0 := hM.out.cell 0 1 rfl (tg_1 _ _ _ _)
          go_simp
          clear c0
          refine hK.out _ _ (hC.out.later hM.out.below) (fun hH => ?_)
          clear hK K
          try simp only [Act.put, p1, p2, p3]
          refine rd1 9 rfl (fun K hK => ?_)
          refine apO (.tmp 41) (.tmp 48) rfl hnw O.out hI.out rfl rfl L1.out ?_
          intro W3 w3 hO3 hb3
          obtain ⟨a3, k3, rfl⟩ := hO3.form
          generalize hl3 : (ys ++ [((c (i + 1) : Nat) : Int)]).length = l3
          rw [hl3] at hO3; clear hl3
          replace hM := hid (hM.out.laterA hb3 (by simp))
          replace hnw : n + 2 ≤ w3.heap.size := Nat.le_trans hnw hb3.size
          clear O hI
          have O : Hid _ := hO3
          clear hO3 hb3
          refine hK.out _ _ (hC.out.later hM.out.below) (fun hH => ?_)
          clear hK K
          try simp only [Act.put, p1, p2, p3]
          refine tk 10 rfl hH ?_
          simp only [Act.put, p1, p2, p3]
          refine rd1 11 rfl (fun K hK => ?_)
          have c0 := hM.out.cell 0 1 rfl (tg_1 _ _ _ _)
          have c1 := hM.out.froz 0 1 rfl
          go_simp
          clear c0 c1
          replace hM := hid (hM.out.put1 0 1 rfl (.slice a3 l3 k3) (tg kind (.slice a3 l3 k3) Tb.zero 0) (by rw [tg_length]; decide) (tg_list _ _ (.slice a3 l3 k3) _ _))
          replace O := hid (Own.aside O.out (p := ⟨n + 1, 1, none⟩) (by simp) (.slice a3 l3 k3))
          refine hK.out _ _ (hC.out.later hM.out.below) (fun hH => ?_)
          clear hK K
          try simp only [p1, p2, p3]
          refine wpAnyH_done (by kernel_rfl) ?_ _
          go_wp2
          go_roundg (z - (i + 1))
          case measure => omega
          case rel => exact ⟨i + 1, by omega, by omega, by go_num, by simpa [World.setCell] using hnw, (.slice a3 l3 k3), by rw [← N1.out]; exact O.out, hM⟩
        · have ei : i = z := by omega
          rw [ei, LE.out] at O
          clear hlt
          have I : Hid (IsL (n + 2) wr v (lst c)) := O.out.isL
          clear O
          have HVO : Hid (v.oneCell' = true) := by obtain ⟨a, k, hv⟩ := I.out.form; rw [hv]; rfl
          have t1 := hM.out.cell 0 1 rfl (tg_1 _ _ _ _)
          have h4 := H4.out
          clear H4
          subst h4
          go_wp2_with fail
          refine (RRight_isnt I.out (by rw [LL0.out]; omega) (fun h => HP.out h.2)).mono ?_
          rintro e W ⟨rfl, hb⟩
          replace I := hid (IsL.later I.out hb)
          replace hM := hid (hM.out.later hb)
          clear hb t1
          go_wp2_with (first
            | (refine lR rfl (hM.out.at 0 rfl) rfl (rwTh 4 HVO.out _ _) ?_)
            | (refine sR rfl (hM.out.at 1 rfl) rfl (rwN.len (rwTh 4 HVO.out _ _)) (rwTh 4 HVO.out _ _) ?_
               replace hM := hid (hM.out.put 1 rfl (tg 4 v Tb.zero 0) (rwN.len (rwTh 4 HVO.out _ _)))
               generalize World.setCells _ _ _ _ = W at hM ⊢))
          exact bodyPost_ret (res1s Tryz.results11 (hM.out.at 1 rfl) (rwTh 4 HVO.out _ _) (.bool false)) rfl ⟨_, Tb.zero, 0, HVO.out, rfl, hM.out.below⟩
set_option maxHeartbeats 8000000 in
theorem ThingOf_4 {bc oc kc : Nat} {c : Nat → Nat} {w : World} {b : Bool} {kind : Int} (k5 : 1 ≤ kind ∧ kind ≤ 4) (hc : Wf w bc oc c) (hm : ∀ j, j < 17 → c j ≤ 4294967295) (h6 : c 0 ≤ 6) (h4 : kind = 4) (hp : Hp (lst c)) (hv : b = true ↔ ∀ j, j < 17 → lw (lst c) j = c j) :
    Calls Tryz.prog 11 #[.int .i64 kind, .slice (some ⟨bc, oc, none⟩) 17 kc] w fun e w' => ∃ v, e = .returned (.tuple #[.agg (tg kind v Tb.zero 0).toArray, .bool b]) ∧ IsL w.heap.size w' v (lst c) ∧ Below w.heap.size w w' := by
  have hk : 1 ≤ kind ∧ kind ≤ 6 := by omega
  have m5 : (kind == 5) = false := by simp; omega
  have m6 : (kind == 6) = false := by simp; omega
  have HK : Hid (kind ≠ 5 ∧ kind ≠ 6) := ⟨by omega, by omega⟩
  have HM : Hid _ := hm
  have H6 : Hid _ := h6
  have hC : Hid _ := hc
  clear k5 hm h6 hc
  have H4 : Hid _ := h4
  have HP : Hid _ := hp
  clear h4 hp
  have HV : Hid _ := hv
  clear hv
  have LT : Hid (∀ i, i < c 0 → (lst c).take i ++ [((c (i + 1) : Nat) : Int)] = (lst c).take (i + 1)) := fun i hi => lsq_take c hi
  have LL : Hid (∀ i, i ≤ c 0 → ((lst c).take i).length = i) := fun i hi => by rw [List.length_take, lst_length]; omega
  have LE : Hid ((lst c).take (c 0) = lst c) := List.take_of_length_le (by rw [lst_length]; exact Nat.le_refl _)
  have LX : Hid (∀ x ∈ lst c, 0 ≤ x ∧ x ≤ 4294967295) := lst_le (fun j hj => HM.out j hj) H6.out
  have LL0 : Hid _ := lst_length c
  have hM : Hid _ := (((Ms.nil w).bornR (tg_zero 0).symm 33 (b := w.heap.size) rfl).bornR (tg_zero 0).symm 33 (b := w.heap.size + 1) (by simp))
  go_enter Tryz.func11, Tryz.ntmps11
  go_wp2_with (first
    | (refine sR rfl (hM.out.at 0 rfl) rfl (rwN.len (rwK kind)) (rwK kind) ?_
       replace hM := hid (hM.out.put 0 rfl _ (rwN.len (rwK kind)))
       generalize World.setCells _ _ _ _ = W at hM ⊢
       rw [← tg_nil] at hM))
  generalize hsz : w.heap.size = n at hM ⊢
  clear hsz
  refine (rwithin_yes kind 1 6 _ hk.1 hk.2).mono ?_
  rintro e ux ⟨rfl, hw⟩
  rw [hw]; clear hw ux
  go_wp2_with fail
  go_loopg [19] 17 (fun gg s19 wt => wt = W ∧ ∃ i : Nat, i ≤ 17 ∧ 17 - i ≤ gg ∧ s19 = .int .i64 i ∧ Hid (∀ j, j < i → c j ≤ 4294967295))
  case atStart => exact ⟨rfl, 0, by omega, by omega, rfl, fun j hj => absurd hj (by omega)⟩
  case round =>
    obtain ⟨rfl, i, hi, hgg, rfl, U⟩ := hrel
    by_cases hlt : i < 17
    · have g0 := (hC.out.later hM.out.below).cell i hlt
      have hi1 : (i : Int) < 17 := by omega
      have hi0 : (0 : Int) ≤ (i : Int) := by omega
      by_cases hle : c i ≤ 4294967295
      · have U' : Hid (∀ j, j < i + 1 → c j ≤ 4294967295) := fun j hj => by
          by_cases e : j = i
          · subst e; exact hle
          · exact U.out j (by omega)
        have hd : ¬ 4294967295 < ((c i : Nat) : Int) := by omega
        clear U
        generalize c i = x at g0 hd hle
        clear hle
        go_wp2
        go_roundg (17 - (i + 1))
        case measure => omega
        case rel => exact ⟨rfl, i + 1, by omega, by omega, by go_num, U'⟩
      · exact absurd (HM.out i hlt) hle
    · obtain rfl : i = 17 := by omega
      clear U hlt
      have g0 : wr.cell? ⟨bc, oc, none⟩ = _ := (hC.out.later hM.out.below).cell 0 (by decide)
      have h6 := H6.out
      have ez1 : IntKind.i64.wrap ((c 0 : Nat) : Int) = (c 0 : Nat) := by rw [IntKind.wrap_i64]; omega
      have ez2 : wrap64 ((c 0 : Nat) : Int) = (c 0 : Nat) := by unfold wrap64; omega
      have hd : decide ((6 : Int) < ((c 0 : Nat) : Int)) = false := by simp; omega
      have hdn : ¬ (6 : Int) < ((c 0 : Nat) : Int) := by omega
      obtain ⟨z, hz⟩ : ∃ z, c 0 = z := ⟨_, rfl⟩
      rw [hz] at g0 ez1 ez2 hd hdn LT LL LE LL0 h6
      clear hz
      obtain ⟨wq, rfl⟩ : ∃ wq, wq = wr := ⟨_, rfl⟩
      go_wp2_with fail
      clear g0 hd hdn
      have hnw : n + 2 ≤ wq.heap.size := by have := hM.out.len 0 rfl; omega
      go_loopg [37] z (fun gg s37 wt => ∃ i : Nat, i ≤ z ∧ z - i ≤ gg ∧ s37 = .int .i64 i ∧ n + 2 ≤ wt.heap.size ∧ ∃ v, Hid (Own (n + 2) wt v ((lst c).take i)) ∧ Hid (Ms n w wt [(n + 1, tg kind v Tb.zero 0), (n, tg 0 (.slice none 0 0) Tb.zero 0)] []))
      case atStart => exact ⟨0, by omega, by omega, rfl, hnw, (.slice none 0 0), ⟨rfl, Or.inl ⟨rfl, rfl⟩⟩, hM⟩
      case round =>
        clear hM hnw
        obtain ⟨i, hi, hgg, rfl, hnw, v, O, hM⟩ := hrel
        by_cases hlt : i < z
        · have N1 : Hid _ := LT.out i hlt
          have L1 : Hid (((lst c).take i).length + 1 ≤ 1000000) := by have := LL.out i (by omega); show _ + 1 ≤ 1000000; omega
          have x1 := HM.out (i + 1) (by omega)
          have ex1 : IntKind.i64.wrap ((c (i + 1) : Nat) : Int) = (c (i + 1) : Nat) := by rw [IntKind.wrap_i64]; omega
          have ex2 : wrap64 ((c (i + 1) : Nat) : Int) = (c (i + 1) : Nat) := by unfold wrap64; omega
          have i1 : (i : Int) < (z : Int) := by omega
          have j1 : (i : Int) + 1 < 17 := by omega
          have j0 : (0 : Int) ≤ (i : Int) + 1 := by omega
          have j2 : IntKind.i64.wrap ((i : Int) + 1) = (i : Int) + 1 := by rw [IntKind.wrap_i64]; omega
          have j3 : ((i : Int) + 1).toNat = i + 1 := by omega
          generalize (lst c).take i = ys at O N1 L1
          go_wp2_with fail
          generalize wr = W at hM O hnw ⊢
          replace hM := hid (hM.out.drew)
          replace O := hid (Own.drew O.out)
          replace hnw : n + 2 ≤ W.drew.heap.size := hnw
          refine wp_region_held_drew (S := fun w' => Wf w' bc oc c) (by kernel_rfl) (hC.out.later hM.out.below) (fun hH => ?_)
          generalize World.drew _ = W at hM O hnw hH ⊢
          refine tk 0 rfl hH ?_
          simp only [Act.put, p1, p2, p3]
          refine tk 2 rfl hH ?_
          simp only [Act.put, p1, p2, p3]
          refine tk 3 rfl hH ?_
          simp only [Act.put, p1, p2, p3]
          refine tk 4 rfl hH ?_
          simp only [Act.put, p1, p2, p3]
          refine tk 5 rfl hH ?_
          simp only [Act.put, p1, p2, p3]
          refine tk 6 rfl hH ?_ (by intro w h; have c0 := h.cell (i + 1) (by omega); clear h; go_simp; try with_reducible rfl)
          simp only [Act.put, p1, p2, p3]
          refine tk 7 rfl hH ?_
          simp only [Act.put, p1, p2, p3]
          refine rdn [1, 8] ?_
          refine rdc rfl (fun K hK => ?_) ?_
          · have c0 := hM.out.cell 0 1 rfl (tg_1 _ _ _ _)
            go_simp
            clear c0
            refine hK.out _ _ (hC.out.later hM.out.below) (fun hH => ?_)
            clear hK K
            try simp only [Act.put, p1, p2, p3]
            refine rd1 8 rfl (fun K hK => ?_)
            go_simp
            have hI : Hid (IsL 0 (W.alloc (.cells #[.int .i64 (c (i + 1) : Nat)] 3)) (.slice (some ⟨W.heap.size, 0, none⟩) 1 1) [((c (i + 1) : Nat) : Int)]) := IsL.lit W [((c (i + 1) : Nat) : Int)] Nat.zero_lt_one
            replace O := hid (Own.new O.out (.cells #[.int .i64 (c (i + 1) : Nat)] 3))
            replace hM := hid (hM.out.new (.cells #[.int .i64 (c (i + 1) : Nat)] 3))
            replace hnw : n + 2 ≤ (W.alloc (.cells #[.int .i64 (c (i + 1) : Nat)] 3)).heap.size := by simp; omega
            refine hK.out _ _ (hC.out.later hM.out.below) (fun hH => ?_)
            clear hK K
            generalize World.alloc _ _ = W1 at hM hI O hnw hH ⊢
            try simp only [Act.put, p1, p2, p3]
            refine rd1 9 rfl (fun K hK => ?_)
            refine apO (.tmp 41) (.tmp 48) rfl hnw O.out hI.out rfl rfl L1.out ?_
            intro W3 w3 hO3 hb3
            obtain ⟨a3, k3, rfl⟩ := hO3.form
            generalize hl3 : (ys ++ [((c (i + 1) : Nat) : Int)]).length = l3
            rw [hl3] at hO3; clear hl3
            replace hM := hid (hM.out.laterA hb3 (by simp))
            replace hnw : n + 2 ≤ w3.heap.size := Nat.le_trans hnw hb3.size
            clear O hI
            have O : Hid _ := hO3
            clear hO3 hb3
            refine hK.out _ _ (hC.out.later hM.out.below) (fun hH => ?_)
            clear hK K
            try simp only [Act.put, p1, p2, p3]
            refine tk 10 rfl hH ?_
            simp only [Act.put, p1, p2, p3]
            refine rd1 11 rfl (fun K hK => ?_)
            have c0 := hM.out.cell 0 1 rfl (tg_1 _ _ _ _)
            have c1 := hM.out.froz 0 1 rfl
            go_simp
            clear c0 c1
            replace hM := hid (hM.out.put1 0 1 rfl (.slice a3 l3 k3) (tg kind (.slice a3 l3 k3) Tb.zero 0) (by rw [tg_length]; decide) (tg_list _ _ (.slice a3 l3 k3) _ _))
            replace O := hid (Own.aside O.out (p := ⟨n + 1, 1, none⟩) (by simp) (.slice a3 l3 k3))
            refine hK.out _ _ (hC.out.later hM.out.below) (fun hH => ?_)
            clear hK K
            try simp only [p1, p2, p3]
            refine wpAnyH_done (by kernel_rfl) ?_ _
            go_wp2
            go_roundg (z - (i + 1))
            case measure => omega
            case rel => exact ⟨i + 1, by omega, by omega, by go_num, by simpa [World.setCell] using hnw, (.slice a3 l3 k3), by rw [← N1.out]; exact O.out, hM⟩
          refine rdc rfl (fun K hK => ?_) AllReadyH.nil
          go_simp
          have hI : Hid (IsL 0 (W.alloc (.cells #[.int .i64 (c (i + 1) : Nat)] 3)) (.slice (some ⟨W.heap.size, 0, none⟩) 1 1) [((c (i + 1) : Nat) : Int)]) := IsL.lit W [((c (i + 1) : Nat) : Int)] Nat.zero_lt_one
          replace O := hid (Own.new O.out (.cells #[.int .i64 (c (i + 1) : Nat)] 3))
          replace hM := hid (hM.out.new (.cells #[.int .i64 (c (i + 1) : Nat)] 3))
          replace hnw : n + 2 ≤ (W.alloc (.cells #[.int .i64 (c (i + 1) : Nat)] 3)).heap.size := by simp; omega
          refine hK.out _ _ (hC.out.later hM.out.below) (fun hH => ?_)
          clear hK K
          generalize World.alloc _ _ = W1 at hM hI O hnw hH ⊢
          try simp only [Act.put, p1, p2, p3]
          refine rd1 1 rfl (fun K hK => ?_)
          have c0 := hM.out.cell 0 1 rfl (tg_1 _ _ _ _)
          go_simp
          clear c0
          refine hK.out _ _ (hC.out.later hM.out.below) (fun hH => ?_)
          clear hK K
          try simp only [Act.put, p1, p2, p3]
          refine rd1 9 rfl (fun K hK => ?_)
          refine apO (.tmp 41) (.tmp 48) rfl hnw O.out hI.out rfl rfl L1.out ?_
          intro W3 w3 hO3 hb3
          obtain ⟨a3, k3, rfl⟩ := hO3.form
          generalize hl3 : (ys ++ [((c (i + 1) : Nat) : Int)]).length = l3
          rw [hl3] at hO3; clear hl3
          replace hM := hid (hM.out.laterA hb3 (by simp))
          replace hnw : n + 2 ≤ w3.heap.size := Nat.le_trans hnw hb3.size
          clear O hI
          have O : Hid _ := hO3
          clear hO3 hb3
          refine hK.out _ _ (hC.out.later hM.out.below) (fun hH => ?_)
          clear hK K
          try simp only [Act.put, p1, p2, p3]
          refine tk 10 rfl hH ?_
          simp only [Act.put, p1, p2, p3]
          refine rd1 11 rfl (fun K hK => ?_)
          have c0 := hM.out.cell 0 1 rfl (tg_1 _ _ _ _)
          have c1 := hM.out.froz 0 1 rfl
          go_simp
          clear c0 c1
          replace hM := hid (hM.out.put1 0 1 rfl (.slice a3 l3 k3) (tg kind (.slice a3 l3 k3) Tb.zero 0) (by rw [tg_length]; decide) (tg_list _ _ (.slice a3 l3 k3) _ _))
          replace O := hid (Own.aside O.out (p := ⟨n + 1, 1, none⟩) (by simp) (.slice a3 l3 k3))
          refine hK.out _ _ (hC.out.later hM.out.below) (fun hH => ?_)
          clear hK K
          try simp only [p1, p2, p3]
          refine wpAnyH_done (by kernel_rfl) ?_ _
          go_wp2
          go_roundg (z - (i + 1))
          case measure => omega
          case rel => exact ⟨i + 1, by omega, by omega, by go_num, by simpa [World.setCell] using hnw, (.slice a3 l3 k3), by rw [← N1.out]; exact O.out, hM⟩
        · have ei : i = z := by omega
          rw [ei, LE.out] at O
          clear hlt
          have I : Hid (IsL (n + 2) wr v (lst c)) := O.out.isL
          clear O
          have HVO : Hid (v.oneCell' = true) := by obtain ⟨a, k, hv⟩ := I.out.form; rw [hv]; rfl
          have t1 := hM.out.cell 0 1 rfl (tg_1 _ _ _ _)
          have h4 := H4.out
          clear H4
          subst h4
          go_wp2_with fail
          refine (RRight_yes I.out (by rw [LL0.out]; omega) HP.out).mono ?_
          rintro e W ⟨rfl, hb⟩
          replace I := hid (IsL.later I.out hb)
          replace hM := hid (hM.out.later hb)
          clear hb t1
          have CC : Hid (∀ W, IsL (n + 2) W v (lst c) → _) := fun W h => Cells_list (k := 4) (v := v) (l := lst c) (by decide) (by decide) Tb.zero 0 (w := W) h (by rw [LL0.out]; exact h6) LX.out
          go_wp2_with fail
          replace hM := hid (hM.out.drew)
          replace I := hid (IsL.drew I.out )
          refine wp_region_held_drew (S := fun w' => Bo w' (n + 1) (tg 4 v Tb.zero 0)) (by kernel_rfl) (hM.out.at 0 rfl) (fun hH => ?_)
          generalize World.drew _ = W at hM hH I ⊢
          refine tkR 0 rfl hH (fun _ h => h) (rwTh 4 HVO.out _ _) ?_
          simp only [Act.put, p1, p2, p3]
          refine tkR 1 rfl hH (fun _ h => h) (rwTh 4 HVO.out _ _) ?_
          simp only [Act.put, p1, p2, p3]
          refine tk 3 rfl hH ?_
          simp only [Act.put, p1, p2, p3]
          refine rd1 2 rfl (fun K hK => ?_)
          go_simp
          refine (CC.out _ I.out).mono ?_
          rintro e W ⟨⟨bq, rfl, hq, hW⟩, hb⟩
          replace hM := hid (hM.out.laterB hb hq hW)
          replace I := hid (IsL.later I.out hb)
          clear hb
          go_wp2_with fail
          refine hK.out _ _ (hM.out.at 1 rfl) (fun hH => ?_)
          clear hK K
          try simp only [Act.put, p1, p2, p3]
          refine rd1 4 rfl (fun K hK => ?_)
          go_simp
          refine (same_wf (hM.out.at 0 rfl) (hC.out.later hM.out.below) _ HV.out).mono ?_
          rintro e W ⟨rfl, hb⟩
          replace hM := hid (hM.out.later hb)
          replace I := hid (IsL.later I.out hb)
          clear hb
          go_wp2_with fail
          refine hK.out _ _ (hM.out.at 1 rfl) (fun hH => ?_)
          clear hK K
          try simp only [Act.put, p1, p2, p3]
          refine rd1 5 rfl (fun K hK => ?_)
          refine stR rfl (hM.out.at 2 rfl) (rwN.len (rwTh 4 HVO.out _ _)) (rwTh 4 HVO.out _ _) ?_
          simp only [Act.put]
          replace hM := hid (hM.out.put 2 rfl (tg 4 v Tb.zero 0) (rwN.len (rwTh 4 HVO.out _ _)))
          replace I := hid (IsL.asideL I.out (k := n) (by omega) 0 (tg 4 v Tb.zero 0))
          refine hK.out _ _ (hM.out.at 1 rfl) (fun hH => ?_)
          clear hK K
          generalize World.setCells _ _ _ _ = W at hM I hH ⊢
          try simp only [Act.put, p1, p2, p3]
          refine tk 6 rfl hH ?_
          simp only [Act.put, p1, p2, p3]
          refine wpAnyH_done (by kernel_rfl) ?_ _
          go_wp2
          exact bodyPost_ret (res1s Tryz.results11 (hM.out.at 2 rfl) (rwTh 4 HVO.out _ _) (.bool _)) rfl ⟨v, rfl, IsL.mono I.out (by have := hM.out.size; omega), hM.out.below⟩
set_option maxHeartbeats 8000000 in
theorem ThingOf_l {bc oc kc : Nat} {c : Nat → Nat} {w : World} {b : Bool} {kind : Int} (k5 : 1 ≤ kind ∧ kind ≤ 4) (hc : Wf w bc oc c) (hm : ∀ j, j < 17 → c j ≤ 4294967295) (h6 : c 0 ≤ 6) (h4 : kind ≠ 4) (hv : b = true ↔ ∀ j, j < 17 → lw (lst c) j = c j) :
    Calls Tryz.prog 11 #[.int .i64 kind, .slice (some ⟨bc, oc, none⟩) 17 kc] w fun e w' => ∃ v, e = .returned (.tuple #[.agg (tg kind v Tb.zero 0).toArray, .bool b]) ∧ IsL w.heap.size w' v (lst c) ∧ Below w.heap.size w w' := by
  have hk : 1 ≤ kind ∧ kind ≤ 6 := by omega
  have m5 : (kind == 5) = false := by simp; omega
  have m6 : (kind == 6) = false := by simp; omega
  have HK : Hid (kind ≠ 5 ∧ kind ≠ 6) := ⟨by omega, by omega⟩
  have HM : Hid _ := hm
  have H6 : Hid _ := h6
  have hC : Hid _ := hc
  clear k5 hm h6 hc
  have m4 : (kind == 4) = false := by simp; exact h4
  clear h4
  have HV : Hid _ := hv
  clear hv
  have LT : Hid (∀ i, i < c 0 → (lst c).take i ++ [((c (i + 1) : Nat) : Int)] = (lst c).take (i + 1)) := fun i hi => lsq_take c hi
  have LL : Hid (∀ i, i ≤ c 0 → ((lst c).take i).length = i) := fun i hi => by rw [List.length_take, lst_length]; omega
  have LE : Hid ((lst c).take (c 0) = lst c) := List.take_of_length_le (by rw [lst_length]; exact Nat.le_refl _)
  have LX : Hid (∀ x ∈ lst c, 0 ≤ x ∧ x ≤ 4294967295) := lst_le (fun j hj => HM.out j hj) H6.out
  have LL0 : Hid _ := lst_length c
  have hM : Hid _ := (((Ms.nil w).bornR (tg_zero 0).symm 33 (b := w.heap.size) rfl).bornR (tg_zero 0).symm 33 (b := w.heap.size + 1) (by simp))
  go_enter Tryz.func11, Tryz.ntmps11
  go_wp2_with (first
    | (refine sR rfl (hM.out.at 0 rfl) rfl (rwN.len (rwK kind)) (rwK kind) ?_
       replace hM := hid (hM.out.put 0 rfl _ (rwN.len (rwK kind)))
       generalize World.setCells _ _ _ _ = W at hM ⊢
       rw [← tg_nil] at hM))
  generalize hsz : w.heap.size = n at hM ⊢
  clear hsz
  refine (rwithin_yes kind 1 6 _ hk.1 hk.2).mono ?_
  rintro e ux ⟨rfl, hw⟩
  rw [hw]; clear hw ux
  go_wp2_with fail
  go_loopg [19] 17 (fun gg s19 wt => wt = W ∧ ∃ i : Nat, i ≤ 17 ∧ 17 - i ≤ gg ∧ s19 = .int .i64 i ∧ Hid (∀ j, j < i → c j ≤ 4294967295))
  case atStart => exact ⟨rfl, 0, by omega, by omega, rfl, fun j hj => absurd hj (by omega)⟩
  case round =>
    obtain ⟨rfl, i, hi, hgg, rfl, U⟩ := hrel
    by_cases hlt : i < 17
    · have g0 := (hC.out.later hM.out.below).cell i hlt
      have hi1 : (i : Int) < 17 := by omega
      have hi0 : (0 : Int) ≤ (i : Int) := by omega
      by_cases hle : c i ≤ 4294967295
      · have U' : Hid (∀ j, j < i + 1 → c j ≤ 4294967295) := fun j hj => by
          by_cases e : j = i
          · subst e; exact hle
          · exact U.out j (by omega)
        have hd : ¬ 4294967295 < ((c i : Nat) : Int) := by omega
        clear U
        generalize c i = x at g0 hd hle
        clear hle
        go_wp2
        go_roundg (17 - (i + 1))
        case measure => omega
        case rel => exact ⟨rfl, i + 1, by omega, by omega, by go_num, U'⟩
      · exact absurd (HM.out i hlt) hle
    · obtain rfl : i = 17 := by omega
      clear U hlt
      have g0 : wr.cell? ⟨bc, oc, none⟩ = _ := (hC.out.later hM.out.below).cell 0 (by decide)
      have h6 := H6.out
      have ez1 : IntKind.i64.wrap ((c 0 : Nat) : Int) = (c 0 : Nat) := by rw [IntKind.wrap_i64]; omega
      have ez2 : wrap64 ((c 0 : Nat) : Int) = (c 0 : Nat) := by unfold wrap64; omega
      have hd : decide ((6 : Int) < ((c 0 : Nat) : Int)) = false := by simp; omega
      have hdn : ¬ (6 : Int) < ((c 0 : Nat) : Int) := by omega
      obtain ⟨z, hz⟩ : ∃ z, c 0 = z := ⟨_, rfl⟩
      rw [hz] at g0 ez1 ez2 hd hdn LT LL LE LL0 h6
      clear hz
      obtain ⟨wq, rfl⟩ : ∃ wq, wq = wr := ⟨_, rfl⟩
      go_wp2_with fail
      clear g0 hd hdn
      have hnw : n + 2 ≤ wq.heap.size := by have := hM.out.len 0 rfl; omega
      go_loopg [37] z (fun gg s37 wt => ∃ i : Nat, i ≤ z ∧ z - i ≤ gg ∧ s37 = .int .i64 i ∧ n + 2 ≤ wt.heap.size ∧ ∃ v, Hid (Own (n + 2) wt v ((lst c).take i)) ∧ Hid (Ms n w wt [(n + 1, tg kind v Tb.zero 0), (n, tg 0 (.slice none 0 0) Tb.zero 0)] []))
      case atStart => exact ⟨0, by omega, by omega, rfl, hnw, (.slice none 0 0), ⟨rfl, Or.inl ⟨rfl, rfl⟩⟩, hM⟩
      case round =>
        clear hM hnw
        obtain ⟨i, hi, hgg, rfl, hnw, v, O, hM⟩ := hrel
        by_cases hlt : i < z
        · have N1 : Hid _ := LT.out i hlt
          have L1 : Hid (((lst c).take i).length + 1 ≤ 1000000) := by have := LL.out i (by omega); show _ + 1 ≤ 1000000; omega
          have x1 := HM.out (i + 1) (by omega)
          have ex1 : IntKind.i64.wrap ((c (i + 1) : Nat) : Int) = (c (i + 1) : Nat) := by rw [IntKind.wrap_i64]; omega
          have ex2 : wrap64 ((c (i + 1) : Nat) : Int) = (c (i + 1) : Nat) := by unfold wrap64; omega
          have i1 : (i : Int) < (z : Int) := by omega
          have j1 : (i : Int) + 1 < 17 := by omega
          have j0 : (0 : Int) ≤ (i : Int) + 1 := by omega
          have j2 : IntKind.i64.wrap ((i : Int) + 1) = (i : Int) + 1 := by rw [IntKind.wrap_i64]; omega
          have j3 : ((i : Int) + 1).toNat = i + 1 := by omega
          generalize (lst c).take i = ys at O N1 L1
          go_wp2_with fail
          generalize wr = W at hM O hnw ⊢
          replace hM := hid (hM.out.drew)
          replace O := hid (Own.drew O.out)
          replace hnw : n + 2 ≤ W.drew.heap.size := hnw
          refine wp_region_held_drew (S := fun w' => Wf w' bc oc c) (by kernel_rfl) (hC.out.later hM.out.below) (fun hH => ?_)
          generalize World.drew _ = W at hM O hnw hH ⊢
          refine tk 0 rfl hH ?_
          simp only [Act.put, p1, p2, p3]
          refine tk 2 rfl hH ?_
          simp only [Act.put, p1, p2, p3]
          refine tk 3 rfl hH ?_
          simp only [Act.put, p1, p2, p3]
          refine tk 4 rfl hH ?_
          simp only [Act.put, p1, p2, p3]
          refine tk 5 rfl hH ?_
          simp only [Act.put, p1, p2, p3]
          refine tk 6 rfl hH ?_ (by intro w h; have c0 := h.cell (i + 1) (by omega); clear h; go_simp; try with_reducible rfl)
          simp only [Act.put, p1, p2, p3]
          refine tk 7 rfl hH ?_
          simp only [Act.put, p1, p2, p3]
          refine rdn [1, 8] ?_
          refine rdc rfl (fun K hK => ?_) ?_
          · have c0 := hM.out.cell 0 1 rfl (tg_1 _ _ _ _)
            go_simp
            clear c0
            refine hK.out _ _ (hC.out.later hM.out.below) (fun hH => ?_)
            clear hK K
            try simp only [Act.put, p1, p2, p3]
            refine rd1 8 rfl (fun K hK => ?_)
            go_simp
            have hI : Hid (IsL 0 (W.alloc (.cells #[.int .i64 (c (i + 1) : Nat)] 3)) (.slice (some ⟨W.heap.size, 0, none⟩) 1 1) [((c (i + 1) : Nat) : Int)]) := IsL.lit W [((c (i + 1) : Nat) : Int)] Nat.zero_lt_one
            replace O := hid (Own.new O.out (.cells #[.int .i64 (c (i + 1) : Nat)] 3))
            replace hM := hid (hM.out.new (.cells #[.int .i64 (c (i + 1) : Nat)] 3))
            replace hnw : n + 2 ≤ (W.alloc (.cells #[.int .i64 (c (i + 1) : Nat)] 3)).heap.size := by simp; omega
            refine hK.out _ _ (hC.out.later hM.out.below) (fun hH => ?_)
            clear hK K
            generalize World.alloc _ _ = W1 at hM hI O hnw hH ⊢
            try simp only [Act.put, p1, p2, p3]
            refine rd1 9 rfl (fun K hK => ?_)
            refine apO (.tmp 41) (.tmp 48) rfl hnw O.out hI.out rfl rfl L1.out ?_
            intro W3 w3 hO3 hb3
            obtain ⟨a3, k3, rfl⟩ := hO3.form
            generalize hl3 : (ys ++ [((c (i + 1) : Nat) : Int)]).length = l3
            rw [hl3] at hO3; clear hl3
            replace hM := hid (hM.out.laterA hb3 (by simp))
            replace hnw : n + 2 ≤ w3.heap.size := Nat.le_trans hnw hb3.size
            clear O hI
            have O : Hid _ := hO3
            clear hO3 hb3
            refine hK.out _ _ (hC.out.later hM.out.below) (fun hH => ?_)
            clear hK K
            try simp only [Act.put, p1, p2, p3]
            refine tk 10 rfl hH ?_
            simp only [Act.put, p1, p2, p3]
            refine rd1 11 rfl (fun K hK => ?_)
            have c0 := hM.out.cell 0 1 rfl (tg_1 _ _ _ _)
            have c1 := hM.out.froz 0 1 rfl
            go_simp
            clear c0 c1
            replace hM := hid (hM.out.put1 0 1 rfl (.slice a3 l3 k3) (tg kind (.slice a3 l3 k3) Tb.zero 0) (by rw [tg_length]; decide) (tg_list _ _ (.slice a3 l3 k3) _ _))
            replace O := hid (Own.aside O.out (p := ⟨n + 1, 1, none⟩) (by simp) (.slice a3 l3 k3))
            refine hK.out _ _ (hC.out.later hM.out.below) (fun hH => ?_)
            clear hK K
            try simp only [p1, p2, p3]
            refine wpAnyH_done (by kernel_rfl) ?_ _
            go_wp2
            go_roundg (z - (i + 1))
            case measure => omega
            case rel => exact ⟨i + 1, by omega, by omega, by go_num, by simpa [World.setCell] using hnw, (.slice a3 l3 k3), by rw [← N1.out]; exact O.out, hM⟩
          refine rdc rfl (fun K hK => ?_) AllReadyH.nil
          go_simp
          have hI : Hid (IsL 0 (W.alloc (.cells #[.int .i64 (c (i + 1) : Nat)] 3)) (.slice (some ⟨W.heap.size, 0, none⟩) 1 1) [((c (i + 1) : Nat) : Int)]) := IsL.lit W [((c (i + 1) : Nat) : Int)] Nat.zero_lt_one
          replace O := hid (Own.new O.out (.cells #[.int .i64 (c (i + 1) : Nat)] 3))
          replace hM := hid (hM.out.new (.cells #[.int .i64 (c (i + 1) : Nat)] 3))
          replace hnw : n + 2 ≤ (W.alloc (.cells #[.int .i64 (c (i + 1) : Nat)] 3)).heap.size := by simp; omega
          refine hK.out _ _ (hC.out.later hM.out.below) (fun hH => ?_)
          clear hK K
          generalize World.alloc _ _ = W1 at hM hI O hnw hH ⊢
          try simp only [Act.put, p1, p2, p3]
          refine rd1 1 rfl (fun K hK => ?_)
          have c0 := hM.out.cell 0 1 rfl (tg_1 _ _ _ _)
          go_simp
          clear c0
          refine hK.out _ _ (hC.out.later hM.out.below) (fun hH => ?_)
          clear hK K
          try simp only [Act.put, p1, p2, p3]
          refine rd1 9 rfl (fun K hK => ?_)
          refine apO (.tmp 41) (.tmp 48) rfl hnw O.out hI.out rfl rfl L1.out ?_
          intro W3 w3 hO3 hb3
          obtain ⟨a3, k3, rfl⟩ := hO3.form
          generalize hl3 : (ys ++ [((c (i + 1) : Nat) : Int)]).length = l3
          rw [hl3] at hO3; clear hl3
          replace hM := hid (hM.out.laterA hb3 (by simp))
          replace hnw : n + 2 ≤ w3.heap.size := Nat.le_trans hnw hb3.size
          clear O hI
          have O : Hid _ := hO3
          clear hO3 hb3
          refine hK.out _ _ (hC.out.later hM.out.below) (fun hH => ?_)
          clear hK K
          try simp only [Act.put, p1, p2, p3]
          refine tk 10 rfl hH ?_
          simp only [Act.put, p1, p2, p3]
          refine rd1 11 rfl (fun K hK => ?_)
          have c0 := hM.out.cell 0 1 rfl (tg_1 _ _ _ _)
          have c1 := hM.out.froz 0 1 rfl
          go_simp
          clear c0 c1
          replace hM := hid (hM.out.put1 0 1 rfl (.slice a3 l3 k3) (tg kind (.slice a3 l3 k3) Tb.zero 0) (by rw [tg_length]; decide) (tg_list _ _ (.slice a3 l3 k3) _ _))
          replace O := hid (Own.aside O.out (p := ⟨n + 1, 1, none⟩) (by simp) (.slice a3 l3 k3))
          refine hK.out _ _ (hC.out.later hM.out.below) (fun hH => ?_)
          clear hK K
          try simp only [p1, p2, p3]
          refine wpAnyH_done (by kernel_rfl) ?_ _
          go_wp2
          go_roundg (z - (i + 1))
          case measure => omega
          case rel => exact ⟨i + 1, by omega, by omega, by go_num, by simpa [World.setCell] using hnw, (.slice a3 l3 k3), by rw [← N1.out]; exact O.out, hM⟩
        · have ei : i = z := by omega
          rw [ei, LE.out] at O
          clear hlt
          have I : Hid (IsL (n + 2) wr v (lst c)) := O.out.isL
          clear O
          have HVO : Hid (v.oneCell' = true) := by obtain ⟨a, k, hv⟩ := I.out.form; rw [hv]; rfl
          have t1 := hM.out.cell 0 1 rfl (tg_1 _ _ _ _)
          have CC : Hid (∀ W, IsL (n + 2) W v (lst c) → _) := fun W h => Cells_list (k := kind) (v := v) (l := lst c) HK.out.1 HK.out.2 Tb.zero 0 (w := W) h (by rw [LL0.out]; exact h6) LX.out
          go_wp2_with fail
          replace hM := hid (hM.out.drew)
          replace I := hid (IsL.drew I.out )
          refine wp_region_held_drew (S := fun w' => Bo w' (n + 1) (tg kind v Tb.zero 0)) (by kernel_rfl) (hM.out.at 0 rfl) (fun hH => ?_)
          generalize World.drew _ = W at hM hH I ⊢
          refine tkR 0 rfl hH (fun _ h => h) (rwTh kind HVO.out _ _) ?_
          simp only [Act.put, p1, p2, p3]
          refine tkR 1 rfl hH (fun _ h => h) (rwTh kind HVO.out _ _) ?_
          simp only [Act.put, p1, p2, p3]
          refine tk 3 rfl hH ?_
          simp only [Act.put, p1, p2, p3]
          refine rd1 2 rfl (fun K hK => ?_)
          go_simp
          refine (CC.out _ I.out).mono ?_
          rintro e W ⟨⟨bq, rfl, hq, hW⟩, hb⟩
          replace hM := hid (hM.out.laterB hb hq hW)
          replace I := hid (IsL.later I.out hb)
          clear hb
          go_wp2_with fail
          refine hK.out _ _ (hM.out.at 1 rfl) (fun hH => ?_)
          clear hK K
          try simp only [Act.put, p1, p2, p3]
          refine rd1 4 rfl (fun K hK => ?_)
          go_simp
          refine (same_wf (hM.out.at 0 rfl) (hC.out.later hM.out.below) _ HV.out).mono ?_
          rintro e W ⟨rfl, hb⟩
          replace hM := hid (hM.out.later hb)
          replace I := hid (IsL.later I.out hb)
          clear hb
          go_wp2_with fail
          refine hK.out _ _ (hM.out.at 1 rfl) (fun hH => ?_)
          clear hK K
          try simp only [Act.put, p1, p2, p3]
          refine rd1 5 rfl (fun K hK => ?_)
          refine stR rfl (hM.out.at 2 rfl) (rwN.len (rwTh kind HVO.out _ _)) (rwTh kind HVO.out _ _) ?_
          simp only [Act.put]
          replace hM := hid (hM.out.put 2 rfl (tg kind v Tb.zero 0) (rwN.len (rwTh kind HVO.out _ _)))
          replace I := hid (IsL.asideL I.out (k := n) (by omega) 0 (tg kind v Tb.zero 0))
          refine hK.out _ _ (hM.out.at 1 rfl) (fun hH => ?_)
          clear hK K
          generalize World.setCells _ _ _ _ = W at hM I hH ⊢
          try simp only [Act.put, p1, p2, p3]
          refine tk 6 rfl hH ?_
          simp only [Act.put, p1, p2, p3]
          refine wpAnyH_done (by kernel_rfl) ?_ _
          go_wp2
          exact bodyPost_ret (res1s Tryz.results11 (hM.out.at 2 rfl) (rwTh kind HVO.out _ _) (.bool _)) rfl ⟨v, rfl, IsL.mono I.out (by have := hM.out.size; omega), hM.out.below⟩
end Go.Proofs.YtgkgkiheoadbfaaGreatDoor.Tab
namespace Go.Proofs.YtgkgkiheoadbfaaGreatDoor.Tab
set_option maxRecDepth 20000
open Go.RowKit
set_option linter.unusedVariables false

/-- What a thing that words are is, as it lies. -/
structure Th (B : Nat) (w : World) (kind : Int) (c : Nat → Nat) (v : Value) (t : Tb) (x : Int) : Prop where
  list : kind ≤ 4 → IsL B w v (lst c) ∧ t = Tb.zero ∧ x = 0
  table : kind = 5 → v = .slice none 0 0 ∧ t.all = (tbl c).all ∧ x = 0
  tally : kind = 6 → v = .slice none 0 0 ∧ t = Tb.zero ∧ x = (c 0 : Nat)

theorem lw_iff {c : Nat → Nat} (h6 : c 0 ≤ 6) (hm : ∀ j, j < 17 → c j ≤ 4294967295) : (∀ j, j < 17 → lw (lst c) j = c j) ↔ WList c := by
  constructor
  · intro h
    refine ⟨h6, fun i _ hi => hm i (by omega), fun i h1 h2 => ?_⟩
    rw [← h i h2]
    unfold lw
    rw [if_neg (by omega), List.getD_eq_getElem?_getD, List.getElem?_eq_none (by rw [lst_length]; omega)]; rfl
  · exact lw_lst
theorem tw_iff {c : Nat → Nat} : (∀ j, j < 17 → tw (tbl c) j = c j) ↔ c 16 = 0 := by
  constructor
  · intro h
    rw [← h 16 (by decide)]; rfl
  · intro h j hj
    unfold tw tbl
    by_cases e : j < 16
    · rw [if_pos e]
      by_cases e2 : j % 2 = 0
      · rw [if_pos e2]; simp only [Int.toNat_natCast]; congr 1; omega
      · rw [if_neg e2]; simp only [Int.toNat_natCast]; congr 1; omega
    · rw [if_neg e, show j = 16 by omega, h]
theorem tyw_iff {c : Nat → Nat} : (∀ j, j < 17 → tyw (c 0 : Nat) j = c j) ↔ ∀ j, 1 ≤ j → j < 17 → c j = 0 := by
  constructor
  · intro h j h1 h2
    rw [← h j h2]; unfold tyw; rw [if_neg (by omega)]
  · intro h j hj
    unfold tyw
    by_cases e : j = 0
    · subst e; rw [if_pos rfl]; exact Int.toNat_natCast _
    · rw [if_neg e, h j (by omega) hj]

theorem ThingOf_is {kind : Int} {bc oc kc : Nat} {c : Nat → Nat} {b : Bool} (hb : b = true ↔ isTh kind c) {w : World} (hc : Wf w bc oc c) :
    Calls Tryz.prog 11 #[.int .i64 kind, .slice (some ⟨bc, oc, none⟩) 17 kc] w fun e w' => ∃ v t x, v.oneCell' = true ∧ e = .returned (.tuple #[.agg (tg kind v t x).toArray, .bool b]) ∧ (b = true → Th w.heap.size w' kind c v t x) ∧ Below w.heap.size w w' := by
  have no : ¬ isTh kind c → (Calls Tryz.prog 11 #[.int .i64 kind, .slice (some ⟨bc, oc, none⟩) 17 kc] w fun e w' => ∃ v t x, v.oneCell' = true ∧ e = .returned (.tuple #[.agg (tg kind v t x).toArray, .bool false]) ∧ Below w.heap.size w w') →
      Calls Tryz.prog 11 #[.int .i64 kind, .slice (some ⟨bc, oc, none⟩) 17 kc] w fun e w' => ∃ v t x, v.oneCell' = true ∧ e = .returned (.tuple #[.agg (tg kind v t x).toArray, .bool b]) ∧ (b = true → Th w.heap.size w' kind c v t x) ∧ Below w.heap.size w w' := by
    intro hn h
    have e : b = false := by cases b with
      | false => rfl
      | true => exact absurd (hb.1 rfl) hn
    subst e
    exact h.mono fun _ _ ⟨v, t, x, h1, h2, h3⟩ => ⟨v, t, x, h1, h2, (fun h => absurd h (by decide)), h3⟩
  by_cases hk : 1 ≤ kind ∧ kind ≤ 6
  · by_cases hm : ∀ j, j < 17 → c j ≤ 4294967295
    · have hkk : kind ≤ 4 ∨ kind = 5 ∨ kind = 6 := by omega
      rcases hkk with hk4 | hk5 | hk6
      · by_cases h6 : c 0 ≤ 6
        · have hl := lw_iff h6 hm
          by_cases h4 : kind = 4
          · by_cases hp : Hp (lst c)
            · refine (ThingOf_4 (b := b) ⟨hk.1, hk4⟩ hc hm h6 h4 hp ?_).mono fun e w' ⟨v, h1, h2, h3⟩ => ⟨v, Tb.zero, 0, ?_, h1, fun _ => ⟨fun _ => ⟨h2, rfl, rfl⟩, fun h => by omega, fun h => by omega⟩, h3⟩
              · rw [hb, hl]; unfold isTh; subst h4; simp [hp]
              · obtain ⟨a, k, rfl⟩ := h2.form; rfl
            · exact no (by unfold isTh; subst h4; simp [hp]) (ThingOf_4n (b := b) ⟨hk.1, hk4⟩ hc hm h6 h4 hp)
          · refine (ThingOf_l (b := b) ⟨hk.1, hk4⟩ hc hm h6 h4 ?_).mono fun e w' ⟨v, h1, h2, h3⟩ => ⟨v, Tb.zero, 0, ?_, h1, fun _ => ⟨fun _ => ⟨h2, rfl, rfl⟩, fun h => by omega, fun h => by omega⟩, h3⟩
            · rw [hb, hl]; unfold isTh
              constructor
              · rintro (⟨_, h⟩ | ⟨h, _⟩ | ⟨h, _⟩ | ⟨h, _⟩)
                · exact h
                · omega
                · omega
                · omega
              · intro h; exact Or.inl ⟨by omega, h⟩
            · obtain ⟨a, k, rfl⟩ := h2.form; rfl
        · refine no ?_ (ThingOf_long (b := b) ⟨hk.1, hk4⟩ hc hm (by omega))
          rintro (⟨_, h⟩ | ⟨_, h, _⟩ | ⟨h, _⟩ | ⟨h, _⟩)
          · exact h6 h.len
          · exact h6 h.len
          · omega
          · omega
      · by_cases hr : RT (tbl c)
        · refine (ThingOf_5 (b := b) hc hm hr ?_ hk5).mono fun e w' ⟨h1, h3⟩ => ⟨.slice none 0 0, tbl c, 0, rfl, by rw [h1, hk5], fun _ => ⟨fun h => by omega, fun _ => ⟨rfl, rfl, rfl⟩, fun h => by omega⟩, h3⟩
          rw [hb, tw_iff]; unfold isTh WT; subst hk5; simp [hr]; intro h j hj; exact hm j (by omega)
        · exact no (by unfold isTh WT; subst hk5; simp [hr]) ((ThingOf_5n (b := b) hc hm hr hk5).mono fun e w' ⟨h1, h3⟩ => ⟨.slice none 0 0, tbl c, 0, rfl, by rw [h1, hk5], h3⟩)
      · refine (ThingOf_6 (b := b) hc hm ?_ hk6).mono fun e w' ⟨h1, h3⟩ => ⟨.slice none 0 0, Tb.zero, (c 0 : Nat), rfl, by rw [h1, hk6], fun _ => ⟨fun h => by omega, fun h => by omega, fun _ => ⟨rfl, rfl, rfl⟩⟩, h3⟩
        rw [hb, tyw_iff]; unfold isTh WN; subst hk6; simp; intro h; exact hm 0 (by decide)
    · refine no (fun h => hm h.le) (ThingOf_big hk hc ?_)
      exact Classical.byContradiction fun h => hm fun j hj => by
        by_cases e : c j ≤ 4294967295
        · exact e
        · exact absurd ⟨j, hj, by omega⟩ h
  · exact no (fun h => hk h.kind) (ThingOf_bad (by omega) w)
end Go.Proofs.YtgkgkiheoadbfaaGreatDoor.Tab
namespace Go.Proofs.YtgkgkiheoadbfaaGreatDoor
set_option maxRecDepth 20000
open Go.RowKit

/-- What the reference has made: the slice (what came in, or a new one) and the answer. -/
def MadeR (w : World) (v : Value) (xs ys : List Int) (c y : Int) (e : Ending) (w' : World) : Prop :=
  ∃ v', e = .returned (.tuple #[v', .agg #[.int .i64 c, .int .i64 y]]) ∧ ((v' = v ∧ ys = xs) ∨ IsL w.heap.size w' v' ys) ∧ Below w.heap.size w w'
/-- The same, the slice a new one. -/
def MadeN (w : World) (ys : List Int) (c y : Int) (e : Ending) (w' : World) : Prop :=
  ∃ v', e = .returned (.tuple #[v', .agg #[.int .i64 c, .int .i64 y]]) ∧ IsL w.heap.size w' v' ys ∧ Below w.heap.size w w'
end Go.Proofs.YtgkgkiheoadbfaaGreatDoor
namespace Go.Proofs.YtgkgkiheoadbfaaGreatDoor.Tab
set_option maxRecDepth 20000
open Go.RowKit
set_option linter.unusedVariables false

def Lf (n m : Nat) (w : World) (v : Value) (xs : List Int) : Prop :=
  (xs = [] ∧ ∃ (a : Option Addr) (c : Nat), v = .slice a 0 c) ∨
  ∃ (b off c : Nat), v = .slice (some ⟨b, off, none⟩) xs.length c ∧ (b < n ∨ m ≤ b) ∧ b < w.heap.size ∧ 0 < xs.length ∧ xs.length ≤ c ∧ (∀ j, j < xs.length → w.cell? ⟨b, off + j, none⟩ = some (.int .i64 (xs.getD j 0)))
theorem Lf.old {B m : Nat} {w : World} {v : Value} {xs : List Int} (h : IsL B w v xs) : Lf w.heap.size m w v xs := by
  rcases h with h | ⟨b, off, c, h1, h2, h4, h5, h6, h7⟩
  · exact Or.inl h
  · have := World.block_lt_of_cell? _ _ (h6 0 h4)
    exact Or.inr ⟨b, off, c, h1, Or.inl this, this, h4, h5, h6⟩
theorem Lf.made {n m k : Nat} {w : World} {v : Value} {xs : List Int} (h : IsL k w v xs) (hk : m ≤ k) : Lf n m w v xs := by
  rcases h with h | ⟨b, off, c, h1, h2, h4, h5, h6, h7⟩
  · exact Or.inl h
  · exact Or.inr ⟨b, off, c, h1, Or.inr (by omega), World.block_lt_of_cell? _ _ (h6 0 h4), h4, h5, h6⟩
theorem Lf.isL {n m : Nat} {w : World} {v : Value} {xs : List Int} (h : Lf n m w v xs) : IsL 0 w v xs := by
  rcases h with h | ⟨b, off, c, h1, h2, h3, h4, h5, h6⟩
  · exact Or.inl h
  · exact Or.inr ⟨b, off, c, h1, Nat.zero_le _, h4, h5, h6, fun h => absurd h (by decide)⟩
theorem Lf.form {n m : Nat} {w : World} {v : Value} {xs : List Int} (h : Lf n m w v xs) : ∃ a c, v = .slice a xs.length c := h.isL.form
theorem Lf.keep {n m : Nat} {w w' : World} {v : Value} {xs : List Int} (h : Lf n m w v xs) (hs : w.heap.size ≤ w'.heap.size) (hb : ∀ b, (b < n ∨ m ≤ b) → b < w.heap.size → w'.heap[b]? = w.heap[b]?) : Lf n m w' v xs := by
  rcases h with h | ⟨b, off, c, h1, h2, h3, h4, h5, h6⟩
  · exact Or.inl h
  · exact Or.inr ⟨b, off, c, h1, h2, Nat.lt_of_lt_of_le h3 hs, h4, h5, fun j hj => by rw [World.cell?_of_block (w := w) (hb b h2 h3)]; exact h6 j hj⟩
theorem Lf.later {n m : Nat} {w w' : World} {v : Value} {xs : List Int} (h : Lf n m w v xs) (hb : Below w.heap.size w w') : Lf n m w' v xs := h.keep hb.size fun b _ hl => hb.block b hl
theorem Lf.new {n m : Nat} {w : World} {v : Value} {xs : List Int} (h : Lf n m w v xs) (o : Obj) : Lf n m (w.alloc o) v xs := h.later (new_below w o)
theorem Lf.drew {n m : Nat} {w : World} {v : Value} {xs : List Int} (h : Lf n m w v xs) : Lf n m w.drew v xs := h.keep (Nat.le_refl _) fun _ _ _ => rfl
theorem Lf.asideL {n m k : Nat} {w : World} {v : Value} {xs : List Int} (h : Lf n m w v xs) (hk : n ≤ k ∧ k < m) (p : Nat) (vs : List Value) : Lf n m (w.setCells k p vs) v xs :=
  h.keep (by rw [size_setCells]; exact Nat.le_refl _) fun b h1 _ => heap_setCells (by omega) _ _ _
theorem Lf.aside {n m : Nat} {w : World} {v : Value} {xs : List Int} (h : Lf n m w v xs) {p : Addr} (hp : n ≤ p.block ∧ p.block < m) (u : Value) : Lf n m (w.setCell p u) v xs :=
  h.keep (by simp [World.setCell]) fun b h1 _ => Below.heap_setCell _ _ _ _ (by omega)
theorem Lf.of_made {n m : Nat} {w w' : World} {v v' : Value} {xs ys : List Int} (h : Lf n m w' v xs) (hm : m ≤ w.heap.size) (hv : (v' = v ∧ ys = xs) ∨ IsL w.heap.size w' v' ys) : Lf n m w' v' ys := by
  rcases hv with ⟨rfl, rfl⟩ | hv
  · exact h
  · exact Lf.made hv hm
theorem tw_all {u : Tb} (hk : ∀ i, i < 8 → 0 ≤ u.k i) (hv : ∀ i, i < 8 → 0 ≤ u.v i) : u.all = (tbl (tw u)).all := by
  unfold Tb.all
  refine List.map_congr_left fun j hj => ?_
  have hj : j < 16 := by simpa using hj
  have h1 := hk (j / 2) (by omega)
  have h2 := hv (j / 2) (by omega)
  unfold Tb.at tbl tw
  by_cases e : j % 2 = 0
  · simp only [e, if_true]
    rw [if_pos (by omega), if_pos (by omega), show 2 * (j / 2) / 2 = j / 2 by omega]
    congr 1; omega
  · simp only [e, if_false]
    rw [if_pos (by omega), if_neg (by omega), show (2 * (j / 2) + 1) / 2 = j / 2 by omega]
    congr 1; omega
theorem tg_same {k : Int} {v : Value} {t u : Tb} {n : Int} (h : t.all = u.all) : tg k v t n = tg k v u n := by unfold tg; rw [h]
/-- The slots of a thing, written. -/
theorem tg_tab (k : Int) (v : Value) (t u : Tb) (n : Int) {j : Nat} : (tg k v u n)[j]? = if 2 ≤ j ∧ j < 18 then u.all[j - 2]? else (tg k v t n)[j]? := by
  rcases j with _ | _ | j
  · rfl
  · rfl
  · simp only [tg, List.getElem?_cons_succ]
    by_cases h : j < 16
    · rw [if_pos (by omega), List.getElem?_append, if_pos (by rw [Tb.all_length]; exact h)]; rfl
    · rw [if_neg (by omega), List.getElem?_append, List.getElem?_append, if_neg (by rw [Tb.all_length]; exact h), if_neg (by rw [Tb.all_length]; exact h), Tb.all_length, Tb.all_length]
theorem Bo.setTab {w : World} {b : Nat} {k : Int} {v : Value} {t : Tb} {n : Int} (h : Bo w b (tg k v t n)) (u : Tb) : Bo (w.setCells b 2 u.all) b (tg k v u n) where
  cell j y hy := by
    rw [tg_tab k v t u n] at hy
    by_cases hj : 2 ≤ j ∧ j < 18
    · rw [if_pos hj] at hy
      have hl : j - 2 < u.all.length := by rw [Tb.all_length]; omega
      have := World.cell?_setCells_in b u.all 2 w (fun m hm => by
        rw [Tb.all_length] at hm
        rw [h.cell (2 + m) _ (tg_at k v t n hm)]; rfl) (j - 2) hl
      rw [show 2 + (j - 2) = j by omega] at this
      rw [this]
      rw [List.getElem?_eq_getElem hl] at hy
      exact hy
    · rw [if_neg hj] at hy
      rw [World.cell?_setCells_out]
      · exact h.cell j y hy
      · intro _ _
        show j < 2 ∨ 2 + u.all.length ≤ j
        rw [Tb.all_length]
        omega
  froz j := by rw [World.frozen?_setCells]; exact h.froz j
  lt := by rw [size_setCells]; exact h.lt
theorem Bo.thereTb {w : World} {b : Nat} {k : Int} {v : Value} {t : Tb} {n : Int} (h : Bo w b (tg k v t n)) (u : Tb) : w.there b 2 u.all.length := fun j hj => by
  rw [Tb.all_length] at hj
  exact ⟨by rw [h.cell (2 + j) _ (tg_at k v t n hj)]; rfl, h.froz _⟩
theorem Bo.thereTab {w : World} {b : Nat} {k : Int} {v : Value} {t : Tb} {n : Int} (h : Bo w b (tg k v t n)) (u : Tb) : w.there b 2 u.all.toArray.size := fun j hj => by
  rw [List.size_toArray, Tb.all_length] at hj
  exact ⟨by rw [h.cell (2 + j) _ (tg_at k v t n hj)]; rfl, h.froz _⟩
end Go.Proofs.YtgkgkiheoadbfaaGreatDoor.Tab
namespace Go.Proofs.YtgkgkiheoadbfaaGreatDoor.Tab
set_option maxRecDepth 20000
open Go.RowKit

set_option maxHeartbeats 1000000 in
theorem RPlace_is (t : Tb) (k : Int) (h0 : 0 ≤ k) (h1 : k ≤ 1000) (hf : ∃ p, p < 8 ∧ t.k p = 0) (w : World) :
    Calls Tryz.prog 67 #[.agg t.all.toArray, .int .i64 k] w fun e w' => e = .returned (.int .i64 (place t k : Nat)) ∧ Below w.heap.size w w' := by
  have T0 : Hid (TAt (w.alloc (.cells t.all.toArray 31)) w.heap.size t) := TAt.born w t _
  have B0 : Hid (Gd w.heap.size w (w.alloc (.cells t.all.toArray 31))) := (Gd.refl w).new _
  have HH : Hid (Hit t k (place t k)) := by
    obtain ⟨p, hp, e⟩ := hf
    exact place_hit t k hp (Or.inr e)
  have P : Hid (plF t k 7 0 = place t k) := rfl
  clear hf
  have RW := row_is k h0 h1
  go_enter Tryz.func67, Tryz.ntmps67
  go_wp2_with fail
  refine (RW _).mono ?_
  rintro e W ⟨v, rfl, hi, hb⟩
  obtain ⟨b, off, c, rfl, hcell⟩ := rowL_isL hi
  have T1 : Hid (TAt W w.heap.size t) := T0.out.later hb
  have G1 : Hid (Gd w.heap.size w W) := B0.out.later hb
  have C : Hid (∀ i, i < 8 → W.cell? ⟨b, off + i, none⟩ = some (.int .i64 (rowAt k i : Nat))) := hcell
  clear hi hb hcell T0 B0 RW
  generalize w.heap.size = n at T1 G1 ⊢
  go_wp2_with fail
  go_loopg [10] 8 (fun gg s10 wt => W = wt ∧ ∃ i : Nat, i < 8 ∧ 8 - i ≤ gg ∧ s10 = .int .i64 i ∧ Hid (plF t k (7 - i) i = place t k))
  case atStart => exact ⟨rfl, 0, by omega, by omega, rfl, P⟩
  case round =>
    obtain ⟨rfl, i, hlt, hgg, rfl, D⟩ := hrel
    have c0 := C.out i hlt
    have hp := rowAt_lt k i
    obtain ⟨p, hpe⟩ : ∃ p, rowAt k i = p := ⟨_, rfl⟩
    have EP : Hid (rowAt k i = p) := hpe
    rw [hpe] at c0 hp
    clear hpe
    have hi1 : (i : Int) < 8 := by omega
    have hi0 : (0 : Int) ≤ (i : Int) := by omega
    have hp1 : (p : Int) < 8 := by omega
    have hp0 : (0 : Int) ≤ (p : Int) := by omega
    have c1 := T1.out.key hp
    obtain ⟨x, hx⟩ : ∃ x, t.k p = x := ⟨_, rfl⟩
    have X : Hid (t.k p = x) := hx
    rw [hx] at c1
    clear hx
    by_cases hh : x = k ∨ x = 0
    · have PL : Hid (place t k = p) := by
        show place t k = p
        rw [← D.out, ← EP.out]
        cases hn : 7 - i with
        | zero => rfl
        | succ m => rw [plF, if_pos (show Hit t k (rowAt k i) by unfold Hit; rw [EP.out, X.out]; exact hh)]
      by_cases hk : x = k
      · have m1 : (x == k) = true := by simp [hk]
        clear hh hk
        go_wp2
        go_ret
        exact ⟨by rw [PL.out]; rfl, G1.out.2⟩
      · have h0' : x = 0 := hh.resolve_left hk
        have m1 : (x == k) = false := by simp [hk]
        have m0 : (x == 0) = true := by simp [h0']
        clear hh hk h0'
        go_wp2
        go_ret
        exact ⟨by rw [PL.out]; rfl, G1.out.2⟩
    · have NH : ¬ Hit t k (rowAt k i) := by unfold Hit; rw [EP.out, X.out]; exact hh
      have m1 : (x == k) = false := by simp; exact fun e => hh (Or.inl e)
      have m0 : (x == 0) = false := by simp; exact fun e => hh (Or.inr e)
      have h7 : i ≠ 7 := by
        intro e
        subst e
        have : place t k = rowAt k 7 := D.out.symm
        have := HH.out
        rw [‹place t k = rowAt k 7›] at this
        exact NH this
      have D' : Hid (plF t k (7 - (i + 1)) (i + 1) = place t k) := by
        have := D.out
        rw [show 7 - i = (7 - (i + 1)) + 1 by omega, plF, if_neg NH] at this
        exact this
      clear hh NH
      go_wp2
      go_roundg (8 - (i + 1))
      case measure => omega
      case rel => exact ⟨rfl, i + 1, by omega, by omega, by go_num, D'⟩
end Go.Proofs.YtgkgkiheoadbfaaGreatDoor.Tab
