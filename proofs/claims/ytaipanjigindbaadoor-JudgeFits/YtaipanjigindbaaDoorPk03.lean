/- Texts laid together: The reference's Thing.Cells, by its contract: a table; The reference's Thing.Cells, by its contract: a list; What a thing is: the words that it stands for (without ThingOf, which this road does not meet); Package stack's Do, by its contract; Package deque's front and Do, by their contracts; Package heap's rise and sink, by their contracts; Package heap's below and sink, by their contracts; Package heap's Do, by its contract; What a heap does, as lists: it stays one, and has just the same things; A tally: what is done with it, and package tally by its contract; What objects do, as words: facts of no program; Deeds as a function from numbers; what an object is behind some of them (no program); Rows of this program's types: faults, errors at a place, deeds; object.Is; the reference's Bare and. -/
import Derived.Test.YtaipanjigindbaaDoorPk02
import Derived.RegionTactic
import Derived.BigRegion
import Derived.Test.YtaipanjigindbaaDoorRows
import Derived.Test.YtaipanjigindbaaDoorPk00
import Derived.Test.YtaipanjigindbaaDoorPk01
namespace Go.Proofs.YtaipanjigindbaaDoor.Tab
set_option maxRecDepth 20000
open Go.RowKit
set_option linter.unusedVariables false

def twq (t : Tb) (i : Nat) : Nat → Nat := fun j => if j < 2 * i then tw t j else 0
theorem twq_zero (t : Tb) : wl (twq t 0) = wl wz := wl_congr fun j _ => by simp [twq, wz]
theorem twq_next (t : Tb) {i : Nat} (hi : i < 8) : wl (upw (upw (twq t i) (2 * i) (t.k i).toNat) (2 * i + 1) (t.v i).toNat) = wl (twq t (i + 1)) := by
  refine wl_congr fun j _ => ?_
  unfold upw twq tw
  by_cases e1 : j = 2 * i + 1
  · subst e1
    rw [if_pos rfl, if_pos (by omega), if_pos (by omega), if_neg (by omega), show (2 * i + 1) / 2 = i by omega]
  · rw [if_neg e1]
    by_cases e0 : j = 2 * i
    · subst e0
      rw [if_pos rfl, if_pos (by omega), if_pos (by omega), if_pos (by omega), show (2 * i) / 2 = i by omega]
    · rw [if_neg e0]
      by_cases h : j < 2 * i
      · have h2 : j < 2 * (i + 1) := by omega
        simp only [h, h2, if_true]
      · have h2 : ¬ j < 2 * (i + 1) := by omega
        simp only [h, h2, if_false]
theorem twq_all (t : Tb) : wl (twq t 8) = wl (tw t) := wl_congr fun j hj => by
  unfold twq
  by_cases h : j < 16
  · rw [if_pos (by omega)]
  · rw [if_neg (by omega)]; unfold tw; rw [if_neg h]

set_option maxHeartbeats 4000000 in
theorem Cells_5 (v : Value) (t : Tb) (x : Int) (hk : ∀ i, i < 8 → 0 ≤ t.k i ∧ t.k i ≤ 4294967295) (hv : ∀ i, i < 8 → 0 ≤ t.v i ∧ t.v i ≤ 4294967295) (w : World) :
    Calls Tryd.prog 21 #[.agg (tg 5 v t x).toArray] w fun e w' => Wd w.heap.size e w' (tw t) ∧ Below w.heap.size w w' := by
  obtain ⟨na, ea, hd⟩ := rslots_array
  have HD : Hid _ := hd
  clear hd
  have HS : Hid (∀ t : Tb, (Tryd.prog.info? 62).map (·.size) = some t.all.length) := rslots_size
  have HX : Hid (∀ i : Nat, i < 8 → ∀ w, (Instr.index 62 (.agg t.all.toArray) (.int .i64 (i : Nat))).run Tryd.prog w = .ok (.agg #[.int .i64 (t.k i), .int .i64 (t.v i)]) w) := rslot_at t
  have HK : Hid _ := hk
  have HV : Hid _ := hv
  clear hk hv
  have mk := mk17b w (.cells (tg 5 v t x).toArray 64)
  have S : Hid (Bo ((w.alloc (.cells (tg 5 v t x).toArray 64)).alloc (.cells (wl wz).toArray 29)) w.heap.size (tg 5 v t x)) := (Bo.born w (tg 5 v t x) _ rfl).new _
  have L : Hid (Bo ((w.alloc (.cells (tg 5 v t x).toArray 64)).alloc (.cells (wl wz).toArray 29)) (w.heap.size + 1) (wl (twq t 0))) := by rw [twq_zero]; exact Bo.born _ (wl wz) _ (by simp)
  have G : Hid (Gd w.heap.size w ((w.alloc (.cells (tg 5 v t x).toArray 64)).alloc (.cells (wl wz).toArray 29))) := ((Gd.refl w).new _).new _
  have c0 := S.out.tcell.1
  have NX : Hid _ := @twq_next t
  have AL : Hid _ := twq_all t
  have RG : Hid _ := S.out.slots
  generalize tg 5 v t x = th at mk L G c0 RG ⊢
  clear S
  obtain ⟨cs, hcs⟩ : ∃ cs, cs = t.all := ⟨_, rfl⟩
  rw [← hcs] at RG HX
  have HS1 : Hid ((Tryd.prog.info? 62).map (·.size) = some cs.length) := by rw [hcs]; exact HS.out t
  clear hcs HS
  go_enter Tryd.func21, Tryd.ntmps21
  go_wp2_with (refine wpList_load_mid rfl 62 _ rfl w.heap.size _ rfl cs _ RG.out HD.out rfl HS1.out ?_)
  clear mk c0
  generalize (w.alloc (.cells th.toArray 64)).alloc (.cells (wl wz).toArray 29) = W at G L RG ⊢
  generalize hsz : w.heap.size = n at G L RG ⊢
  have HSZ : Hid (w.heap.size = n) := hsz
  clear hsz RG
  go_loopg [36] 8 (fun gg s36 wt => ∃ i : Nat, i ≤ 8 ∧ 8 - i ≤ gg ∧ s36 = .int .i64 i ∧ Hid (Bo wt (n + 1) (wl (twq t i))) ∧ Hid (Gd n w wt))
  case atStart => exact ⟨0, by omega, by omega, rfl, L, G⟩
  case round =>
    clear L G
    obtain ⟨i, hi, hgg, rfl, L, G⟩ := hrel
    by_cases hlt : i < 8
    · have hx := HX.out i hlt
      have k0 := HK.out i hlt
      have v0 := HV.out i hlt
      have nx := NX.out hlt
      generalize t.k i = x at hx k0 nx
      generalize t.v i = y at hx v0 nx
      obtain ⟨a, rfl⟩ : ∃ a : Nat, (a : Int) = x := ⟨x.toNat, by omega⟩
      obtain ⟨b, rfl⟩ : ∃ b : Nat, (b : Int) = y := ⟨y.toNat, by omega⟩
      rw [Int.toNat_natCast, Int.toNat_natCast] at nx
      have NX1 : Hid _ := nx
      clear nx
      have ex1 : IntKind.u64.wrap (a : Int) = a := by rw [IntKind.wrap_u64]; omega
      have ey1 : IntKind.u64.wrap (b : Int) = b := by rw [IntKind.wrap_u64]; omega
      have i1 : (i : Int) < 8 := by omega
      have i0 : (0 : Int) ≤ (i : Int) := by omega
      have i2 : 2 * (i : Int) < 17 := by omega
      have i3 : 2 * (i : Int) + 1 < 17 := by omega
      have i4 : (0 : Int) ≤ 2 * (i : Int) := by omega
      have i5 : (0 : Int) ≤ 2 * (i : Int) + 1 := by omega
      have ls : n + 1 < wr.heap.size := L.out.lt
      have L1 : Hid (Bo (wr.alloc (.cells #[.int .i64 a, .int .i64 b] 60)) (n + 1) (wl (twq t i))) := L.out.new _
      have G1 : Hid (Gd n w (wr.alloc (.cells #[.int .i64 a, .int .i64 b] 60))) := G.out.new _
      have S1 : Hid (Bo (wr.alloc (.cells #[.int .i64 a, .int .i64 b] 60)) wr.heap.size [.int .i64 a, .int .i64 b]) := Bo.born wr [.int .i64 a, .int .i64 b] _ rfl
      clear L G k0 v0
      go_wp2_with fail
      generalize wr.alloc (.cells #[.int .i64 a, .int .i64 b] 60) = V at L1 G1 S1 ⊢
      have c0 := L1.out.word (show 2 * i < 17 by omega)
      have c1 := L1.out.word (show 2 * i + 1 < 17 by omega)
      have f0 := L1.out.froz (2 * i)
      have f1 := L1.out.froz (2 * i + 1)
      have s0 := S1.out.at 0 rfl
      have s1 := S1.out.at 1 rfl
      have ne : wr.heap.size ≠ n + 1 := by omega
      generalize wr.heap.size = q at S1 s0 s1 ne ⊢
      go_region
      all_goals go_wp2
      all_goals go_roundg (8 - (i + 1))
      case measure => omega
      case rel => exact ⟨i + 1, by omega, by omega, by go_num, by rw [← NX1.out]; exact (L1.out.drew.setw a (by omega)).setw b (by omega), (G1.out.drew.aside (show n ≤ n + 1 by omega) _).aside (show n ≤ n + 1 by omega) _⟩
    · have ei : i = 8 := by omega
      subst ei
      rw [AL.out] at L
      clear hlt
      go_wp2
      go_ret
      exact ⟨⟨n + 1, rfl, by have := HSZ.out; omega, L.out⟩, G.out.2⟩
end Go.Proofs.YtaipanjigindbaaDoor.Tab
namespace Go.Proofs.YtaipanjigindbaaDoor.Tab
set_option maxRecDepth 20000
open Go.RowKit
set_option linter.unusedVariables false

def lwq (l : List Int) (i : Nat) : Nat → Nat := fun j => if j = 0 then l.length else if j ≤ i then (l.getD (j - 1) 0).toNat else 0
theorem lwq_next (l : List Int) (i : Nat) : wl (upw (lwq l i) (1 + i) (l.getD i 0).toNat) = wl (lwq l (i + 1)) := by
  refine wl_congr fun j _ => ?_
  unfold upw lwq
  by_cases e : j = 1 + i
  · subst e
    rw [if_pos rfl, if_neg (by omega), if_pos (by omega), show 1 + i - 1 = i by omega]
  · rw [if_neg e]
    by_cases e0 : j = 0
    · rw [if_pos e0, if_pos e0]
    · rw [if_neg e0, if_neg e0]
      by_cases e1 : j ≤ i
      · rw [if_pos e1, if_pos (by omega)]
      · rw [if_neg e1, if_neg (by omega)]
theorem lwq_all (l : List Int) : wl (lwq l l.length) = wl (lw l) := by
  refine wl_congr fun j _ => ?_
  unfold lwq lw
  by_cases e0 : j = 0
  · rw [if_pos e0, if_pos e0]
  · rw [if_neg e0, if_neg e0]
    by_cases e1 : j ≤ l.length
    · rw [if_pos e1]
    · rw [if_neg e1, List.getD_eq_getElem?_getD, List.getElem?_eq_none (by omega)]; rfl
theorem lwq_zero (l : List Int) : wl (lwq l 0) = (wl wz).set 0 (.int .u64 (l.length : Nat)) := by
  rw [wl_set wz l.length (by decide)]
  refine wl_congr fun j _ => ?_
  unfold lwq upw wz
  by_cases e0 : j = 0
  · rw [if_pos e0, if_pos e0]
  · rw [if_neg e0, if_neg e0, if_neg (by omega)]

set_option maxHeartbeats 2000000 in
theorem Cells_list {B : Nat} {k : Int} (k5 : k ≠ 5) (k6 : k ≠ 6) {v : Value} {l : List Int} (t : Tb) (x : Int) {w : World} (h : IsL B w v l) (h6 : l.length ≤ 6) (hv : ∀ x ∈ l, 0 ≤ x ∧ x ≤ 4294967295) :
    Calls Tryd.prog 21 #[.agg (tg k v t x).toArray] w fun e w' => Wd w.heap.size e w' (lw l) ∧ Below w.heap.size w w' := by
  obtain ⟨a, c, rfl⟩ := h.form
  have HL : Hid (∀ i, i < l.length → ∃ b off, a = some ⟨b, off, none⟩ ∧ (∀ W, Below w.heap.size w W → W.cell? ⟨b, off + i, none⟩ = some (.int .i64 ((l.getD i 0).toNat : Nat)))) := fun i hi => by
    rcases h with ⟨rfl, _⟩ | ⟨b, off, c, h1, hB, h0, hc, hcell, _⟩
    · simp at hi
    · injection h1 with h1 _ _
      refine ⟨b, off, h1, fun W hW => ?_⟩
      have hx := hv (l.getD i 0) (by rw [List.getD_eq_getElem?_getD, List.getElem?_eq_getElem hi]; exact List.getElem_mem hi)
      rw [hW.cell (p := ⟨b, off + i, none⟩) (World.block_lt_of_cell? _ _ (hcell i hi)), hcell i hi]
      congr 2; omega
  have HX : Hid (∀ i, i < l.length → (l.getD i 0).toNat ≤ 4294967295) := fun i hi => by
    have hx := hv (l.getD i 0) (by rw [List.getD_eq_getElem?_getD, List.getElem?_eq_getElem hi]; exact List.getElem_mem hi)
    omega
  clear hv h
  have LZ : Hid _ := lwq_zero l
  obtain ⟨N, hN⟩ : ∃ N, l.length = N := ⟨_, rfl⟩
  have HN : Hid (l.length = N) := hN
  have m5 : (k == 5) = false := by simp [k5]
  have m6 : (k == 6) = false := by simp [k6]
  rw [hN] at HL HX LZ h6 ⊢
  clear k5 k6 hN
  have mk := mk17b w (.cells (tg k (.slice a N c) t x).toArray 64)
  have S0 : Hid (Bo ((w.alloc (.cells (tg k (.slice a N c) t x).toArray 64)).alloc (.cells (wl wz).toArray 29)) w.heap.size (tg k (.slice a N c) t x)) := (Bo.born w (tg k (.slice a N c) t x) _ rfl).new _
  have T0 : Hid (Bo ((w.alloc (.cells (tg k (.slice a N c) t x).toArray 64)).alloc (.cells (wl wz).toArray 29)) (w.heap.size + 1) (wl wz)) := Bo.born _ (wl wz) _ (by simp)
  have S1 : Hid (Bo ((w.alloc (.cells (tg k (.slice a N c) t x).toArray 64)).alloc (.cells ((wl wz).set 0 (.int .u64 N)).toArray 29)) w.heap.size (tg k (.slice a N c) t x)) := (Bo.born w (tg k (.slice a N c) t x) _ rfl).new _
  have T1 : Hid (Bo ((w.alloc (.cells (tg k (.slice a N c) t x).toArray 64)).alloc (.cells ((wl wz).set 0 (.int .u64 N)).toArray 29)) (w.heap.size + 1) (wl (lwq l 0))) := by
    rw [LZ.out]; exact Bo.born _ _ _ (by simp)
  have G1 : Hid (Gd w.heap.size w ((w.alloc (.cells (tg k (.slice a N c) t x).toArray 64)).alloc (.cells ((wl wz).set 0 (.int .u64 N)).toArray 29))) := ((Gd.refl w).new _).new _
  have c0 := S0.out.tcell.1
  have c1 := S0.out.tcell.2.1
  have c2 := S1.out.tcell.2.1
  have d0 := T0.out.word (show 0 < 17 by decide)
  have d1 := T0.out.froz 0
  have ew : IntKind.u64.wrap (N : Int) = N := by rw [IntKind.wrap_u64]; omega
  go_enter Tryd.func21, Tryd.ntmps21
  go_wp2_with fail
  clear c0 c1 c2 d0 d1 S0 T0 mk
  generalize (w.alloc (.cells (tg k (.slice a N c) t x).toArray 64)).alloc (.cells ((wl wz).set 0 (.int .u64 N)).toArray 29) = W at S1 T1 G1 ⊢
  generalize hsz : w.heap.size = n at S1 T1 G1 ⊢
  have HSZ : Hid (w.heap.size = n) := hsz
  clear hsz
  go_loopg [20] N (fun gg s20 wt => ∃ i : Nat, i ≤ N ∧ N - i ≤ gg ∧ s20 = .int .i64 i ∧ Hid (Bo wt (n + 1) (wl (lwq l i))) ∧ Hid (Bo wt n (tg k (.slice a N c) t x)) ∧ Hid (Gd n w wt))
  case atStart => exact ⟨0, by omega, by omega, rfl, T1, S1, G1⟩
  case round =>
    clear T1 S1 G1
    obtain ⟨i, hi, hgg, rfl, T, S, G⟩ := hrel
    by_cases hlt : i < N
    · obtain ⟨b, off, rfl, hc⟩ := HL.out i hlt
      have c0 := hc wr G.out.2
      have NX : Hid _ := lwq_next l i
      have e1 := T.out.word (show 1 + i < 17 by omega)
      have f1 := T.out.froz (1 + i)
      have j1 : (i : Int) + 1 < 17 := by omega
      have j0 : (0 : Int) ≤ (i : Int) + 1 := by omega
      have i1 : (i : Int) < (N : Int) := by omega
      have i0 : (0 : Int) ≤ (i : Int) := by omega
      have T1 : Hid (Bo (wr.setCell ⟨n + 1, 1 + i, none⟩ (.int .u64 ((l.getD i 0).toNat : Nat))) (n + 1) (wl (lwq l (i + 1)))) := by
        rw [← NX.out]; exact T.out.setw _ (by omega)
      have S1 : Hid (Bo (wr.setCell ⟨n + 1, 1 + i, none⟩ (.int .u64 ((l.getD i 0).toNat : Nat))) n (tg k (.slice (some ⟨b, off, none⟩) N c) t x)) := S.out.aside (by simp) _
      have G1 : Hid (Gd n w (wr.setCell ⟨n + 1, 1 + i, none⟩ (.int .u64 ((l.getD i 0).toNat : Nat)))) := G.out.aside (by simp) _
      have hx : (l.getD i 0).toNat ≤ 4294967295 := HX.out i hlt
      rw [Nat.add_comm 1 i] at e1 f1 T1 S1 G1
      clear hc NX T S G
      generalize lwq l i (i + 1) = z at e1
      generalize (l.getD i 0).toNat = y at c0 T1 S1 G1 hx
      have ew2 : IntKind.u64.wrap (y : Int) = y := by rw [IntKind.wrap_u64]; omega
      go_wp2
      go_roundg (N - (i + 1))
      case measure => omega
      case rel => exact ⟨i + 1, by omega, by omega, by go_num, T1, S1, G1⟩
    · have ei : i = N := by omega
      have LA := lwq_all l
      rw [HN.out, ← ei] at LA
      rw [LA] at T
      clear LA
      go_wp2
      go_ret
      exact ⟨⟨n + 1, rfl, by have := HSZ.out; omega, T.out⟩, G.out.2⟩
end Go.Proofs.YtaipanjigindbaaDoor.Tab
namespace Go.Proofs.YtaipanjigindbaaDoor.Tab
set_option maxRecDepth 20000
open Go.RowKit
set_option linter.unusedVariables false

/-- What a thing that words are is, as it lies. -/
theorem rwK (kind : Int) : Rw Tryd.prog 64 [.int .i64 kind, .slice none 0 0, .int .i64 0, .int .i64 0, .int .i64 0, .int .i64 0, .int .i64 0, .int .i64 0, .int .i64 0, .int .i64 0, .int .i64 0, .int .i64 0, .int .i64 0, .int .i64 0, .int .i64 0, .int .i64 0, .int .i64 0, .int .i64 0, .int .i64 0] := by rw [← tg_nil]; exact rwTh kind rfl _ _
structure Th (B : Nat) (w : World) (kind : Int) (c : Nat → Nat) (v : Value) (t : Tb) (x : Int) : Prop where
  list : kind ≤ 4 → IsL B w v (lst c) ∧ t = Tb.zero ∧ x = 0
  table : kind = 5 → v = .slice none 0 0 ∧ t.all = (tbl c).all ∧ x = 0
  tally : kind = 6 → v = .slice none 0 0 ∧ t = Tb.zero ∧ x = (c 0 : Nat)

theorem lw_iff {c : Nat → Nat} (h6 : c 0 ≤ 6) (hm : ∀ j, j < 17 → c j ≤ 4294967295) : (∀ j, j < 17 → lw (lst c) j = c j) ↔ WList c := by
  constructor
  · intro h
    refine ⟨h6, fun i _ hi => hm i (by omega), fun i h1 h2 => ?_⟩
    rw [← h i h2]
    unfold lw
    rw [if_neg (by omega), List.getD_eq_getElem?_getD, List.getElem?_eq_none (by rw [lst_length]; omega)]; rfl
  · exact lw_lst
theorem tw_iff {c : Nat → Nat} : (∀ j, j < 17 → tw (tbl c) j = c j) ↔ c 16 = 0 := by
  constructor
  · intro h
    rw [← h 16 (by decide)]; rfl
  · intro h j hj
    unfold tw tbl
    by_cases e : j < 16
    · rw [if_pos e]
      by_cases e2 : j % 2 = 0
      · rw [if_pos e2]; simp only [Int.toNat_natCast]; congr 1; omega
      · rw [if_neg e2]; simp only [Int.toNat_natCast]; congr 1; omega
    · rw [if_neg e, show j = 16 by omega, h]
theorem tyw_iff {c : Nat → Nat} : (∀ j, j < 17 → tyw (c 0 : Nat) j = c j) ↔ ∀ j, 1 ≤ j → j < 17 → c j = 0 := by
  constructor
  · intro h j h1 h2
    rw [← h j h2]; unfold tyw; rw [if_neg (by omega)]
  · intro h j hj
    unfold tyw
    by_cases e : j = 0
    · subst e; rw [if_pos rfl]; exact Int.toNat_natCast _
    · rw [if_neg e, h j (by omega) hj]

end Go.Proofs.YtaipanjigindbaaDoor.Tab
namespace Go.Proofs.YtaipanjigindbaaDoor
set_option maxRecDepth 20000
open Go.RowKit

/-- What an operation makes of a stack, and its answer: 6.1. -/
def sdo (xs : List Int) (what value : Int) : List Int × Int × Int :=
  if what = 2 ∧ xs ≠ [] then (xs.dropLast, 1, xs.getLastD 0) else if what = 5 ∧ xs ≠ [] then (xs, 1, xs.getLastD 0) else qdo xs what value
theorem sdo_take (r : List Int) (z x : Int) : sdo (r ++ [z]) 2 x = (r, 1, z) := by simp [sdo]
theorem sdo_peek (r : List Int) (z x : Int) : sdo (r ++ [z]) 5 x = (r ++ [z], 1, z) := by simp [sdo]
theorem sdo_nil (o x : Int) : sdo [] o x = qdo [] o x := by simp [sdo]
theorem sdo_other (xs : List Int) (o x : Int) (h2 : o ≠ 2) (h5 : o ≠ 5) : sdo xs o x = qdo xs o x := by simp [sdo, h2, h5]
theorem sdo_full {ys : List Int} (x : Int) (h : 6 ≤ ys.length) : sdo ys 1 x = (ys, 3, 0) := by simp [sdo, qdo, h]
theorem sdo_put {ys : List Int} (x : Int) (h : ys.length < 6) : sdo ys 1 x = (ys ++ [x], 1, 0) := by simp [sdo, qdo, show ¬ 6 ≤ ys.length by omega]
theorem sdo_count (ys : List Int) (x : Int) : sdo ys 6 x = (ys, 1, (ys.length : Int)) := by simp [sdo, qdo]
theorem sdo_looks (ys : List Int) : ∃ r c y, sdo ys 5 0 = (ys, c, y) ∧ sdo ys 2 0 = (r, c, y) := by
  rcases List.eq_nil_or_concat ys with rfl | ⟨r, z, rfl⟩
  · exact ⟨[], 2, 0, rfl, rfl⟩
  · exact ⟨r, 1, z, by rw [List.concat_eq_append]; exact sdo_peek r z 0, by rw [List.concat_eq_append]; exact sdo_take r z 0⟩

set_option maxHeartbeats 1000000 in
theorem sDo_else {B : Nat} {v : Value} {xs ys : List Int} {w : World} {o x c y : Int} (k : Int) (h : IsL B w v xs) (hx : xs.length ≤ 1000000) (ho : xs.length = 0 ∨ (o ≠ 2 ∧ o ≠ 5)) (hq : qdo xs o x = (ys, c, y)) :
    Calls Tryd.prog 53 #[v, .agg #[.int .i64 o, .int .i64 k, .int .i64 x]] w (Made w ys c y) := by
  have F0 : Hid (Fr w (two w o k x) o k x) := Fr.start w o k x
  obtain ⟨a, cp, rfl⟩ := h.form
  have X : Hid (IsL B (two w o k x) (.slice a xs.length cp) xs) := h.later F0.out.gr
  have Q : Hid (qdo xs o x = (ys, c, y)) := hq
  clear h hq
  rcases ho with h0 | ⟨n2, n5⟩
  · have H0 : Hid (xs.length ≤ 1000000) := hx
    rw [h0] at X ⊢
    clear h0 hx
    go_enter Tryd.func53, Tryd.ntmps53
    go_wp2_with fail
    refine (qDo_eq (w := two w o k x) k X.out H0.out Q.out).mono ?_
    rintro e w1 ⟨v1, rfl, hi, hb⟩
    rw [two_size] at hi hb
    have F1 : Hid (Fr w w1 o k x) := F0.out.later hb
    have I1 : Hid (IsL (w.heap.size + 2) w1 v1 ys) := hi
    clear hi hb F0 X Q
    have r0 := F1.out.r0
    have r1 := F1.out.r1
    have f0 := F1.out.f0
    have f1 := F1.out.f1
    go_wp2
    refine bodyPost_ret (v := .tuple #[v1, .agg #[.int .i64 c, .int .i64 y]]) ?_ rfl (F1.out.made c y I1.out)
    have E := F1.out.ends c y
    unfold wr at E
    simp [results, Tryd.results53, go_sem, E.1, E.2.1]
  · have m2 : (o != 2) = true := by simp [n2]
    have m5 : (o != 5) = true := by simp [n5]
    have hp : 0 ≤ (xs.length : Int) := by omega
    go_enter Tryd.func53, Tryd.ntmps53
    go_wp2_with fail
    all_goals
      refine (qDo_eq (w := two w o k x) k X.out hx Q.out).mono ?_
      rintro e w1 ⟨v1, rfl, hi, hb⟩
      rw [two_size] at hi hb
      have F1 : Hid (Fr w w1 o k x) := F0.out.later hb
      have I1 : Hid (IsL (w.heap.size + 2) w1 v1 ys) := hi
      clear hi hb F0 X Q
      have r0 := F1.out.r0
      have r1 := F1.out.r1
      have f0 := F1.out.f0
      have f1 := F1.out.f1
      go_wp2
      refine bodyPost_ret (v := .tuple #[v1, .agg #[.int .i64 c, .int .i64 y]]) ?_ rfl (F1.out.made c y I1.out)
      have E := F1.out.ends c y
      unfold wr at E
      simp [results, Tryd.results53, go_sem, E.1, E.2.1]

theorem Fr.made3 {w W : World} {o k x : Int} {v : Value} {ys : List Int} (h : Fr w W o k x) (c y : Int) (I : IsL (w.heap.size + 2) W v ys) : Made w ys c y (.returned (.tuple #[v, .agg #[.int .i64 c, .int .i64 y]])) (wr w W c y).drew :=
  ⟨v, rfl, (I.wr c y).later (Below.refl _ _).drew, (h.ends c y).2.2.drew⟩

set_option maxHeartbeats 1000000 in
theorem sDo_take {B : Nat} {v : Value} {r : List Int} {z : Int} {w : World} (k x : Int) (h : IsL B w v (r ++ [z])) (hx : (r ++ [z]).length ≤ 1000000) :
    Calls Tryd.prog 53 #[v, .agg #[.int .i64 2, .int .i64 k, .int .i64 x]] w (Made w r 1 z) := by
  have F0 : Hid (Fr w (two w 2 k x) 2 k x) := Fr.start w 2 k x
  have X : Hid (IsL B (two w 2 k x) v (r ++ [z])) := h.later F0.out.gr
  have HX : Hid ((r ++ [z]).length ≤ 1000000) := hx
  rcases h with ⟨h, _⟩ | ⟨b, off, c, rfl, hB, h0, hc, hcell, _⟩
  · simp at h
  have hz : w.cell? ⟨b, off + r.length, none⟩ = some (.int .i64 z) := by
    rw [hcell r.length (by simp)]
    simp [List.getD]
  have Z : Hid (w.cell? ⟨b, off + r.length, none⟩ = some (.int .i64 z)) := hz
  have hbl : b < w.heap.size := World.block_lt_of_cell? _ _ hz
  clear hz hcell
  have en : (r ++ [z]).length = r.length + 1 := by simp
  rw [en] at h0 hc hx X ⊢
  clear en
  obtain ⟨m, hm⟩ : ∃ m, m = r.length := ⟨_, rfl⟩
  have M : Hid (r.length = m) := hm.symm
  rw [← hm] at h0 hc hx X Z ⊢
  clear hm
  go_enter Tryd.func53, Tryd.ntmps53
  go_wp2_with fail
  refine (Clone_is (w := two w 2 k x) X.out HX.out).mono ?_
  rintro e w1 ⟨v1, rfl, hown, hb⟩
  rw [two_size] at hown hb
  have F1 : Hid (Fr w w1 2 k x) := F0.out.later hb
  obtain ⟨g, off1, c1, rfl, hc1, hcut⟩ := hown.isL.cut (by simp)
  have I0 : Hid (IsL (w.heap.size + 2) w1 (.slice (some ⟨g, off1, none⟩) (r.length + [z].length) c1) (r ++ [z])) := hown.isL
  have I1 : Hid (IsL (w.heap.size + 2) w1 (.slice (some ⟨g, off1, none⟩) r.length c1) r) := hcut
  have hz1 : w1.cell? ⟨b, off + m, none⟩ = some (.int .i64 z) := by
    have h1 : (two w 2 k x).cell? ⟨b, off + m, none⟩ = some (.int .i64 z) := by rw [F0.out.gr.cell (p := ⟨b, off + m, none⟩) hbl]; exact Z.out
    rw [hb.cell (p := ⟨b, off + m, none⟩) (show b < w.heap.size + 2 by omega)]
    exact h1
  have el : r.length + [z].length = m + 1 := by rw [M.out]; rfl
  rw [el] at hc1 I0 ⊢
  rw [M.out] at I1
  clear hown hcut hb F0 X Z el
  have hcm : (m : Int) ≤ (c1 : Int) := by omega
  have o0 := F1.out.o0
  have r0 := F1.out.r0
  have r1 := F1.out.r1
  have f0 := F1.out.f0
  have f1 := F1.out.f1
  go_wp2_with fail
  go_region
  all_goals go_wp2
  refine bodyPost_ret (v := .tuple #[.slice (some ⟨g, off1, none⟩) m c1, .agg #[.int .i64 1, .int .i64 z]]) ?_ rfl (F1.out.made3 1 z I1.out)
  have E := F1.out.ends 1 z
  unfold wr at E
  simp [results, Tryd.results53, go_sem, E.1, E.2.1]

set_option maxHeartbeats 1000000 in
theorem sDo_peek {B : Nat} {v : Value} {r : List Int} {z : Int} {w : World} (k x : Int) (h : IsL B w v (r ++ [z])) (hx : (r ++ [z]).length ≤ 1000000) :
    Calls Tryd.prog 53 #[v, .agg #[.int .i64 5, .int .i64 k, .int .i64 x]] w (Made w (r ++ [z]) 1 z) := by
  have F0 : Hid (Fr w (two w 5 k x) 5 k x) := Fr.start w 5 k x
  have X : Hid (IsL B (two w 5 k x) v (r ++ [z])) := h.later F0.out.gr
  have HX : Hid ((r ++ [z]).length ≤ 1000000) := hx
  rcases h with ⟨h, _⟩ | ⟨b, off, c, rfl, hB, h0, hc, hcell, _⟩
  · simp at h
  have hz : w.cell? ⟨b, off + r.length, none⟩ = some (.int .i64 z) := by
    rw [hcell r.length (by simp)]
    simp [List.getD]
  have Z : Hid (w.cell? ⟨b, off + r.length, none⟩ = some (.int .i64 z)) := hz
  have hbl : b < w.heap.size := World.block_lt_of_cell? _ _ hz
  clear hz hcell
  have en : (r ++ [z]).length = r.length + 1 := by simp
  rw [en] at h0 hc hx X ⊢
  clear en
  obtain ⟨m, hm⟩ : ∃ m, m = r.length := ⟨_, rfl⟩
  have M : Hid (r.length = m) := hm.symm
  rw [← hm] at h0 hc hx X Z ⊢
  clear hm
  go_enter Tryd.func53, Tryd.ntmps53
  go_wp2_with fail
  refine (Clone_is (w := two w 5 k x) X.out HX.out).mono ?_
  rintro e w1 ⟨v1, rfl, hown, hb⟩
  rw [two_size] at hown hb
  have F1 : Hid (Fr w w1 5 k x) := F0.out.later hb
  obtain ⟨g, off1, c1, rfl, hc1, hcut⟩ := hown.isL.cut (by simp)
  have I0 : Hid (IsL (w.heap.size + 2) w1 (.slice (some ⟨g, off1, none⟩) (r.length + [z].length) c1) (r ++ [z])) := hown.isL
  have I1 : Hid (IsL (w.heap.size + 2) w1 (.slice (some ⟨g, off1, none⟩) r.length c1) r) := hcut
  have hz1 : w1.cell? ⟨b, off + m, none⟩ = some (.int .i64 z) := by
    have h1 : (two w 5 k x).cell? ⟨b, off + m, none⟩ = some (.int .i64 z) := by rw [F0.out.gr.cell (p := ⟨b, off + m, none⟩) hbl]; exact Z.out
    rw [hb.cell (p := ⟨b, off + m, none⟩) (show b < w.heap.size + 2 by omega)]
    exact h1
  have el : r.length + [z].length = m + 1 := by rw [M.out]; rfl
  rw [el] at hc1 I0 ⊢
  rw [M.out] at I1
  clear hown hcut hb F0 X Z el
  have hcm : (m : Int) ≤ (c1 : Int) := by omega
  have o0 := F1.out.o0
  have r0 := F1.out.r0
  have r1 := F1.out.r1
  have f0 := F1.out.f0
  have f1 := F1.out.f1
  go_wp2_with fail
  go_region
  all_goals go_wp2
  refine bodyPost_ret (v := .tuple #[.slice (some ⟨g, off1, none⟩) (m + 1) c1, .agg #[.int .i64 1, .int .i64 z]]) ?_ rfl (F1.out.made3 1 z I0.out)
  have E := F1.out.ends 1 z
  unfold wr at E
  simp [results, Tryd.results53, go_sem, E.1, E.2.1]

theorem sDo_eq {B : Nat} {v : Value} {xs ys : List Int} {w : World} {o x c y : Int} (k : Int) (h : IsL B w v xs) (hx : xs.length ≤ 1000000) (hq : sdo xs o x = (ys, c, y)) :
    Calls Tryd.prog 53 #[v, .agg #[.int .i64 o, .int .i64 k, .int .i64 x]] w (Made w ys c y) := by
  rcases List.eq_nil_or_concat xs with rfl | ⟨r, z, rfl⟩
  · rw [sdo_nil] at hq
    exact sDo_else k h hx (Or.inl rfl) hq
  · rw [List.concat_eq_append] at h hx hq
    by_cases n2 : o = 2
    · subst n2
      rw [sdo_take] at hq
      simp only [Prod.mk.injEq] at hq
      obtain ⟨rfl, rfl, rfl⟩ := hq
      exact sDo_take k x h hx
    by_cases n5 : o = 5
    · subst n5
      rw [sdo_peek] at hq
      simp only [Prod.mk.injEq] at hq
      obtain ⟨rfl, rfl, rfl⟩ := hq
      exact sDo_peek k x h hx
    · rw [sdo_other _ _ _ n2 n5] at hq
      exact sDo_else k h hx (Or.inr ⟨n2, n5⟩) hq
end Go.Proofs.YtaipanjigindbaaDoor
namespace Go.Proofs.YtaipanjigindbaaDoor
set_option maxRecDepth 20000
open Go.RowKit

/-- What an operation makes of a deque, and its answer: 7.1. -/
def ddo (xs : List Int) (what value : Int) : List Int × Int × Int :=
  if what = 3 then (if 6 ≤ xs.length then (xs, 3, 0) else (value :: xs, 1, 0)) else if what = 4 then sdo xs 2 0 else qdo xs what value

set_option maxHeartbeats 1000000 in
theorem front_full {B : Nat} {v : Value} {xs : List Int} {w : World} (x : Int) (h : IsL B w v xs) (hx : xs.length ≤ 1000000) (h6 : 6 ≤ xs.length) :
    Calls Tryd.prog 76 #[v, .int .i64 x] w (Made w xs 3 0) := by
  obtain ⟨a, c, rfl⟩ := h.form
  have h6i : (6 : Int) ≤ (xs.length : Int) := by omega
  have B0 : Hid (Bx w.heap.size 0 0 (w.alloc (.cells #[.int .i64 0, .int .i64 0] 49))) := Bx.born w 0 0 _
  have G0 : Hid (Gd w (w.alloc (.cells #[.int .i64 0, .int .i64 0] 49))) := (Gd.refl w).new _
  have X : Hid (IsL B (w.alloc (.cells #[.int .i64 0, .int .i64 0] 49)) (.slice a xs.length c) xs) := h.new _
  clear h
  go_enter Tryd.func76, Tryd.ntmps76
  go_wp2_with fail
  refine (Clone_is X.out hx).mono ?_
  rintro e w1 ⟨v1, rfl, hown, hb⟩
  have B1 : Hid (Bx w.heap.size 0 0 w1) := B0.out.later hb
  have G1 : Hid (Gd w w1) := G0.out.later hb
  have I1 : Hid (IsL (w.heap.size + 1) w1 v1 xs) := hown.isL.mono (by simp)
  clear hown hb B0 G0 X
  have c0 := B1.out.c0
  have c1 := B1.out.c1
  have f0 := B1.out.f0
  have f1 := B1.out.f1
  go_wp2
  obtain ⟨E, G⟩ := B1.out.put (c' := 3) (y' := 0) (Nat.le_refl _) G1.out
  refine bodyPost_ret (v := .tuple #[v1, .agg #[.int .i64 3, .int .i64 0]]) ?_ rfl ⟨v1, rfl, (((I1.out.setCell (by simp) _).setCell (by simp) _).mono (by omega)), G⟩
  have d0 := E.c0
  have d1 := E.c1
  simp [results, Tryd.results76, go_sem, d0, d1]

theorem pair_at (u : World) (p q : Value) (t : TypeId) {n : Nat} (h : n = u.heap.size) : (u.alloc (.cells #[p, q] t)).cell? ⟨n, 0, none⟩ = some p ∧ (u.alloc (.cells #[p, q] t)).cell? ⟨n, 1, none⟩ = some q := by
  subst h
  exact ⟨by simp, by simp⟩

set_option maxHeartbeats 1000000 in
theorem front_room {B : Nat} {v : Value} {xs : List Int} {w : World} (x : Int) (h : IsL B w v xs) (h6 : xs.length < 6) :
    Calls Tryd.prog 76 #[v, .int .i64 x] w (Made w (x :: xs) 1 0) := by
  obtain ⟨a, c, rfl⟩ := h.form
  have h6i : (xs.length : Int) < 6 := by omega
  obtain ⟨W, hW⟩ : ∃ W, W = ((w.alloc (.cells #[.int .i64 0, .int .i64 0] 49)).alloc (.cells #[.int .i64 x] 3)).alloc (.cells #[.slice (some ⟨w.heap.size + 1, 0, none⟩) 1 1, .slice a xs.length c] 58) := ⟨_, rfl⟩
  have B0 : Hid (Bx w.heap.size 0 0 W) := by rw [hW]; exact ((Bx.born w 0 0 _).new _).new _
  have G0 : Hid (Gd w W) := by rw [hW]; exact (((Gd.refl w).new _).new _).new _
  have X : Hid (IsL B W (.slice a xs.length c) xs) := by rw [hW]; exact ((h.new _).new _).new _
  have L : Hid (IsL 0 W (.slice (some ⟨w.heap.size + 1, 0, none⟩) 1 1) [x]) := by rw [hW]; exact (IsL.litAt (w.alloc (.cells #[.int .i64 0, .int .i64 0] 49)) [x] (by simp) (by simp)).new _
  have j0 : W.cell? ⟨w.heap.size + 2, 0, none⟩ = some (.slice (some ⟨w.heap.size + 1, 0, none⟩) 1 1) := by rw [hW]; exact (pair_at _ _ _ _ (by simp)).1
  have j1 : W.cell? ⟨w.heap.size + 2, 1, none⟩ = some (.slice a xs.length c) := by rw [hW]; exact (pair_at _ _ _ _ (by simp)).2
  have k0 : Hid (W.cell? ⟨w.heap.size + 2, 0, none⟩ = some (.slice (some ⟨w.heap.size + 1, 0, none⟩) 1 1)) := j0
  have k1 : Hid (W.cell? ⟨w.heap.size + 2, 1, none⟩ = some (.slice a xs.length c)) := j1
  have Z : Hid (w.heap.size + 1 ≤ W.heap.size) := show _ ≤ _ by rw [hW]; simp
  have hx : Hid ([x].length + xs.length ≤ 1000000) := show _ ≤ _ by simp; omega
  clear h h6 j0 j1
  go_enter Tryd.func76, Tryd.ntmps76
  go_wp2_with fail
  rw [← hW]
  clear hW
  refine (Concat_two k0.out k1.out L.out X.out (by simp) hx.out).mono ?_
  rintro e w1 ⟨v1, rfl, hown, hb⟩
  have B1 : Hid (Bx w.heap.size 0 0 w1) := B0.out.later hb
  have G1 : Hid (Gd w w1) := G0.out.later hb
  have I1 : Hid (IsL (w.heap.size + 1) w1 v1 (x :: xs)) := hown.isL.mono Z.out
  clear hown hb B0 G0 X L k0 k1 Z
  have c0 := B1.out.c0
  have c1 := B1.out.c1
  have f0 := B1.out.f0
  have f1 := B1.out.f1
  go_wp2
  obtain ⟨E, G⟩ := B1.out.put (c' := 1) (y' := 0) (Nat.le_refl _) G1.out
  refine bodyPost_ret (v := .tuple #[v1, .agg #[.int .i64 1, .int .i64 0]]) ?_ rfl ⟨v1, rfl, (((I1.out.setCell (by simp) _).setCell (by simp) _).mono (by omega)), G⟩
  have d0 := E.c0
  have d1 := E.c1
  simp [results, Tryd.results76, go_sem, d0, d1]

theorem front_is {B : Nat} {v : Value} {xs ys : List Int} {w : World} {x c y : Int} (h : IsL B w v xs) (hx : xs.length ≤ 1000000) (hd : ddo xs 3 x = (ys, c, y)) :
    Calls Tryd.prog 76 #[v, .int .i64 x] w (Made w ys c y) := by
  by_cases h6 : 6 ≤ xs.length
  · simp [ddo, h6] at hd
    obtain ⟨rfl, rfl, rfl⟩ := hd
    exact front_full x h hx h6
  · simp [ddo, h6] at hd
    obtain ⟨rfl, rfl, rfl⟩ := hd
    exact front_room x h (by omega)

set_option maxHeartbeats 1000000 in
theorem dDo_front {B : Nat} {v : Value} {xs ys : List Int} {w : World} {x c y : Int} (k : Int) (h : IsL B w v xs) (hx : xs.length ≤ 1000000) (hd : ddo xs 3 x = (ys, c, y)) :
    Calls Tryd.prog 54 #[v, .agg #[.int .i64 3, .int .i64 k, .int .i64 x]] w (Made w ys c y) := by
  have F0 : Hid (Fr w (two w 3 k x) 3 k x) := Fr.start w 3 k x
  have X : Hid (IsL B (two w 3 k x) v xs) := h.later F0.out.gr
  have Q : Hid (ddo xs 3 x = (ys, c, y)) := hd
  clear h hd
  go_enter Tryd.func54, Tryd.ntmps54
  go_wp2_with fail
  refine (front_is (w := two w 3 k x) X.out hx Q.out).mono ?_
  rintro e w1 ⟨v1, rfl, hi, hb⟩
  rw [two_size] at hi hb
  have F1 : Hid (Fr w w1 3 k x) := F0.out.later hb
  have I1 : Hid (IsL (w.heap.size + 2) w1 v1 ys) := hi
  clear hi hb F0 X Q
  have r0 := F1.out.r0
  have r1 := F1.out.r1
  have f0 := F1.out.f0
  have f1 := F1.out.f1
  go_wp2
  refine bodyPost_ret (v := .tuple #[v1, .agg #[.int .i64 c, .int .i64 y]]) ?_ rfl (F1.out.made c y I1.out)
  have E := F1.out.ends c y
  unfold wr at E
  simp [results, Tryd.results54, go_sem, E.1, E.2.1]

set_option maxHeartbeats 1000000 in
theorem dDo_back {B : Nat} {v : Value} {xs ys : List Int} {w : World} {c y : Int} (k x : Int) (h : IsL B w v xs) (hx : xs.length ≤ 1000000) (hd : sdo xs 2 0 = (ys, c, y)) :
    Calls Tryd.prog 54 #[v, .agg #[.int .i64 4, .int .i64 k, .int .i64 x]] w (Made w ys c y) := by
  have F0 : Hid (Fr w (two w 4 k x) 4 k x) := Fr.start w 4 k x
  have X : Hid (IsL B (two w 4 k x) v xs) := h.later F0.out.gr
  have Q : Hid (sdo xs 2 0 = (ys, c, y)) := hd
  clear h hd
  go_enter Tryd.func54, Tryd.ntmps54
  go_wp2_with fail
  refine (sDo_eq (w := two w 4 k x) 0 X.out hx Q.out).mono ?_
  rintro e w1 ⟨v1, rfl, hi, hb⟩
  rw [two_size] at hi hb
  have F1 : Hid (Fr w w1 4 k x) := F0.out.later hb
  have I1 : Hid (IsL (w.heap.size + 2) w1 v1 ys) := hi
  clear hi hb F0 X Q
  have r0 := F1.out.r0
  have r1 := F1.out.r1
  have f0 := F1.out.f0
  have f1 := F1.out.f1
  go_wp2
  refine bodyPost_ret (v := .tuple #[v1, .agg #[.int .i64 c, .int .i64 y]]) ?_ rfl (F1.out.made c y I1.out)
  have E := F1.out.ends c y
  unfold wr at E
  simp [results, Tryd.results54, go_sem, E.1, E.2.1]

set_option maxHeartbeats 1000000 in
theorem dDo_else {B : Nat} {v : Value} {xs ys : List Int} {w : World} {o x c y : Int} (k : Int) (h : IsL B w v xs) (hx : xs.length ≤ 1000000) (n3 : o ≠ 3) (n4 : o ≠ 4) (hd : qdo xs o x = (ys, c, y)) :
    Calls Tryd.prog 54 #[v, .agg #[.int .i64 o, .int .i64 k, .int .i64 x]] w (Made w ys c y) := by
  have F0 : Hid (Fr w (two w o k x) o k x) := Fr.start w o k x
  have X : Hid (IsL B (two w o k x) v xs) := h.later F0.out.gr
  have Q : Hid (qdo xs o x = (ys, c, y)) := hd
  clear h hd
  have m3 : (o == 3) = false := by simp [n3]
  have m4 : (o == 4) = false := by simp [n4]
  go_enter Tryd.func54, Tryd.ntmps54
  go_wp2_with fail
  refine (qDo_eq (w := two w o k x) k X.out hx Q.out).mono ?_
  rintro e w1 ⟨v1, rfl, hi, hb⟩
  rw [two_size] at hi hb
  have F1 : Hid (Fr w w1 o k x) := F0.out.later hb
  have I1 : Hid (IsL (w.heap.size + 2) w1 v1 ys) := hi
  clear hi hb F0 X Q
  have r0 := F1.out.r0
  have r1 := F1.out.r1
  have f0 := F1.out.f0
  have f1 := F1.out.f1
  go_wp2
  refine bodyPost_ret (v := .tuple #[v1, .agg #[.int .i64 c, .int .i64 y]]) ?_ rfl (F1.out.made c y I1.out)
  have E := F1.out.ends c y
  unfold wr at E
  simp [results, Tryd.results54, go_sem, E.1, E.2.1]

theorem dDo_eq {B : Nat} {v : Value} {xs ys : List Int} {w : World} {o x c y : Int} (k : Int) (h : IsL B w v xs) (hx : xs.length ≤ 1000000) (hd : ddo xs o x = (ys, c, y)) :
    Calls Tryd.prog 54 #[v, .agg #[.int .i64 o, .int .i64 k, .int .i64 x]] w (Made w ys c y) := by
  by_cases n3 : o = 3
  · subst n3
    exact dDo_front k h hx hd
  by_cases n4 : o = 4
  · subst n4
    exact dDo_back k x h hx (by simpa [ddo] using hd)
  · exact dDo_else k h hx n3 n4 (by simpa [ddo, n3, n4] using hd)
end Go.Proofs.YtaipanjigindbaaDoor
namespace Go.Proofs.YtaipanjigindbaaDoor
set_option maxRecDepth 20000
open Go.RowKit

theorem Row.set {b off : Nat} {l : List Int} {w : World} (h : Row b off l w) (j : Nat) (x : Int) (hj : j < l.length) : Row b off (l.set j x) (w.setCell ⟨b, off + j, none⟩ (.int .i64 x)) where
  cell k hk := by
    rw [List.length_set] at hk
    rw [gt_set l j k x hj]
    by_cases e : k = j
    · subst e
      rw [World.cell?_setCell_same _ _ _ (h.cell k hk), if_pos rfl]
    · rw [World.cell?_setCell_other, h.cell k hk, if_neg e]
      intro hh
      injection hh with _ h2
      omega
  froz k hk := by
    rw [List.length_set] at hk
    simpa using h.froz k hk
theorem Row.swap {b off : Nat} {l : List Int} {w : World} (h : Row b off l w) (i j : Nat) (x y : Int) (hi : i < l.length) (hj : j < l.length) (hx : gt l i = x) (hy : gt l j = y) : Row b off (swp l i j) ((w.setCell ⟨b, off + i, none⟩ (.int .i64 y)).setCell ⟨b, off + j, none⟩ (.int .i64 x)) := by
  subst hx hy
  exact (h.set i _ hi).set j _ (by simpa using hj)
theorem Row.drew {b off : Nat} {l : List Int} {w : World} (h : Row b off l w) : Row b off l w.drew := ⟨h.cell, h.froz⟩
theorem Row.drewN {b off : Nat} {l : List Int} {w : World} (h : Row b off l w) (q : Nat) : Row b off l (w.drewN q) := ⟨h.cell, h.froz⟩
theorem grown_set {w w' : World} {b : Nat} (h : w.grownBy w' (some b)) (o : Nat) (v : Value) : w.grownBy (w'.setCell ⟨b, o, none⟩ v) (some b) :=
  ⟨h.os, h.tape, h.output, by simpa [World.setCell] using h.size, fun k hk hne => (Below.heap_setCell _ _ _ k (fun e => hne (by rw [e]))).trans (h.block k hk hne)⟩
theorem grown_drew {w w' : World} {r : Option Nat} (h : w.grownBy w' r) : w.grownBy w'.drew r := ⟨h.os, h.tape, h.output, h.size, h.block⟩
theorem grown_drewN {w w' : World} {r : Option Nat} (h : w.grownBy w' r) (q : Nat) : w.grownBy (w'.drewN q) r := ⟨h.os, h.tape, h.output, h.size, h.block⟩

theorem riseF_stop {n : Nat} {l : List Int} {i : Nat} (h : ¬ (0 < i ∧ gt l i < gt l ((i - 1) / 2))) : riseF n l i = l := by
  cases n with
  | zero => rfl
  | succ n => unfold riseF; rw [if_neg h]
theorem riseF_go {n : Nat} {l : List Int} {i : Nat} (hn : 0 < n) (h : 0 < i) (h2 : gt l i < gt l ((i - 1) / 2)) : riseF n l i = riseF (n - 1) (swp l i ((i - 1) / 2)) ((i - 1) / 2) := by
  obtain ⟨m, rfl⟩ : ∃ m, n = m + 1 := ⟨n - 1, by omega⟩
  rw [riseF, if_pos ⟨h, h2⟩, Nat.add_sub_cancel]

set_option maxHeartbeats 2000000 in
theorem rise_is {b off c : Nat} {l : List Int} {w : World} (R : Row b off l w) (h0 : 0 < l.length) (hl : l.length ≤ 1000000) :
    Calls Tryd.prog 91 #[.slice (some ⟨b, off, none⟩) l.length c] w fun e w' => e = .returned (.tuple #[]) ∧ Row b off (rise l) w' ∧ w.grownBy w' (some b) := by
  have R0 : Hid (Row b off l w) := R
  clear R
  obtain ⟨n, hn⟩ : ∃ n, n = l.length := ⟨_, rfl⟩
  have N : Hid (n = l.length) := hn
  rw [← hn] at h0 hl ⊢
  clear hn
  have hn1 : (1 : Int) ≤ (n : Int) := by omega
  go_enter Tryd.func91, Tryd.ntmps91
  go_wp2_with fail
  go_loopg [2] n (fun gg s2 wt => ∃ (i : Nat) (l' : List Int), s2 = .int .i64 i ∧ i < n ∧ i ≤ gg ∧ Hid (l'.length = n) ∧ Hid (Row b off l' wt) ∧ Hid (w.grownBy wt (some b)) ∧ Hid (riseF gg l' i = rise l))
  case atStart =>
    refine ⟨n - 1, l, by go_num, by omega, by omega, N.out.symm, R0, ⟨rfl, rfl, rfl, Nat.le_refl _, fun _ _ _ => rfl⟩, ?_⟩
    show riseF n l (n - 1) = rise l
    unfold rise; rw [N.out]
  case round =>
    obtain ⟨i, l', rfl, hi, hgg, N', R', G, E⟩ := hrel
    clear R0
    by_cases hi0 : i = 0
    · subst hi0
      have hd : decide ((0 : Int) < ((0 : Nat) : Int)) = false := by decide
      go_wp2_with fail
      go_quiet (fail)
      go_wp2
      go_end0
      have e := E.out
      rw [riseF_stop (by omega)] at e
      rw [← e]
      exact ⟨rfl, R'.out.drewN _, grown_drewN G.out _⟩
    · have hp0 : 0 < i := by omega
      have hd : (0 : Int) < (i : Int) := by omega
      obtain ⟨p, hp⟩ : ∃ p, p = (i - 1) / 2 := ⟨_, rfl⟩
      obtain ⟨x, hx⟩ : ∃ x, gt l' i = x := ⟨_, rfl⟩
      obtain ⟨y, hy⟩ : ∃ y, gt l' p = y := ⟨_, rfl⟩
      have hpn : p < n := by omega
      have g1 : wr.cell? ⟨b, off + i, none⟩ = some (.int .i64 x) := by rw [← hx]; exact R'.out.cell i (by rw [N'.out]; exact hi)
      have g2 : wr.cell? ⟨b, off + p, none⟩ = some (.int .i64 y) := by rw [← hy]; exact R'.out.cell p (by rw [N'.out]; exact hpn)
      have f1 : wr.frozen? ⟨b, off + i, none⟩ = false := R'.out.froz i (by rw [N'.out]; exact hi)
      have f2 : wr.frozen? ⟨b, off + p, none⟩ = false := R'.out.froz p (by rw [N'.out]; exact hpn)
      have A : Hid (∀ W, Calls Tryd.prog 68 #[.int .i64 i] W fun e w' => e = .returned (.int .i64 (p : Int)) ∧ w' = W) := by rw [hp]; exact above_is i hp0 (by omega)
      have X : Hid (p = (i - 1) / 2 ∧ gt l' i = x ∧ gt l' p = y) := ⟨hp, hx, hy⟩
      have hpi : p < i := by omega
      clear hp hx hy
      have hi1 : (i : Int) < (n : Int) := by omega
      have hi2 : (0 : Int) ≤ (i : Int) := by omega
      have hp1 : (p : Int) < (n : Int) := by omega
      have hp2 : (0 : Int) ≤ (p : Int) := by omega
      by_cases hxy : x < y
      · go_wp2_with fail
        go_quiet ((go_at_call 68; exact Calls.quiet_of_same (A.out _)))
        go_wp2_with fail
        generalize hwq : wr.drewN _ = wq
        have q1 : wq.cell? ⟨b, off + i, none⟩ = some (.int .i64 x) := by rw [← hwq]; exact g1
        have q2 : wq.cell? ⟨b, off + p, none⟩ = some (.int .i64 y) := by rw [← hwq]; exact g2
        have k1 : wq.frozen? ⟨b, off + i, none⟩ = false := by rw [← hwq]; exact f1
        have k2 : wq.frozen? ⟨b, off + p, none⟩ = false := by rw [← hwq]; exact f2
        have R2 : Hid (Row b off l' wq) := by rw [← hwq]; exact R'.out.drewN _
        have G2 : Hid (w.grownBy wq (some b)) := by rw [← hwq]; exact grown_drewN G.out _
        clear hwq g1 g2 f1 f2 R' G
        go_region_with (go_at_call 68; refine (A.out _).mono ?_; rintro e w3 ⟨rfl, hw⟩; rw [hw]; clear hw)
        all_goals
          go_wp2_with fail
          refine (A.out _).mono ?_
          rintro e w3 ⟨rfl, hw⟩
          rw [hw]; clear hw
          go_wp2
          go_roundg (gk - 1)
          case measure => omega
          case rel =>
            have ei := X.out.1
            refine ⟨p, swp l' i p, rfl, hpn, by omega, (swp_len _ _ _).trans N'.out, (R2.out.swap i p x y (by rw [N'.out]; exact hi) (by rw [N'.out]; exact hpn) X.out.2.1 X.out.2.2).drew, grown_drew (grown_set (grown_set G2.out _ _) _ _), ?_⟩
            have e := riseF_go (n := gk) (l := l') (i := i) (by omega) hp0 (by rw [← ei, X.out.2.1, X.out.2.2]; exact hxy)
            rw [← ei] at e
            exact e.symm.trans E.out
      · have hd2 : decide (x < y) = false := by simpa using hxy
        go_wp2_with fail
        go_quiet ((go_at_call 68; exact Calls.quiet_of_same (A.out _)))
        go_wp2
        go_end0
        have e := E.out
        rw [riseF_stop (by rw [← X.out.1, X.out.2.1, X.out.2.2]; omega)] at e
        rw [← e]
        exact ⟨rfl, R'.out.drewN _, grown_drewN G.out _⟩
end Go.Proofs.YtaipanjigindbaaDoor
namespace Go.Proofs.YtaipanjigindbaaDoor
set_option maxRecDepth 20000
open Go.RowKit

set_option maxHeartbeats 2000000 in
theorem below_is {b off c : Nat} {l : List Int} {w : World} (R : Row b off l w) (i : Nat) (hi : i < l.length) (hl : l.length ≤ 1000000) :
    Calls Tryd.prog 97 #[.slice (some ⟨b, off, none⟩) l.length c, .int .i64 i] w fun e w' => e = .returned (.int .i64 (blw l i : Nat)) ∧ ∃ q, w' = w.drewN q := by
  obtain ⟨n, hn⟩ : ∃ n, n = l.length := ⟨_, rfl⟩
  have R0 : Hid (Row b off l w) := R
  have N : Hid (n = l.length) := hn
  rw [← hn] at hi hl ⊢
  clear hn R
  have p1 : (0 : Int) ≤ 2 * (i : Int) + 1 := by omega
  have p2 : (0 : Int) ≤ 2 * (i : Int) + 2 := by omega
  have e1 : (2 * (i : Int) + 1).toNat = 2 * i + 1 := by omega
  have e2 : (2 * (i : Int) + 2).toNat = 2 * i + 2 := by omega
  have im : (i : Int) < (n : Int) := by omega
  by_cases h2 : 2 * i + 2 < n
  · obtain ⟨x, hx⟩ : ∃ x, gt l (2 * i + 2) = x := ⟨_, rfl⟩
    obtain ⟨y, hy⟩ : ∃ y, gt l (2 * i + 1) = y := ⟨_, rfl⟩
    have g2 : w.cell? ⟨b, off + (2 * i + 2), none⟩ = some (.int .i64 x) := by rw [← hx]; exact R0.out.cell _ (by rw [← N.out]; exact h2)
    have g1 : w.cell? ⟨b, off + (2 * i + 1), none⟩ = some (.int .i64 y) := by rw [← hy]; exact R0.out.cell _ (by rw [← N.out]; omega)
    have X : Hid (gt l (2 * i + 2) = x ∧ gt l (2 * i + 1) = y) := ⟨hx, hy⟩
    clear hx hy
    have c1' : 2 * (i : Int) + 1 < (n : Int) := by omega
    have c2' : 2 * (i : Int) + 2 < (n : Int) := by omega
    by_cases hxy : x < y
    · go_enter Tryd.func97, Tryd.ntmps97
      go_wp2_with fail
      go_quiet (fail)
      go_wp2
      go_ret
      have e : blw l i = 2 * i + 2 := by unfold blw; rw [← N.out, X.out.1, X.out.2, if_pos ⟨h2, hxy⟩]
      refine ⟨?_, _, rfl⟩
      show Ending.returned (.int .i64 (2 * (i : Int) + 2)) = _
      rw [e]; exact ret_int (by omega)
    · have hd2 : decide (x < y) = false := by simpa using hxy
      go_enter Tryd.func97, Tryd.ntmps97
      go_wp2_with fail
      go_quiet (fail)
      go_wp2
      go_ret
      have e : blw l i = 2 * i + 1 := by unfold blw; rw [← N.out, X.out.1, X.out.2, if_neg (by omega)]
      refine ⟨?_, _, rfl⟩
      show Ending.returned (.int .i64 (2 * (i : Int) + 1)) = _
      rw [e]; exact ret_int (by omega)
  · have hd2 : decide (2 * (i : Int) + 2 < (n : Int)) = false := by simp; omega
    go_enter Tryd.func97, Tryd.ntmps97
    go_wp2_with fail
    go_quiet (fail)
    go_wp2
    go_ret
    have e : blw l i = 2 * i + 1 := by unfold blw; rw [← N.out, if_neg (by omega)]
    refine ⟨?_, _, rfl⟩
    show Ending.returned (.int .i64 (2 * (i : Int) + 1)) = _
    rw [e]; exact ret_int (by omega)

theorem sinkF_stop {n : Nat} {l : List Int} {i : Nat} (h : ¬ (blw l i < l.length ∧ gt l (blw l i) < gt l i)) : sinkF n l i = l := by
  cases n with
  | zero => rfl
  | succ n => unfold sinkF; rw [if_neg h]
theorem sinkF_go {n : Nat} {l : List Int} {i : Nat} (hn : 0 < n) (h : blw l i < l.length ∧ gt l (blw l i) < gt l i) : sinkF n l i = sinkF (n - 1) (swp l i (blw l i)) (blw l i) := by
  obtain ⟨m, rfl⟩ : ∃ m, n = m + 1 := ⟨n - 1, by omega⟩
  rw [sinkF, if_pos h, Nat.add_sub_cancel]

set_option maxHeartbeats 2000000 in
theorem sink_is {b off c : Nat} {l : List Int} {w : World} (R : Row b off l w) (h0 : 0 < l.length) (hl : l.length ≤ 1000000) :
    Calls Tryd.prog 92 #[.slice (some ⟨b, off, none⟩) l.length c] w fun e w' => e = .returned (.tuple #[]) ∧ Row b off (sink l) w' ∧ w.grownBy w' (some b) := by
  have R0 : Hid (Row b off l w) := R
  clear R
  obtain ⟨n, hn⟩ : ∃ n, n = l.length := ⟨_, rfl⟩
  have N : Hid (n = l.length) := hn
  have B0 : Hid (Calls Tryd.prog 97 #[.slice (some ⟨b, off, none⟩) n c, .int .i64 0] w fun e w' => e = .returned (.int .i64 (blw l 0 : Nat)) ∧ ∃ q, w' = w.drewN q) := by
    have := below_is (c := c) R0.out 0 h0 hl
    rw [hn]; exact this
  rw [← hn] at h0 hl ⊢
  clear hn
  have hn1 : (1 : Int) ≤ (n : Int) := by omega
  go_enter Tryd.func92, Tryd.ntmps92
  go_wp2_with fail
  refine B0.out.mono ?_
  rintro e w1 ⟨rfl, q, hw⟩
  have R1 : Hid (Row b off l w1) := by rw [hw]; exact R0.out.drewN q
  have G1 : Hid (w.grownBy w1 (some b)) := by rw [hw]; exact grown_drewN ⟨rfl, rfl, rfl, Nat.le_refl _, fun _ _ _ => rfl⟩ _
  clear hw B0 R0
  obtain ⟨c0, hc0⟩ : ∃ c0, c0 = blw l 0 := ⟨_, rfl⟩
  have C0 : Hid (c0 = blw l 0) := hc0
  have c0n : c0 ≤ 2 * n := by rw [hc0]; unfold blw; split <;> omega
  rw [← hc0]
  clear hc0
  go_wp2_with fail
  go_loopg [2, 3] n (fun gg s2 s3 wt => ∃ (i k : Nat) (l' : List Int), s2 = .int .i64 i ∧ s3 = .int .i64 k ∧ i < n ∧ i < k ∧ k ≤ 2 * n + 2 ∧ n ≤ gg + i ∧ Hid (k = blw l' i) ∧ Hid (l'.length = n) ∧ Hid (Row b off l' wt) ∧ Hid (w.grownBy wt (some b)) ∧ Hid (sinkF gg l' i = sink l))
  case atStart =>
    refine ⟨0, c0, l, rfl, rfl, by omega, ?_, by omega, by omega, C0.out, N.out.symm, R1, G1, ?_⟩
    · rw [C0.out]; exact blw_gt l 0
    · show sinkF n l 0 = sink l
      unfold sink; rw [N.out]
  case round =>
    obtain ⟨i, k, l', rfl, rfl, hi, hik, hk2, hgg, K', N', R', G, E⟩ := hrel
    clear R1 G1
    have hi1 : (i : Int) < (n : Int) := by omega
    have hi2 : (0 : Int) ≤ (i : Int) := by omega
    have hk0 : (0 : Int) ≤ (k : Int) := by omega
    by_cases hkn : k < n
    · have hk1 : (k : Int) < (n : Int) := by omega
      obtain ⟨x, hx⟩ : ∃ x, gt l' i = x := ⟨_, rfl⟩
      obtain ⟨y, hy⟩ : ∃ y, gt l' k = y := ⟨_, rfl⟩
      have g1 : wr.cell? ⟨b, off + i, none⟩ = some (.int .i64 x) := by rw [← hx]; exact R'.out.cell i (by rw [N'.out]; exact hi)
      have g2 : wr.cell? ⟨b, off + k, none⟩ = some (.int .i64 y) := by rw [← hy]; exact R'.out.cell k (by rw [N'.out]; exact hkn)
      have f1 : wr.frozen? ⟨b, off + i, none⟩ = false := R'.out.froz i (by rw [N'.out]; exact hi)
      have f2 : wr.frozen? ⟨b, off + k, none⟩ = false := R'.out.froz k (by rw [N'.out]; exact hkn)
      have X : Hid (gt l' i = x ∧ gt l' k = y) := ⟨hx, hy⟩
      clear hx hy
      by_cases hxy : y < x
      · go_wp2_with fail
        go_quiet (fail)
        go_wp2_with fail
        generalize hwq : wr.drewN _ = wq
        have q1 : wq.cell? ⟨b, off + i, none⟩ = some (.int .i64 x) := by rw [← hwq]; exact g1
        have q2 : wq.cell? ⟨b, off + k, none⟩ = some (.int .i64 y) := by rw [← hwq]; exact g2
        have k1 : wq.frozen? ⟨b, off + i, none⟩ = false := by rw [← hwq]; exact f1
        have k2 : wq.frozen? ⟨b, off + k, none⟩ = false := by rw [← hwq]; exact f2
        have R2 : Hid (Row b off (swp l' i k) ((wq.setCell ⟨b, off + i, none⟩ (.int .i64 y)).setCell ⟨b, off + k, none⟩ (.int .i64 x)).drew) := by rw [← hwq]; exact ((R'.out.drewN _).swap i k x y (by rw [N'.out]; exact hi) (by rw [N'.out]; exact hkn) X.out.1 X.out.2).drew
        have G2 : Hid (w.grownBy ((wq.setCell ⟨b, off + i, none⟩ (.int .i64 y)).setCell ⟨b, off + k, none⟩ (.int .i64 x)).drew (some b)) := by rw [← hwq]; exact grown_drew (grown_set (grown_set (grown_drewN G.out _) _ _) _ _)
        have B2 : Hid (Calls Tryd.prog 97 #[.slice (some ⟨b, off, none⟩) n c, .int .i64 k] ((wq.setCell ⟨b, off + i, none⟩ (.int .i64 y)).setCell ⟨b, off + k, none⟩ (.int .i64 x)).drew fun e w' => e = .returned (.int .i64 (blw (swp l' i k) k : Nat)) ∧ ∃ q, w' = (((wq.setCell ⟨b, off + i, none⟩ (.int .i64 y)).setCell ⟨b, off + k, none⟩ (.int .i64 x)).drew).drewN q) := by
          have := below_is (c := c) R2.out k (by rw [swp_len, N'.out]; exact hkn) (by rw [swp_len, N'.out]; exact hl)
          rw [swp_len, N'.out] at this
          exact this
        clear hwq g1 g2 f1 f2 R' G
        go_region
        all_goals
          go_wp2_with fail
          refine B2.out.mono ?_
          rintro e w3 ⟨rfl, q, hw⟩
          have R3 : Hid (Row b off (swp l' i k) w3) := by rw [hw]; exact R2.out.drewN q
          have G3 : Hid (w.grownBy w3 (some b)) := by rw [hw]; exact grown_drewN G2.out q
          clear hw B2 R2 G2
          go_wp2
          go_roundg (gk - 1)
          case measure => omega
          case rel =>
            have ek := K'.out
            refine ⟨k, blw (swp l' i k) k, swp l' i k, rfl, rfl, hkn, blw_gt _ _, by unfold blw; split <;> omega, by omega, rfl, (swp_len _ _ _).trans N'.out, R3, G3, ?_⟩
            have e := sinkF_go (n := gk) (l := l') (i := i) (by omega) (by rw [← ek, N'.out, X.out.1, X.out.2]; exact ⟨hkn, hxy⟩)
            rw [← ek] at e
            exact e.symm.trans E.out
      · have hd2 : decide (y < x) = false := by simpa using hxy
        go_wp2_with fail
        go_quiet (fail)
        go_wp2
        go_end0
        have e := E.out
        rw [sinkF_stop (by rw [← K'.out, X.out.1, X.out.2]; omega)] at e
        rw [← e]
        exact ⟨rfl, R'.out.drewN _, grown_drewN G.out _⟩
    · have hd2 : decide ((k : Int) < (n : Int)) = false := by simp; omega
      go_wp2_with fail
      go_quiet (fail)
      go_wp2
      go_end0
      have e := E.out
      rw [sinkF_stop (by rw [← K'.out, N'.out]; omega)] at e
      rw [← e]
      exact ⟨rfl, R'.out.drewN _, grown_drewN G.out _⟩
end Go.Proofs.YtaipanjigindbaaDoor
namespace Go.Proofs.YtaipanjigindbaaDoor
set_option maxRecDepth 20000
open Go.RowKit

/-- What an operation makes of a heap, and its answer: 8.1. -/
def hdo (xs : List Int) (what value : Int) : List Int × Int × Int :=
  if what = 1 then (if 6 ≤ xs.length then (xs, 3, 0) else (rise (xs ++ [value]), 1, 0))
  else if what = 2 then (match xs with | [] => ([], 2, 0) | x :: r => (if r = [] then [] else sink (r.getLastD 0 :: r.dropLast), 1, x))
  else qdo xs what value

theorem IsL.row {B : Nat} {w : World} {v : Value} {xs : List Int} (h : IsL B w v xs) (hB : 0 < B) (h0 : 0 < xs.length) : ∃ b off c, v = .slice (some ⟨b, off, none⟩) xs.length c ∧ B ≤ b ∧ b < w.heap.size ∧ xs.length ≤ c ∧ Row b off xs w := by
  rcases h with ⟨rfl, _⟩ | ⟨b, off, c, rfl, hb, _, hc, hcell, hfz⟩
  · simp at h0
  · exact ⟨b, off, c, rfl, hb, World.block_lt_of_cell? _ _ (hcell 0 h0), hc, ⟨hcell, hfz hB⟩⟩
theorem Row.isL {B b off c : Nat} {l : List Int} {w : World} (h : Row b off l w) (hB : B ≤ b) (h0 : 0 < l.length) (hc : l.length ≤ c) : IsL B w (.slice (some ⟨b, off, none⟩) l.length c) l :=
  Or.inr ⟨b, off, c, rfl, hB, h0, hc, h.cell, fun _ => h.froz⟩
theorem Row.keep {C b off : Nat} {l : List Int} {w w' : World} (h : Row b off l w) (hb : Below C w w') (hC : b < C) : Row b off l w' where
  cell j hj := by rw [World.cell?_of_block (hb.block b hC)]; exact h.cell j hj
  froz j hj := by rw [World.frozen?_of_block (hb.block b hC)]; exact h.froz j hj
theorem Bx.aside {n : Nat} {c y : Int} {w w' : World} {row : Option Nat} (h : Bx n c y w) (hg : w.grownBy w' row) (hn : some n ≠ row) : Bx n c y w' where
  lt := Nat.lt_of_lt_of_le h.lt hg.size
  c0 := by rw [World.cell?_of_block (hg.block n h.lt hn)]; exact h.c0
  c1 := by rw [World.cell?_of_block (hg.block n h.lt hn)]; exact h.c1
  f0 := by rw [World.frozen?_of_block (hg.block n h.lt hn)]; exact h.f0
  f1 := by rw [World.frozen?_of_block (hg.block n h.lt hn)]; exact h.f1

theorem Fr.alloc {w W : World} {o k x : Int} (h : Fr w W o k x) (ob : Obj) : Fr w (W.alloc ob) o k x := h.later ((Below.refl _ W).alloc h.sz ob)

set_option maxHeartbeats 1000000 in
theorem hput_full {B : Nat} {v : Value} {xs : List Int} {w : World} (k x : Int) (h : IsL B w v xs) (hx : xs.length ≤ 1000000) (h6 : 6 ≤ xs.length) :
    Calls Tryd.prog 77 #[v, .agg #[.int .i64 1, .int .i64 k, .int .i64 x]] w (Made w xs 3 0) := by
  have F0 : Hid (Fr w (two w 1 k x) 1 k x) := Fr.start w 1 k x
  have X : Hid (IsL B (two w 1 k x) v xs) := h.later F0.out.gr
  clear h
  go_enter Tryd.func77, Tryd.ntmps77
  go_wp2_with fail
  refine (qDo_eq (w := two w 1 k x) (ys := xs) (c := 3) (y := 0) k X.out hx (by simp [qdo, h6])).mono ?_
  rintro e w1 ⟨v1, rfl, hi, hb⟩
  rw [two_size] at hi hb
  have F1 : Hid (Fr w (w1.alloc (.cells #[.int .i64 3, .int .i64 0] 49)) 1 k x) := (F0.out.later hb).alloc _
  have I1 : Hid (IsL (w.heap.size + 2) (w1.alloc (.cells #[.int .i64 3, .int .i64 0] 49)) v1 xs) := hi.new _
  have z1 : Hid (w.heap.size + 2 ≤ w1.heap.size) := (F0.out.later hb).sz
  clear hi hb F0 X
  have r0 := F1.out.r0
  have r1 := F1.out.r1
  have f0 := F1.out.f0
  have f1 := F1.out.f1
  have n1 : w.heap.size + 1 ≠ w1.heap.size := by have := z1.out; omega
  go_wp2_with fail
  go_region
  all_goals go_wp2
  refine bodyPost_ret (v := .tuple #[v1, .agg #[.int .i64 3, .int .i64 0]]) ?_ rfl (F1.out.made3 3 0 I1.out)
  have E := F1.out.ends 3 0
  unfold wr at E
  simp [results, Tryd.results77, go_sem, E.1, E.2.1]

set_option maxHeartbeats 1000000 in
theorem hput_done {B : Nat} {v : Value} {xs : List Int} {w : World} (k x : Int) (h : IsL B w v xs) (h6 : xs.length < 6) :
    Calls Tryd.prog 77 #[v, .agg #[.int .i64 1, .int .i64 k, .int .i64 x]] w (Made w (rise (xs ++ [x])) 1 0) := by
  have F0 : Hid (Fr w (two w 1 k x) 1 k x) := Fr.start w 1 k x
  have X : Hid (IsL B (two w 1 k x) v xs) := h.later F0.out.gr
  clear h
  go_enter Tryd.func77, Tryd.ntmps77
  go_wp2_with fail
  refine (qDo_eq (w := two w 1 k x) (ys := xs ++ [x]) (c := 1) (y := 0) k X.out (by omega) (by simp [qdo, show ¬ 6 ≤ xs.length by omega])).mono ?_
  rintro e w1 ⟨v1, rfl, hi, hb⟩
  rw [two_size] at hi hb
  obtain ⟨b, off, c, rfl, hB, hbl, hc, hR⟩ := hi.row (by omega) (by simp)
  have F1 : Hid (Fr w (w1.alloc (.cells #[.int .i64 1, .int .i64 0] 49)) 1 k x) := (F0.out.later hb).alloc _
  have Q1 : Hid (Bx w1.heap.size 1 0 (w1.alloc (.cells #[.int .i64 1, .int .i64 0] 49))) := Bx.born w1 1 0 _
  have R1 : Hid (Row b off (xs ++ [x]) (w1.alloc (.cells #[.int .i64 1, .int .i64 0] 49))) := hR.keep (new_below w1 _) hbl
  clear hi hb F0 X hR
  obtain ⟨l, hl⟩ : ∃ l, l = xs ++ [x] := ⟨_, rfl⟩
  have h0 : 0 < l.length := by rw [hl]; simp
  have h7 : l.length ≤ 1000000 := by rw [hl]; simp; omega
  have L : Hid (l = xs ++ [x]) := hl
  rw [← hl] at R1 hc ⊢
  clear hl
  go_wp2_with fail
  refine (rise_is R1.out h0 h7).mono ?_
  rintro e w3 ⟨rfl, hR, hg⟩
  have e3 : (rise l).length = l.length := (rise_perm l).length_eq
  have F3 : Hid (Fr w w3 1 k x) := F1.out.later ((Below.refl _ _).grown hg F1.out.sz (fun k hk => by injection hk with hk; omega))
  have I3 : Hid (IsL (w.heap.size + 2) w3 (.slice (some ⟨b, off, none⟩) l.length c) (rise (xs ++ [x]))) := by
    rw [← L.out, ← e3]; exact hR.isL hB (by omega) (by omega)
  have Q3 : Hid (Bx w1.heap.size 1 0 w3) := Q1.out.aside hg (fun e => by injection e with e; omega)
  have z1 : Hid (w.heap.size + 2 ≤ w1.heap.size) := (by omega : w.heap.size + 2 ≤ w1.heap.size)
  clear hR hg F1 Q1 R1 e3
  have r0 := F3.out.r0
  have r1 := F3.out.r1
  have f0 := F3.out.f0
  have f1 := F3.out.f1
  have y0 := Q3.out.c0
  have y1 := Q3.out.c1
  go_wp2_with fail
  go_region
  all_goals go_wp2
  refine bodyPost_ret (v := .tuple #[.slice (some ⟨b, off, none⟩) l.length c, .agg #[.int .i64 1, .int .i64 0]]) ?_ rfl (F3.out.made3 1 0 I3.out)
  have E := F3.out.ends 1 0
  unfold wr at E
  simp [results, Tryd.results77, go_sem, E.1, E.2.1]

set_option maxHeartbeats 1000000 in
theorem htake_few {B : Nat} {v : Value} {xs : List Int} {w : World} {c y : Int} (h : IsL B w v xs) (hx : xs.length ≤ 1000000) (hs : sdo xs 2 0 = ([], c, y)) :
    Calls Tryd.prog 78 #[v] w (Made w [] c y) := by
  have X : Hid (IsL B (w.alloc (.cells #[.int .i64 0, .int .i64 0] 49)) v xs) := h.new _
  have Q0 : Hid (Bx w.heap.size 0 0 (w.alloc (.cells #[.int .i64 0, .int .i64 0] 49))) := Bx.born w 0 0 _
  clear h
  go_enter Tryd.func78, Tryd.ntmps78
  go_wp2_with fail
  refine (sDo_eq 0 X.out hx hs).mono ?_
  rintro e w1 ⟨v1, rfl, hi, hb⟩
  obtain ⟨a, cp, rfl⟩ := hi.form
  have Q1 : Hid (Bx w.heap.size 0 0 (w1.alloc (.cells #[.int .i64 c, .int .i64 y] 49))) := (Q0.out.later hb).new _
  have G1 : Hid (Gd w (w1.alloc (.cells #[.int .i64 c, .int .i64 y] 49))) := (((Gd.refl w).new _).later hb).new _
  have hlt : w.heap.size < w1.heap.size := (Q0.out.later hb).lt
  have S1 : Hid (Bx w1.heap.size c y (w1.alloc (.cells #[.int .i64 c, .int .i64 y] 49))) := Bx.born w1 c y _
  clear hi hb X Q0
  go_wp2_with fail
  generalize w1.alloc (.cells #[.int .i64 c, .int .i64 y] 49) = W at Q1 G1 S1 ⊢
  have x0 := Q1.out.c0
  have x1 := Q1.out.c1
  have y0 := Q1.out.f0
  have y1 := Q1.out.f1
  have z0 := S1.out.c0
  have z1 := S1.out.c1
  go_region
  all_goals go_wp2
  have E := Q1.out.put (c' := c) (y' := y) (Nat.le_refl _) G1.out
  refine bodyPost_ret (v := .tuple #[.slice a 0 cp, .agg #[.int .i64 c, .int .i64 y]]) ?_ rfl ⟨_, rfl, IsL.nil _ _ _ _, Below.drew E.2⟩
  simp [results, Tryd.results78, go_sem, E.1.c0, E.1.c1]

set_option maxHeartbeats 1000000 in
theorem htake_more {B : Nat} {v : Value} {r : List Int} {x z : Int} {w : World} (h : IsL B w v (x :: (r ++ [z]))) (hx : r.length ≤ 100000) :
    Calls Tryd.prog 78 #[v] w (Made w (sink (z :: r)) 1 x) := by
  have X : Hid (IsL B (w.alloc (.cells #[.int .i64 0, .int .i64 0] 49)) v (x :: (r ++ [z]))) := h.new _
  have Q0 : Hid (Bx w.heap.size 0 0 (w.alloc (.cells #[.int .i64 0, .int .i64 0] 49))) := Bx.born w 0 0 _
  clear h
  have hs : Hid (sdo (x :: (r ++ [z])) 2 0 = (x :: r, 1, z)) := sdo_take (x :: r) z 0
  go_enter Tryd.func78, Tryd.ntmps78
  go_wp2_with fail
  refine (sDo_eq 0 X.out (by simp; omega) hs.out).mono ?_
  rintro e w1 ⟨v1, rfl, hi, hb⟩
  have hB0 : 0 < (w.alloc (.cells #[.int .i64 0, .int .i64 0] 49)).heap.size := by simp
  obtain ⟨b, off, cp, rfl, hB, hbl, hc, hR⟩ := hi.row hB0 (by simp)
  have hB' : w.heap.size + 1 ≤ b := by simpa using hB
  have hlt : w.heap.size < w1.heap.size := (Q0.out.later hb).lt
  have g1 : w1.cell? ⟨b, off, none⟩ = some (.int .i64 x) := hR.cell 0 (Nat.succ_pos _)
  have k1 : w1.frozen? ⟨b, off, none⟩ = false := hR.froz 0 (Nat.succ_pos _)
  have hgr : w1.grownBy (w1.setCell ⟨b, off, none⟩ (.int .i64 z)) (some b) := grown_set (World.grownBy.refl _ _) _ _
  have Q2 : Hid (Bx w.heap.size 0 0 ((w1.setCell ⟨b, off, none⟩ (.int .i64 z)).alloc (.cells #[.int .i64 1, .int .i64 z] 49))) := ((Q0.out.later hb).aside hgr (fun e => by injection e with e; omega)).new _
  have G2 : Hid (Gd w ((w1.setCell ⟨b, off, none⟩ (.int .i64 z)).alloc (.cells #[.int .i64 1, .int .i64 z] 49))) := Gd.new (Below.setCell (((Gd.refl w).new _).later hb) (show w.heap.size ≤ b by omega) _) _
  have R2 : Hid (Row b off (z :: r) ((w1.setCell ⟨b, off, none⟩ (.int .i64 z)).alloc (.cells #[.int .i64 1, .int .i64 z] 49))) := (hR.set 0 z (Nat.succ_pos _)).keep (new_below _ _) (by simpa using hbl)
  clear hi hb X Q0 hB hB0 hR hs hgr
  have hn : (0 : Int) < ((r.length + 1 : Nat) : Int) := by omega
  have hl : (x :: r).length = r.length + 1 := rfl
  rw [hl] at hc ⊢
  clear hl
  go_wp2_with fail
  generalize (w1.setCell ⟨b, off, none⟩ (.int .i64 z)).alloc (.cells #[.int .i64 1, .int .i64 z] 49) = W at Q2 G2 R2 ⊢
  refine (sink_is (c := cp) R2.out (Nat.succ_pos _) (by simp; omega)).mono ?_
  rintro e w3 ⟨rfl, hR, hg⟩
  have e3 : (sink (z :: r)).length = r.length + 1 := (sink_perm (z :: r)).length_eq
  have Q3 : Hid (Bx w.heap.size 0 0 w3) := Q2.out.aside hg (fun e => by injection e with e; omega)
  have G3 : Hid (Gd w w3) := Below.grown G2.out hg (Below.size G2.out) (fun k hk => by injection hk with hk; omega)
  have I3 : Hid (IsL (w.heap.size + 1) w3 (.slice (some ⟨b, off, none⟩) (r.length + 1) cp) (sink (z :: r))) := by
    rw [← e3]; exact hR.isL hB' (by omega) (by omega)
  clear hR hg Q2 G2 R2 e3
  have x0 := Q3.out.c0
  have x1 := Q3.out.c1
  have y0 := Q3.out.f0
  have y1 := Q3.out.f1
  go_wp2
  have E := Q3.out.put (c' := 1) (y' := x) (Nat.le_refl _) G3.out
  refine bodyPost_ret (v := .tuple #[.slice (some ⟨b, off, none⟩) (r.length + 1) cp, .agg #[.int .i64 1, .int .i64 x]]) ?_ rfl ⟨_, rfl, ((I3.out.setCell (Nat.lt_succ_self _) _).setCell (Nat.lt_succ_self _) _).mono (Nat.le_succ _), E.2⟩
  simp [results, Tryd.results78, go_sem, E.1.c0, E.1.c1]

/-- Where the answer is put in its place: all three ways of Do. -/
theorem Made.two {w : World} {ys : List Int} {o k x c y : Int} {e : Ending} {w1 : World} (h : Made (two w o k x) ys c y e w1) : ∃ v1, e = .returned (.tuple #[v1, .agg #[.int .i64 c, .int .i64 y]]) ∧ Hid (Fr w w1 o k x) ∧ Hid (IsL (w.heap.size + 2) w1 v1 ys) := by
  obtain ⟨v1, he, hi, hb⟩ := h
  rw [two_size] at hi hb
  exact ⟨v1, he, (Fr.start w o k x).later hb, hi⟩

set_option maxHeartbeats 1000000 in
theorem hDo_put {B : Nat} {v : Value} {xs ys : List Int} {w : World} {x c y : Int} (k : Int) (h : IsL B w v xs) (hp : ∀ W, IsL B W v xs → Calls Tryd.prog 77 #[v, .agg #[.int .i64 1, .int .i64 k, .int .i64 x]] W (Made W ys c y)) :
    Calls Tryd.prog 55 #[v, .agg #[.int .i64 1, .int .i64 k, .int .i64 x]] w (Made w ys c y) := by
  have P : Hid (Calls Tryd.prog 77 #[v, .agg #[.int .i64 1, .int .i64 k, .int .i64 x]] (two w 1 k x) (Made (two w 1 k x) ys c y)) := hp _ (h.later (Fr.start w 1 k x).gr)
  clear h hp
  go_enter Tryd.func55, Tryd.ntmps55
  go_wp2_with fail
  refine P.out.mono ?_
  intro e w1 hm
  obtain ⟨v1, rfl, F1, I1⟩ := hm.two
  clear hm P
  have r0 := F1.out.r0
  have r1 := F1.out.r1
  have f0 := F1.out.f0
  have f1 := F1.out.f1
  go_wp2
  refine bodyPost_ret (v := .tuple #[v1, .agg #[.int .i64 c, .int .i64 y]]) ?_ rfl (F1.out.made c y I1.out)
  have E := F1.out.ends c y
  unfold wr at E
  simp [results, Tryd.results55, go_sem, E.1, E.2.1]

set_option maxHeartbeats 1000000 in
theorem hDo_take {B : Nat} {v : Value} {xs ys : List Int} {w : World} {c y : Int} (k x : Int) (h : IsL B w v xs) (hp : ∀ W, IsL B W v xs → Calls Tryd.prog 78 #[v] W (Made W ys c y)) :
    Calls Tryd.prog 55 #[v, .agg #[.int .i64 2, .int .i64 k, .int .i64 x]] w (Made w ys c y) := by
  have P : Hid (Calls Tryd.prog 78 #[v] (two w 2 k x) (Made (two w 2 k x) ys c y)) := hp _ (h.later (Fr.start w 2 k x).gr)
  clear h hp
  go_enter Tryd.func55, Tryd.ntmps55
  go_wp2_with fail
  refine P.out.mono ?_
  intro e w1 hm
  obtain ⟨v1, rfl, F1, I1⟩ := hm.two
  clear hm P
  have r0 := F1.out.r0
  have r1 := F1.out.r1
  have f0 := F1.out.f0
  have f1 := F1.out.f1
  go_wp2
  refine bodyPost_ret (v := .tuple #[v1, .agg #[.int .i64 c, .int .i64 y]]) ?_ rfl (F1.out.made c y I1.out)
  have E := F1.out.ends c y
  unfold wr at E
  simp [results, Tryd.results55, go_sem, E.1, E.2.1]

set_option maxHeartbeats 1000000 in
theorem hDo_else {B : Nat} {v : Value} {xs ys : List Int} {w : World} {o x c y : Int} (k : Int) (n1 : o ≠ 1) (n2 : o ≠ 2) (h : IsL B w v xs) (hx : xs.length ≤ 1000000) (hq : qdo xs o x = (ys, c, y)) :
    Calls Tryd.prog 55 #[v, .agg #[.int .i64 o, .int .i64 k, .int .i64 x]] w (Made w ys c y) := by
  have P : Hid (Calls Tryd.prog 52 #[v, .agg #[.int .i64 o, .int .i64 k, .int .i64 x]] (two w o k x) (Made (two w o k x) ys c y)) := qDo_eq k (h.later (Fr.start w o k x).gr) hx hq
  have m1 : (o == 1) = false := by simp [n1]
  have m2 : (o == 2) = false := by simp [n2]
  clear h hq
  go_enter Tryd.func55, Tryd.ntmps55
  go_wp2_with fail
  refine P.out.mono ?_
  intro e w1 hm
  obtain ⟨v1, rfl, F1, I1⟩ := hm.two
  clear hm P
  have r0 := F1.out.r0
  have r1 := F1.out.r1
  have f0 := F1.out.f0
  have f1 := F1.out.f1
  go_wp2
  refine bodyPost_ret (v := .tuple #[v1, .agg #[.int .i64 c, .int .i64 y]]) ?_ rfl (F1.out.made c y I1.out)
  have E := F1.out.ends c y
  unfold wr at E
  simp [results, Tryd.results55, go_sem, E.1, E.2.1]

theorem hdo_put {xs : List Int} (x : Int) (h : xs.length < 6) : hdo xs 1 x = (rise (xs ++ [x]), 1, 0) := by simp [hdo, show ¬ 6 ≤ xs.length by omega]
theorem hdo_full {xs : List Int} (x : Int) (h : 6 ≤ xs.length) : hdo xs 1 x = (xs, 3, 0) := by simp [hdo, h]
theorem hdo_none (x : Int) : hdo [] 2 x = ([], 2, 0) := by simp [hdo]
theorem hdo_one (z x : Int) : hdo [z] 2 x = ([], 1, z) := by simp [hdo]
theorem hdo_more (z : Int) (r : List Int) (y x : Int) : hdo (z :: (r ++ [y])) 2 x = (sink (y :: r), 1, z) := by simp [hdo]
theorem hdo_else (xs : List Int) (o x : Int) (n1 : o ≠ 1) (n2 : o ≠ 2) : hdo xs o x = qdo xs o x := by simp [hdo, n1, n2]

theorem hDo_eq {B : Nat} {v : Value} {xs ys : List Int} {w : World} {o x c y : Int} (k : Int) (h : IsL B w v xs) (hx : xs.length ≤ 60) (hq : hdo xs o x = (ys, c, y)) :
    Calls Tryd.prog 55 #[v, .agg #[.int .i64 o, .int .i64 k, .int .i64 x]] w (Made w ys c y) := by
  by_cases n1 : o = 1
  · subst n1
    by_cases h6 : 6 ≤ xs.length
    · rw [hdo_full x h6] at hq
      simp only [Prod.mk.injEq] at hq
      obtain ⟨rfl, rfl, rfl⟩ := hq
      exact hDo_put k h fun W hW => hput_full k x hW (by omega) h6
    · rw [hdo_put x (by omega)] at hq
      simp only [Prod.mk.injEq] at hq
      obtain ⟨rfl, rfl, rfl⟩ := hq
      exact hDo_put k h fun W hW => hput_done k x hW (by omega)
  by_cases n2 : o = 2
  · subst n2
    refine hDo_take k x h fun W hW => ?_
    cases xs with
    | nil =>
      rw [hdo_none] at hq
      simp only [Prod.mk.injEq] at hq
      obtain ⟨rfl, rfl, rfl⟩ := hq
      exact htake_few hW (by simp) (by simp [sdo, qdo])
    | cons z r =>
      rcases List.eq_nil_or_concat r with rfl | ⟨r', t, rfl⟩
      · rw [hdo_one] at hq
        simp only [Prod.mk.injEq] at hq
        obtain ⟨rfl, rfl, rfl⟩ := hq
        exact htake_few hW (by simp) (by simp [sdo])
      · rw [List.concat_eq_append] at hW hx hq
        rw [hdo_more] at hq
        simp only [Prod.mk.injEq] at hq
        obtain ⟨rfl, rfl, rfl⟩ := hq
        exact htake_more hW (by simp at hx; omega)
  · rw [hdo_else xs o x n1 n2] at hq
    exact hDo_else k n1 n2 h (by omega) hq
end Go.Proofs.YtaipanjigindbaaDoor
namespace Go.Proofs.YtaipanjigindbaaDoor
set_option maxRecDepth 20000

theorem hdo_takes {z : Int} {r : List Int} (x : Int) (h : Hp (z :: r)) : ∃ ys, hdo (z :: r) 2 x = (ys, 1, z) ∧ ys.Perm r ∧ Hp ys := by
  rcases List.eq_nil_or_concat r with rfl | ⟨r', t, rfl⟩
  · exact ⟨[], hdo_one z x, .refl _, fun i _ hi => absurd hi (by simp)⟩
  · rw [List.concat_eq_append] at h ⊢
    refine ⟨sink (t :: r'), hdo_more z r' t x, (sink_perm _).trans ?_, sink_heap z t r' (Hp.cut (r := [t]) h)⟩
    exact (List.perm_append_comm (l₁ := [t]) (l₂ := r'))
theorem hdo_puts {xs : List Int} (x : Int) (h : Hp xs) (h6 : xs.length < 6) : ∃ ys, hdo xs 1 x = (ys, 1, 0) ∧ ys.Perm (xs ++ [x]) ∧ Hp ys :=
  ⟨_, hdo_put x h6, rise_perm _, rise_heap xs x h⟩
theorem qdo_keeps (xs : List Int) (o x : Int) (n1 : o ≠ 1) (n2 : o ≠ 2) : ∃ c y, qdo xs o x = (xs, c, y) := by
  by_cases n5 : o = 5
  · subst n5
    cases xs with
    | nil => exact ⟨2, 0, by simp [qdo]⟩
    | cons z r => exact ⟨1, z, by simp [qdo]⟩
  by_cases n6 : o = 6
  · exact ⟨1, xs.length, by simp [qdo, n6]⟩
  · exact ⟨5, 0, by simp [qdo, n1, n2, n5, n6]⟩
theorem hdo_keeps (xs : List Int) (o x : Int) (n1 : o ≠ 1) (n2 : o ≠ 2) : ∃ c y, hdo xs o x = (xs, c, y) := by
  rw [hdo_else xs o x n1 n2]
  exact qdo_keeps xs o x n1 n2
theorem Hp.nil : Hp [] := fun i _ hi => absurd hi (by simp)
theorem hdo_peeks (z : Int) (r : List Int) (x : Int) : hdo (z :: r) 5 x = (z :: r, 1, z) := by simp [hdo, qdo]
/-- What is put in and is less than all comes out. -/
theorem Hp.first {m l : List Int} {z : Int} (h : Hp m) (hm : m.Perm (l ++ [z])) (hz : ∀ y ∈ l, z ≤ y) : ∃ r, m = z :: r ∧ r.Perm l := by
  cases m with
  | nil => exact absurd hm.length_eq (by simp)
  | cons t r =>
    have h1 : t ≤ z := h.head z (hm.mem_iff.2 (by simp))
    have h2 : z ≤ t := by
      have : t ∈ l ++ [z] := hm.mem_iff.1 (by simp)
      rcases List.mem_append.1 this with h | h
      · exact hz t h
      · simp at h; omega
    obtain rfl : t = z := by omega
    refine ⟨r, rfl, ?_⟩
    have := hm.trans (List.perm_append_comm (l₁ := l) (l₂ := [t]))
    exact List.Perm.cons_inv this
/-- Of a heap that has the same things as a list that rises, the first one is the same. -/
theorem Hp.rises {m r : List Int} {z : Int} (h : Hp m) (hm : m.Perm (z :: r)) (hz : (z :: r).Pairwise (· ≤ ·)) : ∃ m', m = z :: m' ∧ m'.Perm r := by
  have h1 : ∀ y ∈ r, z ≤ y := (List.pairwise_cons.1 hz).1
  exact h.first (hm.trans (List.perm_append_comm (l₁ := [z]) (l₂ := r))) h1
end Go.Proofs.YtaipanjigindbaaDoor
namespace Go.Proofs.YtaipanjigindbaaDoor
set_option maxRecDepth 20000
set_option linter.unusedVariables false
open Go.RowKit

/-- What an operation makes of a tally, and its answer: 10.1. -/
def ado (n what value : Int) : Int × Int × Int :=
  if what = 1 then (if 4294967295 < n + value then (n, 3, 0) else (n + value, 1, n))
  else if what = 2 then (if n < value then (n, 2, 0) else (n - value, 1, n))
  else if what = 5 ∨ what = 6 then (n, 1, n) else (n, 5, 0)

theorem aDo_put_full (n k x : Int) (n0 : 0 ≤ n) (n1 : n ≤ 4294967295) (x0 : 0 ≤ x) (x1 : x ≤ 4294967295) (h : 4294967295 < n + x) (w : World) :
    Calls Tryd.prog 81 #[.int .i64 n, .agg #[.int .i64 1, .int .i64 k, .int .i64 x]] w fun e w' => e = .returned (.tuple #[.int .i64 (n), .agg #[.int .i64 3, .int .i64 0]]) ∧ Below w.heap.size w w' := by
  have hs : IntKind.i64.wrap (n + x) = n + x := by rw [IntKind.wrap_i64]; omega
  go_enter Tryd.func81, Tryd.ntmps81
  go_wp2
  try (go_region; all_goals go_wp2)
  all_goals exact bodyPost_ret (v := .tuple #[.int .i64 (n), .agg #[.int .i64 3, .int .i64 0]]) (by simp [results, Tryd.results81, go_sem]) rfl ⟨rfl, by repeat first | with_reducible exact Below.refl _ _ | with_reducible apply Below.drew | (with_reducible refine Below.alloc ?_ ?g _; case g => (simp <;> omega)) | (with_reducible refine Below.setCell ?_ ?g _; case g => (simp <;> omega))⟩
theorem aDo_put (n k x : Int) (n0 : 0 ≤ n) (n1 : n ≤ 4294967295) (x0 : 0 ≤ x) (x1 : x ≤ 4294967295) (h : n + x ≤ 4294967295) (w : World) :
    Calls Tryd.prog 81 #[.int .i64 n, .agg #[.int .i64 1, .int .i64 k, .int .i64 x]] w fun e w' => e = .returned (.tuple #[.int .i64 (n + x), .agg #[.int .i64 1, .int .i64 n]]) ∧ Below w.heap.size w w' := by
  have hs : IntKind.i64.wrap (n + x) = n + x := by rw [IntKind.wrap_i64]; omega
  go_enter Tryd.func81, Tryd.ntmps81
  go_wp2
  try (go_region; all_goals go_wp2)
  all_goals exact bodyPost_ret (v := .tuple #[.int .i64 (n + x), .agg #[.int .i64 1, .int .i64 n]]) (by simp [results, Tryd.results81, go_sem]) rfl ⟨rfl, by repeat first | with_reducible exact Below.refl _ _ | with_reducible apply Below.drew | (with_reducible refine Below.alloc ?_ ?g _; case g => (simp <;> omega)) | (with_reducible refine Below.setCell ?_ ?g _; case g => (simp <;> omega))⟩
theorem aDo_take_none (n k x : Int) (n0 : 0 ≤ n) (n1 : n ≤ 4294967295) (x0 : 0 ≤ x) (x1 : x ≤ 4294967295) (h : n < x) (w : World) :
    Calls Tryd.prog 81 #[.int .i64 n, .agg #[.int .i64 2, .int .i64 k, .int .i64 x]] w fun e w' => e = .returned (.tuple #[.int .i64 (n), .agg #[.int .i64 2, .int .i64 0]]) ∧ Below w.heap.size w w' := by
  have hs : IntKind.i64.wrap (n - x) = n - x := by rw [IntKind.wrap_i64]; omega
  have hd : n - x < 0 := by omega
  go_enter Tryd.func81, Tryd.ntmps81
  go_wp2
  try (go_region; all_goals go_wp2)
  all_goals exact bodyPost_ret (v := .tuple #[.int .i64 (n), .agg #[.int .i64 2, .int .i64 0]]) (by simp [results, Tryd.results81, go_sem]) rfl ⟨rfl, by repeat first | with_reducible exact Below.refl _ _ | with_reducible apply Below.drew | (with_reducible refine Below.alloc ?_ ?g _; case g => (simp <;> omega)) | (with_reducible refine Below.setCell ?_ ?g _; case g => (simp <;> omega))⟩
theorem aDo_take (n k x : Int) (n0 : 0 ≤ n) (n1 : n ≤ 4294967295) (x0 : 0 ≤ x) (x1 : x ≤ 4294967295) (h : x ≤ n) (w : World) :
    Calls Tryd.prog 81 #[.int .i64 n, .agg #[.int .i64 2, .int .i64 k, .int .i64 x]] w fun e w' => e = .returned (.tuple #[.int .i64 (n - x), .agg #[.int .i64 1, .int .i64 n]]) ∧ Below w.heap.size w w' := by
  have hs : IntKind.i64.wrap (n - x) = n - x := by rw [IntKind.wrap_i64]; omega
  have hd : 0 ≤ n - x := by omega
  go_enter Tryd.func81, Tryd.ntmps81
  go_wp2
  try (go_region; all_goals go_wp2)
  all_goals exact bodyPost_ret (v := .tuple #[.int .i64 (n - x), .agg #[.int .i64 1, .int .i64 n]]) (by simp [results, Tryd.results81, go_sem]) rfl ⟨rfl, by repeat first | with_reducible exact Below.refl _ _ | with_reducible apply Below.drew | (with_reducible refine Below.alloc ?_ ?g _; case g => (simp <;> omega)) | (with_reducible refine Below.setCell ?_ ?g _; case g => (simp <;> omega))⟩
theorem aDo_look5 (n k x : Int) (n0 : 0 ≤ n) (n1 : n ≤ 4294967295) (x0 : 0 ≤ x) (x1 : x ≤ 4294967295)  (w : World) :
    Calls Tryd.prog 81 #[.int .i64 n, .agg #[.int .i64 5, .int .i64 k, .int .i64 x]] w fun e w' => e = .returned (.tuple #[.int .i64 (n), .agg #[.int .i64 1, .int .i64 n]]) ∧ Below w.heap.size w w' := by
  go_enter Tryd.func81, Tryd.ntmps81
  go_wp2
  try (go_region; all_goals go_wp2)
  all_goals exact bodyPost_ret (v := .tuple #[.int .i64 (n), .agg #[.int .i64 1, .int .i64 n]]) (by simp [results, Tryd.results81, go_sem]) rfl ⟨rfl, by repeat first | with_reducible exact Below.refl _ _ | with_reducible apply Below.drew | (with_reducible refine Below.alloc ?_ ?g _; case g => (simp <;> omega)) | (with_reducible refine Below.setCell ?_ ?g _; case g => (simp <;> omega))⟩
theorem aDo_look6 (n k x : Int) (n0 : 0 ≤ n) (n1 : n ≤ 4294967295) (x0 : 0 ≤ x) (x1 : x ≤ 4294967295)  (w : World) :
    Calls Tryd.prog 81 #[.int .i64 n, .agg #[.int .i64 6, .int .i64 k, .int .i64 x]] w fun e w' => e = .returned (.tuple #[.int .i64 (n), .agg #[.int .i64 1, .int .i64 n]]) ∧ Below w.heap.size w w' := by
  go_enter Tryd.func81, Tryd.ntmps81
  go_wp2
  try (go_region; all_goals go_wp2)
  all_goals exact bodyPost_ret (v := .tuple #[.int .i64 (n), .agg #[.int .i64 1, .int .i64 n]]) (by simp [results, Tryd.results81, go_sem]) rfl ⟨rfl, by repeat first | with_reducible exact Below.refl _ _ | with_reducible apply Below.drew | (with_reducible refine Below.alloc ?_ ?g _; case g => (simp <;> omega)) | (with_reducible refine Below.setCell ?_ ?g _; case g => (simp <;> omega))⟩
theorem aDo_wrong (o : Int) (n k x : Int) (n0 : 0 ≤ n) (n1 : n ≤ 4294967295) (x0 : 0 ≤ x) (x1 : x ≤ 4294967295) (m1 : (o == 1) = false) (m2 : (o == 2) = false) (m5 : (o == 5) = false) (m6 : (o == 6) = false) (w : World) :
    Calls Tryd.prog 81 #[.int .i64 n, .agg #[.int .i64 o, .int .i64 k, .int .i64 x]] w fun e w' => e = .returned (.tuple #[.int .i64 (n), .agg #[.int .i64 5, .int .i64 0]]) ∧ Below w.heap.size w w' := by
  go_enter Tryd.func81, Tryd.ntmps81
  go_wp2
  try (go_region; all_goals go_wp2)
  all_goals exact bodyPost_ret (v := .tuple #[.int .i64 (n), .agg #[.int .i64 5, .int .i64 0]]) (by simp [results, Tryd.results81, go_sem]) rfl ⟨rfl, by repeat first | with_reducible exact Below.refl _ _ | with_reducible apply Below.drew | (with_reducible refine Below.alloc ?_ ?g _; case g => (simp <;> omega)) | (with_reducible refine Below.setCell ?_ ?g _; case g => (simp <;> omega))⟩
theorem aDo_eq {n o k x m c y : Int} (n0 : 0 ≤ n) (n1 : n ≤ 4294967295) (x0 : 0 ≤ x) (x1 : x ≤ 4294967295) (h : ado n o x = (m, c, y)) (w : World) :
    Calls Tryd.prog 81 #[.int .i64 n, .agg #[.int .i64 o, .int .i64 k, .int .i64 x]] w fun e w' => e = .returned (.tuple #[.int .i64 m, .agg #[.int .i64 c, .int .i64 y]]) ∧ Below w.heap.size w w' := by
  unfold ado at h
  by_cases e1 : o = 1
  · subst e1
    by_cases hf : 4294967295 < n + x
    · simp [hf] at h; obtain ⟨rfl, rfl, rfl⟩ := h; exact aDo_put_full n k x n0 n1 x0 x1 hf w
    · simp [hf] at h; obtain ⟨rfl, rfl, rfl⟩ := h; exact aDo_put n k x n0 n1 x0 x1 (by omega) w
  by_cases e2 : o = 2
  · subst e2
    by_cases hf : n < x
    · simp [hf] at h; obtain ⟨rfl, rfl, rfl⟩ := h; exact aDo_take_none n k x n0 n1 x0 x1 hf w
    · simp [hf] at h; obtain ⟨rfl, rfl, rfl⟩ := h; exact aDo_take n k x n0 n1 x0 x1 (by omega) w
  by_cases e5 : o = 5
  · subst e5
    simp at h; obtain ⟨rfl, rfl, rfl⟩ := h; exact aDo_look5 n k x n0 n1 x0 x1 w
  by_cases e6 : o = 6
  · subst e6
    simp at h; obtain ⟨rfl, rfl, rfl⟩ := h; exact aDo_look6 n k x n0 n1 x0 x1 w
  · simp [e1, e2, e5, e6] at h; obtain ⟨rfl, rfl, rfl⟩ := h
    exact aDo_wrong o n k x n0 n1 x0 x1 (by simp [e1]) (by simp [e2]) (by simp [e5]) (by simp [e6]) w
end Go.Proofs.YtaipanjigindbaaDoor
namespace Go.Proofs.YtaipanjigindbaaDoor.Tab
set_option maxRecDepth 20000
open Go.RowKit
set_option linter.unusedVariables false

/-- What every list does: facts of queues, stacks, deques and heaps alike. -/
structure LF (two : Bool) (xs : List Int) (o x : Int) (r : List Int × Int × Int) : Prop where
  len : r.1.length ≤ 6
  val : ∀ z ∈ r.1, 0 ≤ z ∧ z ≤ 4294967295
  code : 1 ≤ r.2.1 ∧ r.2.1 ≤ 5
  told : 0 ≤ r.2.2 ∧ r.2.2 ≤ 4294967295
  zero : r.2.1 ≠ 1 → r.2.2 = 0
  same : (r.2.1 ≠ 1 ∨ o = 5 ∨ o = 6) → r.1 = xs
  less : r.2.1 = 1 → (o = 2 ∨ o = 4) → r.1.length + 1 = xs.length
  more : r.2.1 = 1 → (o = 1 ∨ o = 3) → r.1.length = xs.length + 1
  count : o = 6 → r.2.1 = 1 ∧ r.2.2 = xs.length
  wrong : r.2.1 = 5 ↔ ((o = 3 ∨ o = 4) ∧ two = false)
  take : o = 2 → (r.2.1 = 2 ∧ xs.length = 0) ∨ (r.2.1 = 1 ∧ 0 < xs.length)
  put : o = 1 → (r.2.1 = 3 ∧ xs.length = 6) ∨ (r.2.1 = 1 ∧ xs.length < 6)

theorem qdo_facts {xs : List Int} {o k x : Int} (hl : xs.length ≤ 6) (hv : ∀ z ∈ xs, 0 ≤ z ∧ z ≤ 4294967295) (w1 : 1 ≤ o) (w6 : o ≤ 6) (v0 : 0 ≤ x) (v1 : x ≤ 4294967295) : LF false xs o x (qdo xs o x) := by
  have : o = 1 ∨ o = 2 ∨ o = 3 ∨ o = 4 ∨ o = 5 ∨ o = 6 := by omega
  rcases this with rfl | rfl | rfl | rfl | rfl | rfl
  · by_cases h6 : 6 ≤ xs.length
    · have e : qdo xs 1 x = (xs, 3, 0) := by simp [qdo, h6]
      rw [e]
      constructor <;> first | exact hv | (simp <;> omega)
    · have e : qdo xs 1 x = (xs ++ [x], 1, 0) := by simp [qdo, h6]
      rw [e]
      constructor <;> first | (intro z hz; simp at hz; rcases hz with hz | rfl; exact hv z hz; exact ⟨v0, v1⟩) | (simp <;> omega)
  · cases xs with
    | nil =>
      have e : qdo [] 2 x = ([], 2, 0) := by simp [qdo]
      rw [e]
      constructor <;> simp
    | cons z r =>
      have e : qdo (z :: r) 2 x = (r, 1, z) := by simp [qdo]
      have hz := hv z (by simp)
      simp at hl
      rw [e]
      constructor <;> first | (intro y hy; exact hv y (by simp [hy])) | (simp <;> omega)
  · have e : qdo xs 3 x = (xs, 5, 0) := by simp [qdo]
    rw [e]
    constructor <;> first | exact hv | (simp <;> omega)
  · have e : qdo xs 4 x = (xs, 5, 0) := by simp [qdo]
    rw [e]
    constructor <;> first | exact hv | (simp <;> omega)
  · cases xs with
    | nil =>
      have e : qdo [] 5 x = ([], 2, 0) := by simp [qdo]
      rw [e]
      constructor <;> simp
    | cons z r =>
      have e : qdo (z :: r) 5 x = (z :: r, 1, z) := by simp [qdo]
      have hz := hv z (by simp)
      rw [e]
      constructor <;> first | exact hv | exact hl | (simp <;> omega)
  · have e : qdo xs 6 x = (xs, 1, (xs.length : Int)) := by simp [qdo]
    rw [e]
    constructor <;> first | exact hv | (simp <;> omega)

theorem sdo_facts {xs : List Int} {o k x : Int} (hl : xs.length ≤ 6) (hv : ∀ z ∈ xs, 0 ≤ z ∧ z ≤ 4294967295) (w1 : 1 ≤ o) (w6 : o ≤ 6) (v0 : 0 ≤ x) (v1 : x ≤ 4294967295) : LF false xs o x (sdo xs o x) := by
  rcases List.eq_nil_or_concat xs with rfl | ⟨r, z, rfl⟩
  · rw [sdo_nil]; exact qdo_facts (k := k) hl hv w1 w6 v0 v1
  · rw [List.concat_eq_append] at *
    have hz := hv z (by simp)
    by_cases e2 : o = 2
    · subst e2
      rw [sdo_take]
      simp at hl
      constructor <;> first | (intro y hy; exact hv y (by simp [hy])) | (simp <;> omega)
    by_cases e5 : o = 5
    · subst e5
      rw [sdo_peek]
      constructor <;> first | exact hv | exact hl | (simp <;> omega)
    rw [sdo_other _ _ _ e2 e5]; exact qdo_facts (k := k) hl hv w1 w6 v0 v1

theorem ddo_facts {xs : List Int} {o k x : Int} (hl : xs.length ≤ 6) (hv : ∀ z ∈ xs, 0 ≤ z ∧ z ≤ 4294967295) (w1 : 1 ≤ o) (w6 : o ≤ 6) (v0 : 0 ≤ x) (v1 : x ≤ 4294967295) : LF true xs o x (ddo xs o x) := by
  by_cases e3 : o = 3
  · subst e3
    by_cases h6 : 6 ≤ xs.length
    · have e : ddo xs 3 x = (xs, 3, 0) := by simp [ddo, h6]
      rw [e]
      constructor <;> first | exact hv | (simp <;> omega)
    · have e : ddo xs 3 x = (x :: xs, 1, 0) := by simp [ddo, h6]
      rw [e]
      constructor <;> first | (intro z hz; simp at hz; rcases hz with rfl | hz; exact ⟨v0, v1⟩; exact hv z hz) | (simp <;> omega)
  by_cases e4 : o = 4
  · subst e4
    have e : ddo xs 4 x = sdo xs 2 0 := by simp [ddo]
    rw [e]
    rcases List.eq_nil_or_concat xs with rfl | ⟨r, z, rfl⟩
    · have e : sdo [] 2 0 = ([], 2, 0) := by simp [sdo, qdo]
      rw [e]
      constructor <;> simp
    · rw [List.concat_eq_append] at *
      have hz := hv z (by simp)
      rw [sdo_take]
      simp at hl
      constructor <;> first | (intro y hy; exact hv y (by simp [hy])) | (simp <;> omega)
  have e : ddo xs o x = qdo xs o x := by simp [ddo, e3, e4]
  rw [e]
  have := qdo_facts (k := k) hl hv w1 w6 v0 v1
  exact { this with wrong := by rw [this.wrong]; simp [e3, e4] }

theorem hdo_facts {xs : List Int} {o k x : Int} (hl : xs.length ≤ 6) (hv : ∀ z ∈ xs, 0 ≤ z ∧ z ≤ 4294967295) (hp : Hp xs) (w1 : 1 ≤ o) (w6 : o ≤ 6) (v0 : 0 ≤ x) (v1 : x ≤ 4294967295) : LF false xs o x (hdo xs o x) ∧ Hp (hdo xs o x).1 := by
  by_cases e1 : o = 1
  · subst e1
    by_cases h6 : 6 ≤ xs.length
    · rw [hdo_full x h6]
      refine ⟨?_, hp⟩
      constructor <;> first | exact hv | (simp <;> omega)
    · obtain ⟨ys, e, p, h⟩ := hdo_puts x hp (by omega)
      rw [e]
      refine ⟨?_, h⟩
      have pl := p.length_eq
      simp at pl
      constructor <;> first | (intro z hz; rcases List.mem_append.1 (p.mem_iff.1 hz) with hz | hz; exact hv z hz; (simp at hz; subst hz; exact ⟨v0, v1⟩)) | (simp <;> omega)
  by_cases e2 : o = 2
  · subst e2
    cases xs with
    | nil =>
      rw [hdo_none]
      refine ⟨?_, Hp.nil⟩
      constructor <;> simp
    | cons z r =>
      obtain ⟨ys, e, p, h⟩ := hdo_takes x hp
      rw [e]
      refine ⟨?_, h⟩
      have pl := p.length_eq
      have hz := hv z (by simp)
      simp at hl
      constructor <;> first | (intro y hy; exact hv y (by simp [p.mem_iff.1 hy])) | (simp <;> omega)
  obtain ⟨c, y, e⟩ := hdo_keeps xs o x e1 e2
  refine ⟨?_, by rw [e]; exact hp⟩
  rw [hdo_else _ _ _ e1 e2]; exact qdo_facts (k := k) hl hv w1 w6 v0 v1
/-- What a table does. -/
structure TF (t : Tb) (o k x : Int) (r : Tb × Int × Int) : Prop where
  rt : RT r.1
  code : 1 ≤ r.2.1 ∧ r.2.1 ≤ 5
  told : 0 ≤ r.2.2 ∧ r.2.2 ≤ 4294967295
  zero : r.2.1 ≠ 1 → r.2.2 = 0
  same : (r.2.1 ≠ 1 ∨ o = 5 ∨ o = 6) → r.1 = t
  less : r.2.1 = 1 → (o = 2 ∨ o = 4) → len r.1 + 1 = len t
  more : r.2.1 = 1 → (o = 1 ∨ o = 3) → len r.1 = len t + 1 ∨ len r.1 = len t
  count : o = 6 → r.2.1 = 1 ∧ r.2.2 = len t
  wrong : r.2.1 = 5 ↔ (o ≠ 6 ∧ (o = 3 ∨ o = 4 ∨ k = 0))
theorem tdo_facts {t : Tb} (h : RT t) {o k x : Int} (w1 : 1 ≤ o) (w6 : o ≤ 6) (k0 : 0 ≤ k) (k1 : k ≤ 1000) (v0 : 0 ≤ x) (v1 : x ≤ 4294967295) : TF t o k x (tdo t o k x) := by
  have st := (tdo_stays h (o := o) (k := k) v0 v1).1
  have hr := h.room
  by_cases h6 : o = 6
  · subst h6; rw [tdo_count] at st ⊢
    exact ⟨st, by simp, ⟨by simp, by simp; omega⟩, by simp, by simp, by simp, by simp, by simp, by simp⟩
  by_cases hb : byKey o k
  · obtain ⟨ho, hk1, hk2⟩ := hb
    have hk0 : k ≠ 0 := by omega
    have hp := place_lt t k
    by_cases hh : t.k (place t k) = k
    · have hn : t.k (place t k) ≠ 0 := by rw [hh]; exact hk0
      have hvv := h.vals _ hp
      rcases ho with rfl | rfl | rfl
      · rw [tdo_put x hk1 hk2 (Or.inl hh)] at st ⊢
        have l := len_set t hp k x
        have hi : ind t (place t k) = 1 := by unfold ind; rw [if_neg hn]
        rw [if_neg hk0] at l
        exact ⟨st, by simp, by simp, by simp, by simp, by simp, fun _ _ => Or.inr (by simp only; omega), by simp, by simp [hk0]⟩
      · rw [tdo_take x hk1 hk2 hh] at st ⊢
        obtain ⟨a, -, c⟩ := without_all h hp hn
        exact ⟨st, by simp, hvv, by simp, by simp, fun _ _ => c, by simp, by simp, by simp [hk0]⟩
      · rw [tdo_peek x hk1 hk2, look, if_pos hh]
        exact ⟨h, by simp, hvv, by simp, by simp, by simp, by simp, by simp, by simp [hk0]⟩
    · rcases ho with rfl | rfl | rfl
      · by_cases hl : 6 ≤ len t
        · rw [tdo_full x hk1 hk2 hh hl]
          exact ⟨h, by simp, by simp, by simp, by simp, by simp, by simp, by simp, by simp [hk0]⟩
        · rw [tdo_put x hk1 hk2 (Or.inr (by omega))] at st ⊢
          have l := len_set t hp k x
          have hi := ind_le t (place t k)
          have hf := free_of_place h hh
          have hi : ind t (place t k) = 0 := by unfold ind; rw [if_pos hf]
          rw [if_neg hk0] at l
          exact ⟨st, by simp, by simp, by simp, by simp, by simp, fun _ _ => Or.inl (by simp only; omega), by simp, by simp [hk0]⟩
      · rw [tdo_absent x (Or.inl rfl) hk1 hk2 hh]
        exact ⟨h, by simp, by simp, by simp, by simp, by simp, by simp, by simp, by simp [hk0]⟩
      · rw [tdo_absent x (Or.inr rfl) hk1 hk2 hh]
        exact ⟨h, by simp, by simp, by simp, by simp, by simp, by simp, by simp, by simp [hk0]⟩
  · rw [tdo_wrong t x h6 hb]
    refine ⟨h, by simp, by simp, by simp, by simp, by simp, by simp, fun e => absurd e h6, ?_⟩
    simp only [true_iff]
    refine ⟨h6, ?_⟩
    unfold byKey at hb
    omega
/-- What a tally does. -/
structure AF (n o x : Int) (r : Int × Int × Int) : Prop where
  rt : 0 ≤ r.1 ∧ r.1 ≤ 4294967295
  code : 1 ≤ r.2.1 ∧ r.2.1 ≤ 5
  told : 0 ≤ r.2.2 ∧ r.2.2 ≤ 4294967295
  zero : r.2.1 ≠ 1 → r.2.2 = 0
  same : (r.2.1 ≠ 1 ∨ o = 5 ∨ o = 6) → r.1 = n
  count : o = 6 → r.2.1 = 1 ∧ r.2.2 = n
  wrong : r.2.1 = 5 ↔ (o = 3 ∨ o = 4)
theorem ado_facts {n o x : Int} (n0 : 0 ≤ n) (n1 : n ≤ 4294967295) (w1 : 1 ≤ o) (w6 : o ≤ 6) (v0 : 0 ≤ x) (v1 : x ≤ 4294967295) : AF n o x (ado n o x) := by
  have : o = 1 ∨ o = 2 ∨ o = 3 ∨ o = 4 ∨ o = 5 ∨ o = 6 := by omega
  rcases this with rfl | rfl | rfl | rfl | rfl | rfl
  · by_cases h : 4294967295 < n + x
    · have e : ado n 1 x = (n, 3, 0) := by simp [ado, h]
      rw [e]; constructor <;> (simp <;> omega)
    · have e : ado n 1 x = (n + x, 1, n) := by simp [ado, h]
      rw [e]; constructor <;> (simp <;> omega)
  · by_cases h : n < x
    · have e : ado n 2 x = (n, 2, 0) := by simp [ado, h]
      rw [e]; constructor <;> (simp <;> omega)
    · have e : ado n 2 x = (n - x, 1, n) := by simp [ado, h]
      rw [e]; constructor <;> (simp <;> omega)
  · have e : ado n 3 x = (n, 5, 0) := by simp [ado]
    rw [e]; constructor <;> (simp <;> omega)
  · have e : ado n 4 x = (n, 5, 0) := by simp [ado]
    rw [e]; constructor <;> (simp <;> omega)
  · have e : ado n 5 x = (n, 1, n) := by simp [ado]
    rw [e]; constructor <;> (simp <;> omega)
  · have e : ado n 6 x = (n, 1, n) := by simp [ado]
    rw [e]; constructor <;> (simp <;> omega)

/-- 11.1's Do: what an object is then, as words, and its answer. -/
def ldo (kind : Int) (l : List Int) (o x : Int) : List Int × Int × Int := if kind = 1 then qdo l o x else if kind = 2 then sdo l o x else if kind = 3 then ddo l o x else hdo l o x
def odo (kind : Int) (c : Nat → Nat) (o k x : Int) : (Nat → Nat) × Int × Int :=
  if kind = 5 then (tw (tdo (tbl c) o k x).1, (tdo (tbl c) o k x).2) else if kind = 6 then (tyw (ado (c 0) o x).1, (ado (c 0) o x).2) else (lw (ldo kind (lst c) o x).1, (ldo kind (lst c) o x).2)
/-- How many things there are in an object. -/
def osz (kind : Int) (c : Nat → Nat) : Int := if kind = 5 then (len (tbl c) : Int) else (c 0 : Nat)

theorem WList.congr {c d : Nat → Nat} (h : WList c) (e : ∀ j, j < 17 → d j = c j) : WList d where
  len := by rw [e 0 (by decide)]; exact h.len
  val i h1 h2 := by rw [e 0 (by decide)] at h2; have := h.len; rw [e i (by omega)]; exact h.val i h1 h2
  rest i h1 h2 := by rw [e 0 (by decide)] at h1; rw [e i h2]; exact h.rest i h1 h2
theorem tw_tbl {c : Nat → Nat} (h : upC c 16 1 0 = true) : wl (tw (tbl c)) = wl c := wl_congr fun j hj => by
  unfold tw tbl
  by_cases h16 : j < 16
  · rw [if_pos h16]
    split
    · simp only [Int.toNat_natCast]; congr 1; omega
    · simp only [Int.toNat_natCast]; congr 1; omega
  · rw [if_neg h16]
    have := upC_all h (j := j) (by omega) (by omega)
    omega
theorem tyw_0 {c : Nat → Nat} (h : isTb c = true) : wl (tyw (c 0 : Nat)) = wl c := wl_congr fun j hj => by
  unfold isTb at h
  simp only [Bool.and_eq_true] at h
  unfold tyw
  by_cases e : j = 0
  · subst e; simp
  · rw [if_neg e]
    have := upC_all h.2 (j := j) (by omega) (by omega)
    omega
theorem tbl_tw {t : Tb} (h : RT t) : (tbl (tw t)).k 0 = t.k 0 ∧ ∀ i, i < 8 → (tbl (tw t)).k i = t.k i ∧ (tbl (tw t)).v i = t.v i := by
  have H : ∀ i, i < 8 → (tbl (tw t)).k i = t.k i ∧ (tbl (tw t)).v i = t.v i := fun i hi => by
    have a := h.keys i hi
    have b := h.vals i hi
    have e1 : 2 * i / 2 = i := by omega
    have e2 : (2 * i + 1) / 2 = i := by omega
    have e3 : 2 * i % 2 = 0 := by omega
    have e4 : ¬ (2 * i + 1) % 2 = 0 := by omega
    constructor
    · show ((tw t (2 * i) : Nat) : Int) = t.k i
      unfold tw; rw [if_pos (by omega), if_pos e3, e1]; omega
    · show ((tw t (2 * i + 1) : Nat) : Int) = t.v i
      unfold tw; rw [if_pos (by omega), if_neg e4, e2]; omega
  exact ⟨(H 0 (by decide)).1, H⟩
theorem ind_congr {t u : Tb} {i : Nat} (h : u.k i = t.k i) : ind u i = ind t i := by unfold ind; rw [h]
theorem len_congr {t u : Tb} (h : ∀ i, i < 8 → u.k i = t.k i ∧ u.v i = t.v i) : len u = len t := by
  unfold len
  rw [ind_congr (h 0 (by decide)).1, ind_congr (h 1 (by decide)).1, ind_congr (h 2 (by decide)).1, ind_congr (h 3 (by decide)).1, ind_congr (h 4 (by decide)).1, ind_congr (h 5 (by decide)).1, ind_congr (h 6 (by decide)).1, ind_congr (h 7 (by decide)).1]
theorem RT.congr {t u : Tb} (hr : RT t) (h : ∀ i, i < 8 → u.k i = t.k i ∧ u.v i = t.v i) : RT u where
  keys p hp := by rw [(h p hp).1]; exact hr.keys p hp
  vals p hp := by rw [(h p hp).2]; exact hr.vals p hp
  none p hp := by rw [(h p hp).1, (h p hp).2]; exact hr.none p hp
  row p hp := by
    rw [(h p hp).1]
    intro h0 q hq hd
    have := hr.row p hp h0 q hq hd
    unfold Hit at this ⊢
    rw [(h q hq).1]; exact this
  room := by rw [len_congr h]; exact hr.room
theorem wtab_tw {t : Tb} (h : RT t) : WTab (tw t) := by
  refine ⟨upC_iff.2 fun j hj => ?_, upC_iff.2 fun j hj => ?_, h.congr (tbl_tw h).2⟩
  · have a := h.keys ((0 + j) / 2) (by omega)
    have b := h.vals ((0 + j) / 2) (by omega)
    unfold tw
    rw [if_pos (by omega)]
    split <;> omega
  · unfold tw
    rw [if_neg (by omega)]
    decide
theorem isTb_tyw {n : Int} (h0 : 0 ≤ n) (h1 : n ≤ 4294967295) : isTb (tyw n) = true := by
  unfold isTb
  simp only [Bool.and_eq_true]
  refine ⟨upC_iff.2 fun j hj => ?_, upC_iff.2 fun j hj => ?_⟩
  · obtain rfl : j = 0 := by omega
    unfold tyw; simp; omega
  · unfold tyw; rw [if_neg (by omega)]; decide

/-- What every object does. -/
structure OF (kind : Int) (c : Nat → Nat) (o k x : Int) (r : (Nat → Nat) × Int × Int) : Prop where
  ob : isOb kind r.1
  code : 1 ≤ r.2.1 ∧ r.2.1 ≤ 5
  told : 0 ≤ r.2.2 ∧ r.2.2 ≤ 4294967295
  zero : r.2.1 ≠ 1 → r.2.2 = 0
  same : (r.2.1 ≠ 1 ∨ o = 5 ∨ o = 6) → wl r.1 = wl c
  less : kind ≠ 6 → r.2.1 = 1 → (o = 2 ∨ o = 4) → osz kind r.1 + 1 = osz kind c
  more : kind ≠ 6 → r.2.1 = 1 → (o = 1 ∨ o = 3) → osz kind r.1 = osz kind c + 1 ∨ (kind = 5 ∧ osz kind r.1 = osz kind c)
  count : o = 6 → r.2.1 = 1 ∧ r.2.2 = osz kind c
  wrong : r.2.1 = 5 ↔ (((o = 3 ∨ o = 4) ∧ kind ≠ 3) ∨ (kind = 5 ∧ o ≠ 6 ∧ (o = 3 ∨ o = 4 ∨ k = 0)))
  take : kind ≤ 4 → o = 2 → (r.2.1 = 2 ∧ osz kind c = 0) ∨ (r.2.1 = 1 ∧ 0 < osz kind c)
  put : kind ≤ 4 → o = 1 → (r.2.1 = 3 ∧ osz kind c = 6) ∨ (r.2.1 = 1 ∧ osz kind c < 6)
theorem isOb_kind {kind : Int} {c : Nat → Nat} (h : isOb kind c) : 1 ≤ kind ∧ kind ≤ 6 := by
  rcases h with ⟨h | h | h, _⟩ | ⟨h, _⟩ | ⟨h, _⟩ | ⟨h, _⟩ <;> subst h <;> decide
theorem osz_in {kind : Int} {c : Nat → Nat} (h : isOb kind c) : 0 ≤ osz kind c ∧ (kind ≠ 6 → osz kind c ≤ 6) ∧ osz kind c ≤ 4294967295 := by
  unfold osz
  rcases h with ⟨hk, hl⟩ | ⟨hk, hl, _⟩ | ⟨hk, _, _, hr⟩ | ⟨hk, hl⟩
  · have := (isLb_w hl).len
    rw [if_neg (by omega)]; omega
  · have := (isLb_w hl).len
    rw [if_neg (by omega)]; omega
  · have := hr.room
    rw [if_pos hk]; omega
  · unfold isTb at hl
    simp only [Bool.and_eq_true] at hl
    have := upC_all hl.1 (j := 0) (by omega) (by omega)
    rw [if_neg (by omega)]; omega
theorem ldo_facts {kind : Int} {l : List Int} {o k x : Int} (h1 : 1 ≤ kind) (h4 : kind ≤ 4) (hl : l.length ≤ 6) (hv : ∀ z ∈ l, 0 ≤ z ∧ z ≤ 4294967295) (hp : kind = 4 → Hp l) (w1 : 1 ≤ o) (w6 : o ≤ 6) (v0 : 0 ≤ x) (v1 : x ≤ 4294967295) :
    LF (decide (kind = 3)) l o x (ldo kind l o x) ∧ (kind = 4 → Hp (ldo kind l o x).1) := by
  have : kind = 1 ∨ kind = 2 ∨ kind = 3 ∨ kind = 4 := by omega
  rcases this with rfl | rfl | rfl | rfl
  · exact ⟨qdo_facts (k := k) hl hv w1 w6 v0 v1, by simp⟩
  · exact ⟨sdo_facts (k := k) hl hv w1 w6 v0 v1, by simp⟩
  · exact ⟨ddo_facts (k := k) hl hv w1 w6 v0 v1, by simp⟩
  · have := hdo_facts (k := k) hl hv (hp rfl) w1 w6 v0 v1
    exact ⟨this.1, fun _ => this.2⟩
theorem isOb_list {kind : Int} {c : Nat → Nat} (h4 : kind ≤ 4) (h : isOb kind c) : isLb c = true ∧ (kind = 4 → Hp (lst c)) := by
  rcases h with ⟨hk, hl⟩ | ⟨hk, hl, hp⟩ | ⟨hk, _⟩ | ⟨hk, _⟩
  · exact ⟨hl, by omega⟩
  · exact ⟨hl, fun _ => hp⟩
  · omega
  · omega
theorem isOb_ofList {kind : Int} {l : List Int} (h1 : 1 ≤ kind) (h4 : kind ≤ 4) (hl : l.length ≤ 6) (hv : ∀ z ∈ l, 0 ≤ z ∧ z ≤ 4294967295) (hp : kind = 4 → Hp l) : isOb kind (lw l) := by
  have := isLb_of (lw_in hl hv)
  by_cases e : kind = 4
  · exact Or.inr (Or.inl ⟨e, this, by rw [lst_lw hv]; exact hp e⟩)
  · exact Or.inl ⟨by omega, this⟩
theorem odo_facts {kind : Int} {c : Nat → Nat} {o k x : Int} (h : isOb kind c) (w1 : 1 ≤ o) (w6 : o ≤ 6) (k0 : 0 ≤ k) (k1 : k ≤ 1000) (v0 : 0 ≤ x) (v1 : x ≤ 4294967295) : OF kind c o k x (odo kind c o k x) := by
  obtain ⟨b1, b6⟩ := isOb_kind h
  by_cases e5 : kind = 5
  · subst e5
    obtain ⟨h1, h2, h3⟩ : WTab c := by
      rcases h with ⟨hk, _⟩ | ⟨hk, _⟩ | ⟨_, h⟩ | ⟨hk, _⟩ <;> first | exact h | omega
    have f := tdo_facts h3 w1 w6 k0 k1 v0 v1
    have e : odo 5 c o k x = (tw (tdo (tbl c) o k x).1, (tdo (tbl c) o k x).2) := by rw [odo, if_pos rfl]
    rw [e]
    have hs : ∀ d, osz 5 d = (len (tbl d) : Int) := fun d => by rw [osz, if_pos rfl]
    have hl := len_congr (tbl_tw f.rt).2
    refine ⟨Or.inr (Or.inr (Or.inl ⟨rfl, wtab_tw f.rt⟩)), f.code, f.told, f.zero, fun hh => ?_, fun _ a b => ?_, fun _ a b => ?_, fun a => ?_, ?_, fun a => absurd a (by decide), fun a => absurd a (by decide)⟩
    · show wl (tw (tdo (tbl c) o k x).1) = wl c
      rw [f.same hh]; exact tw_tbl h2
    · rw [hs, hs]; show ((len (tbl (tw (tdo (tbl c) o k x).1)) : Nat) : Int) + 1 = _; rw [hl]; have := f.less a b; omega
    · rw [hs, hs]; show ((len (tbl (tw (tdo (tbl c) o k x).1)) : Nat) : Int) = _ ∨ (_ ∧ ((len (tbl (tw (tdo (tbl c) o k x).1)) : Nat) : Int) = _); rw [hl]; have := f.more a b; omega
    · rw [hs]; exact f.count a
    · have := f.wrong; show (tdo (tbl c) o k x).2.1 = 5 ↔ _; rw [this]; omega
  by_cases e6 : kind = 6
  · subst e6
    have h1 : isTb c = true := by
      rcases h with ⟨hk, _⟩ | ⟨hk, _⟩ | ⟨hk, _⟩ | ⟨_, h⟩ <;> first | exact h | omega
    have hc : 0 ≤ ((c 0 : Nat) : Int) ∧ ((c 0 : Nat) : Int) ≤ 4294967295 := by
      unfold isTb at h1
      simp only [Bool.and_eq_true] at h1
      have := upC_all h1.1 (j := 0) (by omega) (by omega)
      omega
    have f := ado_facts hc.1 hc.2 w1 w6 v0 v1
    have e : odo 6 c o k x = (tyw (ado (c 0) o x).1, (ado (c 0) o x).2) := by rw [odo, if_neg (by decide), if_pos rfl]
    rw [e]
    refine ⟨Or.inr (Or.inr (Or.inr ⟨rfl, isTb_tyw f.rt.1 f.rt.2⟩)), f.code, f.told, f.zero, fun hh => ?_, fun a => absurd rfl a, fun a => absurd rfl a, fun a => ?_, ?_, fun a => absurd a (by decide), fun a => absurd a (by decide)⟩
    · show wl (tyw (ado (c 0) o x).1) = wl c
      rw [f.same hh]; exact tyw_0 h1
    · rw [osz, if_neg (by decide)]; exact f.count a
    · have := f.wrong; show (ado (c 0) o x).2.1 = 5 ↔ _; rw [this]; omega
  have h4 : kind ≤ 4 := by omega
  obtain ⟨hb, hp⟩ := isOb_list h4 h
  have hw := isLb_w hb
  obtain ⟨f, g⟩ := ldo_facts (k := k) b1 h4 (by rw [lst_length]; exact hw.len) (lst_val hw) hp w1 w6 v0 v1
  have e : odo kind c o k x = (lw (ldo kind (lst c) o x).1, (ldo kind (lst c) o x).2) := by rw [odo, if_neg e5, if_neg e6]
  rw [e]
  have hs : osz kind c = (lst c).length := by rw [osz, if_neg e5, lst_length]
  have hs2 : ∀ l : List Int, osz kind (lw l) = l.length := fun l => by rw [osz, if_neg e5]; simp [lw]
  refine ⟨isOb_ofList b1 h4 f.len f.val g, f.code, f.told, f.zero, fun hh => ?_, fun _ a b => ?_, fun _ a b => ?_, fun a => ?_, ?_, fun _ a => ?_, fun _ a => ?_⟩
  · show wl (lw (ldo kind (lst c) o x).1) = wl c
    rw [f.same hh]; exact wl_congr (lw_lst hw)
  · show osz kind (lw (ldo kind (lst c) o x).1) + 1 = _; rw [hs, hs2]; have := f.less a b; omega
  · show osz kind (lw (ldo kind (lst c) o x).1) = _ ∨ _; rw [hs, hs2]; have := f.more a b; omega
  · rw [hs]; exact f.count a
  · show (ldo kind (lst c) o x).2.1 = 5 ↔ _; rw [f.wrong]; simp; omega
  · rw [hs]; have := f.take a; show ((ldo kind (lst c) o x).2.1 = 2 ∧ _) ∨ ((ldo kind (lst c) o x).2.1 = 1 ∧ _); omega
  · rw [hs]; have := f.put a; show ((ldo kind (lst c) o x).2.1 = 3 ∧ _) ∨ ((ldo kind (lst c) o x).2.1 = 1 ∧ _); omega
theorem isOb_zero {kind : Int} (h1 : 1 ≤ kind) (h6 : kind ≤ 6) : isOb kind wz := by
  by_cases h4 : kind ≤ 4
  · have : isLb wz = true := by decide
    by_cases e : kind = 4
    · exact Or.inr (Or.inl ⟨e, this, Hp.nil⟩)
    · exact Or.inl ⟨by omega, this⟩
  by_cases e5 : kind = 5
  · exact Or.inr (Or.inr (Or.inl ⟨e5, by decide, by decide, RT.zero⟩))
  · exact Or.inr (Or.inr (Or.inr ⟨by omega, by decide⟩))
end Go.Proofs.YtaipanjigindbaaDoor.Tab
namespace Go.Proofs.YtaipanjigindbaaDoor.Tab
set_option maxRecDepth 20000
open Go.RowKit
set_option linter.unusedVariables false

/-- A deed. -/
structure DD where
  t : Int
  o : Int
  k : Int
  x : Int
  c : Int
  y : Int
def DD.row (d : DD) : List Value := dl d.t d.o d.k d.x d.c d.y

/-- n deeds, q 0 to q (n - 1), lie in the slice v. -/
def Dq (w : World) (v : Value) (n : Nat) (q : Nat → DD) : Prop :=
  (n = 0 ∧ ∃ (a : Option Addr) (c : Nat), v = .slice a 0 c ∧ (a = none → c = 0)) ∨
  ∃ (b off c : Nat), v = .slice (some ⟨b, off, none⟩) n c ∧ 0 < n ∧ n ≤ c ∧ n ≤ 9223372036854775807 ∧ ∀ i, i < n → w.rangeAt b (off + i * 6) (q i).row
theorem Dds.dq {w : World} {v : Value} {n : Nat} (h : Dds w v n) : ∃ q, Dq w v n q := by
  rcases h with ⟨h, h'⟩ | ⟨b, off, c, h1, h2, h3, h4, h5⟩
  · exact ⟨fun _ => ⟨0, 0, 0, 0, 0, 0⟩, Or.inl ⟨h, h'⟩⟩
  · have : ∀ i, ∃ d : DD, i < n → w.rangeAt b (off + i * 6) d.row := fun i => by
      by_cases hi : i < n
      · obtain ⟨t, o, k, x, cc, y, hr⟩ := h5 i hi
        exact ⟨⟨t, o, k, x, cc, y⟩, fun _ => hr⟩
      · exact ⟨⟨0, 0, 0, 0, 0, 0⟩, fun h => absurd h hi⟩
    exact ⟨fun i => Classical.choose (this i), Or.inr ⟨b, off, c, h1, h2, h3, h4, fun i hi => Classical.choose_spec (this i) hi⟩⟩
theorem Dq.later {w w' : World} {v : Value} {n : Nat} {q : Nat → DD} (h : Dq w v n q) (hb : Below w.heap.size w w') : Dq w' v n q := by
  rcases h with h | ⟨b, off, c, h1, h2, h3, h4, h5⟩
  · exact Or.inl h
  · exact Or.inr ⟨b, off, c, h1, h2, h3, h4, fun i hi j v hv => by
      have := h5 i hi j v hv
      rw [hb.cell (World.block_lt_of_cell? w _ this)]; exact this⟩

theorem Dq.form {w : World} {v : Value} {n : Nat} {q : Nat → DD} (h : Dq w v n q) : ∃ a c, v = .slice a n c := by
  rcases h with ⟨h, a, c, e, _⟩ | ⟨b, off, c, e, _⟩
  · exact ⟨a, c, h ▸ e⟩
  · exact ⟨_, c, e⟩

/-- An object of noughts behind i deeds. -/
def oi (kind : Int) (q : Nat → DD) : Nat → (Nat → Nat)
  | 0 => wz
  | i + 1 => (odo kind (oi kind q i) (q i).o (q i).k (q i).x).1
/-- The deed of number i is what the object does. -/
def Ok1 (kind : Int) (q : Nat → DD) (i : Nat) : Prop := Rt (q i).o (q i).k (q i).x ∧ (odo kind (oi kind q i) (q i).o (q i).k (q i).x).2.1 = (q i).c ∧ (odo kind (oi kind q i) (q i).o (q i).k (q i).x).2.2 = (q i).y
theorem oi_ob {kind : Int} (h1 : 1 ≤ kind) (h6 : kind ≤ 6) {q : Nat → DD} : ∀ i, (∀ j, j < i → Ok1 kind q j) → isOb kind (oi kind q i)
  | 0, _ => isOb_zero h1 h6
  | i + 1, h => by
    have r := (h i (Nat.lt_succ_self _)).1
    exact (odo_facts (oi_ob h1 h6 i fun j hj => h j (Nat.lt_succ_of_lt hj)) r.w1 r.w6 r.k0 r.k1 r.v0 r.v1).ob
/-- All are what the object does, or there is a first one that is not. -/
theorem first_bad (kind : Int) (q : Nat → DD) : ∀ n, (∀ j, j < n → Ok1 kind q j) ∨ ∃ m, m < n ∧ (∀ j, j < m → Ok1 kind q j) ∧ ¬ Ok1 kind q m
  | 0 => Or.inl fun j hj => absurd hj (Nat.not_lt_zero _)
  | n + 1 => by
    rcases first_bad kind q n with h | ⟨m, hm, h⟩
    · by_cases hn : Ok1 kind q n
      · refine Or.inl fun j hj => ?_
        rcases Nat.lt_or_eq_of_le (Nat.le_of_lt_succ hj) with h' | rfl
        · exact h j h'
        · exact hn
      · exact Or.inr ⟨n, Nat.lt_succ_self _, h, hn⟩
    · exact Or.inr ⟨m, Nat.lt_succ_of_lt hm, h⟩
/-- A thing of noughts. -/
theorem Th.zero {kind : Int} (h6 : kind ≤ 6) (w : World) : Th 0 w kind wz (.slice none 0 0) Tb.zero 0 := by
  refine ⟨fun _ => ⟨?_, rfl, rfl⟩, fun _ => ⟨rfl, ?_, rfl⟩, fun _ => ⟨rfl, rfl, rfl⟩⟩
  · have : lst wz = [] := rfl
    rw [this]; exact IsL.nil _ _ _ _
  · rfl
theorem Ok1.at {kind : Int} {q : Nat → DD} {i : Nat} {t o k x c y : Int} (hq : q i = ⟨t, o, k, x, c, y⟩) : Ok1 kind q i ↔ Rt o k x ∧ (odo kind (oi kind q i) o k x).2.1 = c ∧ (odo kind (oi kind q i) o k x).2.2 = y := by unfold Ok1; rw [hq]
theorem oi_at {kind : Int} {q : Nat → DD} {i : Nat} {t o k x c y : Int} (hq : q i = ⟨t, o, k, x, c, y⟩) : oi kind q (i + 1) = (odo kind (oi kind q i) o k x).1 := by show (odo kind (oi kind q i) (q i).o (q i).k (q i).x).1 = _; rw [hq]
theorem Dq.all {w : World} {b off c n : Nat} {q : Nat → DD} (D : Dq w (.slice (some ⟨b, off, none⟩) n c) n q) : ∀ w', Below w.heap.size w w' → ∀ i, i < n → ∃ t o k x cc y : Int, q i = ⟨t, o, k, x, cc, y⟩ ∧ w'.rangeAt b (off + i * 6) (dl t o k x cc y) := by
  intro w' hb i hi
  rcases D.later hb with ⟨h, _⟩ | ⟨b2, off2, c2, hv2, _, _, _, hh⟩
  · omega
  · injection hv2 with e1 _ _
    injection e1 with e1
    injection e1 with e1 e2
    subst e1 e2
    exact ⟨(q i).t, (q i).o, (q i).k, (q i).x, (q i).c, (q i).y, rfl, hh i hi⟩
theorem Dq.row {w : World} {b off c n : Nat} {q : Nat → DD} (D : Dq w (.slice (some ⟨b, off, none⟩) n c) n q) : ∀ w', Below w.heap.size w w' → ∀ i, i < n → w'.rangeAt b (off + i * 6) (q i).row := by
  intro w' hb i hi
  rcases D.later hb with ⟨h, _⟩ | ⟨b2, off2, c2, hv2, _, _, _, hh⟩
  · omega
  · injection hv2 with e1 _ _
    injection e1 with e1
    injection e1 with e1 e2
    subst e1 e2
    exact hh i hi
theorem Dq.some {w : World} {a : Option Addr} {c n : Nat} {q : Nat → DD} (D : Dq w (.slice a n c) n q) (hn : 0 < n) : ∃ b off, a = some ⟨b, off, none⟩ ∧ n ≤ c := by
  rcases D with ⟨h, _⟩ | ⟨b, off, c2, hv, _, hc, _⟩
  · omega
  · injection hv with e1 e2 e3
    exact ⟨b, off, e1, e3 ▸ hc⟩
theorem rg0 {w : World} {b o : Nat} {v : Value} {l : List Value} (h : w.rangeAt b o (v :: l)) : w.cell? ⟨b, o, none⟩ = some v := h 0 v rfl
end Go.Proofs.YtaipanjigindbaaDoor.Tab
namespace Go.Proofs.YtaipanjigindbaaDoor.Tab
set_option maxRecDepth 20000
open Go.RowKit
set_option linter.unusedVariables false

theorem rwF (x y : Int) : Rw Tryd.prog 26 [.int .i64 x, .int .i64 y] := two_row x y ⟨_, Tryd.underlying26, rfl⟩ (by kernel_rfl)
theorem rwAt (x y : Int) : Rw Tryd.prog 73 [.int .i64 x, .int .i64 y] := two_row x y ⟨_, Tryd.underlying73, rfl⟩ (by kernel_rfl)
theorem rwD (t o k x c y : Int) : Rw Tryd.prog 53 (dl t o k x c y) := ⟨⟨_, Tryd.underlying53, rfl⟩, by kernel_rfl, by intro v hv; simp [dl] at hv; rcases hv with rfl | rfl | rfl | rfl | rfl | rfl <;> rfl⟩
theorem obIs_yes {k : Int} (h1 : 1 ≤ k) (h6 : k ≤ 6) (w : World) : Calls Tryd.prog 23 #[.int .i64 k] w fun e w' => e = .returned (.bool true) ∧ w' = w := by
  go_enter Tryd.func23, Tryd.ntmps23
  go_wp2
  go_ret
  exact ⟨rfl, rfl⟩
theorem obIs_no {k : Int} (h : ¬ (1 ≤ k ∧ k ≤ 6)) (w : World) : Calls Tryd.prog 23 #[.int .i64 k] w fun e w' => e = .returned (.bool false) ∧ w' = w := by
  by_cases h1 : 1 ≤ k
  · have h2 : ¬ k ≤ 6 := by omega
    clear h
    go_enter Tryd.func23, Tryd.ntmps23
    go_wp2
    go_ret
    exact ⟨rfl, rfl⟩
  · clear h
    go_enter Tryd.func23, Tryd.ntmps23
    go_wp2
    go_ret
    exact ⟨rfl, rfl⟩
end Go.Proofs.YtaipanjigindbaaDoor.Tab
