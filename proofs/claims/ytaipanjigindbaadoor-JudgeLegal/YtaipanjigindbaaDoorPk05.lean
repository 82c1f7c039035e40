/- Texts laid together: Package object: the words of a list; Package object: withList, by its contract: of queues, stacks, deques, heaps; Package object: Do, by its contract; errors.As at a target of type Errno, by its contracts (after the guide's worked text for a pointer target); An error taken apart: api.Tell, plain.Place, bare, at nil and at an Errno, by their contracts; An error at a place (api.At), taken apart: errors.As at a target of type Errno, api.Tell, plain.Place, by their contracts; Package judge: Legal, by its contracts; What the reference's queue, stack, deque and heap hand back; Lists in memory that lie ahead of some blocks, or behind them; a thing's row of cells, written in part; What an answer takes in memory: the text that has it here; A key's row, as it lies; The reference's TableRight, by its. -/
import Derived.Test.YtaipanjigindbaaDoorPk01
import Derived.Test.YtaipanjigindbaaDoorPk02
import Derived.Test.YtaipanjigindbaaDoorPk04
import Derived.Deep.DeepCutAuto
import Derived.Deep.RegionHeld3
import Derived.Test.YtaipanjigindbaaDoorPk03
import Derived.Test.YtaipanjigindbaaDoorPk00
import Derived.Test.YtaipanjigindbaaDoorRows
import Derived.WalkKit
import Derived.LaidEql
import Derived.Stop.Asserts
import Derived.RowKitTokens
namespace Go.Proofs.YtaipanjigindbaaDoor.Tab
set_option maxRecDepth 20000
open Go.RowKit

def lwp (l : List Int) (i : Nat) : Nat → Nat := fun j => if j = 0 then l.length else if j ≤ i then (l.getD (j - 1) 0).toNat else 0
theorem lwp_next (l : List Int) (i : Nat) : wl (upw (lwp l i) (1 + i) (l.getD i 0).toNat) = wl (lwp l (i + 1)) := by
  refine wl_congr fun j _ => ?_
  unfold upw lwp
  by_cases e : j = 1 + i
  · subst e
    rw [if_pos rfl, if_neg (by omega), if_pos (by omega), show 1 + i - 1 = i by omega]
  · rw [if_neg e]
    by_cases e0 : j = 0
    · rw [if_pos e0, if_pos e0]
    · rw [if_neg e0, if_neg e0]
      by_cases e1 : j ≤ i
      · rw [if_pos e1, if_pos (by omega)]
      · rw [if_neg e1, if_neg (by omega)]
theorem lwp_all (l : List Int) : wl (lwp l l.length) = wl (lw l) := by
  refine wl_congr fun j _ => ?_
  unfold lwp lw
  by_cases e0 : j = 0
  · rw [if_pos e0, if_pos e0]
  · rw [if_neg e0, if_neg e0]
    by_cases e1 : j ≤ l.length
    · rw [if_pos e1]
    · rw [if_neg e1, List.getD_eq_getElem?_getD, List.getElem?_eq_none (by omega)]; rfl
theorem lwp_zero (l : List Int) : wl (lwp l 0) = [.int .u64 (l.length : Nat), .int .u64 0, .int .u64 0, .int .u64 0, .int .u64 0, .int .u64 0, .int .u64 0, .int .u64 0, .int .u64 0, .int .u64 0, .int .u64 0, .int .u64 0, .int .u64 0, .int .u64 0, .int .u64 0, .int .u64 0, .int .u64 0] := by
  have : wl (lwp l 0) = wl (upw wz 0 l.length) := wl_congr fun j _ => by
    unfold lwp upw wz
    by_cases e0 : j = 0
    · rw [if_pos e0, if_pos e0]
    · rw [if_neg e0, if_neg e0, if_neg (by omega)]
  rw [this]; rfl
theorem w17 (a : Nat) : (#[.int .u64 (a : Nat), .int .u64 0, .int .u64 0, .int .u64 0, .int .u64 0, .int .u64 0, .int .u64 0, .int .u64 0, .int .u64 0, .int .u64 0, .int .u64 0, .int .u64 0, .int .u64 0, .int .u64 0, .int .u64 0, .int .u64 0, .int .u64 0] : Array Value).all (·.oneCell') = true := by simp [Value.oneCell']
set_option maxHeartbeats 2000000 in
theorem listWords_is {B : Nat} {v : Value} {l : List Int} {w : World} (h : IsL B w v l) (h6 : l.length ≤ 6) (hv : ∀ x ∈ l, 0 ≤ x ∧ x ≤ 4294967295) :
    Calls Tryd.prog 72 #[v] w fun e w' => e = .returned (.agg (wl (lw l)).toArray) ∧ Below w.heap.size w w' := by
  obtain ⟨na, ea, hd⟩ := cells_array
  have HD : Hid _ := hd
  clear hd
  have HS : Hid _ := cells_size
  have HZ : Hid _ := cells_size2
  have HZ0 : Hid ((Tryd.prog.info? 31).map (·.size) = some 17) := (by kernel_rfl : (Tryd.prog.info? 31).map (·.size) = some 17)
  obtain ⟨a, k, rfl⟩ := h.form
  have H : Hid (IsL B w (.slice a l.length k) l) := h
  have HL : Hid (∀ i, i < l.length → ∃ b off, a = some ⟨b, off, none⟩ ∧ (∀ W, Below w.heap.size w W → W.cell? ⟨b, off + i, none⟩ = some (.int .i64 ((l.getD i 0).toNat : Nat)))) := fun i hi => by
    rcases h with ⟨rfl, _⟩ | ⟨b, off, c, h1, hB, h0, hc, hcell, _⟩
    · simp at hi
    · injection h1 with h1 _ _
      refine ⟨b, off, h1, fun W hW => ?_⟩
      have hx := hv (l.getD i 0) (by rw [List.getD_eq_getElem?_getD, List.getElem?_eq_getElem hi]; exact List.getElem_mem hi)
      rw [hW.cell (p := ⟨b, off + i, none⟩) (World.block_lt_of_cell? _ _ (hcell i hi)), hcell i hi]
      congr 2; omega
  have HX : Hid (∀ i, i < l.length → (l.getD i 0).toNat ≤ 4294967295) := fun i hi => by
    have hx := hv (l.getD i 0) (by rw [List.getD_eq_getElem?_getD, List.getElem?_eq_getElem hi]; exact List.getElem_mem hi)
    omega
  clear hv
  have G0 : Hid (Gd w.heap.size w (w.alloc (.cells #[.int .u64 0, .int .u64 0, .int .u64 0, .int .u64 0, .int .u64 0, .int .u64 0, .int .u64 0, .int .u64 0, .int .u64 0, .int .u64 0, .int .u64 0, .int .u64 0, .int .u64 0, .int .u64 0, .int .u64 0, .int .u64 0, .int .u64 0] 31))) := (Gd.refl w).new _
  have T0 : Hid (Bo (w.alloc (.cells #[.int .u64 0, .int .u64 0, .int .u64 0, .int .u64 0, .int .u64 0, .int .u64 0, .int .u64 0, .int .u64 0, .int .u64 0, .int .u64 0, .int .u64 0, .int .u64 0, .int .u64 0, .int .u64 0, .int .u64 0, .int .u64 0, .int .u64 0] 31)) w.heap.size (wl wz)) := Bo.born w (wl wz) _ rfl
  clear h
  have ew1 : IntKind.u64.wrap (l.length : Int) = l.length := by rw [IntKind.wrap_u64]; omega
  generalize hN : l.length = N at *
  have HN : Hid (l.length = N) := hN
  clear hN
  go_enter Tryd.func72, Tryd.ntmps72
  go_wp2_with (first
    | (have T1 : Hid (Bo ((w.alloc (.cells #[.int .u64 0, .int .u64 0, .int .u64 0, .int .u64 0, .int .u64 0, .int .u64 0, .int .u64 0, .int .u64 0, .int .u64 0, .int .u64 0, .int .u64 0, .int .u64 0, .int .u64 0, .int .u64 0, .int .u64 0, .int .u64 0, .int .u64 0] 31)).alloc (.cells #[.int .u64 0, .int .u64 0, .int .u64 0, .int .u64 0, .int .u64 0, .int .u64 0, .int .u64 0, .int .u64 0, .int .u64 0, .int .u64 0, .int .u64 0, .int .u64 0, .int .u64 0, .int .u64 0, .int .u64 0, .int .u64 0, .int .u64 0] 31)) (w.heap.size + 1) (wl wz)) := Bo.born _ (wl wz) _ (by simp)
       have T0' : Hid (Bo ((w.alloc (.cells #[.int .u64 0, .int .u64 0, .int .u64 0, .int .u64 0, .int .u64 0, .int .u64 0, .int .u64 0, .int .u64 0, .int .u64 0, .int .u64 0, .int .u64 0, .int .u64 0, .int .u64 0, .int .u64 0, .int .u64 0, .int .u64 0, .int .u64 0] 31)).alloc (.cells #[.int .u64 0, .int .u64 0, .int .u64 0, .int .u64 0, .int .u64 0, .int .u64 0, .int .u64 0, .int .u64 0, .int .u64 0, .int .u64 0, .int .u64 0, .int .u64 0, .int .u64 0, .int .u64 0, .int .u64 0, .int .u64 0, .int .u64 0] 31)) w.heap.size (wl wz)) := T0.out.new _
       have G1 : Hid (Gd w.heap.size w ((w.alloc (.cells #[.int .u64 0, .int .u64 0, .int .u64 0, .int .u64 0, .int .u64 0, .int .u64 0, .int .u64 0, .int .u64 0, .int .u64 0, .int .u64 0, .int .u64 0, .int .u64 0, .int .u64 0, .int .u64 0, .int .u64 0, .int .u64 0, .int .u64 0] 31)).alloc (.cells #[.int .u64 0, .int .u64 0, .int .u64 0, .int .u64 0, .int .u64 0, .int .u64 0, .int .u64 0, .int .u64 0, .int .u64 0, .int .u64 0, .int .u64 0, .int .u64 0, .int .u64 0, .int .u64 0, .int .u64 0, .int .u64 0, .int .u64 0] 31))) := G0.out.new _
       clear T0 G0
       generalize ((w.alloc (.cells #[.int .u64 0, .int .u64 0, .int .u64 0, .int .u64 0, .int .u64 0, .int .u64 0, .int .u64 0, .int .u64 0, .int .u64 0, .int .u64 0, .int .u64 0, .int .u64 0, .int .u64 0, .int .u64 0, .int .u64 0, .int .u64 0, .int .u64 0] 31)).alloc (.cells #[.int .u64 0, .int .u64 0, .int .u64 0, .int .u64 0, .int .u64 0, .int .u64 0, .int .u64 0, .int .u64 0, .int .u64 0, .int .u64 0, .int .u64 0, .int .u64 0, .int .u64 0, .int .u64 0, .int .u64 0, .int .u64 0, .int .u64 0] 31)) = W at T1 T0' G1 ⊢
       refine wpList_store_mid rfl 31 _ _ rfl (w.heap.size + 1) _ #[.int .u64 (N : Nat), .int .u64 0, .int .u64 0, .int .u64 0, .int .u64 0, .int .u64 0, .int .u64 0, .int .u64 0, .int .u64 0, .int .u64 0, .int .u64 0, .int .u64 0, .int .u64 0, .int .u64 0, .int .u64 0, .int .u64 0, .int .u64 0] rfl rfl (T1.out.thereL (by rw [wl_length]; rfl)) HZ0.out (w17 N) ?_
       have T2 : Hid (Bo (W.setCells (w.heap.size + 1) 0 [.int .u64 (N : Nat), .int .u64 0, .int .u64 0, .int .u64 0, .int .u64 0, .int .u64 0, .int .u64 0, .int .u64 0, .int .u64 0, .int .u64 0, .int .u64 0, .int .u64 0, .int .u64 0, .int .u64 0, .int .u64 0, .int .u64 0, .int .u64 0]) (w.heap.size + 1) (wl (lwp l 0))) := by
         have e := lwp_zero l; rw [HN.out] at e; rw [e]; exact T1.out.setL (by rw [wl_length]; rfl)
       have T3 : Hid (Bo (W.setCells (w.heap.size + 1) 0 [.int .u64 (N : Nat), .int .u64 0, .int .u64 0, .int .u64 0, .int .u64 0, .int .u64 0, .int .u64 0, .int .u64 0, .int .u64 0, .int .u64 0, .int .u64 0, .int .u64 0, .int .u64 0, .int .u64 0, .int .u64 0, .int .u64 0, .int .u64 0]) w.heap.size (wl wz)) := T0'.out.asideL (by omega) _ _
       have G2 : Hid (Gd w.heap.size w (W.setCells (w.heap.size + 1) 0 [.int .u64 (N : Nat), .int .u64 0, .int .u64 0, .int .u64 0, .int .u64 0, .int .u64 0, .int .u64 0, .int .u64 0, .int .u64 0, .int .u64 0, .int .u64 0, .int .u64 0, .int .u64 0, .int .u64 0, .int .u64 0, .int .u64 0, .int .u64 0])) := G1.out.asideL (by omega) _ _
       clear T1 T0' G1
       generalize W.setCells (w.heap.size + 1) 0 [.int .u64 (N : Nat), .int .u64 0, .int .u64 0, .int .u64 0, .int .u64 0, .int .u64 0, .int .u64 0, .int .u64 0, .int .u64 0, .int .u64 0, .int .u64 0, .int .u64 0, .int .u64 0, .int .u64 0, .int .u64 0, .int .u64 0, .int .u64 0] = U at T2 T3 G2 ⊢))
  generalize hsz : w.heap.size = n at T2 T3 G2 ⊢
  have HSZ : Hid (w.heap.size = n) := hsz
  clear hsz
  go_loopg [12] N (fun gg s12 wt => ∃ i : Nat, i ≤ N ∧ N - i ≤ gg ∧ s12 = .int .i64 i ∧ Hid (Bo wt (n + 1) (wl (lwp l i))) ∧ Hid (Bo wt n (wl wz)) ∧ Hid (Gd n w wt))
  case atStart => exact ⟨0, by omega, by omega, rfl, T2, T3, G2⟩
  case round =>
    clear T2 T3 G2
    obtain ⟨i, hi, hgg, rfl, T, S, G⟩ := hrel
    by_cases hlt : i < N
    · obtain ⟨b, off, rfl, hc⟩ := HL.out i hlt
      have c0 := hc wr G.out.2
      have NX : Hid _ := lwp_next l i
      have c1 := T.out.word (show 1 + i < 17 by omega)
      have f1 := T.out.froz (1 + i)
      have j1 : 1 + (i : Int) < 17 := by omega
      have j0 : (0 : Int) ≤ 1 + (i : Int) := by omega
      have i1 : (i : Int) < (N : Int) := by omega
      have i0 : (0 : Int) ≤ (i : Int) := by omega
      have T1 : Hid (Bo (wr.setCell ⟨n + 1, 1 + i, none⟩ (.int .u64 ((l.getD i 0).toNat : Nat))) (n + 1) (wl (lwp l (i + 1)))) := by
        rw [← NX.out]; exact T.out.setw _ (by omega)
      have S1 : Hid (Bo (wr.setCell ⟨n + 1, 1 + i, none⟩ (.int .u64 ((l.getD i 0).toNat : Nat))) n (wl wz)) := S.out.aside (by simp) _
      have G1 : Hid (Gd n w (wr.setCell ⟨n + 1, 1 + i, none⟩ (.int .u64 ((l.getD i 0).toNat : Nat)))) := G.out.aside (by simp) _
      clear hc NX T S G
      generalize lwp l i (1 + i) = z at c1
      have hx : (l.getD i 0).toNat ≤ 4294967295 := HX.out i (by omega)
      generalize (l.getD i 0).toNat = x at c0 T1 S1 G1 hx
      have ew2 : IntKind.u64.wrap (x : Int) = x := by rw [IntKind.wrap_u64]; omega
      go_wp2
      go_roundg (N - (i + 1))
      case measure => omega
      case rel => exact ⟨i + 1, by omega, by omega, by go_num, T1, S1, G1⟩
    · have ei : i = N := by omega
      have LA := lwp_all l
      rw [HN.out, ← ei] at LA
      rw [LA] at T
      clear LA
      go_wp2_with (first
        | (refine wpList_load_mid rfl 31 _ rfl (n + 1) _ rfl (wl (lw l)) _ T.out.range HD.out rfl (HS.out (lw l)) ?_)
        | (refine wpList_store_mid rfl 31 _ _ rfl n _ (wl (lw l)).toArray rfl rfl (S.out.thereW (lw l)) (HZ.out (lw l)) (wl_all (lw l)) ?_
           have S1 : Hid (Bo (wr.setCells n 0 (wl (lw l))) n (wl (lw l))) := S.out.setW (lw l)
           have G1 : Hid (Gd n w (wr.setCells n 0 (wl (lw l)))) := G.out.asideL (by omega) _ _
           clear T S G
           generalize wr.setCells n 0 (wl (lw l)) = V at S1 G1 ⊢))
      exact bodyPost_ret (results_row Tryd.results72 _ _ n (wl (lw l)) _ rfl S1.out.range HD.out rfl (HS.out (lw l))) rfl ⟨rfl, G1.out.2⟩
end Go.Proofs.YtaipanjigindbaaDoor.Tab
namespace Go.Proofs.YtaipanjigindbaaDoor.Tab
set_option maxRecDepth 20000
open Go.RowKit
set_option linter.unusedVariables false

set_option maxHeartbeats 4000000 in
theorem wlist_any {c : Nat → Nat} {b fk : Nat} {ys : List Int} {o k x cc y : Int} (he : ∀ args (w : World), (callFunc fk args).run Tryd.prog w = .ok (.enter fk args) w) (hW : WList c) (hD : ∀ B W v, IsL B W v (lst c) → Calls Tryd.prog fk #[v, .agg #[.int .i64 o, .int .i64 k, .int .i64 x]] W (Made W ys cc y)) (hl : ys.length ≤ 6) (hv : ∀ z ∈ ys, 0 ≤ z ∧ z ≤ 4294967295) (w : World) (hb : Bo w b [fv fk]) :
    Calls Tryd.prog 71 #[.agg (wl c).toArray, .agg #[.int .i64 o, .int .i64 k, .int .i64 x], .pointer (some ⟨b, 0, none⟩)] w (fun e w' => e = .returned (.tuple #[.agg (wl (lw ys)).toArray, .agg #[.int .i64 cc, .int .i64 y]]) ∧ Below w.heap.size w w') := by
  have LI : Hid (∀ w : World, _) := fun w => list_is hW w
  have DD : Hid _ := hD
  have LW : Hid (∀ B W v, IsL B W v ys → _) := fun B W v h => listWords_is (B := B) (w := W) (v := v) h hl hv
  generalize lst c = xs at *
  clear hW hD hl hv
  have hF : Hid (Bo w b [.func (.func fk) #[] #[]]) := hb
  clear hb
  have hM : Hid _ := (((((Ms.nil w).born (wl c) 31 (b := w.heap.size) rfl).born [.int .i64 o, .int .i64 k, .int .i64 x] 47 (b := w.heap.size + 1) (by simp)).bornR wz_all.symm 31 (b := w.heap.size + 2) (by simp)).born [.int .i64 0, .int .i64 0] 49 (b := w.heap.size + 3) (by simp))
  go_enter Tryd.func71, Tryd.ntmps71
  go_wp2_with fail
  generalize World.alloc _ _ = W at hM ⊢
  generalize hsz : w.heap.size = n at hM ⊢
  clear hsz
  go_cut [7, 8] (fun s7 s8 wx => ∃ bz8 B7 : Nat, s8 = .pointer (some ⟨bz8, 0, none⟩) ∧ Hid (Ms n w wx [((n + 2), (wl wz)), ((n + 3), [.int .i64 0, .int .i64 0]), (bz8, [.int .i64 cc, .int .i64 y])] [(B7, s7, ys)]))
  case first =>
    replace hM := hid (hM.out.drew)
    refine wp_region_held_drew (S := fun w' => Bo w' b [.func (.func fk) #[] #[]] ∧ Bo w' n (wl c) ∧ Bo w' (n + 1) [.int .i64 o, .int .i64 k, .int .i64 x]) (by kernel_rfl) ⟨hF.out.later hM.out.below, hM.out.at 3 rfl, hM.out.at 2 rfl⟩ (fun hH => ?_)
    generalize World.drew _ = W at hM hH  ⊢
    refine tk 0 rfl hH ?_ (by intro w h; have c0 := h.1.at 0 rfl; clear h; go_simp; try with_reducible rfl)
    simp only [Act.put, p1, p2, p3]
    refine tkR 1 rfl hH (fun _ h => h.2.1) (rwC c) ?_
    simp only [Act.put, p1, p2, p3]
    refine tk 3 rfl hH ?_ (by intro w h; have c0 := h.2.2.at 0 rfl; have c1 := h.2.2.at 1 rfl; have c2 := h.2.2.at 2 rfl; clear h; go_simp; try with_reducible rfl)
    simp only [Act.put, p1, p2, p3]
    refine rdn [2, 8] ?_
    refine rdc rfl (fun K hK => ?_) ?_
    · go_simp
      refine (LI.out _).mono ?_
      rintro e W ⟨v1, rfl, I, hb⟩
      replace hM := hid (hM.out.laterL hb I (Nat.le_refl _))
      clear hb
      go_wp2_with fail
      refine hK.out _ _ ⟨hF.out.later hM.out.below, hM.out.at 3 rfl, hM.out.at 2 rfl⟩ (fun hH => ?_)
      clear hK K
      try simp only [Act.put, p1, p2, p3]
      refine rdn [4, 8] ?_
      refine rdc rfl (fun K hK => ?_) ?_
      · go_simp
        refine (DD.out _ _ _ (hM.out.isL 0 rfl)).mono ?_
        rintro e W ⟨v2, rfl, I, hb⟩
        replace hM := hid (hM.out.laterL hb I (Nat.le_refl _))
        clear hb
        go_wp2_with fail
        refine hK.out _ _ ⟨hF.out.later hM.out.below, hM.out.at 3 rfl, hM.out.at 2 rfl⟩ (fun hH => ?_)
        clear hK K
        try simp only [Act.put, p1, p2, p3]
        refine tk 5 rfl hH ?_
        simp only [Act.put, p1, p2, p3]
        refine tk 6 rfl hH ?_
        simp only [Act.put, p1, p2, p3]
        refine tk 7 rfl hH ?_
        simp only [Act.put, p1, p2, p3]
        refine rd1 8 rfl (fun K hK => ?_)
        go_simp
        replace hM := hid (hM.out.born [.int .i64 0, .int .i64 0] 49 rfl)
        refine hK.out _ _ ⟨hF.out.later hM.out.below, hM.out.at 4 rfl, hM.out.at 3 rfl⟩ (fun hH => ?_)
        clear hK K
        generalize W.heap.size = bq1 at hM hH ⊢
        generalize World.alloc _ _ = W at hM hH  ⊢
        try simp only [Act.put, p1, p2, p3]
        refine tk 9 rfl hH ?_
        simp only [Act.put, p1, p2, p3]
        refine rd1 10 rfl (fun K hK => ?_)
        refine stR rfl (hM.out.at 0 rfl) ((rwA 0 0).len (rwA cc y)) (rwA cc y) ?_
        simp only [Act.put]
        replace hM := hid (hM.out.put 0 rfl [.int .i64 cc, .int .i64 y] ((rwA 0 0).len (rwA cc y)))
        refine hK.out _ _ ⟨hF.out.later hM.out.below, hM.out.at 4 rfl, hM.out.at 3 rfl⟩ (fun hH => ?_)
        clear hK K
        generalize World.setCells _ _ _ _ = W at hM hH ⊢
        try simp only [Act.put, p1, p2, p3]
        refine wpAnyH_done (by kernel_rfl) ?_ _
        go_wp2_with fail
        go_meet
        case rel => exact ⟨bq1, _, rfl, (hM.out.pick [2, 1, 0]).pickL [0]⟩
      refine rdc rfl (fun K hK => ?_) AllReadyH.nil
      go_simp
      replace hM := hid (hM.out.born [.int .i64 0, .int .i64 0] 49 rfl)
      refine hK.out _ _ ⟨hF.out.later hM.out.below, hM.out.at 4 rfl, hM.out.at 3 rfl⟩ (fun hH => ?_)
      clear hK K
      generalize W.heap.size = bq1 at hM hH ⊢
      generalize World.alloc _ _ = W at hM hH  ⊢
      try simp only [Act.put, p1, p2, p3]
      refine rd1 4 rfl (fun K hK => ?_)
      go_simp
      refine (DD.out _ _ _ (hM.out.isL 0 rfl)).mono ?_
      rintro e W ⟨v2, rfl, I, hb⟩
      replace hM := hid (hM.out.laterL hb I (Nat.le_refl _))
      clear hb
      go_wp2_with fail
      refine hK.out _ _ ⟨hF.out.later hM.out.below, hM.out.at 4 rfl, hM.out.at 3 rfl⟩ (fun hH => ?_)
      clear hK K
      try simp only [Act.put, p1, p2, p3]
      refine tk 5 rfl hH ?_
      simp only [Act.put, p1, p2, p3]
      refine tk 6 rfl hH ?_
      simp only [Act.put, p1, p2, p3]
      refine tk 7 rfl hH ?_
      simp only [Act.put, p1, p2, p3]
      refine tk 9 rfl hH ?_
      simp only [Act.put, p1, p2, p3]
      refine rd1 10 rfl (fun K hK => ?_)
      refine stR rfl (hM.out.at 0 rfl) ((rwA 0 0).len (rwA cc y)) (rwA cc y) ?_
      simp only [Act.put]
      replace hM := hid (hM.out.put 0 rfl [.int .i64 cc, .int .i64 y] ((rwA 0 0).len (rwA cc y)))
      refine hK.out _ _ ⟨hF.out.later hM.out.below, hM.out.at 4 rfl, hM.out.at 3 rfl⟩ (fun hH => ?_)
      clear hK K
      generalize World.setCells _ _ _ _ = W at hM hH ⊢
      try simp only [Act.put, p1, p2, p3]
      refine wpAnyH_done (by kernel_rfl) ?_ _
      go_wp2_with fail
      go_meet
      case rel => exact ⟨bq1, _, rfl, (hM.out.pick [2, 1, 0]).pickL [0]⟩
    refine rdc rfl (fun K hK => ?_) AllReadyH.nil
    go_simp
    replace hM := hid (hM.out.born [.int .i64 0, .int .i64 0] 49 rfl)
    refine hK.out _ _ ⟨hF.out.later hM.out.below, hM.out.at 4 rfl, hM.out.at 3 rfl⟩ (fun hH => ?_)
    clear hK K
    generalize W.heap.size = bq1 at hM hH ⊢
    generalize World.alloc _ _ = W at hM hH  ⊢
    try simp only [Act.put, p1, p2, p3]
    refine rd1 2 rfl (fun K hK => ?_)
    go_simp
    refine (LI.out _).mono ?_
    rintro e W ⟨v1, rfl, I, hb⟩
    replace hM := hid (hM.out.laterL hb I (Nat.le_refl _))
    clear hb
    go_wp2_with fail
    refine hK.out _ _ ⟨hF.out.later hM.out.below, hM.out.at 4 rfl, hM.out.at 3 rfl⟩ (fun hH => ?_)
    clear hK K
    try simp only [Act.put, p1, p2, p3]
    refine rd1 4 rfl (fun K hK => ?_)
    go_simp
    refine (DD.out _ _ _ (hM.out.isL 0 rfl)).mono ?_
    rintro e W ⟨v2, rfl, I, hb⟩
    replace hM := hid (hM.out.laterL hb I (Nat.le_refl _))
    clear hb
    go_wp2_with fail
    refine hK.out _ _ ⟨hF.out.later hM.out.below, hM.out.at 4 rfl, hM.out.at 3 rfl⟩ (fun hH => ?_)
    clear hK K
    try simp only [Act.put, p1, p2, p3]
    refine tk 5 rfl hH ?_
    simp only [Act.put, p1, p2, p3]
    refine tk 6 rfl hH ?_
    simp only [Act.put, p1, p2, p3]
    refine tk 7 rfl hH ?_
    simp only [Act.put, p1, p2, p3]
    refine tk 9 rfl hH ?_
    simp only [Act.put, p1, p2, p3]
    refine rd1 10 rfl (fun K hK => ?_)
    refine stR rfl (hM.out.at 0 rfl) ((rwA 0 0).len (rwA cc y)) (rwA cc y) ?_
    simp only [Act.put]
    replace hM := hid (hM.out.put 0 rfl [.int .i64 cc, .int .i64 y] ((rwA 0 0).len (rwA cc y)))
    refine hK.out _ _ ⟨hF.out.later hM.out.below, hM.out.at 4 rfl, hM.out.at 3 rfl⟩ (fun hH => ?_)
    clear hK K
    generalize World.setCells _ _ _ _ = W at hM hH ⊢
    try simp only [Act.put, p1, p2, p3]
    refine wpAnyH_done (by kernel_rfl) ?_ _
    go_wp2_with fail
    go_meet
    case rel => exact ⟨bq1, _, rfl, (hM.out.pick [2, 1, 0]).pickL [0]⟩
  case rest =>
    obtain ⟨bz8, B7, rfl, hM⟩ := hcut
    generalize wc = W at hM ⊢
    go_wp2_with fail
    replace hM := hid (hM.out.drew)
    refine wp_region_held_drew (S := fun w' => Bo w' bz8 [.int .i64 cc, .int .i64 y]) (by kernel_rfl) (hM.out.at 2 rfl) (fun hH => ?_)
    generalize World.drew _ = W at hM hH  ⊢
    refine tk 0 rfl hH ?_
    simp only [Act.put, p1, p2, p3]
    refine tk 2 rfl hH ?_ (by intro w h; have c0 := h.at 0 rfl; have c1 := h.at 1 rfl; clear h; go_simp; try with_reducible rfl)
    simp only [Act.put, p1, p2, p3]
    refine rd1 1 rfl (fun K hK => ?_)
    go_simp
    refine (LW.out _ _ _ (hM.out.isL 0 rfl)).mono ?_
    rintro e W ⟨rfl, hb⟩
    replace hM := hid (hM.out.later hb)
    clear hb
    go_wp2_with fail
    refine hK.out _ _ (hM.out.at 2 rfl) (fun hH => ?_)
    clear hK K
    try simp only [Act.put, p1, p2, p3]
    refine rd1 3 rfl (fun K hK => ?_)
    refine stR rfl (hM.out.at 0 rfl) ((rwC wz).len (rwC (lw ys))) (rwC (lw ys)) ?_
    simp only [Act.put]
    replace hM := hid (hM.out.put 0 rfl (wl (lw ys)) ((rwC wz).len (rwC (lw ys))))
    refine hK.out _ _ (hM.out.at 2 rfl) (fun hH => ?_)
    clear hK K
    generalize World.setCells _ _ _ _ = W at hM hH ⊢
    try simp only [Act.put, p1, p2, p3]
    refine rd1 4 rfl (fun K hK => ?_)
    refine stR rfl (hM.out.at 1 rfl) ((rwA 0 0).len (rwA cc y)) (rwA cc y) ?_
    simp only [Act.put]
    replace hM := hid (hM.out.put 1 rfl [.int .i64 cc, .int .i64 y] ((rwA 0 0).len (rwA cc y)))
    refine hK.out _ _ (hM.out.at 2 rfl) (fun hH => ?_)
    clear hK K
    generalize World.setCells _ _ _ _ = W at hM hH ⊢
    try simp only [Act.put, p1, p2, p3]
    refine wpAnyH_done (by kernel_rfl) ?_ _
    go_wp2
    exact bodyPost_ret (res2 Tryd.results71 (hM.out.at 0 rfl) (rwC (lw ys)) (hM.out.at 1 rfl) (rwA _ _)) rfl ⟨rfl, hM.out.below⟩
theorem he_q (args : Array Value) (w : World) : (callFunc 52 args).run Tryd.prog w = .ok (.enter 52 args) w := by kernel_rfl
theorem wlist_q {c : Nat → Nat} {b : Nat} {ys : List Int} {o k x cc y : Int} (hW : WList c) (hD : ∀ B W v, IsL B W v (lst c) → Calls Tryd.prog 52 #[v, .agg #[.int .i64 o, .int .i64 k, .int .i64 x]] W (Made W ys cc y)) (hl : ys.length ≤ 6) (hv : ∀ z ∈ ys, 0 ≤ z ∧ z ≤ 4294967295) (w : World) (hb : Bo w b [fv 52]) :
    Calls Tryd.prog 71 #[.agg (wl c).toArray, .agg #[.int .i64 o, .int .i64 k, .int .i64 x], .pointer (some ⟨b, 0, none⟩)] w (fun e w' => e = .returned (.tuple #[.agg (wl (lw ys)).toArray, .agg #[.int .i64 cc, .int .i64 y]]) ∧ Below w.heap.size w w') := wlist_any he_q hW hD hl hv w hb
theorem he_s (args : Array Value) (w : World) : (callFunc 53 args).run Tryd.prog w = .ok (.enter 53 args) w := by kernel_rfl
theorem wlist_s {c : Nat → Nat} {b : Nat} {ys : List Int} {o k x cc y : Int} (hW : WList c) (hD : ∀ B W v, IsL B W v (lst c) → Calls Tryd.prog 53 #[v, .agg #[.int .i64 o, .int .i64 k, .int .i64 x]] W (Made W ys cc y)) (hl : ys.length ≤ 6) (hv : ∀ z ∈ ys, 0 ≤ z ∧ z ≤ 4294967295) (w : World) (hb : Bo w b [fv 53]) :
    Calls Tryd.prog 71 #[.agg (wl c).toArray, .agg #[.int .i64 o, .int .i64 k, .int .i64 x], .pointer (some ⟨b, 0, none⟩)] w (fun e w' => e = .returned (.tuple #[.agg (wl (lw ys)).toArray, .agg #[.int .i64 cc, .int .i64 y]]) ∧ Below w.heap.size w w') := wlist_any he_s hW hD hl hv w hb
theorem he_d (args : Array Value) (w : World) : (callFunc 54 args).run Tryd.prog w = .ok (.enter 54 args) w := by kernel_rfl
theorem wlist_d {c : Nat → Nat} {b : Nat} {ys : List Int} {o k x cc y : Int} (hW : WList c) (hD : ∀ B W v, IsL B W v (lst c) → Calls Tryd.prog 54 #[v, .agg #[.int .i64 o, .int .i64 k, .int .i64 x]] W (Made W ys cc y)) (hl : ys.length ≤ 6) (hv : ∀ z ∈ ys, 0 ≤ z ∧ z ≤ 4294967295) (w : World) (hb : Bo w b [fv 54]) :
    Calls Tryd.prog 71 #[.agg (wl c).toArray, .agg #[.int .i64 o, .int .i64 k, .int .i64 x], .pointer (some ⟨b, 0, none⟩)] w (fun e w' => e = .returned (.tuple #[.agg (wl (lw ys)).toArray, .agg #[.int .i64 cc, .int .i64 y]]) ∧ Below w.heap.size w w') := wlist_any he_d hW hD hl hv w hb
theorem he_h (args : Array Value) (w : World) : (callFunc 55 args).run Tryd.prog w = .ok (.enter 55 args) w := by kernel_rfl
theorem wlist_h {c : Nat → Nat} {b : Nat} {ys : List Int} {o k x cc y : Int} (hW : WList c) (hD : ∀ B W v, IsL B W v (lst c) → Calls Tryd.prog 55 #[v, .agg #[.int .i64 o, .int .i64 k, .int .i64 x]] W (Made W ys cc y)) (hl : ys.length ≤ 6) (hv : ∀ z ∈ ys, 0 ≤ z ∧ z ≤ 4294967295) (w : World) (hb : Bo w b [fv 55]) :
    Calls Tryd.prog 71 #[.agg (wl c).toArray, .agg #[.int .i64 o, .int .i64 k, .int .i64 x], .pointer (some ⟨b, 0, none⟩)] w (fun e w' => e = .returned (.tuple #[.agg (wl (lw ys)).toArray, .agg #[.int .i64 cc, .int .i64 y]]) ∧ Below w.heap.size w w') := wlist_any he_h hW hD hl hv w hb
end Go.Proofs.YtaipanjigindbaaDoor.Tab
namespace Go.Proofs.YtaipanjigindbaaDoor.Tab
set_option maxRecDepth 20000
open Go.RowKit
set_option linter.unusedVariables false

theorem he_list (args : Array Value) (w : World) : (callFunc 71 args).run Tryd.prog w = .ok (.enter 71 args) w := by kernel_rfl
theorem he_table (args : Array Value) (w : World) : (callFunc 56 args).run Tryd.prog w = .ok (.enter 56 args) w := by kernel_rfl
theorem he_tally (args : Array Value) (w : World) : (callFunc 57 args).run Tryd.prog w = .ok (.enter 57 args) w := by kernel_rfl
theorem wl_tyw (r : Nat) : wl (upw wz 0 r) = wl (tyw (r : Nat)) := wl_congr fun j hj => by
  unfold upw tyw wz
  by_cases e : j = 0
  · subst e; simp
  · rw [if_neg e, if_neg e]

def ptr (b : Nat) : Array Value := #[.pointer (some ⟨b, 0, none⟩)]
theorem obDo_is {kind o k x : Int} {c : Nat → Nat} (hO : isOb kind c) (hR : Rt o k x) (w : World) :
    Calls Tryd.prog 15 #[.int .i64 kind, .agg (wl c).toArray, .agg #[.int .i64 o, .int .i64 k, .int .i64 x]] w (DidD w (odo kind c o k x).1 (odo kind c o k x).2.1 (odo kind c o k x).2.2) := by
  obtain ⟨b1, b6⟩ := isOb_kind hO
  by_cases e5 : kind = 5
  · subst e5
    obtain ⟨h1, h2, h3⟩ : WTab c := by
      rcases hO with ⟨hk, _⟩ | ⟨hk, _⟩ | ⟨_, h⟩ | ⟨hk, _⟩ <;> first | exact h | omega
    have f := tdo_facts h3 hR.w1 hR.w6 hR.k0 hR.k1 hR.v0 hR.v1
    have e : odo 5 c o k x = (tw (tdo (tbl c) o k x).1, (tdo (tbl c) o k x).2) := by rw [odo, if_pos rfl]
    rw [e]
    refine obDo_any (cp := fun _ _ _ _ => #[]) he_table hR hO (fun u m b1 b2 b3 b4 D => D.mp.look 5 (by decide) (by decide) (deeds_5 b1 b2 b3 b4)) (fun u m b1 b2 b3 b4 D => ?_) w
    exact withTable_is (u := (tdo (tbl c) o k x).1) (cc := (tdo (tbl c) o k x).2.1) (y := (tdo (tbl c) o k x).2.2) (fun j hj => by have := upC_all h1 (j := j) (by omega) (by omega); omega) rfl (fun i hi => by have := f.rt.keys i hi; omega) (fun i hi => f.rt.vals i hi) u
  by_cases e6 : kind = 6
  · subst e6
    have h1 : isTb c = true := by
      rcases hO with ⟨hk, _⟩ | ⟨hk, _⟩ | ⟨hk, _⟩ | ⟨_, h⟩ <;> first | exact h | omega
    have hc : 0 ≤ ((c 0 : Nat) : Int) ∧ ((c 0 : Nat) : Int) ≤ 4294967295 := by
      unfold isTb at h1
      simp only [Bool.and_eq_true] at h1
      have := upC_all h1.1 (j := 0) (by omega) (by omega)
      omega
    have f := ado_facts hc.1 hc.2 hR.w1 hR.w6 hR.v0 hR.v1
    have e : odo 6 c o k x = (tyw (ado (c 0) o x).1, (ado (c 0) o x).2) := by rw [odo, if_neg (by decide), if_pos rfl]
    rw [e]
    refine obDo_any (cp := fun _ _ _ _ => #[]) he_tally hR hO (fun u m b1 b2 b3 b4 D => D.mp.look 6 (by decide) (by decide) (deeds_6 b1 b2 b3 b4)) (fun u m b1 b2 b3 b4 D => ?_) w
    have hr : (((ado (c 0) o x).1.toNat : Nat) : Int) = (ado (c 0) o x).1 := by have := f.rt.1; omega
    have := withTally_is (c := c) (m := c 0) (r := (ado (c 0) o x).1.toNat) (o := o) (k := k) (x := x) (cc := (ado (c 0) o x).2.1) (y := (ado (c 0) o x).2.2) rfl (by omega) hR.v0 hR.v1 (by have := f.rt.2; omega) (by rw [hr]) u
    rw [wl_tyw, hr] at this
    exact this
  have h4 : kind ≤ 4 := by omega
  obtain ⟨hb, hp⟩ := isOb_list h4 hO
  have hw := isLb_w hb
  have h6 : (lst c).length ≤ 6 := by rw [lst_length]; exact hw.len
  obtain ⟨f, g⟩ := ldo_facts (k := k) b1 h4 h6 (lst_val hw) hp hR.w1 hR.w6 hR.v0 hR.v1
  have e : odo kind c o k x = (lw (ldo kind (lst c) o x).1, (ldo kind (lst c) o x).2) := by rw [odo, if_neg e5, if_neg e6]
  rw [e]
  have : kind = 1 ∨ kind = 2 ∨ kind = 3 ∨ kind = 4 := by omega
  rcases this with rfl | rfl | rfl | rfl
  · exact obDo_any (cp := fun b1 _ _ _ => ptr b1) he_list hR hO (fun u m b1 b2 b3 b4 D => D.mp.look 1 (by decide) (by decide) (deeds_1 b1 b2 b3 b4)) (fun u m b1 b2 b3 b4 D => wlist_q hw (fun B W v h => qDo_eq k h (by omega) rfl) f.len f.val u D.q) w
  · exact obDo_any (cp := fun _ b2 _ _ => ptr b2) he_list hR hO (fun u m b1 b2 b3 b4 D => D.mp.look 2 (by decide) (by decide) (deeds_2 b1 b2 b3 b4)) (fun u m b1 b2 b3 b4 D => wlist_s hw (fun B W v h => sDo_eq k h (by omega) rfl) f.len f.val u D.s) w
  · exact obDo_any (cp := fun _ _ b3 _ => ptr b3) he_list hR hO (fun u m b1 b2 b3 b4 D => D.mp.look 3 (by decide) (by decide) (deeds_3 b1 b2 b3 b4)) (fun u m b1 b2 b3 b4 D => wlist_d hw (fun B W v h => dDo_eq k h (by omega) rfl) f.len f.val u D.d) w
  · exact obDo_any (cp := fun _ _ _ b4 => ptr b4) he_list hR hO (fun u m b1 b2 b3 b4 D => D.mp.look 4 (by decide) (by decide) (deeds_4 b1 b2 b3 b4)) (fun u m b1 b2 b3 b4 D => wlist_h hw (fun B W v h => hDo_eq k h (by omega) rfl) f.len f.val u D.h) w
theorem obDo_no {kind o k x : Int} {c : Nat → Nat} (h : ¬ (Rt o k x ∧ isOb kind c)) (w : World) :
    Calls Tryd.prog 15 #[.int .i64 kind, .agg (wl c).toArray, .agg #[.int .i64 o, .int .i64 k, .int .i64 x]] w (Refd w) := by
  by_cases hR : Rt o k x
  · exact obDo_isnt hR (fun hO => h ⟨hR, hO⟩) w
  · exact obDo_wrong hR w
end Go.Proofs.YtaipanjigindbaaDoor.Tab
namespace Go.Proofs.YtaipanjigindbaaDoor
set_option maxRecDepth 20000
open Go.RowKit Go.Extern.Stop Go.Stop Go.Extern

theorem As.valueOfP (t : Addr) (w : World) : (ReflectliteValue.unpack (.iface 122 (.pointer (some t)))).run Tryd.prog w
    = .ok (.agg #[.pointer (some ⟨1, 122, none⟩), .pointer (some ⟨w.heap.size, 0, none⟩), .int .u64 150]) (w.alloc (.cells #[.pointer (some t)] 122)) := by kernel_rfl
theorem As.typeP (a : Addr) (w : World) : (ReflectliteValue.methodAny (ReflectliteValue.valueError "reflectlite.Value.Type" 0) (fun t _ _ _ => ReflectliteType.toType t) #[.agg #[.pointer (some ⟨1, 122, none⟩), .pointer (some a), .int .u64 150]]).run Tryd.prog w
    = .ok (.iface 159 (.agg #[.pointer (some ⟨1, 122, none⟩)])) w := by kernel_rfl
theorem As.methodKind (h : Value) (w : World) : (Go.method 310 159 (.agg #[h]) "Kind").run Tryd.prog w = .ok (113, h) w := by kernel_rfl
theorem As.kindP (w : World) : ((ReflectliteType.abiMethod fun t => (fun a : Nat => Value.int IntKind.u8 (a : Int)) <$> Rtype.kind t) #[.pointer (some ⟨1, 122, none⟩)]).run Tryd.prog w = .ok (.int .u8 22) w := by kernel_rfl
theorem As.kindE (w : World) : ((ReflectliteType.abiMethod fun t => (fun a : Nat => Value.int IntKind.u8 (a : Int)) <$> Rtype.kind t) #[.pointer (some ⟨1, 24, none⟩)]).run Tryd.prog w = .ok (.int .u8 2) w := by kernel_rfl

theorem As.partsP (a : Addr) (w : World) : (ReflectliteValue.parts (.agg #[.pointer (some ⟨1, 122, none⟩), .pointer (some a), .int .u64 150])).run Tryd.prog w = .ok (some (122, a, 150)) w := by kernel_rfl
theorem As.isNilP (a p : Addr) (W : World) (ha : W.cell? a = some (.pointer (some p))) :
    (ReflectliteValue.method (ReflectliteValue.valueError "reflectlite.Value.IsNil" 0) ReflectliteValue.isNil #[.agg #[.pointer (some ⟨1, 122, none⟩), .pointer (some a), .int .u64 150]]).run Tryd.prog W = .ok (.bool false) W := by
  delta ReflectliteValue.method ReflectliteValue.method.match_2
  simp [Array.getLit, As.partsP, ReflectliteValue.isNil, loadVar, isAgg, underlying, Tryd.underlying122, ha, Result.andThen]

theorem As.methodElem (h : Value) (w : World) : (Go.method 310 159 (.agg #[h]) "Elem").run Tryd.prog w = .ok (126, .agg #[h]) w := by kernel_rfl
theorem As.methodImplements (h : Value) (w : World) : (Go.method 310 159 (.agg #[h]) "Implements").run Tryd.prog w = .ok (127, .agg #[h]) w := by kernel_rfl
theorem As.methodAssignableTo (h : Value) (w : World) : (Go.method 310 159 (.agg #[h]) "AssignableTo").run Tryd.prog w = .ok (124, .agg #[h]) w := by kernel_rfl
theorem As.elemP (w : World) : (ReflectliteType.method ReflectliteType.elem #[.agg #[.pointer (some ⟨1, 122, none⟩)]]).run Tryd.prog w = .ok (.iface 159 (.agg #[.pointer (some ⟨1, 24, none⟩)])) w := by kernel_rfl
theorem As.implementsE (w : World) : (ReflectliteType.relation "Implements" ReflectliteType.implements_ #[.agg #[.pointer (some ⟨1, 24, none⟩)], .iface 159 (.agg #[.pointer (some ⟨1, 33, none⟩)])]).run Tryd.prog w = .ok (.bool true) w := by kernel_rfl
theorem As.typeOfE (v : Value) (w : World) : (ReflectliteType.typeOf #[.iface 24 v]).run Tryd.prog w = .ok (.iface 159 (.agg #[.pointer (some ⟨1, 24, none⟩)])) w := by kernel_rfl
theorem As.assignableE (w : World) : (ReflectliteType.relation "AssignableTo" ReflectliteType.assignableTo #[.agg #[.pointer (some ⟨1, 24, none⟩)], .iface 159 (.agg #[.pointer (some ⟨1, 24, none⟩)])]).run Tryd.prog w = .ok (.bool true) w := by kernel_rfl
theorem As.valueOfE (n : Int) (w : World) : (ReflectliteValue.unpack (.iface 24 (.int .i64 n))).run Tryd.prog w
    = .ok (.agg #[.pointer (some ⟨1, 24, none⟩), .pointer (some ⟨w.heap.size, 0, none⟩), .int .u64 130]) (w.alloc (.cells #[.int .i64 n] 24)) := by kernel_rfl
theorem As.elemOfP (w : World) : (Rtype.elem? 122).run Tryd.prog w = .ok (some 24) w := by kernel_rfl
theorem As.mkE (p : Addr) (w : World) : (ReflectliteValue.mk 24 p ReflectliteValue.flagAddr).run Tryd.prog w = .ok (.agg #[.pointer (some ⟨1, 24, none⟩), .pointer (some p), .int .u64 386]) w := by kernel_rfl
theorem As.elemVP (a p : Addr) (W : World) (ha : W.cell? a = some (.pointer (some p))) :
    (ReflectliteValue.method (ReflectliteValue.valueError "reflectlite.Value.Elem" 0) ReflectliteValue.elem #[.agg #[.pointer (some ⟨1, 122, none⟩), .pointer (some a), .int .u64 150]]).run Tryd.prog W
      = .ok (.agg #[.pointer (some ⟨1, 24, none⟩), .pointer (some p), .int .u64 386]) W := by
  delta ReflectliteValue.method ReflectliteValue.method.match_2
  simp [Array.getLit, As.partsP, ReflectliteValue.elem, loadVar, isAgg, underlying, Tryd.underlying122, ha, Result.andThen, As.elemOfP, As.mkE]
theorem As.partsEa (a : Addr) (w : World) : (ReflectliteValue.parts (.agg #[.pointer (some ⟨1, 24, none⟩), .pointer (some a), .int .u64 386])).run Tryd.prog w = .ok (some (24, a, 386)) w := by kernel_rfl
theorem As.partsE (a : Addr) (w : World) : (ReflectliteValue.parts (.agg #[.pointer (some ⟨1, 24, none⟩), .pointer (some a), .int .u64 130])).run Tryd.prog w = .ok (some (24, a, 130)) w := by kernel_rfl
theorem As.directE (w : World) : (Rtype.directlyAssignable 24 24).run Tryd.prog w = .ok true w := by kernel_rfl
theorem As.setE (ta b : Addr) (n : Int) (old : Value) (W : World) (hb : W.cell? b = some (.int .i64 n)) (ht : W.cell? ta = some old) (hf : W.frozen? ta = false) :
    (ReflectliteValue.set #[.agg #[.pointer (some ⟨1, 24, none⟩), .pointer (some ta), .int .u64 386], .agg #[.pointer (some ⟨1, 24, none⟩), .pointer (some b), .int .u64 130]]).run Tryd.prog W
      = .ok (.tuple #[]) (W.setCell ta (.int .i64 n)) := by
  delta ReflectliteValue.set ReflectliteValue.set.match_3
  simp [Array.getLit, As.partsEa, As.partsE, ReflectliteValue.flagAddr, loadVar, isAgg, underlying, Tryd.underlying24, hb, Result.andThen, As.directE, storeVar, Value.cells, storeCells, Addr.add]
  rw [run_store Tryd.prog W ta _ _ (by rfl)]
  simp [ht, hf]

set_option maxHeartbeats 4000000 in
theorem as_errno (n : Int) (t : Addr) (old : Value) (w : World) (hg : w.cell? ⟨0, 0, none⟩ = some (.iface 159 (.agg #[.pointer (some ⟨1, 33, none⟩)]))) (ht0 : w.cell? t = some old) (hf0 : w.frozen? t = false) :
    Calls Tryd.prog 44 #[.iface 24 (.int .i64 n), .iface 122 (.pointer (some t))] w fun ev w' => ev = .returned (.bool true) ∧ w' = ((((w.alloc (.cells #[.pointer (some t)] 122)).alloc (.cells #[.pointer (some ⟨1, 122, none⟩), .pointer (some ⟨w.heap.size, 0, none⟩), .int .u64 150] 135)).alloc (.cells #[.pointer (some ⟨1, 122, none⟩), .pointer (some ⟨w.heap.size, 0, none⟩), .int .u64 150] 135)).alloc (.cells #[.int .i64 n] 24)).setCell t (.int .i64 n) := by
  have hF0 := @run_callFunc_extern Tryd.prog 63 _ (fun args => ReflectliteValue.unpack (args.getD 0 (.tuple #[]))) Tryd.func63 (by kernel_rfl) (by kernel_rfl) (by kernel_rfl) (by kernel_rfl)
  have hF1 := @run_callFunc_extern Tryd.prog 64 _ (ReflectliteValue.methodAny (ReflectliteValue.valueError "reflectlite.Value.Type" 0) (fun t _ _ _ => ReflectliteType.toType t)) Tryd.func64 (by kernel_rfl) (by kernel_rfl) (by kernel_rfl) (by kernel_rfl)
  have hF2 := @run_callFunc_extern Tryd.prog 65 _ (ReflectliteValue.method (ReflectliteValue.valueError "reflectlite.Value.IsNil" 0) ReflectliteValue.isNil) Tryd.func65 (by kernel_rfl) (by kernel_rfl) (by kernel_rfl) (by kernel_rfl)
  have hF3 := @run_callFunc_extern Tryd.prog 113 _ (ReflectliteType.abiMethod fun t => do pure (.int .u8 (← Rtype.kind t))) Tryd.func113 (by kernel_rfl) (by kernel_rfl) (by kernel_rfl) (by kernel_rfl)
  have hF4 := @run_callFunc_extern Tryd.prog 126 _ (ReflectliteType.method ReflectliteType.elem) Tryd.func126 (by kernel_rfl) (by kernel_rfl) (by kernel_rfl) (by kernel_rfl)
  have hF5 := @run_callFunc_extern Tryd.prog 127 _ (ReflectliteType.relation "Implements" ReflectliteType.implements_) Tryd.func127 (by kernel_rfl) (by kernel_rfl) (by kernel_rfl) (by kernel_rfl)
  have hF6 := @run_callFunc_extern Tryd.prog 83 _ ReflectliteType.typeOf Tryd.func83 (by kernel_rfl) (by kernel_rfl) (by kernel_rfl) (by kernel_rfl)
  have hF7 := @run_callFunc_extern Tryd.prog 124 _ (ReflectliteType.relation "AssignableTo" ReflectliteType.assignableTo) Tryd.func124 (by kernel_rfl) (by kernel_rfl) (by kernel_rfl) (by kernel_rfl)
  have hF8 := @run_callFunc_extern Tryd.prog 84 _ (ReflectliteValue.method (ReflectliteValue.valueError "reflectlite.Value.Elem" 0) ReflectliteValue.elem) Tryd.func84 (by kernel_rfl) (by kernel_rfl) (by kernel_rfl) (by kernel_rfl)
  have hF9 := @run_callFunc_extern Tryd.prog 85 _ ReflectliteValue.set Tryd.func85 (by kernel_rfl) (by kernel_rfl) (by kernel_rfl) (by kernel_rfl)
  have tO := As.typeOfE
  have mA := As.methodAssignableTo
  have aE := As.assignableE
  have vE := As.valueOfE
  have vP := As.valueOfP
  have tP := As.typeP
  have mK := As.methodKind
  have mE := As.methodElem
  have mI := As.methodImplements
  have kP := As.kindP
  have kE := As.kindE
  have eP := As.elemP
  have iE := As.implementsE
  have n8 := As.isNilP ⟨w.heap.size, 0, none⟩ t ((w.alloc (.cells #[.pointer (some t)] 122)).alloc (.cells #[.pointer (some ⟨1, 122, none⟩), .pointer (some ⟨w.heap.size, 0, none⟩), .int .u64 150] 135)) (by simp)
  have hlt : 0 < w.heap.size := by
    rcases Nat.lt_or_ge 0 w.heap.size with h | h
    · exact h
    · simp [World.cell?, Array.getElem?_eq_none h] at hg
  have hg2 : ((w.alloc (.cells #[.pointer (some t)] 122)).alloc (.cells #[.pointer (some ⟨1, 122, none⟩), .pointer (some ⟨w.heap.size, 0, none⟩), .int .u64 150] 135)).cell? ⟨0, 0, none⟩ = some (.iface 159 (.agg #[.pointer (some ⟨1, 33, none⟩)])) := by
    rw [World.cell?_alloc_lt _ _ ⟨0, 0, none⟩ (by simp <;> omega), World.cell?_alloc_lt _ _ ⟨0, 0, none⟩ hlt]; exact hg
  have htl : t.block < w.heap.size := by
    rcases Nat.lt_or_ge t.block w.heap.size with h | h
    · exact h
    · simp [World.cell?, Array.getElem?_eq_none h] at ht0
  have el := As.elemVP ⟨w.heap.size, 0, none⟩ t (((w.alloc (.cells #[.pointer (some t)] 122)).alloc (.cells #[.pointer (some ⟨1, 122, none⟩), .pointer (some ⟨w.heap.size, 0, none⟩), .int .u64 150] 135)).alloc (.cells #[.pointer (some ⟨1, 122, none⟩), .pointer (some ⟨w.heap.size, 0, none⟩), .int .u64 150] 135)) (by rw [World.cell?_alloc_lt _ _ ⟨w.heap.size, 0, none⟩ (by simp; omega)]; simp)
  have st := As.setE t ⟨w.heap.size + 1 + 1 + 1, 0, none⟩ n old ((((w.alloc (.cells #[.pointer (some t)] 122)).alloc (.cells #[.pointer (some ⟨1, 122, none⟩), .pointer (some ⟨w.heap.size, 0, none⟩), .int .u64 150] 135)).alloc (.cells #[.pointer (some ⟨1, 122, none⟩), .pointer (some ⟨w.heap.size, 0, none⟩), .int .u64 150] 135)).alloc (.cells #[.int .i64 n] 24))
    (by rw [World.cell?_alloc_at _ _ _ _ (by simp)]; rfl)
    (by rw [World.cell?_alloc_lt _ _ t (by simp; omega), World.cell?_alloc_lt _ _ t (by simp; omega), World.cell?_alloc_lt _ _ t (by simp; omega), World.cell?_alloc_lt _ _ t htl]; exact ht0)
    (by rw [World.frozen?_alloc_old _ _ t (by simp; omega), World.frozen?_alloc_old _ _ t (by simp; omega), World.frozen?_alloc_old _ _ t (by simp; omega), World.frozen?_alloc_old _ _ t (Nat.ne_of_lt htl)]; exact hf0)
  go_enter Tryd.func44, Tryd.ntmps44
  go_wp2
  refine wp_loop_rounds 1 ?_
  rw [rounds_succ]
  go_wp2
  go_ret
  exact ⟨rfl, rfl⟩
end Go.Proofs.YtaipanjigindbaaDoor
namespace Go.Proofs.YtaipanjigindbaaDoor
set_option maxRecDepth 20000
open Go.RowKit

/-- The library's handle of the type error in its variable. -/
def HandleAt (w : World) : Prop := w.cell? ⟨0, 0, none⟩ = some (.iface 159 (.agg #[.pointer (some ⟨1, 33, none⟩)]))

theorem size_of_cell' {w : World} {b o : Nat} {v : Value} (h : w.cell? ⟨b, o, none⟩ = some v) : b < w.heap.size := by
  by_cases hb : b < w.heap.size
  · exact hb
  · have e : w.heap[b]? = none := by simp; omega
    simp [World.cell?, e] at h

theorem HandleAt.later {w w' : World} (h : HandleAt w) (g : Gr w w') : HandleAt w' := (g.cell (size_of_cell' h)).trans h

theorem tell_nil (w : World) : Calls Tryd.prog 32 #[.nilIface] w fun e w' => e = .returned (.int .i64 0) ∧ w' = w := by
  go_enter Tryd.func32, Tryd.ntmps32
  go_wp2
  go_ret
  exact ⟨rfl, rfl⟩

theorem as_errno' (n : Int) (t : Addr) (old : Value) (w : World) (hg : HandleAt w) (ht0 : w.cell? t = some old) (hf0 : w.frozen? t = false) :
    Calls Tryd.prog 44 #[.iface 24 (.int .i64 n), .iface 122 (.pointer (some t))] w fun e w' => e = .returned (.bool true) ∧ ∃ W, Gr w W ∧ w' = W.setCell t (.int .i64 n) :=
  (as_errno n t old w hg ht0 hf0).mono fun _ _ ⟨he, hw⟩ => ⟨he, _, ((((Gr.refl w).alloc _ _).alloc _ _).alloc _ _).alloc _ _, hw⟩

theorem tell_errno (n : Int) (w : World) (hH : HandleAt w) :
    Calls Tryd.prog 32 #[.iface 24 (.int .i64 n)] w fun e w' => e = .returned (.int .i64 n) ∧ Gr w w' := by
  have H1 : Hid (HandleAt (w.alloc (.cells #[.int .i64 0] 24))) := hH.later ((Gr.refl w).alloc _ _)
  clear hH
  go_enter Tryd.func32, Tryd.ntmps32
  go_wp2_with fail
  refine (as_errno' n ⟨w.heap.size, 0, none⟩ (.int .i64 0) _ H1.out (by simp) ((frozen?_alloc_cells _ _ _ _).trans (frozen_past w (Nat.le_refl _)))).mono ?_
  rintro e w' ⟨rfl, W, hW, rfl⟩
  have hc : (W.setCell ⟨w.heap.size, 0, none⟩ (.int .i64 n)).cell? ⟨w.heap.size, 0, none⟩ = some (.int .i64 n) := by
    refine World.cell?_setCell_same _ _ _ (u := .int .i64 0) ?_
    rw [hW.cell (by simp)]
    simp
  have hG : Gr w (W.setCell ⟨w.heap.size, 0, none⟩ (.int .i64 n)) := (((Gr.refl w).alloc _ _).trans hW).setCell (Nat.le_refl _) _
  generalize W.setCell ⟨w.heap.size, 0, none⟩ (.int .i64 n) = W2 at hc hG
  clear hW H1
  go_wp2
  go_ret
  exact ⟨rfl, hG⟩

theorem place_nil (w : World) : Calls Tryd.prog 24 #[.nilIface] w fun e w' => e = .returned (.tuple #[.int .i64 0, .int .i64 (-1)]) ∧ w' = w := by
  go_enter Tryd.func24, Tryd.ntmps24
  go_wp2_with fail
  refine (tell_nil _).mono ?_
  rintro e w' ⟨rfl, rfl⟩
  go_wp2_with fail
  refine wp_loop_rounds 1 ?_
  rw [rounds_succ]
  go_wp2
  go_ret2
  exact ⟨rfl, rfl⟩

theorem noAt (n : Int) (w : World) : (Instr.typeAssert (.iface 24 (.int .i64 n)) 33 71 true).run Tryd.prog w = .ok (.tuple #[.pointer none, .bool false]) w := by kernel_rfl
theorem noUnwrap (n : Int) (w : World) : (Instr.typeAssert (.iface 24 (.int .i64 n)) 33 108 true).run Tryd.prog w = .ok (.tuple #[.nilIface, .bool false]) w :=
  run_typeAssert_lacksB Tryd.underlying108 (by kernel_rfl) (by kernel_rfl) _ _ w

theorem place_errno (n : Int) (w : World) (hH : HandleAt w) :
    Calls Tryd.prog 24 #[.iface 24 (.int .i64 n)] w fun e w' => e = .returned (.tuple #[.int .i64 n, .int .i64 (-1)]) ∧ Gr w w' := by
  have h1 := noAt n
  have h2 := noUnwrap n
  go_enter Tryd.func24, Tryd.ntmps24
  go_wp2_with fail
  refine (tell_errno n _ hH).mono ?_
  rintro e w' ⟨rfl, hG⟩
  clear hH
  go_wp2_with fail
  refine wp_loop_rounds 1 ?_
  rw [rounds_succ]
  go_wp2
  go_ret2
  exact ⟨rfl, hG⟩

end Go.Proofs.YtaipanjigindbaaDoor
namespace Go.Proofs.YtaipanjigindbaaDoor
set_option maxRecDepth 20000
open Go.RowKit Go.Extern.Stop Go.Stop Go.Extern

/-- An error at a place. -/
def atV (b : Nat) : Value := .iface 71 (.pointer (some ⟨b, 0, none⟩))
theorem At.typeOf (v : Value) (w : World) : (ReflectliteType.typeOf #[.iface 71 v]).run Tryd.prog w = .ok (.iface 159 (.agg #[.pointer (some ⟨1, 71, none⟩)])) w := by kernel_rfl
theorem At.assignable (w : World) : (ReflectliteType.relation "AssignableTo" ReflectliteType.assignableTo #[.agg #[.pointer (some ⟨1, 71, none⟩)], .iface 159 (.agg #[.pointer (some ⟨1, 24, none⟩)])]).run Tryd.prog w = .ok (.bool false) w := by kernel_rfl
theorem At.unwraps (v : Value) (w : World) : (Instr.typeAssert (.iface 71 v) 33 108 true).run Tryd.prog w = .ok (.tuple #[.iface 71 v, .bool true]) w :=
  run_typeAssert_hasB Tryd.underlying108 (by kernel_rfl) v _ w
theorem At.lacksAs (v : Value) (w : World) : (Instr.typeAssert (.iface 71 v) 33 164 true).run Tryd.prog w = .ok (.tuple #[.nilIface, .bool false]) w :=
  run_typeAssert_lacksB Tryd.underlying164 (by kernel_rfl) (by kernel_rfl) _ _ w
theorem At.methodUnwrap (h : Value) (w : World) : (Go.method 310 71 h "Unwrap").run Tryd.prog w = .ok (119, h) w := by kernel_rfl
theorem At.isAt (v : Value) (w : World) : (Instr.typeAssert (.iface 71 v) 33 71 true).run Tryd.prog w = .ok (.tuple #[v, .bool true]) w := by kernel_rfl
theorem At.unwrap (n : Int) (b : Nat) (w : World) (hc : w.cell? ⟨b, 0, none⟩ = some (.int .i64 n)) :
    Calls Tryd.prog 119 #[.pointer (some ⟨b, 0, none⟩)] w fun e w' => e = .returned (.iface 24 (.int .i64 n)) ∧ w' = w := by
  go_enter Tryd.func119, Tryd.ntmps119
  go_wp2
  go_ret
  exact ⟨rfl, rfl⟩
end Go.Proofs.YtaipanjigindbaaDoor
namespace Go.Proofs.YtaipanjigindbaaDoor.Tab
set_option maxRecDepth 20000
open Go.RowKit
set_option linter.unusedVariables false

/-- What Legal answers: the object behind all, or an error at the first deed that is another one. -/
def LegalY (w : World) (c : Nat → Nat) (e : Ending) (w' : World) : Prop := e = .returned (.tuple #[.agg (wl c).toArray, .nilIface]) ∧ Below w.heap.size w w'
def LegalN (w : World) (m : Nat) (e : Ending) (w' : World) : Prop := ∃ b, e = .returned (.tuple #[.agg (wl wz).toArray, atV b]) ∧ w.heap.size ≤ b ∧ Bo w' b [.int .i64 13, .int .i64 (m : Nat)] ∧ Below w.heap.size w w'
set_option maxHeartbeats 2000000 in
theorem legal_no {kind : Int} (h : ¬ (1 ≤ kind ∧ kind ≤ 6)) (w : World) (v : Value) :
    Calls Tryd.prog 7 #[.int .i64 kind, v] w (fun e w' => e = .returned (.tuple #[.agg (wl wz).toArray, .iface 24 (.int .i64 1)]) ∧ Below w.heap.size w w') := by
  have IS : Hid (∀ w : World, _) := obIs_no h
  clear h
  have hM : Hid _ := ((Ms.nil w).bornR wz_all.symm 31 (b := w.heap.size) rfl)
  go_enter Tryd.func7, Tryd.ntmps7
  go_wp2_with fail
  refine (IS.out _).mono ?_
  rintro e ux ⟨rfl, hw⟩
  rw [hw]; clear hw ux
  generalize World.alloc _ _ = W at hM ⊢
  generalize hsz : w.heap.size = n at hM ⊢
  clear hsz
  go_wp2_with (first
    | (refine sR rfl (hM.out.at 0 rfl) rfl ((rwC wz).len (rwC wz)) (rwC wz) ?_
       replace hM := hid (hM.out.put 0 rfl (wl wz) ((rwC wz).len (rwC wz)))
       generalize World.setCells _ _ _ _ = W at hM ⊢))
  exact bodyPost_ret (res1s Tryd.results7 (hM.out.at 0 rfl) (rwC wz) (.iface 24 (.int .i64 1))) rfl ⟨rfl, hM.out.below⟩
set_option maxHeartbeats 2000000 in
theorem legal_nil {kind : Nat} (h1 : 1 ≤ kind) (h6 : kind ≤ 6) (w : World) :
    Calls Tryd.prog 7 #[.int .i64 (kind : Nat), .slice none 0 0] w (LegalY w wz) := by
  have IS : Hid (∀ w : World, _) := obIs_yes (k := (kind : Nat)) (by omega) (by omega)
  clear h1 h6
  have hM : Hid _ := ((Ms.nil w).bornR wz_all.symm 31 (b := w.heap.size) rfl)
  go_enter Tryd.func7, Tryd.ntmps7
  go_wp2_with fail
  refine (IS.out _).mono ?_
  rintro e ux ⟨rfl, hw⟩
  rw [hw]; clear hw ux
  generalize World.alloc _ _ = W at hM ⊢
  generalize hsz : w.heap.size = n at hM ⊢
  clear hsz
  obtain ⟨bx1, hbx1⟩ : ∃ q, q = W.heap.size := ⟨_, rfl⟩
  replace hM := hid (hM.out.bornR wz_all.symm 31 (b := bx1) hbx1)
  have Hbx1 : Hid _ := hbx1
  clear hbx1
  go_wp2_with fail
  rw [← Hbx1.out]
  generalize World.alloc _ _ = W at hM ⊢
  go_loopg [19] 0 (fun gg s19 wt => wt = W ∧ s19 = .int .i64 0)
  case atStart => exact ⟨rfl, rfl⟩
  case round =>
    obtain ⟨hw, rfl⟩ := hrel
    rw [hw]; clear hw wr
    go_wp2_with (first
      | (refine lR rfl (hM.out.at 0 rfl) rfl (rwC wz) ?_)
      | (refine sR rfl (hM.out.at 1 rfl) rfl ((rwC wz).len (rwC wz)) (rwC wz) ?_
         replace hM := hid (hM.out.put 1 rfl (wl wz) ((rwC wz).len (rwC wz)))
         generalize World.setCells _ _ _ _ = W at hM ⊢))
    exact bodyPost_ret (res1s Tryd.results7 (hM.out.at 1 rfl) (rwC wz) (.nilIface)) rfl ⟨rfl, hM.out.below⟩
set_option maxHeartbeats 2000000 in
theorem legal_none {kind : Nat} (h1 : 1 ≤ kind) (h6 : kind ≤ 6) (a : Addr) (c : Nat) (w : World) :
    Calls Tryd.prog 7 #[.int .i64 (kind : Nat), .slice (some a) 0 c] w (LegalY w wz) := by
  have IS : Hid (∀ w : World, _) := obIs_yes (k := (kind : Nat)) (by omega) (by omega)
  clear h1 h6
  have hM : Hid _ := ((Ms.nil w).bornR wz_all.symm 31 (b := w.heap.size) rfl)
  go_enter Tryd.func7, Tryd.ntmps7
  go_wp2_with fail
  refine (IS.out _).mono ?_
  rintro e ux ⟨rfl, hw⟩
  rw [hw]; clear hw ux
  generalize World.alloc _ _ = W at hM ⊢
  generalize hsz : w.heap.size = n at hM ⊢
  clear hsz
  obtain ⟨bx1, hbx1⟩ : ∃ q, q = W.heap.size := ⟨_, rfl⟩
  replace hM := hid (hM.out.bornR wz_all.symm 31 (b := bx1) hbx1)
  have Hbx1 : Hid _ := hbx1
  clear hbx1
  go_wp2_with fail
  rw [← Hbx1.out]
  generalize World.alloc _ _ = W at hM ⊢
  go_loopg [19] 0 (fun gg s19 wt => wt = W ∧ s19 = .int .i64 0)
  case atStart => exact ⟨rfl, rfl⟩
  case round =>
    obtain ⟨hw, rfl⟩ := hrel
    rw [hw]; clear hw wr
    go_wp2_with (first
      | (refine lR rfl (hM.out.at 0 rfl) rfl (rwC wz) ?_)
      | (refine sR rfl (hM.out.at 1 rfl) rfl ((rwC wz).len (rwC wz)) (rwC wz) ?_
         replace hM := hid (hM.out.put 1 rfl (wl wz) ((rwC wz).len (rwC wz)))
         generalize World.setCells _ _ _ _ = W at hM ⊢))
    exact bodyPost_ret (res1s Tryd.results7 (hM.out.at 1 rfl) (rwC wz) (.nilIface)) rfl ⟨rfl, hM.out.below⟩
set_option maxHeartbeats 8000000 in
theorem legal_some {kind : Nat} (h1 : 1 ≤ kind) (h6 : kind ≤ 6) {b off c n : Nat} {q : Nat → DD} (h0 : 0 < n) (hc : n ≤ c) (hn : n ≤ 9223372036854775807) (hO : ∀ j, j < n → Ok1 (kind : Nat) q j) (w : World) (D : Dq w (.slice (some ⟨b, off, none⟩) n c) n q) :
    Calls Tryd.prog 7 #[.int .i64 (kind : Nat), .slice (some ⟨b, off, none⟩) n c] w (LegalY w (oi (kind : Nat) q n)) := by
  have IS : Hid (∀ w : World, _) := obIs_yes (k := (kind : Nat)) (by omega) (by omega)
  have HE : Hid _ := hid D.all
  clear D
  have OB : Hid (∀ i, i ≤ n → isOb (kind : Nat) (oi (kind : Nat) q i)) := fun i hi => oi_ob (by omega) (by omega) i fun j hj => hO j (by omega)
  have HO : Hid _ := hO
  clear hO
  have HC : Hid (n ≤ c ∧ n ≤ 9223372036854775807) := ⟨hc, hn⟩
  clear hc hn h0 h1 h6
  have hM : Hid _ := ((Ms.nil w).bornR wz_all.symm 31 (b := w.heap.size) rfl)
  go_enter Tryd.func7, Tryd.ntmps7
  go_wp2_with fail
  refine (IS.out _).mono ?_
  rintro e ux ⟨rfl, hw⟩
  rw [hw]; clear hw ux
  generalize World.alloc _ _ = W at hM ⊢
  generalize hsz : w.heap.size = n0 at hM ⊢
  have HSZ : Hid _ := hsz
  clear hsz
  obtain ⟨bx1, hbx1⟩ : ∃ q, q = W.heap.size := ⟨_, rfl⟩
  replace hM := hid (hM.out.bornR wz_all.symm 31 (b := bx1) hbx1)
  have Hbx1 : Hid _ := hbx1
  clear hbx1
  go_wp2_with fail
  rw [← Hbx1.out]
  generalize World.alloc _ _ = W at hM ⊢
  go_loopg [19] n (fun gg s19 wt => ∃ i : Nat, i ≤ n ∧ n - i ≤ gg ∧ s19 = .int .i64 i ∧ Hid (Ms n0 w wt [(bx1, wl (oi (kind : Nat) q i)), (n0, wl wz)] []))
  case atStart => exact ⟨0, by omega, by omega, rfl, hM⟩
  case round =>
    clear hM
    obtain ⟨i, hi, hgg, rfl, hM⟩ := hrel
    obtain ⟨W, rfl⟩ : ∃ q, q = wr := ⟨_, rfl⟩
    obtain ⟨ci, hci⟩ : ∃ c, c = oi (kind : Nat) q i := ⟨_, rfl⟩
    rw [← hci] at hM
    by_cases hlt : i < n
    · have hi1 : (i : Int) < (n : Int) := by omega
      have hi0 : (0 : Int) ≤ (i : Int) := by omega
      obtain ⟨t, o, k, x, cc, y, hq, hr⟩ := HE.out W hM.out.below i (by omega)
      have RA : Hid _ := hr
      clear hr
      have OK := (Ok1.at hq).1 (HO.out i hlt)
      obtain ⟨cn, hcn⟩ : ∃ c, c = oi (kind : Nat) q (i + 1) := ⟨_, rfl⟩
      have HCN : Hid _ := hcn
      have DO : Hid (∀ w : World, Calls Tryd.prog 15 #[.int .i64 (kind : Nat), .agg (wl ci).toArray, .agg #[.int .i64 o, .int .i64 k, .int .i64 x]] w (DidD w cn cc y)) := fun w => by
        have h := obDo_is (kind := (kind : Nat)) (OB.out i (by omega)) OK.1 w
        rw [OK.2.1, OK.2.2, ← oi_at hq, ← hci, ← hcn] at h
        exact h
      clear OK hcn hci hq
      obtain ⟨bd, hbd⟩ : ∃ q, q = W.heap.size := ⟨_, rfl⟩
      have HBD : Hid _ := hbd
      clear hbd
      go_wp2_with (first
        | (refine lO rfl RA.out rfl (rwD t o k x cc y) ?_)
        | (rw [← HBD.out]
           replace hM := hid (hM.out.born [.int .i64 0, .int .i64 0, .int .i64 0, .int .i64 0, .int .i64 0, .int .i64 0] 53 HBD.out)
           refine sR rfl (hM.out.at 0 rfl) rfl ((rwD 0 0 0 0 0 0).len (rwD t o k x cc y)) (rwD t o k x cc y) ?_
           replace hM := hid (hM.out.put 0 rfl (dl t o k x cc y) ((rwD 0 0 0 0 0 0).len (rwD t o k x cc y)))
           generalize World.setCells _ _ _ _ = W at hM ⊢
           have c2 := hM.out.cell 0 1 rfl rfl
           have c3 := hM.out.cell 0 2 rfl rfl
           have c4 := hM.out.cell 0 3 rfl rfl)
        | (refine lR rfl (hM.out.at 1 rfl) rfl (rwC ci) ?_))
      refine (DO.out _).mono ?_
      rintro e W ⟨rfl, hb⟩
      replace hM := hid (hM.out.later hb)
      clear hb
      clear c2 c3 c4
      obtain ⟨bx5, hbx5⟩ : ∃ q, q = W.heap.size := ⟨_, rfl⟩
      replace hM := hid ((hM.out.bornR wz_all.symm 31 (b := bx5) hbx5).born [.int .i64 0, .int .i64 0] 49 (b := (bx5 + 1)) (by simp [hbx5]))
      have Hbx5 : Hid _ := hbx5
      clear hbx5
      go_wp2_with (first
        | (rw [← Hbx5.out]; refine sR rfl (hM.out.at 1 rfl) rfl ((rwC wz).len (rwC cn)) (rwC cn) ?_
           replace hM := hid (hM.out.put 1 rfl (wl cn) ((rwC wz).len (rwC cn)))
           generalize World.setCells _ _ _ _ = W at hM ⊢)
        | (refine sR rfl (hM.out.at 0 rfl) rfl ((rwA 0 0).len (rwA cc y)) (rwA cc y) ?_
           replace hM := hid (hM.out.put 0 rfl [.int .i64 cc, .int .i64 y] ((rwA 0 0).len (rwA cc y)))
           generalize World.setCells _ _ _ _ = W at hM ⊢
           have c6 := hM.out.cell 0 0 rfl rfl
           have c7 := hM.out.cell 0 1 rfl rfl
           have c8 := hM.out.cell 2 4 rfl rfl
           have c9 := hM.out.cell 2 5 rfl rfl)
        | (refine lR rfl (hM.out.at 1 rfl) rfl (rwC cn) ?_)
        | (refine sR rfl (hM.out.at 3 rfl) rfl ((rwC ci).len (rwC cn)) (rwC cn) ?_
           replace hM := hid (hM.out.put 3 rfl (wl cn) ((rwC ci).len (rwC cn)))
           generalize World.setCells _ _ _ _ = W at hM ⊢))
      clear c6 c7 c8 c9
      go_roundg (n - (i + 1))
      case measure => omega
      case rel => exact ⟨i + 1, by omega, by omega, by have := HC.out; have hw : wrap64 ((i : Int) + 1) = ((i + 1 : Nat) : Int) := (by unfold wrap64; omega); rw [hw], by rw [← HCN.out]; exact hM.out.pick [3, 4]⟩
    · obtain rfl : i = n := by omega
      have hi1 : ¬ (i : Int) < (i : Int) := by omega
      go_wp2_with (first
        | (refine lR rfl (hM.out.at 0 rfl) rfl (rwC ci) ?_)
        | (refine sR rfl (hM.out.at 1 rfl) rfl ((rwC wz).len (rwC ci)) (rwC ci) ?_
           replace hM := hid (hM.out.put 1 rfl (wl ci) ((rwC wz).len (rwC ci)))
           generalize World.setCells _ _ _ _ = W at hM ⊢))
      exact bodyPost_ret (res1s Tryd.results7 (hM.out.at 1 rfl) (rwC ci) (.nilIface)) rfl ⟨by rw [hci], hM.out.below⟩
set_option maxHeartbeats 8000000 in
theorem legal_bad {kind : Nat} (h1 : 1 ≤ kind) (h6 : kind ≤ 6) {b off c n m : Nat} {q : Nat → DD} (h0 : 0 < n) (hc : n ≤ c) (hn : n ≤ 9223372036854775807) (hm : m < n) (hO : ∀ j, j < m → Ok1 (kind : Nat) q j) (hB : ¬ Ok1 (kind : Nat) q m) (w : World) (D : Dq w (.slice (some ⟨b, off, none⟩) n c) n q) :
    Calls Tryd.prog 7 #[.int .i64 (kind : Nat), .slice (some ⟨b, off, none⟩) n c] w (LegalN w m) := by
  have IS : Hid (∀ w : World, _) := obIs_yes (k := (kind : Nat)) (by omega) (by omega)
  have HE : Hid _ := hid D.all
  clear D
  have OB : Hid (∀ i, i ≤ m → isOb (kind : Nat) (oi (kind : Nat) q i)) := fun i hi => oi_ob (by omega) (by omega) i fun j hj => hO j (by omega)
  have HO : Hid _ := hO
  clear hO
  have HB : Hid _ := hB
  clear hB
  have HC : Hid (n ≤ c ∧ n ≤ 9223372036854775807) := ⟨hc, hn⟩
  clear hc hn h0 h1 h6
  have hM : Hid _ := ((Ms.nil w).bornR wz_all.symm 31 (b := w.heap.size) rfl)
  go_enter Tryd.func7, Tryd.ntmps7
  go_wp2_with fail
  refine (IS.out _).mono ?_
  rintro e ux ⟨rfl, hw⟩
  rw [hw]; clear hw ux
  generalize World.alloc _ _ = W at hM ⊢
  generalize hsz : w.heap.size = n0 at hM ⊢
  have HSZ : Hid _ := hsz
  clear hsz
  obtain ⟨bx1, hbx1⟩ : ∃ q, q = W.heap.size := ⟨_, rfl⟩
  replace hM := hid (hM.out.bornR wz_all.symm 31 (b := bx1) hbx1)
  have Hbx1 : Hid _ := hbx1
  clear hbx1
  go_wp2_with fail
  rw [← Hbx1.out]
  generalize World.alloc _ _ = W at hM ⊢
  go_loopg [19] m (fun gg s19 wt => ∃ i : Nat, i ≤ m ∧ m - i ≤ gg ∧ s19 = .int .i64 i ∧ Hid (Ms n0 w wt [(bx1, wl (oi (kind : Nat) q i)), (n0, wl wz)] []))
  case atStart => exact ⟨0, by omega, by omega, rfl, hM⟩
  case round =>
    clear hM
    obtain ⟨i, hi, hgg, rfl, hM⟩ := hrel
    obtain ⟨W, rfl⟩ : ∃ q, q = wr := ⟨_, rfl⟩
    obtain ⟨ci, hci⟩ : ∃ c, c = oi (kind : Nat) q i := ⟨_, rfl⟩
    rw [← hci] at hM
    by_cases hlt : i < m
    · have hi1 : (i : Int) < (n : Int) := by omega
      have hi0 : (0 : Int) ≤ (i : Int) := by omega
      obtain ⟨t, o, k, x, cc, y, hq, hr⟩ := HE.out W hM.out.below i (by omega)
      have RA : Hid _ := hr
      clear hr
      have OK := (Ok1.at hq).1 (HO.out i hlt)
      obtain ⟨cn, hcn⟩ : ∃ c, c = oi (kind : Nat) q (i + 1) := ⟨_, rfl⟩
      have HCN : Hid _ := hcn
      have DO : Hid (∀ w : World, Calls Tryd.prog 15 #[.int .i64 (kind : Nat), .agg (wl ci).toArray, .agg #[.int .i64 o, .int .i64 k, .int .i64 x]] w (DidD w cn cc y)) := fun w => by
        have h := obDo_is (kind := (kind : Nat)) (OB.out i (by omega)) OK.1 w
        rw [OK.2.1, OK.2.2, ← oi_at hq, ← hci, ← hcn] at h
        exact h
      clear OK hcn hci hq
      obtain ⟨bd, hbd⟩ : ∃ q, q = W.heap.size := ⟨_, rfl⟩
      have HBD : Hid _ := hbd
      clear hbd
      go_wp2_with (first
        | (refine lO rfl RA.out rfl (rwD t o k x cc y) ?_)
        | (rw [← HBD.out]
           replace hM := hid (hM.out.born [.int .i64 0, .int .i64 0, .int .i64 0, .int .i64 0, .int .i64 0, .int .i64 0] 53 HBD.out)
           refine sR rfl (hM.out.at 0 rfl) rfl ((rwD 0 0 0 0 0 0).len (rwD t o k x cc y)) (rwD t o k x cc y) ?_
           replace hM := hid (hM.out.put 0 rfl (dl t o k x cc y) ((rwD 0 0 0 0 0 0).len (rwD t o k x cc y)))
           generalize World.setCells _ _ _ _ = W at hM ⊢
           have c2 := hM.out.cell 0 1 rfl rfl
           have c3 := hM.out.cell 0 2 rfl rfl
           have c4 := hM.out.cell 0 3 rfl rfl)
        | (refine lR rfl (hM.out.at 1 rfl) rfl (rwC ci) ?_))
      refine (DO.out _).mono ?_
      rintro e W ⟨rfl, hb⟩
      replace hM := hid (hM.out.later hb)
      clear hb
      clear c2 c3 c4
      obtain ⟨bx5, hbx5⟩ : ∃ q, q = W.heap.size := ⟨_, rfl⟩
      replace hM := hid ((hM.out.bornR wz_all.symm 31 (b := bx5) hbx5).born [.int .i64 0, .int .i64 0] 49 (b := (bx5 + 1)) (by simp [hbx5]))
      have Hbx5 : Hid _ := hbx5
      clear hbx5
      go_wp2_with (first
        | (rw [← Hbx5.out]; refine sR rfl (hM.out.at 1 rfl) rfl ((rwC wz).len (rwC cn)) (rwC cn) ?_
           replace hM := hid (hM.out.put 1 rfl (wl cn) ((rwC wz).len (rwC cn)))
           generalize World.setCells _ _ _ _ = W at hM ⊢)
        | (refine sR rfl (hM.out.at 0 rfl) rfl ((rwA 0 0).len (rwA cc y)) (rwA cc y) ?_
           replace hM := hid (hM.out.put 0 rfl [.int .i64 cc, .int .i64 y] ((rwA 0 0).len (rwA cc y)))
           generalize World.setCells _ _ _ _ = W at hM ⊢
           have c6 := hM.out.cell 0 0 rfl rfl
           have c7 := hM.out.cell 0 1 rfl rfl
           have c8 := hM.out.cell 2 4 rfl rfl
           have c9 := hM.out.cell 2 5 rfl rfl)
        | (refine lR rfl (hM.out.at 1 rfl) rfl (rwC cn) ?_)
        | (refine sR rfl (hM.out.at 3 rfl) rfl ((rwC ci).len (rwC cn)) (rwC cn) ?_
           replace hM := hid (hM.out.put 3 rfl (wl cn) ((rwC ci).len (rwC cn)))
           generalize World.setCells _ _ _ _ = W at hM ⊢))
      clear c6 c7 c8 c9
      go_roundg (m - (i + 1))
      case measure => omega
      case rel => exact ⟨i + 1, by omega, by omega, by have := HC.out; have hw : wrap64 ((i : Int) + 1) = ((i + 1 : Nat) : Int) := (by unfold wrap64; omega); rw [hw], by rw [← HCN.out]; exact hM.out.pick [3, 4]⟩
    · obtain rfl : i = m := by omega
      have hi1 : (i : Int) < (n : Int) := by omega
      have hi0 : (0 : Int) ≤ (i : Int) := by omega
      obtain ⟨t, o, k, x, cc, y, hq, hr⟩ := HE.out W hM.out.below i (by omega)
      have RA : Hid _ := hr
      clear hr
      have NO := fun h => HB.out ((Ok1.at hq).2 h)
      rw [← hci] at NO
      by_cases hR : Rt o k x
      · have O2 : Hid _ := OB.out i (by omega)
        rw [← hci] at O2
        obtain ⟨cn, c2, y2, hcn⟩ : ∃ d c2 y2, odo (kind : Nat) ci o k x = (d, c2, y2) := ⟨_, _, _, rfl⟩
        rw [hcn] at NO
        have DO : Hid (∀ w : World, Calls Tryd.prog 15 #[.int .i64 (kind : Nat), .agg (wl ci).toArray, .agg #[.int .i64 o, .int .i64 k, .int .i64 x]] w (DidD w cn c2 y2)) := fun w => by
          have h := obDo_is (kind := (kind : Nat)) O2.out hR w
          rw [hcn] at h
          exact h
        clear hcn hci hq
        by_cases e1 : c2 = cc
        · subst c2
          have e2 : (y2 == y) = false := beq_eq_false_iff_ne.2 fun h => NO ⟨hR, rfl, h⟩
          clear NO hR
          obtain ⟨bd, hbd⟩ : ∃ q, q = W.heap.size := ⟨_, rfl⟩
          have HBD : Hid _ := hbd
          clear hbd
          go_wp2_with (first
            | (refine lO rfl RA.out rfl (rwD t o k x cc y) ?_)
            | (rw [← HBD.out]
               replace hM := hid (hM.out.born [.int .i64 0, .int .i64 0, .int .i64 0, .int .i64 0, .int .i64 0, .int .i64 0] 53 HBD.out)
               refine sR rfl (hM.out.at 0 rfl) rfl ((rwD 0 0 0 0 0 0).len (rwD t o k x cc y)) (rwD t o k x cc y) ?_
               replace hM := hid (hM.out.put 0 rfl (dl t o k x cc y) ((rwD 0 0 0 0 0 0).len (rwD t o k x cc y)))
               generalize World.setCells _ _ _ _ = W at hM ⊢
               have c2 := hM.out.cell 0 1 rfl rfl
               have c3 := hM.out.cell 0 2 rfl rfl
               have c4 := hM.out.cell 0 3 rfl rfl)
            | (refine lR rfl (hM.out.at 1 rfl) rfl (rwC ci) ?_))
          refine (DO.out _).mono ?_
          rintro e W ⟨rfl, hb⟩
          replace hM := hid (hM.out.later hb)
          clear hb
          clear c2 c3 c4
          obtain ⟨bx5, hbx5⟩ : ∃ q, q = W.heap.size := ⟨_, rfl⟩
          replace hM := hid ((hM.out.bornR wz_all.symm 31 (b := bx5) hbx5).born [.int .i64 0, .int .i64 0] 49 (b := (bx5 + 1)) (by simp [hbx5]))
          have Hbx5 : Hid _ := hbx5
          clear hbx5
          go_wp2_with (first
            | (rw [← Hbx5.out]; refine sR rfl (hM.out.at 1 rfl) rfl ((rwC wz).len (rwC cn)) (rwC cn) ?_
               replace hM := hid (hM.out.put 1 rfl (wl cn) ((rwC wz).len (rwC cn)))
               generalize World.setCells _ _ _ _ = W at hM ⊢)
            | (refine sR rfl (hM.out.at 0 rfl) rfl ((rwA 0 0).len (rwA cc y2)) (rwA cc y2) ?_
               replace hM := hid (hM.out.put 0 rfl [.int .i64 cc, .int .i64 y2] ((rwA 0 0).len (rwA cc y2)))
               generalize World.setCells _ _ _ _ = W at hM ⊢
               have c6 := hM.out.cell 0 0 rfl rfl
               have c7 := hM.out.cell 0 1 rfl rfl
               have c8 := hM.out.cell 2 4 rfl rfl
               have c9 := hM.out.cell 2 5 rfl rfl
               obtain ⟨ba, hba⟩ : ∃ q, q = W.heap.size := ⟨_, rfl⟩
               have HBA : Hid _ := hba
               clear hba)
            | (rw [← HBA.out]
               replace hM := hid (hM.out.born [.int .i64 13, .int .i64 (i : Nat)] 73 HBA.out)
               refine sR rfl (hM.out.at 5 rfl) rfl ((rwC wz).len (rwC wz)) (rwC wz) ?_
               replace hM := hid (hM.out.put 5 rfl (wl wz) ((rwC wz).len (rwC wz)))
               generalize World.setCells _ _ _ _ = W at hM ⊢))
          exact bodyPost_ret (res1s Tryd.results7 (hM.out.at 5 rfl) (rwC wz) (atV ba)) rfl ⟨ba, rfl, by rw [HSZ.out]; exact hM.out.key 0 rfl, (hM.out.at 0 rfl), hM.out.below⟩
        · have e2 : (c2 == cc) = false := beq_eq_false_iff_ne.2 e1
          clear NO hR e1
          obtain ⟨bd, hbd⟩ : ∃ q, q = W.heap.size := ⟨_, rfl⟩
          have HBD : Hid _ := hbd
          clear hbd
          go_wp2_with (first
            | (refine lO rfl RA.out rfl (rwD t o k x cc y) ?_)
            | (rw [← HBD.out]
               replace hM := hid (hM.out.born [.int .i64 0, .int .i64 0, .int .i64 0, .int .i64 0, .int .i64 0, .int .i64 0] 53 HBD.out)
               refine sR rfl (hM.out.at 0 rfl) rfl ((rwD 0 0 0 0 0 0).len (rwD t o k x cc y)) (rwD t o k x cc y) ?_
               replace hM := hid (hM.out.put 0 rfl (dl t o k x cc y) ((rwD 0 0 0 0 0 0).len (rwD t o k x cc y)))
               generalize World.setCells _ _ _ _ = W at hM ⊢
               have c2 := hM.out.cell 0 1 rfl rfl
               have c3 := hM.out.cell 0 2 rfl rfl
               have c4 := hM.out.cell 0 3 rfl rfl)
            | (refine lR rfl (hM.out.at 1 rfl) rfl (rwC ci) ?_))
          refine (DO.out _).mono ?_
          rintro e W ⟨rfl, hb⟩
          replace hM := hid (hM.out.later hb)
          clear hb
          clear c2 c3 c4
          obtain ⟨bx5, hbx5⟩ : ∃ q, q = W.heap.size := ⟨_, rfl⟩
          replace hM := hid ((hM.out.bornR wz_all.symm 31 (b := bx5) hbx5).born [.int .i64 0, .int .i64 0] 49 (b := (bx5 + 1)) (by simp [hbx5]))
          have Hbx5 : Hid _ := hbx5
          clear hbx5
          go_wp2_with (first
            | (rw [← Hbx5.out]; refine sR rfl (hM.out.at 1 rfl) rfl ((rwC wz).len (rwC cn)) (rwC cn) ?_
               replace hM := hid (hM.out.put 1 rfl (wl cn) ((rwC wz).len (rwC cn)))
               generalize World.setCells _ _ _ _ = W at hM ⊢)
            | (refine sR rfl (hM.out.at 0 rfl) rfl ((rwA 0 0).len (rwA c2 y2)) (rwA c2 y2) ?_
               replace hM := hid (hM.out.put 0 rfl [.int .i64 c2, .int .i64 y2] ((rwA 0 0).len (rwA c2 y2)))
               generalize World.setCells _ _ _ _ = W at hM ⊢
               have c6 := hM.out.cell 0 0 rfl rfl
               have c7 := hM.out.cell 0 1 rfl rfl
               have c8 := hM.out.cell 2 4 rfl rfl
               have c9 := hM.out.cell 2 5 rfl rfl
               obtain ⟨ba, hba⟩ : ∃ q, q = W.heap.size := ⟨_, rfl⟩
               have HBA : Hid _ := hba
               clear hba)
            | (rw [← HBA.out]
               replace hM := hid (hM.out.born [.int .i64 13, .int .i64 (i : Nat)] 73 HBA.out)
               refine sR rfl (hM.out.at 5 rfl) rfl ((rwC wz).len (rwC wz)) (rwC wz) ?_
               replace hM := hid (hM.out.put 5 rfl (wl wz) ((rwC wz).len (rwC wz)))
               generalize World.setCells _ _ _ _ = W at hM ⊢))
          exact bodyPost_ret (res1s Tryd.results7 (hM.out.at 5 rfl) (rwC wz) (atV ba)) rfl ⟨ba, rfl, by rw [HSZ.out]; exact hM.out.key 0 rfl, (hM.out.at 0 rfl), hM.out.below⟩
      · have DO : Hid (∀ w : World, _) := obDo_no (kind := (kind : Nat)) (o := o) (k := k) (x := x) (c := ci) (fun h => hR h.1)
        clear NO hR hci hq
        obtain ⟨bd, hbd⟩ : ∃ q, q = W.heap.size := ⟨_, rfl⟩
        have HBD : Hid _ := hbd
        clear hbd
        go_wp2_with (first
          | (refine lO rfl RA.out rfl (rwD t o k x cc y) ?_)
          | (rw [← HBD.out]
             replace hM := hid (hM.out.born [.int .i64 0, .int .i64 0, .int .i64 0, .int .i64 0, .int .i64 0, .int .i64 0] 53 HBD.out)
             refine sR rfl (hM.out.at 0 rfl) rfl ((rwD 0 0 0 0 0 0).len (rwD t o k x cc y)) (rwD t o k x cc y) ?_
             replace hM := hid (hM.out.put 0 rfl (dl t o k x cc y) ((rwD 0 0 0 0 0 0).len (rwD t o k x cc y)))
             generalize World.setCells _ _ _ _ = W at hM ⊢
             have c2 := hM.out.cell 0 1 rfl rfl
             have c3 := hM.out.cell 0 2 rfl rfl
             have c4 := hM.out.cell 0 3 rfl rfl)
          | (refine lR rfl (hM.out.at 1 rfl) rfl (rwC ci) ?_))
        refine (DO.out _).mono ?_
        rintro e W ⟨rfl, hb⟩
        replace hM := hid (hM.out.later hb)
        clear hb
        clear c2 c3 c4
        obtain ⟨bx5, hbx5⟩ : ∃ q, q = W.heap.size := ⟨_, rfl⟩
        replace hM := hid ((hM.out.bornR wz_all.symm 31 (b := bx5) hbx5).born [.int .i64 0, .int .i64 0] 49 (b := (bx5 + 1)) (by simp [hbx5]))
        have Hbx5 : Hid _ := hbx5
        clear hbx5
        go_wp2_with (first
          | (rw [← Hbx5.out]; refine sR rfl (hM.out.at 1 rfl) rfl ((rwC wz).len (rwC wz)) (rwC wz) ?_
             replace hM := hid (hM.out.put 1 rfl (wl wz) ((rwC wz).len (rwC wz)))
             generalize World.setCells _ _ _ _ = W at hM ⊢)
          | (refine sR rfl (hM.out.at 0 rfl) rfl ((rwA 0 0).len (rwA 0 0)) (rwA 0 0) ?_
             replace hM := hid (hM.out.put 0 rfl [.int .i64 0, .int .i64 0] ((rwA 0 0).len (rwA 0 0)))
             generalize World.setCells _ _ _ _ = W at hM ⊢
             have c6 := hM.out.cell 0 0 rfl rfl
             have c7 := hM.out.cell 0 1 rfl rfl
             have c8 := hM.out.cell 2 4 rfl rfl
             have c9 := hM.out.cell 2 5 rfl rfl
             obtain ⟨ba, hba⟩ : ∃ q, q = W.heap.size := ⟨_, rfl⟩
             have HBA : Hid _ := hba
             clear hba)
          | (rw [← HBA.out]
             replace hM := hid (hM.out.born [.int .i64 13, .int .i64 (i : Nat)] 73 HBA.out)
             refine sR rfl (hM.out.at 5 rfl) rfl ((rwC wz).len (rwC wz)) (rwC wz) ?_
             replace hM := hid (hM.out.put 5 rfl (wl wz) ((rwC wz).len (rwC wz)))
             generalize World.setCells _ _ _ _ = W at hM ⊢))
        exact bodyPost_ret (res1s Tryd.results7 (hM.out.at 5 rfl) (rwC wz) (atV ba)) rfl ⟨ba, rfl, by rw [HSZ.out]; exact hM.out.key 0 rfl, (hM.out.at 0 rfl), hM.out.below⟩
theorem legal_yes {kind : Nat} (h1 : 1 ≤ kind) (h6 : kind ≤ 6) {v : Value} {n : Nat} {q : Nat → DD} {w : World} (D : Dq w v n q) (hO : ∀ j, j < n → Ok1 (kind : Nat) q j) :
    Calls Tryd.prog 7 #[.int .i64 (kind : Nat), v] w (LegalY w (oi (kind : Nat) q n)) := by
  rcases id D with ⟨h0, a, c, hv, ha⟩ | ⟨b, off, c, hv, h0, hc, hm, _⟩
  · subst hv h0
    cases a with
    | none => obtain rfl := ha rfl; exact legal_nil h1 h6 w
    | some a => exact legal_none h1 h6 a c w
  · subst hv; exact legal_some h1 h6 h0 hc hm hO w D
theorem legal_not {kind : Nat} (h1 : 1 ≤ kind) (h6 : kind ≤ 6) {v : Value} {n m : Nat} {q : Nat → DD} {w : World} (D : Dq w v n q) (hm : m < n) (hO : ∀ j, j < m → Ok1 (kind : Nat) q j) (hB : ¬ Ok1 (kind : Nat) q m) :
    Calls Tryd.prog 7 #[.int .i64 (kind : Nat), v] w (LegalN w m) := by
  rcases id D with ⟨h0, a, c, hv, ha⟩ | ⟨b, off, c, hv, h0, hc, hn, _⟩
  · omega
  · subst hv; exact legal_bad h1 h6 h0 hc hn hm hO hB w D
end Go.Proofs.YtaipanjigindbaaDoor.Tab
namespace Go.Proofs.YtaipanjigindbaaDoor
set_option maxRecDepth 20000
open Go.RowKit

/-- What the reference has made: the slice (what came in, or a new one) and the answer. -/
def MadeR (w : World) (v : Value) (xs ys : List Int) (c y : Int) (e : Ending) (w' : World) : Prop :=
  ∃ v', e = .returned (.tuple #[v', .agg #[.int .i64 c, .int .i64 y]]) ∧ ((v' = v ∧ ys = xs) ∨ IsL w.heap.size w' v' ys) ∧ Below w.heap.size w w'
/-- The same, the slice a new one. -/
def MadeN (w : World) (ys : List Int) (c y : Int) (e : Ending) (w' : World) : Prop :=
  ∃ v', e = .returned (.tuple #[v', .agg #[.int .i64 c, .int .i64 y]]) ∧ IsL w.heap.size w' v' ys ∧ Below w.heap.size w w'
end Go.Proofs.YtaipanjigindbaaDoor
namespace Go.Proofs.YtaipanjigindbaaDoor.Tab
set_option maxRecDepth 20000
open Go.RowKit
set_option linter.unusedVariables false

def Lf (n m : Nat) (w : World) (v : Value) (xs : List Int) : Prop :=
  (xs = [] ∧ ∃ (a : Option Addr) (c : Nat), v = .slice a 0 c) ∨
  ∃ (b off c : Nat), v = .slice (some ⟨b, off, none⟩) xs.length c ∧ (b < n ∨ m ≤ b) ∧ b < w.heap.size ∧ 0 < xs.length ∧ xs.length ≤ c ∧ (∀ j, j < xs.length → w.cell? ⟨b, off + j, none⟩ = some (.int .i64 (xs.getD j 0)))
theorem Lf.old {B m : Nat} {w : World} {v : Value} {xs : List Int} (h : IsL B w v xs) : Lf w.heap.size m w v xs := by
  rcases h with h | ⟨b, off, c, h1, h2, h4, h5, h6, h7⟩
  · exact Or.inl h
  · have := World.block_lt_of_cell? _ _ (h6 0 h4)
    exact Or.inr ⟨b, off, c, h1, Or.inl this, this, h4, h5, h6⟩
theorem Lf.made {n m k : Nat} {w : World} {v : Value} {xs : List Int} (h : IsL k w v xs) (hk : m ≤ k) : Lf n m w v xs := by
  rcases h with h | ⟨b, off, c, h1, h2, h4, h5, h6, h7⟩
  · exact Or.inl h
  · exact Or.inr ⟨b, off, c, h1, Or.inr (by omega), World.block_lt_of_cell? _ _ (h6 0 h4), h4, h5, h6⟩
theorem Lf.isL {n m : Nat} {w : World} {v : Value} {xs : List Int} (h : Lf n m w v xs) : IsL 0 w v xs := by
  rcases h with h | ⟨b, off, c, h1, h2, h3, h4, h5, h6⟩
  · exact Or.inl h
  · exact Or.inr ⟨b, off, c, h1, Nat.zero_le _, h4, h5, h6, fun h => absurd h (by decide)⟩
theorem Lf.form {n m : Nat} {w : World} {v : Value} {xs : List Int} (h : Lf n m w v xs) : ∃ a c, v = .slice a xs.length c := h.isL.form
theorem Lf.keep {n m : Nat} {w w' : World} {v : Value} {xs : List Int} (h : Lf n m w v xs) (hs : w.heap.size ≤ w'.heap.size) (hb : ∀ b, (b < n ∨ m ≤ b) → b < w.heap.size → w'.heap[b]? = w.heap[b]?) : Lf n m w' v xs := by
  rcases h with h | ⟨b, off, c, h1, h2, h3, h4, h5, h6⟩
  · exact Or.inl h
  · exact Or.inr ⟨b, off, c, h1, h2, Nat.lt_of_lt_of_le h3 hs, h4, h5, fun j hj => by rw [World.cell?_of_block (w := w) (hb b h2 h3)]; exact h6 j hj⟩
theorem Lf.later {n m : Nat} {w w' : World} {v : Value} {xs : List Int} (h : Lf n m w v xs) (hb : Below w.heap.size w w') : Lf n m w' v xs := h.keep hb.size fun b _ hl => hb.block b hl
theorem Lf.new {n m : Nat} {w : World} {v : Value} {xs : List Int} (h : Lf n m w v xs) (o : Obj) : Lf n m (w.alloc o) v xs := h.later (new_below w o)
theorem Lf.drew {n m : Nat} {w : World} {v : Value} {xs : List Int} (h : Lf n m w v xs) : Lf n m w.drew v xs := h.keep (Nat.le_refl _) fun _ _ _ => rfl
theorem Lf.asideL {n m k : Nat} {w : World} {v : Value} {xs : List Int} (h : Lf n m w v xs) (hk : n ≤ k ∧ k < m) (p : Nat) (vs : List Value) : Lf n m (w.setCells k p vs) v xs :=
  h.keep (by rw [size_setCells]; exact Nat.le_refl _) fun b h1 _ => heap_setCells (by omega) _ _ _
theorem Lf.aside {n m : Nat} {w : World} {v : Value} {xs : List Int} (h : Lf n m w v xs) {p : Addr} (hp : n ≤ p.block ∧ p.block < m) (u : Value) : Lf n m (w.setCell p u) v xs :=
  h.keep (by simp [World.setCell]) fun b h1 _ => Below.heap_setCell _ _ _ _ (by omega)
theorem Lf.of_made {n m : Nat} {w w' : World} {v v' : Value} {xs ys : List Int} (h : Lf n m w' v xs) (hm : m ≤ w.heap.size) (hv : (v' = v ∧ ys = xs) ∨ IsL w.heap.size w' v' ys) : Lf n m w' v' ys := by
  rcases hv with ⟨rfl, rfl⟩ | hv
  · exact h
  · exact Lf.made hv hm
theorem tw_all {u : Tb} (hk : ∀ i, i < 8 → 0 ≤ u.k i) (hv : ∀ i, i < 8 → 0 ≤ u.v i) : u.all = (tbl (tw u)).all := by
  unfold Tb.all
  refine List.map_congr_left fun j hj => ?_
  have hj : j < 16 := by simpa using hj
  have h1 := hk (j / 2) (by omega)
  have h2 := hv (j / 2) (by omega)
  unfold Tb.at tbl tw
  by_cases e : j % 2 = 0
  · simp only [e, if_true]
    rw [if_pos (by omega), if_pos (by omega), show 2 * (j / 2) / 2 = j / 2 by omega]
    congr 1; omega
  · simp only [e, if_false]
    rw [if_pos (by omega), if_neg (by omega), show (2 * (j / 2) + 1) / 2 = j / 2 by omega]
    congr 1; omega
theorem tg_same {k : Int} {v : Value} {t u : Tb} {n : Int} (h : t.all = u.all) : tg k v t n = tg k v u n := by unfold tg; rw [h]
/-- The slots of a thing, written. -/
theorem tg_tab (k : Int) (v : Value) (t u : Tb) (n : Int) {j : Nat} : (tg k v u n)[j]? = if 2 ≤ j ∧ j < 18 then u.all[j - 2]? else (tg k v t n)[j]? := by
  rcases j with _ | _ | j
  · rfl
  · rfl
  · simp only [tg, List.getElem?_cons_succ]
    by_cases h : j < 16
    · rw [if_pos (by omega), List.getElem?_append, if_pos (by rw [Tb.all_length]; exact h)]; rfl
    · rw [if_neg (by omega), List.getElem?_append, List.getElem?_append, if_neg (by rw [Tb.all_length]; exact h), if_neg (by rw [Tb.all_length]; exact h), Tb.all_length, Tb.all_length]
theorem Bo.setTab {w : World} {b : Nat} {k : Int} {v : Value} {t : Tb} {n : Int} (h : Bo w b (tg k v t n)) (u : Tb) : Bo (w.setCells b 2 u.all) b (tg k v u n) where
  cell j y hy := by
    rw [tg_tab k v t u n] at hy
    by_cases hj : 2 ≤ j ∧ j < 18
    · rw [if_pos hj] at hy
      have hl : j - 2 < u.all.length := by rw [Tb.all_length]; omega
      have := World.cell?_setCells_in b u.all 2 w (fun m hm => by
        rw [Tb.all_length] at hm
        rw [h.cell (2 + m) _ (tg_at k v t n hm)]; rfl) (j - 2) hl
      rw [show 2 + (j - 2) = j by omega] at this
      rw [this]
      rw [List.getElem?_eq_getElem hl] at hy
      exact hy
    · rw [if_neg hj] at hy
      rw [World.cell?_setCells_out]
      · exact h.cell j y hy
      · intro _ _
        show j < 2 ∨ 2 + u.all.length ≤ j
        rw [Tb.all_length]
        omega
  froz j := by rw [World.frozen?_setCells]; exact h.froz j
  lt := by rw [size_setCells]; exact h.lt
theorem Bo.thereTb {w : World} {b : Nat} {k : Int} {v : Value} {t : Tb} {n : Int} (h : Bo w b (tg k v t n)) (u : Tb) : w.there b 2 u.all.length := fun j hj => by
  rw [Tb.all_length] at hj
  exact ⟨by rw [h.cell (2 + j) _ (tg_at k v t n hj)]; rfl, h.froz _⟩
theorem Bo.thereTab {w : World} {b : Nat} {k : Int} {v : Value} {t : Tb} {n : Int} (h : Bo w b (tg k v t n)) (u : Tb) : w.there b 2 u.all.toArray.size := fun j hj => by
  rw [List.size_toArray, Tb.all_length] at hj
  exact ⟨by rw [h.cell (2 + j) _ (tg_at k v t n hj)]; rfl, h.froz _⟩
end Go.Proofs.YtaipanjigindbaaDoor.Tab
namespace Go.Proofs.YtaipanjigindbaaDoor.Tab
set_option maxRecDepth 20000
open Go.RowKit
theorem rowL_isL {B : Nat} {w : World} {v : Value} {k : Int} (h : IsL B w v (rowL k 8)) : ∃ b off c, v = .slice (some ⟨b, off, none⟩) 8 c ∧ ∀ i, i < 8 → w.cell? ⟨b, off + i, none⟩ = some (.int .i64 (rowAt k i : Nat)) := by
  rcases h with ⟨h, _⟩ | ⟨b, off, c, hv, _, _, _, hcell, _⟩
  · have := rowL_len k 8; rw [h] at this; simp at this
  · rw [rowL_len] at hv hcell
    exact ⟨b, off, c, hv, fun i hi => by rw [hcell i hi, rowL_at k hi]⟩
end Go.Proofs.YtaipanjigindbaaDoor.Tab
namespace Go.Proofs.YtaipanjigindbaaDoor.Tab
set_option maxRecDepth 20000
open Go.RowKit

theorem Gd.drewN {n : Nat} {w a : World} (h : Gd n w a) (q : Nat) : Gd n w (a.drewN q) := ⟨h.1, ⟨h.2.os, h.2.tape, h.2.output, h.2.size, h.2.block⟩⟩
theorem Bo.drewN_ {w : World} {b : Nat} {cs : List Value} (h : Bo w b cs) (q : Nat) : Bo (w.drewN q) b cs := ⟨h.cell, h.froz, h.lt⟩

/-- A slot as the document has it. -/
structure Ok (t : Tb) (i : Nat) : Prop where
  key : 0 ≤ t.k i ∧ t.k i ≤ 1000
  val : 0 ≤ t.v i ∧ t.v i ≤ 4294967295
  none : t.k i = 0 → t.v i = 0
  row : t.k i ≠ 0 → ∀ j, j < ds (home (t.k i)) i → ¬ Hit t (t.k i) (rowAt (t.k i) j)
theorem RT.ok {t : Tb} (h : RT t) {i : Nat} (hi : i < 8) : Ok t i where
  key := h.keys i hi
  val := h.vals i hi
  none := h.none i hi
  row hk j hj := h.row i hi hk _ (rowAt_lt _ _) (by rw [ds_row _ _ (by have := ds_lt (home (t.k i)) i; omega)]; exact hj)
theorem RT.of_ok {t : Tb} (hl : len t ≤ 6) (h : ∀ i, i < 8 → Ok t i) : RT t where
  keys p hp := (h p hp).key
  vals p hp := (h p hp).val
  none p hp := (h p hp).none
  row p hp hk q hq hd := by
    have := (h p hp).row hk (ds (home (t.k p)) q) hd
    rwa [row_ds _ _ hq] at this
  room := hl

end Go.Proofs.YtaipanjigindbaaDoor.Tab
namespace Go.Proofs.YtaipanjigindbaaDoor.Tab
set_option maxRecDepth 20000
open Go.RowKit

set_option maxHeartbeats 1000000 in
theorem RPlace_is (t : Tb) (k : Int) (h0 : 0 ≤ k) (h1 : k ≤ 1000) (hf : ∃ p, p < 8 ∧ t.k p = 0) (w : World) :
    Calls Tryd.prog 61 #[.agg t.all.toArray, .int .i64 k] w fun e w' => e = .returned (.int .i64 (place t k : Nat)) ∧ Below w.heap.size w w' := by
  have T0 : Hid (TAt (w.alloc (.cells t.all.toArray 62)) w.heap.size t) := TAt.born w t _
  have B0 : Hid (Gd w.heap.size w (w.alloc (.cells t.all.toArray 62))) := (Gd.refl w).new _
  have HH : Hid (Hit t k (place t k)) := by
    obtain ⟨p, hp, e⟩ := hf
    exact place_hit t k hp (Or.inr e)
  have P : Hid (plF t k 7 0 = place t k) := rfl
  clear hf
  have RW := row_is k h0 h1
  go_enter Tryd.func61, Tryd.ntmps61
  go_wp2_with fail
  refine (RW _).mono ?_
  rintro e W ⟨v, rfl, hi, hb⟩
  obtain ⟨b, off, c, rfl, hcell⟩ := rowL_isL hi
  have T1 : Hid (TAt W w.heap.size t) := T0.out.later hb
  have G1 : Hid (Gd w.heap.size w W) := B0.out.later hb
  have C : Hid (∀ i, i < 8 → W.cell? ⟨b, off + i, none⟩ = some (.int .i64 (rowAt k i : Nat))) := hcell
  clear hi hb hcell T0 B0 RW
  generalize w.heap.size = n at T1 G1 ⊢
  go_wp2_with fail
  go_loopg [10] 8 (fun gg s10 wt => W = wt ∧ ∃ i : Nat, i < 8 ∧ 8 - i ≤ gg ∧ s10 = .int .i64 i ∧ Hid (plF t k (7 - i) i = place t k))
  case atStart => exact ⟨rfl, 0, by omega, by omega, rfl, P⟩
  case round =>
    obtain ⟨rfl, i, hlt, hgg, rfl, D⟩ := hrel
    have c0 := C.out i hlt
    have hp := rowAt_lt k i
    obtain ⟨p, hpe⟩ : ∃ p, rowAt k i = p := ⟨_, rfl⟩
    have EP : Hid (rowAt k i = p) := hpe
    rw [hpe] at c0 hp
    clear hpe
    have hi1 : (i : Int) < 8 := by omega
    have hi0 : (0 : Int) ≤ (i : Int) := by omega
    have hp1 : (p : Int) < 8 := by omega
    have hp0 : (0 : Int) ≤ (p : Int) := by omega
    have c1 := T1.out.key hp
    obtain ⟨x, hx⟩ : ∃ x, t.k p = x := ⟨_, rfl⟩
    have X : Hid (t.k p = x) := hx
    rw [hx] at c1
    clear hx
    by_cases hh : x = k ∨ x = 0
    · have PL : Hid (place t k = p) := by
        show place t k = p
        rw [← D.out, ← EP.out]
        cases hn : 7 - i with
        | zero => rfl
        | succ m => rw [plF, if_pos (show Hit t k (rowAt k i) by unfold Hit; rw [EP.out, X.out]; exact hh)]
      by_cases hk : x = k
      · have m1 : (x == k) = true := by simp [hk]
        clear hh hk
        go_wp2
        go_ret
        exact ⟨by rw [PL.out]; rfl, G1.out.2⟩
      · have h0' : x = 0 := hh.resolve_left hk
        have m1 : (x == k) = false := by simp [hk]
        have m0 : (x == 0) = true := by simp [h0']
        clear hh hk h0'
        go_wp2
        go_ret
        exact ⟨by rw [PL.out]; rfl, G1.out.2⟩
    · have NH : ¬ Hit t k (rowAt k i) := by unfold Hit; rw [EP.out, X.out]; exact hh
      have m1 : (x == k) = false := by simp; exact fun e => hh (Or.inl e)
      have m0 : (x == 0) = false := by simp; exact fun e => hh (Or.inr e)
      have h7 : i ≠ 7 := by
        intro e
        subst e
        have : place t k = rowAt k 7 := D.out.symm
        have := HH.out
        rw [‹place t k = rowAt k 7›] at this
        exact NH this
      have D' : Hid (plF t k (7 - (i + 1)) (i + 1) = place t k) := by
        have := D.out
        rw [show 7 - i = (7 - (i + 1)) + 1 by omega, plF, if_neg NH] at this
        exact this
      clear hh NH
      go_wp2
      go_roundg (8 - (i + 1))
      case measure => omega
      case rel => exact ⟨rfl, i + 1, by omega, by omega, by go_num, D'⟩
end Go.Proofs.YtaipanjigindbaaDoor.Tab
