/- Package object: the words of a list. -/
import Derived.Test.YtbmgjpdfmgcigabDoorObA
import Derived.Test.YtbmgjpdfmgcigabDoorKf
namespace Go.Proofs.YtbmgjpdfmgcigabDoor.Tab
set_option maxRecDepth 20000
open Go.RowKit

def lwp (l : List Int) (i : Nat) : Nat → Nat := fun j => if j = 0 then l.length else if j ≤ i then (l.getD (j - 1) 0).toNat else 0
theorem lwp_next (l : List Int) (i : Nat) : wl (upw (lwp l i) (1 + i) (l.getD i 0).toNat) = wl (lwp l (i + 1)) := by
  refine wl_congr fun j _ => ?_
  unfold upw lwp
  by_cases e : j = 1 + i
  · subst e
    rw [if_pos rfl, if_neg (by omega), if_pos (by omega), show 1 + i - 1 = i by omega]
  · rw [if_neg e]
    by_cases e0 : j = 0
    · rw [if_pos e0, if_pos e0]
    · rw [if_neg e0, if_neg e0]
      by_cases e1 : j ≤ i
      · rw [if_pos e1, if_pos (by omega)]
      · rw [if_neg e1, if_neg (by omega)]
theorem lwp_all (l : List Int) : wl (lwp l l.length) = wl (lw l) := by
  refine wl_congr fun j _ => ?_
  unfold lwp lw
  by_cases e0 : j = 0
  · rw [if_pos e0, if_pos e0]
  · rw [if_neg e0, if_neg e0]
    by_cases e1 : j ≤ l.length
    · rw [if_pos e1]
    · rw [if_neg e1, List.getD_eq_getElem?_getD, List.getElem?_eq_none (by omega)]; rfl
theorem lwp_zero (l : List Int) : wl (lwp l 0) = [.int .u64 (l.length : Nat), .int .u64 0, .int .u64 0, .int .u64 0, .int .u64 0, .int .u64 0, .int .u64 0, .int .u64 0, .int .u64 0, .int .u64 0, .int .u64 0, .int .u64 0, .int .u64 0, .int .u64 0, .int .u64 0, .int .u64 0, .int .u64 0] := by
  have : wl (lwp l 0) = wl (upw wz 0 l.length) := wl_congr fun j _ => by
    unfold lwp upw wz
    by_cases e0 : j = 0
    · rw [if_pos e0, if_pos e0]
    · rw [if_neg e0, if_neg e0, if_neg (by omega)]
  rw [this]; rfl
theorem w17 (a : Nat) : (#[.int .u64 (a : Nat), .int .u64 0, .int .u64 0, .int .u64 0, .int .u64 0, .int .u64 0, .int .u64 0, .int .u64 0, .int .u64 0, .int .u64 0, .int .u64 0, .int .u64 0, .int .u64 0, .int .u64 0, .int .u64 0, .int .u64 0, .int .u64 0] : Array Value).all (·.oneCell') = true := by simp [Value.oneCell']
set_option maxHeartbeats 2000000 in
theorem listWords_is {B : Nat} {v : Value} {l : List Int} {w : World} (h : IsL B w v l) (h6 : l.length ≤ 6) (hv : ∀ x ∈ l, 0 ≤ x ∧ x ≤ 4294967295) :
    Calls Tryd.prog 51 #[v] w fun e w' => e = .returned (.agg (wl (lw l)).toArray) ∧ Below w.heap.size w w' := by
  obtain ⟨na, ea, hd⟩ := cells_array
  have HD : Hid _ := hd
  clear hd
  have HS : Hid _ := cells_size
  have HZ : Hid _ := cells_size2
  have HZ0 : Hid ((Tryd.prog.info? 24).map (·.size) = some 17) := (by kernel_rfl : (Tryd.prog.info? 24).map (·.size) = some 17)
  obtain ⟨a, k, rfl⟩ := h.form
  have H : Hid (IsL B w (.slice a l.length k) l) := h
  have HL : Hid (∀ i, i < l.length → ∃ b off, a = some ⟨b, off, none⟩ ∧ (∀ W, Below w.heap.size w W → W.cell? ⟨b, off + i, none⟩ = some (.int .i64 ((l.getD i 0).toNat : Nat)))) := fun i hi => by
    rcases h with ⟨rfl, _⟩ | ⟨b, off, c, h1, hB, h0, hc, hcell, _⟩
    · simp at hi
    · injection h1 with h1 _ _
      refine ⟨b, off, h1, fun W hW => ?_⟩
      have hx := hv (l.getD i 0) (by rw [List.getD_eq_getElem?_getD, List.getElem?_eq_getElem hi]; exact List.getElem_mem hi)
      rw [hW.cell (p := ⟨b, off + i, none⟩) (World.block_lt_of_cell? _ _ (hcell i hi)), hcell i hi]
      congr 2; omega
  have HX : Hid (∀ i, i < l.length → (l.getD i 0).toNat ≤ 4294967295) := fun i hi => by
    have hx := hv (l.getD i 0) (by rw [List.getD_eq_getElem?_getD, List.getElem?_eq_getElem hi]; exact List.getElem_mem hi)
    omega
  clear hv
  have G0 : Hid (Gd w.heap.size w (w.alloc (.cells #[.int .u64 0, .int .u64 0, .int .u64 0, .int .u64 0, .int .u64 0, .int .u64 0, .int .u64 0, .int .u64 0, .int .u64 0, .int .u64 0, .int .u64 0, .int .u64 0, .int .u64 0, .int .u64 0, .int .u64 0, .int .u64 0, .int .u64 0] 24))) := (Gd.refl w).new _
  have T0 : Hid (Bo (w.alloc (.cells #[.int .u64 0, .int .u64 0, .int .u64 0, .int .u64 0, .int .u64 0, .int .u64 0, .int .u64 0, .int .u64 0, .int .u64 0, .int .u64 0, .int .u64 0, .int .u64 0, .int .u64 0, .int .u64 0, .int .u64 0, .int .u64 0, .int .u64 0] 24)) w.heap.size (wl wz)) := Bo.born w (wl wz) _ rfl
  clear h
  have ew1 : IntKind.u64.wrap (l.length : Int) = l.length := by rw [IntKind.wrap_u64]; omega
  generalize hN : l.length = N at *
  have HN : Hid (l.length = N) := hN
  clear hN
  go_enter Tryd.func51, Tryd.ntmps51
  go_wp2_with (first
    | (have T1 : Hid (Bo ((w.alloc (.cells #[.int .u64 0, .int .u64 0, .int .u64 0, .int .u64 0, .int .u64 0, .int .u64 0, .int .u64 0, .int .u64 0, .int .u64 0, .int .u64 0, .int .u64 0, .int .u64 0, .int .u64 0, .int .u64 0, .int .u64 0, .int .u64 0, .int .u64 0] 24)).alloc (.cells #[.int .u64 0, .int .u64 0, .int .u64 0, .int .u64 0, .int .u64 0, .int .u64 0, .int .u64 0, .int .u64 0, .int .u64 0, .int .u64 0, .int .u64 0, .int .u64 0, .int .u64 0, .int .u64 0, .int .u64 0, .int .u64 0, .int .u64 0] 24)) (w.heap.size + 1) (wl wz)) := Bo.born _ (wl wz) _ (by simp)
       have T0' : Hid (Bo ((w.alloc (.cells #[.int .u64 0, .int .u64 0, .int .u64 0, .int .u64 0, .int .u64 0, .int .u64 0, .int .u64 0, .int .u64 0, .int .u64 0, .int .u64 0, .int .u64 0, .int .u64 0, .int .u64 0, .int .u64 0, .int .u64 0, .int .u64 0, .int .u64 0] 24)).alloc (.cells #[.int .u64 0, .int .u64 0, .int .u64 0, .int .u64 0, .int .u64 0, .int .u64 0, .int .u64 0, .int .u64 0, .int .u64 0, .int .u64 0, .int .u64 0, .int .u64 0, .int .u64 0, .int .u64 0, .int .u64 0, .int .u64 0, .int .u64 0] 24)) w.heap.size (wl wz)) := T0.out.new _
       have G1 : Hid (Gd w.heap.size w ((w.alloc (.cells #[.int .u64 0, .int .u64 0, .int .u64 0, .int .u64 0, .int .u64 0, .int .u64 0, .int .u64 0, .int .u64 0, .int .u64 0, .int .u64 0, .int .u64 0, .int .u64 0, .int .u64 0, .int .u64 0, .int .u64 0, .int .u64 0, .int .u64 0] 24)).alloc (.cells #[.int .u64 0, .int .u64 0, .int .u64 0, .int .u64 0, .int .u64 0, .int .u64 0, .int .u64 0, .int .u64 0, .int .u64 0, .int .u64 0, .int .u64 0, .int .u64 0, .int .u64 0, .int .u64 0, .int .u64 0, .int .u64 0, .int .u64 0] 24))) := G0.out.new _
       clear T0 G0
       generalize ((w.alloc (.cells #[.int .u64 0, .int .u64 0, .int .u64 0, .int .u64 0, .int .u64 0, .int .u64 0, .int .u64 0, .int .u64 0, .int .u64 0, .int .u64 0, .int .u64 0, .int .u64 0, .int .u64 0, .int .u64 0, .int .u64 0, .int .u64 0, .int .u64 0] 24)).alloc (.cells #[.int .u64 0, .int .u64 0, .int .u64 0, .int .u64 0, .int .u64 0, .int .u64 0, .int .u64 0, .int .u64 0, .int .u64 0, .int .u64 0, .int .u64 0, .int .u64 0, .int .u64 0, .int .u64 0, .int .u64 0, .int .u64 0, .int .u64 0] 24)) = W at T1 T0' G1 ⊢
       refine wpList_store_mid rfl 24 _ _ rfl (w.heap.size + 1) _ #[.int .u64 (N : Nat), .int .u64 0, .int .u64 0, .int .u64 0, .int .u64 0, .int .u64 0, .int .u64 0, .int .u64 0, .int .u64 0, .int .u64 0, .int .u64 0, .int .u64 0, .int .u64 0, .int .u64 0, .int .u64 0, .int .u64 0, .int .u64 0] rfl rfl (T1.out.thereL (by rw [wl_length]; rfl)) HZ0.out (w17 N) ?_
       have T2 : Hid (Bo (W.setCells (w.heap.size + 1) 0 [.int .u64 (N : Nat), .int .u64 0, .int .u64 0, .int .u64 0, .int .u64 0, .int .u64 0, .int .u64 0, .int .u64 0, .int .u64 0, .int .u64 0, .int .u64 0, .int .u64 0, .int .u64 0, .int .u64 0, .int .u64 0, .int .u64 0, .int .u64 0]) (w.heap.size + 1) (wl (lwp l 0))) := by
         have e := lwp_zero l; rw [HN.out] at e; rw [e]; exact T1.out.setL (by rw [wl_length]; rfl)
       have T3 : Hid (Bo (W.setCells (w.heap.size + 1) 0 [.int .u64 (N : Nat), .int .u64 0, .int .u64 0, .int .u64 0, .int .u64 0, .int .u64 0, .int .u64 0, .int .u64 0, .int .u64 0, .int .u64 0, .int .u64 0, .int .u64 0, .int .u64 0, .int .u64 0, .int .u64 0, .int .u64 0, .int .u64 0]) w.heap.size (wl wz)) := T0'.out.asideL (by omega) _ _
       have G2 : Hid (Gd w.heap.size w (W.setCells (w.heap.size + 1) 0 [.int .u64 (N : Nat), .int .u64 0, .int .u64 0, .int .u64 0, .int .u64 0, .int .u64 0, .int .u64 0, .int .u64 0, .int .u64 0, .int .u64 0, .int .u64 0, .int .u64 0, .int .u64 0, .int .u64 0, .int .u64 0, .int .u64 0, .int .u64 0])) := G1.out.asideL (by omega) _ _
       clear T1 T0' G1
       generalize W.setCells (w.heap.size + 1) 0 [.int .u64 (N : Nat), .int .u64 0, .int .u64 0, .int .u64 0, .int .u64 0, .int .u64 0, .int .u64 0, .int .u64 0, .int .u64 0, .int .u64 0, .int .u64 0, .int .u64 0, .int .u64 0, .int .u64 0, .int .u64 0, .int .u64 0, .int .u64 0] = U at T2 T3 G2 ⊢))
  generalize hsz : w.heap.size = n at T2 T3 G2 ⊢
  have HSZ : Hid (w.heap.size = n) := hsz
  clear hsz
  go_loopg [12] N (fun gg s12 wt => ∃ i : Nat, i ≤ N ∧ N - i ≤ gg ∧ s12 = .int .i64 i ∧ Hid (Bo wt (n + 1) (wl (lwp l i))) ∧ Hid (Bo wt n (wl wz)) ∧ Hid (Gd n w wt))
  case atStart => exact ⟨0, by omega, by omega, rfl, T2, T3, G2⟩
  case round =>
    clear T2 T3 G2
    obtain ⟨i, hi, hgg, rfl, T, S, G⟩ := hrel
    by_cases hlt : i < N
    · obtain ⟨b, off, rfl, hc⟩ := HL.out i hlt
      have c0 := hc wr G.out.2
      have NX : Hid _ := lwp_next l i
      have c1 := T.out.word (show 1 + i < 17 by omega)
      have f1 := T.out.froz (1 + i)
      have j1 : 1 + (i : Int) < 17 := by omega
      have j0 : (0 : Int) ≤ 1 + (i : Int) := by omega
      have i1 : (i : Int) < (N : Int) := by omega
      have i0 : (0 : Int) ≤ (i : Int) := by omega
      have T1 : Hid (Bo (wr.setCell ⟨n + 1, 1 + i, none⟩ (.int .u64 ((l.getD i 0).toNat : Nat))) (n + 1) (wl (lwp l (i + 1)))) := by
        rw [← NX.out]; exact T.out.setw _ (by omega)
      have S1 : Hid (Bo (wr.setCell ⟨n + 1, 1 + i, none⟩ (.int .u64 ((l.getD i 0).toNat : Nat))) n (wl wz)) := S.out.aside (by simp) _
      have G1 : Hid (Gd n w (wr.setCell ⟨n + 1, 1 + i, none⟩ (.int .u64 ((l.getD i 0).toNat : Nat)))) := G.out.aside (by simp) _
      clear hc NX T S G
      generalize lwp l i (1 + i) = z at c1
      have hx : (l.getD i 0).toNat ≤ 4294967295 := HX.out i (by omega)
      generalize (l.getD i 0).toNat = x at c0 T1 S1 G1 hx
      have ew2 : IntKind.u64.wrap (x : Int) = x := by rw [IntKind.wrap_u64]; omega
      go_wp2
      go_roundg (N - (i + 1))
      case measure => omega
      case rel => exact ⟨i + 1, by omega, by omega, by go_num, T1, S1, G1⟩
    · have ei : i = N := by omega
      have LA := lwp_all l
      rw [HN.out, ← ei] at LA
      rw [LA] at T
      clear LA
      go_wp2_with (first
        | (refine wpList_load_mid rfl 24 _ rfl (n + 1) _ rfl (wl (lw l)) _ T.out.range HD.out rfl (HS.out (lw l)) ?_)
        | (refine wpList_store_mid rfl 24 _ _ rfl n _ (wl (lw l)).toArray rfl rfl (S.out.thereW (lw l)) (HZ.out (lw l)) (wl_all (lw l)) ?_
           have S1 : Hid (Bo (wr.setCells n 0 (wl (lw l))) n (wl (lw l))) := S.out.setW (lw l)
           have G1 : Hid (Gd n w (wr.setCells n 0 (wl (lw l)))) := G.out.asideL (by omega) _ _
           clear T S G
           generalize wr.setCells n 0 (wl (lw l)) = V at S1 G1 ⊢))
      exact bodyPost_ret (results_row Tryd.results51 _ _ n (wl (lw l)) _ rfl S1.out.range HD.out rfl (HS.out (lw l))) rfl ⟨rfl, G1.out.2⟩
end Go.Proofs.YtbmgjpdfmgcigabDoor.Tab
