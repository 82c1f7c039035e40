/- The keepers' made, by its contract. -/
import Derived.Test.YtbmgjpdfmgcigacObP
import Derived.Test.YtbmgjpdfmgcigacArgOps
import Derived.Deep.DeepCutAuto
import Derived.Deep.RegionHeld3
namespace Go.Proofs.Ytbmgjpdfmgcigac.Tab
open Go.RowKit
set_option linter.unusedVariables false

set_option maxHeartbeats 2000000 in
theorem made_nil {kind : Int} (h1 : 1 ≤ kind) (h6 : kind ≤ 6)  (w : World) :
    Calls Try.prog 6 #[.int .i64 kind, .slice none 0 0] w (fun e w' => ∃ c, isOb kind c ∧ e = .returned (.agg (wl c).toArray) ∧ Below w.heap.size w w') := by
  obtain ⟨nb, eb, hd⟩ := cells_array
  have HC : Hid _ := hd
  clear hd
  have HCS : Hid _ := cells_size
  have HCZ : Hid _ := cells_size2
  have g0 : Hid (Gd w.heap.size w w) := Gd.refl w
  have RZ : Hid (isOb kind wz) := isOb_zero h1 h6
  clear h1 h6
  have h49q : Hid (Gd w.heap.size w (w.alloc (.cells #[.int .u64 0, .int .u64 0, .int .u64 0, .int .u64 0, .int .u64 0, .int .u64 0, .int .u64 0, .int .u64 0, .int .u64 0, .int .u64 0, .int .u64 0, .int .u64 0, .int .u64 0, .int .u64 0, .int .u64 0, .int .u64 0, .int .u64 0] 27))) := g0.out.new (.cells #[.int .u64 0, .int .u64 0, .int .u64 0, .int .u64 0, .int .u64 0, .int .u64 0, .int .u64 0, .int .u64 0, .int .u64 0, .int .u64 0, .int .u64 0, .int .u64 0, .int .u64 0, .int .u64 0, .int .u64 0, .int .u64 0, .int .u64 0] 27)
  clear g0
  have h50q : Hid (Bo (w.alloc (.cells #[.int .u64 0, .int .u64 0, .int .u64 0, .int .u64 0, .int .u64 0, .int .u64 0, .int .u64 0, .int .u64 0, .int .u64 0, .int .u64 0, .int .u64 0, .int .u64 0, .int .u64 0, .int .u64 0, .int .u64 0, .int .u64 0, .int .u64 0] 27)) w.heap.size (wl wz)) := Bo.born w (wl wz) 27 (by simp)
  have h51q : Hid (Gd w.heap.size w ((w.alloc (.cells #[.int .u64 0, .int .u64 0, .int .u64 0, .int .u64 0, .int .u64 0, .int .u64 0, .int .u64 0, .int .u64 0, .int .u64 0, .int .u64 0, .int .u64 0, .int .u64 0, .int .u64 0, .int .u64 0, .int .u64 0, .int .u64 0, .int .u64 0] 27)).alloc (.cells #[.int .u64 0, .int .u64 0, .int .u64 0, .int .u64 0, .int .u64 0, .int .u64 0, .int .u64 0, .int .u64 0, .int .u64 0, .int .u64 0, .int .u64 0, .int .u64 0, .int .u64 0, .int .u64 0, .int .u64 0, .int .u64 0, .int .u64 0] 27))) := h49q.out.new (.cells #[.int .u64 0, .int .u64 0, .int .u64 0, .int .u64 0, .int .u64 0, .int .u64 0, .int .u64 0, .int .u64 0, .int .u64 0, .int .u64 0, .int .u64 0, .int .u64 0, .int .u64 0, .int .u64 0, .int .u64 0, .int .u64 0, .int .u64 0] 27)
  have h52q : Hid (Bo ((w.alloc (.cells #[.int .u64 0, .int .u64 0, .int .u64 0, .int .u64 0, .int .u64 0, .int .u64 0, .int .u64 0, .int .u64 0, .int .u64 0, .int .u64 0, .int .u64 0, .int .u64 0, .int .u64 0, .int .u64 0, .int .u64 0, .int .u64 0, .int .u64 0] 27)).alloc (.cells #[.int .u64 0, .int .u64 0, .int .u64 0, .int .u64 0, .int .u64 0, .int .u64 0, .int .u64 0, .int .u64 0, .int .u64 0, .int .u64 0, .int .u64 0, .int .u64 0, .int .u64 0, .int .u64 0, .int .u64 0, .int .u64 0, .int .u64 0] 27)) w.heap.size (wl wz)) := h50q.out.new (.cells #[.int .u64 0, .int .u64 0, .int .u64 0, .int .u64 0, .int .u64 0, .int .u64 0, .int .u64 0, .int .u64 0, .int .u64 0, .int .u64 0, .int .u64 0, .int .u64 0, .int .u64 0, .int .u64 0, .int .u64 0, .int .u64 0, .int .u64 0] 27)
  clear h49q h50q
  have h53q : Hid (Bo ((w.alloc (.cells #[.int .u64 0, .int .u64 0, .int .u64 0, .int .u64 0, .int .u64 0, .int .u64 0, .int .u64 0, .int .u64 0, .int .u64 0, .int .u64 0, .int .u64 0, .int .u64 0, .int .u64 0, .int .u64 0, .int .u64 0, .int .u64 0, .int .u64 0] 27)).alloc (.cells #[.int .u64 0, .int .u64 0, .int .u64 0, .int .u64 0, .int .u64 0, .int .u64 0, .int .u64 0, .int .u64 0, .int .u64 0, .int .u64 0, .int .u64 0, .int .u64 0, .int .u64 0, .int .u64 0, .int .u64 0, .int .u64 0, .int .u64 0] 27)) (w.heap.size + 1) (wl wz)) := Bo.born (w.alloc (.cells #[.int .u64 0, .int .u64 0, .int .u64 0, .int .u64 0, .int .u64 0, .int .u64 0, .int .u64 0, .int .u64 0, .int .u64 0, .int .u64 0, .int .u64 0, .int .u64 0, .int .u64 0, .int .u64 0, .int .u64 0, .int .u64 0, .int .u64 0] 27)) (wl wz) 27 (by simp)
  go_enter Try.func6, Try.ntmps6
  go_wp2_with fail
  generalize ((w.alloc (.cells #[.int .u64 0, .int .u64 0, .int .u64 0, .int .u64 0, .int .u64 0, .int .u64 0, .int .u64 0, .int .u64 0, .int .u64 0, .int .u64 0, .int .u64 0, .int .u64 0, .int .u64 0, .int .u64 0, .int .u64 0, .int .u64 0, .int .u64 0] 27)).alloc (.cells #[.int .u64 0, .int .u64 0, .int .u64 0, .int .u64 0, .int .u64 0, .int .u64 0, .int .u64 0, .int .u64 0, .int .u64 0, .int .u64 0, .int .u64 0, .int .u64 0, .int .u64 0, .int .u64 0, .int .u64 0, .int .u64 0, .int .u64 0] 27)) = W at h51q h52q h53q  ⊢
  generalize hsz : w.heap.size = n at h51q h52q h53q  ⊢
  have HSZ : Hid (w.heap.size = n) := hsz
  clear hsz
  go_loopg [17] 0 (fun gg s17 wt => wt = W ∧ s17 = .int .i64 0)
  case atStart => exact ⟨rfl, rfl⟩
  case round =>
    obtain ⟨hw, rfl⟩ := hrel
    rw [hw]
    clear hw wr
    go_wp2_with (first
      | (refine wpList_load_mid rfl 27 _ rfl (n + 1) _ rfl (wl wz) _ h53q.out.range HC.out rfl (HCS.out wz) ?_)
      | (refine wpList_store_mid rfl 27 _ _ rfl n _ (wl wz).toArray rfl rfl (h52q.out.thereW wz) (HCZ.out wz) (wl_all wz) ?_
         have h54q : Hid (Gd n w (W.setCells n 0 (wl wz))) := h51q.out.asideL (by omega) 0 (wl wz)
         have h55q : Hid (Bo (W.setCells n 0 (wl wz)) n (wl wz)) := h52q.out.setW wz
         have h56q : Hid (Bo (W.setCells n 0 (wl wz)) (n + 1) (wl wz)) := h53q.out.asideL (by omega) 0 (wl wz)
         clear h51q h52q h53q
         generalize (W.setCells n 0 (wl wz)) = u57q at h54q h55q h56q  ⊢))
    exact bodyPost_ret (results_row Try.results6 _ _ n (wl wz) _ rfl h55q.out.range HC.out rfl (HCS.out wz)) rfl ⟨wz, RZ.out, rfl, h54q.out.2⟩
set_option maxHeartbeats 2000000 in
theorem made_none {kind : Int} (h1 : 1 ≤ kind) (h6 : kind ≤ 6) (a : Addr) (c : Nat) (w : World) :
    Calls Try.prog 6 #[.int .i64 kind, .slice (some a) 0 c] w (fun e w' => ∃ c, isOb kind c ∧ e = .returned (.agg (wl c).toArray) ∧ Below w.heap.size w w') := by
  obtain ⟨nb, eb, hd⟩ := cells_array
  have HC : Hid _ := hd
  clear hd
  have HCS : Hid _ := cells_size
  have HCZ : Hid _ := cells_size2
  have g0 : Hid (Gd w.heap.size w w) := Gd.refl w
  have RZ : Hid (isOb kind wz) := isOb_zero h1 h6
  clear h1 h6
  have h58q : Hid (Gd w.heap.size w (w.alloc (.cells #[.int .u64 0, .int .u64 0, .int .u64 0, .int .u64 0, .int .u64 0, .int .u64 0, .int .u64 0, .int .u64 0, .int .u64 0, .int .u64 0, .int .u64 0, .int .u64 0, .int .u64 0, .int .u64 0, .int .u64 0, .int .u64 0, .int .u64 0] 27))) := g0.out.new (.cells #[.int .u64 0, .int .u64 0, .int .u64 0, .int .u64 0, .int .u64 0, .int .u64 0, .int .u64 0, .int .u64 0, .int .u64 0, .int .u64 0, .int .u64 0, .int .u64 0, .int .u64 0, .int .u64 0, .int .u64 0, .int .u64 0, .int .u64 0] 27)
  clear g0
  have h59q : Hid (Bo (w.alloc (.cells #[.int .u64 0, .int .u64 0, .int .u64 0, .int .u64 0, .int .u64 0, .int .u64 0, .int .u64 0, .int .u64 0, .int .u64 0, .int .u64 0, .int .u64 0, .int .u64 0, .int .u64 0, .int .u64 0, .int .u64 0, .int .u64 0, .int .u64 0] 27)) w.heap.size (wl wz)) := Bo.born w (wl wz) 27 (by simp)
  have h60q : Hid (Gd w.heap.size w ((w.alloc (.cells #[.int .u64 0, .int .u64 0, .int .u64 0, .int .u64 0, .int .u64 0, .int .u64 0, .int .u64 0, .int .u64 0, .int .u64 0, .int .u64 0, .int .u64 0, .int .u64 0, .int .u64 0, .int .u64 0, .int .u64 0, .int .u64 0, .int .u64 0] 27)).alloc (.cells #[.int .u64 0, .int .u64 0, .int .u64 0, .int .u64 0, .int .u64 0, .int .u64 0, .int .u64 0, .int .u64 0, .int .u64 0, .int .u64 0, .int .u64 0, .int .u64 0, .int .u64 0, .int .u64 0, .int .u64 0, .int .u64 0, .int .u64 0] 27))) := h58q.out.new (.cells #[.int .u64 0, .int .u64 0, .int .u64 0, .int .u64 0, .int .u64 0, .int .u64 0, .int .u64 0, .int .u64 0, .int .u64 0, .int .u64 0, .int .u64 0, .int .u64 0, .int .u64 0, .int .u64 0, .int .u64 0, .int .u64 0, .int .u64 0] 27)
  have h61q : Hid (Bo ((w.alloc (.cells #[.int .u64 0, .int .u64 0, .int .u64 0, .int .u64 0, .int .u64 0, .int .u64 0, .int .u64 0, .int .u64 0, .int .u64 0, .int .u64 0, .int .u64 0, .int .u64 0, .int .u64 0, .int .u64 0, .int .u64 0, .int .u64 0, .int .u64 0] 27)).alloc (.cells #[.int .u64 0, .int .u64 0, .int .u64 0, .int .u64 0, .int .u64 0, .int .u64 0, .int .u64 0, .int .u64 0, .int .u64 0, .int .u64 0, .int .u64 0, .int .u64 0, .int .u64 0, .int .u64 0, .int .u64 0, .int .u64 0, .int .u64 0] 27)) w.heap.size (wl wz)) := h59q.out.new (.cells #[.int .u64 0, .int .u64 0, .int .u64 0, .int .u64 0, .int .u64 0, .int .u64 0, .int .u64 0, .int .u64 0, .int .u64 0, .int .u64 0, .int .u64 0, .int .u64 0, .int .u64 0, .int .u64 0, .int .u64 0, .int .u64 0, .int .u64 0] 27)
  clear h58q h59q
  have h62q : Hid (Bo ((w.alloc (.cells #[.int .u64 0, .int .u64 0, .int .u64 0, .int .u64 0, .int .u64 0, .int .u64 0, .int .u64 0, .int .u64 0, .int .u64 0, .int .u64 0, .int .u64 0, .int .u64 0, .int .u64 0, .int .u64 0, .int .u64 0, .int .u64 0, .int .u64 0] 27)).alloc (.cells #[.int .u64 0, .int .u64 0, .int .u64 0, .int .u64 0, .int .u64 0, .int .u64 0, .int .u64 0, .int .u64 0, .int .u64 0, .int .u64 0, .int .u64 0, .int .u64 0, .int .u64 0, .int .u64 0, .int .u64 0, .int .u64 0, .int .u64 0] 27)) (w.heap.size + 1) (wl wz)) := Bo.born (w.alloc (.cells #[.int .u64 0, .int .u64 0, .int .u64 0, .int .u64 0, .int .u64 0, .int .u64 0, .int .u64 0, .int .u64 0, .int .u64 0, .int .u64 0, .int .u64 0, .int .u64 0, .int .u64 0, .int .u64 0, .int .u64 0, .int .u64 0, .int .u64 0] 27)) (wl wz) 27 (by simp)
  go_enter Try.func6, Try.ntmps6
  go_wp2_with fail
  generalize ((w.alloc (.cells #[.int .u64 0, .int .u64 0, .int .u64 0, .int .u64 0, .int .u64 0, .int .u64 0, .int .u64 0, .int .u64 0, .int .u64 0, .int .u64 0, .int .u64 0, .int .u64 0, .int .u64 0, .int .u64 0, .int .u64 0, .int .u64 0, .int .u64 0] 27)).alloc (.cells #[.int .u64 0, .int .u64 0, .int .u64 0, .int .u64 0, .int .u64 0, .int .u64 0, .int .u64 0, .int .u64 0, .int .u64 0, .int .u64 0, .int .u64 0, .int .u64 0, .int .u64 0, .int .u64 0, .int .u64 0, .int .u64 0, .int .u64 0] 27)) = W at h60q h61q h62q  ⊢
  generalize hsz : w.heap.size = n at h60q h61q h62q  ⊢
  have HSZ : Hid (w.heap.size = n) := hsz
  clear hsz
  go_loopg [17] 0 (fun gg s17 wt => wt = W ∧ s17 = .int .i64 0)
  case atStart => exact ⟨rfl, rfl⟩
  case round =>
    obtain ⟨hw, rfl⟩ := hrel
    rw [hw]
    clear hw wr
    go_wp2_with (first
      | (refine wpList_load_mid rfl 27 _ rfl (n + 1) _ rfl (wl wz) _ h62q.out.range HC.out rfl (HCS.out wz) ?_)
      | (refine wpList_store_mid rfl 27 _ _ rfl n _ (wl wz).toArray rfl rfl (h61q.out.thereW wz) (HCZ.out wz) (wl_all wz) ?_
         have h63q : Hid (Gd n w (W.setCells n 0 (wl wz))) := h60q.out.asideL (by omega) 0 (wl wz)
         have h64q : Hid (Bo (W.setCells n 0 (wl wz)) n (wl wz)) := h61q.out.setW wz
         have h65q : Hid (Bo (W.setCells n 0 (wl wz)) (n + 1) (wl wz)) := h62q.out.asideL (by omega) 0 (wl wz)
         clear h60q h61q h62q
         generalize (W.setCells n 0 (wl wz)) = u66q at h63q h64q h65q  ⊢))
    exact bodyPost_ret (results_row Try.results6 _ _ n (wl wz) _ rfl h64q.out.range HC.out rfl (HCS.out wz)) rfl ⟨wz, RZ.out, rfl, h63q.out.2⟩
set_option maxHeartbeats 4000000 in
theorem made_some {kind : Int} (h1 : 1 ≤ kind) (h6 : kind ≤ 6) {v : Value} {b off c m : Nat} (hv : v = .slice (some ⟨b, off, none⟩) m c) (h0 : 0 < m) (hc : m ≤ c) (hm : m ≤ 9223372036854775807) (w : World) (D : Ops w v m) :
    Calls Try.prog 6 #[.int .i64 kind, v] w (fun e w' => ∃ c, isOb kind c ∧ e = .returned (.agg (wl c).toArray) ∧ Below w.heap.size w w') := by
  have HA : Hid ((Try.prog.info? 34).map (·.size) = some 2) := answer_sz
  obtain ⟨fs, ha⟩ := answer_st
  have HDA : Hid _ := ha
  clear ha
  obtain ⟨nb, eb, hd⟩ := cells_array
  have HC : Hid _ := hd
  clear hd
  have HCS : Hid _ := cells_size
  have HCZ : Hid _ := cells_size2
  have g0 : Hid (Gd w.heap.size w w) := Gd.refl w
  have RZ : Hid (isOb kind wz) := isOb_zero h1 h6
  have HE : Hid (∀ w', Below w.heap.size w w' → ∀ i, i < m → ∃ o k x : Int, w'.cell? ⟨b, off + i * 3, none⟩ = some (.int .i64 o) ∧ w'.cell? ⟨b, off + i * 3 + 1, none⟩ = some (.int .i64 k) ∧ w'.cell? ⟨b, off + i * 3 + 2, none⟩ = some (.int .i64 x)) := by
    intro w' hb i hi
    rcases D.later hb with ⟨h, _⟩ | ⟨b2, off2, c2, hv2, _, _, _, hh⟩
    · omega
    · rw [hv] at hv2
      injection hv2 with e1 _ _
      injection e1 with e1
      injection e1 with e1 e2
      subst e1 e2
      exact hh i hi
  clear D
  subst hv
  obtain ⟨q, hq⟩ : ∃ q, q = min m 30 := ⟨_, rfl⟩
  have eq : min (m : Int) 30 = (q : Int) := by omega
  have eq2 : (if (30 : Int) < (m : Int) then (30 : Int) else (m : Int)) = (q : Int) := by split <;> omega
  have hqc : (q : Int) ≤ (c : Int) := by omega
  have hq0 : (0 : Int) ≤ (q : Int) := by omega
  have HQ : Hid (q ≤ m ∧ q ≤ 30) := (by omega : q ≤ m ∧ q ≤ 30)
  clear hq h0 hc hm h1 h6
  have h67q : Hid (Gd w.heap.size w (w.alloc (.cells #[.int .u64 0, .int .u64 0, .int .u64 0, .int .u64 0, .int .u64 0, .int .u64 0, .int .u64 0, .int .u64 0, .int .u64 0, .int .u64 0, .int .u64 0, .int .u64 0, .int .u64 0, .int .u64 0, .int .u64 0, .int .u64 0, .int .u64 0] 27))) := g0.out.new (.cells #[.int .u64 0, .int .u64 0, .int .u64 0, .int .u64 0, .int .u64 0, .int .u64 0, .int .u64 0, .int .u64 0, .int .u64 0, .int .u64 0, .int .u64 0, .int .u64 0, .int .u64 0, .int .u64 0, .int .u64 0, .int .u64 0, .int .u64 0] 27)
  clear g0
  have h68q : Hid (Bo (w.alloc (.cells #[.int .u64 0, .int .u64 0, .int .u64 0, .int .u64 0, .int .u64 0, .int .u64 0, .int .u64 0, .int .u64 0, .int .u64 0, .int .u64 0, .int .u64 0, .int .u64 0, .int .u64 0, .int .u64 0, .int .u64 0, .int .u64 0, .int .u64 0] 27)) w.heap.size (wl wz)) := Bo.born w (wl wz) 27 (by simp)
  have h69q : Hid (Gd w.heap.size w ((w.alloc (.cells #[.int .u64 0, .int .u64 0, .int .u64 0, .int .u64 0, .int .u64 0, .int .u64 0, .int .u64 0, .int .u64 0, .int .u64 0, .int .u64 0, .int .u64 0, .int .u64 0, .int .u64 0, .int .u64 0, .int .u64 0, .int .u64 0, .int .u64 0] 27)).alloc (.cells #[.int .u64 0, .int .u64 0, .int .u64 0, .int .u64 0, .int .u64 0, .int .u64 0, .int .u64 0, .int .u64 0, .int .u64 0, .int .u64 0, .int .u64 0, .int .u64 0, .int .u64 0, .int .u64 0, .int .u64 0, .int .u64 0, .int .u64 0] 27))) := h67q.out.new (.cells #[.int .u64 0, .int .u64 0, .int .u64 0, .int .u64 0, .int .u64 0, .int .u64 0, .int .u64 0, .int .u64 0, .int .u64 0, .int .u64 0, .int .u64 0, .int .u64 0, .int .u64 0, .int .u64 0, .int .u64 0, .int .u64 0, .int .u64 0] 27)
  have h70q : Hid (Bo ((w.alloc (.cells #[.int .u64 0, .int .u64 0, .int .u64 0, .int .u64 0, .int .u64 0, .int .u64 0, .int .u64 0, .int .u64 0, .int .u64 0, .int .u64 0, .int .u64 0, .int .u64 0, .int .u64 0, .int .u64 0, .int .u64 0, .int .u64 0, .int .u64 0] 27)).alloc (.cells #[.int .u64 0, .int .u64 0, .int .u64 0, .int .u64 0, .int .u64 0, .int .u64 0, .int .u64 0, .int .u64 0, .int .u64 0, .int .u64 0, .int .u64 0, .int .u64 0, .int .u64 0, .int .u64 0, .int .u64 0, .int .u64 0, .int .u64 0] 27)) w.heap.size (wl wz)) := h68q.out.new (.cells #[.int .u64 0, .int .u64 0, .int .u64 0, .int .u64 0, .int .u64 0, .int .u64 0, .int .u64 0, .int .u64 0, .int .u64 0, .int .u64 0, .int .u64 0, .int .u64 0, .int .u64 0, .int .u64 0, .int .u64 0, .int .u64 0, .int .u64 0] 27)
  clear h67q h68q
  have h71q : Hid (Bo ((w.alloc (.cells #[.int .u64 0, .int .u64 0, .int .u64 0, .int .u64 0, .int .u64 0, .int .u64 0, .int .u64 0, .int .u64 0, .int .u64 0, .int .u64 0, .int .u64 0, .int .u64 0, .int .u64 0, .int .u64 0, .int .u64 0, .int .u64 0, .int .u64 0] 27)).alloc (.cells #[.int .u64 0, .int .u64 0, .int .u64 0, .int .u64 0, .int .u64 0, .int .u64 0, .int .u64 0, .int .u64 0, .int .u64 0, .int .u64 0, .int .u64 0, .int .u64 0, .int .u64 0, .int .u64 0, .int .u64 0, .int .u64 0, .int .u64 0] 27)) (w.heap.size + 1) (wl wz)) := Bo.born (w.alloc (.cells #[.int .u64 0, .int .u64 0, .int .u64 0, .int .u64 0, .int .u64 0, .int .u64 0, .int .u64 0, .int .u64 0, .int .u64 0, .int .u64 0, .int .u64 0, .int .u64 0, .int .u64 0, .int .u64 0, .int .u64 0, .int .u64 0, .int .u64 0] 27)) (wl wz) 27 (by simp)
  go_enter Try.func6, Try.ntmps6
  go_wp2_with fail
  generalize ((w.alloc (.cells #[.int .u64 0, .int .u64 0, .int .u64 0, .int .u64 0, .int .u64 0, .int .u64 0, .int .u64 0, .int .u64 0, .int .u64 0, .int .u64 0, .int .u64 0, .int .u64 0, .int .u64 0, .int .u64 0, .int .u64 0, .int .u64 0, .int .u64 0] 27)).alloc (.cells #[.int .u64 0, .int .u64 0, .int .u64 0, .int .u64 0, .int .u64 0, .int .u64 0, .int .u64 0, .int .u64 0, .int .u64 0, .int .u64 0, .int .u64 0, .int .u64 0, .int .u64 0, .int .u64 0, .int .u64 0, .int .u64 0, .int .u64 0] 27)) = W at h69q h70q h71q  ⊢
  generalize hsz : w.heap.size = n at h69q h70q h71q  ⊢
  have HSZ : Hid (w.heap.size = n) := hsz
  clear hsz
  go_loopg [17] q (fun gg s17 wt => ∃ i : Nat, i ≤ q ∧ q - i ≤ gg ∧ s17 = .int .i64 i ∧ Hid (Bo wt n (wl wz)) ∧ Hid (Gd n w wt) ∧ ∃ d : Nat → Nat, Hid (isOb kind d) ∧ Hid (Bo wt (n + 1) (wl d)))
  case atStart => exact ⟨0, by omega, by omega, rfl, h70q, h69q, wz, RZ, h71q⟩
  case round =>
    obtain ⟨i, hi, hgg, rfl, Z, G, d, R, T⟩ := hrel
    clear h70q h71q h69q
    by_cases hlt : i < q
    · obtain ⟨o, k, x, c0, c1, c2⟩ := HE.out wr G.out.2 i (by have := HQ.out; omega)
      have hi1 : (i : Int) < (q : Int) := by omega
      have hi0 : (0 : Int) ≤ (i : Int) := by omega
      by_cases hR : Rt o k x
      · obtain ⟨⟨u, cc, yy⟩, hu⟩ : ∃ r, odo kind d o k x = r := ⟨_, rfl⟩
        have DO : Hid (∀ w, Calls Try.prog 8 #[.int .i64 kind, .agg (wl d).toArray, .agg #[.int .i64 o, .int .i64 k, .int .i64 x]] w (DidD w u cc yy)) := fun w => by have := obDo_is R.out hR w; rw [hu] at this; exact this
        have RU : Hid (isOb kind u) := by have := (odo_facts R.out hR.w1 hR.w6 hR.k0 hR.k1 hR.v0 hR.v1).ob; rw [hu] at this; exact this
        clear hu
        clear hR
        have l72q : n ≤ wr.heap.size := G.out.le
        have l73q : (n + 1) < wr.heap.size := T.out.lt
        have l74q : n < wr.heap.size := Z.out.lt
        have h75q : Hid (Gd n w (wr.alloc (.cells #[.int .i64 o, .int .i64 k, .int .i64 x] 38))) := G.out.new (.cells #[.int .i64 o, .int .i64 k, .int .i64 x] 38)
        have h76q : Hid (Bo (wr.alloc (.cells #[.int .i64 o, .int .i64 k, .int .i64 x] 38)) (n + 1) (wl d)) := T.out.new (.cells #[.int .i64 o, .int .i64 k, .int .i64 x] 38)
        have h77q : Hid (Bo (wr.alloc (.cells #[.int .i64 o, .int .i64 k, .int .i64 x] 38)) n (wl wz)) := Z.out.new (.cells #[.int .i64 o, .int .i64 k, .int .i64 x] 38)
        clear G T Z
        have h78q : Hid (Bo (wr.alloc (.cells #[.int .i64 o, .int .i64 k, .int .i64 x] 38)) wr.heap.size [.int .i64 o, .int .i64 k, .int .i64 x]) := Bo.born wr [.int .i64 o, .int .i64 k, .int .i64 x] 38 (by simp)
        have e0 := h78q.out.at 0 rfl
        have e1 := h78q.out.at 1 rfl
        have e2 := h78q.out.at 2 rfl
        go_wp2_with (first
          | (refine wpList_load_mid rfl 27 _ rfl (n + 1) _ rfl (wl d) _ h76q.out.range HC.out rfl (HCS.out d) ?_))
        clear e0 e1 e2 c0 c1 c2
        refine (DO.out _).mono ?_
        rintro e u79q ⟨rfl, hb⟩
        have h80q : Hid (Gd n w u79q) := h75q.out.later hb
        have h81q : Hid (Bo u79q (n + 1) (wl d)) := h76q.out.later hb
        have h82q : Hid (Bo u79q n (wl wz)) := h77q.out.later hb
        have h83q : Hid (Bo u79q wr.heap.size [.int .i64 o, .int .i64 k, .int .i64 x]) := h78q.out.later hb
        clear h75q h76q h77q h78q
        clear hb
        have l84q : n ≤ u79q.heap.size := h80q.out.le
        have l85q : (n + 1) < u79q.heap.size := h81q.out.lt
        have l86q : n < u79q.heap.size := h82q.out.lt
        have l87q : wr.heap.size < u79q.heap.size := h83q.out.lt
        have h88q : Hid (Gd n w (u79q.alloc (.cells #[.int .u64 0, .int .u64 0, .int .u64 0, .int .u64 0, .int .u64 0, .int .u64 0, .int .u64 0, .int .u64 0, .int .u64 0, .int .u64 0, .int .u64 0, .int .u64 0, .int .u64 0, .int .u64 0, .int .u64 0, .int .u64 0, .int .u64 0] 27))) := h80q.out.new (.cells #[.int .u64 0, .int .u64 0, .int .u64 0, .int .u64 0, .int .u64 0, .int .u64 0, .int .u64 0, .int .u64 0, .int .u64 0, .int .u64 0, .int .u64 0, .int .u64 0, .int .u64 0, .int .u64 0, .int .u64 0, .int .u64 0, .int .u64 0] 27)
        have h89q : Hid (Bo (u79q.alloc (.cells #[.int .u64 0, .int .u64 0, .int .u64 0, .int .u64 0, .int .u64 0, .int .u64 0, .int .u64 0, .int .u64 0, .int .u64 0, .int .u64 0, .int .u64 0, .int .u64 0, .int .u64 0, .int .u64 0, .int .u64 0, .int .u64 0, .int .u64 0] 27)) (n + 1) (wl d)) := h81q.out.new (.cells #[.int .u64 0, .int .u64 0, .int .u64 0, .int .u64 0, .int .u64 0, .int .u64 0, .int .u64 0, .int .u64 0, .int .u64 0, .int .u64 0, .int .u64 0, .int .u64 0, .int .u64 0, .int .u64 0, .int .u64 0, .int .u64 0, .int .u64 0] 27)
        have h90q : Hid (Bo (u79q.alloc (.cells #[.int .u64 0, .int .u64 0, .int .u64 0, .int .u64 0, .int .u64 0, .int .u64 0, .int .u64 0, .int .u64 0, .int .u64 0, .int .u64 0, .int .u64 0, .int .u64 0, .int .u64 0, .int .u64 0, .int .u64 0, .int .u64 0, .int .u64 0] 27)) n (wl wz)) := h82q.out.new (.cells #[.int .u64 0, .int .u64 0, .int .u64 0, .int .u64 0, .int .u64 0, .int .u64 0, .int .u64 0, .int .u64 0, .int .u64 0, .int .u64 0, .int .u64 0, .int .u64 0, .int .u64 0, .int .u64 0, .int .u64 0, .int .u64 0, .int .u64 0] 27)
        have h91q : Hid (Bo (u79q.alloc (.cells #[.int .u64 0, .int .u64 0, .int .u64 0, .int .u64 0, .int .u64 0, .int .u64 0, .int .u64 0, .int .u64 0, .int .u64 0, .int .u64 0, .int .u64 0, .int .u64 0, .int .u64 0, .int .u64 0, .int .u64 0, .int .u64 0, .int .u64 0] 27)) wr.heap.size [.int .i64 o, .int .i64 k, .int .i64 x]) := h83q.out.new (.cells #[.int .u64 0, .int .u64 0, .int .u64 0, .int .u64 0, .int .u64 0, .int .u64 0, .int .u64 0, .int .u64 0, .int .u64 0, .int .u64 0, .int .u64 0, .int .u64 0, .int .u64 0, .int .u64 0, .int .u64 0, .int .u64 0, .int .u64 0] 27)
        clear h80q h81q h82q h83q
        have h92q : Hid (Bo (u79q.alloc (.cells #[.int .u64 0, .int .u64 0, .int .u64 0, .int .u64 0, .int .u64 0, .int .u64 0, .int .u64 0, .int .u64 0, .int .u64 0, .int .u64 0, .int .u64 0, .int .u64 0, .int .u64 0, .int .u64 0, .int .u64 0, .int .u64 0, .int .u64 0] 27)) u79q.heap.size (wl wz)) := Bo.born u79q (wl wz) 27 (by simp)
        have h93q : Hid (Gd n w ((u79q.alloc (.cells #[.int .u64 0, .int .u64 0, .int .u64 0, .int .u64 0, .int .u64 0, .int .u64 0, .int .u64 0, .int .u64 0, .int .u64 0, .int .u64 0, .int .u64 0, .int .u64 0, .int .u64 0, .int .u64 0, .int .u64 0, .int .u64 0, .int .u64 0] 27)).alloc (.cells #[.int .i64 0, .int .i64 0] 34))) := h88q.out.new (.cells #[.int .i64 0, .int .i64 0] 34)
        have h94q : Hid (Bo ((u79q.alloc (.cells #[.int .u64 0, .int .u64 0, .int .u64 0, .int .u64 0, .int .u64 0, .int .u64 0, .int .u64 0, .int .u64 0, .int .u64 0, .int .u64 0, .int .u64 0, .int .u64 0, .int .u64 0, .int .u64 0, .int .u64 0, .int .u64 0, .int .u64 0] 27)).alloc (.cells #[.int .i64 0, .int .i64 0] 34)) (n + 1) (wl d)) := h89q.out.new (.cells #[.int .i64 0, .int .i64 0] 34)
        have h95q : Hid (Bo ((u79q.alloc (.cells #[.int .u64 0, .int .u64 0, .int .u64 0, .int .u64 0, .int .u64 0, .int .u64 0, .int .u64 0, .int .u64 0, .int .u64 0, .int .u64 0, .int .u64 0, .int .u64 0, .int .u64 0, .int .u64 0, .int .u64 0, .int .u64 0, .int .u64 0] 27)).alloc (.cells #[.int .i64 0, .int .i64 0] 34)) n (wl wz)) := h90q.out.new (.cells #[.int .i64 0, .int .i64 0] 34)
        have h96q : Hid (Bo ((u79q.alloc (.cells #[.int .u64 0, .int .u64 0, .int .u64 0, .int .u64 0, .int .u64 0, .int .u64 0, .int .u64 0, .int .u64 0, .int .u64 0, .int .u64 0, .int .u64 0, .int .u64 0, .int .u64 0, .int .u64 0, .int .u64 0, .int .u64 0, .int .u64 0] 27)).alloc (.cells #[.int .i64 0, .int .i64 0] 34)) wr.heap.size [.int .i64 o, .int .i64 k, .int .i64 x]) := h91q.out.new (.cells #[.int .i64 0, .int .i64 0] 34)
        have h97q : Hid (Bo ((u79q.alloc (.cells #[.int .u64 0, .int .u64 0, .int .u64 0, .int .u64 0, .int .u64 0, .int .u64 0, .int .u64 0, .int .u64 0, .int .u64 0, .int .u64 0, .int .u64 0, .int .u64 0, .int .u64 0, .int .u64 0, .int .u64 0, .int .u64 0, .int .u64 0] 27)).alloc (.cells #[.int .i64 0, .int .i64 0] 34)) u79q.heap.size (wl wz)) := h92q.out.new (.cells #[.int .i64 0, .int .i64 0] 34)
        clear h88q h89q h90q h91q h92q
        have h98q : Hid (Bo ((u79q.alloc (.cells #[.int .u64 0, .int .u64 0, .int .u64 0, .int .u64 0, .int .u64 0, .int .u64 0, .int .u64 0, .int .u64 0, .int .u64 0, .int .u64 0, .int .u64 0, .int .u64 0, .int .u64 0, .int .u64 0, .int .u64 0, .int .u64 0, .int .u64 0] 27)).alloc (.cells #[.int .i64 0, .int .i64 0] 34)) (u79q.heap.size + 1) [.int .i64 0, .int .i64 0]) := Bo.born (u79q.alloc (.cells #[.int .u64 0, .int .u64 0, .int .u64 0, .int .u64 0, .int .u64 0, .int .u64 0, .int .u64 0, .int .u64 0, .int .u64 0, .int .u64 0, .int .u64 0, .int .u64 0, .int .u64 0, .int .u64 0, .int .u64 0, .int .u64 0, .int .u64 0] 27)) [.int .i64 0, .int .i64 0] 34 (by simp)
        go_wp2_with (first
          | (refine wpList_store_mid rfl 27 _ _ rfl u79q.heap.size _ (wl u).toArray rfl rfl (h97q.out.thereW u) (HCZ.out u) (wl_all u) ?_
             have h99q : Hid (Gd n w (((u79q.alloc (.cells #[.int .u64 0, .int .u64 0, .int .u64 0, .int .u64 0, .int .u64 0, .int .u64 0, .int .u64 0, .int .u64 0, .int .u64 0, .int .u64 0, .int .u64 0, .int .u64 0, .int .u64 0, .int .u64 0, .int .u64 0, .int .u64 0, .int .u64 0] 27)).alloc (.cells #[.int .i64 0, .int .i64 0] 34)).setCells u79q.heap.size 0 (wl u))) := h93q.out.asideL (by omega) 0 (wl u)
             have h100q : Hid (Bo (((u79q.alloc (.cells #[.int .u64 0, .int .u64 0, .int .u64 0, .int .u64 0, .int .u64 0, .int .u64 0, .int .u64 0, .int .u64 0, .int .u64 0, .int .u64 0, .int .u64 0, .int .u64 0, .int .u64 0, .int .u64 0, .int .u64 0, .int .u64 0, .int .u64 0] 27)).alloc (.cells #[.int .i64 0, .int .i64 0] 34)).setCells u79q.heap.size 0 (wl u)) (n + 1) (wl d)) := h94q.out.asideL (by omega) 0 (wl u)
             have h101q : Hid (Bo (((u79q.alloc (.cells #[.int .u64 0, .int .u64 0, .int .u64 0, .int .u64 0, .int .u64 0, .int .u64 0, .int .u64 0, .int .u64 0, .int .u64 0, .int .u64 0, .int .u64 0, .int .u64 0, .int .u64 0, .int .u64 0, .int .u64 0, .int .u64 0, .int .u64 0] 27)).alloc (.cells #[.int .i64 0, .int .i64 0] 34)).setCells u79q.heap.size 0 (wl u)) n (wl wz)) := h95q.out.asideL (by omega) 0 (wl u)
             have h102q : Hid (Bo (((u79q.alloc (.cells #[.int .u64 0, .int .u64 0, .int .u64 0, .int .u64 0, .int .u64 0, .int .u64 0, .int .u64 0, .int .u64 0, .int .u64 0, .int .u64 0, .int .u64 0, .int .u64 0, .int .u64 0, .int .u64 0, .int .u64 0, .int .u64 0, .int .u64 0] 27)).alloc (.cells #[.int .i64 0, .int .i64 0] 34)).setCells u79q.heap.size 0 (wl u)) wr.heap.size [.int .i64 o, .int .i64 k, .int .i64 x]) := h96q.out.asideL (by omega) 0 (wl u)
             have h103q : Hid (Bo (((u79q.alloc (.cells #[.int .u64 0, .int .u64 0, .int .u64 0, .int .u64 0, .int .u64 0, .int .u64 0, .int .u64 0, .int .u64 0, .int .u64 0, .int .u64 0, .int .u64 0, .int .u64 0, .int .u64 0, .int .u64 0, .int .u64 0, .int .u64 0, .int .u64 0] 27)).alloc (.cells #[.int .i64 0, .int .i64 0] 34)).setCells u79q.heap.size 0 (wl u)) u79q.heap.size (wl u)) := h97q.out.setW u
             have h104q : Hid (Bo (((u79q.alloc (.cells #[.int .u64 0, .int .u64 0, .int .u64 0, .int .u64 0, .int .u64 0, .int .u64 0, .int .u64 0, .int .u64 0, .int .u64 0, .int .u64 0, .int .u64 0, .int .u64 0, .int .u64 0, .int .u64 0, .int .u64 0, .int .u64 0, .int .u64 0] 27)).alloc (.cells #[.int .i64 0, .int .i64 0] 34)).setCells u79q.heap.size 0 (wl u)) (u79q.heap.size + 1) [.int .i64 0, .int .i64 0]) := h98q.out.asideL (by omega) 0 (wl u)
             clear h93q h94q h95q h96q h97q h98q
             generalize (((u79q.alloc (.cells #[.int .u64 0, .int .u64 0, .int .u64 0, .int .u64 0, .int .u64 0, .int .u64 0, .int .u64 0, .int .u64 0, .int .u64 0, .int .u64 0, .int .u64 0, .int .u64 0, .int .u64 0, .int .u64 0, .int .u64 0, .int .u64 0, .int .u64 0] 27)).alloc (.cells #[.int .i64 0, .int .i64 0] 34)).setCells u79q.heap.size 0 (wl u)) = u105q at h99q h100q h101q h102q h103q h104q  ⊢)
          | (refine wpList_store_mid rfl 34 _ _ rfl (u79q.heap.size + 1) _ #[.int .i64 (cc), .int .i64 (yy)] rfl rfl h104q.out.there2 HA.out (two_one _ _) ?_
             have h106q : Hid (Gd n w (u105q.setCells (u79q.heap.size + 1) 0 [.int .i64 (cc), .int .i64 (yy)])) := h99q.out.asideL (by omega) 0 [.int .i64 (cc), .int .i64 (yy)]
             have h107q : Hid (Bo (u105q.setCells (u79q.heap.size + 1) 0 [.int .i64 (cc), .int .i64 (yy)]) (n + 1) (wl d)) := h100q.out.asideL (by omega) 0 [.int .i64 (cc), .int .i64 (yy)]
             have h108q : Hid (Bo (u105q.setCells (u79q.heap.size + 1) 0 [.int .i64 (cc), .int .i64 (yy)]) n (wl wz)) := h101q.out.asideL (by omega) 0 [.int .i64 (cc), .int .i64 (yy)]
             have h109q : Hid (Bo (u105q.setCells (u79q.heap.size + 1) 0 [.int .i64 (cc), .int .i64 (yy)]) wr.heap.size [.int .i64 o, .int .i64 k, .int .i64 x]) := h102q.out.asideL (by omega) 0 [.int .i64 (cc), .int .i64 (yy)]
             have h110q : Hid (Bo (u105q.setCells (u79q.heap.size + 1) 0 [.int .i64 (cc), .int .i64 (yy)]) u79q.heap.size (wl u)) := h103q.out.asideL (by omega) 0 [.int .i64 (cc), .int .i64 (yy)]
             have h111q : Hid (Bo (u105q.setCells (u79q.heap.size + 1) 0 [.int .i64 (cc), .int .i64 (yy)]) (u79q.heap.size + 1) [.int .i64 (cc), .int .i64 (yy)]) := h104q.out.set2 (.int .i64 (cc)) (.int .i64 (yy))
             clear h99q h100q h101q h102q h103q h104q
             generalize (u105q.setCells (u79q.heap.size + 1) 0 [.int .i64 (cc), .int .i64 (yy)]) = u112q at h106q h107q h108q h109q h110q h111q  ⊢)
          | (refine wpList_load_mid rfl 27 _ rfl u79q.heap.size _ rfl (wl u) _ h110q.out.range HC.out rfl (HCS.out u) ?_)
          | (refine wpList_store_mid rfl 27 _ _ rfl (n + 1) _ (wl u).toArray rfl rfl (h107q.out.thereW u) (HCZ.out u) (wl_all u) ?_
             have h113q : Hid (Gd n w (u112q.setCells (n + 1) 0 (wl u))) := h106q.out.asideL (by omega) 0 (wl u)
             have h114q : Hid (Bo (u112q.setCells (n + 1) 0 (wl u)) (n + 1) (wl u)) := h107q.out.setW u
             have h115q : Hid (Bo (u112q.setCells (n + 1) 0 (wl u)) n (wl wz)) := h108q.out.asideL (by omega) 0 (wl u)
             have h116q : Hid (Bo (u112q.setCells (n + 1) 0 (wl u)) wr.heap.size [.int .i64 o, .int .i64 k, .int .i64 x]) := h109q.out.asideL (by omega) 0 (wl u)
             have h117q : Hid (Bo (u112q.setCells (n + 1) 0 (wl u)) u79q.heap.size (wl u)) := h110q.out.asideL (by omega) 0 (wl u)
             have h118q : Hid (Bo (u112q.setCells (n + 1) 0 (wl u)) (u79q.heap.size + 1) [.int .i64 (cc), .int .i64 (yy)]) := h111q.out.asideL (by omega) 0 (wl u)
             clear h106q h107q h108q h109q h110q h111q
             generalize (u112q.setCells (n + 1) 0 (wl u)) = u119q at h113q h114q h115q h116q h117q h118q  ⊢))
        go_roundg (q - (i + 1))
        case measure => omega
        case rel => exact ⟨i + 1, by omega, by omega, by go_num, h115q, h113q, u, RU, h114q⟩
      · have DO : Hid (∀ w, Calls Try.prog 8 #[.int .i64 kind, .agg (wl d).toArray, .agg #[.int .i64 o, .int .i64 k, .int .i64 x]] w (Refd w)) := fun w => obDo_no (fun h => hR h.1) w
        clear hR
        have l120q : n ≤ wr.heap.size := G.out.le
        have l121q : (n + 1) < wr.heap.size := T.out.lt
        have l122q : n < wr.heap.size := Z.out.lt
        have h123q : Hid (Gd n w (wr.alloc (.cells #[.int .i64 o, .int .i64 k, .int .i64 x] 38))) := G.out.new (.cells #[.int .i64 o, .int .i64 k, .int .i64 x] 38)
        have h124q : Hid (Bo (wr.alloc (.cells #[.int .i64 o, .int .i64 k, .int .i64 x] 38)) (n + 1) (wl d)) := T.out.new (.cells #[.int .i64 o, .int .i64 k, .int .i64 x] 38)
        have h125q : Hid (Bo (wr.alloc (.cells #[.int .i64 o, .int .i64 k, .int .i64 x] 38)) n (wl wz)) := Z.out.new (.cells #[.int .i64 o, .int .i64 k, .int .i64 x] 38)
        clear G T Z
        have h126q : Hid (Bo (wr.alloc (.cells #[.int .i64 o, .int .i64 k, .int .i64 x] 38)) wr.heap.size [.int .i64 o, .int .i64 k, .int .i64 x]) := Bo.born wr [.int .i64 o, .int .i64 k, .int .i64 x] 38 (by simp)
        have e0 := h126q.out.at 0 rfl
        have e1 := h126q.out.at 1 rfl
        have e2 := h126q.out.at 2 rfl
        go_wp2_with (first
          | (refine wpList_load_mid rfl 27 _ rfl (n + 1) _ rfl (wl d) _ h124q.out.range HC.out rfl (HCS.out d) ?_))
        clear e0 e1 e2 c0 c1 c2
        refine (DO.out _).mono ?_
        rintro e u127q ⟨rfl, hb⟩
        have h128q : Hid (Gd n w u127q) := h123q.out.later hb
        have h129q : Hid (Bo u127q (n + 1) (wl d)) := h124q.out.later hb
        have h130q : Hid (Bo u127q n (wl wz)) := h125q.out.later hb
        have h131q : Hid (Bo u127q wr.heap.size [.int .i64 o, .int .i64 k, .int .i64 x]) := h126q.out.later hb
        clear h123q h124q h125q h126q
        clear hb
        have l132q : n ≤ u127q.heap.size := h128q.out.le
        have l133q : (n + 1) < u127q.heap.size := h129q.out.lt
        have l134q : n < u127q.heap.size := h130q.out.lt
        have l135q : wr.heap.size < u127q.heap.size := h131q.out.lt
        have h136q : Hid (Gd n w (u127q.alloc (.cells #[.int .u64 0, .int .u64 0, .int .u64 0, .int .u64 0, .int .u64 0, .int .u64 0, .int .u64 0, .int .u64 0, .int .u64 0, .int .u64 0, .int .u64 0, .int .u64 0, .int .u64 0, .int .u64 0, .int .u64 0, .int .u64 0, .int .u64 0] 27))) := h128q.out.new (.cells #[.int .u64 0, .int .u64 0, .int .u64 0, .int .u64 0, .int .u64 0, .int .u64 0, .int .u64 0, .int .u64 0, .int .u64 0, .int .u64 0, .int .u64 0, .int .u64 0, .int .u64 0, .int .u64 0, .int .u64 0, .int .u64 0, .int .u64 0] 27)
        have h137q : Hid (Bo (u127q.alloc (.cells #[.int .u64 0, .int .u64 0, .int .u64 0, .int .u64 0, .int .u64 0, .int .u64 0, .int .u64 0, .int .u64 0, .int .u64 0, .int .u64 0, .int .u64 0, .int .u64 0, .int .u64 0, .int .u64 0, .int .u64 0, .int .u64 0, .int .u64 0] 27)) (n + 1) (wl d)) := h129q.out.new (.cells #[.int .u64 0, .int .u64 0, .int .u64 0, .int .u64 0, .int .u64 0, .int .u64 0, .int .u64 0, .int .u64 0, .int .u64 0, .int .u64 0, .int .u64 0, .int .u64 0, .int .u64 0, .int .u64 0, .int .u64 0, .int .u64 0, .int .u64 0] 27)
        have h138q : Hid (Bo (u127q.alloc (.cells #[.int .u64 0, .int .u64 0, .int .u64 0, .int .u64 0, .int .u64 0, .int .u64 0, .int .u64 0, .int .u64 0, .int .u64 0, .int .u64 0, .int .u64 0, .int .u64 0, .int .u64 0, .int .u64 0, .int .u64 0, .int .u64 0, .int .u64 0] 27)) n (wl wz)) := h130q.out.new (.cells #[.int .u64 0, .int .u64 0, .int .u64 0, .int .u64 0, .int .u64 0, .int .u64 0, .int .u64 0, .int .u64 0, .int .u64 0, .int .u64 0, .int .u64 0, .int .u64 0, .int .u64 0, .int .u64 0, .int .u64 0, .int .u64 0, .int .u64 0] 27)
        have h139q : Hid (Bo (u127q.alloc (.cells #[.int .u64 0, .int .u64 0, .int .u64 0, .int .u64 0, .int .u64 0, .int .u64 0, .int .u64 0, .int .u64 0, .int .u64 0, .int .u64 0, .int .u64 0, .int .u64 0, .int .u64 0, .int .u64 0, .int .u64 0, .int .u64 0, .int .u64 0] 27)) wr.heap.size [.int .i64 o, .int .i64 k, .int .i64 x]) := h131q.out.new (.cells #[.int .u64 0, .int .u64 0, .int .u64 0, .int .u64 0, .int .u64 0, .int .u64 0, .int .u64 0, .int .u64 0, .int .u64 0, .int .u64 0, .int .u64 0, .int .u64 0, .int .u64 0, .int .u64 0, .int .u64 0, .int .u64 0, .int .u64 0] 27)
        clear h128q h129q h130q h131q
        have h140q : Hid (Bo (u127q.alloc (.cells #[.int .u64 0, .int .u64 0, .int .u64 0, .int .u64 0, .int .u64 0, .int .u64 0, .int .u64 0, .int .u64 0, .int .u64 0, .int .u64 0, .int .u64 0, .int .u64 0, .int .u64 0, .int .u64 0, .int .u64 0, .int .u64 0, .int .u64 0] 27)) u127q.heap.size (wl wz)) := Bo.born u127q (wl wz) 27 (by simp)
        have h141q : Hid (Gd n w ((u127q.alloc (.cells #[.int .u64 0, .int .u64 0, .int .u64 0, .int .u64 0, .int .u64 0, .int .u64 0, .int .u64 0, .int .u64 0, .int .u64 0, .int .u64 0, .int .u64 0, .int .u64 0, .int .u64 0, .int .u64 0, .int .u64 0, .int .u64 0, .int .u64 0] 27)).alloc (.cells #[.int .i64 0, .int .i64 0] 34))) := h136q.out.new (.cells #[.int .i64 0, .int .i64 0] 34)
        have h142q : Hid (Bo ((u127q.alloc (.cells #[.int .u64 0, .int .u64 0, .int .u64 0, .int .u64 0, .int .u64 0, .int .u64 0, .int .u64 0, .int .u64 0, .int .u64 0, .int .u64 0, .int .u64 0, .int .u64 0, .int .u64 0, .int .u64 0, .int .u64 0, .int .u64 0, .int .u64 0] 27)).alloc (.cells #[.int .i64 0, .int .i64 0] 34)) (n + 1) (wl d)) := h137q.out.new (.cells #[.int .i64 0, .int .i64 0] 34)
        have h143q : Hid (Bo ((u127q.alloc (.cells #[.int .u64 0, .int .u64 0, .int .u64 0, .int .u64 0, .int .u64 0, .int .u64 0, .int .u64 0, .int .u64 0, .int .u64 0, .int .u64 0, .int .u64 0, .int .u64 0, .int .u64 0, .int .u64 0, .int .u64 0, .int .u64 0, .int .u64 0] 27)).alloc (.cells #[.int .i64 0, .int .i64 0] 34)) n (wl wz)) := h138q.out.new (.cells #[.int .i64 0, .int .i64 0] 34)
        have h144q : Hid (Bo ((u127q.alloc (.cells #[.int .u64 0, .int .u64 0, .int .u64 0, .int .u64 0, .int .u64 0, .int .u64 0, .int .u64 0, .int .u64 0, .int .u64 0, .int .u64 0, .int .u64 0, .int .u64 0, .int .u64 0, .int .u64 0, .int .u64 0, .int .u64 0, .int .u64 0] 27)).alloc (.cells #[.int .i64 0, .int .i64 0] 34)) wr.heap.size [.int .i64 o, .int .i64 k, .int .i64 x]) := h139q.out.new (.cells #[.int .i64 0, .int .i64 0] 34)
        have h145q : Hid (Bo ((u127q.alloc (.cells #[.int .u64 0, .int .u64 0, .int .u64 0, .int .u64 0, .int .u64 0, .int .u64 0, .int .u64 0, .int .u64 0, .int .u64 0, .int .u64 0, .int .u64 0, .int .u64 0, .int .u64 0, .int .u64 0, .int .u64 0, .int .u64 0, .int .u64 0] 27)).alloc (.cells #[.int .i64 0, .int .i64 0] 34)) u127q.heap.size (wl wz)) := h140q.out.new (.cells #[.int .i64 0, .int .i64 0] 34)
        clear h136q h137q h138q h139q h140q
        have h146q : Hid (Bo ((u127q.alloc (.cells #[.int .u64 0, .int .u64 0, .int .u64 0, .int .u64 0, .int .u64 0, .int .u64 0, .int .u64 0, .int .u64 0, .int .u64 0, .int .u64 0, .int .u64 0, .int .u64 0, .int .u64 0, .int .u64 0, .int .u64 0, .int .u64 0, .int .u64 0] 27)).alloc (.cells #[.int .i64 0, .int .i64 0] 34)) (u127q.heap.size + 1) [.int .i64 0, .int .i64 0]) := Bo.born (u127q.alloc (.cells #[.int .u64 0, .int .u64 0, .int .u64 0, .int .u64 0, .int .u64 0, .int .u64 0, .int .u64 0, .int .u64 0, .int .u64 0, .int .u64 0, .int .u64 0, .int .u64 0, .int .u64 0, .int .u64 0, .int .u64 0, .int .u64 0, .int .u64 0] 27)) [.int .i64 0, .int .i64 0] 34 (by simp)
        go_wp2_with (first
          | (refine wpList_store_mid rfl 27 _ _ rfl u127q.heap.size _ (wl wz).toArray rfl rfl (h145q.out.thereW wz) (HCZ.out wz) (wl_all wz) ?_
             have h147q : Hid (Gd n w (((u127q.alloc (.cells #[.int .u64 0, .int .u64 0, .int .u64 0, .int .u64 0, .int .u64 0, .int .u64 0, .int .u64 0, .int .u64 0, .int .u64 0, .int .u64 0, .int .u64 0, .int .u64 0, .int .u64 0, .int .u64 0, .int .u64 0, .int .u64 0, .int .u64 0] 27)).alloc (.cells #[.int .i64 0, .int .i64 0] 34)).setCells u127q.heap.size 0 (wl wz))) := h141q.out.asideL (by omega) 0 (wl wz)
             have h148q : Hid (Bo (((u127q.alloc (.cells #[.int .u64 0, .int .u64 0, .int .u64 0, .int .u64 0, .int .u64 0, .int .u64 0, .int .u64 0, .int .u64 0, .int .u64 0, .int .u64 0, .int .u64 0, .int .u64 0, .int .u64 0, .int .u64 0, .int .u64 0, .int .u64 0, .int .u64 0] 27)).alloc (.cells #[.int .i64 0, .int .i64 0] 34)).setCells u127q.heap.size 0 (wl wz)) (n + 1) (wl d)) := h142q.out.asideL (by omega) 0 (wl wz)
             have h149q : Hid (Bo (((u127q.alloc (.cells #[.int .u64 0, .int .u64 0, .int .u64 0, .int .u64 0, .int .u64 0, .int .u64 0, .int .u64 0, .int .u64 0, .int .u64 0, .int .u64 0, .int .u64 0, .int .u64 0, .int .u64 0, .int .u64 0, .int .u64 0, .int .u64 0, .int .u64 0] 27)).alloc (.cells #[.int .i64 0, .int .i64 0] 34)).setCells u127q.heap.size 0 (wl wz)) n (wl wz)) := h143q.out.asideL (by omega) 0 (wl wz)
             have h150q : Hid (Bo (((u127q.alloc (.cells #[.int .u64 0, .int .u64 0, .int .u64 0, .int .u64 0, .int .u64 0, .int .u64 0, .int .u64 0, .int .u64 0, .int .u64 0, .int .u64 0, .int .u64 0, .int .u64 0, .int .u64 0, .int .u64 0, .int .u64 0, .int .u64 0, .int .u64 0] 27)).alloc (.cells #[.int .i64 0, .int .i64 0] 34)).setCells u127q.heap.size 0 (wl wz)) wr.heap.size [.int .i64 o, .int .i64 k, .int .i64 x]) := h144q.out.asideL (by omega) 0 (wl wz)
             have h151q : Hid (Bo (((u127q.alloc (.cells #[.int .u64 0, .int .u64 0, .int .u64 0, .int .u64 0, .int .u64 0, .int .u64 0, .int .u64 0, .int .u64 0, .int .u64 0, .int .u64 0, .int .u64 0, .int .u64 0, .int .u64 0, .int .u64 0, .int .u64 0, .int .u64 0, .int .u64 0] 27)).alloc (.cells #[.int .i64 0, .int .i64 0] 34)).setCells u127q.heap.size 0 (wl wz)) u127q.heap.size (wl wz)) := h145q.out.setW wz
             have h152q : Hid (Bo (((u127q.alloc (.cells #[.int .u64 0, .int .u64 0, .int .u64 0, .int .u64 0, .int .u64 0, .int .u64 0, .int .u64 0, .int .u64 0, .int .u64 0, .int .u64 0, .int .u64 0, .int .u64 0, .int .u64 0, .int .u64 0, .int .u64 0, .int .u64 0, .int .u64 0] 27)).alloc (.cells #[.int .i64 0, .int .i64 0] 34)).setCells u127q.heap.size 0 (wl wz)) (u127q.heap.size + 1) [.int .i64 0, .int .i64 0]) := h146q.out.asideL (by omega) 0 (wl wz)
             clear h141q h142q h143q h144q h145q h146q
             generalize (((u127q.alloc (.cells #[.int .u64 0, .int .u64 0, .int .u64 0, .int .u64 0, .int .u64 0, .int .u64 0, .int .u64 0, .int .u64 0, .int .u64 0, .int .u64 0, .int .u64 0, .int .u64 0, .int .u64 0, .int .u64 0, .int .u64 0, .int .u64 0, .int .u64 0] 27)).alloc (.cells #[.int .i64 0, .int .i64 0] 34)).setCells u127q.heap.size 0 (wl wz)) = u153q at h147q h148q h149q h150q h151q h152q  ⊢)
          | (refine wpList_store_mid rfl 34 _ _ rfl (u127q.heap.size + 1) _ #[.int .i64 (0), .int .i64 (0)] rfl rfl h152q.out.there2 HA.out (two_one _ _) ?_
             have h154q : Hid (Gd n w (u153q.setCells (u127q.heap.size + 1) 0 [.int .i64 (0), .int .i64 (0)])) := h147q.out.asideL (by omega) 0 [.int .i64 (0), .int .i64 (0)]
             have h155q : Hid (Bo (u153q.setCells (u127q.heap.size + 1) 0 [.int .i64 (0), .int .i64 (0)]) (n + 1) (wl d)) := h148q.out.asideL (by omega) 0 [.int .i64 (0), .int .i64 (0)]
             have h156q : Hid (Bo (u153q.setCells (u127q.heap.size + 1) 0 [.int .i64 (0), .int .i64 (0)]) n (wl wz)) := h149q.out.asideL (by omega) 0 [.int .i64 (0), .int .i64 (0)]
             have h157q : Hid (Bo (u153q.setCells (u127q.heap.size + 1) 0 [.int .i64 (0), .int .i64 (0)]) wr.heap.size [.int .i64 o, .int .i64 k, .int .i64 x]) := h150q.out.asideL (by omega) 0 [.int .i64 (0), .int .i64 (0)]
             have h158q : Hid (Bo (u153q.setCells (u127q.heap.size + 1) 0 [.int .i64 (0), .int .i64 (0)]) u127q.heap.size (wl wz)) := h151q.out.asideL (by omega) 0 [.int .i64 (0), .int .i64 (0)]
             have h159q : Hid (Bo (u153q.setCells (u127q.heap.size + 1) 0 [.int .i64 (0), .int .i64 (0)]) (u127q.heap.size + 1) [.int .i64 (0), .int .i64 (0)]) := h152q.out.set2 (.int .i64 (0)) (.int .i64 (0))
             clear h147q h148q h149q h150q h151q h152q
             generalize (u153q.setCells (u127q.heap.size + 1) 0 [.int .i64 (0), .int .i64 (0)]) = u160q at h154q h155q h156q h157q h158q h159q  ⊢))
        go_roundg (q - (i + 1))
        case measure => omega
        case rel => exact ⟨i + 1, by omega, by omega, by go_num, h156q, h154q, d, R, h155q⟩
    · obtain rfl : i = q := by omega
      go_wp2_with (first
        | (refine wpList_load_mid rfl 27 _ rfl (n + 1) _ rfl (wl d) _ T.out.range HC.out rfl (HCS.out d) ?_)
        | (refine wpList_store_mid rfl 27 _ _ rfl n _ (wl d).toArray rfl rfl (Z.out.thereW d) (HCZ.out d) (wl_all d) ?_
           have h161q : Hid (Gd n w (wr.setCells n 0 (wl d))) := G.out.asideL (by omega) 0 (wl d)
           have h162q : Hid (Bo (wr.setCells n 0 (wl d)) (n + 1) (wl d)) := T.out.asideL (by omega) 0 (wl d)
           have h163q : Hid (Bo (wr.setCells n 0 (wl d)) n (wl d)) := Z.out.setW d
           clear G T Z
           generalize (wr.setCells n 0 (wl d)) = u164q at h161q h162q h163q  ⊢))
      exact bodyPost_ret (results_row Try.results6 _ _ n (wl d) _ rfl h163q.out.range HC.out rfl (HCS.out d)) rfl ⟨d, R.out, rfl, h161q.out.2⟩

theorem made_is {kind : Int} (h1 : 1 ≤ kind) (h6 : kind ≤ 6) {v : Value} {m : Nat} {w : World} (D : Ops w v m) : Calls Try.prog 6 #[.int .i64 kind, v] w (fun e w' => ∃ c, isOb kind c ∧ e = .returned (.agg (wl c).toArray) ∧ Below w.heap.size w w') := by
  rcases id D with ⟨_, a, c, rfl, hc⟩ | ⟨b, off, c, hv, h0, hc, hm, _⟩
  · cases a with
    | none => obtain rfl := hc rfl; exact made_nil h1 h6 w
    | some a => exact made_none h1 h6 a c w
  · exact made_some h1 h6 hv h0 hc hm w D
end Go.Proofs.Ytbmgjpdfmgcigac.Tab
