/- The reference's Table, by its contract: of a table. -/
import Derived.Test.YtbmgjpdfmgcigabDoorRf2
namespace Go.Proofs.YtbmgjpdfmgcigabDoor.Tab
set_option maxRecDepth 20000
open Go.RowKit

theorem TAt.laterC {w w' : World} {b B : Nat} {t : Tb} (h : TAt w b t) (hb : Below B w w') (hB : b < B) : TAt w' b t := h.keep (hb.block b hB)
theorem Bo.laterC {w w' : World} {b B : Nat} {cs : List Value} (h : Bo w b cs) (hb : Below B w w') (hB : b < B) : Bo w' b cs := h.keep (hb.block b hB) (Nat.lt_of_lt_of_le h.lt hb.size)
theorem Gd.laterC {n B : Nat} {w a b : World} (h : Gd n w a) (hb : Below B a b) (hB : n ≤ B) : Gd n w b := ⟨h.1, h.2.trans (hb.mono (h.1 ▸ hB))⟩
theorem own_bo {B : Nat} {w : World} {a : Option Addr} {c m : Nat} {xs : List Int} (h : Own B w (.slice a m c) xs) (h0 : 0 < xs.length) : ∃ g, a = some ⟨g, 0, none⟩ ∧ B ≤ g ∧ Bo w g (xs.map (Value.int .i64)) := by
  have h' := h
  unfold Own at h'
  rcases h.2 with ⟨_, h1⟩ | ⟨g, cap, cur, hv, hb, _⟩
  · omega
  · injection hv with h1 h2 h3
    subst h1 h2 h3
    refine ⟨g, rfl, hb, fun j v hv => ?_, fun j => h'.frozenAt _, (World.ownsRow.lt h' g rfl).2⟩
    have hj : j < xs.length := by simpa using (List.getElem?_eq_some_iff.1 hv).1
    rw [h'.cellAt j (by omega), hv]

/-- The first c slots behind slot p. -/
def bh (p c : Nat) : List Int := (List.range c).map fun j => (((p + (j + 1)) % 8 : Nat) : Int)
theorem bh_len (p c : Nat) : (bh p c).length = c := by simp [bh]
theorem bh_succ (p c : Nat) : bh p (c + 1) = bh p c ++ [(((p + (c + 1)) % 8 : Nat) : Int)] := by simp [bh, List.range_succ]
theorem bh_at (p : Nat) {c m : Nat} (h : m < c) : ((bh p c).map (Value.int .i64))[m]? = some (.int .i64 (((p + (m + 1)) % 8 : Nat) : Int)) := by simp [bh, h]

set_option maxHeartbeats 4000000 in
set_option maxRecDepth 20000 in
theorem rT_count (t : Tb) (k x : Int) (w : World) :
    Calls Tryd.prog 25 #[.agg t.all.toArray, .agg #[.int .i64 6, .int .i64 k, .int .i64 x]] w (Told w (t, 1, (len t : Int))) := by
  obtain ⟨na, ea, hd⟩ := rslots_array
  have HD : Hid _ := hd
  clear hd
  have HS : Hid (∀ t : Tb, (Tryd.prog.info? 31).map (·.size) = some t.all.length) := rslots_size
  have HZ : Hid (∀ t : Tb, (Tryd.prog.info? 31).map (·.size) = some t.all.toArray.size) := rslots_size2
  have HT : Hid ((Tryd.prog.info? 29).map (·.size) = some 2) := rslot_size
  have HA : Hid ((Tryd.prog.info? 38).map (·.size) = some 2) := answer_size
  obtain ⟨fs, ha⟩ := answer_struct
  have HDA : Hid _ := ha
  clear ha
  have g0 : Hid (Gd w.heap.size w w) := Gd.refl w
  have h1q : Hid (Gd w.heap.size w (w.alloc (.cells t.all.toArray 31))) := g0.out.new (.cells t.all.toArray 31)
  clear g0
  have h2q : Hid (TAt (w.alloc (.cells t.all.toArray 31)) w.heap.size t) := TAt.bornAt w t _ (by simp)
  have h3q : Hid (Gd w.heap.size w ((w.alloc (.cells t.all.toArray 31)).alloc (.cells #[.int .i64 6, .int .i64 k, .int .i64 x] 26))) := h1q.out.new (.cells #[.int .i64 6, .int .i64 k, .int .i64 x] 26)
  have h4q : Hid (TAt ((w.alloc (.cells t.all.toArray 31)).alloc (.cells #[.int .i64 6, .int .i64 k, .int .i64 x] 26)) w.heap.size t) := h2q.out.new (.cells #[.int .i64 6, .int .i64 k, .int .i64 x] 26)
  clear h1q h2q
  have h5q : Hid (Bo ((w.alloc (.cells t.all.toArray 31)).alloc (.cells #[.int .i64 6, .int .i64 k, .int .i64 x] 26)) (w.heap.size + 1) [.int .i64 6, .int .i64 k, .int .i64 x]) := Bo.born (w.alloc (.cells t.all.toArray 31)) [.int .i64 6, .int .i64 k, .int .i64 x] 26 (by simp)
  have h6q : Hid (Gd w.heap.size w (((w.alloc (.cells t.all.toArray 31)).alloc (.cells #[.int .i64 6, .int .i64 k, .int .i64 x] 26)).alloc (.cells #[.int .i64 0, .int .i64 0, .int .i64 0, .int .i64 0, .int .i64 0, .int .i64 0, .int .i64 0, .int .i64 0, .int .i64 0, .int .i64 0, .int .i64 0, .int .i64 0, .int .i64 0, .int .i64 0, .int .i64 0, .int .i64 0] 31))) := h3q.out.new (.cells #[.int .i64 0, .int .i64 0, .int .i64 0, .int .i64 0, .int .i64 0, .int .i64 0, .int .i64 0, .int .i64 0, .int .i64 0, .int .i64 0, .int .i64 0, .int .i64 0, .int .i64 0, .int .i64 0, .int .i64 0, .int .i64 0] 31)
  have h7q : Hid (TAt (((w.alloc (.cells t.all.toArray 31)).alloc (.cells #[.int .i64 6, .int .i64 k, .int .i64 x] 26)).alloc (.cells #[.int .i64 0, .int .i64 0, .int .i64 0, .int .i64 0, .int .i64 0, .int .i64 0, .int .i64 0, .int .i64 0, .int .i64 0, .int .i64 0, .int .i64 0, .int .i64 0, .int .i64 0, .int .i64 0, .int .i64 0, .int .i64 0] 31)) w.heap.size t) := h4q.out.new (.cells #[.int .i64 0, .int .i64 0, .int .i64 0, .int .i64 0, .int .i64 0, .int .i64 0, .int .i64 0, .int .i64 0, .int .i64 0, .int .i64 0, .int .i64 0, .int .i64 0, .int .i64 0, .int .i64 0, .int .i64 0, .int .i64 0] 31)
  have h8q : Hid (Bo (((w.alloc (.cells t.all.toArray 31)).alloc (.cells #[.int .i64 6, .int .i64 k, .int .i64 x] 26)).alloc (.cells #[.int .i64 0, .int .i64 0, .int .i64 0, .int .i64 0, .int .i64 0, .int .i64 0, .int .i64 0, .int .i64 0, .int .i64 0, .int .i64 0, .int .i64 0, .int .i64 0, .int .i64 0, .int .i64 0, .int .i64 0, .int .i64 0] 31)) (w.heap.size + 1) [.int .i64 6, .int .i64 k, .int .i64 x]) := h5q.out.new (.cells #[.int .i64 0, .int .i64 0, .int .i64 0, .int .i64 0, .int .i64 0, .int .i64 0, .int .i64 0, .int .i64 0, .int .i64 0, .int .i64 0, .int .i64 0, .int .i64 0, .int .i64 0, .int .i64 0, .int .i64 0, .int .i64 0] 31)
  clear h3q h4q h5q
  have h9q : Hid (TAt (((w.alloc (.cells t.all.toArray 31)).alloc (.cells #[.int .i64 6, .int .i64 k, .int .i64 x] 26)).alloc (.cells #[.int .i64 0, .int .i64 0, .int .i64 0, .int .i64 0, .int .i64 0, .int .i64 0, .int .i64 0, .int .i64 0, .int .i64 0, .int .i64 0, .int .i64 0, .int .i64 0, .int .i64 0, .int .i64 0, .int .i64 0, .int .i64 0] 31)) (w.heap.size + 2) Tb.zero) := TAt.bornZero ((w.alloc (.cells t.all.toArray 31)).alloc (.cells #[.int .i64 6, .int .i64 k, .int .i64 x] 26)) 31 (by simp)
  have h10q : Hid (Gd w.heap.size w ((((w.alloc (.cells t.all.toArray 31)).alloc (.cells #[.int .i64 6, .int .i64 k, .int .i64 x] 26)).alloc (.cells #[.int .i64 0, .int .i64 0, .int .i64 0, .int .i64 0, .int .i64 0, .int .i64 0, .int .i64 0, .int .i64 0, .int .i64 0, .int .i64 0, .int .i64 0, .int .i64 0, .int .i64 0, .int .i64 0, .int .i64 0, .int .i64 0] 31)).alloc (.cells #[.int .i64 0, .int .i64 0] 38))) := h6q.out.new (.cells #[.int .i64 0, .int .i64 0] 38)
  have h11q : Hid (TAt ((((w.alloc (.cells t.all.toArray 31)).alloc (.cells #[.int .i64 6, .int .i64 k, .int .i64 x] 26)).alloc (.cells #[.int .i64 0, .int .i64 0, .int .i64 0, .int .i64 0, .int .i64 0, .int .i64 0, .int .i64 0, .int .i64 0, .int .i64 0, .int .i64 0, .int .i64 0, .int .i64 0, .int .i64 0, .int .i64 0, .int .i64 0, .int .i64 0] 31)).alloc (.cells #[.int .i64 0, .int .i64 0] 38)) w.heap.size t) := h7q.out.new (.cells #[.int .i64 0, .int .i64 0] 38)
  have h12q : Hid (Bo ((((w.alloc (.cells t.all.toArray 31)).alloc (.cells #[.int .i64 6, .int .i64 k, .int .i64 x] 26)).alloc (.cells #[.int .i64 0, .int .i64 0, .int .i64 0, .int .i64 0, .int .i64 0, .int .i64 0, .int .i64 0, .int .i64 0, .int .i64 0, .int .i64 0, .int .i64 0, .int .i64 0, .int .i64 0, .int .i64 0, .int .i64 0, .int .i64 0] 31)).alloc (.cells #[.int .i64 0, .int .i64 0] 38)) (w.heap.size + 1) [.int .i64 6, .int .i64 k, .int .i64 x]) := h8q.out.new (.cells #[.int .i64 0, .int .i64 0] 38)
  have h13q : Hid (TAt ((((w.alloc (.cells t.all.toArray 31)).alloc (.cells #[.int .i64 6, .int .i64 k, .int .i64 x] 26)).alloc (.cells #[.int .i64 0, .int .i64 0, .int .i64 0, .int .i64 0, .int .i64 0, .int .i64 0, .int .i64 0, .int .i64 0, .int .i64 0, .int .i64 0, .int .i64 0, .int .i64 0, .int .i64 0, .int .i64 0, .int .i64 0, .int .i64 0] 31)).alloc (.cells #[.int .i64 0, .int .i64 0] 38)) (w.heap.size + 2) Tb.zero) := h9q.out.new (.cells #[.int .i64 0, .int .i64 0] 38)
  clear h6q h7q h8q h9q
  have h14q : Hid (Bo ((((w.alloc (.cells t.all.toArray 31)).alloc (.cells #[.int .i64 6, .int .i64 k, .int .i64 x] 26)).alloc (.cells #[.int .i64 0, .int .i64 0, .int .i64 0, .int .i64 0, .int .i64 0, .int .i64 0, .int .i64 0, .int .i64 0, .int .i64 0, .int .i64 0, .int .i64 0, .int .i64 0, .int .i64 0, .int .i64 0, .int .i64 0, .int .i64 0] 31)).alloc (.cells #[.int .i64 0, .int .i64 0] 38)) (w.heap.size + 3) [.int .i64 0, .int .i64 0]) := Bo.born (((w.alloc (.cells t.all.toArray 31)).alloc (.cells #[.int .i64 6, .int .i64 k, .int .i64 x] 26)).alloc (.cells #[.int .i64 0, .int .i64 0, .int .i64 0, .int .i64 0, .int .i64 0, .int .i64 0, .int .i64 0, .int .i64 0, .int .i64 0, .int .i64 0, .int .i64 0, .int .i64 0, .int .i64 0, .int .i64 0, .int .i64 0, .int .i64 0] 31)) [.int .i64 0, .int .i64 0] 38 (by simp)
  have L := RLen_is t
  have SA := said_is 1 (len t : Nat)
  go_enter Tryd.func25, Tryd.ntmps25
  go_wp2_with fail
  generalize ((((w.alloc (.cells t.all.toArray 31)).alloc (.cells #[.int .i64 6, .int .i64 k, .int .i64 x] 26)).alloc (.cells #[.int .i64 0, .int .i64 0, .int .i64 0, .int .i64 0, .int .i64 0, .int .i64 0, .int .i64 0, .int .i64 0, .int .i64 0, .int .i64 0, .int .i64 0, .int .i64 0, .int .i64 0, .int .i64 0, .int .i64 0, .int .i64 0] 31)).alloc (.cells #[.int .i64 0, .int .i64 0] 38)) = W at h10q h11q h12q h13q h14q ⊢
  generalize w.heap.size = n at h10q h11q h12q h13q h14q ⊢
  have h15q : Hid (Gd n w W.drew) := h10q.out.drew
  have h16q : Hid (TAt W.drew n t) := h11q.out.drew
  have h17q : Hid (Bo W.drew (n + 1) [.int .i64 6, .int .i64 k, .int .i64 x]) := h12q.out.drew
  have h18q : Hid (TAt W.drew (n + 2) Tb.zero) := h13q.out.drew
  have h19q : Hid (Bo W.drew (n + 3) [.int .i64 0, .int .i64 0]) := h14q.out.drew
  clear h10q h11q h12q h13q h14q
  refine wp_region_held_drew (S := fun w' => TAt w' n t) (by kernel_rfl) h16q.out (fun hH => ?_)
  generalize W.drew = u20q at h15q h16q h17q h18q h19q hH ⊢
  refine wpAnyH_take (i := 0) (oi := { dst := some 17, op := .load _ (.tmp 2), type := _, pos := _, after := _, guard := _ }) (v := _) rfl (by kernel_rfl) (by kernel_rfl) (by kernel_rfl) (fun _ _ _ h => h) (yieldsIf_load_mid (by rfl) _ _ rfl n _ rfl t.all _ (fun _ h => (h).range) HD.out rfl (HS.out t)) hH ?_
  simp only [Act.put, List.setIfInBounds_toArray, List.set_cons_zero, List.set_cons_succ]
  refine wpAnyH_take (i := 1) (oi := { dst := some 18, op := .load _ (.tmp 2), type := _, pos := _, after := _, guard := _ }) (v := _) rfl (by kernel_rfl) (by kernel_rfl) (by kernel_rfl) (fun _ _ _ h => h) (yieldsIf_load_mid (by rfl) _ _ rfl n _ rfl t.all _ (fun _ h => (h).range) HD.out rfl (HS.out t)) hH ?_
  simp only [Act.put, List.setIfInBounds_toArray, List.set_cons_zero, List.set_cons_succ]
  refine wpAnyH_ready (rs := [2]) (by kernel_rfl) (by simp) ?_
  refine AllReadyH.cons (o := { dst := some 19, op := _, type := _, pos := _, after := _, guard := _ }) rfl (fun K hK => ?_) AllReadyH.nil
  go_simp
  refine (L _).mono ?_
  rintro e u21q ⟨rfl, hb⟩
  have h22q : Hid (Gd n w u21q) := h15q.out.later hb
  have h23q : Hid (TAt u21q n t) := h16q.out.later hb
  have h24q : Hid (Bo u21q (n + 1) [.int .i64 6, .int .i64 k, .int .i64 x]) := h17q.out.later hb
  have h25q : Hid (TAt u21q (n + 2) Tb.zero) := h18q.out.later hb
  have h26q : Hid (Bo u21q (n + 3) [.int .i64 0, .int .i64 0]) := h19q.out.later hb
  clear h15q h16q h17q h18q h19q
  clear hb
  go_wp2_with fail
  refine hK.out _ _ h23q.out (fun hH => ?_)
  clear hK K
  try simp only [Act.put, List.setIfInBounds_toArray, List.set_cons_zero, List.set_cons_succ]
  refine wpAnyH_ready (rs := [3]) (by kernel_rfl) (by simp) ?_
  refine AllReadyH.cons (o := { dst := some 20, op := _, type := _, pos := _, after := _, guard := _ }) rfl (fun K hK => ?_) AllReadyH.nil
  go_simp
  refine (SA _).mono ?_
  rintro e u27q ⟨rfl, hb⟩
  have h28q : Hid (Gd n w u27q) := h22q.out.later hb
  have h29q : Hid (TAt u27q n t) := h23q.out.later hb
  have h30q : Hid (Bo u27q (n + 1) [.int .i64 6, .int .i64 k, .int .i64 x]) := h24q.out.later hb
  have h31q : Hid (TAt u27q (n + 2) Tb.zero) := h25q.out.later hb
  have h32q : Hid (Bo u27q (n + 3) [.int .i64 0, .int .i64 0]) := h26q.out.later hb
  clear h22q h23q h24q h25q h26q
  clear hb
  go_wp2_with fail
  refine hK.out _ _ h29q.out (fun hH => ?_)
  clear hK K
  try simp only [Act.put, List.setIfInBounds_toArray, List.set_cons_zero, List.set_cons_succ]
  refine wpAnyH_ready (rs := [4]) (by kernel_rfl) (by simp) ?_
  refine AllReadyH.cons (o := { dst := none, op := .store _ (.tmp 4) (.tmp 17), type := _, pos := _, after := _, guard := _ }) rfl (fun K hK => ?_) AllReadyH.nil
  rw [if_pos (by rfl)]
  refine wp_store_mid _ _ _ rfl (n + 2) _ t.all.toArray rfl rfl (h31q.out.thereOf t) (HZ.out t) (t.all_all) ?_
  simp only [Act.put]
  have h33q : Hid (Gd n w (u27q.setCells (n + 2) 0 t.all)) := h28q.out.asideAll (by omega) t
  have h34q : Hid (TAt (u27q.setCells (n + 2) 0 t.all) n t) := h29q.out.asideAll (by omega) t
  have h35q : Hid (Bo (u27q.setCells (n + 2) 0 t.all) (n + 1) [.int .i64 6, .int .i64 k, .int .i64 x]) := h30q.out.asideAll (by omega) t
  have h36q : Hid (TAt (u27q.setCells (n + 2) 0 t.all) (n + 2) t) := h31q.out.setAll t
  have h37q : Hid (Bo (u27q.setCells (n + 2) 0 t.all) (n + 3) [.int .i64 0, .int .i64 0]) := h32q.out.asideAll (by omega) t
  clear h28q h29q h30q h31q h32q
  refine hK.out _ _ h34q.out (fun hH => ?_)
  clear hK K
  generalize (u27q.setCells (n + 2) 0 t.all) = u38q at h33q h34q h35q h36q h37q hH ⊢
  try simp only [Act.put, List.setIfInBounds_toArray, List.set_cons_zero, List.set_cons_succ]
  refine wpAnyH_ready (rs := [5]) (by kernel_rfl) (by simp) ?_
  refine AllReadyH.cons (o := { dst := none, op := .store _ (.tmp 5) (.tmp 20), type := _, pos := _, after := _, guard := _ }) rfl (fun K hK => ?_) AllReadyH.nil
  rw [if_pos (by rfl)]
  refine wp_store_mid _ _ _ rfl (n + 3) _ #[.int .i64 (1), .int .i64 ((len t : Nat))] rfl rfl h37q.out.there2 HA.out (two_one _ _) ?_
  simp only [Act.put]
  have h39q : Hid (Gd n w (u38q.setCells (n + 3) 0 [.int .i64 (1), .int .i64 ((len t : Nat))])) := h33q.out.asideL (by omega) 0 [.int .i64 (1), .int .i64 ((len t : Nat))]
  have h40q : Hid (TAt (u38q.setCells (n + 3) 0 [.int .i64 (1), .int .i64 ((len t : Nat))]) n t) := h34q.out.asideL (by omega) 0 [.int .i64 (1), .int .i64 ((len t : Nat))]
  have h41q : Hid (Bo (u38q.setCells (n + 3) 0 [.int .i64 (1), .int .i64 ((len t : Nat))]) (n + 1) [.int .i64 6, .int .i64 k, .int .i64 x]) := h35q.out.asideL (by omega) 0 [.int .i64 (1), .int .i64 ((len t : Nat))]
  have h42q : Hid (TAt (u38q.setCells (n + 3) 0 [.int .i64 (1), .int .i64 ((len t : Nat))]) (n + 2) t) := h36q.out.asideL (by omega) 0 [.int .i64 (1), .int .i64 ((len t : Nat))]
  have h43q : Hid (Bo (u38q.setCells (n + 3) 0 [.int .i64 (1), .int .i64 ((len t : Nat))]) (n + 3) [.int .i64 (1), .int .i64 ((len t : Nat))]) := h37q.out.set2 (.int .i64 (1)) (.int .i64 ((len t : Nat)))
  clear h33q h34q h35q h36q h37q
  refine hK.out _ _ h40q.out (fun hH => ?_)
  clear hK K
  generalize (u38q.setCells (n + 3) 0 [.int .i64 (1), .int .i64 ((len t : Nat))]) = u44q at h39q h40q h41q h42q h43q hH ⊢
  try simp only [Act.put, List.setIfInBounds_toArray, List.set_cons_zero, List.set_cons_succ]
  refine wpAnyH_done (by kernel_rfl) ?_ _
  go_wp2
  exact bodyPost_ret (results_row2 Tryd.results25 _ _ (n + 2) (n + 3) t.all [.int .i64 (1), .int .i64 ((len t : Nat))] _ _ rfl rfl h42q.out.range HD.out rfl (HS.out t) h43q.out.range HDA.out rfl HA.out) rfl ⟨rfl, h39q.out.2⟩

set_option maxHeartbeats 4000000 in
set_option maxRecDepth 20000 in
theorem rT_wrong1 (t : Tb) (o k x : Int) (h6 : o ≠ 6) (h : o < 1 ∨ 6 < o) (w : World) :
    Calls Tryd.prog 25 #[.agg t.all.toArray, .agg #[.int .i64 o, .int .i64 k, .int .i64 x]] w (Told w (t, 5, 0)) := by
  obtain ⟨na, ea, hd⟩ := rslots_array
  have HD : Hid _ := hd
  clear hd
  have HS : Hid (∀ t : Tb, (Tryd.prog.info? 31).map (·.size) = some t.all.length) := rslots_size
  have HZ : Hid (∀ t : Tb, (Tryd.prog.info? 31).map (·.size) = some t.all.toArray.size) := rslots_size2
  have HT : Hid ((Tryd.prog.info? 29).map (·.size) = some 2) := rslot_size
  have HA : Hid ((Tryd.prog.info? 38).map (·.size) = some 2) := answer_size
  obtain ⟨fs, ha⟩ := answer_struct
  have HDA : Hid _ := ha
  clear ha
  have g0 : Hid (Gd w.heap.size w w) := Gd.refl w
  have h45q : Hid (Gd w.heap.size w (w.alloc (.cells t.all.toArray 31))) := g0.out.new (.cells t.all.toArray 31)
  clear g0
  have h46q : Hid (TAt (w.alloc (.cells t.all.toArray 31)) w.heap.size t) := TAt.bornAt w t _ (by simp)
  have h47q : Hid (Gd w.heap.size w ((w.alloc (.cells t.all.toArray 31)).alloc (.cells #[.int .i64 o, .int .i64 k, .int .i64 x] 26))) := h45q.out.new (.cells #[.int .i64 o, .int .i64 k, .int .i64 x] 26)
  have h48q : Hid (TAt ((w.alloc (.cells t.all.toArray 31)).alloc (.cells #[.int .i64 o, .int .i64 k, .int .i64 x] 26)) w.heap.size t) := h46q.out.new (.cells #[.int .i64 o, .int .i64 k, .int .i64 x] 26)
  clear h45q h46q
  have h49q : Hid (Bo ((w.alloc (.cells t.all.toArray 31)).alloc (.cells #[.int .i64 o, .int .i64 k, .int .i64 x] 26)) (w.heap.size + 1) [.int .i64 o, .int .i64 k, .int .i64 x]) := Bo.born (w.alloc (.cells t.all.toArray 31)) [.int .i64 o, .int .i64 k, .int .i64 x] 26 (by simp)
  have h50q : Hid (Gd w.heap.size w (((w.alloc (.cells t.all.toArray 31)).alloc (.cells #[.int .i64 o, .int .i64 k, .int .i64 x] 26)).alloc (.cells #[.int .i64 0, .int .i64 0, .int .i64 0, .int .i64 0, .int .i64 0, .int .i64 0, .int .i64 0, .int .i64 0, .int .i64 0, .int .i64 0, .int .i64 0, .int .i64 0, .int .i64 0, .int .i64 0, .int .i64 0, .int .i64 0] 31))) := h47q.out.new (.cells #[.int .i64 0, .int .i64 0, .int .i64 0, .int .i64 0, .int .i64 0, .int .i64 0, .int .i64 0, .int .i64 0, .int .i64 0, .int .i64 0, .int .i64 0, .int .i64 0, .int .i64 0, .int .i64 0, .int .i64 0, .int .i64 0] 31)
  have h51q : Hid (TAt (((w.alloc (.cells t.all.toArray 31)).alloc (.cells #[.int .i64 o, .int .i64 k, .int .i64 x] 26)).alloc (.cells #[.int .i64 0, .int .i64 0, .int .i64 0, .int .i64 0, .int .i64 0, .int .i64 0, .int .i64 0, .int .i64 0, .int .i64 0, .int .i64 0, .int .i64 0, .int .i64 0, .int .i64 0, .int .i64 0, .int .i64 0, .int .i64 0] 31)) w.heap.size t) := h48q.out.new (.cells #[.int .i64 0, .int .i64 0, .int .i64 0, .int .i64 0, .int .i64 0, .int .i64 0, .int .i64 0, .int .i64 0, .int .i64 0, .int .i64 0, .int .i64 0, .int .i64 0, .int .i64 0, .int .i64 0, .int .i64 0, .int .i64 0] 31)
  have h52q : Hid (Bo (((w.alloc (.cells t.all.toArray 31)).alloc (.cells #[.int .i64 o, .int .i64 k, .int .i64 x] 26)).alloc (.cells #[.int .i64 0, .int .i64 0, .int .i64 0, .int .i64 0, .int .i64 0, .int .i64 0, .int .i64 0, .int .i64 0, .int .i64 0, .int .i64 0, .int .i64 0, .int .i64 0, .int .i64 0, .int .i64 0, .int .i64 0, .int .i64 0] 31)) (w.heap.size + 1) [.int .i64 o, .int .i64 k, .int .i64 x]) := h49q.out.new (.cells #[.int .i64 0, .int .i64 0, .int .i64 0, .int .i64 0, .int .i64 0, .int .i64 0, .int .i64 0, .int .i64 0, .int .i64 0, .int .i64 0, .int .i64 0, .int .i64 0, .int .i64 0, .int .i64 0, .int .i64 0, .int .i64 0] 31)
  clear h47q h48q h49q
  have h53q : Hid (TAt (((w.alloc (.cells t.all.toArray 31)).alloc (.cells #[.int .i64 o, .int .i64 k, .int .i64 x] 26)).alloc (.cells #[.int .i64 0, .int .i64 0, .int .i64 0, .int .i64 0, .int .i64 0, .int .i64 0, .int .i64 0, .int .i64 0, .int .i64 0, .int .i64 0, .int .i64 0, .int .i64 0, .int .i64 0, .int .i64 0, .int .i64 0, .int .i64 0] 31)) (w.heap.size + 2) Tb.zero) := TAt.bornZero ((w.alloc (.cells t.all.toArray 31)).alloc (.cells #[.int .i64 o, .int .i64 k, .int .i64 x] 26)) 31 (by simp)
  have h54q : Hid (Gd w.heap.size w ((((w.alloc (.cells t.all.toArray 31)).alloc (.cells #[.int .i64 o, .int .i64 k, .int .i64 x] 26)).alloc (.cells #[.int .i64 0, .int .i64 0, .int .i64 0, .int .i64 0, .int .i64 0, .int .i64 0, .int .i64 0, .int .i64 0, .int .i64 0, .int .i64 0, .int .i64 0, .int .i64 0, .int .i64 0, .int .i64 0, .int .i64 0, .int .i64 0] 31)).alloc (.cells #[.int .i64 0, .int .i64 0] 38))) := h50q.out.new (.cells #[.int .i64 0, .int .i64 0] 38)
  have h55q : Hid (TAt ((((w.alloc (.cells t.all.toArray 31)).alloc (.cells #[.int .i64 o, .int .i64 k, .int .i64 x] 26)).alloc (.cells #[.int .i64 0, .int .i64 0, .int .i64 0, .int .i64 0, .int .i64 0, .int .i64 0, .int .i64 0, .int .i64 0, .int .i64 0, .int .i64 0, .int .i64 0, .int .i64 0, .int .i64 0, .int .i64 0, .int .i64 0, .int .i64 0] 31)).alloc (.cells #[.int .i64 0, .int .i64 0] 38)) w.heap.size t) := h51q.out.new (.cells #[.int .i64 0, .int .i64 0] 38)
  have h56q : Hid (Bo ((((w.alloc (.cells t.all.toArray 31)).alloc (.cells #[.int .i64 o, .int .i64 k, .int .i64 x] 26)).alloc (.cells #[.int .i64 0, .int .i64 0, .int .i64 0, .int .i64 0, .int .i64 0, .int .i64 0, .int .i64 0, .int .i64 0, .int .i64 0, .int .i64 0, .int .i64 0, .int .i64 0, .int .i64 0, .int .i64 0, .int .i64 0, .int .i64 0] 31)).alloc (.cells #[.int .i64 0, .int .i64 0] 38)) (w.heap.size + 1) [.int .i64 o, .int .i64 k, .int .i64 x]) := h52q.out.new (.cells #[.int .i64 0, .int .i64 0] 38)
  have h57q : Hid (TAt ((((w.alloc (.cells t.all.toArray 31)).alloc (.cells #[.int .i64 o, .int .i64 k, .int .i64 x] 26)).alloc (.cells #[.int .i64 0, .int .i64 0, .int .i64 0, .int .i64 0, .int .i64 0, .int .i64 0, .int .i64 0, .int .i64 0, .int .i64 0, .int .i64 0, .int .i64 0, .int .i64 0, .int .i64 0, .int .i64 0, .int .i64 0, .int .i64 0] 31)).alloc (.cells #[.int .i64 0, .int .i64 0] 38)) (w.heap.size + 2) Tb.zero) := h53q.out.new (.cells #[.int .i64 0, .int .i64 0] 38)
  clear h50q h51q h52q h53q
  have h58q : Hid (Bo ((((w.alloc (.cells t.all.toArray 31)).alloc (.cells #[.int .i64 o, .int .i64 k, .int .i64 x] 26)).alloc (.cells #[.int .i64 0, .int .i64 0, .int .i64 0, .int .i64 0, .int .i64 0, .int .i64 0, .int .i64 0, .int .i64 0, .int .i64 0, .int .i64 0, .int .i64 0, .int .i64 0, .int .i64 0, .int .i64 0, .int .i64 0, .int .i64 0] 31)).alloc (.cells #[.int .i64 0, .int .i64 0] 38)) (w.heap.size + 3) [.int .i64 0, .int .i64 0]) := Bo.born (((w.alloc (.cells t.all.toArray 31)).alloc (.cells #[.int .i64 o, .int .i64 k, .int .i64 x] 26)).alloc (.cells #[.int .i64 0, .int .i64 0, .int .i64 0, .int .i64 0, .int .i64 0, .int .i64 0, .int .i64 0, .int .i64 0, .int .i64 0, .int .i64 0, .int .i64 0, .int .i64 0, .int .i64 0, .int .i64 0, .int .i64 0, .int .i64 0] 31)) [.int .i64 0, .int .i64 0] 38 (by simp)
  have m6 : (o == 6) = false := by simp [h6]
  have W1 := rwithin_no o 1 6
  have H1 : Hid _ := h
  clear h6 h
  go_enter Tryd.func25, Tryd.ntmps25
  go_wp2_with fail
  generalize ((((w.alloc (.cells t.all.toArray 31)).alloc (.cells #[.int .i64 o, .int .i64 k, .int .i64 x] 26)).alloc (.cells #[.int .i64 0, .int .i64 0, .int .i64 0, .int .i64 0, .int .i64 0, .int .i64 0, .int .i64 0, .int .i64 0, .int .i64 0, .int .i64 0, .int .i64 0, .int .i64 0, .int .i64 0, .int .i64 0, .int .i64 0, .int .i64 0] 31)).alloc (.cells #[.int .i64 0, .int .i64 0] 38)) = W at h54q h55q h56q h57q h58q ⊢
  generalize w.heap.size = n at h54q h55q h56q h57q h58q ⊢
  have d59q := h56q.out.at 0 rfl
  have d60q := h56q.out.at 1 rfl
  refine (W1 _ H1.out).mono ?_
  rintro e u61q ⟨rfl, hw⟩
  rw [hw]; clear hw u61q
  go_wp2_with fail
  have SA := said_is (5) (0)
  have h62q : Hid (Gd n w W.drew) := h54q.out.drew
  have h63q : Hid (TAt W.drew n t) := h55q.out.drew
  have h64q : Hid (Bo W.drew (n + 1) [.int .i64 o, .int .i64 k, .int .i64 x]) := h56q.out.drew
  have h65q : Hid (TAt W.drew (n + 2) Tb.zero) := h57q.out.drew
  have h66q : Hid (Bo W.drew (n + 3) [.int .i64 0, .int .i64 0]) := h58q.out.drew
  clear h54q h55q h56q h57q h58q
  refine wp_region_held_drew (S := fun w' => TAt w' n t) (by kernel_rfl) h63q.out (fun hH => ?_)
  generalize W.drew = u67q at h62q h63q h64q h65q h66q hH ⊢
  refine wpAnyH_take (i := 0) (oi := { dst := some 41, op := .load _ (.tmp 2), type := _, pos := _, after := _, guard := _ }) (v := _) rfl (by kernel_rfl) (by kernel_rfl) (by kernel_rfl) (fun _ _ _ h => h) (yieldsIf_load_mid (by rfl) _ _ rfl n _ rfl t.all _ (fun _ h => (h).range) HD.out rfl (HS.out t)) hH ?_
  simp only [Act.put, List.setIfInBounds_toArray, List.set_cons_zero, List.set_cons_succ]
  refine wpAnyH_ready (rs := [1]) (by kernel_rfl) (by simp) ?_
  refine AllReadyH.cons (o := { dst := some 42, op := _, type := _, pos := _, after := _, guard := _ }) rfl (fun K hK => ?_) AllReadyH.nil
  go_simp
  refine (SA _).mono ?_
  rintro e u68q ⟨rfl, hb⟩
  have h69q : Hid (Gd n w u68q) := h62q.out.later hb
  have h70q : Hid (TAt u68q n t) := h63q.out.later hb
  have h71q : Hid (Bo u68q (n + 1) [.int .i64 o, .int .i64 k, .int .i64 x]) := h64q.out.later hb
  have h72q : Hid (TAt u68q (n + 2) Tb.zero) := h65q.out.later hb
  have h73q : Hid (Bo u68q (n + 3) [.int .i64 0, .int .i64 0]) := h66q.out.later hb
  clear h62q h63q h64q h65q h66q
  clear hb
  go_wp2_with fail
  refine hK.out _ _ h70q.out (fun hH => ?_)
  clear hK K
  try simp only [Act.put, List.setIfInBounds_toArray, List.set_cons_zero, List.set_cons_succ]
  refine wpAnyH_ready (rs := [2]) (by kernel_rfl) (by simp) ?_
  refine AllReadyH.cons (o := { dst := none, op := .store _ (.tmp 4) (.tmp 41), type := _, pos := _, after := _, guard := _ }) rfl (fun K hK => ?_) AllReadyH.nil
  rw [if_pos (by rfl)]
  refine wp_store_mid _ _ _ rfl (n + 2) _ t.all.toArray rfl rfl (h72q.out.thereOf t) (HZ.out t) (t.all_all) ?_
  simp only [Act.put]
  have h74q : Hid (Gd n w (u68q.setCells (n + 2) 0 t.all)) := h69q.out.asideAll (by omega) t
  have h75q : Hid (TAt (u68q.setCells (n + 2) 0 t.all) n t) := h70q.out.asideAll (by omega) t
  have h76q : Hid (Bo (u68q.setCells (n + 2) 0 t.all) (n + 1) [.int .i64 o, .int .i64 k, .int .i64 x]) := h71q.out.asideAll (by omega) t
  have h77q : Hid (TAt (u68q.setCells (n + 2) 0 t.all) (n + 2) t) := h72q.out.setAll t
  have h78q : Hid (Bo (u68q.setCells (n + 2) 0 t.all) (n + 3) [.int .i64 0, .int .i64 0]) := h73q.out.asideAll (by omega) t
  clear h69q h70q h71q h72q h73q
  refine hK.out _ _ h75q.out (fun hH => ?_)
  clear hK K
  generalize (u68q.setCells (n + 2) 0 t.all) = u79q at h74q h75q h76q h77q h78q hH ⊢
  try simp only [Act.put, List.setIfInBounds_toArray, List.set_cons_zero, List.set_cons_succ]
  refine wpAnyH_ready (rs := [3]) (by kernel_rfl) (by simp) ?_
  refine AllReadyH.cons (o := { dst := none, op := .store _ (.tmp 5) (.tmp 42), type := _, pos := _, after := _, guard := _ }) rfl (fun K hK => ?_) AllReadyH.nil
  rw [if_pos (by rfl)]
  refine wp_store_mid _ _ _ rfl (n + 3) _ #[.int .i64 (5), .int .i64 (0)] rfl rfl h78q.out.there2 HA.out (two_one _ _) ?_
  simp only [Act.put]
  have h80q : Hid (Gd n w (u79q.setCells (n + 3) 0 [.int .i64 (5), .int .i64 (0)])) := h74q.out.asideL (by omega) 0 [.int .i64 (5), .int .i64 (0)]
  have h81q : Hid (TAt (u79q.setCells (n + 3) 0 [.int .i64 (5), .int .i64 (0)]) n t) := h75q.out.asideL (by omega) 0 [.int .i64 (5), .int .i64 (0)]
  have h82q : Hid (Bo (u79q.setCells (n + 3) 0 [.int .i64 (5), .int .i64 (0)]) (n + 1) [.int .i64 o, .int .i64 k, .int .i64 x]) := h76q.out.asideL (by omega) 0 [.int .i64 (5), .int .i64 (0)]
  have h83q : Hid (TAt (u79q.setCells (n + 3) 0 [.int .i64 (5), .int .i64 (0)]) (n + 2) t) := h77q.out.asideL (by omega) 0 [.int .i64 (5), .int .i64 (0)]
  have h84q : Hid (Bo (u79q.setCells (n + 3) 0 [.int .i64 (5), .int .i64 (0)]) (n + 3) [.int .i64 (5), .int .i64 (0)]) := h78q.out.set2 (.int .i64 (5)) (.int .i64 (0))
  clear h74q h75q h76q h77q h78q
  refine hK.out _ _ h81q.out (fun hH => ?_)
  clear hK K
  generalize (u79q.setCells (n + 3) 0 [.int .i64 (5), .int .i64 (0)]) = u85q at h80q h81q h82q h83q h84q hH ⊢
  try simp only [Act.put, List.setIfInBounds_toArray, List.set_cons_zero, List.set_cons_succ]
  refine wpAnyH_done (by kernel_rfl) ?_ _
  go_wp2
  exact bodyPost_ret (results_row2 Tryd.results25 _ _ (n + 2) (n + 3) t.all [.int .i64 (5), .int .i64 (0)] _ _ rfl rfl h83q.out.range HD.out rfl (HS.out t) h84q.out.range HDA.out rfl HA.out) rfl ⟨rfl, h80q.out.2⟩

set_option maxHeartbeats 4000000 in
set_option maxRecDepth 20000 in
theorem rT_wrong3 (t : Tb) (k x : Int) (w : World) :
    Calls Tryd.prog 25 #[.agg t.all.toArray, .agg #[.int .i64 3, .int .i64 k, .int .i64 x]] w (Told w (t, 5, 0)) := by
  obtain ⟨na, ea, hd⟩ := rslots_array
  have HD : Hid _ := hd
  clear hd
  have HS : Hid (∀ t : Tb, (Tryd.prog.info? 31).map (·.size) = some t.all.length) := rslots_size
  have HZ : Hid (∀ t : Tb, (Tryd.prog.info? 31).map (·.size) = some t.all.toArray.size) := rslots_size2
  have HT : Hid ((Tryd.prog.info? 29).map (·.size) = some 2) := rslot_size
  have HA : Hid ((Tryd.prog.info? 38).map (·.size) = some 2) := answer_size
  obtain ⟨fs, ha⟩ := answer_struct
  have HDA : Hid _ := ha
  clear ha
  have g0 : Hid (Gd w.heap.size w w) := Gd.refl w
  have h86q : Hid (Gd w.heap.size w (w.alloc (.cells t.all.toArray 31))) := g0.out.new (.cells t.all.toArray 31)
  clear g0
  have h87q : Hid (TAt (w.alloc (.cells t.all.toArray 31)) w.heap.size t) := TAt.bornAt w t _ (by simp)
  have h88q : Hid (Gd w.heap.size w ((w.alloc (.cells t.all.toArray 31)).alloc (.cells #[.int .i64 3, .int .i64 k, .int .i64 x] 26))) := h86q.out.new (.cells #[.int .i64 3, .int .i64 k, .int .i64 x] 26)
  have h89q : Hid (TAt ((w.alloc (.cells t.all.toArray 31)).alloc (.cells #[.int .i64 3, .int .i64 k, .int .i64 x] 26)) w.heap.size t) := h87q.out.new (.cells #[.int .i64 3, .int .i64 k, .int .i64 x] 26)
  clear h86q h87q
  have h90q : Hid (Bo ((w.alloc (.cells t.all.toArray 31)).alloc (.cells #[.int .i64 3, .int .i64 k, .int .i64 x] 26)) (w.heap.size + 1) [.int .i64 3, .int .i64 k, .int .i64 x]) := Bo.born (w.alloc (.cells t.all.toArray 31)) [.int .i64 3, .int .i64 k, .int .i64 x] 26 (by simp)
  have h91q : Hid (Gd w.heap.size w (((w.alloc (.cells t.all.toArray 31)).alloc (.cells #[.int .i64 3, .int .i64 k, .int .i64 x] 26)).alloc (.cells #[.int .i64 0, .int .i64 0, .int .i64 0, .int .i64 0, .int .i64 0, .int .i64 0, .int .i64 0, .int .i64 0, .int .i64 0, .int .i64 0, .int .i64 0, .int .i64 0, .int .i64 0, .int .i64 0, .int .i64 0, .int .i64 0] 31))) := h88q.out.new (.cells #[.int .i64 0, .int .i64 0, .int .i64 0, .int .i64 0, .int .i64 0, .int .i64 0, .int .i64 0, .int .i64 0, .int .i64 0, .int .i64 0, .int .i64 0, .int .i64 0, .int .i64 0, .int .i64 0, .int .i64 0, .int .i64 0] 31)
  have h92q : Hid (TAt (((w.alloc (.cells t.all.toArray 31)).alloc (.cells #[.int .i64 3, .int .i64 k, .int .i64 x] 26)).alloc (.cells #[.int .i64 0, .int .i64 0, .int .i64 0, .int .i64 0, .int .i64 0, .int .i64 0, .int .i64 0, .int .i64 0, .int .i64 0, .int .i64 0, .int .i64 0, .int .i64 0, .int .i64 0, .int .i64 0, .int .i64 0, .int .i64 0] 31)) w.heap.size t) := h89q.out.new (.cells #[.int .i64 0, .int .i64 0, .int .i64 0, .int .i64 0, .int .i64 0, .int .i64 0, .int .i64 0, .int .i64 0, .int .i64 0, .int .i64 0, .int .i64 0, .int .i64 0, .int .i64 0, .int .i64 0, .int .i64 0, .int .i64 0] 31)
  have h93q : Hid (Bo (((w.alloc (.cells t.all.toArray 31)).alloc (.cells #[.int .i64 3, .int .i64 k, .int .i64 x] 26)).alloc (.cells #[.int .i64 0, .int .i64 0, .int .i64 0, .int .i64 0, .int .i64 0, .int .i64 0, .int .i64 0, .int .i64 0, .int .i64 0, .int .i64 0, .int .i64 0, .int .i64 0, .int .i64 0, .int .i64 0, .int .i64 0, .int .i64 0] 31)) (w.heap.size + 1) [.int .i64 3, .int .i64 k, .int .i64 x]) := h90q.out.new (.cells #[.int .i64 0, .int .i64 0, .int .i64 0, .int .i64 0, .int .i64 0, .int .i64 0, .int .i64 0, .int .i64 0, .int .i64 0, .int .i64 0, .int .i64 0, .int .i64 0, .int .i64 0, .int .i64 0, .int .i64 0, .int .i64 0] 31)
  clear h88q h89q h90q
  have h94q : Hid (TAt (((w.alloc (.cells t.all.toArray 31)).alloc (.cells #[.int .i64 3, .int .i64 k, .int .i64 x] 26)).alloc (.cells #[.int .i64 0, .int .i64 0, .int .i64 0, .int .i64 0, .int .i64 0, .int .i64 0, .int .i64 0, .int .i64 0, .int .i64 0, .int .i64 0, .int .i64 0, .int .i64 0, .int .i64 0, .int .i64 0, .int .i64 0, .int .i64 0] 31)) (w.heap.size + 2) Tb.zero) := TAt.bornZero ((w.alloc (.cells t.all.toArray 31)).alloc (.cells #[.int .i64 3, .int .i64 k, .int .i64 x] 26)) 31 (by simp)
  have h95q : Hid (Gd w.heap.size w ((((w.alloc (.cells t.all.toArray 31)).alloc (.cells #[.int .i64 3, .int .i64 k, .int .i64 x] 26)).alloc (.cells #[.int .i64 0, .int .i64 0, .int .i64 0, .int .i64 0, .int .i64 0, .int .i64 0, .int .i64 0, .int .i64 0, .int .i64 0, .int .i64 0, .int .i64 0, .int .i64 0, .int .i64 0, .int .i64 0, .int .i64 0, .int .i64 0] 31)).alloc (.cells #[.int .i64 0, .int .i64 0] 38))) := h91q.out.new (.cells #[.int .i64 0, .int .i64 0] 38)
  have h96q : Hid (TAt ((((w.alloc (.cells t.all.toArray 31)).alloc (.cells #[.int .i64 3, .int .i64 k, .int .i64 x] 26)).alloc (.cells #[.int .i64 0, .int .i64 0, .int .i64 0, .int .i64 0, .int .i64 0, .int .i64 0, .int .i64 0, .int .i64 0, .int .i64 0, .int .i64 0, .int .i64 0, .int .i64 0, .int .i64 0, .int .i64 0, .int .i64 0, .int .i64 0] 31)).alloc (.cells #[.int .i64 0, .int .i64 0] 38)) w.heap.size t) := h92q.out.new (.cells #[.int .i64 0, .int .i64 0] 38)
  have h97q : Hid (Bo ((((w.alloc (.cells t.all.toArray 31)).alloc (.cells #[.int .i64 3, .int .i64 k, .int .i64 x] 26)).alloc (.cells #[.int .i64 0, .int .i64 0, .int .i64 0, .int .i64 0, .int .i64 0, .int .i64 0, .int .i64 0, .int .i64 0, .int .i64 0, .int .i64 0, .int .i64 0, .int .i64 0, .int .i64 0, .int .i64 0, .int .i64 0, .int .i64 0] 31)).alloc (.cells #[.int .i64 0, .int .i64 0] 38)) (w.heap.size + 1) [.int .i64 3, .int .i64 k, .int .i64 x]) := h93q.out.new (.cells #[.int .i64 0, .int .i64 0] 38)
  have h98q : Hid (TAt ((((w.alloc (.cells t.all.toArray 31)).alloc (.cells #[.int .i64 3, .int .i64 k, .int .i64 x] 26)).alloc (.cells #[.int .i64 0, .int .i64 0, .int .i64 0, .int .i64 0, .int .i64 0, .int .i64 0, .int .i64 0, .int .i64 0, .int .i64 0, .int .i64 0, .int .i64 0, .int .i64 0, .int .i64 0, .int .i64 0, .int .i64 0, .int .i64 0] 31)).alloc (.cells #[.int .i64 0, .int .i64 0] 38)) (w.heap.size + 2) Tb.zero) := h94q.out.new (.cells #[.int .i64 0, .int .i64 0] 38)
  clear h91q h92q h93q h94q
  have h99q : Hid (Bo ((((w.alloc (.cells t.all.toArray 31)).alloc (.cells #[.int .i64 3, .int .i64 k, .int .i64 x] 26)).alloc (.cells #[.int .i64 0, .int .i64 0, .int .i64 0, .int .i64 0, .int .i64 0, .int .i64 0, .int .i64 0, .int .i64 0, .int .i64 0, .int .i64 0, .int .i64 0, .int .i64 0, .int .i64 0, .int .i64 0, .int .i64 0, .int .i64 0] 31)).alloc (.cells #[.int .i64 0, .int .i64 0] 38)) (w.heap.size + 3) [.int .i64 0, .int .i64 0]) := Bo.born (((w.alloc (.cells t.all.toArray 31)).alloc (.cells #[.int .i64 3, .int .i64 k, .int .i64 x] 26)).alloc (.cells #[.int .i64 0, .int .i64 0, .int .i64 0, .int .i64 0, .int .i64 0, .int .i64 0, .int .i64 0, .int .i64 0, .int .i64 0, .int .i64 0, .int .i64 0, .int .i64 0, .int .i64 0, .int .i64 0, .int .i64 0, .int .i64 0] 31)) [.int .i64 0, .int .i64 0] 38 (by simp)
  have W1 := rwithin_yes 3 1 6
  go_enter Tryd.func25, Tryd.ntmps25
  go_wp2_with fail
  generalize ((((w.alloc (.cells t.all.toArray 31)).alloc (.cells #[.int .i64 3, .int .i64 k, .int .i64 x] 26)).alloc (.cells #[.int .i64 0, .int .i64 0, .int .i64 0, .int .i64 0, .int .i64 0, .int .i64 0, .int .i64 0, .int .i64 0, .int .i64 0, .int .i64 0, .int .i64 0, .int .i64 0, .int .i64 0, .int .i64 0, .int .i64 0, .int .i64 0] 31)).alloc (.cells #[.int .i64 0, .int .i64 0] 38)) = W at h95q h96q h97q h98q h99q ⊢
  generalize w.heap.size = n at h95q h96q h97q h98q h99q ⊢
  have d100q := h97q.out.at 0 rfl
  have d101q := h97q.out.at 1 rfl
  refine (W1 _ (by decide) (by decide)).mono ?_
  rintro e u102q ⟨rfl, hw⟩
  rw [hw]; clear hw u102q
  go_wp2_with fail
  have SA := said_is (5) (0)
  have h103q : Hid (Gd n w W.drew) := h95q.out.drew
  have h104q : Hid (TAt W.drew n t) := h96q.out.drew
  have h105q : Hid (Bo W.drew (n + 1) [.int .i64 3, .int .i64 k, .int .i64 x]) := h97q.out.drew
  have h106q : Hid (TAt W.drew (n + 2) Tb.zero) := h98q.out.drew
  have h107q : Hid (Bo W.drew (n + 3) [.int .i64 0, .int .i64 0]) := h99q.out.drew
  clear h95q h96q h97q h98q h99q
  refine wp_region_held_drew (S := fun w' => TAt w' n t) (by kernel_rfl) h104q.out (fun hH => ?_)
  generalize W.drew = u108q at h103q h104q h105q h106q h107q hH ⊢
  refine wpAnyH_take (i := 0) (oi := { dst := some 41, op := .load _ (.tmp 2), type := _, pos := _, after := _, guard := _ }) (v := _) rfl (by kernel_rfl) (by kernel_rfl) (by kernel_rfl) (fun _ _ _ h => h) (yieldsIf_load_mid (by rfl) _ _ rfl n _ rfl t.all _ (fun _ h => (h).range) HD.out rfl (HS.out t)) hH ?_
  simp only [Act.put, List.setIfInBounds_toArray, List.set_cons_zero, List.set_cons_succ]
  refine wpAnyH_ready (rs := [1]) (by kernel_rfl) (by simp) ?_
  refine AllReadyH.cons (o := { dst := some 42, op := _, type := _, pos := _, after := _, guard := _ }) rfl (fun K hK => ?_) AllReadyH.nil
  go_simp
  refine (SA _).mono ?_
  rintro e u109q ⟨rfl, hb⟩
  have h110q : Hid (Gd n w u109q) := h103q.out.later hb
  have h111q : Hid (TAt u109q n t) := h104q.out.later hb
  have h112q : Hid (Bo u109q (n + 1) [.int .i64 3, .int .i64 k, .int .i64 x]) := h105q.out.later hb
  have h113q : Hid (TAt u109q (n + 2) Tb.zero) := h106q.out.later hb
  have h114q : Hid (Bo u109q (n + 3) [.int .i64 0, .int .i64 0]) := h107q.out.later hb
  clear h103q h104q h105q h106q h107q
  clear hb
  go_wp2_with fail
  refine hK.out _ _ h111q.out (fun hH => ?_)
  clear hK K
  try simp only [Act.put, List.setIfInBounds_toArray, List.set_cons_zero, List.set_cons_succ]
  refine wpAnyH_ready (rs := [2]) (by kernel_rfl) (by simp) ?_
  refine AllReadyH.cons (o := { dst := none, op := .store _ (.tmp 4) (.tmp 41), type := _, pos := _, after := _, guard := _ }) rfl (fun K hK => ?_) AllReadyH.nil
  rw [if_pos (by rfl)]
  refine wp_store_mid _ _ _ rfl (n + 2) _ t.all.toArray rfl rfl (h113q.out.thereOf t) (HZ.out t) (t.all_all) ?_
  simp only [Act.put]
  have h115q : Hid (Gd n w (u109q.setCells (n + 2) 0 t.all)) := h110q.out.asideAll (by omega) t
  have h116q : Hid (TAt (u109q.setCells (n + 2) 0 t.all) n t) := h111q.out.asideAll (by omega) t
  have h117q : Hid (Bo (u109q.setCells (n + 2) 0 t.all) (n + 1) [.int .i64 3, .int .i64 k, .int .i64 x]) := h112q.out.asideAll (by omega) t
  have h118q : Hid (TAt (u109q.setCells (n + 2) 0 t.all) (n + 2) t) := h113q.out.setAll t
  have h119q : Hid (Bo (u109q.setCells (n + 2) 0 t.all) (n + 3) [.int .i64 0, .int .i64 0]) := h114q.out.asideAll (by omega) t
  clear h110q h111q h112q h113q h114q
  refine hK.out _ _ h116q.out (fun hH => ?_)
  clear hK K
  generalize (u109q.setCells (n + 2) 0 t.all) = u120q at h115q h116q h117q h118q h119q hH ⊢
  try simp only [Act.put, List.setIfInBounds_toArray, List.set_cons_zero, List.set_cons_succ]
  refine wpAnyH_ready (rs := [3]) (by kernel_rfl) (by simp) ?_
  refine AllReadyH.cons (o := { dst := none, op := .store _ (.tmp 5) (.tmp 42), type := _, pos := _, after := _, guard := _ }) rfl (fun K hK => ?_) AllReadyH.nil
  rw [if_pos (by rfl)]
  refine wp_store_mid _ _ _ rfl (n + 3) _ #[.int .i64 (5), .int .i64 (0)] rfl rfl h119q.out.there2 HA.out (two_one _ _) ?_
  simp only [Act.put]
  have h121q : Hid (Gd n w (u120q.setCells (n + 3) 0 [.int .i64 (5), .int .i64 (0)])) := h115q.out.asideL (by omega) 0 [.int .i64 (5), .int .i64 (0)]
  have h122q : Hid (TAt (u120q.setCells (n + 3) 0 [.int .i64 (5), .int .i64 (0)]) n t) := h116q.out.asideL (by omega) 0 [.int .i64 (5), .int .i64 (0)]
  have h123q : Hid (Bo (u120q.setCells (n + 3) 0 [.int .i64 (5), .int .i64 (0)]) (n + 1) [.int .i64 3, .int .i64 k, .int .i64 x]) := h117q.out.asideL (by omega) 0 [.int .i64 (5), .int .i64 (0)]
  have h124q : Hid (TAt (u120q.setCells (n + 3) 0 [.int .i64 (5), .int .i64 (0)]) (n + 2) t) := h118q.out.asideL (by omega) 0 [.int .i64 (5), .int .i64 (0)]
  have h125q : Hid (Bo (u120q.setCells (n + 3) 0 [.int .i64 (5), .int .i64 (0)]) (n + 3) [.int .i64 (5), .int .i64 (0)]) := h119q.out.set2 (.int .i64 (5)) (.int .i64 (0))
  clear h115q h116q h117q h118q h119q
  refine hK.out _ _ h122q.out (fun hH => ?_)
  clear hK K
  generalize (u120q.setCells (n + 3) 0 [.int .i64 (5), .int .i64 (0)]) = u126q at h121q h122q h123q h124q h125q hH ⊢
  try simp only [Act.put, List.setIfInBounds_toArray, List.set_cons_zero, List.set_cons_succ]
  refine wpAnyH_done (by kernel_rfl) ?_ _
  go_wp2
  exact bodyPost_ret (results_row2 Tryd.results25 _ _ (n + 2) (n + 3) t.all [.int .i64 (5), .int .i64 (0)] _ _ rfl rfl h124q.out.range HD.out rfl (HS.out t) h125q.out.range HDA.out rfl HA.out) rfl ⟨rfl, h121q.out.2⟩

set_option maxHeartbeats 4000000 in
set_option maxRecDepth 20000 in
theorem rT_wrong4 (t : Tb) (k x : Int) (w : World) :
    Calls Tryd.prog 25 #[.agg t.all.toArray, .agg #[.int .i64 4, .int .i64 k, .int .i64 x]] w (Told w (t, 5, 0)) := by
  obtain ⟨na, ea, hd⟩ := rslots_array
  have HD : Hid _ := hd
  clear hd
  have HS : Hid (∀ t : Tb, (Tryd.prog.info? 31).map (·.size) = some t.all.length) := rslots_size
  have HZ : Hid (∀ t : Tb, (Tryd.prog.info? 31).map (·.size) = some t.all.toArray.size) := rslots_size2
  have HT : Hid ((Tryd.prog.info? 29).map (·.size) = some 2) := rslot_size
  have HA : Hid ((Tryd.prog.info? 38).map (·.size) = some 2) := answer_size
  obtain ⟨fs, ha⟩ := answer_struct
  have HDA : Hid _ := ha
  clear ha
  have g0 : Hid (Gd w.heap.size w w) := Gd.refl w
  have h127q : Hid (Gd w.heap.size w (w.alloc (.cells t.all.toArray 31))) := g0.out.new (.cells t.all.toArray 31)
  clear g0
  have h128q : Hid (TAt (w.alloc (.cells t.all.toArray 31)) w.heap.size t) := TAt.bornAt w t _ (by simp)
  have h129q : Hid (Gd w.heap.size w ((w.alloc (.cells t.all.toArray 31)).alloc (.cells #[.int .i64 4, .int .i64 k, .int .i64 x] 26))) := h127q.out.new (.cells #[.int .i64 4, .int .i64 k, .int .i64 x] 26)
  have h130q : Hid (TAt ((w.alloc (.cells t.all.toArray 31)).alloc (.cells #[.int .i64 4, .int .i64 k, .int .i64 x] 26)) w.heap.size t) := h128q.out.new (.cells #[.int .i64 4, .int .i64 k, .int .i64 x] 26)
  clear h127q h128q
  have h131q : Hid (Bo ((w.alloc (.cells t.all.toArray 31)).alloc (.cells #[.int .i64 4, .int .i64 k, .int .i64 x] 26)) (w.heap.size + 1) [.int .i64 4, .int .i64 k, .int .i64 x]) := Bo.born (w.alloc (.cells t.all.toArray 31)) [.int .i64 4, .int .i64 k, .int .i64 x] 26 (by simp)
  have h132q : Hid (Gd w.heap.size w (((w.alloc (.cells t.all.toArray 31)).alloc (.cells #[.int .i64 4, .int .i64 k, .int .i64 x] 26)).alloc (.cells #[.int .i64 0, .int .i64 0, .int .i64 0, .int .i64 0, .int .i64 0, .int .i64 0, .int .i64 0, .int .i64 0, .int .i64 0, .int .i64 0, .int .i64 0, .int .i64 0, .int .i64 0, .int .i64 0, .int .i64 0, .int .i64 0] 31))) := h129q.out.new (.cells #[.int .i64 0, .int .i64 0, .int .i64 0, .int .i64 0, .int .i64 0, .int .i64 0, .int .i64 0, .int .i64 0, .int .i64 0, .int .i64 0, .int .i64 0, .int .i64 0, .int .i64 0, .int .i64 0, .int .i64 0, .int .i64 0] 31)
  have h133q : Hid (TAt (((w.alloc (.cells t.all.toArray 31)).alloc (.cells #[.int .i64 4, .int .i64 k, .int .i64 x] 26)).alloc (.cells #[.int .i64 0, .int .i64 0, .int .i64 0, .int .i64 0, .int .i64 0, .int .i64 0, .int .i64 0, .int .i64 0, .int .i64 0, .int .i64 0, .int .i64 0, .int .i64 0, .int .i64 0, .int .i64 0, .int .i64 0, .int .i64 0] 31)) w.heap.size t) := h130q.out.new (.cells #[.int .i64 0, .int .i64 0, .int .i64 0, .int .i64 0, .int .i64 0, .int .i64 0, .int .i64 0, .int .i64 0, .int .i64 0, .int .i64 0, .int .i64 0, .int .i64 0, .int .i64 0, .int .i64 0, .int .i64 0, .int .i64 0] 31)
  have h134q : Hid (Bo (((w.alloc (.cells t.all.toArray 31)).alloc (.cells #[.int .i64 4, .int .i64 k, .int .i64 x] 26)).alloc (.cells #[.int .i64 0, .int .i64 0, .int .i64 0, .int .i64 0, .int .i64 0, .int .i64 0, .int .i64 0, .int .i64 0, .int .i64 0, .int .i64 0, .int .i64 0, .int .i64 0, .int .i64 0, .int .i64 0, .int .i64 0, .int .i64 0] 31)) (w.heap.size + 1) [.int .i64 4, .int .i64 k, .int .i64 x]) := h131q.out.new (.cells #[.int .i64 0, .int .i64 0, .int .i64 0, .int .i64 0, .int .i64 0, .int .i64 0, .int .i64 0, .int .i64 0, .int .i64 0, .int .i64 0, .int .i64 0, .int .i64 0, .int .i64 0, .int .i64 0, .int .i64 0, .int .i64 0] 31)
  clear h129q h130q h131q
  have h135q : Hid (TAt (((w.alloc (.cells t.all.toArray 31)).alloc (.cells #[.int .i64 4, .int .i64 k, .int .i64 x] 26)).alloc (.cells #[.int .i64 0, .int .i64 0, .int .i64 0, .int .i64 0, .int .i64 0, .int .i64 0, .int .i64 0, .int .i64 0, .int .i64 0, .int .i64 0, .int .i64 0, .int .i64 0, .int .i64 0, .int .i64 0, .int .i64 0, .int .i64 0] 31)) (w.heap.size + 2) Tb.zero) := TAt.bornZero ((w.alloc (.cells t.all.toArray 31)).alloc (.cells #[.int .i64 4, .int .i64 k, .int .i64 x] 26)) 31 (by simp)
  have h136q : Hid (Gd w.heap.size w ((((w.alloc (.cells t.all.toArray 31)).alloc (.cells #[.int .i64 4, .int .i64 k, .int .i64 x] 26)).alloc (.cells #[.int .i64 0, .int .i64 0, .int .i64 0, .int .i64 0, .int .i64 0, .int .i64 0, .int .i64 0, .int .i64 0, .int .i64 0, .int .i64 0, .int .i64 0, .int .i64 0, .int .i64 0, .int .i64 0, .int .i64 0, .int .i64 0] 31)).alloc (.cells #[.int .i64 0, .int .i64 0] 38))) := h132q.out.new (.cells #[.int .i64 0, .int .i64 0] 38)
  have h137q : Hid (TAt ((((w.alloc (.cells t.all.toArray 31)).alloc (.cells #[.int .i64 4, .int .i64 k, .int .i64 x] 26)).alloc (.cells #[.int .i64 0, .int .i64 0, .int .i64 0, .int .i64 0, .int .i64 0, .int .i64 0, .int .i64 0, .int .i64 0, .int .i64 0, .int .i64 0, .int .i64 0, .int .i64 0, .int .i64 0, .int .i64 0, .int .i64 0, .int .i64 0] 31)).alloc (.cells #[.int .i64 0, .int .i64 0] 38)) w.heap.size t) := h133q.out.new (.cells #[.int .i64 0, .int .i64 0] 38)
  have h138q : Hid (Bo ((((w.alloc (.cells t.all.toArray 31)).alloc (.cells #[.int .i64 4, .int .i64 k, .int .i64 x] 26)).alloc (.cells #[.int .i64 0, .int .i64 0, .int .i64 0, .int .i64 0, .int .i64 0, .int .i64 0, .int .i64 0, .int .i64 0, .int .i64 0, .int .i64 0, .int .i64 0, .int .i64 0, .int .i64 0, .int .i64 0, .int .i64 0, .int .i64 0] 31)).alloc (.cells #[.int .i64 0, .int .i64 0] 38)) (w.heap.size + 1) [.int .i64 4, .int .i64 k, .int .i64 x]) := h134q.out.new (.cells #[.int .i64 0, .int .i64 0] 38)
  have h139q : Hid (TAt ((((w.alloc (.cells t.all.toArray 31)).alloc (.cells #[.int .i64 4, .int .i64 k, .int .i64 x] 26)).alloc (.cells #[.int .i64 0, .int .i64 0, .int .i64 0, .int .i64 0, .int .i64 0, .int .i64 0, .int .i64 0, .int .i64 0, .int .i64 0, .int .i64 0, .int .i64 0, .int .i64 0, .int .i64 0, .int .i64 0, .int .i64 0, .int .i64 0] 31)).alloc (.cells #[.int .i64 0, .int .i64 0] 38)) (w.heap.size + 2) Tb.zero) := h135q.out.new (.cells #[.int .i64 0, .int .i64 0] 38)
  clear h132q h133q h134q h135q
  have h140q : Hid (Bo ((((w.alloc (.cells t.all.toArray 31)).alloc (.cells #[.int .i64 4, .int .i64 k, .int .i64 x] 26)).alloc (.cells #[.int .i64 0, .int .i64 0, .int .i64 0, .int .i64 0, .int .i64 0, .int .i64 0, .int .i64 0, .int .i64 0, .int .i64 0, .int .i64 0, .int .i64 0, .int .i64 0, .int .i64 0, .int .i64 0, .int .i64 0, .int .i64 0] 31)).alloc (.cells #[.int .i64 0, .int .i64 0] 38)) (w.heap.size + 3) [.int .i64 0, .int .i64 0]) := Bo.born (((w.alloc (.cells t.all.toArray 31)).alloc (.cells #[.int .i64 4, .int .i64 k, .int .i64 x] 26)).alloc (.cells #[.int .i64 0, .int .i64 0, .int .i64 0, .int .i64 0, .int .i64 0, .int .i64 0, .int .i64 0, .int .i64 0, .int .i64 0, .int .i64 0, .int .i64 0, .int .i64 0, .int .i64 0, .int .i64 0, .int .i64 0, .int .i64 0] 31)) [.int .i64 0, .int .i64 0] 38 (by simp)
  have W1 := rwithin_yes 4 1 6
  go_enter Tryd.func25, Tryd.ntmps25
  go_wp2_with fail
  generalize ((((w.alloc (.cells t.all.toArray 31)).alloc (.cells #[.int .i64 4, .int .i64 k, .int .i64 x] 26)).alloc (.cells #[.int .i64 0, .int .i64 0, .int .i64 0, .int .i64 0, .int .i64 0, .int .i64 0, .int .i64 0, .int .i64 0, .int .i64 0, .int .i64 0, .int .i64 0, .int .i64 0, .int .i64 0, .int .i64 0, .int .i64 0, .int .i64 0] 31)).alloc (.cells #[.int .i64 0, .int .i64 0] 38)) = W at h136q h137q h138q h139q h140q ⊢
  generalize w.heap.size = n at h136q h137q h138q h139q h140q ⊢
  have d141q := h138q.out.at 0 rfl
  have d142q := h138q.out.at 1 rfl
  refine (W1 _ (by decide) (by decide)).mono ?_
  rintro e u143q ⟨rfl, hw⟩
  rw [hw]; clear hw u143q
  go_wp2_with fail
  have SA := said_is (5) (0)
  have h144q : Hid (Gd n w W.drew) := h136q.out.drew
  have h145q : Hid (TAt W.drew n t) := h137q.out.drew
  have h146q : Hid (Bo W.drew (n + 1) [.int .i64 4, .int .i64 k, .int .i64 x]) := h138q.out.drew
  have h147q : Hid (TAt W.drew (n + 2) Tb.zero) := h139q.out.drew
  have h148q : Hid (Bo W.drew (n + 3) [.int .i64 0, .int .i64 0]) := h140q.out.drew
  clear h136q h137q h138q h139q h140q
  refine wp_region_held_drew (S := fun w' => TAt w' n t) (by kernel_rfl) h145q.out (fun hH => ?_)
  generalize W.drew = u149q at h144q h145q h146q h147q h148q hH ⊢
  refine wpAnyH_take (i := 0) (oi := { dst := some 41, op := .load _ (.tmp 2), type := _, pos := _, after := _, guard := _ }) (v := _) rfl (by kernel_rfl) (by kernel_rfl) (by kernel_rfl) (fun _ _ _ h => h) (yieldsIf_load_mid (by rfl) _ _ rfl n _ rfl t.all _ (fun _ h => (h).range) HD.out rfl (HS.out t)) hH ?_
  simp only [Act.put, List.setIfInBounds_toArray, List.set_cons_zero, List.set_cons_succ]
  refine wpAnyH_ready (rs := [1]) (by kernel_rfl) (by simp) ?_
  refine AllReadyH.cons (o := { dst := some 42, op := _, type := _, pos := _, after := _, guard := _ }) rfl (fun K hK => ?_) AllReadyH.nil
  go_simp
  refine (SA _).mono ?_
  rintro e u150q ⟨rfl, hb⟩
  have h151q : Hid (Gd n w u150q) := h144q.out.later hb
  have h152q : Hid (TAt u150q n t) := h145q.out.later hb
  have h153q : Hid (Bo u150q (n + 1) [.int .i64 4, .int .i64 k, .int .i64 x]) := h146q.out.later hb
  have h154q : Hid (TAt u150q (n + 2) Tb.zero) := h147q.out.later hb
  have h155q : Hid (Bo u150q (n + 3) [.int .i64 0, .int .i64 0]) := h148q.out.later hb
  clear h144q h145q h146q h147q h148q
  clear hb
  go_wp2_with fail
  refine hK.out _ _ h152q.out (fun hH => ?_)
  clear hK K
  try simp only [Act.put, List.setIfInBounds_toArray, List.set_cons_zero, List.set_cons_succ]
  refine wpAnyH_ready (rs := [2]) (by kernel_rfl) (by simp) ?_
  refine AllReadyH.cons (o := { dst := none, op := .store _ (.tmp 4) (.tmp 41), type := _, pos := _, after := _, guard := _ }) rfl (fun K hK => ?_) AllReadyH.nil
  rw [if_pos (by rfl)]
  refine wp_store_mid _ _ _ rfl (n + 2) _ t.all.toArray rfl rfl (h154q.out.thereOf t) (HZ.out t) (t.all_all) ?_
  simp only [Act.put]
  have h156q : Hid (Gd n w (u150q.setCells (n + 2) 0 t.all)) := h151q.out.asideAll (by omega) t
  have h157q : Hid (TAt (u150q.setCells (n + 2) 0 t.all) n t) := h152q.out.asideAll (by omega) t
  have h158q : Hid (Bo (u150q.setCells (n + 2) 0 t.all) (n + 1) [.int .i64 4, .int .i64 k, .int .i64 x]) := h153q.out.asideAll (by omega) t
  have h159q : Hid (TAt (u150q.setCells (n + 2) 0 t.all) (n + 2) t) := h154q.out.setAll t
  have h160q : Hid (Bo (u150q.setCells (n + 2) 0 t.all) (n + 3) [.int .i64 0, .int .i64 0]) := h155q.out.asideAll (by omega) t
  clear h151q h152q h153q h154q h155q
  refine hK.out _ _ h157q.out (fun hH => ?_)
  clear hK K
  generalize (u150q.setCells (n + 2) 0 t.all) = u161q at h156q h157q h158q h159q h160q hH ⊢
  try simp only [Act.put, List.setIfInBounds_toArray, List.set_cons_zero, List.set_cons_succ]
  refine wpAnyH_ready (rs := [3]) (by kernel_rfl) (by simp) ?_
  refine AllReadyH.cons (o := { dst := none, op := .store _ (.tmp 5) (.tmp 42), type := _, pos := _, after := _, guard := _ }) rfl (fun K hK => ?_) AllReadyH.nil
  rw [if_pos (by rfl)]
  refine wp_store_mid _ _ _ rfl (n + 3) _ #[.int .i64 (5), .int .i64 (0)] rfl rfl h160q.out.there2 HA.out (two_one _ _) ?_
  simp only [Act.put]
  have h162q : Hid (Gd n w (u161q.setCells (n + 3) 0 [.int .i64 (5), .int .i64 (0)])) := h156q.out.asideL (by omega) 0 [.int .i64 (5), .int .i64 (0)]
  have h163q : Hid (TAt (u161q.setCells (n + 3) 0 [.int .i64 (5), .int .i64 (0)]) n t) := h157q.out.asideL (by omega) 0 [.int .i64 (5), .int .i64 (0)]
  have h164q : Hid (Bo (u161q.setCells (n + 3) 0 [.int .i64 (5), .int .i64 (0)]) (n + 1) [.int .i64 4, .int .i64 k, .int .i64 x]) := h158q.out.asideL (by omega) 0 [.int .i64 (5), .int .i64 (0)]
  have h165q : Hid (TAt (u161q.setCells (n + 3) 0 [.int .i64 (5), .int .i64 (0)]) (n + 2) t) := h159q.out.asideL (by omega) 0 [.int .i64 (5), .int .i64 (0)]
  have h166q : Hid (Bo (u161q.setCells (n + 3) 0 [.int .i64 (5), .int .i64 (0)]) (n + 3) [.int .i64 (5), .int .i64 (0)]) := h160q.out.set2 (.int .i64 (5)) (.int .i64 (0))
  clear h156q h157q h158q h159q h160q
  refine hK.out _ _ h163q.out (fun hH => ?_)
  clear hK K
  generalize (u161q.setCells (n + 3) 0 [.int .i64 (5), .int .i64 (0)]) = u167q at h162q h163q h164q h165q h166q hH ⊢
  try simp only [Act.put, List.setIfInBounds_toArray, List.set_cons_zero, List.set_cons_succ]
  refine wpAnyH_done (by kernel_rfl) ?_ _
  go_wp2
  exact bodyPost_ret (results_row2 Tryd.results25 _ _ (n + 2) (n + 3) t.all [.int .i64 (5), .int .i64 (0)] _ _ rfl rfl h165q.out.range HD.out rfl (HS.out t) h166q.out.range HDA.out rfl HA.out) rfl ⟨rfl, h162q.out.2⟩

set_option maxHeartbeats 4000000 in
set_option maxRecDepth 20000 in
theorem rT_wrongk (t : Tb) (o k x : Int) (ho : o = 1 ∨ o = 2 ∨ o = 5) (h : k < 1 ∨ 1000 < k) (w : World) :
    Calls Tryd.prog 25 #[.agg t.all.toArray, .agg #[.int .i64 o, .int .i64 k, .int .i64 x]] w (Told w (t, 5, 0)) := by
  obtain ⟨na, ea, hd⟩ := rslots_array
  have HD : Hid _ := hd
  clear hd
  have HS : Hid (∀ t : Tb, (Tryd.prog.info? 31).map (·.size) = some t.all.length) := rslots_size
  have HZ : Hid (∀ t : Tb, (Tryd.prog.info? 31).map (·.size) = some t.all.toArray.size) := rslots_size2
  have HT : Hid ((Tryd.prog.info? 29).map (·.size) = some 2) := rslot_size
  have HA : Hid ((Tryd.prog.info? 38).map (·.size) = some 2) := answer_size
  obtain ⟨fs, ha⟩ := answer_struct
  have HDA : Hid _ := ha
  clear ha
  have g0 : Hid (Gd w.heap.size w w) := Gd.refl w
  have h168q : Hid (Gd w.heap.size w (w.alloc (.cells t.all.toArray 31))) := g0.out.new (.cells t.all.toArray 31)
  clear g0
  have h169q : Hid (TAt (w.alloc (.cells t.all.toArray 31)) w.heap.size t) := TAt.bornAt w t _ (by simp)
  have h170q : Hid (Gd w.heap.size w ((w.alloc (.cells t.all.toArray 31)).alloc (.cells #[.int .i64 o, .int .i64 k, .int .i64 x] 26))) := h168q.out.new (.cells #[.int .i64 o, .int .i64 k, .int .i64 x] 26)
  have h171q : Hid (TAt ((w.alloc (.cells t.all.toArray 31)).alloc (.cells #[.int .i64 o, .int .i64 k, .int .i64 x] 26)) w.heap.size t) := h169q.out.new (.cells #[.int .i64 o, .int .i64 k, .int .i64 x] 26)
  clear h168q h169q
  have h172q : Hid (Bo ((w.alloc (.cells t.all.toArray 31)).alloc (.cells #[.int .i64 o, .int .i64 k, .int .i64 x] 26)) (w.heap.size + 1) [.int .i64 o, .int .i64 k, .int .i64 x]) := Bo.born (w.alloc (.cells t.all.toArray 31)) [.int .i64 o, .int .i64 k, .int .i64 x] 26 (by simp)
  have h173q : Hid (Gd w.heap.size w (((w.alloc (.cells t.all.toArray 31)).alloc (.cells #[.int .i64 o, .int .i64 k, .int .i64 x] 26)).alloc (.cells #[.int .i64 0, .int .i64 0, .int .i64 0, .int .i64 0, .int .i64 0, .int .i64 0, .int .i64 0, .int .i64 0, .int .i64 0, .int .i64 0, .int .i64 0, .int .i64 0, .int .i64 0, .int .i64 0, .int .i64 0, .int .i64 0] 31))) := h170q.out.new (.cells #[.int .i64 0, .int .i64 0, .int .i64 0, .int .i64 0, .int .i64 0, .int .i64 0, .int .i64 0, .int .i64 0, .int .i64 0, .int .i64 0, .int .i64 0, .int .i64 0, .int .i64 0, .int .i64 0, .int .i64 0, .int .i64 0] 31)
  have h174q : Hid (TAt (((w.alloc (.cells t.all.toArray 31)).alloc (.cells #[.int .i64 o, .int .i64 k, .int .i64 x] 26)).alloc (.cells #[.int .i64 0, .int .i64 0, .int .i64 0, .int .i64 0, .int .i64 0, .int .i64 0, .int .i64 0, .int .i64 0, .int .i64 0, .int .i64 0, .int .i64 0, .int .i64 0, .int .i64 0, .int .i64 0, .int .i64 0, .int .i64 0] 31)) w.heap.size t) := h171q.out.new (.cells #[.int .i64 0, .int .i64 0, .int .i64 0, .int .i64 0, .int .i64 0, .int .i64 0, .int .i64 0, .int .i64 0, .int .i64 0, .int .i64 0, .int .i64 0, .int .i64 0, .int .i64 0, .int .i64 0, .int .i64 0, .int .i64 0] 31)
  have h175q : Hid (Bo (((w.alloc (.cells t.all.toArray 31)).alloc (.cells #[.int .i64 o, .int .i64 k, .int .i64 x] 26)).alloc (.cells #[.int .i64 0, .int .i64 0, .int .i64 0, .int .i64 0, .int .i64 0, .int .i64 0, .int .i64 0, .int .i64 0, .int .i64 0, .int .i64 0, .int .i64 0, .int .i64 0, .int .i64 0, .int .i64 0, .int .i64 0, .int .i64 0] 31)) (w.heap.size + 1) [.int .i64 o, .int .i64 k, .int .i64 x]) := h172q.out.new (.cells #[.int .i64 0, .int .i64 0, .int .i64 0, .int .i64 0, .int .i64 0, .int .i64 0, .int .i64 0, .int .i64 0, .int .i64 0, .int .i64 0, .int .i64 0, .int .i64 0, .int .i64 0, .int .i64 0, .int .i64 0, .int .i64 0] 31)
  clear h170q h171q h172q
  have h176q : Hid (TAt (((w.alloc (.cells t.all.toArray 31)).alloc (.cells #[.int .i64 o, .int .i64 k, .int .i64 x] 26)).alloc (.cells #[.int .i64 0, .int .i64 0, .int .i64 0, .int .i64 0, .int .i64 0, .int .i64 0, .int .i64 0, .int .i64 0, .int .i64 0, .int .i64 0, .int .i64 0, .int .i64 0, .int .i64 0, .int .i64 0, .int .i64 0, .int .i64 0] 31)) (w.heap.size + 2) Tb.zero) := TAt.bornZero ((w.alloc (.cells t.all.toArray 31)).alloc (.cells #[.int .i64 o, .int .i64 k, .int .i64 x] 26)) 31 (by simp)
  have h177q : Hid (Gd w.heap.size w ((((w.alloc (.cells t.all.toArray 31)).alloc (.cells #[.int .i64 o, .int .i64 k, .int .i64 x] 26)).alloc (.cells #[.int .i64 0, .int .i64 0, .int .i64 0, .int .i64 0, .int .i64 0, .int .i64 0, .int .i64 0, .int .i64 0, .int .i64 0, .int .i64 0, .int .i64 0, .int .i64 0, .int .i64 0, .int .i64 0, .int .i64 0, .int .i64 0] 31)).alloc (.cells #[.int .i64 0, .int .i64 0] 38))) := h173q.out.new (.cells #[.int .i64 0, .int .i64 0] 38)
  have h178q : Hid (TAt ((((w.alloc (.cells t.all.toArray 31)).alloc (.cells #[.int .i64 o, .int .i64 k, .int .i64 x] 26)).alloc (.cells #[.int .i64 0, .int .i64 0, .int .i64 0, .int .i64 0, .int .i64 0, .int .i64 0, .int .i64 0, .int .i64 0, .int .i64 0, .int .i64 0, .int .i64 0, .int .i64 0, .int .i64 0, .int .i64 0, .int .i64 0, .int .i64 0] 31)).alloc (.cells #[.int .i64 0, .int .i64 0] 38)) w.heap.size t) := h174q.out.new (.cells #[.int .i64 0, .int .i64 0] 38)
  have h179q : Hid (Bo ((((w.alloc (.cells t.all.toArray 31)).alloc (.cells #[.int .i64 o, .int .i64 k, .int .i64 x] 26)).alloc (.cells #[.int .i64 0, .int .i64 0, .int .i64 0, .int .i64 0, .int .i64 0, .int .i64 0, .int .i64 0, .int .i64 0, .int .i64 0, .int .i64 0, .int .i64 0, .int .i64 0, .int .i64 0, .int .i64 0, .int .i64 0, .int .i64 0] 31)).alloc (.cells #[.int .i64 0, .int .i64 0] 38)) (w.heap.size + 1) [.int .i64 o, .int .i64 k, .int .i64 x]) := h175q.out.new (.cells #[.int .i64 0, .int .i64 0] 38)
  have h180q : Hid (TAt ((((w.alloc (.cells t.all.toArray 31)).alloc (.cells #[.int .i64 o, .int .i64 k, .int .i64 x] 26)).alloc (.cells #[.int .i64 0, .int .i64 0, .int .i64 0, .int .i64 0, .int .i64 0, .int .i64 0, .int .i64 0, .int .i64 0, .int .i64 0, .int .i64 0, .int .i64 0, .int .i64 0, .int .i64 0, .int .i64 0, .int .i64 0, .int .i64 0] 31)).alloc (.cells #[.int .i64 0, .int .i64 0] 38)) (w.heap.size + 2) Tb.zero) := h176q.out.new (.cells #[.int .i64 0, .int .i64 0] 38)
  clear h173q h174q h175q h176q
  have h181q : Hid (Bo ((((w.alloc (.cells t.all.toArray 31)).alloc (.cells #[.int .i64 o, .int .i64 k, .int .i64 x] 26)).alloc (.cells #[.int .i64 0, .int .i64 0, .int .i64 0, .int .i64 0, .int .i64 0, .int .i64 0, .int .i64 0, .int .i64 0, .int .i64 0, .int .i64 0, .int .i64 0, .int .i64 0, .int .i64 0, .int .i64 0, .int .i64 0, .int .i64 0] 31)).alloc (.cells #[.int .i64 0, .int .i64 0] 38)) (w.heap.size + 3) [.int .i64 0, .int .i64 0]) := Bo.born (((w.alloc (.cells t.all.toArray 31)).alloc (.cells #[.int .i64 o, .int .i64 k, .int .i64 x] 26)).alloc (.cells #[.int .i64 0, .int .i64 0, .int .i64 0, .int .i64 0, .int .i64 0, .int .i64 0, .int .i64 0, .int .i64 0, .int .i64 0, .int .i64 0, .int .i64 0, .int .i64 0, .int .i64 0, .int .i64 0, .int .i64 0, .int .i64 0] 31)) [.int .i64 0, .int .i64 0] 38 (by simp)
  have m6 : (o == 6) = false := by rcases ho with rfl | rfl | rfl <;> rfl
  have m3 : (o == 3) = false := by rcases ho with rfl | rfl | rfl <;> rfl
  have m4 : (o == 4) = false := by rcases ho with rfl | rfl | rfl <;> rfl
  have W1 := rwithin_yes o 1 6
  have W2 := rwithin_no k 1 1000
  have H1 : Hid (1 ≤ o ∧ o ≤ 6) := (by omega : 1 ≤ o ∧ o ≤ 6)
  have H2 : Hid _ := h
  clear ho h
  go_enter Tryd.func25, Tryd.ntmps25
  go_wp2_with fail
  generalize ((((w.alloc (.cells t.all.toArray 31)).alloc (.cells #[.int .i64 o, .int .i64 k, .int .i64 x] 26)).alloc (.cells #[.int .i64 0, .int .i64 0, .int .i64 0, .int .i64 0, .int .i64 0, .int .i64 0, .int .i64 0, .int .i64 0, .int .i64 0, .int .i64 0, .int .i64 0, .int .i64 0, .int .i64 0, .int .i64 0, .int .i64 0, .int .i64 0] 31)).alloc (.cells #[.int .i64 0, .int .i64 0] 38)) = W at h177q h178q h179q h180q h181q ⊢
  generalize w.heap.size = n at h177q h178q h179q h180q h181q ⊢
  have d182q := h179q.out.at 0 rfl
  have d183q := h179q.out.at 1 rfl
  refine (W1 _ H1.out.1 H1.out.2).mono ?_
  rintro e u184q ⟨rfl, hw⟩
  rw [hw]; clear hw u184q
  go_wp2_with fail
  refine (W2 _ H2.out).mono ?_
  rintro e u185q ⟨rfl, hw⟩
  rw [hw]; clear hw u185q
  go_wp2_with fail
  have SA := said_is (5) (0)
  have h186q : Hid (Gd n w W.drew) := h177q.out.drew
  have h187q : Hid (TAt W.drew n t) := h178q.out.drew
  have h188q : Hid (Bo W.drew (n + 1) [.int .i64 o, .int .i64 k, .int .i64 x]) := h179q.out.drew
  have h189q : Hid (TAt W.drew (n + 2) Tb.zero) := h180q.out.drew
  have h190q : Hid (Bo W.drew (n + 3) [.int .i64 0, .int .i64 0]) := h181q.out.drew
  clear h177q h178q h179q h180q h181q
  refine wp_region_held_drew (S := fun w' => TAt w' n t) (by kernel_rfl) h187q.out (fun hH => ?_)
  generalize W.drew = u191q at h186q h187q h188q h189q h190q hH ⊢
  refine wpAnyH_take (i := 0) (oi := { dst := some 41, op := .load _ (.tmp 2), type := _, pos := _, after := _, guard := _ }) (v := _) rfl (by kernel_rfl) (by kernel_rfl) (by kernel_rfl) (fun _ _ _ h => h) (yieldsIf_load_mid (by rfl) _ _ rfl n _ rfl t.all _ (fun _ h => (h).range) HD.out rfl (HS.out t)) hH ?_
  simp only [Act.put, List.setIfInBounds_toArray, List.set_cons_zero, List.set_cons_succ]
  refine wpAnyH_ready (rs := [1]) (by kernel_rfl) (by simp) ?_
  refine AllReadyH.cons (o := { dst := some 42, op := _, type := _, pos := _, after := _, guard := _ }) rfl (fun K hK => ?_) AllReadyH.nil
  go_simp
  refine (SA _).mono ?_
  rintro e u192q ⟨rfl, hb⟩
  have h193q : Hid (Gd n w u192q) := h186q.out.later hb
  have h194q : Hid (TAt u192q n t) := h187q.out.later hb
  have h195q : Hid (Bo u192q (n + 1) [.int .i64 o, .int .i64 k, .int .i64 x]) := h188q.out.later hb
  have h196q : Hid (TAt u192q (n + 2) Tb.zero) := h189q.out.later hb
  have h197q : Hid (Bo u192q (n + 3) [.int .i64 0, .int .i64 0]) := h190q.out.later hb
  clear h186q h187q h188q h189q h190q
  clear hb
  go_wp2_with fail
  refine hK.out _ _ h194q.out (fun hH => ?_)
  clear hK K
  try simp only [Act.put, List.setIfInBounds_toArray, List.set_cons_zero, List.set_cons_succ]
  refine wpAnyH_ready (rs := [2]) (by kernel_rfl) (by simp) ?_
  refine AllReadyH.cons (o := { dst := none, op := .store _ (.tmp 4) (.tmp 41), type := _, pos := _, after := _, guard := _ }) rfl (fun K hK => ?_) AllReadyH.nil
  rw [if_pos (by rfl)]
  refine wp_store_mid _ _ _ rfl (n + 2) _ t.all.toArray rfl rfl (h196q.out.thereOf t) (HZ.out t) (t.all_all) ?_
  simp only [Act.put]
  have h198q : Hid (Gd n w (u192q.setCells (n + 2) 0 t.all)) := h193q.out.asideAll (by omega) t
  have h199q : Hid (TAt (u192q.setCells (n + 2) 0 t.all) n t) := h194q.out.asideAll (by omega) t
  have h200q : Hid (Bo (u192q.setCells (n + 2) 0 t.all) (n + 1) [.int .i64 o, .int .i64 k, .int .i64 x]) := h195q.out.asideAll (by omega) t
  have h201q : Hid (TAt (u192q.setCells (n + 2) 0 t.all) (n + 2) t) := h196q.out.setAll t
  have h202q : Hid (Bo (u192q.setCells (n + 2) 0 t.all) (n + 3) [.int .i64 0, .int .i64 0]) := h197q.out.asideAll (by omega) t
  clear h193q h194q h195q h196q h197q
  refine hK.out _ _ h199q.out (fun hH => ?_)
  clear hK K
  generalize (u192q.setCells (n + 2) 0 t.all) = u203q at h198q h199q h200q h201q h202q hH ⊢
  try simp only [Act.put, List.setIfInBounds_toArray, List.set_cons_zero, List.set_cons_succ]
  refine wpAnyH_ready (rs := [3]) (by kernel_rfl) (by simp) ?_
  refine AllReadyH.cons (o := { dst := none, op := .store _ (.tmp 5) (.tmp 42), type := _, pos := _, after := _, guard := _ }) rfl (fun K hK => ?_) AllReadyH.nil
  rw [if_pos (by rfl)]
  refine wp_store_mid _ _ _ rfl (n + 3) _ #[.int .i64 (5), .int .i64 (0)] rfl rfl h202q.out.there2 HA.out (two_one _ _) ?_
  simp only [Act.put]
  have h204q : Hid (Gd n w (u203q.setCells (n + 3) 0 [.int .i64 (5), .int .i64 (0)])) := h198q.out.asideL (by omega) 0 [.int .i64 (5), .int .i64 (0)]
  have h205q : Hid (TAt (u203q.setCells (n + 3) 0 [.int .i64 (5), .int .i64 (0)]) n t) := h199q.out.asideL (by omega) 0 [.int .i64 (5), .int .i64 (0)]
  have h206q : Hid (Bo (u203q.setCells (n + 3) 0 [.int .i64 (5), .int .i64 (0)]) (n + 1) [.int .i64 o, .int .i64 k, .int .i64 x]) := h200q.out.asideL (by omega) 0 [.int .i64 (5), .int .i64 (0)]
  have h207q : Hid (TAt (u203q.setCells (n + 3) 0 [.int .i64 (5), .int .i64 (0)]) (n + 2) t) := h201q.out.asideL (by omega) 0 [.int .i64 (5), .int .i64 (0)]
  have h208q : Hid (Bo (u203q.setCells (n + 3) 0 [.int .i64 (5), .int .i64 (0)]) (n + 3) [.int .i64 (5), .int .i64 (0)]) := h202q.out.set2 (.int .i64 (5)) (.int .i64 (0))
  clear h198q h199q h200q h201q h202q
  refine hK.out _ _ h205q.out (fun hH => ?_)
  clear hK K
  generalize (u203q.setCells (n + 3) 0 [.int .i64 (5), .int .i64 (0)]) = u209q at h204q h205q h206q h207q h208q hH ⊢
  try simp only [Act.put, List.setIfInBounds_toArray, List.set_cons_zero, List.set_cons_succ]
  refine wpAnyH_done (by kernel_rfl) ?_ _
  go_wp2
  exact bodyPost_ret (results_row2 Tryd.results25 _ _ (n + 2) (n + 3) t.all [.int .i64 (5), .int .i64 (0)] _ _ rfl rfl h207q.out.range HD.out rfl (HS.out t) h208q.out.range HDA.out rfl HA.out) rfl ⟨rfl, h204q.out.2⟩

theorem rT_wrong (t : Tb) (o k x : Int) (h6 : o ≠ 6) (hb : ¬ byKey o k) (w : World) : Calls Tryd.prog 25 #[.agg t.all.toArray, .agg #[.int .i64 o, .int .i64 k, .int .i64 x]] w (Told w (t, 5, 0)) := by
  by_cases h1 : o < 1 ∨ 6 < o
  · exact rT_wrong1 t o k x h6 h1 w
  by_cases h3 : o = 3
  · subst h3; exact rT_wrong3 t k x w
  by_cases h4 : o = 4
  · subst h4; exact rT_wrong4 t k x w
  refine rT_wrongk t o k x (by omega) ?_ w
  by_cases hk : k < 1 ∨ 1000 < k
  · exact hk
  · exact absurd ⟨by omega, by omega, by omega⟩ hb

set_option maxHeartbeats 4000000 in
set_option maxRecDepth 20000 in
theorem rT_full (t : Tb) (k x : Int) (hn : t.k (place t k) ≠ k) (hl : 6 ≤ len t) (hR : RT t) (hk1 : 1 ≤ k) (hk2 : k ≤ 1000) (w : World) :
    Calls Tryd.prog 25 #[.agg t.all.toArray, .agg #[.int .i64 1, .int .i64 k, .int .i64 x]] w (Told w (t, 3, 0)) := by
  obtain ⟨na, ea, hd⟩ := rslots_array
  have HD : Hid _ := hd
  clear hd
  have HS : Hid (∀ t : Tb, (Tryd.prog.info? 31).map (·.size) = some t.all.length) := rslots_size
  have HZ : Hid (∀ t : Tb, (Tryd.prog.info? 31).map (·.size) = some t.all.toArray.size) := rslots_size2
  have HT : Hid ((Tryd.prog.info? 29).map (·.size) = some 2) := rslot_size
  have HA : Hid ((Tryd.prog.info? 38).map (·.size) = some 2) := answer_size
  obtain ⟨fs, ha⟩ := answer_struct
  have HDA : Hid _ := ha
  clear ha
  have g0 : Hid (Gd w.heap.size w w) := Gd.refl w
  have h210q : Hid (Gd w.heap.size w (w.alloc (.cells t.all.toArray 31))) := g0.out.new (.cells t.all.toArray 31)
  clear g0
  have h211q : Hid (TAt (w.alloc (.cells t.all.toArray 31)) w.heap.size t) := TAt.bornAt w t _ (by simp)
  have h212q : Hid (Gd w.heap.size w ((w.alloc (.cells t.all.toArray 31)).alloc (.cells #[.int .i64 1, .int .i64 k, .int .i64 x] 26))) := h210q.out.new (.cells #[.int .i64 1, .int .i64 k, .int .i64 x] 26)
  have h213q : Hid (TAt ((w.alloc (.cells t.all.toArray 31)).alloc (.cells #[.int .i64 1, .int .i64 k, .int .i64 x] 26)) w.heap.size t) := h211q.out.new (.cells #[.int .i64 1, .int .i64 k, .int .i64 x] 26)
  clear h210q h211q
  have h214q : Hid (Bo ((w.alloc (.cells t.all.toArray 31)).alloc (.cells #[.int .i64 1, .int .i64 k, .int .i64 x] 26)) (w.heap.size + 1) [.int .i64 1, .int .i64 k, .int .i64 x]) := Bo.born (w.alloc (.cells t.all.toArray 31)) [.int .i64 1, .int .i64 k, .int .i64 x] 26 (by simp)
  have h215q : Hid (Gd w.heap.size w (((w.alloc (.cells t.all.toArray 31)).alloc (.cells #[.int .i64 1, .int .i64 k, .int .i64 x] 26)).alloc (.cells #[.int .i64 0, .int .i64 0, .int .i64 0, .int .i64 0, .int .i64 0, .int .i64 0, .int .i64 0, .int .i64 0, .int .i64 0, .int .i64 0, .int .i64 0, .int .i64 0, .int .i64 0, .int .i64 0, .int .i64 0, .int .i64 0] 31))) := h212q.out.new (.cells #[.int .i64 0, .int .i64 0, .int .i64 0, .int .i64 0, .int .i64 0, .int .i64 0, .int .i64 0, .int .i64 0, .int .i64 0, .int .i64 0, .int .i64 0, .int .i64 0, .int .i64 0, .int .i64 0, .int .i64 0, .int .i64 0] 31)
  have h216q : Hid (TAt (((w.alloc (.cells t.all.toArray 31)).alloc (.cells #[.int .i64 1, .int .i64 k, .int .i64 x] 26)).alloc (.cells #[.int .i64 0, .int .i64 0, .int .i64 0, .int .i64 0, .int .i64 0, .int .i64 0, .int .i64 0, .int .i64 0, .int .i64 0, .int .i64 0, .int .i64 0, .int .i64 0, .int .i64 0, .int .i64 0, .int .i64 0, .int .i64 0] 31)) w.heap.size t) := h213q.out.new (.cells #[.int .i64 0, .int .i64 0, .int .i64 0, .int .i64 0, .int .i64 0, .int .i64 0, .int .i64 0, .int .i64 0, .int .i64 0, .int .i64 0, .int .i64 0, .int .i64 0, .int .i64 0, .int .i64 0, .int .i64 0, .int .i64 0] 31)
  have h217q : Hid (Bo (((w.alloc (.cells t.all.toArray 31)).alloc (.cells #[.int .i64 1, .int .i64 k, .int .i64 x] 26)).alloc (.cells #[.int .i64 0, .int .i64 0, .int .i64 0, .int .i64 0, .int .i64 0, .int .i64 0, .int .i64 0, .int .i64 0, .int .i64 0, .int .i64 0, .int .i64 0, .int .i64 0, .int .i64 0, .int .i64 0, .int .i64 0, .int .i64 0] 31)) (w.heap.size + 1) [.int .i64 1, .int .i64 k, .int .i64 x]) := h214q.out.new (.cells #[.int .i64 0, .int .i64 0, .int .i64 0, .int .i64 0, .int .i64 0, .int .i64 0, .int .i64 0, .int .i64 0, .int .i64 0, .int .i64 0, .int .i64 0, .int .i64 0, .int .i64 0, .int .i64 0, .int .i64 0, .int .i64 0] 31)
  clear h212q h213q h214q
  have h218q : Hid (TAt (((w.alloc (.cells t.all.toArray 31)).alloc (.cells #[.int .i64 1, .int .i64 k, .int .i64 x] 26)).alloc (.cells #[.int .i64 0, .int .i64 0, .int .i64 0, .int .i64 0, .int .i64 0, .int .i64 0, .int .i64 0, .int .i64 0, .int .i64 0, .int .i64 0, .int .i64 0, .int .i64 0, .int .i64 0, .int .i64 0, .int .i64 0, .int .i64 0] 31)) (w.heap.size + 2) Tb.zero) := TAt.bornZero ((w.alloc (.cells t.all.toArray 31)).alloc (.cells #[.int .i64 1, .int .i64 k, .int .i64 x] 26)) 31 (by simp)
  have h219q : Hid (Gd w.heap.size w ((((w.alloc (.cells t.all.toArray 31)).alloc (.cells #[.int .i64 1, .int .i64 k, .int .i64 x] 26)).alloc (.cells #[.int .i64 0, .int .i64 0, .int .i64 0, .int .i64 0, .int .i64 0, .int .i64 0, .int .i64 0, .int .i64 0, .int .i64 0, .int .i64 0, .int .i64 0, .int .i64 0, .int .i64 0, .int .i64 0, .int .i64 0, .int .i64 0] 31)).alloc (.cells #[.int .i64 0, .int .i64 0] 38))) := h215q.out.new (.cells #[.int .i64 0, .int .i64 0] 38)
  have h220q : Hid (TAt ((((w.alloc (.cells t.all.toArray 31)).alloc (.cells #[.int .i64 1, .int .i64 k, .int .i64 x] 26)).alloc (.cells #[.int .i64 0, .int .i64 0, .int .i64 0, .int .i64 0, .int .i64 0, .int .i64 0, .int .i64 0, .int .i64 0, .int .i64 0, .int .i64 0, .int .i64 0, .int .i64 0, .int .i64 0, .int .i64 0, .int .i64 0, .int .i64 0] 31)).alloc (.cells #[.int .i64 0, .int .i64 0] 38)) w.heap.size t) := h216q.out.new (.cells #[.int .i64 0, .int .i64 0] 38)
  have h221q : Hid (Bo ((((w.alloc (.cells t.all.toArray 31)).alloc (.cells #[.int .i64 1, .int .i64 k, .int .i64 x] 26)).alloc (.cells #[.int .i64 0, .int .i64 0, .int .i64 0, .int .i64 0, .int .i64 0, .int .i64 0, .int .i64 0, .int .i64 0, .int .i64 0, .int .i64 0, .int .i64 0, .int .i64 0, .int .i64 0, .int .i64 0, .int .i64 0, .int .i64 0] 31)).alloc (.cells #[.int .i64 0, .int .i64 0] 38)) (w.heap.size + 1) [.int .i64 1, .int .i64 k, .int .i64 x]) := h217q.out.new (.cells #[.int .i64 0, .int .i64 0] 38)
  have h222q : Hid (TAt ((((w.alloc (.cells t.all.toArray 31)).alloc (.cells #[.int .i64 1, .int .i64 k, .int .i64 x] 26)).alloc (.cells #[.int .i64 0, .int .i64 0, .int .i64 0, .int .i64 0, .int .i64 0, .int .i64 0, .int .i64 0, .int .i64 0, .int .i64 0, .int .i64 0, .int .i64 0, .int .i64 0, .int .i64 0, .int .i64 0, .int .i64 0, .int .i64 0] 31)).alloc (.cells #[.int .i64 0, .int .i64 0] 38)) (w.heap.size + 2) Tb.zero) := h218q.out.new (.cells #[.int .i64 0, .int .i64 0] 38)
  clear h215q h216q h217q h218q
  have h223q : Hid (Bo ((((w.alloc (.cells t.all.toArray 31)).alloc (.cells #[.int .i64 1, .int .i64 k, .int .i64 x] 26)).alloc (.cells #[.int .i64 0, .int .i64 0, .int .i64 0, .int .i64 0, .int .i64 0, .int .i64 0, .int .i64 0, .int .i64 0, .int .i64 0, .int .i64 0, .int .i64 0, .int .i64 0, .int .i64 0, .int .i64 0, .int .i64 0, .int .i64 0] 31)).alloc (.cells #[.int .i64 0, .int .i64 0] 38)) (w.heap.size + 3) [.int .i64 0, .int .i64 0]) := Bo.born (((w.alloc (.cells t.all.toArray 31)).alloc (.cells #[.int .i64 1, .int .i64 k, .int .i64 x] 26)).alloc (.cells #[.int .i64 0, .int .i64 0, .int .i64 0, .int .i64 0, .int .i64 0, .int .i64 0, .int .i64 0, .int .i64 0, .int .i64 0, .int .i64 0, .int .i64 0, .int .i64 0, .int .i64 0, .int .i64 0, .int .i64 0, .int .i64 0] 31)) [.int .i64 0, .int .i64 0] 38 (by simp)
  have R : Hid (RT t) := hR
  have PL := RPlace_is t k (by omega) hk2 hR.free
  have W1 := rwithin_yes 1 1 6
  have W2 := rwithin_yes k 1 1000
  have H1 : Hid ((1 : Int) ≤ 1 ∧ (1 : Int) ≤ 6) := (by omega : (1 : Int) ≤ 1 ∧ (1 : Int) ≤ 6)
  have H2 : Hid (1 ≤ k ∧ k ≤ 1000) := ⟨hk1, hk2⟩
  have hp := place_lt t k
  have hx0 : t.k (place t k) = 0 := free_of_place hR hn
  clear hn
  have HL : Hid (len t = 6) := (by have := hR.room; omega : len t = 6)
  clear hl
  generalize place t k = p at *
  have hp1 : (p : Int) < 8 := by omega
  have hp0 : (0 : Int) ≤ (p : Int) := by omega
  clear hk1 hk2 hR
  go_enter Tryd.func25, Tryd.ntmps25
  go_wp2_with fail
  generalize ((((w.alloc (.cells t.all.toArray 31)).alloc (.cells #[.int .i64 1, .int .i64 k, .int .i64 x] 26)).alloc (.cells #[.int .i64 0, .int .i64 0, .int .i64 0, .int .i64 0, .int .i64 0, .int .i64 0, .int .i64 0, .int .i64 0, .int .i64 0, .int .i64 0, .int .i64 0, .int .i64 0, .int .i64 0, .int .i64 0, .int .i64 0, .int .i64 0] 31)).alloc (.cells #[.int .i64 0, .int .i64 0] 38)) = W at h219q h220q h221q h222q h223q ⊢
  generalize w.heap.size = n at h219q h220q h221q h222q h223q ⊢
  have d224q := h221q.out.at 0 rfl
  have d225q := h221q.out.at 1 rfl
  refine (W1 _ H1.out.1 H1.out.2).mono ?_
  rintro e u226q ⟨rfl, hw⟩
  rw [hw]; clear hw u226q
  go_wp2_with fail
  refine (W2 _ H2.out.1 H2.out.2).mono ?_
  rintro e u227q ⟨rfl, hw⟩
  rw [hw]; clear hw u227q
  go_wp2_with (first
    | (refine wpList_load_mid rfl 31 _ rfl n _ rfl t.all _ h220q.out.range HD.out rfl (HS.out t) ?_))
  refine (PL _).mono ?_
  rintro e u228q ⟨rfl, hb⟩
  have h229q : Hid (Gd n w u228q) := h219q.out.later hb
  have h230q : Hid (TAt u228q n t) := h220q.out.later hb
  have h231q : Hid (Bo u228q (n + 1) [.int .i64 1, .int .i64 k, .int .i64 x]) := h221q.out.later hb
  have h232q : Hid (TAt u228q (n + 2) Tb.zero) := h222q.out.later hb
  have h233q : Hid (Bo u228q (n + 3) [.int .i64 0, .int .i64 0]) := h223q.out.later hb
  clear h219q h220q h221q h222q h223q
  clear hb
  clear PL W1 W2
  have d234q := h231q.out.at 0 rfl
  have cx := h230q.out.key hp
  rw [hx0] at cx
  have LL := RLen_is t
  rw [HL.out] at LL
  go_wp2_with (first
    | (refine wpList_load_wanted (by rfl) 31 _ rfl n _ rfl t.all _ h230q.out.range HD.out rfl (HS.out t) ?_))
  refine (LL _).mono ?_
  rintro e u235q ⟨rfl, hb⟩
  have h236q : Hid (Gd n w u235q) := h229q.out.later hb
  have h237q : Hid (TAt u235q n t) := h230q.out.later hb
  have h238q : Hid (Bo u235q (n + 1) [.int .i64 1, .int .i64 k, .int .i64 x]) := h231q.out.later hb
  have h239q : Hid (TAt u235q (n + 2) Tb.zero) := h232q.out.later hb
  have h240q : Hid (Bo u235q (n + 3) [.int .i64 0, .int .i64 0]) := h233q.out.later hb
  clear h229q h230q h231q h232q h233q
  clear hb
  clear LL
  go_wp2_with fail
  have SA := said_is (3) (0)
  have h241q : Hid (Gd n w u235q.drew) := h236q.out.drew
  have h242q : Hid (TAt u235q.drew n t) := h237q.out.drew
  have h243q : Hid (Bo u235q.drew (n + 1) [.int .i64 1, .int .i64 k, .int .i64 x]) := h238q.out.drew
  have h244q : Hid (TAt u235q.drew (n + 2) Tb.zero) := h239q.out.drew
  have h245q : Hid (Bo u235q.drew (n + 3) [.int .i64 0, .int .i64 0]) := h240q.out.drew
  clear h236q h237q h238q h239q h240q
  refine wp_region_held_drew (S := fun w' => TAt w' n t) (by kernel_rfl) h242q.out (fun hH => ?_)
  generalize u235q.drew = u246q at h241q h242q h243q h244q h245q hH ⊢
  refine wpAnyH_take (i := 0) (oi := { dst := some 61, op := .load _ (.tmp 2), type := _, pos := _, after := _, guard := _ }) (v := _) rfl (by kernel_rfl) (by kernel_rfl) (by kernel_rfl) (fun _ _ _ h => h) (yieldsIf_load_mid (by rfl) _ _ rfl n _ rfl t.all _ (fun _ h => (h).range) HD.out rfl (HS.out t)) hH ?_
  simp only [Act.put, List.setIfInBounds_toArray, List.set_cons_zero, List.set_cons_succ]
  refine wpAnyH_ready (rs := [1]) (by kernel_rfl) (by simp) ?_
  refine AllReadyH.cons (o := { dst := some 62, op := _, type := _, pos := _, after := _, guard := _ }) rfl (fun K hK => ?_) AllReadyH.nil
  go_simp
  refine (SA _).mono ?_
  rintro e u247q ⟨rfl, hb⟩
  have h248q : Hid (Gd n w u247q) := h241q.out.later hb
  have h249q : Hid (TAt u247q n t) := h242q.out.later hb
  have h250q : Hid (Bo u247q (n + 1) [.int .i64 1, .int .i64 k, .int .i64 x]) := h243q.out.later hb
  have h251q : Hid (TAt u247q (n + 2) Tb.zero) := h244q.out.later hb
  have h252q : Hid (Bo u247q (n + 3) [.int .i64 0, .int .i64 0]) := h245q.out.later hb
  clear h241q h242q h243q h244q h245q
  clear hb
  go_wp2_with fail
  refine hK.out _ _ h249q.out (fun hH => ?_)
  clear hK K
  try simp only [Act.put, List.setIfInBounds_toArray, List.set_cons_zero, List.set_cons_succ]
  refine wpAnyH_ready (rs := [2]) (by kernel_rfl) (by simp) ?_
  refine AllReadyH.cons (o := { dst := none, op := .store _ (.tmp 4) (.tmp 61), type := _, pos := _, after := _, guard := _ }) rfl (fun K hK => ?_) AllReadyH.nil
  rw [if_pos (by rfl)]
  refine wp_store_mid _ _ _ rfl (n + 2) _ t.all.toArray rfl rfl (h251q.out.thereOf t) (HZ.out t) (t.all_all) ?_
  simp only [Act.put]
  have h253q : Hid (Gd n w (u247q.setCells (n + 2) 0 t.all)) := h248q.out.asideAll (by omega) t
  have h254q : Hid (TAt (u247q.setCells (n + 2) 0 t.all) n t) := h249q.out.asideAll (by omega) t
  have h255q : Hid (Bo (u247q.setCells (n + 2) 0 t.all) (n + 1) [.int .i64 1, .int .i64 k, .int .i64 x]) := h250q.out.asideAll (by omega) t
  have h256q : Hid (TAt (u247q.setCells (n + 2) 0 t.all) (n + 2) t) := h251q.out.setAll t
  have h257q : Hid (Bo (u247q.setCells (n + 2) 0 t.all) (n + 3) [.int .i64 0, .int .i64 0]) := h252q.out.asideAll (by omega) t
  clear h248q h249q h250q h251q h252q
  refine hK.out _ _ h254q.out (fun hH => ?_)
  clear hK K
  generalize (u247q.setCells (n + 2) 0 t.all) = u258q at h253q h254q h255q h256q h257q hH ⊢
  try simp only [Act.put, List.setIfInBounds_toArray, List.set_cons_zero, List.set_cons_succ]
  refine wpAnyH_ready (rs := [3]) (by kernel_rfl) (by simp) ?_
  refine AllReadyH.cons (o := { dst := none, op := .store _ (.tmp 5) (.tmp 62), type := _, pos := _, after := _, guard := _ }) rfl (fun K hK => ?_) AllReadyH.nil
  rw [if_pos (by rfl)]
  refine wp_store_mid _ _ _ rfl (n + 3) _ #[.int .i64 (3), .int .i64 (0)] rfl rfl h257q.out.there2 HA.out (two_one _ _) ?_
  simp only [Act.put]
  have h259q : Hid (Gd n w (u258q.setCells (n + 3) 0 [.int .i64 (3), .int .i64 (0)])) := h253q.out.asideL (by omega) 0 [.int .i64 (3), .int .i64 (0)]
  have h260q : Hid (TAt (u258q.setCells (n + 3) 0 [.int .i64 (3), .int .i64 (0)]) n t) := h254q.out.asideL (by omega) 0 [.int .i64 (3), .int .i64 (0)]
  have h261q : Hid (Bo (u258q.setCells (n + 3) 0 [.int .i64 (3), .int .i64 (0)]) (n + 1) [.int .i64 1, .int .i64 k, .int .i64 x]) := h255q.out.asideL (by omega) 0 [.int .i64 (3), .int .i64 (0)]
  have h262q : Hid (TAt (u258q.setCells (n + 3) 0 [.int .i64 (3), .int .i64 (0)]) (n + 2) t) := h256q.out.asideL (by omega) 0 [.int .i64 (3), .int .i64 (0)]
  have h263q : Hid (Bo (u258q.setCells (n + 3) 0 [.int .i64 (3), .int .i64 (0)]) (n + 3) [.int .i64 (3), .int .i64 (0)]) := h257q.out.set2 (.int .i64 (3)) (.int .i64 (0))
  clear h253q h254q h255q h256q h257q
  refine hK.out _ _ h260q.out (fun hH => ?_)
  clear hK K
  generalize (u258q.setCells (n + 3) 0 [.int .i64 (3), .int .i64 (0)]) = u264q at h259q h260q h261q h262q h263q hH ⊢
  try simp only [Act.put, List.setIfInBounds_toArray, List.set_cons_zero, List.set_cons_succ]
  refine wpAnyH_done (by kernel_rfl) ?_ _
  go_wp2
  exact bodyPost_ret (results_row2 Tryd.results25 _ _ (n + 2) (n + 3) t.all [.int .i64 (3), .int .i64 (0)] _ _ rfl rfl h262q.out.range HD.out rfl (HS.out t) h263q.out.range HDA.out rfl HA.out) rfl ⟨rfl, h259q.out.2⟩

set_option maxHeartbeats 4000000 in
set_option maxRecDepth 20000 in
theorem rT_put_has (t : Tb) (k x : Int) (hn : t.k (place t k) = k) (hR : RT t) (hk1 : 1 ≤ k) (hk2 : k ≤ 1000) (w : World) :
    Calls Tryd.prog 25 #[.agg t.all.toArray, .agg #[.int .i64 1, .int .i64 k, .int .i64 x]] w (Told w (t.set (place t k) k x, 1, 0)) := by
  obtain ⟨na, ea, hd⟩ := rslots_array
  have HD : Hid _ := hd
  clear hd
  have HS : Hid (∀ t : Tb, (Tryd.prog.info? 31).map (·.size) = some t.all.length) := rslots_size
  have HZ : Hid (∀ t : Tb, (Tryd.prog.info? 31).map (·.size) = some t.all.toArray.size) := rslots_size2
  have HT : Hid ((Tryd.prog.info? 29).map (·.size) = some 2) := rslot_size
  have HA : Hid ((Tryd.prog.info? 38).map (·.size) = some 2) := answer_size
  obtain ⟨fs, ha⟩ := answer_struct
  have HDA : Hid _ := ha
  clear ha
  have g0 : Hid (Gd w.heap.size w w) := Gd.refl w
  have h265q : Hid (Gd w.heap.size w (w.alloc (.cells t.all.toArray 31))) := g0.out.new (.cells t.all.toArray 31)
  clear g0
  have h266q : Hid (TAt (w.alloc (.cells t.all.toArray 31)) w.heap.size t) := TAt.bornAt w t _ (by simp)
  have h267q : Hid (Gd w.heap.size w ((w.alloc (.cells t.all.toArray 31)).alloc (.cells #[.int .i64 1, .int .i64 k, .int .i64 x] 26))) := h265q.out.new (.cells #[.int .i64 1, .int .i64 k, .int .i64 x] 26)
  have h268q : Hid (TAt ((w.alloc (.cells t.all.toArray 31)).alloc (.cells #[.int .i64 1, .int .i64 k, .int .i64 x] 26)) w.heap.size t) := h266q.out.new (.cells #[.int .i64 1, .int .i64 k, .int .i64 x] 26)
  clear h265q h266q
  have h269q : Hid (Bo ((w.alloc (.cells t.all.toArray 31)).alloc (.cells #[.int .i64 1, .int .i64 k, .int .i64 x] 26)) (w.heap.size + 1) [.int .i64 1, .int .i64 k, .int .i64 x]) := Bo.born (w.alloc (.cells t.all.toArray 31)) [.int .i64 1, .int .i64 k, .int .i64 x] 26 (by simp)
  have h270q : Hid (Gd w.heap.size w (((w.alloc (.cells t.all.toArray 31)).alloc (.cells #[.int .i64 1, .int .i64 k, .int .i64 x] 26)).alloc (.cells #[.int .i64 0, .int .i64 0, .int .i64 0, .int .i64 0, .int .i64 0, .int .i64 0, .int .i64 0, .int .i64 0, .int .i64 0, .int .i64 0, .int .i64 0, .int .i64 0, .int .i64 0, .int .i64 0, .int .i64 0, .int .i64 0] 31))) := h267q.out.new (.cells #[.int .i64 0, .int .i64 0, .int .i64 0, .int .i64 0, .int .i64 0, .int .i64 0, .int .i64 0, .int .i64 0, .int .i64 0, .int .i64 0, .int .i64 0, .int .i64 0, .int .i64 0, .int .i64 0, .int .i64 0, .int .i64 0] 31)
  have h271q : Hid (TAt (((w.alloc (.cells t.all.toArray 31)).alloc (.cells #[.int .i64 1, .int .i64 k, .int .i64 x] 26)).alloc (.cells #[.int .i64 0, .int .i64 0, .int .i64 0, .int .i64 0, .int .i64 0, .int .i64 0, .int .i64 0, .int .i64 0, .int .i64 0, .int .i64 0, .int .i64 0, .int .i64 0, .int .i64 0, .int .i64 0, .int .i64 0, .int .i64 0] 31)) w.heap.size t) := h268q.out.new (.cells #[.int .i64 0, .int .i64 0, .int .i64 0, .int .i64 0, .int .i64 0, .int .i64 0, .int .i64 0, .int .i64 0, .int .i64 0, .int .i64 0, .int .i64 0, .int .i64 0, .int .i64 0, .int .i64 0, .int .i64 0, .int .i64 0] 31)
  have h272q : Hid (Bo (((w.alloc (.cells t.all.toArray 31)).alloc (.cells #[.int .i64 1, .int .i64 k, .int .i64 x] 26)).alloc (.cells #[.int .i64 0, .int .i64 0, .int .i64 0, .int .i64 0, .int .i64 0, .int .i64 0, .int .i64 0, .int .i64 0, .int .i64 0, .int .i64 0, .int .i64 0, .int .i64 0, .int .i64 0, .int .i64 0, .int .i64 0, .int .i64 0] 31)) (w.heap.size + 1) [.int .i64 1, .int .i64 k, .int .i64 x]) := h269q.out.new (.cells #[.int .i64 0, .int .i64 0, .int .i64 0, .int .i64 0, .int .i64 0, .int .i64 0, .int .i64 0, .int .i64 0, .int .i64 0, .int .i64 0, .int .i64 0, .int .i64 0, .int .i64 0, .int .i64 0, .int .i64 0, .int .i64 0] 31)
  clear h267q h268q h269q
  have h273q : Hid (TAt (((w.alloc (.cells t.all.toArray 31)).alloc (.cells #[.int .i64 1, .int .i64 k, .int .i64 x] 26)).alloc (.cells #[.int .i64 0, .int .i64 0, .int .i64 0, .int .i64 0, .int .i64 0, .int .i64 0, .int .i64 0, .int .i64 0, .int .i64 0, .int .i64 0, .int .i64 0, .int .i64 0, .int .i64 0, .int .i64 0, .int .i64 0, .int .i64 0] 31)) (w.heap.size + 2) Tb.zero) := TAt.bornZero ((w.alloc (.cells t.all.toArray 31)).alloc (.cells #[.int .i64 1, .int .i64 k, .int .i64 x] 26)) 31 (by simp)
  have h274q : Hid (Gd w.heap.size w ((((w.alloc (.cells t.all.toArray 31)).alloc (.cells #[.int .i64 1, .int .i64 k, .int .i64 x] 26)).alloc (.cells #[.int .i64 0, .int .i64 0, .int .i64 0, .int .i64 0, .int .i64 0, .int .i64 0, .int .i64 0, .int .i64 0, .int .i64 0, .int .i64 0, .int .i64 0, .int .i64 0, .int .i64 0, .int .i64 0, .int .i64 0, .int .i64 0] 31)).alloc (.cells #[.int .i64 0, .int .i64 0] 38))) := h270q.out.new (.cells #[.int .i64 0, .int .i64 0] 38)
  have h275q : Hid (TAt ((((w.alloc (.cells t.all.toArray 31)).alloc (.cells #[.int .i64 1, .int .i64 k, .int .i64 x] 26)).alloc (.cells #[.int .i64 0, .int .i64 0, .int .i64 0, .int .i64 0, .int .i64 0, .int .i64 0, .int .i64 0, .int .i64 0, .int .i64 0, .int .i64 0, .int .i64 0, .int .i64 0, .int .i64 0, .int .i64 0, .int .i64 0, .int .i64 0] 31)).alloc (.cells #[.int .i64 0, .int .i64 0] 38)) w.heap.size t) := h271q.out.new (.cells #[.int .i64 0, .int .i64 0] 38)
  have h276q : Hid (Bo ((((w.alloc (.cells t.all.toArray 31)).alloc (.cells #[.int .i64 1, .int .i64 k, .int .i64 x] 26)).alloc (.cells #[.int .i64 0, .int .i64 0, .int .i64 0, .int .i64 0, .int .i64 0, .int .i64 0, .int .i64 0, .int .i64 0, .int .i64 0, .int .i64 0, .int .i64 0, .int .i64 0, .int .i64 0, .int .i64 0, .int .i64 0, .int .i64 0] 31)).alloc (.cells #[.int .i64 0, .int .i64 0] 38)) (w.heap.size + 1) [.int .i64 1, .int .i64 k, .int .i64 x]) := h272q.out.new (.cells #[.int .i64 0, .int .i64 0] 38)
  have h277q : Hid (TAt ((((w.alloc (.cells t.all.toArray 31)).alloc (.cells #[.int .i64 1, .int .i64 k, .int .i64 x] 26)).alloc (.cells #[.int .i64 0, .int .i64 0, .int .i64 0, .int .i64 0, .int .i64 0, .int .i64 0, .int .i64 0, .int .i64 0, .int .i64 0, .int .i64 0, .int .i64 0, .int .i64 0, .int .i64 0, .int .i64 0, .int .i64 0, .int .i64 0] 31)).alloc (.cells #[.int .i64 0, .int .i64 0] 38)) (w.heap.size + 2) Tb.zero) := h273q.out.new (.cells #[.int .i64 0, .int .i64 0] 38)
  clear h270q h271q h272q h273q
  have h278q : Hid (Bo ((((w.alloc (.cells t.all.toArray 31)).alloc (.cells #[.int .i64 1, .int .i64 k, .int .i64 x] 26)).alloc (.cells #[.int .i64 0, .int .i64 0, .int .i64 0, .int .i64 0, .int .i64 0, .int .i64 0, .int .i64 0, .int .i64 0, .int .i64 0, .int .i64 0, .int .i64 0, .int .i64 0, .int .i64 0, .int .i64 0, .int .i64 0, .int .i64 0] 31)).alloc (.cells #[.int .i64 0, .int .i64 0] 38)) (w.heap.size + 3) [.int .i64 0, .int .i64 0]) := Bo.born (((w.alloc (.cells t.all.toArray 31)).alloc (.cells #[.int .i64 1, .int .i64 k, .int .i64 x] 26)).alloc (.cells #[.int .i64 0, .int .i64 0, .int .i64 0, .int .i64 0, .int .i64 0, .int .i64 0, .int .i64 0, .int .i64 0, .int .i64 0, .int .i64 0, .int .i64 0, .int .i64 0, .int .i64 0, .int .i64 0, .int .i64 0, .int .i64 0] 31)) [.int .i64 0, .int .i64 0] 38 (by simp)
  have R : Hid (RT t) := hR
  have PL := RPlace_is t k (by omega) hk2 hR.free
  have W1 := rwithin_yes 1 1 6
  have W2 := rwithin_yes k 1 1000
  have H1 : Hid ((1 : Int) ≤ 1 ∧ (1 : Int) ≤ 6) := (by omega : (1 : Int) ≤ 1 ∧ (1 : Int) ≤ 6)
  have H2 : Hid (1 ≤ k ∧ k ≤ 1000) := ⟨hk1, hk2⟩
  have hp := place_lt t k
  have hx0 : (t.k (place t k) == 0) = false := by simp [hn]; omega
  have HX : Hid (t.k (place t k) = k) := hn
  clear hn
  generalize place t k = p at *
  have hp1 : (p : Int) < 8 := by omega
  have hp0 : (0 : Int) ≤ (p : Int) := by omega
  clear hk1 hk2 hR
  go_enter Tryd.func25, Tryd.ntmps25
  go_wp2_with fail
  generalize ((((w.alloc (.cells t.all.toArray 31)).alloc (.cells #[.int .i64 1, .int .i64 k, .int .i64 x] 26)).alloc (.cells #[.int .i64 0, .int .i64 0, .int .i64 0, .int .i64 0, .int .i64 0, .int .i64 0, .int .i64 0, .int .i64 0, .int .i64 0, .int .i64 0, .int .i64 0, .int .i64 0, .int .i64 0, .int .i64 0, .int .i64 0, .int .i64 0] 31)).alloc (.cells #[.int .i64 0, .int .i64 0] 38)) = W at h274q h275q h276q h277q h278q ⊢
  generalize w.heap.size = n at h274q h275q h276q h277q h278q ⊢
  have d279q := h276q.out.at 0 rfl
  have d280q := h276q.out.at 1 rfl
  refine (W1 _ H1.out.1 H1.out.2).mono ?_
  rintro e u281q ⟨rfl, hw⟩
  rw [hw]; clear hw u281q
  go_wp2_with fail
  refine (W2 _ H2.out.1 H2.out.2).mono ?_
  rintro e u282q ⟨rfl, hw⟩
  rw [hw]; clear hw u282q
  go_wp2_with (first
    | (refine wpList_load_mid rfl 31 _ rfl n _ rfl t.all _ h275q.out.range HD.out rfl (HS.out t) ?_))
  refine (PL _).mono ?_
  rintro e u283q ⟨rfl, hb⟩
  have h284q : Hid (Gd n w u283q) := h274q.out.later hb
  have h285q : Hid (TAt u283q n t) := h275q.out.later hb
  have h286q : Hid (Bo u283q (n + 1) [.int .i64 1, .int .i64 k, .int .i64 x]) := h276q.out.later hb
  have h287q : Hid (TAt u283q (n + 2) Tb.zero) := h277q.out.later hb
  have h288q : Hid (Bo u283q (n + 3) [.int .i64 0, .int .i64 0]) := h278q.out.later hb
  clear h274q h275q h276q h277q h278q
  clear hb
  clear PL W1 W2
  have d289q := h286q.out.at 0 rfl
  have cx := h285q.out.key hp
  have d290q := h286q.out.at 1 rfl
  have d291q := h286q.out.at 2 rfl
  go_wp2_with (first
    | (refine wpList_store_mid rfl 29 _ _ rfl n _ #[.int .i64 (k), .int .i64 (x)] rfl rfl (h285q.out.thereS hp) HT.out (two_one _ _) ?_
       have h292q : Hid (Gd n w (u283q.setCells n (p * 2) [.int .i64 (k), .int .i64 (x)])) := h284q.out.asideL (by omega) (p * 2) [.int .i64 (k), .int .i64 (x)]
       have h293q : Hid (TAt (u283q.setCells n (p * 2) [.int .i64 (k), .int .i64 (x)]) n (t.set p k x)) := h285q.out.slot hp (k) (x)
       have h294q : Hid (Bo (u283q.setCells n (p * 2) [.int .i64 (k), .int .i64 (x)]) (n + 1) [.int .i64 1, .int .i64 k, .int .i64 x]) := h286q.out.asideL (by omega) (p * 2) [.int .i64 (k), .int .i64 (x)]
       have h295q : Hid (TAt (u283q.setCells n (p * 2) [.int .i64 (k), .int .i64 (x)]) (n + 2) Tb.zero) := h287q.out.asideL (by omega) (p * 2) [.int .i64 (k), .int .i64 (x)]
       have h296q : Hid (Bo (u283q.setCells n (p * 2) [.int .i64 (k), .int .i64 (x)]) (n + 3) [.int .i64 0, .int .i64 0]) := h288q.out.asideL (by omega) (p * 2) [.int .i64 (k), .int .i64 (x)]
       clear h284q h285q h286q h287q h288q
       generalize (u283q.setCells n (p * 2) [.int .i64 (k), .int .i64 (x)]) = u297q at h292q h293q h294q h295q h296q  ⊢))
  have SA := said_is (1) (0)
  have h298q : Hid (Gd n w u297q.drew) := h292q.out.drew
  have h299q : Hid (TAt u297q.drew n (t.set p k x)) := h293q.out.drew
  have h300q : Hid (Bo u297q.drew (n + 1) [.int .i64 1, .int .i64 k, .int .i64 x]) := h294q.out.drew
  have h301q : Hid (TAt u297q.drew (n + 2) Tb.zero) := h295q.out.drew
  have h302q : Hid (Bo u297q.drew (n + 3) [.int .i64 0, .int .i64 0]) := h296q.out.drew
  clear h292q h293q h294q h295q h296q
  refine wp_region_held_drew (S := fun w' => TAt w' n (t.set p k x)) (by kernel_rfl) h299q.out (fun hH => ?_)
  generalize u297q.drew = u303q at h298q h299q h300q h301q h302q hH ⊢
  refine wpAnyH_take (i := 0) (oi := { dst := some 70, op := .load _ (.tmp 2), type := _, pos := _, after := _, guard := _ }) (v := _) rfl (by kernel_rfl) (by kernel_rfl) (by kernel_rfl) (fun _ _ _ h => h) (yieldsIf_load_mid (by rfl) _ _ rfl n _ rfl (t.set p k x).all _ (fun _ h => (h).range) HD.out rfl (HS.out (t.set p k x))) hH ?_
  simp only [Act.put, List.setIfInBounds_toArray, List.set_cons_zero, List.set_cons_succ]
  refine wpAnyH_ready (rs := [1]) (by kernel_rfl) (by simp) ?_
  refine AllReadyH.cons (o := { dst := some 71, op := _, type := _, pos := _, after := _, guard := _ }) rfl (fun K hK => ?_) AllReadyH.nil
  go_simp
  refine (SA _).mono ?_
  rintro e u304q ⟨rfl, hb⟩
  have h305q : Hid (Gd n w u304q) := h298q.out.later hb
  have h306q : Hid (TAt u304q n (t.set p k x)) := h299q.out.later hb
  have h307q : Hid (Bo u304q (n + 1) [.int .i64 1, .int .i64 k, .int .i64 x]) := h300q.out.later hb
  have h308q : Hid (TAt u304q (n + 2) Tb.zero) := h301q.out.later hb
  have h309q : Hid (Bo u304q (n + 3) [.int .i64 0, .int .i64 0]) := h302q.out.later hb
  clear h298q h299q h300q h301q h302q
  clear hb
  go_wp2_with fail
  refine hK.out _ _ h306q.out (fun hH => ?_)
  clear hK K
  try simp only [Act.put, List.setIfInBounds_toArray, List.set_cons_zero, List.set_cons_succ]
  refine wpAnyH_ready (rs := [2]) (by kernel_rfl) (by simp) ?_
  refine AllReadyH.cons (o := { dst := none, op := .store _ (.tmp 4) (.tmp 70), type := _, pos := _, after := _, guard := _ }) rfl (fun K hK => ?_) AllReadyH.nil
  rw [if_pos (by rfl)]
  refine wp_store_mid _ _ _ rfl (n + 2) _ (t.set p k x).all.toArray rfl rfl (h308q.out.thereOf (t.set p k x)) (HZ.out (t.set p k x)) ((t.set p k x).all_all) ?_
  simp only [Act.put]
  have h310q : Hid (Gd n w (u304q.setCells (n + 2) 0 (t.set p k x).all)) := h305q.out.asideAll (by omega) (t.set p k x)
  have h311q : Hid (TAt (u304q.setCells (n + 2) 0 (t.set p k x).all) n (t.set p k x)) := h306q.out.asideAll (by omega) (t.set p k x)
  have h312q : Hid (Bo (u304q.setCells (n + 2) 0 (t.set p k x).all) (n + 1) [.int .i64 1, .int .i64 k, .int .i64 x]) := h307q.out.asideAll (by omega) (t.set p k x)
  have h313q : Hid (TAt (u304q.setCells (n + 2) 0 (t.set p k x).all) (n + 2) (t.set p k x)) := h308q.out.setAll (t.set p k x)
  have h314q : Hid (Bo (u304q.setCells (n + 2) 0 (t.set p k x).all) (n + 3) [.int .i64 0, .int .i64 0]) := h309q.out.asideAll (by omega) (t.set p k x)
  clear h305q h306q h307q h308q h309q
  refine hK.out _ _ h311q.out (fun hH => ?_)
  clear hK K
  generalize (u304q.setCells (n + 2) 0 (t.set p k x).all) = u315q at h310q h311q h312q h313q h314q hH ⊢
  try simp only [Act.put, List.setIfInBounds_toArray, List.set_cons_zero, List.set_cons_succ]
  refine wpAnyH_ready (rs := [3]) (by kernel_rfl) (by simp) ?_
  refine AllReadyH.cons (o := { dst := none, op := .store _ (.tmp 5) (.tmp 71), type := _, pos := _, after := _, guard := _ }) rfl (fun K hK => ?_) AllReadyH.nil
  rw [if_pos (by rfl)]
  refine wp_store_mid _ _ _ rfl (n + 3) _ #[.int .i64 (1), .int .i64 (0)] rfl rfl h314q.out.there2 HA.out (two_one _ _) ?_
  simp only [Act.put]
  have h316q : Hid (Gd n w (u315q.setCells (n + 3) 0 [.int .i64 (1), .int .i64 (0)])) := h310q.out.asideL (by omega) 0 [.int .i64 (1), .int .i64 (0)]
  have h317q : Hid (TAt (u315q.setCells (n + 3) 0 [.int .i64 (1), .int .i64 (0)]) n (t.set p k x)) := h311q.out.asideL (by omega) 0 [.int .i64 (1), .int .i64 (0)]
  have h318q : Hid (Bo (u315q.setCells (n + 3) 0 [.int .i64 (1), .int .i64 (0)]) (n + 1) [.int .i64 1, .int .i64 k, .int .i64 x]) := h312q.out.asideL (by omega) 0 [.int .i64 (1), .int .i64 (0)]
  have h319q : Hid (TAt (u315q.setCells (n + 3) 0 [.int .i64 (1), .int .i64 (0)]) (n + 2) (t.set p k x)) := h313q.out.asideL (by omega) 0 [.int .i64 (1), .int .i64 (0)]
  have h320q : Hid (Bo (u315q.setCells (n + 3) 0 [.int .i64 (1), .int .i64 (0)]) (n + 3) [.int .i64 (1), .int .i64 (0)]) := h314q.out.set2 (.int .i64 (1)) (.int .i64 (0))
  clear h310q h311q h312q h313q h314q
  refine hK.out _ _ h317q.out (fun hH => ?_)
  clear hK K
  generalize (u315q.setCells (n + 3) 0 [.int .i64 (1), .int .i64 (0)]) = u321q at h316q h317q h318q h319q h320q hH ⊢
  try simp only [Act.put, List.setIfInBounds_toArray, List.set_cons_zero, List.set_cons_succ]
  refine wpAnyH_done (by kernel_rfl) ?_ _
  go_wp2
  exact bodyPost_ret (results_row2 Tryd.results25 _ _ (n + 2) (n + 3) (t.set p k x).all [.int .i64 (1), .int .i64 (0)] _ _ rfl rfl h319q.out.range HD.out rfl (HS.out (t.set p k x)) h320q.out.range HDA.out rfl HA.out) rfl ⟨rfl, h316q.out.2⟩

set_option maxHeartbeats 4000000 in
set_option maxRecDepth 20000 in
theorem rT_put_new (t : Tb) (k x : Int) (hn : t.k (place t k) ≠ k) (hl : len t < 6) (hR : RT t) (hk1 : 1 ≤ k) (hk2 : k ≤ 1000) (w : World) :
    Calls Tryd.prog 25 #[.agg t.all.toArray, .agg #[.int .i64 1, .int .i64 k, .int .i64 x]] w (Told w (t.set (place t k) k x, 1, 0)) := by
  obtain ⟨na, ea, hd⟩ := rslots_array
  have HD : Hid _ := hd
  clear hd
  have HS : Hid (∀ t : Tb, (Tryd.prog.info? 31).map (·.size) = some t.all.length) := rslots_size
  have HZ : Hid (∀ t : Tb, (Tryd.prog.info? 31).map (·.size) = some t.all.toArray.size) := rslots_size2
  have HT : Hid ((Tryd.prog.info? 29).map (·.size) = some 2) := rslot_size
  have HA : Hid ((Tryd.prog.info? 38).map (·.size) = some 2) := answer_size
  obtain ⟨fs, ha⟩ := answer_struct
  have HDA : Hid _ := ha
  clear ha
  have g0 : Hid (Gd w.heap.size w w) := Gd.refl w
  have h322q : Hid (Gd w.heap.size w (w.alloc (.cells t.all.toArray 31))) := g0.out.new (.cells t.all.toArray 31)
  clear g0
  have h323q : Hid (TAt (w.alloc (.cells t.all.toArray 31)) w.heap.size t) := TAt.bornAt w t _ (by simp)
  have h324q : Hid (Gd w.heap.size w ((w.alloc (.cells t.all.toArray 31)).alloc (.cells #[.int .i64 1, .int .i64 k, .int .i64 x] 26))) := h322q.out.new (.cells #[.int .i64 1, .int .i64 k, .int .i64 x] 26)
  have h325q : Hid (TAt ((w.alloc (.cells t.all.toArray 31)).alloc (.cells #[.int .i64 1, .int .i64 k, .int .i64 x] 26)) w.heap.size t) := h323q.out.new (.cells #[.int .i64 1, .int .i64 k, .int .i64 x] 26)
  clear h322q h323q
  have h326q : Hid (Bo ((w.alloc (.cells t.all.toArray 31)).alloc (.cells #[.int .i64 1, .int .i64 k, .int .i64 x] 26)) (w.heap.size + 1) [.int .i64 1, .int .i64 k, .int .i64 x]) := Bo.born (w.alloc (.cells t.all.toArray 31)) [.int .i64 1, .int .i64 k, .int .i64 x] 26 (by simp)
  have h327q : Hid (Gd w.heap.size w (((w.alloc (.cells t.all.toArray 31)).alloc (.cells #[.int .i64 1, .int .i64 k, .int .i64 x] 26)).alloc (.cells #[.int .i64 0, .int .i64 0, .int .i64 0, .int .i64 0, .int .i64 0, .int .i64 0, .int .i64 0, .int .i64 0, .int .i64 0, .int .i64 0, .int .i64 0, .int .i64 0, .int .i64 0, .int .i64 0, .int .i64 0, .int .i64 0] 31))) := h324q.out.new (.cells #[.int .i64 0, .int .i64 0, .int .i64 0, .int .i64 0, .int .i64 0, .int .i64 0, .int .i64 0, .int .i64 0, .int .i64 0, .int .i64 0, .int .i64 0, .int .i64 0, .int .i64 0, .int .i64 0, .int .i64 0, .int .i64 0] 31)
  have h328q : Hid (TAt (((w.alloc (.cells t.all.toArray 31)).alloc (.cells #[.int .i64 1, .int .i64 k, .int .i64 x] 26)).alloc (.cells #[.int .i64 0, .int .i64 0, .int .i64 0, .int .i64 0, .int .i64 0, .int .i64 0, .int .i64 0, .int .i64 0, .int .i64 0, .int .i64 0, .int .i64 0, .int .i64 0, .int .i64 0, .int .i64 0, .int .i64 0, .int .i64 0] 31)) w.heap.size t) := h325q.out.new (.cells #[.int .i64 0, .int .i64 0, .int .i64 0, .int .i64 0, .int .i64 0, .int .i64 0, .int .i64 0, .int .i64 0, .int .i64 0, .int .i64 0, .int .i64 0, .int .i64 0, .int .i64 0, .int .i64 0, .int .i64 0, .int .i64 0] 31)
  have h329q : Hid (Bo (((w.alloc (.cells t.all.toArray 31)).alloc (.cells #[.int .i64 1, .int .i64 k, .int .i64 x] 26)).alloc (.cells #[.int .i64 0, .int .i64 0, .int .i64 0, .int .i64 0, .int .i64 0, .int .i64 0, .int .i64 0, .int .i64 0, .int .i64 0, .int .i64 0, .int .i64 0, .int .i64 0, .int .i64 0, .int .i64 0, .int .i64 0, .int .i64 0] 31)) (w.heap.size + 1) [.int .i64 1, .int .i64 k, .int .i64 x]) := h326q.out.new (.cells #[.int .i64 0, .int .i64 0, .int .i64 0, .int .i64 0, .int .i64 0, .int .i64 0, .int .i64 0, .int .i64 0, .int .i64 0, .int .i64 0, .int .i64 0, .int .i64 0, .int .i64 0, .int .i64 0, .int .i64 0, .int .i64 0] 31)
  clear h324q h325q h326q
  have h330q : Hid (TAt (((w.alloc (.cells t.all.toArray 31)).alloc (.cells #[.int .i64 1, .int .i64 k, .int .i64 x] 26)).alloc (.cells #[.int .i64 0, .int .i64 0, .int .i64 0, .int .i64 0, .int .i64 0, .int .i64 0, .int .i64 0, .int .i64 0, .int .i64 0, .int .i64 0, .int .i64 0, .int .i64 0, .int .i64 0, .int .i64 0, .int .i64 0, .int .i64 0] 31)) (w.heap.size + 2) Tb.zero) := TAt.bornZero ((w.alloc (.cells t.all.toArray 31)).alloc (.cells #[.int .i64 1, .int .i64 k, .int .i64 x] 26)) 31 (by simp)
  have h331q : Hid (Gd w.heap.size w ((((w.alloc (.cells t.all.toArray 31)).alloc (.cells #[.int .i64 1, .int .i64 k, .int .i64 x] 26)).alloc (.cells #[.int .i64 0, .int .i64 0, .int .i64 0, .int .i64 0, .int .i64 0, .int .i64 0, .int .i64 0, .int .i64 0, .int .i64 0, .int .i64 0, .int .i64 0, .int .i64 0, .int .i64 0, .int .i64 0, .int .i64 0, .int .i64 0] 31)).alloc (.cells #[.int .i64 0, .int .i64 0] 38))) := h327q.out.new (.cells #[.int .i64 0, .int .i64 0] 38)
  have h332q : Hid (TAt ((((w.alloc (.cells t.all.toArray 31)).alloc (.cells #[.int .i64 1, .int .i64 k, .int .i64 x] 26)).alloc (.cells #[.int .i64 0, .int .i64 0, .int .i64 0, .int .i64 0, .int .i64 0, .int .i64 0, .int .i64 0, .int .i64 0, .int .i64 0, .int .i64 0, .int .i64 0, .int .i64 0, .int .i64 0, .int .i64 0, .int .i64 0, .int .i64 0] 31)).alloc (.cells #[.int .i64 0, .int .i64 0] 38)) w.heap.size t) := h328q.out.new (.cells #[.int .i64 0, .int .i64 0] 38)
  have h333q : Hid (Bo ((((w.alloc (.cells t.all.toArray 31)).alloc (.cells #[.int .i64 1, .int .i64 k, .int .i64 x] 26)).alloc (.cells #[.int .i64 0, .int .i64 0, .int .i64 0, .int .i64 0, .int .i64 0, .int .i64 0, .int .i64 0, .int .i64 0, .int .i64 0, .int .i64 0, .int .i64 0, .int .i64 0, .int .i64 0, .int .i64 0, .int .i64 0, .int .i64 0] 31)).alloc (.cells #[.int .i64 0, .int .i64 0] 38)) (w.heap.size + 1) [.int .i64 1, .int .i64 k, .int .i64 x]) := h329q.out.new (.cells #[.int .i64 0, .int .i64 0] 38)
  have h334q : Hid (TAt ((((w.alloc (.cells t.all.toArray 31)).alloc (.cells #[.int .i64 1, .int .i64 k, .int .i64 x] 26)).alloc (.cells #[.int .i64 0, .int .i64 0, .int .i64 0, .int .i64 0, .int .i64 0, .int .i64 0, .int .i64 0, .int .i64 0, .int .i64 0, .int .i64 0, .int .i64 0, .int .i64 0, .int .i64 0, .int .i64 0, .int .i64 0, .int .i64 0] 31)).alloc (.cells #[.int .i64 0, .int .i64 0] 38)) (w.heap.size + 2) Tb.zero) := h330q.out.new (.cells #[.int .i64 0, .int .i64 0] 38)
  clear h327q h328q h329q h330q
  have h335q : Hid (Bo ((((w.alloc (.cells t.all.toArray 31)).alloc (.cells #[.int .i64 1, .int .i64 k, .int .i64 x] 26)).alloc (.cells #[.int .i64 0, .int .i64 0, .int .i64 0, .int .i64 0, .int .i64 0, .int .i64 0, .int .i64 0, .int .i64 0, .int .i64 0, .int .i64 0, .int .i64 0, .int .i64 0, .int .i64 0, .int .i64 0, .int .i64 0, .int .i64 0] 31)).alloc (.cells #[.int .i64 0, .int .i64 0] 38)) (w.heap.size + 3) [.int .i64 0, .int .i64 0]) := Bo.born (((w.alloc (.cells t.all.toArray 31)).alloc (.cells #[.int .i64 1, .int .i64 k, .int .i64 x] 26)).alloc (.cells #[.int .i64 0, .int .i64 0, .int .i64 0, .int .i64 0, .int .i64 0, .int .i64 0, .int .i64 0, .int .i64 0, .int .i64 0, .int .i64 0, .int .i64 0, .int .i64 0, .int .i64 0, .int .i64 0, .int .i64 0, .int .i64 0] 31)) [.int .i64 0, .int .i64 0] 38 (by simp)
  have R : Hid (RT t) := hR
  have PL := RPlace_is t k (by omega) hk2 hR.free
  have W1 := rwithin_yes 1 1 6
  have W2 := rwithin_yes k 1 1000
  have H1 : Hid ((1 : Int) ≤ 1 ∧ (1 : Int) ≤ 6) := (by omega : (1 : Int) ≤ 1 ∧ (1 : Int) ≤ 6)
  have H2 : Hid (1 ≤ k ∧ k ≤ 1000) := ⟨hk1, hk2⟩
  have hp := place_lt t k
  have hx0 : t.k (place t k) = 0 := free_of_place hR hn
  clear hn
  generalize place t k = p at *
  have hp1 : (p : Int) < 8 := by omega
  have hp0 : (0 : Int) ≤ (p : Int) := by omega
  clear hk1 hk2 hR
  go_enter Tryd.func25, Tryd.ntmps25
  go_wp2_with fail
  generalize ((((w.alloc (.cells t.all.toArray 31)).alloc (.cells #[.int .i64 1, .int .i64 k, .int .i64 x] 26)).alloc (.cells #[.int .i64 0, .int .i64 0, .int .i64 0, .int .i64 0, .int .i64 0, .int .i64 0, .int .i64 0, .int .i64 0, .int .i64 0, .int .i64 0, .int .i64 0, .int .i64 0, .int .i64 0, .int .i64 0, .int .i64 0, .int .i64 0] 31)).alloc (.cells #[.int .i64 0, .int .i64 0] 38)) = W at h331q h332q h333q h334q h335q ⊢
  generalize w.heap.size = n at h331q h332q h333q h334q h335q ⊢
  have d336q := h333q.out.at 0 rfl
  have d337q := h333q.out.at 1 rfl
  refine (W1 _ H1.out.1 H1.out.2).mono ?_
  rintro e u338q ⟨rfl, hw⟩
  rw [hw]; clear hw u338q
  go_wp2_with fail
  refine (W2 _ H2.out.1 H2.out.2).mono ?_
  rintro e u339q ⟨rfl, hw⟩
  rw [hw]; clear hw u339q
  go_wp2_with (first
    | (refine wpList_load_mid rfl 31 _ rfl n _ rfl t.all _ h332q.out.range HD.out rfl (HS.out t) ?_))
  refine (PL _).mono ?_
  rintro e u340q ⟨rfl, hb⟩
  have h341q : Hid (Gd n w u340q) := h331q.out.later hb
  have h342q : Hid (TAt u340q n t) := h332q.out.later hb
  have h343q : Hid (Bo u340q (n + 1) [.int .i64 1, .int .i64 k, .int .i64 x]) := h333q.out.later hb
  have h344q : Hid (TAt u340q (n + 2) Tb.zero) := h334q.out.later hb
  have h345q : Hid (Bo u340q (n + 3) [.int .i64 0, .int .i64 0]) := h335q.out.later hb
  clear h331q h332q h333q h334q h335q
  clear hb
  clear PL W1 W2
  have d346q := h343q.out.at 0 rfl
  have cx := h342q.out.key hp
  rw [hx0] at cx
  have LL := RLen_is t
  generalize len t = l at *
  have hl1 : ((l : Int) == 6) = false := by simp only [beq_eq_false_iff_ne]; omega
  go_wp2_with (first
    | (refine wpList_load_wanted (by rfl) 31 _ rfl n _ rfl t.all _ h342q.out.range HD.out rfl (HS.out t) ?_))
  refine (LL _).mono ?_
  rintro e u347q ⟨rfl, hb⟩
  have h348q : Hid (Gd n w u347q) := h341q.out.later hb
  have h349q : Hid (TAt u347q n t) := h342q.out.later hb
  have h350q : Hid (Bo u347q (n + 1) [.int .i64 1, .int .i64 k, .int .i64 x]) := h343q.out.later hb
  have h351q : Hid (TAt u347q (n + 2) Tb.zero) := h344q.out.later hb
  have h352q : Hid (Bo u347q (n + 3) [.int .i64 0, .int .i64 0]) := h345q.out.later hb
  clear h341q h342q h343q h344q h345q
  clear hb
  clear LL
  have d353q := h350q.out.at 0 rfl
  have d354q := h350q.out.at 1 rfl
  have d355q := h350q.out.at 2 rfl
  go_wp2_with (first
    | (refine wpList_store_mid rfl 29 _ _ rfl n _ #[.int .i64 (k), .int .i64 (x)] rfl rfl (h349q.out.thereS hp) HT.out (two_one _ _) ?_
       have h356q : Hid (Gd n w (u347q.setCells n (p * 2) [.int .i64 (k), .int .i64 (x)])) := h348q.out.asideL (by omega) (p * 2) [.int .i64 (k), .int .i64 (x)]
       have h357q : Hid (TAt (u347q.setCells n (p * 2) [.int .i64 (k), .int .i64 (x)]) n (t.set p k x)) := h349q.out.slot hp (k) (x)
       have h358q : Hid (Bo (u347q.setCells n (p * 2) [.int .i64 (k), .int .i64 (x)]) (n + 1) [.int .i64 1, .int .i64 k, .int .i64 x]) := h350q.out.asideL (by omega) (p * 2) [.int .i64 (k), .int .i64 (x)]
       have h359q : Hid (TAt (u347q.setCells n (p * 2) [.int .i64 (k), .int .i64 (x)]) (n + 2) Tb.zero) := h351q.out.asideL (by omega) (p * 2) [.int .i64 (k), .int .i64 (x)]
       have h360q : Hid (Bo (u347q.setCells n (p * 2) [.int .i64 (k), .int .i64 (x)]) (n + 3) [.int .i64 0, .int .i64 0]) := h352q.out.asideL (by omega) (p * 2) [.int .i64 (k), .int .i64 (x)]
       clear h348q h349q h350q h351q h352q
       generalize (u347q.setCells n (p * 2) [.int .i64 (k), .int .i64 (x)]) = u361q at h356q h357q h358q h359q h360q  ⊢))
  have SA := said_is (1) (0)
  have h362q : Hid (Gd n w u361q.drew) := h356q.out.drew
  have h363q : Hid (TAt u361q.drew n (t.set p k x)) := h357q.out.drew
  have h364q : Hid (Bo u361q.drew (n + 1) [.int .i64 1, .int .i64 k, .int .i64 x]) := h358q.out.drew
  have h365q : Hid (TAt u361q.drew (n + 2) Tb.zero) := h359q.out.drew
  have h366q : Hid (Bo u361q.drew (n + 3) [.int .i64 0, .int .i64 0]) := h360q.out.drew
  clear h356q h357q h358q h359q h360q
  refine wp_region_held_drew (S := fun w' => TAt w' n (t.set p k x)) (by kernel_rfl) h363q.out (fun hH => ?_)
  generalize u361q.drew = u367q at h362q h363q h364q h365q h366q hH ⊢
  refine wpAnyH_take (i := 0) (oi := { dst := some 70, op := .load _ (.tmp 2), type := _, pos := _, after := _, guard := _ }) (v := _) rfl (by kernel_rfl) (by kernel_rfl) (by kernel_rfl) (fun _ _ _ h => h) (yieldsIf_load_mid (by rfl) _ _ rfl n _ rfl (t.set p k x).all _ (fun _ h => (h).range) HD.out rfl (HS.out (t.set p k x))) hH ?_
  simp only [Act.put, List.setIfInBounds_toArray, List.set_cons_zero, List.set_cons_succ]
  refine wpAnyH_ready (rs := [1]) (by kernel_rfl) (by simp) ?_
  refine AllReadyH.cons (o := { dst := some 71, op := _, type := _, pos := _, after := _, guard := _ }) rfl (fun K hK => ?_) AllReadyH.nil
  go_simp
  refine (SA _).mono ?_
  rintro e u368q ⟨rfl, hb⟩
  have h369q : Hid (Gd n w u368q) := h362q.out.later hb
  have h370q : Hid (TAt u368q n (t.set p k x)) := h363q.out.later hb
  have h371q : Hid (Bo u368q (n + 1) [.int .i64 1, .int .i64 k, .int .i64 x]) := h364q.out.later hb
  have h372q : Hid (TAt u368q (n + 2) Tb.zero) := h365q.out.later hb
  have h373q : Hid (Bo u368q (n + 3) [.int .i64 0, .int .i64 0]) := h366q.out.later hb
  clear h362q h363q h364q h365q h366q
  clear hb
  go_wp2_with fail
  refine hK.out _ _ h370q.out (fun hH => ?_)
  clear hK K
  try simp only [Act.put, List.setIfInBounds_toArray, List.set_cons_zero, List.set_cons_succ]
  refine wpAnyH_ready (rs := [2]) (by kernel_rfl) (by simp) ?_
  refine AllReadyH.cons (o := { dst := none, op := .store _ (.tmp 4) (.tmp 70), type := _, pos := _, after := _, guard := _ }) rfl (fun K hK => ?_) AllReadyH.nil
  rw [if_pos (by rfl)]
  refine wp_store_mid _ _ _ rfl (n + 2) _ (t.set p k x).all.toArray rfl rfl (h372q.out.thereOf (t.set p k x)) (HZ.out (t.set p k x)) ((t.set p k x).all_all) ?_
  simp only [Act.put]
  have h374q : Hid (Gd n w (u368q.setCells (n + 2) 0 (t.set p k x).all)) := h369q.out.asideAll (by omega) (t.set p k x)
  have h375q : Hid (TAt (u368q.setCells (n + 2) 0 (t.set p k x).all) n (t.set p k x)) := h370q.out.asideAll (by omega) (t.set p k x)
  have h376q : Hid (Bo (u368q.setCells (n + 2) 0 (t.set p k x).all) (n + 1) [.int .i64 1, .int .i64 k, .int .i64 x]) := h371q.out.asideAll (by omega) (t.set p k x)
  have h377q : Hid (TAt (u368q.setCells (n + 2) 0 (t.set p k x).all) (n + 2) (t.set p k x)) := h372q.out.setAll (t.set p k x)
  have h378q : Hid (Bo (u368q.setCells (n + 2) 0 (t.set p k x).all) (n + 3) [.int .i64 0, .int .i64 0]) := h373q.out.asideAll (by omega) (t.set p k x)
  clear h369q h370q h371q h372q h373q
  refine hK.out _ _ h375q.out (fun hH => ?_)
  clear hK K
  generalize (u368q.setCells (n + 2) 0 (t.set p k x).all) = u379q at h374q h375q h376q h377q h378q hH ⊢
  try simp only [Act.put, List.setIfInBounds_toArray, List.set_cons_zero, List.set_cons_succ]
  refine wpAnyH_ready (rs := [3]) (by kernel_rfl) (by simp) ?_
  refine AllReadyH.cons (o := { dst := none, op := .store _ (.tmp 5) (.tmp 71), type := _, pos := _, after := _, guard := _ }) rfl (fun K hK => ?_) AllReadyH.nil
  rw [if_pos (by rfl)]
  refine wp_store_mid _ _ _ rfl (n + 3) _ #[.int .i64 (1), .int .i64 (0)] rfl rfl h378q.out.there2 HA.out (two_one _ _) ?_
  simp only [Act.put]
  have h380q : Hid (Gd n w (u379q.setCells (n + 3) 0 [.int .i64 (1), .int .i64 (0)])) := h374q.out.asideL (by omega) 0 [.int .i64 (1), .int .i64 (0)]
  have h381q : Hid (TAt (u379q.setCells (n + 3) 0 [.int .i64 (1), .int .i64 (0)]) n (t.set p k x)) := h375q.out.asideL (by omega) 0 [.int .i64 (1), .int .i64 (0)]
  have h382q : Hid (Bo (u379q.setCells (n + 3) 0 [.int .i64 (1), .int .i64 (0)]) (n + 1) [.int .i64 1, .int .i64 k, .int .i64 x]) := h376q.out.asideL (by omega) 0 [.int .i64 (1), .int .i64 (0)]
  have h383q : Hid (TAt (u379q.setCells (n + 3) 0 [.int .i64 (1), .int .i64 (0)]) (n + 2) (t.set p k x)) := h377q.out.asideL (by omega) 0 [.int .i64 (1), .int .i64 (0)]
  have h384q : Hid (Bo (u379q.setCells (n + 3) 0 [.int .i64 (1), .int .i64 (0)]) (n + 3) [.int .i64 (1), .int .i64 (0)]) := h378q.out.set2 (.int .i64 (1)) (.int .i64 (0))
  clear h374q h375q h376q h377q h378q
  refine hK.out _ _ h381q.out (fun hH => ?_)
  clear hK K
  generalize (u379q.setCells (n + 3) 0 [.int .i64 (1), .int .i64 (0)]) = u385q at h380q h381q h382q h383q h384q hH ⊢
  try simp only [Act.put, List.setIfInBounds_toArray, List.set_cons_zero, List.set_cons_succ]
  refine wpAnyH_done (by kernel_rfl) ?_ _
  go_wp2
  exact bodyPost_ret (results_row2 Tryd.results25 _ _ (n + 2) (n + 3) (t.set p k x).all [.int .i64 (1), .int .i64 (0)] _ _ rfl rfl h383q.out.range HD.out rfl (HS.out (t.set p k x)) h384q.out.range HDA.out rfl HA.out) rfl ⟨rfl, h380q.out.2⟩

set_option maxHeartbeats 4000000 in
set_option maxRecDepth 20000 in
theorem rT_absent (t : Tb) (o k x : Int) (ho : o = 2 ∨ o = 5) (hn : t.k (place t k) ≠ k) (hR : RT t) (hk1 : 1 ≤ k) (hk2 : k ≤ 1000) (w : World) :
    Calls Tryd.prog 25 #[.agg t.all.toArray, .agg #[.int .i64 o, .int .i64 k, .int .i64 x]] w (Told w (t, 4, 0)) := by
  obtain ⟨na, ea, hd⟩ := rslots_array
  have HD : Hid _ := hd
  clear hd
  have HS : Hid (∀ t : Tb, (Tryd.prog.info? 31).map (·.size) = some t.all.length) := rslots_size
  have HZ : Hid (∀ t : Tb, (Tryd.prog.info? 31).map (·.size) = some t.all.toArray.size) := rslots_size2
  have HT : Hid ((Tryd.prog.info? 29).map (·.size) = some 2) := rslot_size
  have HA : Hid ((Tryd.prog.info? 38).map (·.size) = some 2) := answer_size
  obtain ⟨fs, ha⟩ := answer_struct
  have HDA : Hid _ := ha
  clear ha
  have g0 : Hid (Gd w.heap.size w w) := Gd.refl w
  have h386q : Hid (Gd w.heap.size w (w.alloc (.cells t.all.toArray 31))) := g0.out.new (.cells t.all.toArray 31)
  clear g0
  have h387q : Hid (TAt (w.alloc (.cells t.all.toArray 31)) w.heap.size t) := TAt.bornAt w t _ (by simp)
  have h388q : Hid (Gd w.heap.size w ((w.alloc (.cells t.all.toArray 31)).alloc (.cells #[.int .i64 o, .int .i64 k, .int .i64 x] 26))) := h386q.out.new (.cells #[.int .i64 o, .int .i64 k, .int .i64 x] 26)
  have h389q : Hid (TAt ((w.alloc (.cells t.all.toArray 31)).alloc (.cells #[.int .i64 o, .int .i64 k, .int .i64 x] 26)) w.heap.size t) := h387q.out.new (.cells #[.int .i64 o, .int .i64 k, .int .i64 x] 26)
  clear h386q h387q
  have h390q : Hid (Bo ((w.alloc (.cells t.all.toArray 31)).alloc (.cells #[.int .i64 o, .int .i64 k, .int .i64 x] 26)) (w.heap.size + 1) [.int .i64 o, .int .i64 k, .int .i64 x]) := Bo.born (w.alloc (.cells t.all.toArray 31)) [.int .i64 o, .int .i64 k, .int .i64 x] 26 (by simp)
  have h391q : Hid (Gd w.heap.size w (((w.alloc (.cells t.all.toArray 31)).alloc (.cells #[.int .i64 o, .int .i64 k, .int .i64 x] 26)).alloc (.cells #[.int .i64 0, .int .i64 0, .int .i64 0, .int .i64 0, .int .i64 0, .int .i64 0, .int .i64 0, .int .i64 0, .int .i64 0, .int .i64 0, .int .i64 0, .int .i64 0, .int .i64 0, .int .i64 0, .int .i64 0, .int .i64 0] 31))) := h388q.out.new (.cells #[.int .i64 0, .int .i64 0, .int .i64 0, .int .i64 0, .int .i64 0, .int .i64 0, .int .i64 0, .int .i64 0, .int .i64 0, .int .i64 0, .int .i64 0, .int .i64 0, .int .i64 0, .int .i64 0, .int .i64 0, .int .i64 0] 31)
  have h392q : Hid (TAt (((w.alloc (.cells t.all.toArray 31)).alloc (.cells #[.int .i64 o, .int .i64 k, .int .i64 x] 26)).alloc (.cells #[.int .i64 0, .int .i64 0, .int .i64 0, .int .i64 0, .int .i64 0, .int .i64 0, .int .i64 0, .int .i64 0, .int .i64 0, .int .i64 0, .int .i64 0, .int .i64 0, .int .i64 0, .int .i64 0, .int .i64 0, .int .i64 0] 31)) w.heap.size t) := h389q.out.new (.cells #[.int .i64 0, .int .i64 0, .int .i64 0, .int .i64 0, .int .i64 0, .int .i64 0, .int .i64 0, .int .i64 0, .int .i64 0, .int .i64 0, .int .i64 0, .int .i64 0, .int .i64 0, .int .i64 0, .int .i64 0, .int .i64 0] 31)
  have h393q : Hid (Bo (((w.alloc (.cells t.all.toArray 31)).alloc (.cells #[.int .i64 o, .int .i64 k, .int .i64 x] 26)).alloc (.cells #[.int .i64 0, .int .i64 0, .int .i64 0, .int .i64 0, .int .i64 0, .int .i64 0, .int .i64 0, .int .i64 0, .int .i64 0, .int .i64 0, .int .i64 0, .int .i64 0, .int .i64 0, .int .i64 0, .int .i64 0, .int .i64 0] 31)) (w.heap.size + 1) [.int .i64 o, .int .i64 k, .int .i64 x]) := h390q.out.new (.cells #[.int .i64 0, .int .i64 0, .int .i64 0, .int .i64 0, .int .i64 0, .int .i64 0, .int .i64 0, .int .i64 0, .int .i64 0, .int .i64 0, .int .i64 0, .int .i64 0, .int .i64 0, .int .i64 0, .int .i64 0, .int .i64 0] 31)
  clear h388q h389q h390q
  have h394q : Hid (TAt (((w.alloc (.cells t.all.toArray 31)).alloc (.cells #[.int .i64 o, .int .i64 k, .int .i64 x] 26)).alloc (.cells #[.int .i64 0, .int .i64 0, .int .i64 0, .int .i64 0, .int .i64 0, .int .i64 0, .int .i64 0, .int .i64 0, .int .i64 0, .int .i64 0, .int .i64 0, .int .i64 0, .int .i64 0, .int .i64 0, .int .i64 0, .int .i64 0] 31)) (w.heap.size + 2) Tb.zero) := TAt.bornZero ((w.alloc (.cells t.all.toArray 31)).alloc (.cells #[.int .i64 o, .int .i64 k, .int .i64 x] 26)) 31 (by simp)
  have h395q : Hid (Gd w.heap.size w ((((w.alloc (.cells t.all.toArray 31)).alloc (.cells #[.int .i64 o, .int .i64 k, .int .i64 x] 26)).alloc (.cells #[.int .i64 0, .int .i64 0, .int .i64 0, .int .i64 0, .int .i64 0, .int .i64 0, .int .i64 0, .int .i64 0, .int .i64 0, .int .i64 0, .int .i64 0, .int .i64 0, .int .i64 0, .int .i64 0, .int .i64 0, .int .i64 0] 31)).alloc (.cells #[.int .i64 0, .int .i64 0] 38))) := h391q.out.new (.cells #[.int .i64 0, .int .i64 0] 38)
  have h396q : Hid (TAt ((((w.alloc (.cells t.all.toArray 31)).alloc (.cells #[.int .i64 o, .int .i64 k, .int .i64 x] 26)).alloc (.cells #[.int .i64 0, .int .i64 0, .int .i64 0, .int .i64 0, .int .i64 0, .int .i64 0, .int .i64 0, .int .i64 0, .int .i64 0, .int .i64 0, .int .i64 0, .int .i64 0, .int .i64 0, .int .i64 0, .int .i64 0, .int .i64 0] 31)).alloc (.cells #[.int .i64 0, .int .i64 0] 38)) w.heap.size t) := h392q.out.new (.cells #[.int .i64 0, .int .i64 0] 38)
  have h397q : Hid (Bo ((((w.alloc (.cells t.all.toArray 31)).alloc (.cells #[.int .i64 o, .int .i64 k, .int .i64 x] 26)).alloc (.cells #[.int .i64 0, .int .i64 0, .int .i64 0, .int .i64 0, .int .i64 0, .int .i64 0, .int .i64 0, .int .i64 0, .int .i64 0, .int .i64 0, .int .i64 0, .int .i64 0, .int .i64 0, .int .i64 0, .int .i64 0, .int .i64 0] 31)).alloc (.cells #[.int .i64 0, .int .i64 0] 38)) (w.heap.size + 1) [.int .i64 o, .int .i64 k, .int .i64 x]) := h393q.out.new (.cells #[.int .i64 0, .int .i64 0] 38)
  have h398q : Hid (TAt ((((w.alloc (.cells t.all.toArray 31)).alloc (.cells #[.int .i64 o, .int .i64 k, .int .i64 x] 26)).alloc (.cells #[.int .i64 0, .int .i64 0, .int .i64 0, .int .i64 0, .int .i64 0, .int .i64 0, .int .i64 0, .int .i64 0, .int .i64 0, .int .i64 0, .int .i64 0, .int .i64 0, .int .i64 0, .int .i64 0, .int .i64 0, .int .i64 0] 31)).alloc (.cells #[.int .i64 0, .int .i64 0] 38)) (w.heap.size + 2) Tb.zero) := h394q.out.new (.cells #[.int .i64 0, .int .i64 0] 38)
  clear h391q h392q h393q h394q
  have h399q : Hid (Bo ((((w.alloc (.cells t.all.toArray 31)).alloc (.cells #[.int .i64 o, .int .i64 k, .int .i64 x] 26)).alloc (.cells #[.int .i64 0, .int .i64 0, .int .i64 0, .int .i64 0, .int .i64 0, .int .i64 0, .int .i64 0, .int .i64 0, .int .i64 0, .int .i64 0, .int .i64 0, .int .i64 0, .int .i64 0, .int .i64 0, .int .i64 0, .int .i64 0] 31)).alloc (.cells #[.int .i64 0, .int .i64 0] 38)) (w.heap.size + 3) [.int .i64 0, .int .i64 0]) := Bo.born (((w.alloc (.cells t.all.toArray 31)).alloc (.cells #[.int .i64 o, .int .i64 k, .int .i64 x] 26)).alloc (.cells #[.int .i64 0, .int .i64 0, .int .i64 0, .int .i64 0, .int .i64 0, .int .i64 0, .int .i64 0, .int .i64 0, .int .i64 0, .int .i64 0, .int .i64 0, .int .i64 0, .int .i64 0, .int .i64 0, .int .i64 0, .int .i64 0] 31)) [.int .i64 0, .int .i64 0] 38 (by simp)
  have R : Hid (RT t) := hR
  have PL := RPlace_is t k (by omega) hk2 hR.free
  have W1 := rwithin_yes o 1 6
  have W2 := rwithin_yes k 1 1000
  have H1 : Hid ((1 : Int) ≤ o ∧ (o : Int) ≤ 6) := (by omega : (1 : Int) ≤ o ∧ (o : Int) ≤ 6)
  have H2 : Hid (1 ≤ k ∧ k ≤ 1000) := ⟨hk1, hk2⟩
  have hp := place_lt t k
  have hx0 : t.k (place t k) = 0 := free_of_place hR hn
  clear hn
  have m1 : (o == 1) = false := by rcases ho with rfl | rfl <;> rfl
  have m3 : (o == 3) = false := by rcases ho with rfl | rfl <;> rfl
  have m4 : (o == 4) = false := by rcases ho with rfl | rfl <;> rfl
  have m6 : (o == 6) = false := by rcases ho with rfl | rfl <;> rfl
  clear ho
  generalize place t k = p at *
  have hp1 : (p : Int) < 8 := by omega
  have hp0 : (0 : Int) ≤ (p : Int) := by omega
  clear hk1 hk2 hR
  go_enter Tryd.func25, Tryd.ntmps25
  go_wp2_with fail
  generalize ((((w.alloc (.cells t.all.toArray 31)).alloc (.cells #[.int .i64 o, .int .i64 k, .int .i64 x] 26)).alloc (.cells #[.int .i64 0, .int .i64 0, .int .i64 0, .int .i64 0, .int .i64 0, .int .i64 0, .int .i64 0, .int .i64 0, .int .i64 0, .int .i64 0, .int .i64 0, .int .i64 0, .int .i64 0, .int .i64 0, .int .i64 0, .int .i64 0] 31)).alloc (.cells #[.int .i64 0, .int .i64 0] 38)) = W at h395q h396q h397q h398q h399q ⊢
  generalize w.heap.size = n at h395q h396q h397q h398q h399q ⊢
  have d400q := h397q.out.at 0 rfl
  have d401q := h397q.out.at 1 rfl
  refine (W1 _ H1.out.1 H1.out.2).mono ?_
  rintro e u402q ⟨rfl, hw⟩
  rw [hw]; clear hw u402q
  go_wp2_with fail
  refine (W2 _ H2.out.1 H2.out.2).mono ?_
  rintro e u403q ⟨rfl, hw⟩
  rw [hw]; clear hw u403q
  go_wp2_with (first
    | (refine wpList_load_mid rfl 31 _ rfl n _ rfl t.all _ h396q.out.range HD.out rfl (HS.out t) ?_))
  refine (PL _).mono ?_
  rintro e u404q ⟨rfl, hb⟩
  have h405q : Hid (Gd n w u404q) := h395q.out.later hb
  have h406q : Hid (TAt u404q n t) := h396q.out.later hb
  have h407q : Hid (Bo u404q (n + 1) [.int .i64 o, .int .i64 k, .int .i64 x]) := h397q.out.later hb
  have h408q : Hid (TAt u404q (n + 2) Tb.zero) := h398q.out.later hb
  have h409q : Hid (Bo u404q (n + 3) [.int .i64 0, .int .i64 0]) := h399q.out.later hb
  clear h395q h396q h397q h398q h399q
  clear hb
  clear PL W1 W2
  have d410q := h407q.out.at 0 rfl
  have cx := h406q.out.key hp
  rw [hx0] at cx
  go_wp2_with fail
  have SA := said_is (4) (0)
  have h411q : Hid (Gd n w u404q.drew) := h405q.out.drew
  have h412q : Hid (TAt u404q.drew n t) := h406q.out.drew
  have h413q : Hid (Bo u404q.drew (n + 1) [.int .i64 o, .int .i64 k, .int .i64 x]) := h407q.out.drew
  have h414q : Hid (TAt u404q.drew (n + 2) Tb.zero) := h408q.out.drew
  have h415q : Hid (Bo u404q.drew (n + 3) [.int .i64 0, .int .i64 0]) := h409q.out.drew
  clear h405q h406q h407q h408q h409q
  refine wp_region_held_drew (S := fun w' => TAt w' n t) (by kernel_rfl) h412q.out (fun hH => ?_)
  generalize u404q.drew = u416q at h411q h412q h413q h414q h415q hH ⊢
  refine wpAnyH_take (i := 0) (oi := { dst := some 73, op := .load _ (.tmp 2), type := _, pos := _, after := _, guard := _ }) (v := _) rfl (by kernel_rfl) (by kernel_rfl) (by kernel_rfl) (fun _ _ _ h => h) (yieldsIf_load_mid (by rfl) _ _ rfl n _ rfl t.all _ (fun _ h => (h).range) HD.out rfl (HS.out t)) hH ?_
  simp only [Act.put, List.setIfInBounds_toArray, List.set_cons_zero, List.set_cons_succ]
  refine wpAnyH_ready (rs := [1]) (by kernel_rfl) (by simp) ?_
  refine AllReadyH.cons (o := { dst := some 74, op := _, type := _, pos := _, after := _, guard := _ }) rfl (fun K hK => ?_) AllReadyH.nil
  go_simp
  refine (SA _).mono ?_
  rintro e u417q ⟨rfl, hb⟩
  have h418q : Hid (Gd n w u417q) := h411q.out.later hb
  have h419q : Hid (TAt u417q n t) := h412q.out.later hb
  have h420q : Hid (Bo u417q (n + 1) [.int .i64 o, .int .i64 k, .int .i64 x]) := h413q.out.later hb
  have h421q : Hid (TAt u417q (n + 2) Tb.zero) := h414q.out.later hb
  have h422q : Hid (Bo u417q (n + 3) [.int .i64 0, .int .i64 0]) := h415q.out.later hb
  clear h411q h412q h413q h414q h415q
  clear hb
  go_wp2_with fail
  refine hK.out _ _ h419q.out (fun hH => ?_)
  clear hK K
  try simp only [Act.put, List.setIfInBounds_toArray, List.set_cons_zero, List.set_cons_succ]
  refine wpAnyH_ready (rs := [2]) (by kernel_rfl) (by simp) ?_
  refine AllReadyH.cons (o := { dst := none, op := .store _ (.tmp 4) (.tmp 73), type := _, pos := _, after := _, guard := _ }) rfl (fun K hK => ?_) AllReadyH.nil
  rw [if_pos (by rfl)]
  refine wp_store_mid _ _ _ rfl (n + 2) _ t.all.toArray rfl rfl (h421q.out.thereOf t) (HZ.out t) (t.all_all) ?_
  simp only [Act.put]
  have h423q : Hid (Gd n w (u417q.setCells (n + 2) 0 t.all)) := h418q.out.asideAll (by omega) t
  have h424q : Hid (TAt (u417q.setCells (n + 2) 0 t.all) n t) := h419q.out.asideAll (by omega) t
  have h425q : Hid (Bo (u417q.setCells (n + 2) 0 t.all) (n + 1) [.int .i64 o, .int .i64 k, .int .i64 x]) := h420q.out.asideAll (by omega) t
  have h426q : Hid (TAt (u417q.setCells (n + 2) 0 t.all) (n + 2) t) := h421q.out.setAll t
  have h427q : Hid (Bo (u417q.setCells (n + 2) 0 t.all) (n + 3) [.int .i64 0, .int .i64 0]) := h422q.out.asideAll (by omega) t
  clear h418q h419q h420q h421q h422q
  refine hK.out _ _ h424q.out (fun hH => ?_)
  clear hK K
  generalize (u417q.setCells (n + 2) 0 t.all) = u428q at h423q h424q h425q h426q h427q hH ⊢
  try simp only [Act.put, List.setIfInBounds_toArray, List.set_cons_zero, List.set_cons_succ]
  refine wpAnyH_ready (rs := [3]) (by kernel_rfl) (by simp) ?_
  refine AllReadyH.cons (o := { dst := none, op := .store _ (.tmp 5) (.tmp 74), type := _, pos := _, after := _, guard := _ }) rfl (fun K hK => ?_) AllReadyH.nil
  rw [if_pos (by rfl)]
  refine wp_store_mid _ _ _ rfl (n + 3) _ #[.int .i64 (4), .int .i64 (0)] rfl rfl h427q.out.there2 HA.out (two_one _ _) ?_
  simp only [Act.put]
  have h429q : Hid (Gd n w (u428q.setCells (n + 3) 0 [.int .i64 (4), .int .i64 (0)])) := h423q.out.asideL (by omega) 0 [.int .i64 (4), .int .i64 (0)]
  have h430q : Hid (TAt (u428q.setCells (n + 3) 0 [.int .i64 (4), .int .i64 (0)]) n t) := h424q.out.asideL (by omega) 0 [.int .i64 (4), .int .i64 (0)]
  have h431q : Hid (Bo (u428q.setCells (n + 3) 0 [.int .i64 (4), .int .i64 (0)]) (n + 1) [.int .i64 o, .int .i64 k, .int .i64 x]) := h425q.out.asideL (by omega) 0 [.int .i64 (4), .int .i64 (0)]
  have h432q : Hid (TAt (u428q.setCells (n + 3) 0 [.int .i64 (4), .int .i64 (0)]) (n + 2) t) := h426q.out.asideL (by omega) 0 [.int .i64 (4), .int .i64 (0)]
  have h433q : Hid (Bo (u428q.setCells (n + 3) 0 [.int .i64 (4), .int .i64 (0)]) (n + 3) [.int .i64 (4), .int .i64 (0)]) := h427q.out.set2 (.int .i64 (4)) (.int .i64 (0))
  clear h423q h424q h425q h426q h427q
  refine hK.out _ _ h430q.out (fun hH => ?_)
  clear hK K
  generalize (u428q.setCells (n + 3) 0 [.int .i64 (4), .int .i64 (0)]) = u434q at h429q h430q h431q h432q h433q hH ⊢
  try simp only [Act.put, List.setIfInBounds_toArray, List.set_cons_zero, List.set_cons_succ]
  refine wpAnyH_done (by kernel_rfl) ?_ _
  go_wp2
  exact bodyPost_ret (results_row2 Tryd.results25 _ _ (n + 2) (n + 3) t.all [.int .i64 (4), .int .i64 (0)] _ _ rfl rfl h432q.out.range HD.out rfl (HS.out t) h433q.out.range HDA.out rfl HA.out) rfl ⟨rfl, h429q.out.2⟩

set_option maxHeartbeats 4000000 in
set_option maxRecDepth 20000 in
theorem rT_peek (t : Tb) (k x : Int) (hn : t.k (place t k) = k) (hR : RT t) (hk1 : 1 ≤ k) (hk2 : k ≤ 1000) (w : World) :
    Calls Tryd.prog 25 #[.agg t.all.toArray, .agg #[.int .i64 5, .int .i64 k, .int .i64 x]] w (Told w (t, 1, t.v (place t k))) := by
  obtain ⟨na, ea, hd⟩ := rslots_array
  have HD : Hid _ := hd
  clear hd
  have HS : Hid (∀ t : Tb, (Tryd.prog.info? 31).map (·.size) = some t.all.length) := rslots_size
  have HZ : Hid (∀ t : Tb, (Tryd.prog.info? 31).map (·.size) = some t.all.toArray.size) := rslots_size2
  have HT : Hid ((Tryd.prog.info? 29).map (·.size) = some 2) := rslot_size
  have HA : Hid ((Tryd.prog.info? 38).map (·.size) = some 2) := answer_size
  obtain ⟨fs, ha⟩ := answer_struct
  have HDA : Hid _ := ha
  clear ha
  have g0 : Hid (Gd w.heap.size w w) := Gd.refl w
  have h435q : Hid (Gd w.heap.size w (w.alloc (.cells t.all.toArray 31))) := g0.out.new (.cells t.all.toArray 31)
  clear g0
  have h436q : Hid (TAt (w.alloc (.cells t.all.toArray 31)) w.heap.size t) := TAt.bornAt w t _ (by simp)
  have h437q : Hid (Gd w.heap.size w ((w.alloc (.cells t.all.toArray 31)).alloc (.cells #[.int .i64 5, .int .i64 k, .int .i64 x] 26))) := h435q.out.new (.cells #[.int .i64 5, .int .i64 k, .int .i64 x] 26)
  have h438q : Hid (TAt ((w.alloc (.cells t.all.toArray 31)).alloc (.cells #[.int .i64 5, .int .i64 k, .int .i64 x] 26)) w.heap.size t) := h436q.out.new (.cells #[.int .i64 5, .int .i64 k, .int .i64 x] 26)
  clear h435q h436q
  have h439q : Hid (Bo ((w.alloc (.cells t.all.toArray 31)).alloc (.cells #[.int .i64 5, .int .i64 k, .int .i64 x] 26)) (w.heap.size + 1) [.int .i64 5, .int .i64 k, .int .i64 x]) := Bo.born (w.alloc (.cells t.all.toArray 31)) [.int .i64 5, .int .i64 k, .int .i64 x] 26 (by simp)
  have h440q : Hid (Gd w.heap.size w (((w.alloc (.cells t.all.toArray 31)).alloc (.cells #[.int .i64 5, .int .i64 k, .int .i64 x] 26)).alloc (.cells #[.int .i64 0, .int .i64 0, .int .i64 0, .int .i64 0, .int .i64 0, .int .i64 0, .int .i64 0, .int .i64 0, .int .i64 0, .int .i64 0, .int .i64 0, .int .i64 0, .int .i64 0, .int .i64 0, .int .i64 0, .int .i64 0] 31))) := h437q.out.new (.cells #[.int .i64 0, .int .i64 0, .int .i64 0, .int .i64 0, .int .i64 0, .int .i64 0, .int .i64 0, .int .i64 0, .int .i64 0, .int .i64 0, .int .i64 0, .int .i64 0, .int .i64 0, .int .i64 0, .int .i64 0, .int .i64 0] 31)
  have h441q : Hid (TAt (((w.alloc (.cells t.all.toArray 31)).alloc (.cells #[.int .i64 5, .int .i64 k, .int .i64 x] 26)).alloc (.cells #[.int .i64 0, .int .i64 0, .int .i64 0, .int .i64 0, .int .i64 0, .int .i64 0, .int .i64 0, .int .i64 0, .int .i64 0, .int .i64 0, .int .i64 0, .int .i64 0, .int .i64 0, .int .i64 0, .int .i64 0, .int .i64 0] 31)) w.heap.size t) := h438q.out.new (.cells #[.int .i64 0, .int .i64 0, .int .i64 0, .int .i64 0, .int .i64 0, .int .i64 0, .int .i64 0, .int .i64 0, .int .i64 0, .int .i64 0, .int .i64 0, .int .i64 0, .int .i64 0, .int .i64 0, .int .i64 0, .int .i64 0] 31)
  have h442q : Hid (Bo (((w.alloc (.cells t.all.toArray 31)).alloc (.cells #[.int .i64 5, .int .i64 k, .int .i64 x] 26)).alloc (.cells #[.int .i64 0, .int .i64 0, .int .i64 0, .int .i64 0, .int .i64 0, .int .i64 0, .int .i64 0, .int .i64 0, .int .i64 0, .int .i64 0, .int .i64 0, .int .i64 0, .int .i64 0, .int .i64 0, .int .i64 0, .int .i64 0] 31)) (w.heap.size + 1) [.int .i64 5, .int .i64 k, .int .i64 x]) := h439q.out.new (.cells #[.int .i64 0, .int .i64 0, .int .i64 0, .int .i64 0, .int .i64 0, .int .i64 0, .int .i64 0, .int .i64 0, .int .i64 0, .int .i64 0, .int .i64 0, .int .i64 0, .int .i64 0, .int .i64 0, .int .i64 0, .int .i64 0] 31)
  clear h437q h438q h439q
  have h443q : Hid (TAt (((w.alloc (.cells t.all.toArray 31)).alloc (.cells #[.int .i64 5, .int .i64 k, .int .i64 x] 26)).alloc (.cells #[.int .i64 0, .int .i64 0, .int .i64 0, .int .i64 0, .int .i64 0, .int .i64 0, .int .i64 0, .int .i64 0, .int .i64 0, .int .i64 0, .int .i64 0, .int .i64 0, .int .i64 0, .int .i64 0, .int .i64 0, .int .i64 0] 31)) (w.heap.size + 2) Tb.zero) := TAt.bornZero ((w.alloc (.cells t.all.toArray 31)).alloc (.cells #[.int .i64 5, .int .i64 k, .int .i64 x] 26)) 31 (by simp)
  have h444q : Hid (Gd w.heap.size w ((((w.alloc (.cells t.all.toArray 31)).alloc (.cells #[.int .i64 5, .int .i64 k, .int .i64 x] 26)).alloc (.cells #[.int .i64 0, .int .i64 0, .int .i64 0, .int .i64 0, .int .i64 0, .int .i64 0, .int .i64 0, .int .i64 0, .int .i64 0, .int .i64 0, .int .i64 0, .int .i64 0, .int .i64 0, .int .i64 0, .int .i64 0, .int .i64 0] 31)).alloc (.cells #[.int .i64 0, .int .i64 0] 38))) := h440q.out.new (.cells #[.int .i64 0, .int .i64 0] 38)
  have h445q : Hid (TAt ((((w.alloc (.cells t.all.toArray 31)).alloc (.cells #[.int .i64 5, .int .i64 k, .int .i64 x] 26)).alloc (.cells #[.int .i64 0, .int .i64 0, .int .i64 0, .int .i64 0, .int .i64 0, .int .i64 0, .int .i64 0, .int .i64 0, .int .i64 0, .int .i64 0, .int .i64 0, .int .i64 0, .int .i64 0, .int .i64 0, .int .i64 0, .int .i64 0] 31)).alloc (.cells #[.int .i64 0, .int .i64 0] 38)) w.heap.size t) := h441q.out.new (.cells #[.int .i64 0, .int .i64 0] 38)
  have h446q : Hid (Bo ((((w.alloc (.cells t.all.toArray 31)).alloc (.cells #[.int .i64 5, .int .i64 k, .int .i64 x] 26)).alloc (.cells #[.int .i64 0, .int .i64 0, .int .i64 0, .int .i64 0, .int .i64 0, .int .i64 0, .int .i64 0, .int .i64 0, .int .i64 0, .int .i64 0, .int .i64 0, .int .i64 0, .int .i64 0, .int .i64 0, .int .i64 0, .int .i64 0] 31)).alloc (.cells #[.int .i64 0, .int .i64 0] 38)) (w.heap.size + 1) [.int .i64 5, .int .i64 k, .int .i64 x]) := h442q.out.new (.cells #[.int .i64 0, .int .i64 0] 38)
  have h447q : Hid (TAt ((((w.alloc (.cells t.all.toArray 31)).alloc (.cells #[.int .i64 5, .int .i64 k, .int .i64 x] 26)).alloc (.cells #[.int .i64 0, .int .i64 0, .int .i64 0, .int .i64 0, .int .i64 0, .int .i64 0, .int .i64 0, .int .i64 0, .int .i64 0, .int .i64 0, .int .i64 0, .int .i64 0, .int .i64 0, .int .i64 0, .int .i64 0, .int .i64 0] 31)).alloc (.cells #[.int .i64 0, .int .i64 0] 38)) (w.heap.size + 2) Tb.zero) := h443q.out.new (.cells #[.int .i64 0, .int .i64 0] 38)
  clear h440q h441q h442q h443q
  have h448q : Hid (Bo ((((w.alloc (.cells t.all.toArray 31)).alloc (.cells #[.int .i64 5, .int .i64 k, .int .i64 x] 26)).alloc (.cells #[.int .i64 0, .int .i64 0, .int .i64 0, .int .i64 0, .int .i64 0, .int .i64 0, .int .i64 0, .int .i64 0, .int .i64 0, .int .i64 0, .int .i64 0, .int .i64 0, .int .i64 0, .int .i64 0, .int .i64 0, .int .i64 0] 31)).alloc (.cells #[.int .i64 0, .int .i64 0] 38)) (w.heap.size + 3) [.int .i64 0, .int .i64 0]) := Bo.born (((w.alloc (.cells t.all.toArray 31)).alloc (.cells #[.int .i64 5, .int .i64 k, .int .i64 x] 26)).alloc (.cells #[.int .i64 0, .int .i64 0, .int .i64 0, .int .i64 0, .int .i64 0, .int .i64 0, .int .i64 0, .int .i64 0, .int .i64 0, .int .i64 0, .int .i64 0, .int .i64 0, .int .i64 0, .int .i64 0, .int .i64 0, .int .i64 0] 31)) [.int .i64 0, .int .i64 0] 38 (by simp)
  have R : Hid (RT t) := hR
  have PL := RPlace_is t k (by omega) hk2 hR.free
  have W1 := rwithin_yes 5 1 6
  have W2 := rwithin_yes k 1 1000
  have H1 : Hid ((1 : Int) ≤ 5 ∧ (5 : Int) ≤ 6) := (by omega : (1 : Int) ≤ 5 ∧ (5 : Int) ≤ 6)
  have H2 : Hid (1 ≤ k ∧ k ≤ 1000) := ⟨hk1, hk2⟩
  have hp := place_lt t k
  have hx0 : (t.k (place t k) == 0) = false := by simp [hn]; omega
  have HX : Hid (t.k (place t k) = k) := hn
  clear hn
  generalize place t k = p at *
  have hp1 : (p : Int) < 8 := by omega
  have hp0 : (0 : Int) ≤ (p : Int) := by omega
  clear hk1 hk2 hR
  go_enter Tryd.func25, Tryd.ntmps25
  go_wp2_with fail
  generalize ((((w.alloc (.cells t.all.toArray 31)).alloc (.cells #[.int .i64 5, .int .i64 k, .int .i64 x] 26)).alloc (.cells #[.int .i64 0, .int .i64 0, .int .i64 0, .int .i64 0, .int .i64 0, .int .i64 0, .int .i64 0, .int .i64 0, .int .i64 0, .int .i64 0, .int .i64 0, .int .i64 0, .int .i64 0, .int .i64 0, .int .i64 0, .int .i64 0] 31)).alloc (.cells #[.int .i64 0, .int .i64 0] 38)) = W at h444q h445q h446q h447q h448q ⊢
  generalize w.heap.size = n at h444q h445q h446q h447q h448q ⊢
  have d449q := h446q.out.at 0 rfl
  have d450q := h446q.out.at 1 rfl
  refine (W1 _ H1.out.1 H1.out.2).mono ?_
  rintro e u451q ⟨rfl, hw⟩
  rw [hw]; clear hw u451q
  go_wp2_with fail
  refine (W2 _ H2.out.1 H2.out.2).mono ?_
  rintro e u452q ⟨rfl, hw⟩
  rw [hw]; clear hw u452q
  go_wp2_with (first
    | (refine wpList_load_mid rfl 31 _ rfl n _ rfl t.all _ h445q.out.range HD.out rfl (HS.out t) ?_))
  refine (PL _).mono ?_
  rintro e u453q ⟨rfl, hb⟩
  have h454q : Hid (Gd n w u453q) := h444q.out.later hb
  have h455q : Hid (TAt u453q n t) := h445q.out.later hb
  have h456q : Hid (Bo u453q (n + 1) [.int .i64 5, .int .i64 k, .int .i64 x]) := h446q.out.later hb
  have h457q : Hid (TAt u453q (n + 2) Tb.zero) := h447q.out.later hb
  have h458q : Hid (Bo u453q (n + 3) [.int .i64 0, .int .i64 0]) := h448q.out.later hb
  clear h444q h445q h446q h447q h448q
  clear hb
  clear PL W1 W2
  have d459q := h456q.out.at 0 rfl
  have cx := h455q.out.key hp
  have cv := h455q.out.val hp
  go_wp2_with fail
  have SA := said_is (1) (t.v p)
  have h460q : Hid (Gd n w u453q.drew) := h454q.out.drew
  have h461q : Hid (TAt u453q.drew n t) := h455q.out.drew
  have h462q : Hid (Bo u453q.drew (n + 1) [.int .i64 5, .int .i64 k, .int .i64 x]) := h456q.out.drew
  have h463q : Hid (TAt u453q.drew (n + 2) Tb.zero) := h457q.out.drew
  have h464q : Hid (Bo u453q.drew (n + 3) [.int .i64 0, .int .i64 0]) := h458q.out.drew
  clear h454q h455q h456q h457q h458q
  refine wp_region_held_drew (S := fun w' => TAt w' n t) (by kernel_rfl) h461q.out (fun hH => ?_)
  generalize u453q.drew = u465q at h460q h461q h462q h463q h464q hH ⊢
  refine wpAnyH_take (i := 0) (oi := { dst := some 119, op := .load _ (.tmp 2), type := _, pos := _, after := _, guard := _ }) (v := _) rfl (by kernel_rfl) (by kernel_rfl) (by kernel_rfl) (fun _ _ _ h => h) (yieldsIf_load_mid (by rfl) _ _ rfl n _ rfl t.all _ (fun _ h => (h).range) HD.out rfl (HS.out t)) hH ?_
  simp only [Act.put, List.setIfInBounds_toArray, List.set_cons_zero, List.set_cons_succ]
  refine wpAnyH_take (i := 1) (oi := { dst := some 120, op := .move (.tmp 8), type := _, pos := _, after := _, guard := _ }) (v := ?_) rfl (by kernel_rfl) (by kernel_rfl) (by kernel_rfl) (fun _ _ _ h => h) (Or.inl ⟨by rfl, ?_⟩) hH ?_
  rotate_left
  · intro w hSw
    clear hSw
    go_simp
    try with_reducible rfl
  simp only [Act.put, List.setIfInBounds_toArray, List.set_cons_zero, List.set_cons_succ]
  refine wpAnyH_ready (rs := [2]) (by kernel_rfl) (by simp) ?_
  refine AllReadyH.cons (o := { dst := some 121, op := _, type := _, pos := _, after := _, guard := _ }) rfl (fun K hK => ?_) AllReadyH.nil
  go_simp
  refine (SA _).mono ?_
  rintro e u466q ⟨rfl, hb⟩
  have h467q : Hid (Gd n w u466q) := h460q.out.later hb
  have h468q : Hid (TAt u466q n t) := h461q.out.later hb
  have h469q : Hid (Bo u466q (n + 1) [.int .i64 5, .int .i64 k, .int .i64 x]) := h462q.out.later hb
  have h470q : Hid (TAt u466q (n + 2) Tb.zero) := h463q.out.later hb
  have h471q : Hid (Bo u466q (n + 3) [.int .i64 0, .int .i64 0]) := h464q.out.later hb
  clear h460q h461q h462q h463q h464q
  clear hb
  go_wp2_with fail
  refine hK.out _ _ h468q.out (fun hH => ?_)
  clear hK K
  try simp only [Act.put, List.setIfInBounds_toArray, List.set_cons_zero, List.set_cons_succ]
  refine wpAnyH_ready (rs := [3]) (by kernel_rfl) (by simp) ?_
  refine AllReadyH.cons (o := { dst := none, op := .store _ (.tmp 4) (.tmp 119), type := _, pos := _, after := _, guard := _ }) rfl (fun K hK => ?_) AllReadyH.nil
  rw [if_pos (by rfl)]
  refine wp_store_mid _ _ _ rfl (n + 2) _ t.all.toArray rfl rfl (h470q.out.thereOf t) (HZ.out t) (t.all_all) ?_
  simp only [Act.put]
  have h472q : Hid (Gd n w (u466q.setCells (n + 2) 0 t.all)) := h467q.out.asideAll (by omega) t
  have h473q : Hid (TAt (u466q.setCells (n + 2) 0 t.all) n t) := h468q.out.asideAll (by omega) t
  have h474q : Hid (Bo (u466q.setCells (n + 2) 0 t.all) (n + 1) [.int .i64 5, .int .i64 k, .int .i64 x]) := h469q.out.asideAll (by omega) t
  have h475q : Hid (TAt (u466q.setCells (n + 2) 0 t.all) (n + 2) t) := h470q.out.setAll t
  have h476q : Hid (Bo (u466q.setCells (n + 2) 0 t.all) (n + 3) [.int .i64 0, .int .i64 0]) := h471q.out.asideAll (by omega) t
  clear h467q h468q h469q h470q h471q
  refine hK.out _ _ h473q.out (fun hH => ?_)
  clear hK K
  generalize (u466q.setCells (n + 2) 0 t.all) = u477q at h472q h473q h474q h475q h476q hH ⊢
  try simp only [Act.put, List.setIfInBounds_toArray, List.set_cons_zero, List.set_cons_succ]
  refine wpAnyH_ready (rs := [4]) (by kernel_rfl) (by simp) ?_
  refine AllReadyH.cons (o := { dst := none, op := .store _ (.tmp 5) (.tmp 121), type := _, pos := _, after := _, guard := _ }) rfl (fun K hK => ?_) AllReadyH.nil
  rw [if_pos (by rfl)]
  refine wp_store_mid _ _ _ rfl (n + 3) _ #[.int .i64 (1), .int .i64 (t.v p)] rfl rfl h476q.out.there2 HA.out (two_one _ _) ?_
  simp only [Act.put]
  have h478q : Hid (Gd n w (u477q.setCells (n + 3) 0 [.int .i64 (1), .int .i64 (t.v p)])) := h472q.out.asideL (by omega) 0 [.int .i64 (1), .int .i64 (t.v p)]
  have h479q : Hid (TAt (u477q.setCells (n + 3) 0 [.int .i64 (1), .int .i64 (t.v p)]) n t) := h473q.out.asideL (by omega) 0 [.int .i64 (1), .int .i64 (t.v p)]
  have h480q : Hid (Bo (u477q.setCells (n + 3) 0 [.int .i64 (1), .int .i64 (t.v p)]) (n + 1) [.int .i64 5, .int .i64 k, .int .i64 x]) := h474q.out.asideL (by omega) 0 [.int .i64 (1), .int .i64 (t.v p)]
  have h481q : Hid (TAt (u477q.setCells (n + 3) 0 [.int .i64 (1), .int .i64 (t.v p)]) (n + 2) t) := h475q.out.asideL (by omega) 0 [.int .i64 (1), .int .i64 (t.v p)]
  have h482q : Hid (Bo (u477q.setCells (n + 3) 0 [.int .i64 (1), .int .i64 (t.v p)]) (n + 3) [.int .i64 (1), .int .i64 (t.v p)]) := h476q.out.set2 (.int .i64 (1)) (.int .i64 (t.v p))
  clear h472q h473q h474q h475q h476q
  refine hK.out _ _ h479q.out (fun hH => ?_)
  clear hK K
  generalize (u477q.setCells (n + 3) 0 [.int .i64 (1), .int .i64 (t.v p)]) = u483q at h478q h479q h480q h481q h482q hH ⊢
  try simp only [Act.put, List.setIfInBounds_toArray, List.set_cons_zero, List.set_cons_succ]
  refine wpAnyH_done (by kernel_rfl) ?_ _
  go_wp2
  exact bodyPost_ret (results_row2 Tryd.results25 _ _ (n + 2) (n + 3) t.all [.int .i64 (1), .int .i64 (t.v p)] _ _ rfl rfl h481q.out.range HD.out rfl (HS.out t) h482q.out.range HDA.out rfl HA.out) rfl ⟨rfl, h478q.out.2⟩

set_option maxHeartbeats 4000000 in
set_option maxRecDepth 20000 in
theorem rT_take (t : Tb) (k x : Int) (hn : t.k (place t k) = k) (hR : RT t) (hk1 : 1 ≤ k) (hk2 : k ≤ 1000) (w : World) :
    Calls Tryd.prog 25 #[.agg t.all.toArray, .agg #[.int .i64 2, .int .i64 k, .int .i64 x]] w (Told w (without t (place t k), 1, t.v (place t k))) := by
  obtain ⟨na, ea, hd⟩ := rslots_array
  have HD : Hid _ := hd
  clear hd
  have HS : Hid (∀ t : Tb, (Tryd.prog.info? 31).map (·.size) = some t.all.length) := rslots_size
  have HZ : Hid (∀ t : Tb, (Tryd.prog.info? 31).map (·.size) = some t.all.toArray.size) := rslots_size2
  have HT : Hid ((Tryd.prog.info? 29).map (·.size) = some 2) := rslot_size
  have HA : Hid ((Tryd.prog.info? 38).map (·.size) = some 2) := answer_size
  obtain ⟨fs, ha⟩ := answer_struct
  have HDA : Hid _ := ha
  clear ha
  have g0 : Hid (Gd w.heap.size w w) := Gd.refl w
  have h484q : Hid (Gd w.heap.size w (w.alloc (.cells t.all.toArray 31))) := g0.out.new (.cells t.all.toArray 31)
  clear g0
  have h485q : Hid (TAt (w.alloc (.cells t.all.toArray 31)) w.heap.size t) := TAt.bornAt w t _ (by simp)
  have h486q : Hid (Gd w.heap.size w ((w.alloc (.cells t.all.toArray 31)).alloc (.cells #[.int .i64 2, .int .i64 k, .int .i64 x] 26))) := h484q.out.new (.cells #[.int .i64 2, .int .i64 k, .int .i64 x] 26)
  have h487q : Hid (TAt ((w.alloc (.cells t.all.toArray 31)).alloc (.cells #[.int .i64 2, .int .i64 k, .int .i64 x] 26)) w.heap.size t) := h485q.out.new (.cells #[.int .i64 2, .int .i64 k, .int .i64 x] 26)
  clear h484q h485q
  have h488q : Hid (Bo ((w.alloc (.cells t.all.toArray 31)).alloc (.cells #[.int .i64 2, .int .i64 k, .int .i64 x] 26)) (w.heap.size + 1) [.int .i64 2, .int .i64 k, .int .i64 x]) := Bo.born (w.alloc (.cells t.all.toArray 31)) [.int .i64 2, .int .i64 k, .int .i64 x] 26 (by simp)
  have h489q : Hid (Gd w.heap.size w (((w.alloc (.cells t.all.toArray 31)).alloc (.cells #[.int .i64 2, .int .i64 k, .int .i64 x] 26)).alloc (.cells #[.int .i64 0, .int .i64 0, .int .i64 0, .int .i64 0, .int .i64 0, .int .i64 0, .int .i64 0, .int .i64 0, .int .i64 0, .int .i64 0, .int .i64 0, .int .i64 0, .int .i64 0, .int .i64 0, .int .i64 0, .int .i64 0] 31))) := h486q.out.new (.cells #[.int .i64 0, .int .i64 0, .int .i64 0, .int .i64 0, .int .i64 0, .int .i64 0, .int .i64 0, .int .i64 0, .int .i64 0, .int .i64 0, .int .i64 0, .int .i64 0, .int .i64 0, .int .i64 0, .int .i64 0, .int .i64 0] 31)
  have h490q : Hid (TAt (((w.alloc (.cells t.all.toArray 31)).alloc (.cells #[.int .i64 2, .int .i64 k, .int .i64 x] 26)).alloc (.cells #[.int .i64 0, .int .i64 0, .int .i64 0, .int .i64 0, .int .i64 0, .int .i64 0, .int .i64 0, .int .i64 0, .int .i64 0, .int .i64 0, .int .i64 0, .int .i64 0, .int .i64 0, .int .i64 0, .int .i64 0, .int .i64 0] 31)) w.heap.size t) := h487q.out.new (.cells #[.int .i64 0, .int .i64 0, .int .i64 0, .int .i64 0, .int .i64 0, .int .i64 0, .int .i64 0, .int .i64 0, .int .i64 0, .int .i64 0, .int .i64 0, .int .i64 0, .int .i64 0, .int .i64 0, .int .i64 0, .int .i64 0] 31)
  have h491q : Hid (Bo (((w.alloc (.cells t.all.toArray 31)).alloc (.cells #[.int .i64 2, .int .i64 k, .int .i64 x] 26)).alloc (.cells #[.int .i64 0, .int .i64 0, .int .i64 0, .int .i64 0, .int .i64 0, .int .i64 0, .int .i64 0, .int .i64 0, .int .i64 0, .int .i64 0, .int .i64 0, .int .i64 0, .int .i64 0, .int .i64 0, .int .i64 0, .int .i64 0] 31)) (w.heap.size + 1) [.int .i64 2, .int .i64 k, .int .i64 x]) := h488q.out.new (.cells #[.int .i64 0, .int .i64 0, .int .i64 0, .int .i64 0, .int .i64 0, .int .i64 0, .int .i64 0, .int .i64 0, .int .i64 0, .int .i64 0, .int .i64 0, .int .i64 0, .int .i64 0, .int .i64 0, .int .i64 0, .int .i64 0] 31)
  clear h486q h487q h488q
  have h492q : Hid (TAt (((w.alloc (.cells t.all.toArray 31)).alloc (.cells #[.int .i64 2, .int .i64 k, .int .i64 x] 26)).alloc (.cells #[.int .i64 0, .int .i64 0, .int .i64 0, .int .i64 0, .int .i64 0, .int .i64 0, .int .i64 0, .int .i64 0, .int .i64 0, .int .i64 0, .int .i64 0, .int .i64 0, .int .i64 0, .int .i64 0, .int .i64 0, .int .i64 0] 31)) (w.heap.size + 2) Tb.zero) := TAt.bornZero ((w.alloc (.cells t.all.toArray 31)).alloc (.cells #[.int .i64 2, .int .i64 k, .int .i64 x] 26)) 31 (by simp)
  have h493q : Hid (Gd w.heap.size w ((((w.alloc (.cells t.all.toArray 31)).alloc (.cells #[.int .i64 2, .int .i64 k, .int .i64 x] 26)).alloc (.cells #[.int .i64 0, .int .i64 0, .int .i64 0, .int .i64 0, .int .i64 0, .int .i64 0, .int .i64 0, .int .i64 0, .int .i64 0, .int .i64 0, .int .i64 0, .int .i64 0, .int .i64 0, .int .i64 0, .int .i64 0, .int .i64 0] 31)).alloc (.cells #[.int .i64 0, .int .i64 0] 38))) := h489q.out.new (.cells #[.int .i64 0, .int .i64 0] 38)
  have h494q : Hid (TAt ((((w.alloc (.cells t.all.toArray 31)).alloc (.cells #[.int .i64 2, .int .i64 k, .int .i64 x] 26)).alloc (.cells #[.int .i64 0, .int .i64 0, .int .i64 0, .int .i64 0, .int .i64 0, .int .i64 0, .int .i64 0, .int .i64 0, .int .i64 0, .int .i64 0, .int .i64 0, .int .i64 0, .int .i64 0, .int .i64 0, .int .i64 0, .int .i64 0] 31)).alloc (.cells #[.int .i64 0, .int .i64 0] 38)) w.heap.size t) := h490q.out.new (.cells #[.int .i64 0, .int .i64 0] 38)
  have h495q : Hid (Bo ((((w.alloc (.cells t.all.toArray 31)).alloc (.cells #[.int .i64 2, .int .i64 k, .int .i64 x] 26)).alloc (.cells #[.int .i64 0, .int .i64 0, .int .i64 0, .int .i64 0, .int .i64 0, .int .i64 0, .int .i64 0, .int .i64 0, .int .i64 0, .int .i64 0, .int .i64 0, .int .i64 0, .int .i64 0, .int .i64 0, .int .i64 0, .int .i64 0] 31)).alloc (.cells #[.int .i64 0, .int .i64 0] 38)) (w.heap.size + 1) [.int .i64 2, .int .i64 k, .int .i64 x]) := h491q.out.new (.cells #[.int .i64 0, .int .i64 0] 38)
  have h496q : Hid (TAt ((((w.alloc (.cells t.all.toArray 31)).alloc (.cells #[.int .i64 2, .int .i64 k, .int .i64 x] 26)).alloc (.cells #[.int .i64 0, .int .i64 0, .int .i64 0, .int .i64 0, .int .i64 0, .int .i64 0, .int .i64 0, .int .i64 0, .int .i64 0, .int .i64 0, .int .i64 0, .int .i64 0, .int .i64 0, .int .i64 0, .int .i64 0, .int .i64 0] 31)).alloc (.cells #[.int .i64 0, .int .i64 0] 38)) (w.heap.size + 2) Tb.zero) := h492q.out.new (.cells #[.int .i64 0, .int .i64 0] 38)
  clear h489q h490q h491q h492q
  have h497q : Hid (Bo ((((w.alloc (.cells t.all.toArray 31)).alloc (.cells #[.int .i64 2, .int .i64 k, .int .i64 x] 26)).alloc (.cells #[.int .i64 0, .int .i64 0, .int .i64 0, .int .i64 0, .int .i64 0, .int .i64 0, .int .i64 0, .int .i64 0, .int .i64 0, .int .i64 0, .int .i64 0, .int .i64 0, .int .i64 0, .int .i64 0, .int .i64 0, .int .i64 0] 31)).alloc (.cells #[.int .i64 0, .int .i64 0] 38)) (w.heap.size + 3) [.int .i64 0, .int .i64 0]) := Bo.born (((w.alloc (.cells t.all.toArray 31)).alloc (.cells #[.int .i64 2, .int .i64 k, .int .i64 x] 26)).alloc (.cells #[.int .i64 0, .int .i64 0, .int .i64 0, .int .i64 0, .int .i64 0, .int .i64 0, .int .i64 0, .int .i64 0, .int .i64 0, .int .i64 0, .int .i64 0, .int .i64 0, .int .i64 0, .int .i64 0, .int .i64 0, .int .i64 0] 31)) [.int .i64 0, .int .i64 0] 38 (by simp)
  have R : Hid (RT t) := hR
  have PL := RPlace_is t k (by omega) hk2 hR.free
  have W1 := rwithin_yes 2 1 6
  have W2 := rwithin_yes k 1 1000
  have H1 : Hid ((1 : Int) ≤ 2 ∧ (2 : Int) ≤ 6) := (by omega : (1 : Int) ≤ 2 ∧ (2 : Int) ≤ 6)
  have H2 : Hid (1 ≤ k ∧ k ≤ 1000) := ⟨hk1, hk2⟩
  have hp := place_lt t k
  have hx0 : (t.k (place t k) == 0) = false := by simp [hn]; omega
  have HX : Hid (t.k (place t k) = k) := hn
  clear hn
  generalize place t k = p at *
  have hp1 : (p : Int) < 8 := by omega
  have hp0 : (0 : Int) ≤ (p : Int) := by omega
  clear hk1 hk2 hR
  go_enter Tryd.func25, Tryd.ntmps25
  go_wp2_with fail
  generalize ((((w.alloc (.cells t.all.toArray 31)).alloc (.cells #[.int .i64 2, .int .i64 k, .int .i64 x] 26)).alloc (.cells #[.int .i64 0, .int .i64 0, .int .i64 0, .int .i64 0, .int .i64 0, .int .i64 0, .int .i64 0, .int .i64 0, .int .i64 0, .int .i64 0, .int .i64 0, .int .i64 0, .int .i64 0, .int .i64 0, .int .i64 0, .int .i64 0] 31)).alloc (.cells #[.int .i64 0, .int .i64 0] 38)) = W at h493q h494q h495q h496q h497q ⊢
  generalize w.heap.size = n at h493q h494q h495q h496q h497q ⊢
  have d498q := h495q.out.at 0 rfl
  have d499q := h495q.out.at 1 rfl
  refine (W1 _ H1.out.1 H1.out.2).mono ?_
  rintro e u500q ⟨rfl, hw⟩
  rw [hw]; clear hw u500q
  go_wp2_with fail
  refine (W2 _ H2.out.1 H2.out.2).mono ?_
  rintro e u501q ⟨rfl, hw⟩
  rw [hw]; clear hw u501q
  go_wp2_with (first
    | (refine wpList_load_mid rfl 31 _ rfl n _ rfl t.all _ h494q.out.range HD.out rfl (HS.out t) ?_))
  refine (PL _).mono ?_
  rintro e u502q ⟨rfl, hb⟩
  have h503q : Hid (Gd n w u502q) := h493q.out.later hb
  have h504q : Hid (TAt u502q n t) := h494q.out.later hb
  have h505q : Hid (Bo u502q (n + 1) [.int .i64 2, .int .i64 k, .int .i64 x]) := h495q.out.later hb
  have h506q : Hid (TAt u502q (n + 2) Tb.zero) := h496q.out.later hb
  have h507q : Hid (Bo u502q (n + 3) [.int .i64 0, .int .i64 0]) := h497q.out.later hb
  clear h493q h494q h495q h496q h497q
  clear hb
  clear PL W1 W2
  have d508q := h505q.out.at 0 rfl
  have cx := h504q.out.key hp
  have cv := h504q.out.val hp
  have hk0 : t.k p ≠ 0 := by intro e; simp [e] at hx0
  obtain ⟨Fp, hJ, -⟩ := J.start R.out hp hk0
  obtain ⟨d, hd⟩ : ∃ d, ds p Fp = d := ⟨_, rfl⟩
  have JJ : Hid (J (t.set p 0 0) p Fp 0) := hJ
  have HDD : Hid (ds p Fp = d) := hd
  have hd8 : d < 8 := hd ▸ ds_lt _ _
  have hd1 : 0 < d := hd ▸ hJ.mF
  have W0 : Hid (woF 7 (t.set p 0 0) p = without t p) := rfl
  clear hJ hd hk0
  go_wp2_with (first
    | (refine wpList_store_mid rfl 29 _ _ rfl n _ #[.int .i64 (0), .int .i64 (0)] rfl rfl (h504q.out.thereS hp) HT.out (two_one _ _) ?_
       have h509q : Hid (Gd n w (u502q.setCells n (p * 2) [.int .i64 (0), .int .i64 (0)])) := h503q.out.asideL (by omega) (p * 2) [.int .i64 (0), .int .i64 (0)]
       have h510q : Hid (TAt (u502q.setCells n (p * 2) [.int .i64 (0), .int .i64 (0)]) n (t.set p 0 0)) := h504q.out.slot hp (0) (0)
       have h511q : Hid (Bo (u502q.setCells n (p * 2) [.int .i64 (0), .int .i64 (0)]) (n + 1) [.int .i64 2, .int .i64 k, .int .i64 x]) := h505q.out.asideL (by omega) (p * 2) [.int .i64 (0), .int .i64 (0)]
       have h512q : Hid (TAt (u502q.setCells n (p * 2) [.int .i64 (0), .int .i64 (0)]) (n + 2) Tb.zero) := h506q.out.asideL (by omega) (p * 2) [.int .i64 (0), .int .i64 (0)]
       have h513q : Hid (Bo (u502q.setCells n (p * 2) [.int .i64 (0), .int .i64 (0)]) (n + 3) [.int .i64 0, .int .i64 0]) := h507q.out.asideL (by omega) (p * 2) [.int .i64 (0), .int .i64 (0)]
       clear h503q h504q h505q h506q h507q
       generalize (u502q.setCells n (p * 2) [.int .i64 (0), .int .i64 (0)]) = u514q at h509q h510q h511q h512q h513q  ⊢))
  clear cx cv
  obtain ⟨B, hBe⟩ : ∃ B, B = u514q.heap.size := ⟨_, rfl⟩
  have hB : n + 4 ≤ B := by have := h513q.out.lt; omega
  have hBU : B ≤ u514q.heap.size := by omega
  have N0 : Hid (Own B u514q (.slice none 0 0) []) := World.ownsRow_nil u514q _ _ 1
  clear hBe
  go_loopg [9, 10] d (fun gg s9 s10 wt => ∃ c : Nat, c + 1 ≤ d ∧ d - c ≤ gg ∧ s10 = .int .i64 ((p : Int) + 1 + (c : Int)) ∧ Hid (Own B wt s9 (bh p c)) ∧ B ≤ wt.heap.size ∧ Hid (TAt wt n (t.set p 0 0)) ∧ Hid (Bo wt (n + 1) [.int .i64 2, .int .i64 k, .int .i64 x]) ∧ Hid (TAt wt (n + 2) Tb.zero) ∧ Hid (Bo wt (n + 3) [.int .i64 0, .int .i64 0]) ∧ Hid (Gd n w wt))
  case atStart => exact ⟨0, by omega, by omega, by simp, N0, hBU, h510q, h511q, h512q, h513q, h509q⟩
  case round =>
    obtain ⟨c, hc, hgg, rfl, O, hBw, T, OO, ZZ, RR, G⟩ := hrel
    clear N0 h509q h510q h511q h512q h513q
    obtain ⟨q, hq⟩ : ∃ q, (p + (c + 1)) % 8 = q := ⟨_, rfl⟩
    have eq : ((p : Int) + 1 + (c : Int)) % 8 = (q : Int) := by omega
    have hq8 : q < 8 := by omega
    have hq1 : (q : Int) < 8 := by omega
    have hq0 : (0 : Int) ≤ (q : Int) := by omega
    have HQ : Hid ((p + (c + 1)) % 8 = q) := hq
    clear hq
    have cx := T.out.key hq8
    by_cases hcd : c + 1 = d
    · have eF : (t.set p 0 0).k q = 0 := by
        have := JJ.out.free
        have e : Fp = q := by rw [← HQ.out]; have h1 := JJ.out.p8; have h2 := JJ.out.F8; have h3 := HDD.out; unfold ds at h3; omega
        rw [e] at this; exact this
      rw [eF] at cx
      obtain ⟨a9, c9, rfl⟩ := O.out.form
      have hlen : (bh p c).length = c := bh_len p c
      rw [hlen]
      have O2 : Hid (Own B wr (.slice a9 c c9) (bh p c)) := by rw [hlen] at O; exact O
      clear O hlen
      by_cases hc0 : c = 0
      · subst hc0
        have eq0 : ((p : Int) + 1) % 8 = (q : Int) := by omega
        have eq00 : (p : Int) + 1 + ((0 : Nat) : Int) = (p : Int) + 1 := by omega
        clear eq
        rw [eq00]
        clear eq00
        have E : Hid (without t p = t.set p 0 0) := by
          have := W0.out
          rw [woF, show (p + 1) % 8 = q from HQ.out, if_pos eF] at this
          exact this.symm
        clear eF O2
        obtain ⟨wq, rfl⟩ : ∃ wq, wq = wr := ⟨_, rfl⟩
        go_wp2_with fail
        clear cx
        go_loopg [102] 0 (fun gg s102 wt => wt = wq ∧ s102 = .int .i64 0)
        case atStart => exact ⟨rfl, rfl⟩
        case round =>
          obtain ⟨hw, rfl⟩ := hrel
          rw [hw]
          clear hw wr
          go_wp2_with fail
          have SA := said_is (1) (t.v p)
          have h515q : Hid (Gd n w wq.drew) := G.out.drew
          have h516q : Hid (TAt wq.drew n (t.set p 0 0)) := T.out.drew
          have h517q : Hid (Bo wq.drew (n + 1) [.int .i64 2, .int .i64 k, .int .i64 x]) := OO.out.drew
          have h518q : Hid (TAt wq.drew (n + 2) Tb.zero) := ZZ.out.drew
          have h519q : Hid (Bo wq.drew (n + 3) [.int .i64 0, .int .i64 0]) := RR.out.drew
          clear G T OO ZZ RR
          refine wp_region_held_drew (S := fun w' => TAt w' n (t.set p 0 0)) (by kernel_rfl) h516q.out (fun hH => ?_)
          generalize wq.drew = u520q at h515q h516q h517q h518q h519q hH ⊢
          refine wpAnyH_take (i := 0) (oi := { dst := some 119, op := .load _ (.tmp 2), type := _, pos := _, after := _, guard := _ }) (v := _) rfl (by kernel_rfl) (by kernel_rfl) (by kernel_rfl) (fun _ _ _ h => h) (yieldsIf_load_mid (by rfl) _ _ rfl n _ rfl (t.set p 0 0).all _ (fun _ h => (h).range) HD.out rfl (HS.out (t.set p 0 0))) hH ?_
          simp only [Act.put, List.setIfInBounds_toArray, List.set_cons_zero, List.set_cons_succ]
          refine wpAnyH_take (i := 1) (oi := { dst := some 120, op := .move (.tmp 8), type := _, pos := _, after := _, guard := _ }) (v := ?_) rfl (by kernel_rfl) (by kernel_rfl) (by kernel_rfl) (fun _ _ _ h => h) (Or.inl ⟨by rfl, ?_⟩) hH ?_
          rotate_left
          · intro w hSw
            clear hSw
            go_simp
            try with_reducible rfl
          simp only [Act.put, List.setIfInBounds_toArray, List.set_cons_zero, List.set_cons_succ]
          refine wpAnyH_ready (rs := [2]) (by kernel_rfl) (by simp) ?_
          refine AllReadyH.cons (o := { dst := some 121, op := _, type := _, pos := _, after := _, guard := _ }) rfl (fun K hK => ?_) AllReadyH.nil
          go_simp
          refine (SA _).mono ?_
          rintro e u521q ⟨rfl, hb⟩
          have h522q : Hid (Gd n w u521q) := h515q.out.later hb
          have h523q : Hid (TAt u521q n (t.set p 0 0)) := h516q.out.later hb
          have h524q : Hid (Bo u521q (n + 1) [.int .i64 2, .int .i64 k, .int .i64 x]) := h517q.out.later hb
          have h525q : Hid (TAt u521q (n + 2) Tb.zero) := h518q.out.later hb
          have h526q : Hid (Bo u521q (n + 3) [.int .i64 0, .int .i64 0]) := h519q.out.later hb
          clear h515q h516q h517q h518q h519q
          clear hb
          go_wp2_with fail
          refine hK.out _ _ h523q.out (fun hH => ?_)
          clear hK K
          try simp only [Act.put, List.setIfInBounds_toArray, List.set_cons_zero, List.set_cons_succ]
          refine wpAnyH_ready (rs := [3]) (by kernel_rfl) (by simp) ?_
          refine AllReadyH.cons (o := { dst := none, op := .store _ (.tmp 4) (.tmp 119), type := _, pos := _, after := _, guard := _ }) rfl (fun K hK => ?_) AllReadyH.nil
          rw [if_pos (by rfl)]
          refine wp_store_mid _ _ _ rfl (n + 2) _ (t.set p 0 0).all.toArray rfl rfl (h525q.out.thereOf (t.set p 0 0)) (HZ.out (t.set p 0 0)) ((t.set p 0 0).all_all) ?_
          simp only [Act.put]
          have h527q : Hid (Gd n w (u521q.setCells (n + 2) 0 (t.set p 0 0).all)) := h522q.out.asideAll (by omega) (t.set p 0 0)
          have h528q : Hid (TAt (u521q.setCells (n + 2) 0 (t.set p 0 0).all) n (t.set p 0 0)) := h523q.out.asideAll (by omega) (t.set p 0 0)
          have h529q : Hid (Bo (u521q.setCells (n + 2) 0 (t.set p 0 0).all) (n + 1) [.int .i64 2, .int .i64 k, .int .i64 x]) := h524q.out.asideAll (by omega) (t.set p 0 0)
          have h530q : Hid (TAt (u521q.setCells (n + 2) 0 (t.set p 0 0).all) (n + 2) (t.set p 0 0)) := h525q.out.setAll (t.set p 0 0)
          have h531q : Hid (Bo (u521q.setCells (n + 2) 0 (t.set p 0 0).all) (n + 3) [.int .i64 0, .int .i64 0]) := h526q.out.asideAll (by omega) (t.set p 0 0)
          clear h522q h523q h524q h525q h526q
          refine hK.out _ _ h528q.out (fun hH => ?_)
          clear hK K
          generalize (u521q.setCells (n + 2) 0 (t.set p 0 0).all) = u532q at h527q h528q h529q h530q h531q hH ⊢
          try simp only [Act.put, List.setIfInBounds_toArray, List.set_cons_zero, List.set_cons_succ]
          refine wpAnyH_ready (rs := [4]) (by kernel_rfl) (by simp) ?_
          refine AllReadyH.cons (o := { dst := none, op := .store _ (.tmp 5) (.tmp 121), type := _, pos := _, after := _, guard := _ }) rfl (fun K hK => ?_) AllReadyH.nil
          rw [if_pos (by rfl)]
          refine wp_store_mid _ _ _ rfl (n + 3) _ #[.int .i64 (1), .int .i64 (t.v p)] rfl rfl h531q.out.there2 HA.out (two_one _ _) ?_
          simp only [Act.put]
          have h533q : Hid (Gd n w (u532q.setCells (n + 3) 0 [.int .i64 (1), .int .i64 (t.v p)])) := h527q.out.asideL (by omega) 0 [.int .i64 (1), .int .i64 (t.v p)]
          have h534q : Hid (TAt (u532q.setCells (n + 3) 0 [.int .i64 (1), .int .i64 (t.v p)]) n (t.set p 0 0)) := h528q.out.asideL (by omega) 0 [.int .i64 (1), .int .i64 (t.v p)]
          have h535q : Hid (Bo (u532q.setCells (n + 3) 0 [.int .i64 (1), .int .i64 (t.v p)]) (n + 1) [.int .i64 2, .int .i64 k, .int .i64 x]) := h529q.out.asideL (by omega) 0 [.int .i64 (1), .int .i64 (t.v p)]
          have h536q : Hid (TAt (u532q.setCells (n + 3) 0 [.int .i64 (1), .int .i64 (t.v p)]) (n + 2) (t.set p 0 0)) := h530q.out.asideL (by omega) 0 [.int .i64 (1), .int .i64 (t.v p)]
          have h537q : Hid (Bo (u532q.setCells (n + 3) 0 [.int .i64 (1), .int .i64 (t.v p)]) (n + 3) [.int .i64 (1), .int .i64 (t.v p)]) := h531q.out.set2 (.int .i64 (1)) (.int .i64 (t.v p))
          clear h527q h528q h529q h530q h531q
          refine hK.out _ _ h534q.out (fun hH => ?_)
          clear hK K
          generalize (u532q.setCells (n + 3) 0 [.int .i64 (1), .int .i64 (t.v p)]) = u538q at h533q h534q h535q h536q h537q hH ⊢
          try simp only [Act.put, List.setIfInBounds_toArray, List.set_cons_zero, List.set_cons_succ]
          refine wpAnyH_done (by kernel_rfl) ?_ _
          go_wp2
          exact bodyPost_ret (results_row2 Tryd.results25 _ _ (n + 2) (n + 3) (t.set p 0 0).all [.int .i64 (1), .int .i64 (t.v p)] _ _ rfl rfl h536q.out.range HD.out rfl (HS.out (t.set p 0 0)) h537q.out.range HDA.out rfl HA.out) rfl ⟨(by show _ = Ending.returned (.tuple #[.agg (without t p).all.toArray, .agg #[.int .i64 (1), .int .i64 (t.v p)]]); rw [E.out]), h533q.out.2⟩
      · obtain ⟨g9, e9, hg9, LB⟩ := own_bo O2.out (by rw [bh_len]; omega)
        subst e9
        have L9 : Hid (Bo wr g9 ((bh p c).map (Value.int .i64))) := LB
        have hg9n : n + 4 ≤ g9 := by omega
        clear eF O2 LB
        obtain ⟨wq, rfl⟩ : ∃ wq, wq = wr := ⟨_, rfl⟩
        obtain ⟨gk0, rfl⟩ : ∃ gk0, gk0 = gk := ⟨_, rfl⟩
        go_wp2_with fail
        clear cx eq
        go_loopg [102] c (fun gg s102 wt => ∃ m : Nat, m ≤ c ∧ c - m ≤ gg ∧ s102 = .int .i64 m ∧ ∃ u : Tb, Hid (J u p Fp m) ∧ Hid (woF (7 - m) u ((p + m) % 8) = without t p) ∧ Hid (TAt wt n u) ∧ Hid (Bo wt (n + 1) [.int .i64 2, .int .i64 k, .int .i64 x]) ∧ Hid (TAt wt (n + 2) Tb.zero) ∧ Hid (Bo wt (n + 3) [.int .i64 0, .int .i64 0]) ∧ Hid (Gd n w wt) ∧ Hid (Bo wt g9 ((bh p c).map (Value.int .i64))))
        case atStart => exact ⟨0, by omega, by omega, rfl, t.set p 0 0, JJ, (by rw [Nat.add_zero, Nat.mod_eq_of_lt hp]; exact W0.out), T, OO, ZZ, RR, G, L9⟩
        case round =>
          obtain ⟨m, hm, hgm, rfl, u, J2, W2, T2, O2, Z2, R2, G2, L2⟩ := hrel
          clear T OO ZZ RR G L9
          by_cases hmc : m < c
          · obtain ⟨b, hb8⟩ : ∃ b, (p + (m + 1)) % 8 = b := ⟨_, rfl⟩
            have hb : b < 8 := by omega
            have hb1 : (b : Int) < 8 := by omega
            have hb0 : (0 : Int) ≤ (b : Int) := by omega
            have hm1 : (m : Int) < (c : Int) := by omega
            have hm0 : (0 : Int) ≤ (m : Int) := by omega
            have HB8 : Hid ((p + (m + 1)) % 8 = b) := hb8
            have cl : wr.cell? ⟨g9, m, none⟩ = some (.int .i64 (b : Nat)) := L2.out.cell m _ (by rw [bh_at p hmc, hb8])
            have JN : m + 1 < ds p Fp := by rw [HDD.out]; omega
            have J3 := J2.out.step JN
            have hy0 := J2.out.taken _ (Nat.mod_lt _ (by decide)) (J2.out.q_bt JN).2
            rw [hb8] at J3 hy0
            have W3 : Hid (woF (7 - (m + 1)) (anew u b) ((p + (m + 1)) % 8) = without t p) := by
              have := W2.out
              rw [show 7 - m = (7 - (m + 1)) + 1 by omega, woF, show ((p + m) % 8 + 1) % 8 = b by rw [← hb8]; omega, if_neg hy0] at this
              rw [HB8.out]; exact this
            have c0 := T2.out.key hb
            have c1 := T2.out.val hb
            have hkr := J2.out.keys b hb
            have J4 : Hid _ := J3
            obtain ⟨y, ey⟩ : ∃ y, u.k b = y := ⟨_, rfl⟩
            obtain ⟨z, ez⟩ : ∃ z, u.v b = z := ⟨_, rfl⟩
            have RP := RPlace_is (u.set b 0 0) y (by omega) (by omega) ⟨b, hb, by rw [Tb.set_k, if_pos rfl]⟩
            obtain ⟨a, ea⟩ : ∃ a, place (u.set b 0 0) y = a := ⟨_, rfl⟩
            have ha : a < 8 := ea ▸ place_lt _ _
            have ha1 : (a : Int) < 8 := by omega
            have ha0 : (0 : Int) ≤ (a : Int) := by omega
            have AN : Hid (anew u b = (u.set b 0 0).set a y z) := by show anew u b = _; unfold anew; rw [ey, ez, ea]
            rw [ea] at RP
            rw [ey] at c0
            rw [ez] at c1
            clear hb8 J3 hy0 hkr ey ez ea JN
            have l539q : n ≤ wr.heap.size := G2.out.le
            have l540q : n < wr.heap.size := T2.out.lt
            have l541q : (n + 1) < wr.heap.size := O2.out.lt
            have l542q : (n + 2) < wr.heap.size := Z2.out.lt
            have l543q : (n + 3) < wr.heap.size := R2.out.lt
            have l544q : g9 < wr.heap.size := L2.out.lt
            have h545q : Hid (Gd n w (wr.alloc (.cells #[.int .i64 y, .int .i64 z] 29))) := G2.out.new (.cells #[.int .i64 y, .int .i64 z] 29)
            have h546q : Hid (TAt (wr.alloc (.cells #[.int .i64 y, .int .i64 z] 29)) n u) := T2.out.new (.cells #[.int .i64 y, .int .i64 z] 29)
            have h547q : Hid (Bo (wr.alloc (.cells #[.int .i64 y, .int .i64 z] 29)) (n + 1) [.int .i64 2, .int .i64 k, .int .i64 x]) := O2.out.new (.cells #[.int .i64 y, .int .i64 z] 29)
            have h548q : Hid (TAt (wr.alloc (.cells #[.int .i64 y, .int .i64 z] 29)) (n + 2) Tb.zero) := Z2.out.new (.cells #[.int .i64 y, .int .i64 z] 29)
            have h549q : Hid (Bo (wr.alloc (.cells #[.int .i64 y, .int .i64 z] 29)) (n + 3) [.int .i64 0, .int .i64 0]) := R2.out.new (.cells #[.int .i64 y, .int .i64 z] 29)
            have h550q : Hid (Bo (wr.alloc (.cells #[.int .i64 y, .int .i64 z] 29)) g9 ((bh p c).map (Value.int .i64))) := L2.out.new (.cells #[.int .i64 y, .int .i64 z] 29)
            clear G2 T2 O2 Z2 R2 L2
            have h551q : Hid (Bo (wr.alloc (.cells #[.int .i64 y, .int .i64 z] 29)) wr.heap.size [.int .i64 y, .int .i64 z]) := Bo.born wr [.int .i64 y, .int .i64 z] 29 (by simp)
            go_wp2_with (first
              | (refine wpList_store_mid rfl 29 _ _ rfl n _ #[.int .i64 (0), .int .i64 (0)] rfl rfl (h546q.out.thereS hb) HT.out (two_one _ _) ?_
                 have h552q : Hid (Gd n w ((wr.alloc (.cells #[.int .i64 y, .int .i64 z] 29)).setCells n (b * 2) [.int .i64 (0), .int .i64 (0)])) := h545q.out.asideL (by omega) (b * 2) [.int .i64 (0), .int .i64 (0)]
                 have h553q : Hid (TAt ((wr.alloc (.cells #[.int .i64 y, .int .i64 z] 29)).setCells n (b * 2) [.int .i64 (0), .int .i64 (0)]) n (u.set b 0 0)) := h546q.out.slot hb (0) (0)
                 have h554q : Hid (Bo ((wr.alloc (.cells #[.int .i64 y, .int .i64 z] 29)).setCells n (b * 2) [.int .i64 (0), .int .i64 (0)]) (n + 1) [.int .i64 2, .int .i64 k, .int .i64 x]) := h547q.out.asideL (by omega) (b * 2) [.int .i64 (0), .int .i64 (0)]
                 have h555q : Hid (TAt ((wr.alloc (.cells #[.int .i64 y, .int .i64 z] 29)).setCells n (b * 2) [.int .i64 (0), .int .i64 (0)]) (n + 2) Tb.zero) := h548q.out.asideL (by omega) (b * 2) [.int .i64 (0), .int .i64 (0)]
                 have h556q : Hid (Bo ((wr.alloc (.cells #[.int .i64 y, .int .i64 z] 29)).setCells n (b * 2) [.int .i64 (0), .int .i64 (0)]) (n + 3) [.int .i64 0, .int .i64 0]) := h549q.out.asideL (by omega) (b * 2) [.int .i64 (0), .int .i64 (0)]
                 have h557q : Hid (Bo ((wr.alloc (.cells #[.int .i64 y, .int .i64 z] 29)).setCells n (b * 2) [.int .i64 (0), .int .i64 (0)]) g9 ((bh p c).map (Value.int .i64))) := h550q.out.asideL (by omega) (b * 2) [.int .i64 (0), .int .i64 (0)]
                 have h558q : Hid (Bo ((wr.alloc (.cells #[.int .i64 y, .int .i64 z] 29)).setCells n (b * 2) [.int .i64 (0), .int .i64 (0)]) wr.heap.size [.int .i64 y, .int .i64 z]) := h551q.out.asideL (by omega) (b * 2) [.int .i64 (0), .int .i64 (0)]
                 clear h545q h546q h547q h548q h549q h550q h551q
                 generalize ((wr.alloc (.cells #[.int .i64 y, .int .i64 z] 29)).setCells n (b * 2) [.int .i64 (0), .int .i64 (0)]) = u559q at h552q h553q h554q h555q h556q h557q h558q  ⊢))
            clear cl c0 c1
            have h560q : Hid (Gd n w u559q.drew) := h552q.out.drew
            have h561q : Hid (TAt u559q.drew n (u.set b 0 0)) := h553q.out.drew
            have h562q : Hid (Bo u559q.drew (n + 1) [.int .i64 2, .int .i64 k, .int .i64 x]) := h554q.out.drew
            have h563q : Hid (TAt u559q.drew (n + 2) Tb.zero) := h555q.out.drew
            have h564q : Hid (Bo u559q.drew (n + 3) [.int .i64 0, .int .i64 0]) := h556q.out.drew
            have h565q : Hid (Bo u559q.drew g9 ((bh p c).map (Value.int .i64))) := h557q.out.drew
            have h566q : Hid (Bo u559q.drew wr.heap.size [.int .i64 y, .int .i64 z]) := h558q.out.drew
            clear h552q h553q h554q h555q h556q h557q h558q
            refine wp_region_held_drew (S := fun w' => Bo w' wr.heap.size [.int .i64 y, .int .i64 z]) (by kernel_rfl) h566q.out (fun hH => ?_)
            generalize u559q.drew = u567q at h560q h561q h562q h563q h564q h565q h566q hH ⊢
            refine wpAnyH_take (i := 1) (oi := { dst := some 113, op := .fieldAddr _ (.tmp 13) 0, type := _, pos := _, after := _, guard := _ }) (v := ?_) rfl (by kernel_rfl) (by kernel_rfl) (by kernel_rfl) (fun _ _ _ h => h) (Or.inl ⟨by rfl, ?_⟩) hH ?_
            rotate_left
            · intro w hSw
              clear hSw
              go_simp
              try with_reducible rfl
            simp only [Act.put, List.setIfInBounds_toArray, List.set_cons_zero, List.set_cons_succ]
            refine wpAnyH_take (i := 2) (oi := { dst := some 114, op := .load _ (.tmp 113), type := _, pos := _, after := _, guard := _ }) (v := ?_) rfl (by kernel_rfl) (by kernel_rfl) (by kernel_rfl) (fun _ _ _ h => h) (Or.inl ⟨by rfl, ?_⟩) hH ?_
            rotate_left
            · intro w hSw
              have c568q := (hSw).at 0 rfl
              clear hSw
              go_simp
              try with_reducible rfl
            simp only [Act.put, List.setIfInBounds_toArray, List.set_cons_zero, List.set_cons_succ]
            refine wpAnyH_take (i := 4) (oi := { dst := some 116, op := .load _ (.tmp 13), type := _, pos := _, after := _, guard := _ }) (v := ?_) rfl (by kernel_rfl) (by kernel_rfl) (by kernel_rfl) (fun _ _ _ h => h) (Or.inl ⟨by rfl, ?_⟩) hH ?_
            rotate_left
            · intro w hSw
              have c569q := (hSw).at 0 rfl
              have c570q := (hSw).at 1 rfl
              clear hSw
              go_simp
              try with_reducible rfl
            simp only [Act.put, List.setIfInBounds_toArray, List.set_cons_zero, List.set_cons_succ]
            refine wpAnyH_ready (rs := [0]) (by kernel_rfl) (by simp) ?_
            refine AllReadyH.cons (o := { dst := some 112, op := .load _ (.tmp 2), type := _, pos := _, after := _, guard := _ }) rfl (fun K hK => ?_) AllReadyH.nil
            rw [if_pos (by rfl)]
            refine wp_load_mid _ _ rfl n _ rfl (u.set b 0 0).all _ h561q.out.range HD.out rfl (HS.out (u.set b 0 0)) ?_
            simp only [Act.put, List.setIfInBounds_toArray, List.set_cons_zero, List.set_cons_succ]
            refine hK.out _ _ h566q.out (fun hH => ?_)
            clear hK K
            try simp only [Act.put, List.setIfInBounds_toArray, List.set_cons_zero, List.set_cons_succ]
            refine wpAnyH_ready (rs := [3]) (by kernel_rfl) (by simp) ?_
            refine AllReadyH.cons (o := { dst := some 115, op := _, type := _, pos := _, after := _, guard := _ }) rfl (fun K hK => ?_) AllReadyH.nil
            go_simp
            refine (RP _).mono ?_
            rintro e u571q ⟨rfl, hb⟩
            have h572q : Hid (Gd n w u571q) := h560q.out.later hb
            have h573q : Hid (TAt u571q n (u.set b 0 0)) := h561q.out.later hb
            have h574q : Hid (Bo u571q (n + 1) [.int .i64 2, .int .i64 k, .int .i64 x]) := h562q.out.later hb
            have h575q : Hid (TAt u571q (n + 2) Tb.zero) := h563q.out.later hb
            have h576q : Hid (Bo u571q (n + 3) [.int .i64 0, .int .i64 0]) := h564q.out.later hb
            have h577q : Hid (Bo u571q g9 ((bh p c).map (Value.int .i64))) := h565q.out.later hb
            have h578q : Hid (Bo u571q wr.heap.size [.int .i64 y, .int .i64 z]) := h566q.out.later hb
            clear h560q h561q h562q h563q h564q h565q h566q
            clear hb
            go_wp2_with fail
            refine hK.out _ _ h578q.out (fun hH => ?_)
            clear hK K
            try simp only [Act.put, List.setIfInBounds_toArray, List.set_cons_zero, List.set_cons_succ]
            refine wpAnyH_take (i := 5) (oi := { dst := some 117, op := .indexAddr _ (.tmp 2) (.tmp 115), type := _, pos := _, after := _, guard := _ }) (v := ?_) rfl (by kernel_rfl) (by kernel_rfl) (by kernel_rfl) (fun _ _ _ h => h) (Or.inl ⟨by rfl, ?_⟩) hH ?_
            rotate_left
            · intro w hSw
              clear hSw
              go_simp
              try with_reducible rfl
            simp only [Act.put, List.setIfInBounds_toArray, List.set_cons_zero, List.set_cons_succ]
            refine wpAnyH_ready (rs := [6]) (by kernel_rfl) (by simp) ?_
            refine AllReadyH.cons (o := { dst := none, op := .store _ (.tmp 117) (.tmp 116), type := _, pos := _, after := _, guard := _ }) rfl (fun K hK => ?_) AllReadyH.nil
            rw [if_pos (by rfl)]
            refine wp_store_mid _ _ _ rfl n _ #[.int .i64 (y), .int .i64 (z)] rfl rfl (h573q.out.thereS ha) HT.out (two_one _ _) ?_
            simp only [Act.put]
            have h579q : Hid (Gd n w (u571q.setCells n (a * 2) [.int .i64 (y), .int .i64 (z)])) := h572q.out.asideL (by omega) (a * 2) [.int .i64 (y), .int .i64 (z)]
            have h580q : Hid (TAt (u571q.setCells n (a * 2) [.int .i64 (y), .int .i64 (z)]) n ((u.set b 0 0).set a y z)) := h573q.out.slot ha (y) (z)
            have h581q : Hid (Bo (u571q.setCells n (a * 2) [.int .i64 (y), .int .i64 (z)]) (n + 1) [.int .i64 2, .int .i64 k, .int .i64 x]) := h574q.out.asideL (by omega) (a * 2) [.int .i64 (y), .int .i64 (z)]
            have h582q : Hid (TAt (u571q.setCells n (a * 2) [.int .i64 (y), .int .i64 (z)]) (n + 2) Tb.zero) := h575q.out.asideL (by omega) (a * 2) [.int .i64 (y), .int .i64 (z)]
            have h583q : Hid (Bo (u571q.setCells n (a * 2) [.int .i64 (y), .int .i64 (z)]) (n + 3) [.int .i64 0, .int .i64 0]) := h576q.out.asideL (by omega) (a * 2) [.int .i64 (y), .int .i64 (z)]
            have h584q : Hid (Bo (u571q.setCells n (a * 2) [.int .i64 (y), .int .i64 (z)]) g9 ((bh p c).map (Value.int .i64))) := h577q.out.asideL (by omega) (a * 2) [.int .i64 (y), .int .i64 (z)]
            have h585q : Hid (Bo (u571q.setCells n (a * 2) [.int .i64 (y), .int .i64 (z)]) wr.heap.size [.int .i64 y, .int .i64 z]) := h578q.out.asideL (by omega) (a * 2) [.int .i64 (y), .int .i64 (z)]
            clear h572q h573q h574q h575q h576q h577q h578q
            refine hK.out _ _ h585q.out (fun hH => ?_)
            clear hK K
            generalize (u571q.setCells n (a * 2) [.int .i64 (y), .int .i64 (z)]) = u586q at h579q h580q h581q h582q h583q h584q h585q hH ⊢
            try simp only [Act.put, List.setIfInBounds_toArray, List.set_cons_zero, List.set_cons_succ]
            refine wpAnyH_done (by kernel_rfl) ?_ _
            go_wp2
            go_roundg (c - (m + 1))
            case measure => omega
            case rel => exact ⟨m + 1, by omega, by omega, by go_num, (u.set b 0 0).set a y z, AN.out ▸ J4, AN.out ▸ W3, h580q, h581q, h582q, h583q, h579q, h584q⟩
          · obtain rfl : c = m := by omega
            have E : Hid (without t p = u) := by
              have h1 := W2.out
              have h2 := J2.out.free
              have e : Fp = q := by rw [← HQ.out]; have h1 := J2.out.p8; have h2 := J2.out.F8; have h3 := HDD.out; unfold ds at h3; omega
              rw [e] at h2
              rw [show 7 - c = (7 - (c + 1)) + 1 by omega, woF, show ((p + c) % 8 + 1) % 8 = q by rw [← HQ.out]; omega, if_pos h2] at h1
              exact h1.symm
            go_wp2_with fail
            have SA := said_is (1) (t.v p)
            have h587q : Hid (Gd n w wr.drew) := G2.out.drew
            have h588q : Hid (TAt wr.drew n u) := T2.out.drew
            have h589q : Hid (Bo wr.drew (n + 1) [.int .i64 2, .int .i64 k, .int .i64 x]) := O2.out.drew
            have h590q : Hid (TAt wr.drew (n + 2) Tb.zero) := Z2.out.drew
            have h591q : Hid (Bo wr.drew (n + 3) [.int .i64 0, .int .i64 0]) := R2.out.drew
            have h592q : Hid (Bo wr.drew g9 ((bh p c).map (Value.int .i64))) := L2.out.drew
            clear G2 T2 O2 Z2 R2 L2
            refine wp_region_held_drew (S := fun w' => TAt w' n u) (by kernel_rfl) h588q.out (fun hH => ?_)
            generalize wr.drew = u593q at h587q h588q h589q h590q h591q h592q hH ⊢
            refine wpAnyH_take (i := 0) (oi := { dst := some 119, op := .load _ (.tmp 2), type := _, pos := _, after := _, guard := _ }) (v := _) rfl (by kernel_rfl) (by kernel_rfl) (by kernel_rfl) (fun _ _ _ h => h) (yieldsIf_load_mid (by rfl) _ _ rfl n _ rfl u.all _ (fun _ h => (h).range) HD.out rfl (HS.out u)) hH ?_
            simp only [Act.put, List.setIfInBounds_toArray, List.set_cons_zero, List.set_cons_succ]
            refine wpAnyH_take (i := 1) (oi := { dst := some 120, op := .move (.tmp 8), type := _, pos := _, after := _, guard := _ }) (v := ?_) rfl (by kernel_rfl) (by kernel_rfl) (by kernel_rfl) (fun _ _ _ h => h) (Or.inl ⟨by rfl, ?_⟩) hH ?_
            rotate_left
            · intro w hSw
              clear hSw
              go_simp
              try with_reducible rfl
            simp only [Act.put, List.setIfInBounds_toArray, List.set_cons_zero, List.set_cons_succ]
            refine wpAnyH_ready (rs := [2]) (by kernel_rfl) (by simp) ?_
            refine AllReadyH.cons (o := { dst := some 121, op := _, type := _, pos := _, after := _, guard := _ }) rfl (fun K hK => ?_) AllReadyH.nil
            go_simp
            refine (SA _).mono ?_
            rintro e u594q ⟨rfl, hb⟩
            have h595q : Hid (Gd n w u594q) := h587q.out.later hb
            have h596q : Hid (TAt u594q n u) := h588q.out.later hb
            have h597q : Hid (Bo u594q (n + 1) [.int .i64 2, .int .i64 k, .int .i64 x]) := h589q.out.later hb
            have h598q : Hid (TAt u594q (n + 2) Tb.zero) := h590q.out.later hb
            have h599q : Hid (Bo u594q (n + 3) [.int .i64 0, .int .i64 0]) := h591q.out.later hb
            have h600q : Hid (Bo u594q g9 ((bh p c).map (Value.int .i64))) := h592q.out.later hb
            clear h587q h588q h589q h590q h591q h592q
            clear hb
            go_wp2_with fail
            refine hK.out _ _ h596q.out (fun hH => ?_)
            clear hK K
            try simp only [Act.put, List.setIfInBounds_toArray, List.set_cons_zero, List.set_cons_succ]
            refine wpAnyH_ready (rs := [3]) (by kernel_rfl) (by simp) ?_
            refine AllReadyH.cons (o := { dst := none, op := .store _ (.tmp 4) (.tmp 119), type := _, pos := _, after := _, guard := _ }) rfl (fun K hK => ?_) AllReadyH.nil
            rw [if_pos (by rfl)]
            refine wp_store_mid _ _ _ rfl (n + 2) _ u.all.toArray rfl rfl (h598q.out.thereOf u) (HZ.out u) (u.all_all) ?_
            simp only [Act.put]
            have h601q : Hid (Gd n w (u594q.setCells (n + 2) 0 u.all)) := h595q.out.asideAll (by omega) u
            have h602q : Hid (TAt (u594q.setCells (n + 2) 0 u.all) n u) := h596q.out.asideAll (by omega) u
            have h603q : Hid (Bo (u594q.setCells (n + 2) 0 u.all) (n + 1) [.int .i64 2, .int .i64 k, .int .i64 x]) := h597q.out.asideAll (by omega) u
            have h604q : Hid (TAt (u594q.setCells (n + 2) 0 u.all) (n + 2) u) := h598q.out.setAll u
            have h605q : Hid (Bo (u594q.setCells (n + 2) 0 u.all) (n + 3) [.int .i64 0, .int .i64 0]) := h599q.out.asideAll (by omega) u
            have h606q : Hid (Bo (u594q.setCells (n + 2) 0 u.all) g9 ((bh p c).map (Value.int .i64))) := h600q.out.asideAll (by omega) u
            clear h595q h596q h597q h598q h599q h600q
            refine hK.out _ _ h602q.out (fun hH => ?_)
            clear hK K
            generalize (u594q.setCells (n + 2) 0 u.all) = u607q at h601q h602q h603q h604q h605q h606q hH ⊢
            try simp only [Act.put, List.setIfInBounds_toArray, List.set_cons_zero, List.set_cons_succ]
            refine wpAnyH_ready (rs := [4]) (by kernel_rfl) (by simp) ?_
            refine AllReadyH.cons (o := { dst := none, op := .store _ (.tmp 5) (.tmp 121), type := _, pos := _, after := _, guard := _ }) rfl (fun K hK => ?_) AllReadyH.nil
            rw [if_pos (by rfl)]
            refine wp_store_mid _ _ _ rfl (n + 3) _ #[.int .i64 (1), .int .i64 (t.v p)] rfl rfl h605q.out.there2 HA.out (two_one _ _) ?_
            simp only [Act.put]
            have h608q : Hid (Gd n w (u607q.setCells (n + 3) 0 [.int .i64 (1), .int .i64 (t.v p)])) := h601q.out.asideL (by omega) 0 [.int .i64 (1), .int .i64 (t.v p)]
            have h609q : Hid (TAt (u607q.setCells (n + 3) 0 [.int .i64 (1), .int .i64 (t.v p)]) n u) := h602q.out.asideL (by omega) 0 [.int .i64 (1), .int .i64 (t.v p)]
            have h610q : Hid (Bo (u607q.setCells (n + 3) 0 [.int .i64 (1), .int .i64 (t.v p)]) (n + 1) [.int .i64 2, .int .i64 k, .int .i64 x]) := h603q.out.asideL (by omega) 0 [.int .i64 (1), .int .i64 (t.v p)]
            have h611q : Hid (TAt (u607q.setCells (n + 3) 0 [.int .i64 (1), .int .i64 (t.v p)]) (n + 2) u) := h604q.out.asideL (by omega) 0 [.int .i64 (1), .int .i64 (t.v p)]
            have h612q : Hid (Bo (u607q.setCells (n + 3) 0 [.int .i64 (1), .int .i64 (t.v p)]) (n + 3) [.int .i64 (1), .int .i64 (t.v p)]) := h605q.out.set2 (.int .i64 (1)) (.int .i64 (t.v p))
            have h613q : Hid (Bo (u607q.setCells (n + 3) 0 [.int .i64 (1), .int .i64 (t.v p)]) g9 ((bh p c).map (Value.int .i64))) := h606q.out.asideL (by omega) 0 [.int .i64 (1), .int .i64 (t.v p)]
            clear h601q h602q h603q h604q h605q h606q
            refine hK.out _ _ h609q.out (fun hH => ?_)
            clear hK K
            generalize (u607q.setCells (n + 3) 0 [.int .i64 (1), .int .i64 (t.v p)]) = u614q at h608q h609q h610q h611q h612q h613q hH ⊢
            try simp only [Act.put, List.setIfInBounds_toArray, List.set_cons_zero, List.set_cons_succ]
            refine wpAnyH_done (by kernel_rfl) ?_ _
            go_wp2
            exact bodyPost_ret (results_row2 Tryd.results25 _ _ (n + 2) (n + 3) u.all [.int .i64 (1), .int .i64 (t.v p)] _ _ rfl rfl h611q.out.range HD.out rfl (HS.out u) h612q.out.range HDA.out rfl HA.out) rfl ⟨(by show _ = Ending.returned (.tuple #[.agg (without t p).all.toArray, .agg #[.int .i64 (1), .int .i64 (t.v p)]]); rw [E.out]), h608q.out.2⟩
    · have eN : (t.set p 0 0).k q ≠ 0 := by
        have hb := JJ.out.taken q hq8
        refine hb ?_
        have h1 := JJ.out.p8
        have e : ds p q = c + 1 := by rw [← HQ.out]; unfold ds; omega
        exact ⟨by omega, by rw [e, HDD.out]; omega⟩
      have m0 : ((t.set p 0 0).k q == 0) = false := by simp [eN]
      have m1 : ((t.set p 0 0).k q != 0) = true := by simp [eN]
      clear eN
      have BS : Hid (bh p (c + 1) = bh p c ++ [(q : Int)]) := by rw [← HQ.out]; exact bh_succ p c
      have hl : Hid ((bh p c).length + 1 ≤ 1000000) := by have := bh_len p c; show (bh p c).length + 1 ≤ 1000000; omega
      have h615q : Hid (Gd n w (wr.alloc (.cells #[.int .i64 (q : Int)] 3))) := G.out.new (.cells #[.int .i64 (q : Int)] 3)
      have h616q : Hid (TAt (wr.alloc (.cells #[.int .i64 (q : Int)] 3)) n (t.set p 0 0)) := T.out.new (.cells #[.int .i64 (q : Int)] 3)
      have h617q : Hid (Bo (wr.alloc (.cells #[.int .i64 (q : Int)] 3)) (n + 1) [.int .i64 2, .int .i64 k, .int .i64 x]) := OO.out.new (.cells #[.int .i64 (q : Int)] 3)
      have h618q : Hid (TAt (wr.alloc (.cells #[.int .i64 (q : Int)] 3)) (n + 2) Tb.zero) := ZZ.out.new (.cells #[.int .i64 (q : Int)] 3)
      have h619q : Hid (Bo (wr.alloc (.cells #[.int .i64 (q : Int)] 3)) (n + 3) [.int .i64 0, .int .i64 0]) := RR.out.new (.cells #[.int .i64 (q : Int)] 3)
      clear G T OO ZZ RR
      have LI : Hid (IsL 0 (wr.alloc (.cells #[.int .i64 (q : Int)] 3)) (.slice (some ⟨wr.heap.size, 0, none⟩) 1 1) [(q : Int)]) := IsL.lit wr [(q : Int)] Nat.zero_lt_one
      have OI : Hid (Own B (wr.alloc (.cells #[.int .i64 (q : Int)] 3)) u9 (bh p c)) := own_new O.out _
      have hBI : B ≤ (wr.alloc (.cells #[.int .i64 (q : Int)] 3)).heap.size := by simp; omega
      have HBI : Hid _ := hBI
      clear O hBI
      go_wp2_with (at_builtin; refine wpList_onto rfl rfl (.tmp 95) (.tmp 98) rfl rfl rfl HBI.out OI.out LI.out hl.out ?_; intro v3 w3 hO3 hb3; have h620q : Hid (Gd n w w3) := h615q.out.laterC hb3 (by omega); have h621q : Hid (TAt w3 n (t.set p 0 0)) := h616q.out.laterC hb3 (by omega); have h622q : Hid (Bo w3 (n + 1) [.int .i64 2, .int .i64 k, .int .i64 x]) := h617q.out.laterC hb3 (by omega); have h623q : Hid (TAt w3 (n + 2) Tb.zero) := h618q.out.laterC hb3 (by omega); have h624q : Hid (Bo w3 (n + 3) [.int .i64 0, .int .i64 0]) := h619q.out.laterC hb3 (by omega); have Q3 : Hid (Own B w3 v3 (bh p c ++ [(q : Int)]) ∧ B ≤ w3.heap.size) := ⟨hO3, Nat.le_trans HBI.out hb3.size⟩; clear hO3 hb3)
      go_roundg (d - (c + 1))
      case measure => omega
      case rel => exact ⟨c + 1, by omega, by omega, by go_num, BS.out ▸ Q3.out.1, Q3.out.2, h621q, h622q, h623q, h624q, h620q⟩

theorem RTable_eq {t : Tb} (h : RT t) (o k x : Int) (w : World) : Calls Tryd.prog 25 #[.agg t.all.toArray, .agg #[.int .i64 o, .int .i64 k, .int .i64 x]] w (Told w (tdo t o k x)) := by
  by_cases h6 : o = 6
  · subst h6
    exact rT_count t k x w
  by_cases hb : byKey o k
  · obtain ⟨ho, h1, h2⟩ := hb
    by_cases hh : t.k (place t k) = k
    · rcases ho with rfl | rfl | rfl
      · rw [tdo_put x h1 h2 (Or.inl hh)]; exact rT_put_has t k x hh h h1 h2 w
      · rw [tdo_take x h1 h2 hh]; exact rT_take t k x hh h h1 h2 w
      · rw [tdo_peek x h1 h2, look, if_pos hh]; exact rT_peek t k x hh h h1 h2 w
    · rcases ho with rfl | ho
      · by_cases hl : 6 ≤ len t
        · rw [tdo_full x h1 h2 hh hl]; exact rT_full t k x hh hl h h1 h2 w
        · rw [tdo_put x h1 h2 (Or.inr (by omega))]; exact rT_put_new t k x hh (by omega) h h1 h2 w
      · rw [tdo_absent x ho h1 h2 hh]; exact rT_absent t o k x ho hh h h1 h2 w
  · rw [tdo_wrong t x h6 hb]; exact rT_wrong t o k x h6 hb w
end Go.Proofs.YtbmgjpdfmgcigabDoor.Tab
