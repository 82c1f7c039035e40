/- The keepers' filled, by its contract. -/
import Derived.Test.YtojnkfdodjcnfaaKt
import Derived.Test.YtojnkfdodjcnfaaArgOps
namespace Go.Proofs.Ytojnkfdodjcnfaa
open Go.RowKit

set_option maxHeartbeats 2000000 in
theorem filled_nil  (w : World) :
    Calls Try.prog 17 #[.slice none 0 0] w (fun e w' => ∃ t, RT t ∧ e = .returned (.agg t.all.toArray) ∧ Below w.heap.size w w') := by
  obtain ⟨na, ea, hd⟩ := slots_array
  have HD : Hid _ := hd
  clear hd
  have HS : Hid (∀ t : Tb, (Try.prog.info? 29).map (·.size) = some t.all.length) := slots_size
  have HZ : Hid (∀ t : Tb, (Try.prog.info? 29).map (·.size) = some t.all.toArray.size) := slots_size2
  have HT : Hid ((Try.prog.info? 27).map (·.size) = some 2) := slot_size
  have HA : Hid ((Try.prog.info? 37).map (·.size) = some 2) := answer_size
  obtain ⟨fs, ha⟩ := answer_struct
  have HDA : Hid _ := ha
  clear ha
  have g0 : Hid (Gd w.heap.size w w) := Gd.refl w
  have h1q : Hid (Gd w.heap.size w (w.alloc (.cells #[.int .i64 0, .int .i64 0, .int .i64 0, .int .i64 0, .int .i64 0, .int .i64 0, .int .i64 0, .int .i64 0, .int .i64 0, .int .i64 0, .int .i64 0, .int .i64 0, .int .i64 0, .int .i64 0, .int .i64 0, .int .i64 0] 29))) := g0.out.new (.cells #[.int .i64 0, .int .i64 0, .int .i64 0, .int .i64 0, .int .i64 0, .int .i64 0, .int .i64 0, .int .i64 0, .int .i64 0, .int .i64 0, .int .i64 0, .int .i64 0, .int .i64 0, .int .i64 0, .int .i64 0, .int .i64 0] 29)
  clear g0
  have h2q : Hid (TAt (w.alloc (.cells #[.int .i64 0, .int .i64 0, .int .i64 0, .int .i64 0, .int .i64 0, .int .i64 0, .int .i64 0, .int .i64 0, .int .i64 0, .int .i64 0, .int .i64 0, .int .i64 0, .int .i64 0, .int .i64 0, .int .i64 0, .int .i64 0] 29)) w.heap.size Tb.zero) := TAt.bornZero w 29 (by simp)
  have h3q : Hid (Gd w.heap.size w ((w.alloc (.cells #[.int .i64 0, .int .i64 0, .int .i64 0, .int .i64 0, .int .i64 0, .int .i64 0, .int .i64 0, .int .i64 0, .int .i64 0, .int .i64 0, .int .i64 0, .int .i64 0, .int .i64 0, .int .i64 0, .int .i64 0, .int .i64 0] 29)).alloc (.cells #[.int .i64 0, .int .i64 0, .int .i64 0, .int .i64 0, .int .i64 0, .int .i64 0, .int .i64 0, .int .i64 0, .int .i64 0, .int .i64 0, .int .i64 0, .int .i64 0, .int .i64 0, .int .i64 0, .int .i64 0, .int .i64 0] 29))) := h1q.out.new (.cells #[.int .i64 0, .int .i64 0, .int .i64 0, .int .i64 0, .int .i64 0, .int .i64 0, .int .i64 0, .int .i64 0, .int .i64 0, .int .i64 0, .int .i64 0, .int .i64 0, .int .i64 0, .int .i64 0, .int .i64 0, .int .i64 0] 29)
  have h4q : Hid (TAt ((w.alloc (.cells #[.int .i64 0, .int .i64 0, .int .i64 0, .int .i64 0, .int .i64 0, .int .i64 0, .int .i64 0, .int .i64 0, .int .i64 0, .int .i64 0, .int .i64 0, .int .i64 0, .int .i64 0, .int .i64 0, .int .i64 0, .int .i64 0] 29)).alloc (.cells #[.int .i64 0, .int .i64 0, .int .i64 0, .int .i64 0, .int .i64 0, .int .i64 0, .int .i64 0, .int .i64 0, .int .i64 0, .int .i64 0, .int .i64 0, .int .i64 0, .int .i64 0, .int .i64 0, .int .i64 0, .int .i64 0] 29)) w.heap.size Tb.zero) := h2q.out.new (.cells #[.int .i64 0, .int .i64 0, .int .i64 0, .int .i64 0, .int .i64 0, .int .i64 0, .int .i64 0, .int .i64 0, .int .i64 0, .int .i64 0, .int .i64 0, .int .i64 0, .int .i64 0, .int .i64 0, .int .i64 0, .int .i64 0] 29)
  clear h1q h2q
  have h5q : Hid (TAt ((w.alloc (.cells #[.int .i64 0, .int .i64 0, .int .i64 0, .int .i64 0, .int .i64 0, .int .i64 0, .int .i64 0, .int .i64 0, .int .i64 0, .int .i64 0, .int .i64 0, .int .i64 0, .int .i64 0, .int .i64 0, .int .i64 0, .int .i64 0] 29)).alloc (.cells #[.int .i64 0, .int .i64 0, .int .i64 0, .int .i64 0, .int .i64 0, .int .i64 0, .int .i64 0, .int .i64 0, .int .i64 0, .int .i64 0, .int .i64 0, .int .i64 0, .int .i64 0, .int .i64 0, .int .i64 0, .int .i64 0] 29)) (w.heap.size + 1) Tb.zero) := TAt.bornZero (w.alloc (.cells #[.int .i64 0, .int .i64 0, .int .i64 0, .int .i64 0, .int .i64 0, .int .i64 0, .int .i64 0, .int .i64 0, .int .i64 0, .int .i64 0, .int .i64 0, .int .i64 0, .int .i64 0, .int .i64 0, .int .i64 0, .int .i64 0] 29)) 29 (by simp)
  have RZ : Hid (RT Tb.zero) := RT.zero
  go_enter Try.func17, Try.ntmps17
  go_wp2_with fail
  generalize ((w.alloc (.cells #[.int .i64 0, .int .i64 0, .int .i64 0, .int .i64 0, .int .i64 0, .int .i64 0, .int .i64 0, .int .i64 0, .int .i64 0, .int .i64 0, .int .i64 0, .int .i64 0, .int .i64 0, .int .i64 0, .int .i64 0, .int .i64 0] 29)).alloc (.cells #[.int .i64 0, .int .i64 0, .int .i64 0, .int .i64 0, .int .i64 0, .int .i64 0, .int .i64 0, .int .i64 0, .int .i64 0, .int .i64 0, .int .i64 0, .int .i64 0, .int .i64 0, .int .i64 0, .int .i64 0, .int .i64 0] 29)) = W at h3q h4q h5q ⊢
  generalize w.heap.size = n at h3q h4q h5q ⊢
  go_loopg [13] 0 (fun gg s13 wt => wt = W ∧ s13 = .int .i64 0)
  case atStart => exact ⟨rfl, rfl⟩
  case round =>
    obtain ⟨hw, rfl⟩ := hrel
    rw [hw]
    clear hw wr
    go_wp2_with (first
      | (refine wpList_load_mid rfl 29 _ rfl (n + 1) _ rfl Tb.zero.all _ h5q.out.range HD.out rfl (HS.out Tb.zero) ?_)
      | (refine wpList_store_mid rfl 29 _ _ rfl n _ Tb.zero.all.toArray rfl rfl (h4q.out.thereOf Tb.zero) (HZ.out Tb.zero) (Tb.zero.all_all) ?_
         have h6q : Hid (Gd n w (W.setCells n 0 Tb.zero.all)) := h3q.out.asideAll (by omega) Tb.zero
         have h7q : Hid (TAt (W.setCells n 0 Tb.zero.all) n Tb.zero) := h4q.out.setAll Tb.zero
         have h8q : Hid (TAt (W.setCells n 0 Tb.zero.all) (n + 1) Tb.zero) := h5q.out.asideAll (by omega) Tb.zero
         clear h3q h4q h5q
         generalize (W.setCells n 0 Tb.zero.all) = u9q at h6q h7q h8q  ⊢))
    exact bodyPost_ret (results_row Try.results17 _ _ n Tb.zero.all _ rfl h7q.out.range HD.out rfl (HS.out Tb.zero)) rfl ⟨Tb.zero, RZ.out, rfl, h6q.out.2⟩

set_option maxHeartbeats 2000000 in
theorem filled_none (a : Addr) (c : Nat) (w : World) :
    Calls Try.prog 17 #[.slice (some a) 0 c] w (fun e w' => ∃ t, RT t ∧ e = .returned (.agg t.all.toArray) ∧ Below w.heap.size w w') := by
  obtain ⟨na, ea, hd⟩ := slots_array
  have HD : Hid _ := hd
  clear hd
  have HS : Hid (∀ t : Tb, (Try.prog.info? 29).map (·.size) = some t.all.length) := slots_size
  have HZ : Hid (∀ t : Tb, (Try.prog.info? 29).map (·.size) = some t.all.toArray.size) := slots_size2
  have HT : Hid ((Try.prog.info? 27).map (·.size) = some 2) := slot_size
  have HA : Hid ((Try.prog.info? 37).map (·.size) = some 2) := answer_size
  obtain ⟨fs, ha⟩ := answer_struct
  have HDA : Hid _ := ha
  clear ha
  have g0 : Hid (Gd w.heap.size w w) := Gd.refl w
  have h10q : Hid (Gd w.heap.size w (w.alloc (.cells #[.int .i64 0, .int .i64 0, .int .i64 0, .int .i64 0, .int .i64 0, .int .i64 0, .int .i64 0, .int .i64 0, .int .i64 0, .int .i64 0, .int .i64 0, .int .i64 0, .int .i64 0, .int .i64 0, .int .i64 0, .int .i64 0] 29))) := g0.out.new (.cells #[.int .i64 0, .int .i64 0, .int .i64 0, .int .i64 0, .int .i64 0, .int .i64 0, .int .i64 0, .int .i64 0, .int .i64 0, .int .i64 0, .int .i64 0, .int .i64 0, .int .i64 0, .int .i64 0, .int .i64 0, .int .i64 0] 29)
  clear g0
  have h11q : Hid (TAt (w.alloc (.cells #[.int .i64 0, .int .i64 0, .int .i64 0, .int .i64 0, .int .i64 0, .int .i64 0, .int .i64 0, .int .i64 0, .int .i64 0, .int .i64 0, .int .i64 0, .int .i64 0, .int .i64 0, .int .i64 0, .int .i64 0, .int .i64 0] 29)) w.heap.size Tb.zero) := TAt.bornZero w 29 (by simp)
  have h12q : Hid (Gd w.heap.size w ((w.alloc (.cells #[.int .i64 0, .int .i64 0, .int .i64 0, .int .i64 0, .int .i64 0, .int .i64 0, .int .i64 0, .int .i64 0, .int .i64 0, .int .i64 0, .int .i64 0, .int .i64 0, .int .i64 0, .int .i64 0, .int .i64 0, .int .i64 0] 29)).alloc (.cells #[.int .i64 0, .int .i64 0, .int .i64 0, .int .i64 0, .int .i64 0, .int .i64 0, .int .i64 0, .int .i64 0, .int .i64 0, .int .i64 0, .int .i64 0, .int .i64 0, .int .i64 0, .int .i64 0, .int .i64 0, .int .i64 0] 29))) := h10q.out.new (.cells #[.int .i64 0, .int .i64 0, .int .i64 0, .int .i64 0, .int .i64 0, .int .i64 0, .int .i64 0, .int .i64 0, .int .i64 0, .int .i64 0, .int .i64 0, .int .i64 0, .int .i64 0, .int .i64 0, .int .i64 0, .int .i64 0] 29)
  have h13q : Hid (TAt ((w.alloc (.cells #[.int .i64 0, .int .i64 0, .int .i64 0, .int .i64 0, .int .i64 0, .int .i64 0, .int .i64 0, .int .i64 0, .int .i64 0, .int .i64 0, .int .i64 0, .int .i64 0, .int .i64 0, .int .i64 0, .int .i64 0, .int .i64 0] 29)).alloc (.cells #[.int .i64 0, .int .i64 0, .int .i64 0, .int .i64 0, .int .i64 0, .int .i64 0, .int .i64 0, .int .i64 0, .int .i64 0, .int .i64 0, .int .i64 0, .int .i64 0, .int .i64 0, .int .i64 0, .int .i64 0, .int .i64 0] 29)) w.heap.size Tb.zero) := h11q.out.new (.cells #[.int .i64 0, .int .i64 0, .int .i64 0, .int .i64 0, .int .i64 0, .int .i64 0, .int .i64 0, .int .i64 0, .int .i64 0, .int .i64 0, .int .i64 0, .int .i64 0, .int .i64 0, .int .i64 0, .int .i64 0, .int .i64 0] 29)
  clear h10q h11q
  have h14q : Hid (TAt ((w.alloc (.cells #[.int .i64 0, .int .i64 0, .int .i64 0, .int .i64 0, .int .i64 0, .int .i64 0, .int .i64 0, .int .i64 0, .int .i64 0, .int .i64 0, .int .i64 0, .int .i64 0, .int .i64 0, .int .i64 0, .int .i64 0, .int .i64 0] 29)).alloc (.cells #[.int .i64 0, .int .i64 0, .int .i64 0, .int .i64 0, .int .i64 0, .int .i64 0, .int .i64 0, .int .i64 0, .int .i64 0, .int .i64 0, .int .i64 0, .int .i64 0, .int .i64 0, .int .i64 0, .int .i64 0, .int .i64 0] 29)) (w.heap.size + 1) Tb.zero) := TAt.bornZero (w.alloc (.cells #[.int .i64 0, .int .i64 0, .int .i64 0, .int .i64 0, .int .i64 0, .int .i64 0, .int .i64 0, .int .i64 0, .int .i64 0, .int .i64 0, .int .i64 0, .int .i64 0, .int .i64 0, .int .i64 0, .int .i64 0, .int .i64 0] 29)) 29 (by simp)
  have RZ : Hid (RT Tb.zero) := RT.zero
  go_enter Try.func17, Try.ntmps17
  go_wp2_with fail
  generalize ((w.alloc (.cells #[.int .i64 0, .int .i64 0, .int .i64 0, .int .i64 0, .int .i64 0, .int .i64 0, .int .i64 0, .int .i64 0, .int .i64 0, .int .i64 0, .int .i64 0, .int .i64 0, .int .i64 0, .int .i64 0, .int .i64 0, .int .i64 0] 29)).alloc (.cells #[.int .i64 0, .int .i64 0, .int .i64 0, .int .i64 0, .int .i64 0, .int .i64 0, .int .i64 0, .int .i64 0, .int .i64 0, .int .i64 0, .int .i64 0, .int .i64 0, .int .i64 0, .int .i64 0, .int .i64 0, .int .i64 0] 29)) = W at h12q h13q h14q ⊢
  generalize w.heap.size = n at h12q h13q h14q ⊢
  go_loopg [13] 0 (fun gg s13 wt => wt = W ∧ s13 = .int .i64 0)
  case atStart => exact ⟨rfl, rfl⟩
  case round =>
    obtain ⟨hw, rfl⟩ := hrel
    rw [hw]
    clear hw wr
    go_wp2_with (first
      | (refine wpList_load_mid rfl 29 _ rfl (n + 1) _ rfl Tb.zero.all _ h14q.out.range HD.out rfl (HS.out Tb.zero) ?_)
      | (refine wpList_store_mid rfl 29 _ _ rfl n _ Tb.zero.all.toArray rfl rfl (h13q.out.thereOf Tb.zero) (HZ.out Tb.zero) (Tb.zero.all_all) ?_
         have h15q : Hid (Gd n w (W.setCells n 0 Tb.zero.all)) := h12q.out.asideAll (by omega) Tb.zero
         have h16q : Hid (TAt (W.setCells n 0 Tb.zero.all) n Tb.zero) := h13q.out.setAll Tb.zero
         have h17q : Hid (TAt (W.setCells n 0 Tb.zero.all) (n + 1) Tb.zero) := h14q.out.asideAll (by omega) Tb.zero
         clear h12q h13q h14q
         generalize (W.setCells n 0 Tb.zero.all) = u18q at h15q h16q h17q  ⊢))
    exact bodyPost_ret (results_row Try.results17 _ _ n Tb.zero.all _ rfl h16q.out.range HD.out rfl (HS.out Tb.zero)) rfl ⟨Tb.zero, RZ.out, rfl, h15q.out.2⟩

set_option maxHeartbeats 2000000 in
theorem filled_some {v : Value} {b off c m : Nat} (hv : v = .slice (some ⟨b, off, none⟩) m c) (h0 : 0 < m) (hc : m ≤ c) (hm : m ≤ 9223372036854775807) (w : World) (D : Ops w v m) :
    Calls Try.prog 17 #[v] w (fun e w' => ∃ t, RT t ∧ e = .returned (.agg t.all.toArray) ∧ Below w.heap.size w w') := by
  obtain ⟨na, ea, hd⟩ := slots_array
  have HD : Hid _ := hd
  clear hd
  have HS : Hid (∀ t : Tb, (Try.prog.info? 29).map (·.size) = some t.all.length) := slots_size
  have HZ : Hid (∀ t : Tb, (Try.prog.info? 29).map (·.size) = some t.all.toArray.size) := slots_size2
  have HT : Hid ((Try.prog.info? 27).map (·.size) = some 2) := slot_size
  have HA : Hid ((Try.prog.info? 37).map (·.size) = some 2) := answer_size
  obtain ⟨fs, ha⟩ := answer_struct
  have HDA : Hid _ := ha
  clear ha
  have g0 : Hid (Gd w.heap.size w w) := Gd.refl w
  have h19q : Hid (Gd w.heap.size w (w.alloc (.cells #[.int .i64 0, .int .i64 0, .int .i64 0, .int .i64 0, .int .i64 0, .int .i64 0, .int .i64 0, .int .i64 0, .int .i64 0, .int .i64 0, .int .i64 0, .int .i64 0, .int .i64 0, .int .i64 0, .int .i64 0, .int .i64 0] 29))) := g0.out.new (.cells #[.int .i64 0, .int .i64 0, .int .i64 0, .int .i64 0, .int .i64 0, .int .i64 0, .int .i64 0, .int .i64 0, .int .i64 0, .int .i64 0, .int .i64 0, .int .i64 0, .int .i64 0, .int .i64 0, .int .i64 0, .int .i64 0] 29)
  clear g0
  have h20q : Hid (TAt (w.alloc (.cells #[.int .i64 0, .int .i64 0, .int .i64 0, .int .i64 0, .int .i64 0, .int .i64 0, .int .i64 0, .int .i64 0, .int .i64 0, .int .i64 0, .int .i64 0, .int .i64 0, .int .i64 0, .int .i64 0, .int .i64 0, .int .i64 0] 29)) w.heap.size Tb.zero) := TAt.bornZero w 29 (by simp)
  have h21q : Hid (Gd w.heap.size w ((w.alloc (.cells #[.int .i64 0, .int .i64 0, .int .i64 0, .int .i64 0, .int .i64 0, .int .i64 0, .int .i64 0, .int .i64 0, .int .i64 0, .int .i64 0, .int .i64 0, .int .i64 0, .int .i64 0, .int .i64 0, .int .i64 0, .int .i64 0] 29)).alloc (.cells #[.int .i64 0, .int .i64 0, .int .i64 0, .int .i64 0, .int .i64 0, .int .i64 0, .int .i64 0, .int .i64 0, .int .i64 0, .int .i64 0, .int .i64 0, .int .i64 0, .int .i64 0, .int .i64 0, .int .i64 0, .int .i64 0] 29))) := h19q.out.new (.cells #[.int .i64 0, .int .i64 0, .int .i64 0, .int .i64 0, .int .i64 0, .int .i64 0, .int .i64 0, .int .i64 0, .int .i64 0, .int .i64 0, .int .i64 0, .int .i64 0, .int .i64 0, .int .i64 0, .int .i64 0, .int .i64 0] 29)
  have h22q : Hid (TAt ((w.alloc (.cells #[.int .i64 0, .int .i64 0, .int .i64 0, .int .i64 0, .int .i64 0, .int .i64 0, .int .i64 0, .int .i64 0, .int .i64 0, .int .i64 0, .int .i64 0, .int .i64 0, .int .i64 0, .int .i64 0, .int .i64 0, .int .i64 0] 29)).alloc (.cells #[.int .i64 0, .int .i64 0, .int .i64 0, .int .i64 0, .int .i64 0, .int .i64 0, .int .i64 0, .int .i64 0, .int .i64 0, .int .i64 0, .int .i64 0, .int .i64 0, .int .i64 0, .int .i64 0, .int .i64 0, .int .i64 0] 29)) w.heap.size Tb.zero) := h20q.out.new (.cells #[.int .i64 0, .int .i64 0, .int .i64 0, .int .i64 0, .int .i64 0, .int .i64 0, .int .i64 0, .int .i64 0, .int .i64 0, .int .i64 0, .int .i64 0, .int .i64 0, .int .i64 0, .int .i64 0, .int .i64 0, .int .i64 0] 29)
  clear h19q h20q
  have h23q : Hid (TAt ((w.alloc (.cells #[.int .i64 0, .int .i64 0, .int .i64 0, .int .i64 0, .int .i64 0, .int .i64 0, .int .i64 0, .int .i64 0, .int .i64 0, .int .i64 0, .int .i64 0, .int .i64 0, .int .i64 0, .int .i64 0, .int .i64 0, .int .i64 0] 29)).alloc (.cells #[.int .i64 0, .int .i64 0, .int .i64 0, .int .i64 0, .int .i64 0, .int .i64 0, .int .i64 0, .int .i64 0, .int .i64 0, .int .i64 0, .int .i64 0, .int .i64 0, .int .i64 0, .int .i64 0, .int .i64 0, .int .i64 0] 29)) (w.heap.size + 1) Tb.zero) := TAt.bornZero (w.alloc (.cells #[.int .i64 0, .int .i64 0, .int .i64 0, .int .i64 0, .int .i64 0, .int .i64 0, .int .i64 0, .int .i64 0, .int .i64 0, .int .i64 0, .int .i64 0, .int .i64 0, .int .i64 0, .int .i64 0, .int .i64 0, .int .i64 0] 29)) 29 (by simp)
  have RZ : Hid (RT Tb.zero) := RT.zero
  have HE : Hid (∀ w', Below w.heap.size w w' → ∀ i, i < m → ∃ o k x : Int, w'.cell? ⟨b, off + i * 3, none⟩ = some (.int .i64 o) ∧ w'.cell? ⟨b, off + i * 3 + 1, none⟩ = some (.int .i64 k) ∧ w'.cell? ⟨b, off + i * 3 + 2, none⟩ = some (.int .i64 x)) := by
    intro w' hb i hi
    rcases D.later hb with ⟨h, _⟩ | ⟨b2, off2, c2, hv2, _, _, _, hh⟩
    · omega
    · rw [hv] at hv2
      injection hv2 with e1 _ _
      injection e1 with e1
      injection e1 with e1 e2
      subst e1 e2
      exact hh i hi
  clear D
  subst hv
  obtain ⟨q, hq⟩ : ∃ q, q = min m 30 := ⟨_, rfl⟩
  have eq : min (m : Int) 30 = (q : Int) := by omega
  have eq2 : (if (30 : Int) < (m : Int) then (30 : Int) else (m : Int)) = (q : Int) := by split <;> omega
  have hqc : (q : Int) ≤ (c : Int) := by omega
  have hq0 : (0 : Int) ≤ (q : Int) := by omega
  have HQ : Hid (q ≤ m ∧ q ≤ 30) := (by omega : q ≤ m ∧ q ≤ 30)
  clear hq h0 hc hm
  go_enter Try.func17, Try.ntmps17
  go_wp2_with fail
  generalize ((w.alloc (.cells #[.int .i64 0, .int .i64 0, .int .i64 0, .int .i64 0, .int .i64 0, .int .i64 0, .int .i64 0, .int .i64 0, .int .i64 0, .int .i64 0, .int .i64 0, .int .i64 0, .int .i64 0, .int .i64 0, .int .i64 0, .int .i64 0] 29)).alloc (.cells #[.int .i64 0, .int .i64 0, .int .i64 0, .int .i64 0, .int .i64 0, .int .i64 0, .int .i64 0, .int .i64 0, .int .i64 0, .int .i64 0, .int .i64 0, .int .i64 0, .int .i64 0, .int .i64 0, .int .i64 0, .int .i64 0] 29)) = W at h21q h22q h23q ⊢
  generalize w.heap.size = n at h21q h22q h23q ⊢
  go_loopg [13] q (fun gg s13 wt => ∃ i : Nat, i ≤ q ∧ q - i ≤ gg ∧ s13 = .int .i64 i ∧ Hid (TAt wt n Tb.zero) ∧ Hid (Gd n w wt) ∧ ∃ t : Tb, Hid (RT t) ∧ Hid (TAt wt (n + 1) t))
  case atStart => exact ⟨0, by omega, by omega, rfl, h22q, h21q, Tb.zero, RZ, h23q⟩
  case round =>
    obtain ⟨i, hi, hgg, rfl, Z, G, t, R, T⟩ := hrel
    clear h22q h23q h21q
    by_cases hlt : i < q
    · obtain ⟨o, k, x, c0, c1, c2⟩ := HE.out wr G.out.2 i (by have := HQ.out; omega)
      have hi1 : (i : Int) < (q : Int) := by omega
      have hi0 : (0 : Int) ≤ (i : Int) := by omega
      obtain ⟨r3, hr3, hp3⟩ := pick_3 o
      have P3 : Hid _ := hp3
      clear hp3
      obtain ⟨r12, hr12, hp12⟩ := pick_12 k
      have P12 : Hid _ := hp12
      clear hp12
      obtain ⟨rV, hrV, hpV⟩ := pick_4294967296 x
      have PV : Hid _ := hpV
      clear hpV
      have e12 : IntKind.i64.wrap (1 + (r12 : Int)) = 1 + (r12 : Int) := by rw [IntKind.wrap_i64]; omega
      obtain ⟨wt, hwt, hwc⟩ : ∃ wt : Int, (wt = 1 ∨ wt = 2) ∧ ([Value.int .i64 1, .int .i64 1, .int .i64 2] : List Value)[r3]? = some (.int .i64 wt) := by
        have : r3 = 0 ∨ r3 = 1 ∨ r3 = 2 := by omega
        rcases this with rfl | rfl | rfl
        · exact ⟨1, Or.inl rfl, rfl⟩
        · exact ⟨1, Or.inl rfl, rfl⟩
        · exact ⟨2, Or.inr rfl, rfl⟩
      have HWC : Hid _ := hwc
      have h31 : (r3 : Int) < 3 := by omega
      have h30 : (0 : Int) ≤ (r3 : Int) := by omega
      obtain ⟨⟨u, cc, yy⟩, hu⟩ : ∃ r, tdo t wt (1 + (r12 : Int)) (rV : Nat) = r := ⟨_, rfl⟩
      have DO := tDo_eq t wt (1 + (r12 : Int)) (rV : Nat)
      rw [hu] at DO
      unfold Told at DO
      dsimp only at DO
      have HDO : Hid _ := DO
      have RU : Hid (RT u) := by have := (tdo_stays R.out (o := wt) (k := 1 + (r12 : Int)) (x := (rV : Nat)) (by omega) (by omega)).1; rw [hu] at this; exact this
      clear hu hwc hwt DO
      have l24q : n ≤ wr.heap.size := G.out.le
      have l25q : (n + 1) < wr.heap.size := T.out.lt
      have l26q : n < wr.heap.size := Z.out.lt
      have h27q : Hid (Gd n w (wr.alloc (.cells #[.int .i64 o, .int .i64 k, .int .i64 x] 35))) := G.out.new (.cells #[.int .i64 o, .int .i64 k, .int .i64 x] 35)
      have h28q : Hid (TAt (wr.alloc (.cells #[.int .i64 o, .int .i64 k, .int .i64 x] 35)) (n + 1) t) := T.out.new (.cells #[.int .i64 o, .int .i64 k, .int .i64 x] 35)
      have h29q : Hid (TAt (wr.alloc (.cells #[.int .i64 o, .int .i64 k, .int .i64 x] 35)) n Tb.zero) := Z.out.new (.cells #[.int .i64 o, .int .i64 k, .int .i64 x] 35)
      clear G T Z
      have h30q : Hid (Bo (wr.alloc (.cells #[.int .i64 o, .int .i64 k, .int .i64 x] 35)) wr.heap.size [.int .i64 o, .int .i64 k, .int .i64 x]) := Bo.born wr [.int .i64 o, .int .i64 k, .int .i64 x] 35 (by simp)
      have e0 := h30q.out.at 0 rfl
      have h31q : Hid (Gd n w ((wr.alloc (.cells #[.int .i64 o, .int .i64 k, .int .i64 x] 35)).alloc (.cells #[.int .i64 1, .int .i64 1, .int .i64 2] 3))) := h27q.out.new (.cells #[.int .i64 1, .int .i64 1, .int .i64 2] 3)
      have h32q : Hid (TAt ((wr.alloc (.cells #[.int .i64 o, .int .i64 k, .int .i64 x] 35)).alloc (.cells #[.int .i64 1, .int .i64 1, .int .i64 2] 3)) (n + 1) t) := h28q.out.new (.cells #[.int .i64 1, .int .i64 1, .int .i64 2] 3)
      have h33q : Hid (TAt ((wr.alloc (.cells #[.int .i64 o, .int .i64 k, .int .i64 x] 35)).alloc (.cells #[.int .i64 1, .int .i64 1, .int .i64 2] 3)) n Tb.zero) := h29q.out.new (.cells #[.int .i64 1, .int .i64 1, .int .i64 2] 3)
      have h34q : Hid (Bo ((wr.alloc (.cells #[.int .i64 o, .int .i64 k, .int .i64 x] 35)).alloc (.cells #[.int .i64 1, .int .i64 1, .int .i64 2] 3)) wr.heap.size [.int .i64 o, .int .i64 k, .int .i64 x]) := h30q.out.new (.cells #[.int .i64 1, .int .i64 1, .int .i64 2] 3)
      clear h27q h28q h29q h30q
      have h35q : Hid (Bo ((wr.alloc (.cells #[.int .i64 o, .int .i64 k, .int .i64 x] 35)).alloc (.cells #[.int .i64 1, .int .i64 1, .int .i64 2] 3)) (wr.heap.size + 1) [.int .i64 1, .int .i64 1, .int .i64 2]) := Bo.born (wr.alloc (.cells #[.int .i64 o, .int .i64 k, .int .i64 x] 35)) [.int .i64 1, .int .i64 1, .int .i64 2] 3 (by simp)
      have e1 := h34q.out.at 0 rfl
      go_wp2_with fail
      refine (P3.out _).mono ?_
      rintro e ux ⟨rfl, hw⟩
      rw [hw]; clear hw ux
      clear e0 e1 c0 c1 c2
      generalize ((wr.alloc (.cells #[.int .i64 o, .int .i64 k, .int .i64 x] 35)).alloc (.cells #[.int .i64 1, .int .i64 1, .int .i64 2] 3)) = W2 at h31q h32q h33q h34q h35q  ⊢
      have c3 := h35q.out.cell r3 _ HWC.out
      go_wp2_with fail
      clear c3
      have h36q : Hid (Gd n w W2.drew) := h31q.out.drew
      have h37q : Hid (TAt W2.drew (n + 1) t) := h32q.out.drew
      have h38q : Hid (TAt W2.drew n Tb.zero) := h33q.out.drew
      have h39q : Hid (Bo W2.drew wr.heap.size [.int .i64 o, .int .i64 k, .int .i64 x]) := h34q.out.drew
      have h40q : Hid (Bo W2.drew (wr.heap.size + 1) [.int .i64 1, .int .i64 1, .int .i64 2]) := h35q.out.drew
      clear h31q h32q h33q h34q h35q
      refine wp_region_held_drew (S := fun w' => Bo w' wr.heap.size [.int .i64 o, .int .i64 k, .int .i64 x]) (by kernel_rfl) h39q.out (fun hH => ?_)
      generalize W2.drew = u41q at h36q h37q h38q h39q h40q hH ⊢
      refine wpAnyH_take (i := 1) (oi := { dst := some 25, op := .move (.tmp 6), type := _, pos := _, after := _, guard := _ }) (v := ?_) rfl (by kernel_rfl) (by kernel_rfl) (by kernel_rfl) (fun _ _ _ h => h) (Or.inl ⟨by rfl, ?_⟩) hH ?_
      rotate_left
      · intro w hSw
        clear hSw
        go_simp
        try with_reducible rfl
      simp only [Act.put, List.setIfInBounds_toArray, List.set_cons_zero, List.set_cons_succ]
      refine wpAnyH_take (i := 2) (oi := { dst := some 26, op := .fieldAddr _ (.tmp 5) 1, type := _, pos := _, after := _, guard := _ }) (v := ?_) rfl (by kernel_rfl) (by kernel_rfl) (by kernel_rfl) (fun _ _ _ h => h) (Or.inl ⟨by rfl, ?_⟩) hH ?_
      rotate_left
      · intro w hSw
        clear hSw
        go_simp
        try with_reducible rfl
      simp only [Act.put, List.setIfInBounds_toArray, List.set_cons_zero, List.set_cons_succ]
      refine wpAnyH_take (i := 3) (oi := { dst := some 27, op := .load _ (.tmp 26), type := _, pos := _, after := _, guard := _ }) (v := ?_) rfl (by kernel_rfl) (by kernel_rfl) (by kernel_rfl) (fun _ _ _ h => h) (Or.inl ⟨by rfl, ?_⟩) hH ?_
      rotate_left
      · intro w hSw
        have c42q := (hSw).at 1 rfl
        clear hSw
        go_simp
        try with_reducible rfl
      simp only [Act.put, List.setIfInBounds_toArray, List.set_cons_zero, List.set_cons_succ]
      refine wpAnyH_take (i := 6) (oi := { dst := some 30, op := .fieldAddr _ (.tmp 5) 2, type := _, pos := _, after := _, guard := _ }) (v := ?_) rfl (by kernel_rfl) (by kernel_rfl) (by kernel_rfl) (fun _ _ _ h => h) (Or.inl ⟨by rfl, ?_⟩) hH ?_
      rotate_left
      · intro w hSw
        clear hSw
        go_simp
        try with_reducible rfl
      simp only [Act.put, List.setIfInBounds_toArray, List.set_cons_zero, List.set_cons_succ]
      refine wpAnyH_take (i := 7) (oi := { dst := some 31, op := .load _ (.tmp 30), type := _, pos := _, after := _, guard := _ }) (v := ?_) rfl (by kernel_rfl) (by kernel_rfl) (by kernel_rfl) (fun _ _ _ h => h) (Or.inl ⟨by rfl, ?_⟩) hH ?_
      rotate_left
      · intro w hSw
        have c43q := (hSw).at 2 rfl
        clear hSw
        go_simp
        try with_reducible rfl
      simp only [Act.put, List.setIfInBounds_toArray, List.set_cons_zero, List.set_cons_succ]
      refine wpAnyH_ready (rs := [0, 4]) (by kernel_rfl) (by simp) ?_
      refine AllReadyH.cons (o := { dst := some 24, op := .load _ (.tmp 3), type := _, pos := _, after := _, guard := _ }) rfl (fun K hK => ?_) ?_
      · rw [if_pos (by rfl)]
        refine wp_load_mid _ _ rfl (n + 1) _ rfl t.all _ h37q.out.range HD.out rfl (HS.out t) ?_
        simp only [Act.put, List.setIfInBounds_toArray, List.set_cons_zero, List.set_cons_succ]
        refine hK.out _ _ h39q.out (fun hH => ?_)
        clear hK K
        try simp only [Act.put, List.setIfInBounds_toArray, List.set_cons_zero, List.set_cons_succ]
        refine wpAnyH_ready (rs := [4]) (by kernel_rfl) (by simp) ?_
        refine AllReadyH.cons (o := { dst := some 28, op := _, type := _, pos := _, after := _, guard := _ }) rfl (fun K hK => ?_) AllReadyH.nil
        go_simp
        refine (P12.out _).mono ?_
        rintro e u44q ⟨rfl, hw⟩
        rw [hw]; clear hw u44q
        go_wp2_with fail
        refine hK.out _ _ h39q.out (fun hH => ?_)
        clear hK K
        try simp only [Act.put, List.setIfInBounds_toArray, List.set_cons_zero, List.set_cons_succ]
        refine wpAnyH_take (i := 5) (oi := { dst := some 29, op := .binOp .add _ (.const (.int .i64 1)) (.tmp 28) _, type := _, pos := _, after := _, guard := _ }) (v := ?_) rfl (by kernel_rfl) (by kernel_rfl) (by kernel_rfl) (fun _ _ _ h => h) (Or.inl ⟨by rfl, ?_⟩) hH ?_
        rotate_left
        · intro w hSw
          clear hSw
          go_simp
          try with_reducible rfl
        simp only [Act.put, List.setIfInBounds_toArray, List.set_cons_zero, List.set_cons_succ]
        refine wpAnyH_ready (rs := [8]) (by kernel_rfl) (by simp) ?_
        refine AllReadyH.cons (o := { dst := some 32, op := _, type := _, pos := _, after := _, guard := _ }) rfl (fun K hK => ?_) AllReadyH.nil
        go_simp
        refine (PV.out _).mono ?_
        rintro e u45q ⟨rfl, hw⟩
        rw [hw]; clear hw u45q
        go_wp2_with fail
        refine hK.out _ _ h39q.out (fun hH => ?_)
        clear hK K
        try simp only [Act.put, List.setIfInBounds_toArray, List.set_cons_zero, List.set_cons_succ]
        refine wpAnyH_take (i := 9) (oi := { dst := some 33, op := .build _ #[(0, .tmp 25), (1, .tmp 29), (2, .tmp 32)], type := _, pos := _, after := _, guard := _ }) (v := ?_) rfl (by kernel_rfl) (by kernel_rfl) (by kernel_rfl) (fun _ _ _ h => h) (Or.inl ⟨by rfl, ?_⟩) hH ?_
        rotate_left
        · intro w hSw
          clear hSw
          go_simp
          try with_reducible rfl
        simp only [Act.put, List.setIfInBounds_toArray, List.set_cons_zero, List.set_cons_succ]
        refine wpAnyH_ready (rs := [10]) (by kernel_rfl) (by simp) ?_
        refine AllReadyH.cons (o := { dst := some 34, op := _, type := _, pos := _, after := _, guard := _ }) rfl (fun K hK => ?_) AllReadyH.nil
        go_simp
        refine (HDO.out _).mono ?_
        rintro e u46q ⟨rfl, hb⟩
        have h47q : Hid (Gd n w u46q) := h36q.out.later hb
        have h48q : Hid (TAt u46q (n + 1) t) := h37q.out.later hb
        have h49q : Hid (TAt u46q n Tb.zero) := h38q.out.later hb
        have h50q : Hid (Bo u46q wr.heap.size [.int .i64 o, .int .i64 k, .int .i64 x]) := h39q.out.later hb
        have h51q : Hid (Bo u46q (wr.heap.size + 1) [.int .i64 1, .int .i64 1, .int .i64 2]) := h40q.out.later hb
        clear h36q h37q h38q h39q h40q
        clear hb
        go_wp2_with fail
        refine hK.out _ _ h50q.out (fun hH => ?_)
        clear hK K
        try simp only [Act.put, List.setIfInBounds_toArray, List.set_cons_zero, List.set_cons_succ]
        refine wpAnyH_take (i := 11) (oi := { dst := some 23, op := .move (.tmp 34), type := _, pos := _, after := _, guard := _ }) (v := ?_) rfl (by kernel_rfl) (by kernel_rfl) (by kernel_rfl) (fun _ _ _ h => h) (Or.inl ⟨by rfl, ?_⟩) hH ?_
        rotate_left
        · intro w hSw
          clear hSw
          go_simp
          try with_reducible rfl
        simp only [Act.put, List.setIfInBounds_toArray, List.set_cons_zero, List.set_cons_succ]
        refine wpAnyH_take (i := 12) (oi := { dst := some 35, op := .extract (.tmp 23) 0, type := _, pos := _, after := _, guard := _ }) (v := ?_) rfl (by kernel_rfl) (by kernel_rfl) (by kernel_rfl) (fun _ _ _ h => h) (Or.inl ⟨by rfl, ?_⟩) hH ?_
        rotate_left
        · intro w hSw
          clear hSw
          go_simp
          try with_reducible rfl
        simp only [Act.put, List.setIfInBounds_toArray, List.set_cons_zero, List.set_cons_succ]
        refine wpAnyH_take (i := 13) (oi := { dst := some 36, op := .extract (.tmp 23) 1, type := _, pos := _, after := _, guard := _ }) (v := ?_) rfl (by kernel_rfl) (by kernel_rfl) (by kernel_rfl) (fun _ _ _ h => h) (Or.inl ⟨by rfl, ?_⟩) hH ?_
        rotate_left
        · intro w hSw
          clear hSw
          go_simp
          try with_reducible rfl
        simp only [Act.put, List.setIfInBounds_toArray, List.set_cons_zero, List.set_cons_succ]
        refine wpAnyH_ready (rs := [14]) (by kernel_rfl) (by simp) ?_
        refine AllReadyH.cons (o := { dst := none, op := .store _ (.tmp 3) (.tmp 35), type := _, pos := _, after := _, guard := _ }) rfl (fun K hK => ?_) AllReadyH.nil
        rw [if_pos (by rfl)]
        refine wp_store_mid _ _ _ rfl (n + 1) _ u.all.toArray rfl rfl (h48q.out.thereOf u) (HZ.out u) (u.all_all) ?_
        simp only [Act.put]
        have h52q : Hid (Gd n w (u46q.setCells (n + 1) 0 u.all)) := h47q.out.asideAll (by omega) u
        have h53q : Hid (TAt (u46q.setCells (n + 1) 0 u.all) (n + 1) u) := h48q.out.setAll u
        have h54q : Hid (TAt (u46q.setCells (n + 1) 0 u.all) n Tb.zero) := h49q.out.asideAll (by omega) u
        have h55q : Hid (Bo (u46q.setCells (n + 1) 0 u.all) wr.heap.size [.int .i64 o, .int .i64 k, .int .i64 x]) := h50q.out.asideAll (by omega) u
        have h56q : Hid (Bo (u46q.setCells (n + 1) 0 u.all) (wr.heap.size + 1) [.int .i64 1, .int .i64 1, .int .i64 2]) := h51q.out.asideAll (by omega) u
        clear h47q h48q h49q h50q h51q
        refine hK.out _ _ h55q.out (fun hH => ?_)
        clear hK K
        generalize (u46q.setCells (n + 1) 0 u.all) = u57q at h52q h53q h54q h55q h56q hH ⊢
        try simp only [Act.put, List.setIfInBounds_toArray, List.set_cons_zero, List.set_cons_succ]
        refine wpAnyH_done (by kernel_rfl) ?_ _
        go_wp2
        go_roundg (q - (i + 1))
        case measure => omega
        case rel => exact ⟨i + 1, by omega, by omega, by go_num, h54q, h52q, u, RU, h53q⟩
      refine AllReadyH.cons (o := { dst := some 28, op := _, type := _, pos := _, after := _, guard := _ }) rfl (fun K hK => ?_) AllReadyH.nil
      go_simp
      refine (P12.out _).mono ?_
      rintro e u58q ⟨rfl, hw⟩
      rw [hw]; clear hw u58q
      go_wp2_with fail
      refine hK.out _ _ h39q.out (fun hH => ?_)
      clear hK K
      try simp only [Act.put, List.setIfInBounds_toArray, List.set_cons_zero, List.set_cons_succ]
      refine wpAnyH_take (i := 5) (oi := { dst := some 29, op := .binOp .add _ (.const (.int .i64 1)) (.tmp 28) _, type := _, pos := _, after := _, guard := _ }) (v := ?_) rfl (by kernel_rfl) (by kernel_rfl) (by kernel_rfl) (fun _ _ _ h => h) (Or.inl ⟨by rfl, ?_⟩) hH ?_
      rotate_left
      · intro w hSw
        clear hSw
        go_simp
        try with_reducible rfl
      simp only [Act.put, List.setIfInBounds_toArray, List.set_cons_zero, List.set_cons_succ]
      refine wpAnyH_ready (rs := [0, 8]) (by kernel_rfl) (by simp) ?_
      refine AllReadyH.cons (o := { dst := some 24, op := .load _ (.tmp 3), type := _, pos := _, after := _, guard := _ }) rfl (fun K hK => ?_) ?_
      · rw [if_pos (by rfl)]
        refine wp_load_mid _ _ rfl (n + 1) _ rfl t.all _ h37q.out.range HD.out rfl (HS.out t) ?_
        simp only [Act.put, List.setIfInBounds_toArray, List.set_cons_zero, List.set_cons_succ]
        refine hK.out _ _ h39q.out (fun hH => ?_)
        clear hK K
        try simp only [Act.put, List.setIfInBounds_toArray, List.set_cons_zero, List.set_cons_succ]
        refine wpAnyH_ready (rs := [8]) (by kernel_rfl) (by simp) ?_
        refine AllReadyH.cons (o := { dst := some 32, op := _, type := _, pos := _, after := _, guard := _ }) rfl (fun K hK => ?_) AllReadyH.nil
        go_simp
        refine (PV.out _).mono ?_
        rintro e u59q ⟨rfl, hw⟩
        rw [hw]; clear hw u59q
        go_wp2_with fail
        refine hK.out _ _ h39q.out (fun hH => ?_)
        clear hK K
        try simp only [Act.put, List.setIfInBounds_toArray, List.set_cons_zero, List.set_cons_succ]
        refine wpAnyH_take (i := 9) (oi := { dst := some 33, op := .build _ #[(0, .tmp 25), (1, .tmp 29), (2, .tmp 32)], type := _, pos := _, after := _, guard := _ }) (v := ?_) rfl (by kernel_rfl) (by kernel_rfl) (by kernel_rfl) (fun _ _ _ h => h) (Or.inl ⟨by rfl, ?_⟩) hH ?_
        rotate_left
        · intro w hSw
          clear hSw
          go_simp
          try with_reducible rfl
        simp only [Act.put, List.setIfInBounds_toArray, List.set_cons_zero, List.set_cons_succ]
        refine wpAnyH_ready (rs := [10]) (by kernel_rfl) (by simp) ?_
        refine AllReadyH.cons (o := { dst := some 34, op := _, type := _, pos := _, after := _, guard := _ }) rfl (fun K hK => ?_) AllReadyH.nil
        go_simp
        refine (HDO.out _).mono ?_
        rintro e u60q ⟨rfl, hb⟩
        have h61q : Hid (Gd n w u60q) := h36q.out.later hb
        have h62q : Hid (TAt u60q (n + 1) t) := h37q.out.later hb
        have h63q : Hid (TAt u60q n Tb.zero) := h38q.out.later hb
        have h64q : Hid (Bo u60q wr.heap.size [.int .i64 o, .int .i64 k, .int .i64 x]) := h39q.out.later hb
        have h65q : Hid (Bo u60q (wr.heap.size + 1) [.int .i64 1, .int .i64 1, .int .i64 2]) := h40q.out.later hb
        clear h36q h37q h38q h39q h40q
        clear hb
        go_wp2_with fail
        refine hK.out _ _ h64q.out (fun hH => ?_)
        clear hK K
        try simp only [Act.put, List.setIfInBounds_toArray, List.set_cons_zero, List.set_cons_succ]
        refine wpAnyH_take (i := 11) (oi := { dst := some 23, op := .move (.tmp 34), type := _, pos := _, after := _, guard := _ }) (v := ?_) rfl (by kernel_rfl) (by kernel_rfl) (by kernel_rfl) (fun _ _ _ h => h) (Or.inl ⟨by rfl, ?_⟩) hH ?_
        rotate_left
        · intro w hSw
          clear hSw
          go_simp
          try with_reducible rfl
        simp only [Act.put, List.setIfInBounds_toArray, List.set_cons_zero, List.set_cons_succ]
        refine wpAnyH_take (i := 12) (oi := { dst := some 35, op := .extract (.tmp 23) 0, type := _, pos := _, after := _, guard := _ }) (v := ?_) rfl (by kernel_rfl) (by kernel_rfl) (by kernel_rfl) (fun _ _ _ h => h) (Or.inl ⟨by rfl, ?_⟩) hH ?_
        rotate_left
        · intro w hSw
          clear hSw
          go_simp
          try with_reducible rfl
        simp only [Act.put, List.setIfInBounds_toArray, List.set_cons_zero, List.set_cons_succ]
        refine wpAnyH_take (i := 13) (oi := { dst := some 36, op := .extract (.tmp 23) 1, type := _, pos := _, after := _, guard := _ }) (v := ?_) rfl (by kernel_rfl) (by kernel_rfl) (by kernel_rfl) (fun _ _ _ h => h) (Or.inl ⟨by rfl, ?_⟩) hH ?_
        rotate_left
        · intro w hSw
          clear hSw
          go_simp
          try with_reducible rfl
        simp only [Act.put, List.setIfInBounds_toArray, List.set_cons_zero, List.set_cons_succ]
        refine wpAnyH_ready (rs := [14]) (by kernel_rfl) (by simp) ?_
        refine AllReadyH.cons (o := { dst := none, op := .store _ (.tmp 3) (.tmp 35), type := _, pos := _, after := _, guard := _ }) rfl (fun K hK => ?_) AllReadyH.nil
        rw [if_pos (by rfl)]
        refine wp_store_mid _ _ _ rfl (n + 1) _ u.all.toArray rfl rfl (h62q.out.thereOf u) (HZ.out u) (u.all_all) ?_
        simp only [Act.put]
        have h66q : Hid (Gd n w (u60q.setCells (n + 1) 0 u.all)) := h61q.out.asideAll (by omega) u
        have h67q : Hid (TAt (u60q.setCells (n + 1) 0 u.all) (n + 1) u) := h62q.out.setAll u
        have h68q : Hid (TAt (u60q.setCells (n + 1) 0 u.all) n Tb.zero) := h63q.out.asideAll (by omega) u
        have h69q : Hid (Bo (u60q.setCells (n + 1) 0 u.all) wr.heap.size [.int .i64 o, .int .i64 k, .int .i64 x]) := h64q.out.asideAll (by omega) u
        have h70q : Hid (Bo (u60q.setCells (n + 1) 0 u.all) (wr.heap.size + 1) [.int .i64 1, .int .i64 1, .int .i64 2]) := h65q.out.asideAll (by omega) u
        clear h61q h62q h63q h64q h65q
        refine hK.out _ _ h69q.out (fun hH => ?_)
        clear hK K
        generalize (u60q.setCells (n + 1) 0 u.all) = u71q at h66q h67q h68q h69q h70q hH ⊢
        try simp only [Act.put, List.setIfInBounds_toArray, List.set_cons_zero, List.set_cons_succ]
        refine wpAnyH_done (by kernel_rfl) ?_ _
        go_wp2
        go_roundg (q - (i + 1))
        case measure => omega
        case rel => exact ⟨i + 1, by omega, by omega, by go_num, h68q, h66q, u, RU, h67q⟩
      refine AllReadyH.cons (o := { dst := some 32, op := _, type := _, pos := _, after := _, guard := _ }) rfl (fun K hK => ?_) AllReadyH.nil
      go_simp
      refine (PV.out _).mono ?_
      rintro e u72q ⟨rfl, hw⟩
      rw [hw]; clear hw u72q
      go_wp2_with fail
      refine hK.out _ _ h39q.out (fun hH => ?_)
      clear hK K
      try simp only [Act.put, List.setIfInBounds_toArray, List.set_cons_zero, List.set_cons_succ]
      refine wpAnyH_take (i := 9) (oi := { dst := some 33, op := .build _ #[(0, .tmp 25), (1, .tmp 29), (2, .tmp 32)], type := _, pos := _, after := _, guard := _ }) (v := ?_) rfl (by kernel_rfl) (by kernel_rfl) (by kernel_rfl) (fun _ _ _ h => h) (Or.inl ⟨by rfl, ?_⟩) hH ?_
      rotate_left
      · intro w hSw
        clear hSw
        go_simp
        try with_reducible rfl
      simp only [Act.put, List.setIfInBounds_toArray, List.set_cons_zero, List.set_cons_succ]
      refine wpAnyH_ready (rs := [0]) (by kernel_rfl) (by simp) ?_
      refine AllReadyH.cons (o := { dst := some 24, op := .load _ (.tmp 3), type := _, pos := _, after := _, guard := _ }) rfl (fun K hK => ?_) AllReadyH.nil
      rw [if_pos (by rfl)]
      refine wp_load_mid _ _ rfl (n + 1) _ rfl t.all _ h37q.out.range HD.out rfl (HS.out t) ?_
      simp only [Act.put, List.setIfInBounds_toArray, List.set_cons_zero, List.set_cons_succ]
      refine hK.out _ _ h39q.out (fun hH => ?_)
      clear hK K
      try simp only [Act.put, List.setIfInBounds_toArray, List.set_cons_zero, List.set_cons_succ]
      refine wpAnyH_ready (rs := [10]) (by kernel_rfl) (by simp) ?_
      refine AllReadyH.cons (o := { dst := some 34, op := _, type := _, pos := _, after := _, guard := _ }) rfl (fun K hK => ?_) AllReadyH.nil
      go_simp
      refine (HDO.out _).mono ?_
      rintro e u73q ⟨rfl, hb⟩
      have h74q : Hid (Gd n w u73q) := h36q.out.later hb
      have h75q : Hid (TAt u73q (n + 1) t) := h37q.out.later hb
      have h76q : Hid (TAt u73q n Tb.zero) := h38q.out.later hb
      have h77q : Hid (Bo u73q wr.heap.size [.int .i64 o, .int .i64 k, .int .i64 x]) := h39q.out.later hb
      have h78q : Hid (Bo u73q (wr.heap.size + 1) [.int .i64 1, .int .i64 1, .int .i64 2]) := h40q.out.later hb
      clear h36q h37q h38q h39q h40q
      clear hb
      go_wp2_with fail
      refine hK.out _ _ h77q.out (fun hH => ?_)
      clear hK K
      try simp only [Act.put, List.setIfInBounds_toArray, List.set_cons_zero, List.set_cons_succ]
      refine wpAnyH_take (i := 11) (oi := { dst := some 23, op := .move (.tmp 34), type := _, pos := _, after := _, guard := _ }) (v := ?_) rfl (by kernel_rfl) (by kernel_rfl) (by kernel_rfl) (fun _ _ _ h => h) (Or.inl ⟨by rfl, ?_⟩) hH ?_
      rotate_left
      · intro w hSw
        clear hSw
        go_simp
        try with_reducible rfl
      simp only [Act.put, List.setIfInBounds_toArray, List.set_cons_zero, List.set_cons_succ]
      refine wpAnyH_take (i := 12) (oi := { dst := some 35, op := .extract (.tmp 23) 0, type := _, pos := _, after := _, guard := _ }) (v := ?_) rfl (by kernel_rfl) (by kernel_rfl) (by kernel_rfl) (fun _ _ _ h => h) (Or.inl ⟨by rfl, ?_⟩) hH ?_
      rotate_left
      · intro w hSw
        clear hSw
        go_simp
        try with_reducible rfl
      simp only [Act.put, List.setIfInBounds_toArray, List.set_cons_zero, List.set_cons_succ]
      refine wpAnyH_take (i := 13) (oi := { dst := some 36, op := .extract (.tmp 23) 1, type := _, pos := _, after := _, guard := _ }) (v := ?_) rfl (by kernel_rfl) (by kernel_rfl) (by kernel_rfl) (fun _ _ _ h => h) (Or.inl ⟨by rfl, ?_⟩) hH ?_
      rotate_left
      · intro w hSw
        clear hSw
        go_simp
        try with_reducible rfl
      simp only [Act.put, List.setIfInBounds_toArray, List.set_cons_zero, List.set_cons_succ]
      refine wpAnyH_ready (rs := [14]) (by kernel_rfl) (by simp) ?_
      refine AllReadyH.cons (o := { dst := none, op := .store _ (.tmp 3) (.tmp 35), type := _, pos := _, after := _, guard := _ }) rfl (fun K hK => ?_) AllReadyH.nil
      rw [if_pos (by rfl)]
      refine wp_store_mid _ _ _ rfl (n + 1) _ u.all.toArray rfl rfl (h75q.out.thereOf u) (HZ.out u) (u.all_all) ?_
      simp only [Act.put]
      have h79q : Hid (Gd n w (u73q.setCells (n + 1) 0 u.all)) := h74q.out.asideAll (by omega) u
      have h80q : Hid (TAt (u73q.setCells (n + 1) 0 u.all) (n + 1) u) := h75q.out.setAll u
      have h81q : Hid (TAt (u73q.setCells (n + 1) 0 u.all) n Tb.zero) := h76q.out.asideAll (by omega) u
      have h82q : Hid (Bo (u73q.setCells (n + 1) 0 u.all) wr.heap.size [.int .i64 o, .int .i64 k, .int .i64 x]) := h77q.out.asideAll (by omega) u
      have h83q : Hid (Bo (u73q.setCells (n + 1) 0 u.all) (wr.heap.size + 1) [.int .i64 1, .int .i64 1, .int .i64 2]) := h78q.out.asideAll (by omega) u
      clear h74q h75q h76q h77q h78q
      refine hK.out _ _ h82q.out (fun hH => ?_)
      clear hK K
      generalize (u73q.setCells (n + 1) 0 u.all) = u84q at h79q h80q h81q h82q h83q hH ⊢
      try simp only [Act.put, List.setIfInBounds_toArray, List.set_cons_zero, List.set_cons_succ]
      refine wpAnyH_done (by kernel_rfl) ?_ _
      go_wp2
      go_roundg (q - (i + 1))
      case measure => omega
      case rel => exact ⟨i + 1, by omega, by omega, by go_num, h81q, h79q, u, RU, h80q⟩
    · obtain rfl : i = q := by omega
      go_wp2_with (first
        | (refine wpList_load_mid rfl 29 _ rfl (n + 1) _ rfl t.all _ T.out.range HD.out rfl (HS.out t) ?_)
        | (refine wpList_store_mid rfl 29 _ _ rfl n _ t.all.toArray rfl rfl (Z.out.thereOf t) (HZ.out t) (t.all_all) ?_
           have h85q : Hid (Gd n w (wr.setCells n 0 t.all)) := G.out.asideAll (by omega) t
           have h86q : Hid (TAt (wr.setCells n 0 t.all) (n + 1) t) := T.out.asideAll (by omega) t
           have h87q : Hid (TAt (wr.setCells n 0 t.all) n t) := Z.out.setAll t
           clear G T Z
           generalize (wr.setCells n 0 t.all) = u88q at h85q h86q h87q  ⊢))
      exact bodyPost_ret (results_row Try.results17 _ _ n t.all _ rfl h87q.out.range HD.out rfl (HS.out t)) rfl ⟨t, R.out, rfl, h85q.out.2⟩

theorem filled_is {v : Value} {m : Nat} {w : World} (D : Ops w v m) : Calls Try.prog 17 #[v] w (fun e w' => ∃ t, RT t ∧ e = .returned (.agg t.all.toArray) ∧ Below w.heap.size w w') := by
  rcases id D with ⟨_, a, c, rfl, hc⟩ | ⟨b, off, c, hv, h0, hc, hm, _⟩
  · cases a with
    | none => obtain rfl := hc rfl; exact filled_nil w
    | some a => exact filled_none a c w
  · exact filled_some hv h0 hc hm w D
end Go.Proofs.Ytojnkfdodjcnfaa
