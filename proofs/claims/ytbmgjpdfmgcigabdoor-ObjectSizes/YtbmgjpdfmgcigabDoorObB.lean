/- Package object: the list that words are. -/
import Derived.Test.YtbmgjpdfmgcigabDoorObA
import Derived.Test.YtbmgjpdfmgcigabDoorKf
namespace Go.Proofs.YtbmgjpdfmgcigabDoor.Tab
set_option maxRecDepth 20000
open Go.RowKit

theorem own_nil (B : Nat) (w : World) : Own B w (.slice none 0 0) [] := ⟨rfl, Or.inl ⟨rfl, rfl⟩⟩
theorem lst_take (c : Nat → Nat) {i : Nat} (h : i < c 0) : (lst c).take i ++ [((c (1 + i) : Nat) : Int)] = (lst c).take (i + 1) := by
  have := take_more (lst c) i (by rw [lst_length]; exact h)
  rw [lst_at c h, Nat.add_comm i 1] at this
  rw [Nat.add_comm i 1]; exact this
set_option maxHeartbeats 2000000 in
theorem list_0 (c : Nat → Nat) (h : c 0 = 0) (hv : ∀ i, 1 ≤ i → i ≤ 0 → c i ≤ 4294967295) (w : World) : Calls Tryd.prog 32 #[.agg (wl c).toArray] w fun e w' => ∃ v, e = .returned v ∧ IsL w.heap.size w' v (lst c) ∧ Below w.heap.size w w' := by
  obtain ⟨i0, hi, hz0, hz1, hz2⟩ := info_parts info_int
  have G : Hid (Gd w.heap.size w (w.alloc (.cells (wl c).toArray 24))) := (Gd.refl w).new _
  have T : Hid (Bo (w.alloc (.cells (wl c).toArray 24)) w.heap.size (wl c)) := Bo.born w (wl c) _ rfl
  have g0 : (w.alloc (.cells (wl c).toArray 24)).cell? ⟨w.heap.size, 0, none⟩ = some (.int .u64 0) := by have := T.out.word (show 0 < 17 by decide); rw [h] at this; exact this
  have LT : Hid (∀ i, i < 0 → (lst c).take i ++ [((c (1 + i) : Nat) : Int)] = (lst c).take (i + 1)) := fun i hi => lst_take c (by omega)
  have LL : Hid (∀ i, i ≤ 0 → ((lst c).take i).length = i) := fun i hi => by rw [List.length_take, lst_length, h]; omega
  have LE : Hid ((lst c).take 0 = lst c) := List.take_of_length_le (by rw [lst_length, h]; omega)
  have HV : Hid _ := hv
  clear h hv
  go_enter Tryd.func32, Tryd.ntmps32
  go_wp2_with fail
  generalize w.alloc (.cells (wl c).toArray 24) = W at T G g0 ⊢
  generalize hsz : w.heap.size = n at T G g0 ⊢
  have HSZ : Hid (w.heap.size = n) := hsz
  clear hsz g0
  go_loopg [11, 3] 0 (fun gg s11 s3 wt => ∃ i : Nat, i ≤ 0 ∧ 0 - i ≤ gg ∧ s11 = .int .i64 i ∧ Hid (Own (n + 1) wt s3 ((lst c).take i)) ∧ Hid (Bo wt n (wl c)) ∧ Hid (Gd n w wt))
  case atStart => exact ⟨0, by omega, by omega, rfl, own_nil _ _, T, G⟩
  case round =>
    clear T G
    obtain ⟨i, hi1, hgg, rfl, O, T, G⟩ := hrel
    by_cases hlt : i < 0
    · exact absurd hlt (by omega)
    · have ei : i = 0 := by omega
      subst ei
      go_wp2
      go_ret
      have I : IsL (n + 1) wr u3 (lst c) := by have := O.out.isL; rw [LE.out] at this; exact this
      exact ⟨_, rfl, by rw [HSZ.out]; exact I.mono (by omega), G.out.2⟩
set_option maxHeartbeats 2000000 in
theorem list_1 (c : Nat → Nat) (h : c 0 = 1) (hv : ∀ i, 1 ≤ i → i ≤ 1 → c i ≤ 4294967295) (w : World) : Calls Tryd.prog 32 #[.agg (wl c).toArray] w fun e w' => ∃ v, e = .returned v ∧ IsL w.heap.size w' v (lst c) ∧ Below w.heap.size w w' := by
  obtain ⟨i0, hi, hz0, hz1, hz2⟩ := info_parts info_int
  have G : Hid (Gd w.heap.size w (w.alloc (.cells (wl c).toArray 24))) := (Gd.refl w).new _
  have T : Hid (Bo (w.alloc (.cells (wl c).toArray 24)) w.heap.size (wl c)) := Bo.born w (wl c) _ rfl
  have g0 : (w.alloc (.cells (wl c).toArray 24)).cell? ⟨w.heap.size, 0, none⟩ = some (.int .u64 1) := by have := T.out.word (show 0 < 17 by decide); rw [h] at this; exact this
  have LT : Hid (∀ i, i < 1 → (lst c).take i ++ [((c (1 + i) : Nat) : Int)] = (lst c).take (i + 1)) := fun i hi => lst_take c (by omega)
  have LL : Hid (∀ i, i ≤ 1 → ((lst c).take i).length = i) := fun i hi => by rw [List.length_take, lst_length, h]; omega
  have LE : Hid ((lst c).take 1 = lst c) := List.take_of_length_le (by rw [lst_length, h]; omega)
  have HV : Hid _ := hv
  clear h hv
  go_enter Tryd.func32, Tryd.ntmps32
  go_wp2_with fail
  generalize w.alloc (.cells (wl c).toArray 24) = W at T G g0 ⊢
  generalize hsz : w.heap.size = n at T G g0 ⊢
  have HSZ : Hid (w.heap.size = n) := hsz
  clear hsz g0
  go_loopg [11, 3] 1 (fun gg s11 s3 wt => ∃ i : Nat, i ≤ 1 ∧ 1 - i ≤ gg ∧ s11 = .int .i64 i ∧ Hid (Own (n + 1) wt s3 ((lst c).take i)) ∧ Hid (Bo wt n (wl c)) ∧ Hid (Gd n w wt))
  case atStart => exact ⟨0, by omega, by omega, rfl, own_nil _ _, T, G⟩
  case round =>
    clear T G
    obtain ⟨i, hi1, hgg, rfl, O, T, G⟩ := hrel
    by_cases hlt : i < 1
    · have g0 := T.out.word (show 1 + i < 17 by omega)
      have hx := HV.out (1 + i) (by omega) (by omega)
      have HT : Hid _ := LT.out i hlt
      have hl6 : Hid (((lst c).take i).length ≤ 6) := by have := LL.out i (by omega); show _ ≤ 6; omega
      generalize c (1 + i) = x at g0 hx HT
      generalize (lst c).take i = ys at O HT hl6
      obtain ⟨a, k, rfl⟩ := O.out.form
      have hlt2 : Hid (∀ j, (Value.slice a ys.length k).ownBlock = some j → n + 1 ≤ j ∧ j < wr.heap.size) := O.out.lt
      have hsz1 : n < wr.heap.size := T.out.lt
      have ew1 : IntKind.i64.wrap (x : Int) = x := by rw [IntKind.wrap_i64]; omega
      have ew2 : wrap64 (x : Int) = x := by unfold wrap64; omega
      have i1 : (i : Int) < 1 := by omega
      have i2 : (0 : Int) ≤ (i : Int) := by omega
      go_wp2_with (at_builtin; refine wpList_append_own_at _ rfl _ _ 27 rfl (n + 1) 3 i0 (.int .i64 0) 1 8 Tryd.underlying27 hi hz0 hz1 hz2 rfl (by decide) _ _ _ rfl (O.out.alloc _) ⟨wr.heap.size, 0, none⟩ 1 1 [.int .i64 x] rfl rfl ?c1 ?c2 ?c3 ?c4 ?c5 ?_)
      case c1 => intro j u hj; exact cell_one_new wr (.int .i64 x) 3 j u hj
      case c2 => intro u hu; simp at hu; subst hu; rfl
      case c3 => have := hl6.out; unfold maxLen; omega
      case c4 => have := hl6.out; omega
      case c5 => simp; omega
      intro v' w1 hown hgrow _ hat
      have O1 : Hid (Own (n + 1) w1 v' ((lst c).take (i + 1))) := by
        rw [← HT.out]
        show w1.ownsRow (n + 1) _ 1 v' _ _
        simpa using hown
      have G0 := G.out.new (.cells #[.int .i64 x] 3)
      have G1 : Hid (Gd n w w1) := ⟨G0.1, G0.2.grown hgrow G0.2.size (fun k hk => by have h1 := (hlt2.out k hk).1; have h2 := G0.1; omega)⟩
      have T1 : Hid (Bo w1 n (wl c)) := (T.out.new (.cells #[.int .i64 x] 3)).keep (hgrow.block n (by simp; omega) (fun e => by have := (hlt2.out n e.symm).1; omega)) (Nat.lt_of_lt_of_le (by simp; omega) hgrow.size)
      clear hown hgrow hat G0 O T G HT hlt2
      go_wp2
      go_roundg (1 - (i + 1))
      case measure => omega
      case rel => exact ⟨i + 1, by omega, by omega, by go_num, O1, T1, G1⟩
    · have ei : i = 1 := by omega
      subst ei
      go_wp2
      go_ret
      have I : IsL (n + 1) wr u3 (lst c) := by have := O.out.isL; rw [LE.out] at this; exact this
      exact ⟨_, rfl, by rw [HSZ.out]; exact I.mono (by omega), G.out.2⟩
set_option maxHeartbeats 2000000 in
theorem list_2 (c : Nat → Nat) (h : c 0 = 2) (hv : ∀ i, 1 ≤ i → i ≤ 2 → c i ≤ 4294967295) (w : World) : Calls Tryd.prog 32 #[.agg (wl c).toArray] w fun e w' => ∃ v, e = .returned v ∧ IsL w.heap.size w' v (lst c) ∧ Below w.heap.size w w' := by
  obtain ⟨i0, hi, hz0, hz1, hz2⟩ := info_parts info_int
  have G : Hid (Gd w.heap.size w (w.alloc (.cells (wl c).toArray 24))) := (Gd.refl w).new _
  have T : Hid (Bo (w.alloc (.cells (wl c).toArray 24)) w.heap.size (wl c)) := Bo.born w (wl c) _ rfl
  have g0 : (w.alloc (.cells (wl c).toArray 24)).cell? ⟨w.heap.size, 0, none⟩ = some (.int .u64 2) := by have := T.out.word (show 0 < 17 by decide); rw [h] at this; exact this
  have LT : Hid (∀ i, i < 2 → (lst c).take i ++ [((c (1 + i) : Nat) : Int)] = (lst c).take (i + 1)) := fun i hi => lst_take c (by omega)
  have LL : Hid (∀ i, i ≤ 2 → ((lst c).take i).length = i) := fun i hi => by rw [List.length_take, lst_length, h]; omega
  have LE : Hid ((lst c).take 2 = lst c) := List.take_of_length_le (by rw [lst_length, h]; omega)
  have HV : Hid _ := hv
  clear h hv
  go_enter Tryd.func32, Tryd.ntmps32
  go_wp2_with fail
  generalize w.alloc (.cells (wl c).toArray 24) = W at T G g0 ⊢
  generalize hsz : w.heap.size = n at T G g0 ⊢
  have HSZ : Hid (w.heap.size = n) := hsz
  clear hsz g0
  go_loopg [11, 3] 2 (fun gg s11 s3 wt => ∃ i : Nat, i ≤ 2 ∧ 2 - i ≤ gg ∧ s11 = .int .i64 i ∧ Hid (Own (n + 1) wt s3 ((lst c).take i)) ∧ Hid (Bo wt n (wl c)) ∧ Hid (Gd n w wt))
  case atStart => exact ⟨0, by omega, by omega, rfl, own_nil _ _, T, G⟩
  case round =>
    clear T G
    obtain ⟨i, hi1, hgg, rfl, O, T, G⟩ := hrel
    by_cases hlt : i < 2
    · have g0 := T.out.word (show 1 + i < 17 by omega)
      have hx := HV.out (1 + i) (by omega) (by omega)
      have HT : Hid _ := LT.out i hlt
      have hl6 : Hid (((lst c).take i).length ≤ 6) := by have := LL.out i (by omega); show _ ≤ 6; omega
      generalize c (1 + i) = x at g0 hx HT
      generalize (lst c).take i = ys at O HT hl6
      obtain ⟨a, k, rfl⟩ := O.out.form
      have hlt2 : Hid (∀ j, (Value.slice a ys.length k).ownBlock = some j → n + 1 ≤ j ∧ j < wr.heap.size) := O.out.lt
      have hsz1 : n < wr.heap.size := T.out.lt
      have ew1 : IntKind.i64.wrap (x : Int) = x := by rw [IntKind.wrap_i64]; omega
      have ew2 : wrap64 (x : Int) = x := by unfold wrap64; omega
      have i1 : (i : Int) < 2 := by omega
      have i2 : (0 : Int) ≤ (i : Int) := by omega
      go_wp2_with (at_builtin; refine wpList_append_own_at _ rfl _ _ 27 rfl (n + 1) 3 i0 (.int .i64 0) 1 8 Tryd.underlying27 hi hz0 hz1 hz2 rfl (by decide) _ _ _ rfl (O.out.alloc _) ⟨wr.heap.size, 0, none⟩ 1 1 [.int .i64 x] rfl rfl ?c1 ?c2 ?c3 ?c4 ?c5 ?_)
      case c1 => intro j u hj; exact cell_one_new wr (.int .i64 x) 3 j u hj
      case c2 => intro u hu; simp at hu; subst hu; rfl
      case c3 => have := hl6.out; unfold maxLen; omega
      case c4 => have := hl6.out; omega
      case c5 => simp; omega
      intro v' w1 hown hgrow _ hat
      have O1 : Hid (Own (n + 1) w1 v' ((lst c).take (i + 1))) := by
        rw [← HT.out]
        show w1.ownsRow (n + 1) _ 1 v' _ _
        simpa using hown
      have G0 := G.out.new (.cells #[.int .i64 x] 3)
      have G1 : Hid (Gd n w w1) := ⟨G0.1, G0.2.grown hgrow G0.2.size (fun k hk => by have h1 := (hlt2.out k hk).1; have h2 := G0.1; omega)⟩
      have T1 : Hid (Bo w1 n (wl c)) := (T.out.new (.cells #[.int .i64 x] 3)).keep (hgrow.block n (by simp; omega) (fun e => by have := (hlt2.out n e.symm).1; omega)) (Nat.lt_of_lt_of_le (by simp; omega) hgrow.size)
      clear hown hgrow hat G0 O T G HT hlt2
      go_wp2
      go_roundg (2 - (i + 1))
      case measure => omega
      case rel => exact ⟨i + 1, by omega, by omega, by go_num, O1, T1, G1⟩
    · have ei : i = 2 := by omega
      subst ei
      go_wp2
      go_ret
      have I : IsL (n + 1) wr u3 (lst c) := by have := O.out.isL; rw [LE.out] at this; exact this
      exact ⟨_, rfl, by rw [HSZ.out]; exact I.mono (by omega), G.out.2⟩
set_option maxHeartbeats 2000000 in
theorem list_3 (c : Nat → Nat) (h : c 0 = 3) (hv : ∀ i, 1 ≤ i → i ≤ 3 → c i ≤ 4294967295) (w : World) : Calls Tryd.prog 32 #[.agg (wl c).toArray] w fun e w' => ∃ v, e = .returned v ∧ IsL w.heap.size w' v (lst c) ∧ Below w.heap.size w w' := by
  obtain ⟨i0, hi, hz0, hz1, hz2⟩ := info_parts info_int
  have G : Hid (Gd w.heap.size w (w.alloc (.cells (wl c).toArray 24))) := (Gd.refl w).new _
  have T : Hid (Bo (w.alloc (.cells (wl c).toArray 24)) w.heap.size (wl c)) := Bo.born w (wl c) _ rfl
  have g0 : (w.alloc (.cells (wl c).toArray 24)).cell? ⟨w.heap.size, 0, none⟩ = some (.int .u64 3) := by have := T.out.word (show 0 < 17 by decide); rw [h] at this; exact this
  have LT : Hid (∀ i, i < 3 → (lst c).take i ++ [((c (1 + i) : Nat) : Int)] = (lst c).take (i + 1)) := fun i hi => lst_take c (by omega)
  have LL : Hid (∀ i, i ≤ 3 → ((lst c).take i).length = i) := fun i hi => by rw [List.length_take, lst_length, h]; omega
  have LE : Hid ((lst c).take 3 = lst c) := List.take_of_length_le (by rw [lst_length, h]; omega)
  have HV : Hid _ := hv
  clear h hv
  go_enter Tryd.func32, Tryd.ntmps32
  go_wp2_with fail
  generalize w.alloc (.cells (wl c).toArray 24) = W at T G g0 ⊢
  generalize hsz : w.heap.size = n at T G g0 ⊢
  have HSZ : Hid (w.heap.size = n) := hsz
  clear hsz g0
  go_loopg [11, 3] 3 (fun gg s11 s3 wt => ∃ i : Nat, i ≤ 3 ∧ 3 - i ≤ gg ∧ s11 = .int .i64 i ∧ Hid (Own (n + 1) wt s3 ((lst c).take i)) ∧ Hid (Bo wt n (wl c)) ∧ Hid (Gd n w wt))
  case atStart => exact ⟨0, by omega, by omega, rfl, own_nil _ _, T, G⟩
  case round =>
    clear T G
    obtain ⟨i, hi1, hgg, rfl, O, T, G⟩ := hrel
    by_cases hlt : i < 3
    · have g0 := T.out.word (show 1 + i < 17 by omega)
      have hx := HV.out (1 + i) (by omega) (by omega)
      have HT : Hid _ := LT.out i hlt
      have hl6 : Hid (((lst c).take i).length ≤ 6) := by have := LL.out i (by omega); show _ ≤ 6; omega
      generalize c (1 + i) = x at g0 hx HT
      generalize (lst c).take i = ys at O HT hl6
      obtain ⟨a, k, rfl⟩ := O.out.form
      have hlt2 : Hid (∀ j, (Value.slice a ys.length k).ownBlock = some j → n + 1 ≤ j ∧ j < wr.heap.size) := O.out.lt
      have hsz1 : n < wr.heap.size := T.out.lt
      have ew1 : IntKind.i64.wrap (x : Int) = x := by rw [IntKind.wrap_i64]; omega
      have ew2 : wrap64 (x : Int) = x := by unfold wrap64; omega
      have i1 : (i : Int) < 3 := by omega
      have i2 : (0 : Int) ≤ (i : Int) := by omega
      go_wp2_with (at_builtin; refine wpList_append_own_at _ rfl _ _ 27 rfl (n + 1) 3 i0 (.int .i64 0) 1 8 Tryd.underlying27 hi hz0 hz1 hz2 rfl (by decide) _ _ _ rfl (O.out.alloc _) ⟨wr.heap.size, 0, none⟩ 1 1 [.int .i64 x] rfl rfl ?c1 ?c2 ?c3 ?c4 ?c5 ?_)
      case c1 => intro j u hj; exact cell_one_new wr (.int .i64 x) 3 j u hj
      case c2 => intro u hu; simp at hu; subst hu; rfl
      case c3 => have := hl6.out; unfold maxLen; omega
      case c4 => have := hl6.out; omega
      case c5 => simp; omega
      intro v' w1 hown hgrow _ hat
      have O1 : Hid (Own (n + 1) w1 v' ((lst c).take (i + 1))) := by
        rw [← HT.out]
        show w1.ownsRow (n + 1) _ 1 v' _ _
        simpa using hown
      have G0 := G.out.new (.cells #[.int .i64 x] 3)
      have G1 : Hid (Gd n w w1) := ⟨G0.1, G0.2.grown hgrow G0.2.size (fun k hk => by have h1 := (hlt2.out k hk).1; have h2 := G0.1; omega)⟩
      have T1 : Hid (Bo w1 n (wl c)) := (T.out.new (.cells #[.int .i64 x] 3)).keep (hgrow.block n (by simp; omega) (fun e => by have := (hlt2.out n e.symm).1; omega)) (Nat.lt_of_lt_of_le (by simp; omega) hgrow.size)
      clear hown hgrow hat G0 O T G HT hlt2
      go_wp2
      go_roundg (3 - (i + 1))
      case measure => omega
      case rel => exact ⟨i + 1, by omega, by omega, by go_num, O1, T1, G1⟩
    · have ei : i = 3 := by omega
      subst ei
      go_wp2
      go_ret
      have I : IsL (n + 1) wr u3 (lst c) := by have := O.out.isL; rw [LE.out] at this; exact this
      exact ⟨_, rfl, by rw [HSZ.out]; exact I.mono (by omega), G.out.2⟩
set_option maxHeartbeats 2000000 in
theorem list_4 (c : Nat → Nat) (h : c 0 = 4) (hv : ∀ i, 1 ≤ i → i ≤ 4 → c i ≤ 4294967295) (w : World) : Calls Tryd.prog 32 #[.agg (wl c).toArray] w fun e w' => ∃ v, e = .returned v ∧ IsL w.heap.size w' v (lst c) ∧ Below w.heap.size w w' := by
  obtain ⟨i0, hi, hz0, hz1, hz2⟩ := info_parts info_int
  have G : Hid (Gd w.heap.size w (w.alloc (.cells (wl c).toArray 24))) := (Gd.refl w).new _
  have T : Hid (Bo (w.alloc (.cells (wl c).toArray 24)) w.heap.size (wl c)) := Bo.born w (wl c) _ rfl
  have g0 : (w.alloc (.cells (wl c).toArray 24)).cell? ⟨w.heap.size, 0, none⟩ = some (.int .u64 4) := by have := T.out.word (show 0 < 17 by decide); rw [h] at this; exact this
  have LT : Hid (∀ i, i < 4 → (lst c).take i ++ [((c (1 + i) : Nat) : Int)] = (lst c).take (i + 1)) := fun i hi => lst_take c (by omega)
  have LL : Hid (∀ i, i ≤ 4 → ((lst c).take i).length = i) := fun i hi => by rw [List.length_take, lst_length, h]; omega
  have LE : Hid ((lst c).take 4 = lst c) := List.take_of_length_le (by rw [lst_length, h]; omega)
  have HV : Hid _ := hv
  clear h hv
  go_enter Tryd.func32, Tryd.ntmps32
  go_wp2_with fail
  generalize w.alloc (.cells (wl c).toArray 24) = W at T G g0 ⊢
  generalize hsz : w.heap.size = n at T G g0 ⊢
  have HSZ : Hid (w.heap.size = n) := hsz
  clear hsz g0
  go_loopg [11, 3] 4 (fun gg s11 s3 wt => ∃ i : Nat, i ≤ 4 ∧ 4 - i ≤ gg ∧ s11 = .int .i64 i ∧ Hid (Own (n + 1) wt s3 ((lst c).take i)) ∧ Hid (Bo wt n (wl c)) ∧ Hid (Gd n w wt))
  case atStart => exact ⟨0, by omega, by omega, rfl, own_nil _ _, T, G⟩
  case round =>
    clear T G
    obtain ⟨i, hi1, hgg, rfl, O, T, G⟩ := hrel
    by_cases hlt : i < 4
    · have g0 := T.out.word (show 1 + i < 17 by omega)
      have hx := HV.out (1 + i) (by omega) (by omega)
      have HT : Hid _ := LT.out i hlt
      have hl6 : Hid (((lst c).take i).length ≤ 6) := by have := LL.out i (by omega); show _ ≤ 6; omega
      generalize c (1 + i) = x at g0 hx HT
      generalize (lst c).take i = ys at O HT hl6
      obtain ⟨a, k, rfl⟩ := O.out.form
      have hlt2 : Hid (∀ j, (Value.slice a ys.length k).ownBlock = some j → n + 1 ≤ j ∧ j < wr.heap.size) := O.out.lt
      have hsz1 : n < wr.heap.size := T.out.lt
      have ew1 : IntKind.i64.wrap (x : Int) = x := by rw [IntKind.wrap_i64]; omega
      have ew2 : wrap64 (x : Int) = x := by unfold wrap64; omega
      have i1 : (i : Int) < 4 := by omega
      have i2 : (0 : Int) ≤ (i : Int) := by omega
      go_wp2_with (at_builtin; refine wpList_append_own_at _ rfl _ _ 27 rfl (n + 1) 3 i0 (.int .i64 0) 1 8 Tryd.underlying27 hi hz0 hz1 hz2 rfl (by decide) _ _ _ rfl (O.out.alloc _) ⟨wr.heap.size, 0, none⟩ 1 1 [.int .i64 x] rfl rfl ?c1 ?c2 ?c3 ?c4 ?c5 ?_)
      case c1 => intro j u hj; exact cell_one_new wr (.int .i64 x) 3 j u hj
      case c2 => intro u hu; simp at hu; subst hu; rfl
      case c3 => have := hl6.out; unfold maxLen; omega
      case c4 => have := hl6.out; omega
      case c5 => simp; omega
      intro v' w1 hown hgrow _ hat
      have O1 : Hid (Own (n + 1) w1 v' ((lst c).take (i + 1))) := by
        rw [← HT.out]
        show w1.ownsRow (n + 1) _ 1 v' _ _
        simpa using hown
      have G0 := G.out.new (.cells #[.int .i64 x] 3)
      have G1 : Hid (Gd n w w1) := ⟨G0.1, G0.2.grown hgrow G0.2.size (fun k hk => by have h1 := (hlt2.out k hk).1; have h2 := G0.1; omega)⟩
      have T1 : Hid (Bo w1 n (wl c)) := (T.out.new (.cells #[.int .i64 x] 3)).keep (hgrow.block n (by simp; omega) (fun e => by have := (hlt2.out n e.symm).1; omega)) (Nat.lt_of_lt_of_le (by simp; omega) hgrow.size)
      clear hown hgrow hat G0 O T G HT hlt2
      go_wp2
      go_roundg (4 - (i + 1))
      case measure => omega
      case rel => exact ⟨i + 1, by omega, by omega, by go_num, O1, T1, G1⟩
    · have ei : i = 4 := by omega
      subst ei
      go_wp2
      go_ret
      have I : IsL (n + 1) wr u3 (lst c) := by have := O.out.isL; rw [LE.out] at this; exact this
      exact ⟨_, rfl, by rw [HSZ.out]; exact I.mono (by omega), G.out.2⟩
set_option maxHeartbeats 2000000 in
theorem list_5 (c : Nat → Nat) (h : c 0 = 5) (hv : ∀ i, 1 ≤ i → i ≤ 5 → c i ≤ 4294967295) (w : World) : Calls Tryd.prog 32 #[.agg (wl c).toArray] w fun e w' => ∃ v, e = .returned v ∧ IsL w.heap.size w' v (lst c) ∧ Below w.heap.size w w' := by
  obtain ⟨i0, hi, hz0, hz1, hz2⟩ := info_parts info_int
  have G : Hid (Gd w.heap.size w (w.alloc (.cells (wl c).toArray 24))) := (Gd.refl w).new _
  have T : Hid (Bo (w.alloc (.cells (wl c).toArray 24)) w.heap.size (wl c)) := Bo.born w (wl c) _ rfl
  have g0 : (w.alloc (.cells (wl c).toArray 24)).cell? ⟨w.heap.size, 0, none⟩ = some (.int .u64 5) := by have := T.out.word (show 0 < 17 by decide); rw [h] at this; exact this
  have LT : Hid (∀ i, i < 5 → (lst c).take i ++ [((c (1 + i) : Nat) : Int)] = (lst c).take (i + 1)) := fun i hi => lst_take c (by omega)
  have LL : Hid (∀ i, i ≤ 5 → ((lst c).take i).length = i) := fun i hi => by rw [List.length_take, lst_length, h]; omega
  have LE : Hid ((lst c).take 5 = lst c) := List.take_of_length_le (by rw [lst_length, h]; omega)
  have HV : Hid _ := hv
  clear h hv
  go_enter Tryd.func32, Tryd.ntmps32
  go_wp2_with fail
  generalize w.alloc (.cells (wl c).toArray 24) = W at T G g0 ⊢
  generalize hsz : w.heap.size = n at T G g0 ⊢
  have HSZ : Hid (w.heap.size = n) := hsz
  clear hsz g0
  go_loopg [11, 3] 5 (fun gg s11 s3 wt => ∃ i : Nat, i ≤ 5 ∧ 5 - i ≤ gg ∧ s11 = .int .i64 i ∧ Hid (Own (n + 1) wt s3 ((lst c).take i)) ∧ Hid (Bo wt n (wl c)) ∧ Hid (Gd n w wt))
  case atStart => exact ⟨0, by omega, by omega, rfl, own_nil _ _, T, G⟩
  case round =>
    clear T G
    obtain ⟨i, hi1, hgg, rfl, O, T, G⟩ := hrel
    by_cases hlt : i < 5
    · have g0 := T.out.word (show 1 + i < 17 by omega)
      have hx := HV.out (1 + i) (by omega) (by omega)
      have HT : Hid _ := LT.out i hlt
      have hl6 : Hid (((lst c).take i).length ≤ 6) := by have := LL.out i (by omega); show _ ≤ 6; omega
      generalize c (1 + i) = x at g0 hx HT
      generalize (lst c).take i = ys at O HT hl6
      obtain ⟨a, k, rfl⟩ := O.out.form
      have hlt2 : Hid (∀ j, (Value.slice a ys.length k).ownBlock = some j → n + 1 ≤ j ∧ j < wr.heap.size) := O.out.lt
      have hsz1 : n < wr.heap.size := T.out.lt
      have ew1 : IntKind.i64.wrap (x : Int) = x := by rw [IntKind.wrap_i64]; omega
      have ew2 : wrap64 (x : Int) = x := by unfold wrap64; omega
      have i1 : (i : Int) < 5 := by omega
      have i2 : (0 : Int) ≤ (i : Int) := by omega
      go_wp2_with (at_builtin; refine wpList_append_own_at _ rfl _ _ 27 rfl (n + 1) 3 i0 (.int .i64 0) 1 8 Tryd.underlying27 hi hz0 hz1 hz2 rfl (by decide) _ _ _ rfl (O.out.alloc _) ⟨wr.heap.size, 0, none⟩ 1 1 [.int .i64 x] rfl rfl ?c1 ?c2 ?c3 ?c4 ?c5 ?_)
      case c1 => intro j u hj; exact cell_one_new wr (.int .i64 x) 3 j u hj
      case c2 => intro u hu; simp at hu; subst hu; rfl
      case c3 => have := hl6.out; unfold maxLen; omega
      case c4 => have := hl6.out; omega
      case c5 => simp; omega
      intro v' w1 hown hgrow _ hat
      have O1 : Hid (Own (n + 1) w1 v' ((lst c).take (i + 1))) := by
        rw [← HT.out]
        show w1.ownsRow (n + 1) _ 1 v' _ _
        simpa using hown
      have G0 := G.out.new (.cells #[.int .i64 x] 3)
      have G1 : Hid (Gd n w w1) := ⟨G0.1, G0.2.grown hgrow G0.2.size (fun k hk => by have h1 := (hlt2.out k hk).1; have h2 := G0.1; omega)⟩
      have T1 : Hid (Bo w1 n (wl c)) := (T.out.new (.cells #[.int .i64 x] 3)).keep (hgrow.block n (by simp; omega) (fun e => by have := (hlt2.out n e.symm).1; omega)) (Nat.lt_of_lt_of_le (by simp; omega) hgrow.size)
      clear hown hgrow hat G0 O T G HT hlt2
      go_wp2
      go_roundg (5 - (i + 1))
      case measure => omega
      case rel => exact ⟨i + 1, by omega, by omega, by go_num, O1, T1, G1⟩
    · have ei : i = 5 := by omega
      subst ei
      go_wp2
      go_ret
      have I : IsL (n + 1) wr u3 (lst c) := by have := O.out.isL; rw [LE.out] at this; exact this
      exact ⟨_, rfl, by rw [HSZ.out]; exact I.mono (by omega), G.out.2⟩
set_option maxHeartbeats 2000000 in
theorem list_6 (c : Nat → Nat) (h : c 0 = 6) (hv : ∀ i, 1 ≤ i → i ≤ 6 → c i ≤ 4294967295) (w : World) : Calls Tryd.prog 32 #[.agg (wl c).toArray] w fun e w' => ∃ v, e = .returned v ∧ IsL w.heap.size w' v (lst c) ∧ Below w.heap.size w w' := by
  obtain ⟨i0, hi, hz0, hz1, hz2⟩ := info_parts info_int
  have G : Hid (Gd w.heap.size w (w.alloc (.cells (wl c).toArray 24))) := (Gd.refl w).new _
  have T : Hid (Bo (w.alloc (.cells (wl c).toArray 24)) w.heap.size (wl c)) := Bo.born w (wl c) _ rfl
  have g0 : (w.alloc (.cells (wl c).toArray 24)).cell? ⟨w.heap.size, 0, none⟩ = some (.int .u64 6) := by have := T.out.word (show 0 < 17 by decide); rw [h] at this; exact this
  have LT : Hid (∀ i, i < 6 → (lst c).take i ++ [((c (1 + i) : Nat) : Int)] = (lst c).take (i + 1)) := fun i hi => lst_take c (by omega)
  have LL : Hid (∀ i, i ≤ 6 → ((lst c).take i).length = i) := fun i hi => by rw [List.length_take, lst_length, h]; omega
  have LE : Hid ((lst c).take 6 = lst c) := List.take_of_length_le (by rw [lst_length, h]; omega)
  have HV : Hid _ := hv
  clear h hv
  go_enter Tryd.func32, Tryd.ntmps32
  go_wp2_with fail
  generalize w.alloc (.cells (wl c).toArray 24) = W at T G g0 ⊢
  generalize hsz : w.heap.size = n at T G g0 ⊢
  have HSZ : Hid (w.heap.size = n) := hsz
  clear hsz g0
  go_loopg [11, 3] 6 (fun gg s11 s3 wt => ∃ i : Nat, i ≤ 6 ∧ 6 - i ≤ gg ∧ s11 = .int .i64 i ∧ Hid (Own (n + 1) wt s3 ((lst c).take i)) ∧ Hid (Bo wt n (wl c)) ∧ Hid (Gd n w wt))
  case atStart => exact ⟨0, by omega, by omega, rfl, own_nil _ _, T, G⟩
  case round =>
    clear T G
    obtain ⟨i, hi1, hgg, rfl, O, T, G⟩ := hrel
    by_cases hlt : i < 6
    · have g0 := T.out.word (show 1 + i < 17 by omega)
      have hx := HV.out (1 + i) (by omega) (by omega)
      have HT : Hid _ := LT.out i hlt
      have hl6 : Hid (((lst c).take i).length ≤ 6) := by have := LL.out i (by omega); show _ ≤ 6; omega
      generalize c (1 + i) = x at g0 hx HT
      generalize (lst c).take i = ys at O HT hl6
      obtain ⟨a, k, rfl⟩ := O.out.form
      have hlt2 : Hid (∀ j, (Value.slice a ys.length k).ownBlock = some j → n + 1 ≤ j ∧ j < wr.heap.size) := O.out.lt
      have hsz1 : n < wr.heap.size := T.out.lt
      have ew1 : IntKind.i64.wrap (x : Int) = x := by rw [IntKind.wrap_i64]; omega
      have ew2 : wrap64 (x : Int) = x := by unfold wrap64; omega
      have i1 : (i : Int) < 6 := by omega
      have i2 : (0 : Int) ≤ (i : Int) := by omega
      go_wp2_with (at_builtin; refine wpList_append_own_at _ rfl _ _ 27 rfl (n + 1) 3 i0 (.int .i64 0) 1 8 Tryd.underlying27 hi hz0 hz1 hz2 rfl (by decide) _ _ _ rfl (O.out.alloc _) ⟨wr.heap.size, 0, none⟩ 1 1 [.int .i64 x] rfl rfl ?c1 ?c2 ?c3 ?c4 ?c5 ?_)
      case c1 => intro j u hj; exact cell_one_new wr (.int .i64 x) 3 j u hj
      case c2 => intro u hu; simp at hu; subst hu; rfl
      case c3 => have := hl6.out; unfold maxLen; omega
      case c4 => have := hl6.out; omega
      case c5 => simp; omega
      intro v' w1 hown hgrow _ hat
      have O1 : Hid (Own (n + 1) w1 v' ((lst c).take (i + 1))) := by
        rw [← HT.out]
        show w1.ownsRow (n + 1) _ 1 v' _ _
        simpa using hown
      have G0 := G.out.new (.cells #[.int .i64 x] 3)
      have G1 : Hid (Gd n w w1) := ⟨G0.1, G0.2.grown hgrow G0.2.size (fun k hk => by have h1 := (hlt2.out k hk).1; have h2 := G0.1; omega)⟩
      have T1 : Hid (Bo w1 n (wl c)) := (T.out.new (.cells #[.int .i64 x] 3)).keep (hgrow.block n (by simp; omega) (fun e => by have := (hlt2.out n e.symm).1; omega)) (Nat.lt_of_lt_of_le (by simp; omega) hgrow.size)
      clear hown hgrow hat G0 O T G HT hlt2
      go_wp2
      go_roundg (6 - (i + 1))
      case measure => omega
      case rel => exact ⟨i + 1, by omega, by omega, by go_num, O1, T1, G1⟩
    · have ei : i = 6 := by omega
      subst ei
      go_wp2
      go_ret
      have I : IsL (n + 1) wr u3 (lst c) := by have := O.out.isL; rw [LE.out] at this; exact this
      exact ⟨_, rfl, by rw [HSZ.out]; exact I.mono (by omega), G.out.2⟩
theorem list_is {c : Nat → Nat} (hw : WList c) (w : World) : Calls Tryd.prog 32 #[.agg (wl c).toArray] w fun e w' => ∃ v, e = .returned v ∧ IsL w.heap.size w' v (lst c) ∧ Below w.heap.size w w' := by
  have h := hw.len
  have hh : c 0 = 0 ∨ c 0 = 1 ∨ c 0 = 2 ∨ c 0 = 3 ∨ c 0 = 4 ∨ c 0 = 5 ∨ c 0 = 6 := by omega
  rcases hh with e | e | e | e | e | e | e
  · exact list_0 c e (fun i h1 h2 => hw.val i h1 (by omega)) w
  · exact list_1 c e (fun i h1 h2 => hw.val i h1 (by omega)) w
  · exact list_2 c e (fun i h1 h2 => hw.val i h1 (by omega)) w
  · exact list_3 c e (fun i h1 h2 => hw.val i h1 (by omega)) w
  · exact list_4 c e (fun i h1 h2 => hw.val i h1 (by omega)) w
  · exact list_5 c e (fun i h1 h2 => hw.val i h1 (by omega)) w
  · exact list_6 c e (fun i h1 h2 => hw.val i h1 (by omega)) w
end Go.Proofs.YtbmgjpdfmgcigabDoor.Tab
