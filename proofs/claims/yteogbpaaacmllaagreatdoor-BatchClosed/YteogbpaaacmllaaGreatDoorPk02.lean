/- Texts laid together: What the keepers' walks carry from world to world: answers in blocks of their own, lists that are written out; Package object: the list that words are; Package object: the slots that words are; Heaps as lists: what rises, what sinks; facts of no program; Package heap's Right, by its contracts; Package object: Right, by its contract; Package stack's Do, by its contract; The library's Grow of nothing, and its Concat of two lists, by their contracts; Package deque's front and Do, by their contracts; Package heap's rise and sink, by their contracts. -/
import Derived.Test.YteogbpaaacmllaaGreatDoorPk01
import Derived.WalkKit
import Derived.Test.YteogbpaaacmllaaGreatDoorRows
import Derived.Test.YteogbpaaacmllaaGreatDoorPk00
import Derived.Deep.LoopGhost
import Derived.BigQuiet
import Derived.Deep.QuietTactic
import Derived.Deep.RegionWith
import Derived.Lib.AppendZeros
import Derived.Maps.AppendAt
import Derived.RegionTactic
import Derived.BigRegion
namespace Go.Proofs.YteogbpaaacmllaaGreatDoor
set_option maxRecDepth 20000
open Go.RowKit

/-- The answer (c, y) lies in block n. -/
structure Bx (n : Nat) (c y : Int) (w : World) : Prop where
  lt : n < w.heap.size
  c0 : w.cell? ⟨n, 0, none⟩ = some (.int .i64 c)
  c1 : w.cell? ⟨n, 1, none⟩ = some (.int .i64 y)
  f0 : w.frozen? ⟨n, 0, none⟩ = false
  f1 : w.frozen? ⟨n, 1, none⟩ = false
theorem Bx.later {n : Nat} {c y : Int} {w w' : World} (h : Bx n c y w) (hb : Below w.heap.size w w') : Bx n c y w' where
  lt := Nat.lt_of_lt_of_le h.lt hb.size
  c0 := by rw [hb.cell (p := ⟨n, 0, none⟩) h.lt]; exact h.c0
  c1 := by rw [hb.cell (p := ⟨n, 1, none⟩) h.lt]; exact h.c1
  f0 := by rw [World.frozen?_of_block (hb.block n h.lt)]; exact h.f0
  f1 := by rw [World.frozen?_of_block (hb.block n h.lt)]; exact h.f1
theorem Bx.born (w : World) (c y : Int) (t : TypeId) : Bx w.heap.size c y (w.alloc (.cells #[.int .i64 c, .int .i64 y] t)) where
  lt := by simp
  c0 := by simp
  c1 := by simp
  f0 := by simp
  f1 := by simp
theorem Bx.bornAt (w : World) (c y : Int) (t : TypeId) {n : Nat} (h : n = w.heap.size) : Bx n c y (w.alloc (.cells #[.int .i64 c, .int .i64 y] t)) := h ▸ Bx.born w c y t

/-- w' has all that w had. -/
def Gd (w w' : World) : Prop := Below w.heap.size w w'
theorem Gd.refl (w : World) : Gd w w := Below.refl _ _
theorem Gd.later {w a b : World} (h : Gd w a) (hb : Below a.heap.size a b) : Gd w b := Below.trans h (hb.mono (Below.size h))
theorem new_below (w : World) (o : Obj) : Below w.heap.size w (w.alloc o) := (Below.refl _ w).alloc (Nat.le_refl _) o
theorem Gd.new {w a : World} (h : Gd w a) (o : Obj) : Gd w (a.alloc o) := h.later (new_below a o)
theorem IsL.new {B : Nat} {w : World} {v : Value} {xs : List Int} (h : IsL B w v xs) (o : Obj) : IsL B (w.alloc o) v xs := h.later (new_below w o)
theorem Bx.new {n : Nat} {c y : Int} {w : World} (h : Bx n c y w) (o : Obj) : Bx n c y (w.alloc o) := h.later (new_below w o)
theorem IsL.any {B : Nat} {w : World} {v : Value} {xs : List Int} (h : IsL B w v xs) : IsL 0 w v xs := h.mono (Nat.zero_le _)

theorem IsL.lit (w : World) (cs : List Int) (h : 0 < cs.length) : IsL 0 (w.alloc (.cells (cs.map (Value.int .i64)).toArray 3)) (.slice (some ⟨w.heap.size, 0, none⟩) cs.length cs.length) cs :=
  Or.inr ⟨_, 0, _, rfl, Nat.zero_le _, h, Nat.le_refl _, fun j hj => by simp [List.getD, hj], fun h0 => absurd h0 (by decide)⟩
theorem IsL.litAt (w : World) (cs : List Int) (h : 0 < cs.length) {n : Nat} (hn : n = w.heap.size) : IsL 0 (w.alloc (.cells (cs.map (Value.int .i64)).toArray 3)) (.slice (some ⟨n, 0, none⟩) cs.length cs.length) cs := hn ▸ IsL.lit w cs h

theorem IsL.formp {B : Nat} {w : World} {v : Value} {xs : List Int} (h : IsL B w v xs) (h0 : 0 < xs.length) : ∃ b off c, v = .slice (some ⟨b, off, none⟩) xs.length c := by
  rcases h with ⟨rfl, _⟩ | ⟨b, off, c, rfl, _⟩
  · simp at h0
  · exact ⟨b, off, c, rfl⟩
theorem IsL.at {B : Nat} {w : World} {xs : List Int} {b off c i : Nat} (h : IsL B w (.slice (some ⟨b, off, none⟩) xs.length c) xs) (hi : i < xs.length) : w.cell? ⟨b, off + i, none⟩ = some (.int .i64 (xs.getD i 0)) := by
  rcases h with ⟨rfl, _⟩ | ⟨b', off', c', h1, _, _, _, h4, _⟩
  · simp at hi
  · injection h1 with h1 _ h3
    injection h1 with h1
    injection h1 with h1 h2
    subst h1 h2
    exact h4 i hi
theorem IsL.frz {B : Nat} {w : World} {xs : List Int} {b off c i : Nat} (h : IsL B w (.slice (some ⟨b, off, none⟩) xs.length c) xs) (h0 : 0 < B) (hi : i < xs.length) : w.frozen? ⟨b, off + i, none⟩ = false := by
  rcases h with ⟨rfl, _⟩ | ⟨b', off', c', h1, _, _, _, _, h4⟩
  · simp at hi
  · injection h1 with h1 _ h3
    injection h1 with h1
    injection h1 with h1 h2
    subst h1 h2
    exact h4 h0 i hi
theorem take_more (l : List Int) (i : Nat) (h : i < l.length) : l.take i ++ [l.getD i 0] = l.take (i + 1) := by
  rw [List.take_add_one]
  simp [List.getD, h]
theorem drop_one (l : List Int) (i : Nat) (h : i < l.length) : l.drop i = l.getD i 0 :: l.drop (i + 1) := by
  rw [List.drop_eq_getElem_cons h]
  simp [List.getD, h]
/-- An answer that is written into its block. -/
theorem Bx.put {n : Nat} {c y c' y' : Int} {w W : World} (h : Bx n c y W) (hn : w.heap.size ≤ n) (g : Gd w W) : Bx n c' y' ((W.setCell ⟨n, 0, none⟩ (.int .i64 c')).setCell ⟨n, 1, none⟩ (.int .i64 y')) ∧ Gd w ((W.setCell ⟨n, 0, none⟩ (.int .i64 c')).setCell ⟨n, 1, none⟩ (.int .i64 y')) := by
  have d0 := World.cell?_setCell_same W ⟨n, 0, none⟩ (.int .i64 c') h.c0
  have d1 : (W.setCell ⟨n, 0, none⟩ (.int .i64 c')).cell? ⟨n, 1, none⟩ = some (.int .i64 y) := by rw [World.cell?_setCell_other]; exact h.c1; simp
  refine ⟨⟨by simpa using h.lt, ?_, World.cell?_setCell_same _ _ _ d1, ?_, ?_⟩, (Below.setCell g hn _).setCell hn _⟩
  · rw [World.cell?_setCell_other]
    · exact d0
    · simp
  · simpa using h.f0
  · simpa using h.f1

/-- The first things of a list, where it lies. -/
theorem IsL.cut {B : Nat} {w : World} {v : Value} {l r : List Int} (h : IsL B w v (l ++ r)) (hr : 0 < r.length) : ∃ b off c, v = .slice (some ⟨b, off, none⟩) (l.length + r.length) c ∧ l.length + r.length ≤ c ∧ IsL B w (.slice (some ⟨b, off, none⟩) l.length c) l := by
  rcases h with ⟨h, _⟩ | ⟨b, off, c, rfl, hB, h0, hc, hcell, hfz⟩
  · simp at h
    simp [h.2] at hr
  · rw [List.length_append] at h0 hc ⊢
    refine ⟨b, off, c, rfl, hc, ?_⟩
    by_cases hl : l.length = 0
    · have : l = [] := List.eq_nil_of_length_eq_zero hl
      subst this
      exact IsL.nil _ _ _ _
    · refine Or.inr ⟨b, off, c, rfl, hB, by omega, by omega, fun j hj => ?_, fun h0 j hj => hfz h0 j (by simp; omega)⟩
      rw [hcell j (by simp; omega)]
      simp [List.getD, List.getElem?_append_left hj]
end Go.Proofs.YteogbpaaacmllaaGreatDoor
namespace Go.Proofs.YteogbpaaacmllaaGreatDoor.Tab
set_option maxRecDepth 20000
open Go.RowKit

theorem own_nil (B : Nat) (w : World) : Own B w (.slice none 0 0) [] := ⟨rfl, Or.inl ⟨rfl, rfl⟩⟩
theorem lst_take (c : Nat → Nat) {i : Nat} (h : i < c 0) : (lst c).take i ++ [((c (1 + i) : Nat) : Int)] = (lst c).take (i + 1) := by
  have := take_more (lst c) i (by rw [lst_length]; exact h)
  rw [lst_at c h, Nat.add_comm i 1] at this
  rw [Nat.add_comm i 1]; exact this
set_option maxHeartbeats 2000000 in
theorem list_0 (c : Nat → Nat) (h : c 0 = 0) (hv : ∀ i, 1 ≤ i → i ≤ 0 → c i ≤ 4294967295) (w : World) : Calls Tryz.prog 85 #[.agg (wl c).toArray] w fun e w' => ∃ v, e = .returned v ∧ IsL w.heap.size w' v (lst c) ∧ Below w.heap.size w w' := by
  obtain ⟨i0, hi, hz0, hz1, hz2⟩ := info_parts info_int
  have G : Hid (Gd w.heap.size w (w.alloc (.cells (wl c).toArray 119))) := (Gd.refl w).new _
  have T : Hid (Bo (w.alloc (.cells (wl c).toArray 119)) w.heap.size (wl c)) := Bo.born w (wl c) _ rfl
  have g0 : (w.alloc (.cells (wl c).toArray 119)).cell? ⟨w.heap.size, 0, none⟩ = some (.int .u64 0) := by have := T.out.word (show 0 < 17 by decide); rw [h] at this; exact this
  have LT : Hid (∀ i, i < 0 → (lst c).take i ++ [((c (1 + i) : Nat) : Int)] = (lst c).take (i + 1)) := fun i hi => lst_take c (by omega)
  have LL : Hid (∀ i, i ≤ 0 → ((lst c).take i).length = i) := fun i hi => by rw [List.length_take, lst_length, h]; omega
  have LE : Hid ((lst c).take 0 = lst c) := List.take_of_length_le (by rw [lst_length, h]; omega)
  have HV : Hid _ := hv
  clear h hv
  go_enter Tryz.func85, Tryz.ntmps85
  go_wp2_with fail
  generalize w.alloc (.cells (wl c).toArray 119) = W at T G g0 ⊢
  generalize hsz : w.heap.size = n at T G g0 ⊢
  have HSZ : Hid (w.heap.size = n) := hsz
  clear hsz g0
  go_loopg [11, 3] 0 (fun gg s11 s3 wt => ∃ i : Nat, i ≤ 0 ∧ 0 - i ≤ gg ∧ s11 = .int .i64 i ∧ Hid (Own (n + 1) wt s3 ((lst c).take i)) ∧ Hid (Bo wt n (wl c)) ∧ Hid (Gd n w wt))
  case atStart => exact ⟨0, by omega, by omega, rfl, own_nil _ _, T, G⟩
  case round =>
    clear T G
    obtain ⟨i, hi1, hgg, rfl, O, T, G⟩ := hrel
    by_cases hlt : i < 0
    · exact absurd hlt (by omega)
    · have ei : i = 0 := by omega
      subst ei
      go_wp2
      go_ret
      have I : IsL (n + 1) wr u3 (lst c) := by have := O.out.isL; rw [LE.out] at this; exact this
      exact ⟨_, rfl, by rw [HSZ.out]; exact I.mono (by omega), G.out.2⟩
set_option maxHeartbeats 2000000 in
theorem list_1 (c : Nat → Nat) (h : c 0 = 1) (hv : ∀ i, 1 ≤ i → i ≤ 1 → c i ≤ 4294967295) (w : World) : Calls Tryz.prog 85 #[.agg (wl c).toArray] w fun e w' => ∃ v, e = .returned v ∧ IsL w.heap.size w' v (lst c) ∧ Below w.heap.size w w' := by
  obtain ⟨i0, hi, hz0, hz1, hz2⟩ := info_parts info_int
  have G : Hid (Gd w.heap.size w (w.alloc (.cells (wl c).toArray 119))) := (Gd.refl w).new _
  have T : Hid (Bo (w.alloc (.cells (wl c).toArray 119)) w.heap.size (wl c)) := Bo.born w (wl c) _ rfl
  have g0 : (w.alloc (.cells (wl c).toArray 119)).cell? ⟨w.heap.size, 0, none⟩ = some (.int .u64 1) := by have := T.out.word (show 0 < 17 by decide); rw [h] at this; exact this
  have LT : Hid (∀ i, i < 1 → (lst c).take i ++ [((c (1 + i) : Nat) : Int)] = (lst c).take (i + 1)) := fun i hi => lst_take c (by omega)
  have LL : Hid (∀ i, i ≤ 1 → ((lst c).take i).length = i) := fun i hi => by rw [List.length_take, lst_length, h]; omega
  have LE : Hid ((lst c).take 1 = lst c) := List.take_of_length_le (by rw [lst_length, h]; omega)
  have HV : Hid _ := hv
  clear h hv
  go_enter Tryz.func85, Tryz.ntmps85
  go_wp2_with fail
  generalize w.alloc (.cells (wl c).toArray 119) = W at T G g0 ⊢
  generalize hsz : w.heap.size = n at T G g0 ⊢
  have HSZ : Hid (w.heap.size = n) := hsz
  clear hsz g0
  go_loopg [11, 3] 1 (fun gg s11 s3 wt => ∃ i : Nat, i ≤ 1 ∧ 1 - i ≤ gg ∧ s11 = .int .i64 i ∧ Hid (Own (n + 1) wt s3 ((lst c).take i)) ∧ Hid (Bo wt n (wl c)) ∧ Hid (Gd n w wt))
  case atStart => exact ⟨0, by omega, by omega, rfl, own_nil _ _, T, G⟩
  case round =>
    clear T G
    obtain ⟨i, hi1, hgg, rfl, O, T, G⟩ := hrel
    by_cases hlt : i < 1
    · have g0 := T.out.word (show 1 + i < 17 by omega)
      have hx := HV.out (1 + i) (by omega) (by omega)
      have HT : Hid _ := LT.out i hlt
      have hl6 : Hid (((lst c).take i).length ≤ 6) := by have := LL.out i (by omega); show _ ≤ 6; omega
      generalize c (1 + i) = x at g0 hx HT
      generalize (lst c).take i = ys at O HT hl6
      obtain ⟨a, k, rfl⟩ := O.out.form
      have hlt2 : Hid (∀ j, (Value.slice a ys.length k).ownBlock = some j → n + 1 ≤ j ∧ j < wr.heap.size) := O.out.lt
      have hsz1 : n < wr.heap.size := T.out.lt
      have ew1 : IntKind.i64.wrap (x : Int) = x := by rw [IntKind.wrap_i64]; omega
      have ew2 : wrap64 (x : Int) = x := by unfold wrap64; omega
      have i1 : (i : Int) < 1 := by omega
      have i2 : (0 : Int) ≤ (i : Int) := by omega
      go_wp2_with (at_builtin; refine wpList_append_own_at _ rfl _ _ 66 rfl (n + 1) 3 i0 (.int .i64 0) 1 8 Tryz.underlying66 hi hz0 hz1 hz2 rfl (by decide) _ _ _ rfl (O.out.alloc _) ⟨wr.heap.size, 0, none⟩ 1 1 [.int .i64 x] rfl rfl ?c1 ?c2 ?c3 ?c4 ?c5 ?_)
      case c1 => intro j u hj; exact cell_one_new wr (.int .i64 x) 3 j u hj
      case c2 => intro u hu; simp at hu; subst hu; rfl
      case c3 => have := hl6.out; unfold maxLen; omega
      case c4 => have := hl6.out; omega
      case c5 => simp; omega
      intro v' w1 hown hgrow _ hat
      have O1 : Hid (Own (n + 1) w1 v' ((lst c).take (i + 1))) := by
        rw [← HT.out]
        show w1.ownsRow (n + 1) _ 1 v' _ _
        simpa using hown
      have G0 := G.out.new (.cells #[.int .i64 x] 3)
      have G1 : Hid (Gd n w w1) := ⟨G0.1, G0.2.grown hgrow G0.2.size (fun k hk => by have h1 := (hlt2.out k hk).1; have h2 := G0.1; omega)⟩
      have T1 : Hid (Bo w1 n (wl c)) := (T.out.new (.cells #[.int .i64 x] 3)).keep (hgrow.block n (by simp; omega) (fun e => by have := (hlt2.out n e.symm).1; omega)) (Nat.lt_of_lt_of_le (by simp; omega) hgrow.size)
      clear hown hgrow hat G0 O T G HT hlt2
      go_wp2
      go_roundg (1 - (i + 1))
      case measure => omega
      case rel => exact ⟨i + 1, by omega, by omega, by go_num, O1, T1, G1⟩
    · have ei : i = 1 := by omega
      subst ei
      go_wp2
      go_ret
      have I : IsL (n + 1) wr u3 (lst c) := by have := O.out.isL; rw [LE.out] at this; exact this
      exact ⟨_, rfl, by rw [HSZ.out]; exact I.mono (by omega), G.out.2⟩
set_option maxHeartbeats 2000000 in
theorem list_2 (c : Nat → Nat) (h : c 0 = 2) (hv : ∀ i, 1 ≤ i → i ≤ 2 → c i ≤ 4294967295) (w : World) : Calls Tryz.prog 85 #[.agg (wl c).toArray] w fun e w' => ∃ v, e = .returned v ∧ IsL w.heap.size w' v (lst c) ∧ Below w.heap.size w w' := by
  obtain ⟨i0, hi, hz0, hz1, hz2⟩ := info_parts info_int
  have G : Hid (Gd w.heap.size w (w.alloc (.cells (wl c).toArray 119))) := (Gd.refl w).new _
  have T : Hid (Bo (w.alloc (.cells (wl c).toArray 119)) w.heap.size (wl c)) := Bo.born w (wl c) _ rfl
  have g0 : (w.alloc (.cells (wl c).toArray 119)).cell? ⟨w.heap.size, 0, none⟩ = some (.int .u64 2) := by have := T.out.word (show 0 < 17 by decide); rw [h] at this; exact this
  have LT : Hid (∀ i, i < 2 → (lst c).take i ++ [((c (1 + i) : Nat) : Int)] = (lst c).take (i + 1)) := fun i hi => lst_take c (by omega)
  have LL : Hid (∀ i, i ≤ 2 → ((lst c).take i).length = i) := fun i hi => by rw [List.length_take, lst_length, h]; omega
  have LE : Hid ((lst c).take 2 = lst c) := List.take_of_length_le (by rw [lst_length, h]; omega)
  have HV : Hid _ := hv
  clear h hv
  go_enter Tryz.func85, Tryz.ntmps85
  go_wp2_with fail
  generalize w.alloc (.cells (wl c).toArray 119) = W at T G g0 ⊢
  generalize hsz : w.heap.size = n at T G g0 ⊢
  have HSZ : Hid (w.heap.size = n) := hsz
  clear hsz g0
  go_loopg [11, 3] 2 (fun gg s11 s3 wt => ∃ i : Nat, i ≤ 2 ∧ 2 - i ≤ gg ∧ s11 = .int .i64 i ∧ Hid (Own (n + 1) wt s3 ((lst c).take i)) ∧ Hid (Bo wt n (wl c)) ∧ Hid (Gd n w wt))
  case atStart => exact ⟨0, by omega, by omega, rfl, own_nil _ _, T, G⟩
  case round =>
    clear T G
    obtain ⟨i, hi1, hgg, rfl, O, T, G⟩ := hrel
    by_cases hlt : i < 2
    · have g0 := T.out.word (show 1 + i < 17 by omega)
      have hx := HV.out (1 + i) (by omega) (by omega)
      have HT : Hid _ := LT.out i hlt
      have hl6 : Hid (((lst c).take i).length ≤ 6) := by have := LL.out i (by omega); show _ ≤ 6; omega
      generalize c (1 + i) = x at g0 hx HT
      generalize (lst c).take i = ys at O HT hl6
      obtain ⟨a, k, rfl⟩ := O.out.form
      have hlt2 : Hid (∀ j, (Value.slice a ys.length k).ownBlock = some j → n + 1 ≤ j ∧ j < wr.heap.size) := O.out.lt
      have hsz1 : n < wr.heap.size := T.out.lt
      have ew1 : IntKind.i64.wrap (x : Int) = x := by rw [IntKind.wrap_i64]; omega
      have ew2 : wrap64 (x : Int) = x := by unfold wrap64; omega
      have i1 : (i : Int) < 2 := by omega
      have i2 : (0 : Int) ≤ (i : Int) := by omega
      go_wp2_with (at_builtin; refine wpList_append_own_at _ rfl _ _ 66 rfl (n + 1) 3 i0 (.int .i64 0) 1 8 Tryz.underlying66 hi hz0 hz1 hz2 rfl (by decide) _ _ _ rfl (O.out.alloc _) ⟨wr.heap.size, 0, none⟩ 1 1 [.int .i64 x] rfl rfl ?c1 ?c2 ?c3 ?c4 ?c5 ?_)
      case c1 => intro j u hj; exact cell_one_new wr (.int .i64 x) 3 j u hj
      case c2 => intro u hu; simp at hu; subst hu; rfl
      case c3 => have := hl6.out; unfold maxLen; omega
      case c4 => have := hl6.out; omega
      case c5 => simp; omega
      intro v' w1 hown hgrow _ hat
      have O1 : Hid (Own (n + 1) w1 v' ((lst c).take (i + 1))) := by
        rw [← HT.out]
        show w1.ownsRow (n + 1) _ 1 v' _ _
        simpa using hown
      have G0 := G.out.new (.cells #[.int .i64 x] 3)
      have G1 : Hid (Gd n w w1) := ⟨G0.1, G0.2.grown hgrow G0.2.size (fun k hk => by have h1 := (hlt2.out k hk).1; have h2 := G0.1; omega)⟩
      have T1 : Hid (Bo w1 n (wl c)) := (T.out.new (.cells #[.int .i64 x] 3)).keep (hgrow.block n (by simp; omega) (fun e => by have := (hlt2.out n e.symm).1; omega)) (Nat.lt_of_lt_of_le (by simp; omega) hgrow.size)
      clear hown hgrow hat G0 O T G HT hlt2
      go_wp2
      go_roundg (2 - (i + 1))
      case measure => omega
      case rel => exact ⟨i + 1, by omega, by omega, by go_num, O1, T1, G1⟩
    · have ei : i = 2 := by omega
      subst ei
      go_wp2
      go_ret
      have I : IsL (n + 1) wr u3 (lst c) := by have := O.out.isL; rw [LE.out] at this; exact this
      exact ⟨_, rfl, by rw [HSZ.out]; exact I.mono (by omega), G.out.2⟩
set_option maxHeartbeats 2000000 in
theorem list_3 (c : Nat → Nat) (h : c 0 = 3) (hv : ∀ i, 1 ≤ i → i ≤ 3 → c i ≤ 4294967295) (w : World) : Calls Tryz.prog 85 #[.agg (wl c).toArray] w fun e w' => ∃ v, e = .returned v ∧ IsL w.heap.size w' v (lst c) ∧ Below w.heap.size w w' := by
  obtain ⟨i0, hi, hz0, hz1, hz2⟩ := info_parts info_int
  have G : Hid (Gd w.heap.size w (w.alloc (.cells (wl c).toArray 119))) := (Gd.refl w).new _
  have T : Hid (Bo (w.alloc (.cells (wl c).toArray 119)) w.heap.size (wl c)) := Bo.born w (wl c) _ rfl
  have g0 : (w.alloc (.cells (wl c).toArray 119)).cell? ⟨w.heap.size, 0, none⟩ = some (.int .u64 3) := by have := T.out.word (show 0 < 17 by decide); rw [h] at this; exact this
  have LT : Hid (∀ i, i < 3 → (lst c).take i ++ [((c (1 + i) : Nat) : Int)] = (lst c).take (i + 1)) := fun i hi => lst_take c (by omega)
  have LL : Hid (∀ i, i ≤ 3 → ((lst c).take i).length = i) := fun i hi => by rw [List.length_take, lst_length, h]; omega
  have LE : Hid ((lst c).take 3 = lst c) := List.take_of_length_le (by rw [lst_length, h]; omega)
  have HV : Hid _ := hv
  clear h hv
  go_enter Tryz.func85, Tryz.ntmps85
  go_wp2_with fail
  generalize w.alloc (.cells (wl c).toArray 119) = W at T G g0 ⊢
  generalize hsz : w.heap.size = n at T G g0 ⊢
  have HSZ : Hid (w.heap.size = n) := hsz
  clear hsz g0
  go_loopg [11, 3] 3 (fun gg s11 s3 wt => ∃ i : Nat, i ≤ 3 ∧ 3 - i ≤ gg ∧ s11 = .int .i64 i ∧ Hid (Own (n + 1) wt s3 ((lst c).take i)) ∧ Hid (Bo wt n (wl c)) ∧ Hid (Gd n w wt))
  case atStart => exact ⟨0, by omega, by omega, rfl, own_nil _ _, T, G⟩
  case round =>
    clear T G
    obtain ⟨i, hi1, hgg, rfl, O, T, G⟩ := hrel
    by_cases hlt : i < 3
    · have g0 := T.out.word (show 1 + i < 17 by omega)
      have hx := HV.out (1 + i) (by omega) (by omega)
      have HT : Hid _ := LT.out i hlt
      have hl6 : Hid (((lst c).take i).length ≤ 6) := by have := LL.out i (by omega); show _ ≤ 6; omega
      generalize c (1 + i) = x at g0 hx HT
      generalize (lst c).take i = ys at O HT hl6
      obtain ⟨a, k, rfl⟩ := O.out.form
      have hlt2 : Hid (∀ j, (Value.slice a ys.length k).ownBlock = some j → n + 1 ≤ j ∧ j < wr.heap.size) := O.out.lt
      have hsz1 : n < wr.heap.size := T.out.lt
      have ew1 : IntKind.i64.wrap (x : Int) = x := by rw [IntKind.wrap_i64]; omega
      have ew2 : wrap64 (x : Int) = x := by unfold wrap64; omega
      have i1 : (i : Int) < 3 := by omega
      have i2 : (0 : Int) ≤ (i : Int) := by omega
      go_wp2_with (at_builtin; refine wpList_append_own_at _ rfl _ _ 66 rfl (n + 1) 3 i0 (.int .i64 0) 1 8 Tryz.underlying66 hi hz0 hz1 hz2 rfl (by decide) _ _ _ rfl (O.out.alloc _) ⟨wr.heap.size, 0, none⟩ 1 1 [.int .i64 x] rfl rfl ?c1 ?c2 ?c3 ?c4 ?c5 ?_)
      case c1 => intro j u hj; exact cell_one_new wr (.int .i64 x) 3 j u hj
      case c2 => intro u hu; simp at hu; subst hu; rfl
      case c3 => have := hl6.out; unfold maxLen; omega
      case c4 => have := hl6.out; omega
      case c5 => simp; omega
      intro v' w1 hown hgrow _ hat
      have O1 : Hid (Own (n + 1) w1 v' ((lst c).take (i + 1))) := by
        rw [← HT.out]
        show w1.ownsRow (n + 1) _ 1 v' _ _
        simpa using hown
      have G0 := G.out.new (.cells #[.int .i64 x] 3)
      have G1 : Hid (Gd n w w1) := ⟨G0.1, G0.2.grown hgrow G0.2.size (fun k hk => by have h1 := (hlt2.out k hk).1; have h2 := G0.1; omega)⟩
      have T1 : Hid (Bo w1 n (wl c)) := (T.out.new (.cells #[.int .i64 x] 3)).keep (hgrow.block n (by simp; omega) (fun e => by have := (hlt2.out n e.symm).1; omega)) (Nat.lt_of_lt_of_le (by simp; omega) hgrow.size)
      clear hown hgrow hat G0 O T G HT hlt2
      go_wp2
      go_roundg (3 - (i + 1))
      case measure => omega
      case rel => exact ⟨i + 1, by omega, by omega, by go_num, O1, T1, G1⟩
    · have ei : i = 3 := by omega
      subst ei
      go_wp2
      go_ret
      have I : IsL (n + 1) wr u3 (lst c) := by have := O.out.isL; rw [LE.out] at this; exact this
      exact ⟨_, rfl, by rw [HSZ.out]; exact I.mono (by omega), G.out.2⟩
set_option maxHeartbeats 2000000 in
theorem list_4 (c : Nat → Nat) (h : c 0 = 4) (hv : ∀ i, 1 ≤ i → i ≤ 4 → c i ≤ 4294967295) (w : World) : Calls Tryz.prog 85 #[.agg (wl c).toArray] w fun e w' => ∃ v, e = .returned v ∧ IsL w.heap.size w' v (lst c) ∧ Below w.heap.size w w' := by
  obtain ⟨i0, hi, hz0, hz1, hz2⟩ := info_parts info_int
  have G : Hid (Gd w.heap.size w (w.alloc (.cells (wl c).toArray 119))) := (Gd.refl w).new _
  have T : Hid (Bo (w.alloc (.cells (wl c).toArray 119)) w.heap.size (wl c)) := Bo.born w (wl c) _ rfl
  have g0 : (w.alloc (.cells (wl c).toArray 119)).cell? ⟨w.heap.size, 0, none⟩ = some (.int .u64 4) := by have := T.out.word (show 0 < 17 by decide); rw [h] at this; exact this
  have LT : Hid (∀ i, i < 4 → (lst c).take i ++ [((c (1 + i) : Nat) : Int)] = (lst c).take (i + 1)) := fun i hi => lst_take c (by omega)
  have LL : Hid (∀ i, i ≤ 4 → ((lst c).take i).length = i) := fun i hi => by rw [List.length_take, lst_length, h]; omega
  have LE : Hid ((lst c).take 4 = lst c) := List.take_of_length_le (by rw [lst_length, h]; omega)
  have HV : Hid _ := hv
  clear h hv
  go_enter Tryz.func85, Tryz.ntmps85
  go_wp2_with fail
  generalize w.alloc (.cells (wl c).toArray 119) = W at T G g0 ⊢
  generalize hsz : w.heap.size = n at T G g0 ⊢
  have HSZ : Hid (w.heap.size = n) := hsz
  clear hsz g0
  go_loopg [11, 3] 4 (fun gg s11 s3 wt => ∃ i : Nat, i ≤ 4 ∧ 4 - i ≤ gg ∧ s11 = .int .i64 i ∧ Hid (Own (n + 1) wt s3 ((lst c).take i)) ∧ Hid (Bo wt n (wl c)) ∧ Hid (Gd n w wt))
  case atStart => exact ⟨0, by omega, by omega, rfl, own_nil _ _, T, G⟩
  case round =>
    clear T G
    obtain ⟨i, hi1, hgg, rfl, O, T, G⟩ := hrel
    by_cases hlt : i < 4
    · have g0 := T.out.word (show 1 + i < 17 by omega)
      have hx := HV.out (1 + i) (by omega) (by omega)
      have HT : Hid _ := LT.out i hlt
      have hl6 : Hid (((lst c).take i).length ≤ 6) := by have := LL.out i (by omega); show _ ≤ 6; omega
      generalize c (1 + i) = x at g0 hx HT
      generalize (lst c).take i = ys at O HT hl6
      obtain ⟨a, k, rfl⟩ := O.out.form
      have hlt2 : Hid (∀ j, (Value.slice a ys.length k).ownBlock = some j → n + 1 ≤ j ∧ j < wr.heap.size) := O.out.lt
      have hsz1 : n < wr.heap.size := T.out.lt
      have ew1 : IntKind.i64.wrap (x : Int) = x := by rw [IntKind.wrap_i64]; omega
      have ew2 : wrap64 (x : Int) = x := by unfold wrap64; omega
      have i1 : (i : Int) < 4 := by omega
      have i2 : (0 : Int) ≤ (i : Int) := by omega
      go_wp2_with (at_builtin; refine wpList_append_own_at _ rfl _ _ 66 rfl (n + 1) 3 i0 (.int .i64 0) 1 8 Tryz.underlying66 hi hz0 hz1 hz2 rfl (by decide) _ _ _ rfl (O.out.alloc _) ⟨wr.heap.size, 0, none⟩ 1 1 [.int .i64 x] rfl rfl ?c1 ?c2 ?c3 ?c4 ?c5 ?_)
      case c1 => intro j u hj; exact cell_one_new wr (.int .i64 x) 3 j u hj
      case c2 => intro u hu; simp at hu; subst hu; rfl
      case c3 => have := hl6.out; unfold maxLen; omega
      case c4 => have := hl6.out; omega
      case c5 => simp; omega
      intro v' w1 hown hgrow _ hat
      have O1 : Hid (Own (n + 1) w1 v' ((lst c).take (i + 1))) := by
        rw [← HT.out]
        show w1.ownsRow (n + 1) _ 1 v' _ _
        simpa using hown
      have G0 := G.out.new (.cells #[.int .i64 x] 3)
      have G1 : Hid (Gd n w w1) := ⟨G0.1, G0.2.grown hgrow G0.2.size (fun k hk => by have h1 := (hlt2.out k hk).1; have h2 := G0.1; omega)⟩
      have T1 : Hid (Bo w1 n (wl c)) := (T.out.new (.cells #[.int .i64 x] 3)).keep (hgrow.block n (by simp; omega) (fun e => by have := (hlt2.out n e.symm).1; omega)) (Nat.lt_of_lt_of_le (by simp; omega) hgrow.size)
      clear hown hgrow hat G0 O T G HT hlt2
      go_wp2
      go_roundg (4 - (i + 1))
      case measure => omega
      case rel => exact ⟨i + 1, by omega, by omega, by go_num, O1, T1, G1⟩
    · have ei : i = 4 := by omega
      subst ei
      go_wp2
      go_ret
      have I : IsL (n + 1) wr u3 (lst c) := by have := O.out.isL; rw [LE.out] at this; exact this
      exact ⟨_, rfl, by rw [HSZ.out]; exact I.mono (by omega), G.out.2⟩
set_option maxHeartbeats 2000000 in
theorem list_5 (c : Nat → Nat) (h : c 0 = 5) (hv : ∀ i, 1 ≤ i → i ≤ 5 → c i ≤ 4294967295) (w : World) : Calls Tryz.prog 85 #[.agg (wl c).toArray] w fun e w' => ∃ v, e = .returned v ∧ IsL w.heap.size w' v (lst c) ∧ Below w.heap.size w w' := by
  obtain ⟨i0, hi, hz0, hz1, hz2⟩ := info_parts info_int
  have G : Hid (Gd w.heap.size w (w.alloc (.cells (wl c).toArray 119))) := (Gd.refl w).new _
  have T : Hid (Bo (w.alloc (.cells (wl c).toArray 119)) w.heap.size (wl c)) := Bo.born w (wl c) _ rfl
  have g0 : (w.alloc (.cells (wl c).toArray 119)).cell? ⟨w.heap.size, 0, none⟩ = some (.int .u64 5) := by have := T.out.word (show 0 < 17 by decide); rw [h] at this; exact this
  have LT : Hid (∀ i, i < 5 → (lst c).take i ++ [((c (1 + i) : Nat) : Int)] = (lst c).take (i + 1)) := fun i hi => lst_take c (by omega)
  have LL : Hid (∀ i, i ≤ 5 → ((lst c).take i).length = i) := fun i hi => by rw [List.length_take, lst_length, h]; omega
  have LE : Hid ((lst c).take 5 = lst c) := List.take_of_length_le (by rw [lst_length, h]; omega)
  have HV : Hid _ := hv
  clear h hv
  go_enter Tryz.func85, Tryz.ntmps85
  go_wp2_with fail
  generalize w.alloc (.cells (wl c).toArray 119) = W at T G g0 ⊢
  generalize hsz : w.heap.size = n at T G g0 ⊢
  have HSZ : Hid (w.heap.size = n) := hsz
  clear hsz g0
  go_loopg [11, 3] 5 (fun gg s11 s3 wt => ∃ i : Nat, i ≤ 5 ∧ 5 - i ≤ gg ∧ s11 = .int .i64 i ∧ Hid (Own (n + 1) wt s3 ((lst c).take i)) ∧ Hid (Bo wt n (wl c)) ∧ Hid (Gd n w wt))
  case atStart => exact ⟨0, by omega, by omega, rfl, own_nil _ _, T, G⟩
  case round =>
    clear T G
    obtain ⟨i, hi1, hgg, rfl, O, T, G⟩ := hrel
    by_cases hlt : i < 5
    · have g0 := T.out.word (show 1 + i < 17 by omega)
      have hx := HV.out (1 + i) (by omega) (by omega)
      have HT : Hid _ := LT.out i hlt
      have hl6 : Hid (((lst c).take i).length ≤ 6) := by have := LL.out i (by omega); show _ ≤ 6; omega
      generalize c (1 + i) = x at g0 hx HT
      generalize (lst c).take i = ys at O HT hl6
      obtain ⟨a, k, rfl⟩ := O.out.form
      have hlt2 : Hid (∀ j, (Value.slice a ys.length k).ownBlock = some j → n + 1 ≤ j ∧ j < wr.heap.size) := O.out.lt
      have hsz1 : n < wr.heap.size := T.out.lt
      have ew1 : IntKind.i64.wrap (x : Int) = x := by rw [IntKind.wrap_i64]; omega
      have ew2 : wrap64 (x : Int) = x := by unfold wrap64; omega
      have i1 : (i : Int) < 5 := by omega
      have i2 : (0 : Int) ≤ (i : Int) := by omega
      go_wp2_with (at_builtin; refine wpList_append_own_at _ rfl _ _ 66 rfl (n + 1) 3 i0 (.int .i64 0) 1 8 Tryz.underlying66 hi hz0 hz1 hz2 rfl (by decide) _ _ _ rfl (O.out.alloc _) ⟨wr.heap.size, 0, none⟩ 1 1 [.int .i64 x] rfl rfl ?c1 ?c2 ?c3 ?c4 ?c5 ?_)
      case c1 => intro j u hj; exact cell_one_new wr (.int .i64 x) 3 j u hj
      case c2 => intro u hu; simp at hu; subst hu; rfl
      case c3 => have := hl6.out; unfold maxLen; omega
      case c4 => have := hl6.out; omega
      case c5 => simp; omega
      intro v' w1 hown hgrow _ hat
      have O1 : Hid (Own (n + 1) w1 v' ((lst c).take (i + 1))) := by
        rw [← HT.out]
        show w1.ownsRow (n + 1) _ 1 v' _ _
        simpa using hown
      have G0 := G.out.new (.cells #[.int .i64 x] 3)
      have G1 : Hid (Gd n w w1) := ⟨G0.1, G0.2.grown hgrow G0.2.size (fun k hk => by have h1 := (hlt2.out k hk).1; have h2 := G0.1; omega)⟩
      have T1 : Hid (Bo w1 n (wl c)) := (T.out.new (.cells #[.int .i64 x] 3)).keep (hgrow.block n (by simp; omega) (fun e => by have := (hlt2.out n e.symm).1; omega)) (Nat.lt_of_lt_of_le (by simp; omega) hgrow.size)
      clear hown hgrow hat G0 O T G HT hlt2
      go_wp2
      go_roundg (5 - (i + 1))
      case measure => omega
      case rel => exact ⟨i + 1, by omega, by omega, by go_num, O1, T1, G1⟩
    · have ei : i = 5 := by omega
      subst ei
      go_wp2
      go_ret
      have I : IsL (n + 1) wr u3 (lst c) := by have := O.out.isL; rw [LE.out] at this; exact this
      exact ⟨_, rfl, by rw [HSZ.out]; exact I.mono (by omega), G.out.2⟩
set_option maxHeartbeats 2000000 in
theorem list_6 (c : Nat → Nat) (h : c 0 = 6) (hv : ∀ i, 1 ≤ i → i ≤ 6 → c i ≤ 4294967295) (w : World) : Calls Tryz.prog 85 #[.agg (wl c).toArray] w fun e w' => ∃ v, e = .returned v ∧ IsL w.heap.size w' v (lst c) ∧ Below w.heap.size w w' := by
  obtain ⟨i0, hi, hz0, hz1, hz2⟩ := info_parts info_int
  have G : Hid (Gd w.heap.size w (w.alloc (.cells (wl c).toArray 119))) := (Gd.refl w).new _
  have T : Hid (Bo (w.alloc (.cells (wl c).toArray 119)) w.heap.size (wl c)) := Bo.born w (wl c) _ rfl
  have g0 : (w.alloc (.cells (wl c).toArray 119)).cell? ⟨w.heap.size, 0, none⟩ = some (.int .u64 6) := by have := T.out.word (show 0 < 17 by decide); rw [h] at this; exact this
  have LT : Hid (∀ i, i < 6 → (lst c).take i ++ [((c (1 + i) : Nat) : Int)] = (lst c).take (i + 1)) := fun i hi => lst_take c (by omega)
  have LL : Hid (∀ i, i ≤ 6 → ((lst c).take i).length = i) := fun i hi => by rw [List.length_take, lst_length, h]; omega
  have LE : Hid ((lst c).take 6 = lst c) := List.take_of_length_le (by rw [lst_length, h]; omega)
  have HV : Hid _ := hv
  clear h hv
  go_enter Tryz.func85, Tryz.ntmps85
  go_wp2_with fail
  generalize w.alloc (.cells (wl c).toArray 119) = W at T G g0 ⊢
  generalize hsz : w.heap.size = n at T G g0 ⊢
  have HSZ : Hid (w.heap.size = n) := hsz
  clear hsz g0
  go_loopg [11, 3] 6 (fun gg s11 s3 wt => ∃ i : Nat, i ≤ 6 ∧ 6 - i ≤ gg ∧ s11 = .int .i64 i ∧ Hid (Own (n + 1) wt s3 ((lst c).take i)) ∧ Hid (Bo wt n (wl c)) ∧ Hid (Gd n w wt))
  case atStart => exact ⟨0, by omega, by omega, rfl, own_nil _ _, T, G⟩
  case round =>
    clear T G
    obtain ⟨i, hi1, hgg, rfl, O, T, G⟩ := hrel
    by_cases hlt : i < 6
    · have g0 := T.out.word (show 1 + i < 17 by omega)
      have hx := HV.out (1 + i) (by omega) (by omega)
      have HT : Hid _ := LT.out i hlt
      have hl6 : Hid (((lst c).take i).length ≤ 6) := by have := LL.out i (by omega); show _ ≤ 6; omega
      generalize c (1 + i) = x at g0 hx HT
      generalize (lst c).take i = ys at O HT hl6
      obtain ⟨a, k, rfl⟩ := O.out.form
      have hlt2 : Hid (∀ j, (Value.slice a ys.length k).ownBlock = some j → n + 1 ≤ j ∧ j < wr.heap.size) := O.out.lt
      have hsz1 : n < wr.heap.size := T.out.lt
      have ew1 : IntKind.i64.wrap (x : Int) = x := by rw [IntKind.wrap_i64]; omega
      have ew2 : wrap64 (x : Int) = x := by unfold wrap64; omega
      have i1 : (i : Int) < 6 := by omega
      have i2 : (0 : Int) ≤ (i : Int) := by omega
      go_wp2_with (at_builtin; refine wpList_append_own_at _ rfl _ _ 66 rfl (n + 1) 3 i0 (.int .i64 0) 1 8 Tryz.underlying66 hi hz0 hz1 hz2 rfl (by decide) _ _ _ rfl (O.out.alloc _) ⟨wr.heap.size, 0, none⟩ 1 1 [.int .i64 x] rfl rfl ?c1 ?c2 ?c3 ?c4 ?c5 ?_)
      case c1 => intro j u hj; exact cell_one_new wr (.int .i64 x) 3 j u hj
      case c2 => intro u hu; simp at hu; subst hu; rfl
      case c3 => have := hl6.out; unfold maxLen; omega
      case c4 => have := hl6.out; omega
      case c5 => simp; omega
      intro v' w1 hown hgrow _ hat
      have O1 : Hid (Own (n + 1) w1 v' ((lst c).take (i + 1))) := by
        rw [← HT.out]
        show w1.ownsRow (n + 1) _ 1 v' _ _
        simpa using hown
      have G0 := G.out.new (.cells #[.int .i64 x] 3)
      have G1 : Hid (Gd n w w1) := ⟨G0.1, G0.2.grown hgrow G0.2.size (fun k hk => by have h1 := (hlt2.out k hk).1; have h2 := G0.1; omega)⟩
      have T1 : Hid (Bo w1 n (wl c)) := (T.out.new (.cells #[.int .i64 x] 3)).keep (hgrow.block n (by simp; omega) (fun e => by have := (hlt2.out n e.symm).1; omega)) (Nat.lt_of_lt_of_le (by simp; omega) hgrow.size)
      clear hown hgrow hat G0 O T G HT hlt2
      go_wp2
      go_roundg (6 - (i + 1))
      case measure => omega
      case rel => exact ⟨i + 1, by omega, by omega, by go_num, O1, T1, G1⟩
    · have ei : i = 6 := by omega
      subst ei
      go_wp2
      go_ret
      have I : IsL (n + 1) wr u3 (lst c) := by have := O.out.isL; rw [LE.out] at this; exact this
      exact ⟨_, rfl, by rw [HSZ.out]; exact I.mono (by omega), G.out.2⟩
theorem list_is {c : Nat → Nat} (hw : WList c) (w : World) : Calls Tryz.prog 85 #[.agg (wl c).toArray] w fun e w' => ∃ v, e = .returned v ∧ IsL w.heap.size w' v (lst c) ∧ Below w.heap.size w w' := by
  have h := hw.len
  have hh : c 0 = 0 ∨ c 0 = 1 ∨ c 0 = 2 ∨ c 0 = 3 ∨ c 0 = 4 ∨ c 0 = 5 ∨ c 0 = 6 := by omega
  rcases hh with e | e | e | e | e | e | e
  · exact list_0 c e (fun i h1 h2 => hw.val i h1 (by omega)) w
  · exact list_1 c e (fun i h1 h2 => hw.val i h1 (by omega)) w
  · exact list_2 c e (fun i h1 h2 => hw.val i h1 (by omega)) w
  · exact list_3 c e (fun i h1 h2 => hw.val i h1 (by omega)) w
  · exact list_4 c e (fun i h1 h2 => hw.val i h1 (by omega)) w
  · exact list_5 c e (fun i h1 h2 => hw.val i h1 (by omega)) w
  · exact list_6 c e (fun i h1 h2 => hw.val i h1 (by omega)) w
end Go.Proofs.YteogbpaaacmllaaGreatDoor.Tab
namespace Go.Proofs.YteogbpaaacmllaaGreatDoor.Tab
set_option maxRecDepth 20000
open Go.RowKit

def tblp (c : Nat → Nat) (i : Nat) : Tb := ⟨fun p => if p < i then (c (2 * p) : Nat) else 0, fun p => if p < i then (c (2 * p + 1) : Nat) else 0⟩
theorem tblp_zero (c : Nat → Nat) : tblp c 0 = Tb.zero := by
  unfold tblp Tb.zero; congr 1 <;> (funext p; simp)
theorem tblp_next (c : Nat → Nat) (i : Nat) : (tblp c i).set i (c (2 * i) : Nat) (c (2 * i + 1) : Nat) = tblp c (i + 1) := by
  unfold tblp Tb.set; congr 1 <;>
  · funext p
    by_cases e : p = i
    · subst e; simp
    · by_cases h : p < i
      · simp [e, h, show p < i + 1 by omega]
      · simp [e, h, show ¬ p < i + 1 by omega]
theorem tblp_all (c : Nat → Nat) : (tblp c 8).all = (tbl c).all := by
  unfold Tb.all
  refine List.map_congr_left fun j hj => ?_
  have : j / 2 < 8 := by have : j < 16 := by simpa using hj
                         omega
  simp [Tb.at, tblp, tbl, this]

set_option maxHeartbeats 4000000 in
theorem slots_is (c : Nat → Nat) (hv : ∀ j, j < 16 → c j ≤ 4294967295) (w : World) : Calls Tryz.prog 103 #[.agg (wl c).toArray] w fun e w' => e = .returned (.agg (tbl c).all.toArray) ∧ Below w.heap.size w w' := by
  obtain ⟨na, ea, hd⟩ := slots_array
  have HD : Hid _ := hd
  clear hd
  have HS : Hid (∀ t : Tb, (Tryz.prog.info? 174).map (·.size) = some t.all.length) := slots_size
  have HZ : Hid (∀ t : Tb, (Tryz.prog.info? 174).map (·.size) = some t.all.toArray.size) := slots_size2
  have HV : Hid _ := hv
  clear hv
  have G : Hid (Gd w.heap.size w (((w.alloc (.cells (wl c).toArray 119)).alloc (.cells #[.int .i64 0, .int .i64 0, .int .i64 0, .int .i64 0, .int .i64 0, .int .i64 0, .int .i64 0, .int .i64 0, .int .i64 0, .int .i64 0, .int .i64 0, .int .i64 0, .int .i64 0, .int .i64 0, .int .i64 0, .int .i64 0] 174)).alloc (.cells #[.int .i64 0, .int .i64 0, .int .i64 0, .int .i64 0, .int .i64 0, .int .i64 0, .int .i64 0, .int .i64 0, .int .i64 0, .int .i64 0, .int .i64 0, .int .i64 0, .int .i64 0, .int .i64 0, .int .i64 0, .int .i64 0] 174))) := (((Gd.refl w).new _).new _).new _
  have T : Hid (Bo (((w.alloc (.cells (wl c).toArray 119)).alloc (.cells #[.int .i64 0, .int .i64 0, .int .i64 0, .int .i64 0, .int .i64 0, .int .i64 0, .int .i64 0, .int .i64 0, .int .i64 0, .int .i64 0, .int .i64 0, .int .i64 0, .int .i64 0, .int .i64 0, .int .i64 0, .int .i64 0] 174)).alloc (.cells #[.int .i64 0, .int .i64 0, .int .i64 0, .int .i64 0, .int .i64 0, .int .i64 0, .int .i64 0, .int .i64 0, .int .i64 0, .int .i64 0, .int .i64 0, .int .i64 0, .int .i64 0, .int .i64 0, .int .i64 0, .int .i64 0] 174)) w.heap.size (wl c)) := ((Bo.born w (wl c) _ rfl).new _).new _
  have R : Hid (TAt (((w.alloc (.cells (wl c).toArray 119)).alloc (.cells #[.int .i64 0, .int .i64 0, .int .i64 0, .int .i64 0, .int .i64 0, .int .i64 0, .int .i64 0, .int .i64 0, .int .i64 0, .int .i64 0, .int .i64 0, .int .i64 0, .int .i64 0, .int .i64 0, .int .i64 0, .int .i64 0] 174)).alloc (.cells #[.int .i64 0, .int .i64 0, .int .i64 0, .int .i64 0, .int .i64 0, .int .i64 0, .int .i64 0, .int .i64 0, .int .i64 0, .int .i64 0, .int .i64 0, .int .i64 0, .int .i64 0, .int .i64 0, .int .i64 0, .int .i64 0] 174)) (w.heap.size + 1) Tb.zero) := (TAt.bornZero _ _ (by simp)).new _
  have L : Hid (TAt (((w.alloc (.cells (wl c).toArray 119)).alloc (.cells #[.int .i64 0, .int .i64 0, .int .i64 0, .int .i64 0, .int .i64 0, .int .i64 0, .int .i64 0, .int .i64 0, .int .i64 0, .int .i64 0, .int .i64 0, .int .i64 0, .int .i64 0, .int .i64 0, .int .i64 0, .int .i64 0] 174)).alloc (.cells #[.int .i64 0, .int .i64 0, .int .i64 0, .int .i64 0, .int .i64 0, .int .i64 0, .int .i64 0, .int .i64 0, .int .i64 0, .int .i64 0, .int .i64 0, .int .i64 0, .int .i64 0, .int .i64 0, .int .i64 0, .int .i64 0] 174)) (w.heap.size + 2) (tblp c 0)) := by rw [tblp_zero]; exact TAt.bornZero _ _ (by simp)
  go_enter Tryz.func103, Tryz.ntmps103
  go_wp2_with fail
  generalize World.alloc _ _ = W at G T R L ⊢
  generalize hsz : w.heap.size = n at G T R L ⊢
  have HSZ : Hid (w.heap.size = n) := hsz
  clear hsz
  go_loopg [5] 8 (fun gg s5 wt => ∃ i : Nat, i ≤ 8 ∧ 8 - i ≤ gg ∧ s5 = .int .i64 i ∧ Hid (Bo wt n (wl c)) ∧ Hid (TAt wt (n + 1) Tb.zero) ∧ Hid (TAt wt (n + 2) (tblp c i)) ∧ Hid (Gd n w wt))
  case atStart => exact ⟨0, by omega, by omega, rfl, T, R, L, G⟩
  case round =>
    clear T R L G
    obtain ⟨i, hi, hgg, rfl, T, R, L, G⟩ := hrel
    by_cases hlt : i < 8
    · have g0 := T.out.word (show 2 * i < 17 by omega)
      have g1 := T.out.word (show 2 * i + 1 < 17 by omega)
      have x1 := HV.out (2 * i) (by omega)
      have y1 := HV.out (2 * i + 1) (by omega)
      have l0 := L.out.key hlt
      have l1 := L.out.val hlt
      have f0 := L.out.froz (i * 2)
      have f1 := L.out.froz (i * 2 + 1)
      have NX : Hid _ := tblp_next c i
      have T1 : Hid (Bo wr.drew n (wl c)) := T.out.drew
      have R1 : Hid (TAt wr.drew (n + 1) Tb.zero) := R.out.drew
      have L1 : Hid (TAt wr.drew (n + 2) (tblp c i)) := L.out.drew
      have G1 : Hid (Gd n w wr.drew) := G.out.drew
      clear T R L G
      generalize c (2 * i) = x at g0 x1 NX
      generalize c (2 * i + 1) = y at g1 y1 NX
      generalize (tblp c i).k i = z0 at l0
      generalize (tblp c i).v i = z1 at l1
      have ex1 : IntKind.i64.wrap (x : Int) = x := by rw [IntKind.wrap_i64]; omega
      have ex2 : wrap64 (x : Int) = x := by unfold wrap64; omega
      have ey1 : IntKind.i64.wrap (y : Int) = y := by rw [IntKind.wrap_i64]; omega
      have ey2 : wrap64 (y : Int) = y := by unfold wrap64; omega
      have i1 : (i : Int) < 8 := by omega
      have i0 : (0 : Int) ≤ (i : Int) := by omega
      have i2 : 2 * (i : Int) < 17 := by omega
      have i3 : 2 * (i : Int) + 1 < 17 := by omega
      have i4 : (0 : Int) ≤ 2 * (i : Int) := by omega
      have i5 : (0 : Int) ≤ 2 * (i : Int) + 1 := by omega
      clear x1 y1
      go_wp2_with fail
      go_region
      all_goals go_wp2
      all_goals go_roundg (8 - (i + 1))
      case measure => omega
      case rel => exact ⟨i + 1, by omega, by omega, by go_num, (T1.out.aside (show n ≠ n + 2 by omega) _).aside (show n ≠ n + 2 by omega) _, (R1.out.aside (show n + 1 ≠ n + 2 by omega) _).aside (show n + 1 ≠ n + 2 by omega) _, by rw [← NX.out]; exact L1.out.setSlot hlt x y, (G1.out.aside (show n ≤ n + 2 by omega) _).aside (show n ≤ n + 2 by omega) _⟩
    · have ei : i = 8 := by omega
      subst ei
      have e8 := tblp_all c
      generalize tblp c 8 = t at L e8
      clear hlt T
      go_wp2_with (first
        | (refine wpList_load_mid rfl 174 _ rfl (n + 2) _ rfl t.all _ L.out.range HD.out rfl (HS.out t) ?_)
        | (refine wpList_store_mid rfl 174 _ _ rfl (n + 1) _ t.all.toArray rfl rfl (R.out.thereOf t) (HZ.out t) (t.all_all) ?_
           have R1 : Hid (TAt (wr.setCells (n + 1) 0 t.all) (n + 1) t) := R.out.setAll t
           have G1 : Hid (Gd n w (wr.setCells (n + 1) 0 t.all)) := G.out.asideAll (by omega) t
           clear R G L
           generalize wr.setCells (n + 1) 0 t.all = V at R1 G1 ⊢))
      exact bodyPost_ret (results_row Tryz.results103 _ _ (n + 1) t.all _ rfl R1.out.range HD.out rfl (HS.out t)) rfl ⟨by rw [e8], G1.out.2⟩
end Go.Proofs.YteogbpaaacmllaaGreatDoor.Tab
namespace Go.Proofs.YteogbpaaacmllaaGreatDoor
set_option maxRecDepth 20000

/-- The thing at a place. -/
def gt (l : List Int) (i : Nat) : Int := l.getD i 0
/-- Two things that change places. -/
def swp (l : List Int) (i j : Nat) : List Int := (l.set i (gt l j)).set j (gt l i)
theorem swp_len (l : List Int) (i j : Nat) : (swp l i j).length = l.length := by simp [swp]
theorem gt_set (l : List Int) (i k : Nat) (x : Int) (hi : i < l.length) : gt (l.set i x) k = if k = i then x else gt l k := by
  unfold gt
  rw [List.getD_eq_getElem?_getD, List.getD_eq_getElem?_getD, List.getElem?_set]
  by_cases h : k = i
  · subst h; simp [hi]
  · simp [h, Ne.symm h]
theorem gt_swp (l : List Int) (i j k : Nat) (hi : i < l.length) (hj : j < l.length) : gt (swp l i j) k = if k = j then gt l i else if k = i then gt l j else gt l k := by
  unfold swp
  rw [gt_set _ _ _ _ (by simpa using hj), gt_set _ _ _ _ hi]
theorem swp_perm (l : List Int) (i j : Nat) (hi : i < l.length) (hj : j < l.length) : (swp l i j).Perm l := by
  have h := List.set_set_perm hi hj
  simpa [swp, gt, List.getD, hi, hj] using h

/-- What rises from place i: while it is less than the one above. -/
def riseF : Nat → List Int → Nat → List Int
  | 0, l, _ => l
  | n + 1, l, i => if 0 < i ∧ gt l i < gt l ((i - 1) / 2) then riseF n (swp l i ((i - 1) / 2)) ((i - 1) / 2) else l
/-- The place of the lesser one below place i. -/
def blw (l : List Int) (i : Nat) : Nat := if 2 * i + 2 < l.length ∧ gt l (2 * i + 2) < gt l (2 * i + 1) then 2 * i + 2 else 2 * i + 1
/-- What sinks from place i: while the lesser one below it is less. -/
def sinkF : Nat → List Int → Nat → List Int
  | 0, l, _ => l
  | n + 1, l, i => if blw l i < l.length ∧ gt l (blw l i) < gt l i then sinkF n (swp l i (blw l i)) (blw l i) else l

/-- A heap, but for how many. -/
def Hp (l : List Int) : Prop := ∀ i, 0 < i → i < l.length → gt l ((i - 1) / 2) ≤ gt l i
/-- A heap, but for what stands above place i. -/
structure Hu (l : List Int) (i : Nat) : Prop where
  lt : i < l.length
  a : ∀ k, 0 < k → k < l.length → k ≠ i → gt l ((k - 1) / 2) ≤ gt l k
  b : 0 < i → ∀ k, 0 < k → k < l.length → (k - 1) / 2 = i → gt l ((i - 1) / 2) ≤ gt l k
/-- A heap, but for what stands below place i. -/
structure Hd (l : List Int) (i : Nat) : Prop where
  lt : i < l.length
  a : ∀ k, 0 < k → k < l.length → (k - 1) / 2 ≠ i → gt l ((k - 1) / 2) ≤ gt l k
  b : 0 < i → ∀ k, 0 < k → k < l.length → (k - 1) / 2 = i → gt l ((i - 1) / 2) ≤ gt l k

theorem riseF_perm : ∀ (n : Nat) (l : List Int) (i : Nat), i < l.length → (riseF n l i).Perm l
  | 0, l, _, _ => .refl l
  | n + 1, l, i, hi => by
    unfold riseF
    split
    · exact (riseF_perm n _ _ (by rw [swp_len]; omega)).trans (swp_perm l _ _ hi (by omega))
    · exact .refl l
theorem riseF_heap : ∀ (n : Nat) (l : List Int) (i : Nat), i ≤ n → Hu l i → Hp (riseF n l i)
  | 0, l, i, hn, h => by
    intro k h0 hk
    exact h.a k h0 hk (by omega)
  | n + 1, l, i, hn, h => by
    have hi := h.lt
    unfold riseF
    split
    · rename_i hc
      obtain ⟨h0, hlt⟩ := hc
      have hp : (i - 1) / 2 < l.length := by omega
      refine riseF_heap n _ _ (by omega) ⟨by rw [swp_len]; exact hp, fun k k0 kl kn => ?_, fun p0 k k0 kl kp => ?_⟩
      · rw [swp_len] at kl
        rw [gt_swp l i _ _ hi hp, gt_swp l i _ _ hi hp, if_neg kn]
        by_cases e1 : k = i
        · subst e1
          rw [if_pos rfl, if_pos rfl]; omega
        · rw [if_neg e1]
          by_cases e2 : (k - 1) / 2 = (i - 1) / 2
          · rw [if_pos e2]
            have := h.a k k0 kl e1
            rw [e2] at this; omega
          · rw [if_neg e2]
            by_cases e3 : (k - 1) / 2 = i
            · rw [if_pos e3]; exact h.b h0 k k0 kl e3
            · rw [if_neg e3]; exact h.a k k0 kl e1
      · rw [swp_len] at kl
        have q := h.a ((i - 1) / 2) p0 hp (by omega)
        rw [gt_swp l i _ _ hi hp, gt_swp l i _ _ hi hp, if_neg (show k ≠ (i - 1) / 2 by omega), if_neg (show ((i - 1) / 2 - 1) / 2 ≠ (i - 1) / 2 by omega), if_neg (show ((i - 1) / 2 - 1) / 2 ≠ i by omega)]
        by_cases e1 : k = i
        · rw [if_pos e1]; exact q
        · rw [if_neg e1]
          have := h.a k k0 kl e1
          rw [kp] at this; omega
    · rename_i hc
      intro k h0 hk
      by_cases e : k = i
      · subst e; exact Int.not_lt.1 fun hh => hc ⟨h0, hh⟩
      · exact h.a k h0 hk e
theorem riseF_len (n : Nat) (l : List Int) (i : Nat) (h : i < l.length) : (riseF n l i).length = l.length := (riseF_perm n l i h).length_eq

theorem blw_gt (l : List Int) (i : Nat) : i < blw l i := by unfold blw; split <;> omega
theorem blw_par (l : List Int) (i : Nat) : (blw l i - 1) / 2 = i := by unfold blw; split <;> omega
theorem blw_least (l : List Int) (i k : Nat) (hk : k < l.length) (h0 : 0 < k) (hp : (k - 1) / 2 = i) : blw l i < l.length ∧ gt l (blw l i) ≤ gt l k := by
  have : k = 2 * i + 1 ∨ k = 2 * i + 2 := by omega
  unfold blw
  split
  · rename_i hc
    refine ⟨hc.1, ?_⟩
    rcases this with rfl | rfl <;> omega
  · rename_i hc
    refine ⟨by omega, ?_⟩
    rcases this with rfl | rfl
    · exact Int.le_refl _
    · exact Int.not_lt.1 fun hh => hc ⟨hk, hh⟩
theorem sinkF_perm : ∀ (n : Nat) (l : List Int) (i : Nat), i < l.length → (sinkF n l i).Perm l
  | 0, l, _, _ => .refl l
  | n + 1, l, i, hi => by
    unfold sinkF
    split
    · rename_i hc
      exact (sinkF_perm n _ _ (by rw [swp_len]; exact hc.1)).trans (swp_perm l _ _ hi hc.1)
    · exact .refl l
theorem sinkF_heap : ∀ (n : Nat) (l : List Int) (i : Nat), l.length ≤ n + i + 1 → Hd l i → Hp (sinkF n l i)
  | 0, l, i, hn, h => by
    intro k h0 hk
    have hk' : k < l.length := hk
    exact h.a k h0 hk' (by omega)
  | n + 1, l, i, hn, h => by
    have hi := h.lt
    have hg := blw_gt l i
    have hp := blw_par l i
    unfold sinkF
    split
    · rename_i hc
      obtain ⟨hl, hlt⟩ := hc
      have hb := blw_least l i
      generalize blw l i = c at *
      refine sinkF_heap n _ _ (by rw [swp_len]; omega) ⟨by rw [swp_len]; exact hl, fun k k0 kl kn => ?_, fun p0 k k0 kl kp => ?_⟩
      · rw [swp_len] at kl
        rw [gt_swp l i _ _ hi hl, gt_swp l i _ _ hi hl, if_neg kn]
        by_cases e1 : k = c
        · subst e1
          rw [if_pos rfl, if_pos hp]; omega
        · rw [if_neg e1]
          by_cases e2 : (k - 1) / 2 = i
          · rw [if_pos e2, if_neg (show k ≠ i by omega)]
            exact (hb k kl k0 e2).2
          · rw [if_neg e2]
            by_cases e3 : k = i
            · rw [if_pos e3]
              subst e3
              exact h.b k0 c (by omega) hl hp
            · rw [if_neg e3]; exact h.a k k0 kl e2
      · rw [swp_len] at kl
        rw [gt_swp l i _ _ hi hl, gt_swp l i _ _ hi hl, if_neg (show k ≠ c by omega), if_neg (show k ≠ i by omega), if_neg (show (c - 1) / 2 ≠ c by omega), if_pos hp]
        have := h.a k k0 kl (by omega)
        rw [kp] at this; exact this
    · rename_i hc
      intro k h0 hk
      by_cases e : (k - 1) / 2 = i
      · obtain ⟨q1, q2⟩ := blw_least l i k hk h0 e
        have : gt l i ≤ gt l (blw l i) := Int.not_lt.1 fun hh => hc ⟨q1, hh⟩
        rw [e]; omega
      · exact h.a k h0 hk e

theorem Hp.least {l : List Int} (h : Hp l) : ∀ (n i : Nat), i ≤ n → i < l.length → gt l 0 ≤ gt l i
  | 0, i, hn, _ => by rw [show i = 0 by omega]; exact Int.le_refl _
  | n + 1, i, hn, hi => by
    by_cases h0 : i = 0
    · rw [h0]; exact Int.le_refl _
    · have := h.least n ((i - 1) / 2) (by omega) (by omega)
      have := h i (by omega) hi
      omega
theorem gt_mem (l : List Int) (x : Int) (h : x ∈ l) : ∃ i, i < l.length ∧ gt l i = x := by
  obtain ⟨i, hi, e⟩ := List.mem_iff_getElem.1 h
  exact ⟨i, hi, by simp [gt, List.getD, hi, e]⟩
theorem Hp.head {x : Int} {r : List Int} (h : Hp (x :: r)) : ∀ y ∈ x :: r, x ≤ y := by
  intro y hy
  obtain ⟨i, hi, rfl⟩ := gt_mem _ _ hy
  exact h.least i i (Nat.le_refl _) hi

/-- One more. -/
def rise (l : List Int) : List Int := riseF l.length l (l.length - 1)
theorem rise_perm (l : List Int) : (rise l).Perm l := by
  unfold rise
  cases l with
  | nil => simp [riseF]
  | cons x r => exact riseF_perm _ _ _ (by simp)
theorem rise_heap (l : List Int) (x : Int) (h : Hp l) : Hp (rise (l ++ [x])) := by
  unfold rise
  refine riseF_heap _ _ _ (by simp) ⟨by simp, fun k k0 kl kn => ?_, fun p0 k k0 kl kp => ?_⟩
  · have hk : k < l.length := by simp at kl kn; omega
    have e : ∀ j, j < l.length → gt (l ++ [x]) j = gt l j := fun j hj => by simp [gt, List.getD, List.getElem?_append_left hj]
    rw [e _ hk, e _ (by omega)]
    exact h k k0 hk
  · simp at kl kp; omega
/-- One less, another one at the top. -/
def sink (l : List Int) : List Int := sinkF l.length l 0
theorem sink_perm (l : List Int) : (sink l).Perm l := by
  unfold sink
  cases l with
  | nil => simp [sinkF]
  | cons x r => exact sinkF_perm _ _ _ (by simp)
theorem sink_heap (x z : Int) (r : List Int) (h : Hp (x :: r)) : Hp (sink (z :: r)) := by
  unfold sink
  refine sinkF_heap _ _ _ (by omega) ⟨by simp, fun k k0 kl kn => ?_, fun p0 => by omega⟩
  have e : ∀ j, 0 < j → gt (z :: r) j = gt (x :: r) j := fun j hj => by
    obtain ⟨m, rfl⟩ : ∃ m, j = m + 1 := ⟨j - 1, by omega⟩
    simp [gt, List.getD]
  rw [e _ k0, e _ (by omega)]
  exact h k k0 (by simpa using kl)
theorem Hp.cut {l r : List Int} (h : Hp (l ++ r)) : Hp l := by
  intro i h0 hi
  have e : ∀ j, j < l.length → gt (l ++ r) j = gt l j := fun j hj => by simp [gt, List.getD, List.getElem?_append_left hj]
  have := h i h0 (by simp; omega)
  rwa [e _ hi, e _ (by omega)] at this

/-- In order. -/
def srt (l : List Int) : List Int := l.mergeSort fun x y => decide (x ≤ y)
theorem srt_perm (l : List Int) : (srt l).Perm l := List.mergeSort_perm l _
theorem srt_rises (l : List Int) : (srt l).Pairwise (· ≤ ·) := by
  have := List.pairwise_mergeSort (le := fun x y : Int => decide (x ≤ y)) (fun a b c => by simp; omega) (fun a b => by simp; omega) l
  unfold srt
  simpa using this
theorem srt_eq {l m : List Int} (h : l.Perm m) : srt l = srt m :=
  List.Perm.eq_of_pairwise (le := (· ≤ ·)) (fun _ _ _ _ h1 h2 => Int.le_antisymm h1 h2) (srt_rises l) (srt_rises m) ((srt_perm l).trans (h.trans (srt_perm m).symm))
theorem srt_len (l : List Int) : (srt l).length = l.length := (srt_perm l).length_eq
end Go.Proofs.YteogbpaaacmllaaGreatDoor
namespace Go.Proofs.YteogbpaaacmllaaGreatDoor
set_option maxRecDepth 20000
open Go.RowKit

/-- The list l lies in block b, from place off on, and may be written there. -/
structure Row (b off : Nat) (l : List Int) (w : World) : Prop where
  cell : ∀ j, j < l.length → w.cell? ⟨b, off + j, none⟩ = some (.int .i64 (gt l j))
  froz : ∀ j, j < l.length → w.frozen? ⟨b, off + j, none⟩ = false

theorem above_is (i : Nat) (h : 0 < i) (hi : i ≤ 1000000) (w : World) :
    Calls Tryz.prog 101 #[.int .i64 i] w fun e w' => e = .returned (.int .i64 (((i - 1) / 2 : Nat) : Int)) ∧ w' = w := by
  go_enter Tryz.func101, Tryz.ntmps101
  go_wp2
  go_ret
  have e : ((i : Int) - 1) / 2 = (((i - 1) / 2 : Nat) : Int) := by omega
  exact ⟨by show Ending.returned (.int .i64 (((i : Int) - 1) / 2)) = _; rw [e], rfl⟩

theorem gt_isL {B : Nat} {w : World} {v : Value} {xs : List Int} (h : IsL B w v xs) : (xs = [] ∧ ∃ a c, v = .slice a 0 c) ∨ ∃ b off c, v = .slice (some ⟨b, off, none⟩) xs.length c ∧ 0 < xs.length ∧ ∀ j, j < xs.length → w.cell? ⟨b, off + j, none⟩ = some (.int .i64 (gt xs j)) := by
  rcases h with h | ⟨b, off, c, h1, hB, h2, h3, h4, h5⟩
  · exact Or.inl h
  · exact Or.inr ⟨b, off, c, h1, h2, h4⟩

theorem hRight_long {B : Nat} {w : World} {v : Value} {xs : List Int} (h : IsL B w v xs) (hl : 6 < xs.length) :
    Calls Tryz.prog 84 #[v] w fun e w' => e = .returned (.bool false) ∧ Below w.heap.size w w' := by
  obtain ⟨a, c, rfl⟩ := h.form
  clear h
  have hl' : (6 : Int) < (xs.length : Int) := by omega
  go_enter Tryz.func84, Tryz.ntmps84
  go_wp2
  go_ret
  exact ⟨rfl, Below.refl _ _⟩

set_option maxHeartbeats 2000000 in
theorem hRight_yes {B : Nat} {w : World} {v : Value} {xs : List Int} (h : IsL B w v xs) (hl : xs.length ≤ 6) (hp : Hp xs) :
    Calls Tryz.prog 84 #[v] w fun e w' => e = .returned (.bool true) ∧ Below w.heap.size w w' := by
  rcases gt_isL h with ⟨rfl, a, c, rfl⟩ | ⟨b, off, c, rfl, h0, hc⟩
  · clear h hp
    go_enter Tryz.func84, Tryz.ntmps84
    go_wp2_with fail
    go_loopg [3] 0 (fun _ s3 wt => s3 = .int .i64 1 ∧ wt = w)
    case atStart => exact ⟨rfl, rfl⟩
    case round =>
      obtain ⟨rfl, rfl⟩ := hrel
      go_wp2
      go_ret
      exact ⟨rfl, Below.refl _ _⟩
  · have C : Hid (∀ j, j < xs.length → w.cell? ⟨b, off + j, none⟩ = some (.int .i64 (gt xs j))) := hc
    have P : Hid (Hp xs) := hp
    clear h hc hp
    have hli : (xs.length : Int) ≤ 6 := by omega
    go_enter Tryz.func84, Tryz.ntmps84
    go_wp2_with fail
    go_loopg [3] xs.length (fun gg s3 wt => ∃ i : Nat, 0 < i ∧ i ≤ xs.length ∧ xs.length - i ≤ gg ∧ s3 = .int .i64 i ∧ Hid (Below w.heap.size w wt))
    case atStart => exact ⟨1, by omega, by omega, by omega, rfl, Below.refl _ _⟩
    case round =>
      obtain ⟨i, hi0, hi, hgg, rfl, Q⟩ := hrel
      have C' : Hid (∀ j, j < xs.length → wr.cell? ⟨b, off + j, none⟩ = some (.int .i64 (gt xs j))) := fun j hj => by rw [Q.out.cell (p := ⟨b, off + j, none⟩) (World.block_lt_of_cell? _ _ (C.out j hj))]; exact C.out j hj
      by_cases hlt : i < xs.length
      · have g1 : wr.cell? ⟨b, off + i, none⟩ = some (.int .i64 (gt xs i)) := C'.out i hlt
        have g2 : wr.cell? ⟨b, off + (i - 1) / 2, none⟩ = some (.int .i64 (gt xs ((i - 1) / 2))) := C'.out _ (by omega)
        have hle := P.out i hi0 hlt
        generalize gt xs i = x at g1 hle
        generalize gt xs ((i - 1) / 2) = y at g2 hle
        have hi1 : (i : Int) < (xs.length : Int) := by omega
        have hi2 : (0 : Int) ≤ (i : Int) := by omega
        obtain ⟨p, hpp⟩ : ∃ p, p = (i - 1) / 2 := ⟨_, rfl⟩
        have hp1 : (p : Int) < (xs.length : Int) := by omega
        have hp2 : (0 : Int) ≤ (p : Int) := by omega
        have A : Hid (∀ W, Calls Tryz.prog 101 #[.int .i64 i] W fun e w' => e = .returned (.int .i64 (p : Int)) ∧ w' = W) := by rw [hpp]; exact above_is i hi0 (by omega)
        rw [← hpp] at g2
        clear hpp
        go_wp2_with fail
        go_quiet ((go_at_call 101; exact Calls.quiet_of_same (A.out _)))
        go_wp2
        go_roundg (xs.length - (i + 1))
        case measure => omega
        case rel => exact ⟨i + 1, by omega, by omega, by omega, by go_num, Q.out.trans ((below_drewN _ _).mono Q.out.size)⟩
      · obtain rfl : i = xs.length := by omega
        go_wp2
        go_ret
        exact ⟨rfl, Q.out⟩
set_option maxHeartbeats 2000000 in
theorem hRight_no {B : Nat} {w : World} {v : Value} {xs : List Int} (h : IsL B w v xs) (hl : xs.length ≤ 6) (hp : ¬ Hp xs) :
    Calls Tryz.prog 84 #[v] w fun e w' => e = .returned (.bool false) ∧ Below w.heap.size w w' := by
  rcases gt_isL h with ⟨rfl, a, c, rfl⟩ | ⟨b, off, c, rfl, h0, hc⟩
  · exact absurd (fun i _ hi => absurd hi (by simp)) hp
  · have C : Hid (∀ j, j < xs.length → w.cell? ⟨b, off + j, none⟩ = some (.int .i64 (gt xs j))) := hc
    have P : Hid (¬ Hp xs) := hp
    clear h hc hp
    have hli : (xs.length : Int) ≤ 6 := by omega
    go_enter Tryz.func84, Tryz.ntmps84
    go_wp2_with fail
    go_loopg [3] xs.length (fun gg s3 wt => ∃ i : Nat, 0 < i ∧ i ≤ xs.length ∧ xs.length - i ≤ gg ∧ s3 = .int .i64 i ∧ Hid (Below w.heap.size w wt) ∧ Hid (∀ k, 0 < k → k < i → gt xs ((k - 1) / 2) ≤ gt xs k))
    case atStart => exact ⟨1, by omega, by omega, by omega, rfl, Below.refl _ _, fun k h1 h2 => by omega⟩
    case round =>
      obtain ⟨i, hi0, hi, hgg, rfl, Q, T⟩ := hrel
      have C' : Hid (∀ j, j < xs.length → wr.cell? ⟨b, off + j, none⟩ = some (.int .i64 (gt xs j))) := fun j hj => by rw [Q.out.cell (p := ⟨b, off + j, none⟩) (World.block_lt_of_cell? _ _ (C.out j hj))]; exact C.out j hj
      by_cases hlt : i < xs.length
      · have g1 : wr.cell? ⟨b, off + i, none⟩ = some (.int .i64 (gt xs i)) := C'.out i hlt
        have g2 : wr.cell? ⟨b, off + (i - 1) / 2, none⟩ = some (.int .i64 (gt xs ((i - 1) / 2))) := C'.out _ (by omega)
        obtain ⟨x, hx⟩ : ∃ x, gt xs i = x := ⟨_, rfl⟩
        obtain ⟨y, hy⟩ : ∃ y, gt xs ((i - 1) / 2) = y := ⟨_, rfl⟩
        have X : Hid (gt xs i = x ∧ gt xs ((i - 1) / 2) = y) := ⟨hx, hy⟩
        rw [hx] at g1
        rw [hy] at g2
        clear hx hy
        have hi1 : (i : Int) < (xs.length : Int) := by omega
        have hi2 : (0 : Int) ≤ (i : Int) := by omega
        obtain ⟨p, hpp⟩ : ∃ p, p = (i - 1) / 2 := ⟨_, rfl⟩
        have hp1 : (p : Int) < (xs.length : Int) := by omega
        have hp2 : (0 : Int) ≤ (p : Int) := by omega
        have A : Hid (∀ W, Calls Tryz.prog 101 #[.int .i64 i] W fun e w' => e = .returned (.int .i64 (p : Int)) ∧ w' = W) := by rw [hpp]; exact above_is i hi0 (by omega)
        rw [← hpp] at g2
        clear hpp
        go_wp2_with fail
        by_cases hxy : x < y
        · go_quiet ((go_at_call 101; exact Calls.quiet_of_same (A.out _)))
          go_wp2
          go_ret
          exact ⟨rfl, Q.out.trans ((below_drewN _ _).mono Q.out.size)⟩
        · go_quiet ((go_at_call 101; exact Calls.quiet_of_same (A.out _)))
          go_wp2
          go_roundg (xs.length - (i + 1))
          case measure => omega
          case rel =>
            refine ⟨i + 1, by omega, by omega, by omega, by go_num, Q.out.trans ((below_drewN _ _).mono Q.out.size), fun k k0 k1 => ?_⟩
            by_cases e : k = i
            · subst e; rw [X.out.1, X.out.2]; omega
            · exact T.out k k0 (by omega)
      · exact absurd (fun k k0 k1 => T.out k k0 (by omega)) P.out

theorem hRight_isnt {B : Nat} {w : World} {v : Value} {xs : List Int} (h : IsL B w v xs) (hr : ¬ (xs.length ≤ 6 ∧ Hp xs)) :
    Calls Tryz.prog 84 #[v] w fun e w' => e = .returned (.bool false) ∧ Below w.heap.size w w' := by
  by_cases hl : xs.length ≤ 6
  · exact hRight_no h hl fun hp => hr ⟨hl, hp⟩
  · exact hRight_long h (by omega)
end Go.Proofs.YteogbpaaacmllaaGreatDoor
namespace Go.Proofs.YteogbpaaacmllaaGreatDoor.Tab
set_option maxRecDepth 20000
open Go.RowKit

theorem upC_all {c : Nat → Nat} {off n : Nat} {m : Int} (h : upC c off n m = true) {j : Nat} (h1 : off ≤ j) (h2 : j < off + n) : ((c j : Nat) : Int) ≤ m := by
  have := upC_iff.1 h (j - off) (by omega)
  rwa [show off + (j - off) = j by omega] at this
theorem isLb_w {c : Nat → Nat} (h : isLb c = true) : WList c := by
  unfold isLb at h
  simp only [Bool.and_eq_true, decide_eq_true_eq] at h
  refine ⟨h.1, fun i h1 h2 => ?_, fun i h1 h2 => ?_⟩
  · have := upC_all h.2.1 (j := i) (by omega) (by omega); omega
  · have := upC_all h.2.2 (j := i) (by omega) (by omega); omega
theorem isLb_of {c : Nat → Nat} (h : WList c) : isLb c = true := by
  unfold isLb
  simp only [Bool.and_eq_true, decide_eq_true_eq]
  refine ⟨h.len, upC_iff.2 fun j hj => ?_, upC_iff.2 fun j hj => ?_⟩
  · have := h.val (1 + j) (by omega) (by omega); omega
  · have := h.rest (1 + c 0 + j) (by omega) (by have := h.len; omega); omega
def WTab (c : Nat → Nat) : Prop := upC c 0 16 4294967295 = true ∧ upC c 16 1 0 = true ∧ RT (tbl c)
def isTb (c : Nat → Nat) : Bool := upC c 0 1 4294967295 && upC c 1 16 0
/-- What an object of a kind is, as words: 11.1. -/
def isOb (kind : Int) (c : Nat → Nat) : Prop :=
  ((kind = 1 ∨ kind = 2 ∨ kind = 3) ∧ isLb c = true) ∨ (kind = 4 ∧ isLb c = true ∧ Hp (lst c)) ∨ (kind = 5 ∧ WTab c) ∨ (kind = 6 ∧ isTb c = true)

set_option maxHeartbeats 1000000 in
theorem isTable_is (c : Nat → Nat) (v : Bool) (hv : v = true ↔ WTab c) (w : World) : Calls Tryz.prog 86 #[.agg (wl c).toArray] w fun e w' => e = .returned (.bool v) ∧ Below w.heap.size w w' := by
  obtain ⟨nb, eb, hd⟩ := cells_array
  have HC : Hid _ := hd
  clear hd
  have HCS : Hid _ := cells_size
  have G : Hid (Gd w.heap.size w (w.alloc (.cells (wl c).toArray 119))) := (Gd.refl w).new _
  have T : Hid (Bo (w.alloc (.cells (wl c).toArray 119)) w.heap.size (wl c)) := Bo.born w (wl c) _ rfl
  rcases h1 : upC c 0 16 4294967295 with _ | _
  · have e : v = false := by
      cases v
      · rfl
      · have := (hv.1 rfl).1; rw [h1] at this; exact absurd this (by decide)
    subst e
    clear hv
    go_enter Tryz.func86, Tryz.ntmps86
    go_wp2_with fail
    refine (upTo_is T.out (by decide) h1).mono ?_
    rintro e w1 ⟨rfl, rfl⟩
    go_wp2
    go_ret
    exact ⟨rfl, G.out.2⟩
  · rcases h2 : upC c 16 1 0 with _ | _
    · have e : v = false := by
        cases v
        · rfl
        · have := (hv.1 rfl).2.1; rw [h2] at this; exact absurd this (by decide)
      subst e
      clear hv
      go_enter Tryz.func86, Tryz.ntmps86
      go_wp2_with fail
      refine (upTo_is T.out (by decide) h1).mono ?_
      rintro e w1 ⟨rfl, rfl⟩
      go_wp2_with fail
      refine (upTo_is T.out (by decide) h2).mono ?_
      rintro e w1 ⟨rfl, rfl⟩
      go_wp2
      go_ret
      exact ⟨rfl, G.out.2⟩
    · have hb : Hid (v = true ↔ RT (tbl c)) := ⟨fun h => (hv.1 h).2.2, fun h => hv.2 ⟨h1, h2, h⟩⟩
      have hs : Hid (∀ j, j < 16 → c j ≤ 4294967295) := fun j hj => by have := upC_all h1 (j := j) (by omega) (by omega); omega
      have H1 : Hid _ := h1
      have H2 : Hid _ := h2
      clear hv h1 h2
      go_enter Tryz.func86, Tryz.ntmps86
      go_wp2_with fail
      refine (upTo_is T.out (by decide) H1.out).mono ?_
      rintro e w1 ⟨rfl, rfl⟩
      go_wp2_with fail
      refine (upTo_is T.out (by decide) H2.out).mono ?_
      rintro e w1 ⟨rfl, rfl⟩
      go_wp2_with (first | (refine wpList_load_wanted (by rfl) 119 _ rfl w.heap.size _ rfl (wl c) _ T.out.range HC.out rfl (HCS.out c) ?_))
      refine (slots_is c hs.out _).mono ?_
      rintro e w1 ⟨rfl, hc⟩
      have G1 : Hid (Gd w.heap.size w w1) := G.out.later hc
      clear hc G T
      go_wp2_with fail
      refine (Right_is (tbl c) v hb.out _).mono ?_
      rintro e w2 ⟨rfl, hc⟩
      have G2 : Hid (Gd w.heap.size w w2) := G1.out.later hc
      clear hc G1
      go_wp2
      go_ret
      exact ⟨rfl, G2.out.2⟩

set_option maxHeartbeats 1000000 in
theorem obRight_1 (c : Nat → Nat) (w : World) : Calls Tryz.prog 58 #[.int .i64 1, .agg (wl c).toArray] w fun e w' => e = .returned (.bool (isLb c)) ∧ Below w.heap.size w w' := by
  obtain ⟨nb, eb, hd⟩ := cells_array
  have HC : Hid _ := hd
  clear hd
  have HCS : Hid _ := cells_size
  have G : Hid (Gd w.heap.size w (w.alloc (.cells (wl c).toArray 119))) := (Gd.refl w).new _
  have T : Hid (Bo (w.alloc (.cells (wl c).toArray 119)) w.heap.size (wl c)) := Bo.born w (wl c) _ rfl
  go_enter Tryz.func58, Tryz.ntmps58
  go_wp2_with (first | (refine wpList_load_mid rfl 119 _ rfl w.heap.size _ rfl (wl c) _ T.out.range HC.out rfl (HCS.out c) ?_))
  refine (isList_is c _).mono ?_
  rintro e w1 ⟨rfl, hb⟩
  have G1 : Hid (Gd w.heap.size w w1) := G.out.later hb
  clear hb G T
  go_wp2
  go_ret
  exact ⟨rfl, G1.out.2⟩
set_option maxHeartbeats 1000000 in
theorem obRight_2 (c : Nat → Nat) (w : World) : Calls Tryz.prog 58 #[.int .i64 2, .agg (wl c).toArray] w fun e w' => e = .returned (.bool (isLb c)) ∧ Below w.heap.size w w' := by
  obtain ⟨nb, eb, hd⟩ := cells_array
  have HC : Hid _ := hd
  clear hd
  have HCS : Hid _ := cells_size
  have G : Hid (Gd w.heap.size w (w.alloc (.cells (wl c).toArray 119))) := (Gd.refl w).new _
  have T : Hid (Bo (w.alloc (.cells (wl c).toArray 119)) w.heap.size (wl c)) := Bo.born w (wl c) _ rfl
  go_enter Tryz.func58, Tryz.ntmps58
  go_wp2_with (first | (refine wpList_load_mid rfl 119 _ rfl w.heap.size _ rfl (wl c) _ T.out.range HC.out rfl (HCS.out c) ?_))
  refine (isList_is c _).mono ?_
  rintro e w1 ⟨rfl, hb⟩
  have G1 : Hid (Gd w.heap.size w w1) := G.out.later hb
  clear hb G T
  go_wp2
  go_ret
  exact ⟨rfl, G1.out.2⟩
set_option maxHeartbeats 1000000 in
theorem obRight_3 (c : Nat → Nat) (w : World) : Calls Tryz.prog 58 #[.int .i64 3, .agg (wl c).toArray] w fun e w' => e = .returned (.bool (isLb c)) ∧ Below w.heap.size w w' := by
  obtain ⟨nb, eb, hd⟩ := cells_array
  have HC : Hid _ := hd
  clear hd
  have HCS : Hid _ := cells_size
  have G : Hid (Gd w.heap.size w (w.alloc (.cells (wl c).toArray 119))) := (Gd.refl w).new _
  have T : Hid (Bo (w.alloc (.cells (wl c).toArray 119)) w.heap.size (wl c)) := Bo.born w (wl c) _ rfl
  go_enter Tryz.func58, Tryz.ntmps58
  go_wp2_with (first | (refine wpList_load_mid rfl 119 _ rfl w.heap.size _ rfl (wl c) _ T.out.range HC.out rfl (HCS.out c) ?_))
  refine (isList_is c _).mono ?_
  rintro e w1 ⟨rfl, hb⟩
  have G1 : Hid (Gd w.heap.size w w1) := G.out.later hb
  clear hb G T
  go_wp2
  go_ret
  exact ⟨rfl, G1.out.2⟩
set_option maxHeartbeats 1000000 in
theorem obRight_4 (c : Nat → Nat) (v : Bool) (hv : v = true ↔ isLb c = true ∧ Hp (lst c)) (w : World) : Calls Tryz.prog 58 #[.int .i64 4, .agg (wl c).toArray] w fun e w' => e = .returned (.bool v) ∧ Below w.heap.size w w' := by
  obtain ⟨nb, eb, hd⟩ := cells_array
  have HC : Hid _ := hd
  clear hd
  have HCS : Hid _ := cells_size
  have G : Hid (Gd w.heap.size w (w.alloc (.cells (wl c).toArray 119))) := (Gd.refl w).new _
  have T : Hid (Bo (w.alloc (.cells (wl c).toArray 119)) w.heap.size (wl c)) := Bo.born w (wl c) _ rfl
  have IL : Hid _ := isList_is c
  rcases hl : isLb c with _ | _
  · have e : v = false := by
      cases v
      · rfl
      · have := (hv.1 rfl).1; rw [hl] at this; exact absurd this (by decide)
    subst e
    rw [hl] at IL
    clear hv hl
    go_enter Tryz.func58, Tryz.ntmps58
    go_wp2_with (first | (refine wpList_load_mid rfl 119 _ rfl w.heap.size _ rfl (wl c) _ T.out.range HC.out rfl (HCS.out c) ?_))
    refine (IL.out _).mono ?_
    rintro e w1 ⟨rfl, hb⟩
    have G1 : Hid (Gd w.heap.size w w1) := G.out.later hb
    clear hb G T
    go_wp2
    go_ret
    exact ⟨rfl, G1.out.2⟩
  · have HW : Hid (WList c) := isLb_w hl
    have hr : Hid (∀ B W u, IsL B W u (lst c) → Calls Tryz.prog 84 #[u] W fun e w' => e = .returned (.bool v) ∧ Below W.heap.size W w') := fun B W u hi => by
      have h6 : (lst c).length ≤ 6 := by rw [lst_length]; exact HW.out.len
      cases v
      · exact hRight_isnt hi (fun h => by have := hv.2 ⟨hl, h.2⟩; exact absurd this (by decide))
      · exact hRight_yes hi h6 (hv.1 rfl).2
    rw [hl] at IL
    clear hv hl
    go_enter Tryz.func58, Tryz.ntmps58
    go_wp2_with (first | (refine wpList_load_mid rfl 119 _ rfl w.heap.size _ rfl (wl c) _ T.out.range HC.out rfl (HCS.out c) ?_))
    refine (IL.out _).mono ?_
    rintro e w1 ⟨rfl, hb⟩
    have G1 : Hid (Gd w.heap.size w w1) := G.out.later hb
    have T1 : Hid (Bo w1 w.heap.size (wl c)) := T.out.later hb
    clear hb G T
    go_wp2_with (first | (refine wpList_load_wanted (by rfl) 119 _ rfl w.heap.size _ rfl (wl c) _ T1.out.range HC.out rfl (HCS.out c) ?_))
    refine (list_is HW.out _).mono ?_
    rintro e w2 ⟨u, rfl, hi, hb⟩
    have G2 : Hid (Gd w.heap.size w w2) := G1.out.later hb
    have I : Hid _ := hi
    clear hb hi G1 T1
    go_wp2_with fail
    refine (hr.out _ _ _ I.out).mono ?_
    rintro e w3 ⟨rfl, hb⟩
    have G3 : Hid (Gd w.heap.size w w3) := G2.out.later hb
    clear hb
    go_wp2
    go_ret
    exact ⟨rfl, G3.out.2⟩
set_option maxHeartbeats 1000000 in
theorem obRight_5 (c : Nat → Nat) (v : Bool) (hv : v = true ↔ WTab c) (w : World) : Calls Tryz.prog 58 #[.int .i64 5, .agg (wl c).toArray] w fun e w' => e = .returned (.bool v) ∧ Below w.heap.size w w' := by
  obtain ⟨nb, eb, hd⟩ := cells_array
  have HC : Hid _ := hd
  clear hd
  have HCS : Hid _ := cells_size
  have G : Hid (Gd w.heap.size w (w.alloc (.cells (wl c).toArray 119))) := (Gd.refl w).new _
  have T : Hid (Bo (w.alloc (.cells (wl c).toArray 119)) w.heap.size (wl c)) := Bo.born w (wl c) _ rfl
  have HV : Hid _ := hv
  clear hv
  go_enter Tryz.func58, Tryz.ntmps58
  go_wp2_with (first | (refine wpList_load_mid rfl 119 _ rfl w.heap.size _ rfl (wl c) _ T.out.range HC.out rfl (HCS.out c) ?_))
  refine (isTable_is c v HV.out _).mono ?_
  rintro e w1 ⟨rfl, hb⟩
  have G1 : Hid (Gd w.heap.size w w1) := G.out.later hb
  clear hb G T
  go_wp2
  go_ret
  exact ⟨rfl, G1.out.2⟩
set_option maxHeartbeats 1000000 in
theorem obRight_6 (c : Nat → Nat) (w : World) : Calls Tryz.prog 58 #[.int .i64 6, .agg (wl c).toArray] w fun e w' => e = .returned (.bool (isTb c)) ∧ Below w.heap.size w w' := by
  obtain ⟨nb, eb, hd⟩ := cells_array
  have HC : Hid _ := hd
  clear hd
  have HCS : Hid _ := cells_size
  have G : Hid (Gd w.heap.size w (w.alloc (.cells (wl c).toArray 119))) := (Gd.refl w).new _
  have T : Hid (Bo (w.alloc (.cells (wl c).toArray 119)) w.heap.size (wl c)) := Bo.born w (wl c) _ rfl
  have IT : Hid (∀ w, Calls Tryz.prog 87 #[.agg (wl c).toArray] w fun e w' => e = .returned (.bool (isTb c)) ∧ Below w.heap.size w w') := isTally_is c
  go_enter Tryz.func58, Tryz.ntmps58
  go_wp2_with (first | (refine wpList_load_mid rfl 119 _ rfl w.heap.size _ rfl (wl c) _ T.out.range HC.out rfl (HCS.out c) ?_))
  refine (IT.out _).mono ?_
  rintro e w1 ⟨rfl, hb⟩
  have G1 : Hid (Gd w.heap.size w w1) := G.out.later hb
  clear hb G T
  go_wp2
  go_ret
  exact ⟨rfl, G1.out.2⟩
set_option maxHeartbeats 1000000 in
theorem obRight_none (c : Nat → Nat) {kind : Int} (h : ¬ (1 ≤ kind ∧ kind ≤ 6)) (w : World) : Calls Tryz.prog 58 #[.int .i64 kind, .agg (wl c).toArray] w fun e w' => e = .returned (.bool false) ∧ Below w.heap.size w w' := by
  have G : Hid (Gd w.heap.size w (w.alloc (.cells (wl c).toArray 119))) := (Gd.refl w).new _
  have m1 : (kind == 1) = false := by simp; omega
  have m2 : (kind == 2) = false := by simp; omega
  have m3 : (kind == 3) = false := by simp; omega
  have m4 : (kind == 4) = false := by simp; omega
  have m5 : (kind == 5) = false := by simp; omega
  have m6 : (kind == 6) = false := by simp; omega
  clear h
  go_enter Tryz.func58, Tryz.ntmps58
  go_wp2
  go_ret
  exact ⟨rfl, G.out.2⟩
theorem obRight_is {kind : Int} {c : Nat → Nat} {v : Bool} (hv : v = true ↔ isOb kind c) (w : World) : Calls Tryz.prog 58 #[.int .i64 kind, .agg (wl c).toArray] w fun e w' => e = .returned (.bool v) ∧ Below w.heap.size w w' := by
  unfold isOb at hv
  by_cases hk : 1 ≤ kind ∧ kind ≤ 6
  · have : kind = 1 ∨ kind = 2 ∨ kind = 3 ∨ kind = 4 ∨ kind = 5 ∨ kind = 6 := by omega
    rcases this with rfl | rfl | rfl | rfl | rfl | rfl
    · have e : isLb c = v := by cases v <;> cases h : isLb c <;> simp [h] at hv ⊢
      rw [← e]; exact obRight_1 c w
    · have e : isLb c = v := by cases v <;> cases h : isLb c <;> simp [h] at hv ⊢
      rw [← e]; exact obRight_2 c w
    · have e : isLb c = v := by cases v <;> cases h : isLb c <;> simp [h] at hv ⊢
      rw [← e]; exact obRight_3 c w
    · exact obRight_4 c v (by simpa using hv) w
    · exact obRight_5 c v (by simpa using hv) w
    · have e : isTb c = v := by cases v <;> cases h : isTb c <;> simp [h] at hv ⊢
      rw [← e]; exact obRight_6 c w
  · have e : v = false := by
      cases v
      · rfl
      · rcases hv.1 rfl with ⟨h | h | h, _⟩ | ⟨h, _⟩ | ⟨h, _⟩ | ⟨h, _⟩ <;> exact absurd ⟨by omega, by omega⟩ hk
    rw [e]; exact obRight_none c hk w
end Go.Proofs.YteogbpaaacmllaaGreatDoor.Tab
namespace Go.Proofs.YteogbpaaacmllaaGreatDoor
set_option maxRecDepth 20000
open Go.RowKit

/-- What an operation makes of a stack, and its answer: 6.1. -/
def sdo (xs : List Int) (what value : Int) : List Int × Int × Int :=
  if what = 2 ∧ xs ≠ [] then (xs.dropLast, 1, xs.getLastD 0) else if what = 5 ∧ xs ≠ [] then (xs, 1, xs.getLastD 0) else qdo xs what value
theorem sdo_take (r : List Int) (z x : Int) : sdo (r ++ [z]) 2 x = (r, 1, z) := by simp [sdo]
theorem sdo_peek (r : List Int) (z x : Int) : sdo (r ++ [z]) 5 x = (r ++ [z], 1, z) := by simp [sdo]
theorem sdo_nil (o x : Int) : sdo [] o x = qdo [] o x := by simp [sdo]
theorem sdo_other (xs : List Int) (o x : Int) (h2 : o ≠ 2) (h5 : o ≠ 5) : sdo xs o x = qdo xs o x := by simp [sdo, h2, h5]
theorem sdo_full {ys : List Int} (x : Int) (h : 6 ≤ ys.length) : sdo ys 1 x = (ys, 3, 0) := by simp [sdo, qdo, h]
theorem sdo_put {ys : List Int} (x : Int) (h : ys.length < 6) : sdo ys 1 x = (ys ++ [x], 1, 0) := by simp [sdo, qdo, show ¬ 6 ≤ ys.length by omega]
theorem sdo_count (ys : List Int) (x : Int) : sdo ys 6 x = (ys, 1, (ys.length : Int)) := by simp [sdo, qdo]
theorem sdo_looks (ys : List Int) : ∃ r c y, sdo ys 5 0 = (ys, c, y) ∧ sdo ys 2 0 = (r, c, y) := by
  rcases List.eq_nil_or_concat ys with rfl | ⟨r, z, rfl⟩
  · exact ⟨[], 2, 0, rfl, rfl⟩
  · exact ⟨r, 1, z, by rw [List.concat_eq_append]; exact sdo_peek r z 0, by rw [List.concat_eq_append]; exact sdo_take r z 0⟩

set_option maxHeartbeats 1000000 in
theorem sDo_else {B : Nat} {v : Value} {xs ys : List Int} {w : World} {o x c y : Int} (k : Int) (h : IsL B w v xs) (hx : xs.length ≤ 1000000) (ho : xs.length = 0 ∨ (o ≠ 2 ∧ o ≠ 5)) (hq : qdo xs o x = (ys, c, y)) :
    Calls Tryz.prog 109 #[v, .agg #[.int .i64 o, .int .i64 k, .int .i64 x]] w (Made w ys c y) := by
  have F0 : Hid (Fr w (two w o k x) o k x) := Fr.start w o k x
  obtain ⟨a, cp, rfl⟩ := h.form
  have X : Hid (IsL B (two w o k x) (.slice a xs.length cp) xs) := h.later F0.out.gr
  have Q : Hid (qdo xs o x = (ys, c, y)) := hq
  clear h hq
  rcases ho with h0 | ⟨n2, n5⟩
  · have H0 : Hid (xs.length ≤ 1000000) := hx
    rw [h0] at X ⊢
    clear h0 hx
    go_enter Tryz.func109, Tryz.ntmps109
    go_wp2_with fail
    refine (qDo_eq (w := two w o k x) k X.out H0.out Q.out).mono ?_
    rintro e w1 ⟨v1, rfl, hi, hb⟩
    rw [two_size] at hi hb
    have F1 : Hid (Fr w w1 o k x) := F0.out.later hb
    have I1 : Hid (IsL (w.heap.size + 2) w1 v1 ys) := hi
    clear hi hb F0 X Q
    have r0 := F1.out.r0
    have r1 := F1.out.r1
    have f0 := F1.out.f0
    have f1 := F1.out.f1
    go_wp2
    refine bodyPost_ret (v := .tuple #[v1, .agg #[.int .i64 c, .int .i64 y]]) ?_ rfl (F1.out.made c y I1.out)
    have E := F1.out.ends c y
    unfold wr at E
    simp [results, Tryz.results109, go_sem, E.1, E.2.1]
  · have m2 : (o != 2) = true := by simp [n2]
    have m5 : (o != 5) = true := by simp [n5]
    have hp : 0 ≤ (xs.length : Int) := by omega
    go_enter Tryz.func109, Tryz.ntmps109
    go_wp2_with fail
    all_goals
      refine (qDo_eq (w := two w o k x) k X.out hx Q.out).mono ?_
      rintro e w1 ⟨v1, rfl, hi, hb⟩
      rw [two_size] at hi hb
      have F1 : Hid (Fr w w1 o k x) := F0.out.later hb
      have I1 : Hid (IsL (w.heap.size + 2) w1 v1 ys) := hi
      clear hi hb F0 X Q
      have r0 := F1.out.r0
      have r1 := F1.out.r1
      have f0 := F1.out.f0
      have f1 := F1.out.f1
      go_wp2
      refine bodyPost_ret (v := .tuple #[v1, .agg #[.int .i64 c, .int .i64 y]]) ?_ rfl (F1.out.made c y I1.out)
      have E := F1.out.ends c y
      unfold wr at E
      simp [results, Tryz.results109, go_sem, E.1, E.2.1]

theorem Fr.made3 {w W : World} {o k x : Int} {v : Value} {ys : List Int} (h : Fr w W o k x) (c y : Int) (I : IsL (w.heap.size + 2) W v ys) : Made w ys c y (.returned (.tuple #[v, .agg #[.int .i64 c, .int .i64 y]])) (wr w W c y).drew :=
  ⟨v, rfl, (I.wr c y).later (Below.refl _ _).drew, (h.ends c y).2.2.drew⟩

set_option maxHeartbeats 1000000 in
theorem sDo_take {B : Nat} {v : Value} {r : List Int} {z : Int} {w : World} (k x : Int) (h : IsL B w v (r ++ [z])) (hx : (r ++ [z]).length ≤ 1000000) :
    Calls Tryz.prog 109 #[v, .agg #[.int .i64 2, .int .i64 k, .int .i64 x]] w (Made w r 1 z) := by
  have F0 : Hid (Fr w (two w 2 k x) 2 k x) := Fr.start w 2 k x
  have X : Hid (IsL B (two w 2 k x) v (r ++ [z])) := h.later F0.out.gr
  have HX : Hid ((r ++ [z]).length ≤ 1000000) := hx
  rcases h with ⟨h, _⟩ | ⟨b, off, c, rfl, hB, h0, hc, hcell, _⟩
  · simp at h
  have hz : w.cell? ⟨b, off + r.length, none⟩ = some (.int .i64 z) := by
    rw [hcell r.length (by simp)]
    simp [List.getD]
  have Z : Hid (w.cell? ⟨b, off + r.length, none⟩ = some (.int .i64 z)) := hz
  have hbl : b < w.heap.size := World.block_lt_of_cell? _ _ hz
  clear hz hcell
  have en : (r ++ [z]).length = r.length + 1 := by simp
  rw [en] at h0 hc hx X ⊢
  clear en
  obtain ⟨m, hm⟩ : ∃ m, m = r.length := ⟨_, rfl⟩
  have M : Hid (r.length = m) := hm.symm
  rw [← hm] at h0 hc hx X Z ⊢
  clear hm
  go_enter Tryz.func109, Tryz.ntmps109
  go_wp2_with fail
  refine (Clone_is (w := two w 2 k x) X.out HX.out).mono ?_
  rintro e w1 ⟨v1, rfl, hown, hb⟩
  rw [two_size] at hown hb
  have F1 : Hid (Fr w w1 2 k x) := F0.out.later hb
  obtain ⟨g, off1, c1, rfl, hc1, hcut⟩ := hown.isL.cut (by simp)
  have I0 : Hid (IsL (w.heap.size + 2) w1 (.slice (some ⟨g, off1, none⟩) (r.length + [z].length) c1) (r ++ [z])) := hown.isL
  have I1 : Hid (IsL (w.heap.size + 2) w1 (.slice (some ⟨g, off1, none⟩) r.length c1) r) := hcut
  have hz1 : w1.cell? ⟨b, off + m, none⟩ = some (.int .i64 z) := by
    have h1 : (two w 2 k x).cell? ⟨b, off + m, none⟩ = some (.int .i64 z) := by rw [F0.out.gr.cell (p := ⟨b, off + m, none⟩) hbl]; exact Z.out
    rw [hb.cell (p := ⟨b, off + m, none⟩) (show b < w.heap.size + 2 by omega)]
    exact h1
  have el : r.length + [z].length = m + 1 := by rw [M.out]; rfl
  rw [el] at hc1 I0 ⊢
  rw [M.out] at I1
  clear hown hcut hb F0 X Z el
  have hcm : (m : Int) ≤ (c1 : Int) := by omega
  have o0 := F1.out.o0
  have r0 := F1.out.r0
  have r1 := F1.out.r1
  have f0 := F1.out.f0
  have f1 := F1.out.f1
  go_wp2_with fail
  go_region
  all_goals go_wp2
  refine bodyPost_ret (v := .tuple #[.slice (some ⟨g, off1, none⟩) m c1, .agg #[.int .i64 1, .int .i64 z]]) ?_ rfl (F1.out.made3 1 z I1.out)
  have E := F1.out.ends 1 z
  unfold wr at E
  simp [results, Tryz.results109, go_sem, E.1, E.2.1]

set_option maxHeartbeats 1000000 in
theorem sDo_peek {B : Nat} {v : Value} {r : List Int} {z : Int} {w : World} (k x : Int) (h : IsL B w v (r ++ [z])) (hx : (r ++ [z]).length ≤ 1000000) :
    Calls Tryz.prog 109 #[v, .agg #[.int .i64 5, .int .i64 k, .int .i64 x]] w (Made w (r ++ [z]) 1 z) := by
  have F0 : Hid (Fr w (two w 5 k x) 5 k x) := Fr.start w 5 k x
  have X : Hid (IsL B (two w 5 k x) v (r ++ [z])) := h.later F0.out.gr
  have HX : Hid ((r ++ [z]).length ≤ 1000000) := hx
  rcases h with ⟨h, _⟩ | ⟨b, off, c, rfl, hB, h0, hc, hcell, _⟩
  · simp at h
  have hz : w.cell? ⟨b, off + r.length, none⟩ = some (.int .i64 z) := by
    rw [hcell r.length (by simp)]
    simp [List.getD]
  have Z : Hid (w.cell? ⟨b, off + r.length, none⟩ = some (.int .i64 z)) := hz
  have hbl : b < w.heap.size := World.block_lt_of_cell? _ _ hz
  clear hz hcell
  have en : (r ++ [z]).length = r.length + 1 := by simp
  rw [en] at h0 hc hx X ⊢
  clear en
  obtain ⟨m, hm⟩ : ∃ m, m = r.length := ⟨_, rfl⟩
  have M : Hid (r.length = m) := hm.symm
  rw [← hm] at h0 hc hx X Z ⊢
  clear hm
  go_enter Tryz.func109, Tryz.ntmps109
  go_wp2_with fail
  refine (Clone_is (w := two w 5 k x) X.out HX.out).mono ?_
  rintro e w1 ⟨v1, rfl, hown, hb⟩
  rw [two_size] at hown hb
  have F1 : Hid (Fr w w1 5 k x) := F0.out.later hb
  obtain ⟨g, off1, c1, rfl, hc1, hcut⟩ := hown.isL.cut (by simp)
  have I0 : Hid (IsL (w.heap.size + 2) w1 (.slice (some ⟨g, off1, none⟩) (r.length + [z].length) c1) (r ++ [z])) := hown.isL
  have I1 : Hid (IsL (w.heap.size + 2) w1 (.slice (some ⟨g, off1, none⟩) r.length c1) r) := hcut
  have hz1 : w1.cell? ⟨b, off + m, none⟩ = some (.int .i64 z) := by
    have h1 : (two w 5 k x).cell? ⟨b, off + m, none⟩ = some (.int .i64 z) := by rw [F0.out.gr.cell (p := ⟨b, off + m, none⟩) hbl]; exact Z.out
    rw [hb.cell (p := ⟨b, off + m, none⟩) (show b < w.heap.size + 2 by omega)]
    exact h1
  have el : r.length + [z].length = m + 1 := by rw [M.out]; rfl
  rw [el] at hc1 I0 ⊢
  rw [M.out] at I1
  clear hown hcut hb F0 X Z el
  have hcm : (m : Int) ≤ (c1 : Int) := by omega
  have o0 := F1.out.o0
  have r0 := F1.out.r0
  have r1 := F1.out.r1
  have f0 := F1.out.f0
  have f1 := F1.out.f1
  go_wp2_with fail
  go_region
  all_goals go_wp2
  refine bodyPost_ret (v := .tuple #[.slice (some ⟨g, off1, none⟩) (m + 1) c1, .agg #[.int .i64 1, .int .i64 z]]) ?_ rfl (F1.out.made3 1 z I0.out)
  have E := F1.out.ends 1 z
  unfold wr at E
  simp [results, Tryz.results109, go_sem, E.1, E.2.1]

theorem sDo_eq {B : Nat} {v : Value} {xs ys : List Int} {w : World} {o x c y : Int} (k : Int) (h : IsL B w v xs) (hx : xs.length ≤ 1000000) (hq : sdo xs o x = (ys, c, y)) :
    Calls Tryz.prog 109 #[v, .agg #[.int .i64 o, .int .i64 k, .int .i64 x]] w (Made w ys c y) := by
  rcases List.eq_nil_or_concat xs with rfl | ⟨r, z, rfl⟩
  · rw [sdo_nil] at hq
    exact sDo_else k h hx (Or.inl rfl) hq
  · rw [List.concat_eq_append] at h hx hq
    by_cases n2 : o = 2
    · subst n2
      rw [sdo_take] at hq
      simp only [Prod.mk.injEq] at hq
      obtain ⟨rfl, rfl, rfl⟩ := hq
      exact sDo_take k x h hx
    by_cases n5 : o = 5
    · subst n5
      rw [sdo_peek] at hq
      simp only [Prod.mk.injEq] at hq
      obtain ⟨rfl, rfl, rfl⟩ := hq
      exact sDo_peek k x h hx
    · rw [sdo_other _ _ _ n2 n5] at hq
      exact sDo_else k h hx (Or.inr ⟨n2, n5⟩) hq
end Go.Proofs.YteogbpaaacmllaaGreatDoor
namespace Go.Proofs.YteogbpaaacmllaaGreatDoor
set_option maxRecDepth 20000
open Go.RowKit

theorem infoI : (Tryz.prog.info? 3).map (fun i => (i.zero, i.size, i.bytes)) = some (some (.int .i64 0), 1, 8) := by kernel_rfl

theorem ints_one (xs : List Int) : ∀ u ∈ xs.map (Value.int .i64), u.oneCell' = true := by
  intro u hu
  obtain ⟨x, _, rfl⟩ := List.mem_map.1 hu
  rfl
theorem ints_at {w : World} {b off : Nat} {xs : List Int} (h : ∀ j, j < xs.length → w.cell? ⟨b, off + j, none⟩ = some (.int .i64 (xs.getD j 0))) :
    ∀ j u, (xs.map (Value.int .i64))[j]? = some u → w.cell? ((⟨b, off, none⟩ : Addr).add j) = some u := by
  intro j u hu
  have hj : j < xs.length := by simpa using (List.getElem?_eq_some_iff.1 hu).1
  rw [Addr.add_lit, h j hj, ← hu]
  simp [List.getD, hj]

set_option maxHeartbeats 1000000 in
theorem Grow_nil (n : Nat) (h0 : 0 < n) (hn : n ≤ 1000000) (w : World) :
    Calls Tryz.prog 136 #[.slice none 0 0, .int .i64 n] w fun e w' => ∃ v', e = .returned v' ∧ Own w.heap.size w' v' [] ∧ Below w.heap.size w w' := by
  obtain ⟨i0, hi, hz0, hz1, hz2⟩ := info_parts infoI
  have hr : Hid (∀ ty, (Builtin.append_ #[66, 3] ty #[.slice none 0 0, .int .i64 n]).run Tryz.prog w = .ok (.slice (some ⟨w.heap.size, 0, none⟩) n (grownCap w n 0 3)) (w.drew.alloc (.cells (Builtin.zeroCells (Value.int .i64 0).cells n ++ Builtin.zeroCells (Value.int .i64 0).cells (grownCap w n 0 3 - n)) 3))) :=
    fun ty => Lib.run_append_nil_zeros w 66 3 ty 3 i0 (.int .i64 0) .i64 .i64 Tryz.underlying66 Tryz.underlying3 hi hz0 n h0 (by omega) (by omega) (by rw [hz2]; omega)
  have hG : n ≤ grownCap w n 0 3 := grownCap_ge w _ _ _
  have hM : grownCap w n 0 3 ≤ maxLen := grownCap_le_maxLen w n 0 3 (by unfold maxLen; omega)
  obtain ⟨G, hGe⟩ : ∃ G, G = grownCap w n 0 3 := ⟨_, rfl⟩
  rw [← hGe] at hr hG hM
  clear hGe hi hz0 hz1 hz2
  have h1 : ¬ ((n : Int) < 0) := by omega
  have h2 : (n : Int) > 0 := by omega
  go_enter Tryz.func136, Tryz.ntmps136
  go_wp2_with (at_builtin; refine Lib.wpList_append_run _ rfl _ _ _ _ rfl _ _ rfl rfl _ _ (hr.out _) ?_)
  go_ret
  refine ⟨_, rfl, ?_, ((Below.refl _ w).drew).alloc (by simp) _⟩
  exact World.ownsRow_made (base := w.heap.size) w.drew _ G (by simp) hM (by simp [Builtin.zeroCells]; omega)

/-- append(a row of the call's own, l...). -/
theorem run_onto {B C : Nat} {w : World} {v u : Value} {xs ys : List Int} (ty : TypeId) (hB : B ≤ w.heap.size) (h : Own B w v xs) (k : IsL C w u ys) (hx : xs.length + ys.length ≤ 1000000) :
    ∃ v' w', (Builtin.append_ #[66, 66] ty #[v, u]).run Tryz.prog w = .ok v' w' ∧ Own B w' v' (xs ++ ys) ∧ Below B w w' := by
  obtain ⟨i0, hi, hz0, hz1, hz2⟩ := info_parts infoI
  have own : ∀ (a : Addr) (c : Nat), (∀ j x, (ys.map (Value.int .i64))[j]? = some x → w.cell? (a.add j) = some x) →
      ∃ v' w', (Builtin.append_ #[66, 66] ty #[v, .slice (some a) ys.length c]).run Tryz.prog w = .ok v' w' ∧ Own B w' v' (xs ++ ys) ∧ Below B w w' := by
    intro a c hc
    obtain ⟨v', w', hr, ho, hg, _⟩ := run_append_own (P := Tryz.prog) w B 66 ty 3 i0 (.int .i64 0) 1 8 Tryz.underlying66 hi hz0 hz1 hz2 rfl (by decide) v xs.length (xs.map (Value.int .i64)) h a ys.length c (ys.map (Value.int .i64)) (by simp) hc (ints_one ys) (by unfold maxLen; omega) (by omega) hB
    refine ⟨v', w', hr, ?_, (Below.refl _ w).grown hg hB (fun j hj => (World.ownsRow.lt h j hj).1)⟩
    simpa [Own] using ho
  rcases k with ⟨rfl, a, c, rfl⟩ | ⟨b, off, c, rfl, hC, h0, hc, hcell, _⟩
  · cases a with
    | none =>
      refine ⟨v, w, ?_, by rw [List.append_nil]; exact h, Below.refl _ _⟩
      have h' := h
      rcases h'.2 with ⟨rfl, _⟩ | ⟨g, cap, cur, rfl, hb, hg, hn, hm, hs, ht⟩
      · simp [Builtin.append_, run_underlying Tryz.underlying66, sizeOf, typeInfo, hi, Builtin.lenOf, Builtin.firstCells]
      · simp [Builtin.append_, run_underlying Tryz.underlying66, sizeOf, typeInfo, hi, Builtin.lenOf, Builtin.firstCells, hn, storeCells]
    | some a => exact own a c (by intro j u hu; simp at hu)
  · exact own ⟨b, off, none⟩ c (ints_at hcell)

theorem wpList_onto {P : Program} (hP : P = Tryz.prog) {ops : Array Oper} {rest : List Oper} {o : Oper} {a : Act} {w : World} {Q : Exit → Act → World → Prop} (hgd : o.guard = none) (s x : Operand)
    (ho : o.op = .call { callee := .builtin .append, args := #[s, x], argTypes := #[66, 66] }) {B C : Nat} {v u : Value} {xs ys : List Int} (hs : a.eval s = v) (hx : a.eval x = u) (hB : B ≤ w.heap.size) (h : Own B w v xs) (k : IsL C w u ys) (hn : xs.length + ys.length ≤ 1000000)
    (hk : ∀ v' w', Own B w' v' (xs ++ ys) → Below B w w' → wpList P ops Q rest (a.put o.dst v') w') : wpList P ops Q (o :: rest) a w := by
  subst hP
  refine wpList_plain hgd fun K hK => ?_
  obtain ⟨v', w', hr, h2, h3⟩ := run_onto o.type hB h k hn
  unfold Oper.wp execOp
  simp only [ho, resolve, invoke, builtin, Sem.run_bind, Sem.run_pure, Result.andThen_ok, List.map_toArray, List.map_cons, List.map_nil, hs, hx, hr]
  exact hK _ _ (hk v' w' h2 h3)

set_option maxHeartbeats 2000000 in
theorem Concat_two {B C A : Nat} {u v : Value} {xs ys : List Int} {w : World} (h0 : w.cell? ⟨A, 0, none⟩ = some u) (h1 : w.cell? ⟨A, 1, none⟩ = some v) (h : IsL B w u xs) (k : IsL C w v ys) (hp : 0 < xs.length) (hx : xs.length + ys.length ≤ 1000000) :
    Calls Tryz.prog 130 #[.slice (some ⟨A, 0, none⟩) 2 2] w fun e w' => ∃ v', e = .returned v' ∧ Own w.heap.size w' v' (xs ++ ys) ∧ Below w.heap.size w w' := by
  obtain ⟨au, cu, rfl⟩ := h.form
  obtain ⟨av, cv, rfl⟩ := k.form
  have H : Hid (IsL B w (.slice au xs.length cu) xs) := h
  have K : Hid (IsL C w (.slice av ys.length cv) ys) := k
  clear h k
  have hA : A < w.heap.size := World.block_lt_of_cell? _ _ h0
  obtain ⟨m, hm⟩ : ∃ m, m = xs.length := ⟨_, rfl⟩
  obtain ⟨n, hn⟩ : ∃ n, n = ys.length := ⟨_, rfl⟩
  have M : Hid (m = xs.length) := hm
  have N : Hid (n = ys.length) := hn
  rw [← hm] at h0 H hp hx
  rw [← hn] at h1 K hx
  clear hm hn
  have e0 : ¬ ((m : Int) < 0) := by omega
  have e1 : ¬ ((m : Int) + (n : Int) < 0) := by omega
  go_enter Tryz.func130, Tryz.ntmps130
  go_wp2_with fail
  go_loopg [3, 11] 2 (fun gg s3 s11 wt => w = wt ∧ ((s11 = .int .i64 0 ∧ s3 = .int .i64 0 ∧ 2 ≤ gg) ∨ (s11 = .int .i64 1 ∧ s3 = .int .i64 m ∧ 1 ≤ gg) ∨ (s11 = .int .i64 2 ∧ s3 = .int .i64 ((m : Int) + n))))
  case atStart => exact ⟨rfl, Or.inl ⟨rfl, rfl, Nat.le_refl _⟩⟩
  case round =>
    obtain ⟨rfl, ⟨rfl, rfl, hgg⟩ | ⟨rfl, rfl, hgg⟩ | ⟨rfl, rfl⟩⟩ := hrel
    · go_wp2
      go_roundg 1
      case measure => omega
      case rel => exact ⟨rfl, Or.inr (Or.inl ⟨rfl, rfl, Nat.le_refl _⟩)⟩
    · go_wp2
      go_roundg 0
      case measure => omega
      case rel => exact ⟨rfl, Or.inr (Or.inr ⟨rfl, rfl⟩)⟩
    · go_wp2_with fail
      have e2 : (m : Int) + (n : Int) = ((m + n : Nat) : Int) := by omega
      rw [e2]
      refine (Grow_nil (m + n) (by omega) hx _).mono ?_
      rintro e w1 ⟨v1, rfl, hown, hb⟩
      have S0 : Hid (Own w.heap.size w1 v1 [] ∧ Below w.heap.size w w1) := ⟨hown, hb⟩
      clear hown hb e0 e1 e2
      go_wp2_with fail
      go_loopg [6, 27] 2 (fun gg s6 s27 wt => ∃ zs, Own w.heap.size wt s6 zs ∧ Below w.heap.size w wt ∧ ((s27 = .int .i64 0 ∧ zs = [] ∧ 2 ≤ gg) ∨ (s27 = .int .i64 1 ∧ zs = xs ∧ 1 ≤ gg) ∨ (s27 = .int .i64 2 ∧ zs = xs ++ ys)))
      case atStart => exact ⟨[], S0.out.1, S0.out.2, Or.inl ⟨rfl, rfl, Nat.le_refl _⟩⟩
      case round =>
        obtain ⟨zs, hO, hG, ⟨rfl, hz, hgg⟩ | ⟨rfl, hz, hgg⟩ | ⟨rfl, hz⟩⟩ := hrel
        · have c0 : wr.cell? ⟨A, 0, none⟩ = some (.slice au m cu) := by rw [hG.cell (p := ⟨A, 0, none⟩) hA]; exact h0
          have H' : Hid (IsL B wr (.slice au m cu) xs) := H.out.later hG
          have O' : Hid (Own w.heap.size wr u6 []) := hz ▸ hO
          have G' : Hid (Below w.heap.size w wr) := hG
          have hl : Hid (([] : List Int).length + xs.length ≤ 1000000) := show ([] : List Int).length + xs.length ≤ 1000000 by rw [← M.out]; simp; omega
          clear hO hG hz S0
          go_wp2_with (at_builtin; refine wpList_onto rfl rfl (.tmp 31) (.tmp 32) rfl rfl rfl G'.out.size O'.out H'.out hl.out ?_; intro v3 w3 hO3 hb3; have Q3 : Hid (Own w.heap.size w3 v3 ([] ++ xs) ∧ Below w.heap.size w w3) := ⟨hO3, G'.out.trans hb3⟩; clear hO3 hb3)
          go_roundg 1
          case measure => omega
          case rel => exact ⟨xs, Q3.out.1, Q3.out.2, Or.inr (Or.inl ⟨rfl, rfl, Nat.le_refl _⟩)⟩
        · have c1 : wr.cell? ⟨A, 1, none⟩ = some (.slice av n cv) := by rw [hG.cell (p := ⟨A, 1, none⟩) hA]; exact h1
          have H' : Hid (IsL C wr (.slice av n cv) ys) := K.out.later hG
          have O' : Hid (Own w.heap.size wr u6 xs) := hz ▸ hO
          have G' : Hid (Below w.heap.size w wr) := hG
          have hl : Hid (xs.length + ys.length ≤ 1000000) := show xs.length + ys.length ≤ 1000000 by rw [← M.out, ← N.out]; exact hx
          clear hO hG hz S0
          go_wp2_with (at_builtin; refine wpList_onto rfl rfl (.tmp 31) (.tmp 32) rfl rfl rfl G'.out.size O'.out H'.out hl.out ?_; intro v3 w3 hO3 hb3; have Q3 : Hid (Own w.heap.size w3 v3 (xs ++ ys) ∧ Below w.heap.size w w3) := ⟨hO3, G'.out.trans hb3⟩; clear hO3 hb3)
          go_roundg 0
          case measure => omega
          case rel => exact ⟨xs ++ ys, Q3.out.1, Q3.out.2, Or.inr (Or.inr ⟨rfl, rfl⟩)⟩
        · have Q3 : Hid (Own w.heap.size wr u6 (xs ++ ys) ∧ Below w.heap.size w wr) := ⟨hz ▸ hO, hG⟩
          clear hO hG hz S0
          go_wp2
          go_ret
          exact ⟨_, rfl, Q3.out.1, Q3.out.2⟩
end Go.Proofs.YteogbpaaacmllaaGreatDoor
namespace Go.Proofs.YteogbpaaacmllaaGreatDoor
set_option maxRecDepth 20000
open Go.RowKit

/-- What an operation makes of a deque, and its answer: 7.1. -/
def ddo (xs : List Int) (what value : Int) : List Int × Int × Int :=
  if what = 3 then (if 6 ≤ xs.length then (xs, 3, 0) else (value :: xs, 1, 0)) else if what = 4 then sdo xs 2 0 else qdo xs what value

set_option maxHeartbeats 1000000 in
theorem front_full {B : Nat} {v : Value} {xs : List Int} {w : World} (x : Int) (h : IsL B w v xs) (hx : xs.length ≤ 1000000) (h6 : 6 ≤ xs.length) :
    Calls Tryz.prog 123 #[v, .int .i64 x] w (Made w xs 3 0) := by
  obtain ⟨a, c, rfl⟩ := h.form
  have h6i : (6 : Int) ≤ (xs.length : Int) := by omega
  have B0 : Hid (Bx w.heap.size 0 0 (w.alloc (.cells #[.int .i64 0, .int .i64 0] 58))) := Bx.born w 0 0 _
  have G0 : Hid (Gd w (w.alloc (.cells #[.int .i64 0, .int .i64 0] 58))) := (Gd.refl w).new _
  have X : Hid (IsL B (w.alloc (.cells #[.int .i64 0, .int .i64 0] 58)) (.slice a xs.length c) xs) := h.new _
  clear h
  go_enter Tryz.func123, Tryz.ntmps123
  go_wp2_with fail
  refine (Clone_is X.out hx).mono ?_
  rintro e w1 ⟨v1, rfl, hown, hb⟩
  have B1 : Hid (Bx w.heap.size 0 0 w1) := B0.out.later hb
  have G1 : Hid (Gd w w1) := G0.out.later hb
  have I1 : Hid (IsL (w.heap.size + 1) w1 v1 xs) := hown.isL.mono (by simp)
  clear hown hb B0 G0 X
  have c0 := B1.out.c0
  have c1 := B1.out.c1
  have f0 := B1.out.f0
  have f1 := B1.out.f1
  go_wp2
  obtain ⟨E, G⟩ := B1.out.put (c' := 3) (y' := 0) (Nat.le_refl _) G1.out
  refine bodyPost_ret (v := .tuple #[v1, .agg #[.int .i64 3, .int .i64 0]]) ?_ rfl ⟨v1, rfl, (((I1.out.setCell (by simp) _).setCell (by simp) _).mono (by omega)), G⟩
  have d0 := E.c0
  have d1 := E.c1
  simp [results, Tryz.results123, go_sem, d0, d1]

theorem pair_at (u : World) (p q : Value) (t : TypeId) {n : Nat} (h : n = u.heap.size) : (u.alloc (.cells #[p, q] t)).cell? ⟨n, 0, none⟩ = some p ∧ (u.alloc (.cells #[p, q] t)).cell? ⟨n, 1, none⟩ = some q := by
  subst h
  exact ⟨by simp, by simp⟩

set_option maxHeartbeats 1000000 in
theorem front_room {B : Nat} {v : Value} {xs : List Int} {w : World} (x : Int) (h : IsL B w v xs) (h6 : xs.length < 6) :
    Calls Tryz.prog 123 #[v, .int .i64 x] w (Made w (x :: xs) 1 0) := by
  obtain ⟨a, c, rfl⟩ := h.form
  have h6i : (xs.length : Int) < 6 := by omega
  obtain ⟨W, hW⟩ : ∃ W, W = ((w.alloc (.cells #[.int .i64 0, .int .i64 0] 58)).alloc (.cells #[.int .i64 x] 3)).alloc (.cells #[.slice (some ⟨w.heap.size + 1, 0, none⟩) 1 1, .slice a xs.length c] 66) := ⟨_, rfl⟩
  have B0 : Hid (Bx w.heap.size 0 0 W) := by rw [hW]; exact ((Bx.born w 0 0 _).new _).new _
  have G0 : Hid (Gd w W) := by rw [hW]; exact (((Gd.refl w).new _).new _).new _
  have X : Hid (IsL B W (.slice a xs.length c) xs) := by rw [hW]; exact ((h.new _).new _).new _
  have L : Hid (IsL 0 W (.slice (some ⟨w.heap.size + 1, 0, none⟩) 1 1) [x]) := by rw [hW]; exact (IsL.litAt (w.alloc (.cells #[.int .i64 0, .int .i64 0] 58)) [x] (by simp) (by simp)).new _
  have j0 : W.cell? ⟨w.heap.size + 2, 0, none⟩ = some (.slice (some ⟨w.heap.size + 1, 0, none⟩) 1 1) := by rw [hW]; exact (pair_at _ _ _ _ (by simp)).1
  have j1 : W.cell? ⟨w.heap.size + 2, 1, none⟩ = some (.slice a xs.length c) := by rw [hW]; exact (pair_at _ _ _ _ (by simp)).2
  have k0 : Hid (W.cell? ⟨w.heap.size + 2, 0, none⟩ = some (.slice (some ⟨w.heap.size + 1, 0, none⟩) 1 1)) := j0
  have k1 : Hid (W.cell? ⟨w.heap.size + 2, 1, none⟩ = some (.slice a xs.length c)) := j1
  have Z : Hid (w.heap.size + 1 ≤ W.heap.size) := show _ ≤ _ by rw [hW]; simp
  have hx : Hid ([x].length + xs.length ≤ 1000000) := show _ ≤ _ by simp; omega
  clear h h6 j0 j1
  go_enter Tryz.func123, Tryz.ntmps123
  go_wp2_with fail
  rw [← hW]
  clear hW
  refine (Concat_two k0.out k1.out L.out X.out (by simp) hx.out).mono ?_
  rintro e w1 ⟨v1, rfl, hown, hb⟩
  have B1 : Hid (Bx w.heap.size 0 0 w1) := B0.out.later hb
  have G1 : Hid (Gd w w1) := G0.out.later hb
  have I1 : Hid (IsL (w.heap.size + 1) w1 v1 (x :: xs)) := hown.isL.mono Z.out
  clear hown hb B0 G0 X L k0 k1 Z
  have c0 := B1.out.c0
  have c1 := B1.out.c1
  have f0 := B1.out.f0
  have f1 := B1.out.f1
  go_wp2
  obtain ⟨E, G⟩ := B1.out.put (c' := 1) (y' := 0) (Nat.le_refl _) G1.out
  refine bodyPost_ret (v := .tuple #[v1, .agg #[.int .i64 1, .int .i64 0]]) ?_ rfl ⟨v1, rfl, (((I1.out.setCell (by simp) _).setCell (by simp) _).mono (by omega)), G⟩
  have d0 := E.c0
  have d1 := E.c1
  simp [results, Tryz.results123, go_sem, d0, d1]

theorem front_is {B : Nat} {v : Value} {xs ys : List Int} {w : World} {x c y : Int} (h : IsL B w v xs) (hx : xs.length ≤ 1000000) (hd : ddo xs 3 x = (ys, c, y)) :
    Calls Tryz.prog 123 #[v, .int .i64 x] w (Made w ys c y) := by
  by_cases h6 : 6 ≤ xs.length
  · simp [ddo, h6] at hd
    obtain ⟨rfl, rfl, rfl⟩ := hd
    exact front_full x h hx h6
  · simp [ddo, h6] at hd
    obtain ⟨rfl, rfl, rfl⟩ := hd
    exact front_room x h (by omega)

set_option maxHeartbeats 1000000 in
theorem dDo_front {B : Nat} {v : Value} {xs ys : List Int} {w : World} {x c y : Int} (k : Int) (h : IsL B w v xs) (hx : xs.length ≤ 1000000) (hd : ddo xs 3 x = (ys, c, y)) :
    Calls Tryz.prog 110 #[v, .agg #[.int .i64 3, .int .i64 k, .int .i64 x]] w (Made w ys c y) := by
  have F0 : Hid (Fr w (two w 3 k x) 3 k x) := Fr.start w 3 k x
  have X : Hid (IsL B (two w 3 k x) v xs) := h.later F0.out.gr
  have Q : Hid (ddo xs 3 x = (ys, c, y)) := hd
  clear h hd
  go_enter Tryz.func110, Tryz.ntmps110
  go_wp2_with fail
  refine (front_is (w := two w 3 k x) X.out hx Q.out).mono ?_
  rintro e w1 ⟨v1, rfl, hi, hb⟩
  rw [two_size] at hi hb
  have F1 : Hid (Fr w w1 3 k x) := F0.out.later hb
  have I1 : Hid (IsL (w.heap.size + 2) w1 v1 ys) := hi
  clear hi hb F0 X Q
  have r0 := F1.out.r0
  have r1 := F1.out.r1
  have f0 := F1.out.f0
  have f1 := F1.out.f1
  go_wp2
  refine bodyPost_ret (v := .tuple #[v1, .agg #[.int .i64 c, .int .i64 y]]) ?_ rfl (F1.out.made c y I1.out)
  have E := F1.out.ends c y
  unfold wr at E
  simp [results, Tryz.results110, go_sem, E.1, E.2.1]

set_option maxHeartbeats 1000000 in
theorem dDo_back {B : Nat} {v : Value} {xs ys : List Int} {w : World} {c y : Int} (k x : Int) (h : IsL B w v xs) (hx : xs.length ≤ 1000000) (hd : sdo xs 2 0 = (ys, c, y)) :
    Calls Tryz.prog 110 #[v, .agg #[.int .i64 4, .int .i64 k, .int .i64 x]] w (Made w ys c y) := by
  have F0 : Hid (Fr w (two w 4 k x) 4 k x) := Fr.start w 4 k x
  have X : Hid (IsL B (two w 4 k x) v xs) := h.later F0.out.gr
  have Q : Hid (sdo xs 2 0 = (ys, c, y)) := hd
  clear h hd
  go_enter Tryz.func110, Tryz.ntmps110
  go_wp2_with fail
  refine (sDo_eq (w := two w 4 k x) 0 X.out hx Q.out).mono ?_
  rintro e w1 ⟨v1, rfl, hi, hb⟩
  rw [two_size] at hi hb
  have F1 : Hid (Fr w w1 4 k x) := F0.out.later hb
  have I1 : Hid (IsL (w.heap.size + 2) w1 v1 ys) := hi
  clear hi hb F0 X Q
  have r0 := F1.out.r0
  have r1 := F1.out.r1
  have f0 := F1.out.f0
  have f1 := F1.out.f1
  go_wp2
  refine bodyPost_ret (v := .tuple #[v1, .agg #[.int .i64 c, .int .i64 y]]) ?_ rfl (F1.out.made c y I1.out)
  have E := F1.out.ends c y
  unfold wr at E
  simp [results, Tryz.results110, go_sem, E.1, E.2.1]

set_option maxHeartbeats 1000000 in
theorem dDo_else {B : Nat} {v : Value} {xs ys : List Int} {w : World} {o x c y : Int} (k : Int) (h : IsL B w v xs) (hx : xs.length ≤ 1000000) (n3 : o ≠ 3) (n4 : o ≠ 4) (hd : qdo xs o x = (ys, c, y)) :
    Calls Tryz.prog 110 #[v, .agg #[.int .i64 o, .int .i64 k, .int .i64 x]] w (Made w ys c y) := by
  have F0 : Hid (Fr w (two w o k x) o k x) := Fr.start w o k x
  have X : Hid (IsL B (two w o k x) v xs) := h.later F0.out.gr
  have Q : Hid (qdo xs o x = (ys, c, y)) := hd
  clear h hd
  have m3 : (o == 3) = false := by simp [n3]
  have m4 : (o == 4) = false := by simp [n4]
  go_enter Tryz.func110, Tryz.ntmps110
  go_wp2_with fail
  refine (qDo_eq (w := two w o k x) k X.out hx Q.out).mono ?_
  rintro e w1 ⟨v1, rfl, hi, hb⟩
  rw [two_size] at hi hb
  have F1 : Hid (Fr w w1 o k x) := F0.out.later hb
  have I1 : Hid (IsL (w.heap.size + 2) w1 v1 ys) := hi
  clear hi hb F0 X Q
  have r0 := F1.out.r0
  have r1 := F1.out.r1
  have f0 := F1.out.f0
  have f1 := F1.out.f1
  go_wp2
  refine bodyPost_ret (v := .tuple #[v1, .agg #[.int .i64 c, .int .i64 y]]) ?_ rfl (F1.out.made c y I1.out)
  have E := F1.out.ends c y
  unfold wr at E
  simp [results, Tryz.results110, go_sem, E.1, E.2.1]

theorem dDo_eq {B : Nat} {v : Value} {xs ys : List Int} {w : World} {o x c y : Int} (k : Int) (h : IsL B w v xs) (hx : xs.length ≤ 1000000) (hd : ddo xs o x = (ys, c, y)) :
    Calls Tryz.prog 110 #[v, .agg #[.int .i64 o, .int .i64 k, .int .i64 x]] w (Made w ys c y) := by
  by_cases n3 : o = 3
  · subst n3
    exact dDo_front k h hx hd
  by_cases n4 : o = 4
  · subst n4
    exact dDo_back k x h hx (by simpa [ddo] using hd)
  · exact dDo_else k h hx n3 n4 (by simpa [ddo, n3, n4] using hd)
end Go.Proofs.YteogbpaaacmllaaGreatDoor
namespace Go.Proofs.YteogbpaaacmllaaGreatDoor
set_option maxRecDepth 20000
open Go.RowKit

theorem Row.set {b off : Nat} {l : List Int} {w : World} (h : Row b off l w) (j : Nat) (x : Int) (hj : j < l.length) : Row b off (l.set j x) (w.setCell ⟨b, off + j, none⟩ (.int .i64 x)) where
  cell k hk := by
    rw [List.length_set] at hk
    rw [gt_set l j k x hj]
    by_cases e : k = j
    · subst e
      rw [World.cell?_setCell_same _ _ _ (h.cell k hk), if_pos rfl]
    · rw [World.cell?_setCell_other, h.cell k hk, if_neg e]
      intro hh
      injection hh with _ h2
      omega
  froz k hk := by
    rw [List.length_set] at hk
    simpa using h.froz k hk
theorem Row.swap {b off : Nat} {l : List Int} {w : World} (h : Row b off l w) (i j : Nat) (x y : Int) (hi : i < l.length) (hj : j < l.length) (hx : gt l i = x) (hy : gt l j = y) : Row b off (swp l i j) ((w.setCell ⟨b, off + i, none⟩ (.int .i64 y)).setCell ⟨b, off + j, none⟩ (.int .i64 x)) := by
  subst hx hy
  exact (h.set i _ hi).set j _ (by simpa using hj)
theorem Row.drew {b off : Nat} {l : List Int} {w : World} (h : Row b off l w) : Row b off l w.drew := ⟨h.cell, h.froz⟩
theorem Row.drewN {b off : Nat} {l : List Int} {w : World} (h : Row b off l w) (q : Nat) : Row b off l (w.drewN q) := ⟨h.cell, h.froz⟩
theorem grown_set {w w' : World} {b : Nat} (h : w.grownBy w' (some b)) (o : Nat) (v : Value) : w.grownBy (w'.setCell ⟨b, o, none⟩ v) (some b) :=
  ⟨h.os, h.tape, h.output, by simpa [World.setCell] using h.size, fun k hk hne => (Below.heap_setCell _ _ _ k (fun e => hne (by rw [e]))).trans (h.block k hk hne)⟩
theorem grown_drew {w w' : World} {r : Option Nat} (h : w.grownBy w' r) : w.grownBy w'.drew r := ⟨h.os, h.tape, h.output, h.size, h.block⟩
theorem grown_drewN {w w' : World} {r : Option Nat} (h : w.grownBy w' r) (q : Nat) : w.grownBy (w'.drewN q) r := ⟨h.os, h.tape, h.output, h.size, h.block⟩

theorem riseF_stop {n : Nat} {l : List Int} {i : Nat} (h : ¬ (0 < i ∧ gt l i < gt l ((i - 1) / 2))) : riseF n l i = l := by
  cases n with
  | zero => rfl
  | succ n => unfold riseF; rw [if_neg h]
theorem riseF_go {n : Nat} {l : List Int} {i : Nat} (hn : 0 < n) (h : 0 < i) (h2 : gt l i < gt l ((i - 1) / 2)) : riseF n l i = riseF (n - 1) (swp l i ((i - 1) / 2)) ((i - 1) / 2) := by
  obtain ⟨m, rfl⟩ : ∃ m, n = m + 1 := ⟨n - 1, by omega⟩
  rw [riseF, if_pos ⟨h, h2⟩, Nat.add_sub_cancel]

set_option maxHeartbeats 2000000 in
theorem rise_is {b off c : Nat} {l : List Int} {w : World} (R : Row b off l w) (h0 : 0 < l.length) (hl : l.length ≤ 1000000) :
    Calls Tryz.prog 131 #[.slice (some ⟨b, off, none⟩) l.length c] w fun e w' => e = .returned (.tuple #[]) ∧ Row b off (rise l) w' ∧ w.grownBy w' (some b) := by
  have R0 : Hid (Row b off l w) := R
  clear R
  obtain ⟨n, hn⟩ : ∃ n, n = l.length := ⟨_, rfl⟩
  have N : Hid (n = l.length) := hn
  rw [← hn] at h0 hl ⊢
  clear hn
  have hn1 : (1 : Int) ≤ (n : Int) := by omega
  go_enter Tryz.func131, Tryz.ntmps131
  go_wp2_with fail
  go_loopg [2] n (fun gg s2 wt => ∃ (i : Nat) (l' : List Int), s2 = .int .i64 i ∧ i < n ∧ i ≤ gg ∧ Hid (l'.length = n) ∧ Hid (Row b off l' wt) ∧ Hid (w.grownBy wt (some b)) ∧ Hid (riseF gg l' i = rise l))
  case atStart =>
    refine ⟨n - 1, l, by go_num, by omega, by omega, N.out.symm, R0, ⟨rfl, rfl, rfl, Nat.le_refl _, fun _ _ _ => rfl⟩, ?_⟩
    show riseF n l (n - 1) = rise l
    unfold rise; rw [N.out]
  case round =>
    obtain ⟨i, l', rfl, hi, hgg, N', R', G, E⟩ := hrel
    clear R0
    by_cases hi0 : i = 0
    · subst hi0
      have hd : decide ((0 : Int) < ((0 : Nat) : Int)) = false := by decide
      go_wp2_with fail
      go_quiet (fail)
      go_wp2
      go_end0
      have e := E.out
      rw [riseF_stop (by omega)] at e
      rw [← e]
      exact ⟨rfl, R'.out.drewN _, grown_drewN G.out _⟩
    · have hp0 : 0 < i := by omega
      have hd : (0 : Int) < (i : Int) := by omega
      obtain ⟨p, hp⟩ : ∃ p, p = (i - 1) / 2 := ⟨_, rfl⟩
      obtain ⟨x, hx⟩ : ∃ x, gt l' i = x := ⟨_, rfl⟩
      obtain ⟨y, hy⟩ : ∃ y, gt l' p = y := ⟨_, rfl⟩
      have hpn : p < n := by omega
      have g1 : wr.cell? ⟨b, off + i, none⟩ = some (.int .i64 x) := by rw [← hx]; exact R'.out.cell i (by rw [N'.out]; exact hi)
      have g2 : wr.cell? ⟨b, off + p, none⟩ = some (.int .i64 y) := by rw [← hy]; exact R'.out.cell p (by rw [N'.out]; exact hpn)
      have f1 : wr.frozen? ⟨b, off + i, none⟩ = false := R'.out.froz i (by rw [N'.out]; exact hi)
      have f2 : wr.frozen? ⟨b, off + p, none⟩ = false := R'.out.froz p (by rw [N'.out]; exact hpn)
      have A : Hid (∀ W, Calls Tryz.prog 101 #[.int .i64 i] W fun e w' => e = .returned (.int .i64 (p : Int)) ∧ w' = W) := by rw [hp]; exact above_is i hp0 (by omega)
      have X : Hid (p = (i - 1) / 2 ∧ gt l' i = x ∧ gt l' p = y) := ⟨hp, hx, hy⟩
      have hpi : p < i := by omega
      clear hp hx hy
      have hi1 : (i : Int) < (n : Int) := by omega
      have hi2 : (0 : Int) ≤ (i : Int) := by omega
      have hp1 : (p : Int) < (n : Int) := by omega
      have hp2 : (0 : Int) ≤ (p : Int) := by omega
      by_cases hxy : x < y
      · go_wp2_with fail
        go_quiet ((go_at_call 101; exact Calls.quiet_of_same (A.out _)))
        go_wp2_with fail
        generalize hwq : wr.drewN _ = wq
        have q1 : wq.cell? ⟨b, off + i, none⟩ = some (.int .i64 x) := by rw [← hwq]; exact g1
        have q2 : wq.cell? ⟨b, off + p, none⟩ = some (.int .i64 y) := by rw [← hwq]; exact g2
        have k1 : wq.frozen? ⟨b, off + i, none⟩ = false := by rw [← hwq]; exact f1
        have k2 : wq.frozen? ⟨b, off + p, none⟩ = false := by rw [← hwq]; exact f2
        have R2 : Hid (Row b off l' wq) := by rw [← hwq]; exact R'.out.drewN _
        have G2 : Hid (w.grownBy wq (some b)) := by rw [← hwq]; exact grown_drewN G.out _
        clear hwq g1 g2 f1 f2 R' G
        go_region_with (go_at_call 101; refine (A.out _).mono ?_; rintro e w3 ⟨rfl, hw⟩; rw [hw]; clear hw)
        all_goals
          go_wp2_with fail
          refine (A.out _).mono ?_
          rintro e w3 ⟨rfl, hw⟩
          rw [hw]; clear hw
          go_wp2
          go_roundg (gk - 1)
          case measure => omega
          case rel =>
            have ei := X.out.1
            refine ⟨p, swp l' i p, rfl, hpn, by omega, (swp_len _ _ _).trans N'.out, (R2.out.swap i p x y (by rw [N'.out]; exact hi) (by rw [N'.out]; exact hpn) X.out.2.1 X.out.2.2).drew, grown_drew (grown_set (grown_set G2.out _ _) _ _), ?_⟩
            have e := riseF_go (n := gk) (l := l') (i := i) (by omega) hp0 (by rw [← ei, X.out.2.1, X.out.2.2]; exact hxy)
            rw [← ei] at e
            exact e.symm.trans E.out
      · have hd2 : decide (x < y) = false := by simpa using hxy
        go_wp2_with fail
        go_quiet ((go_at_call 101; exact Calls.quiet_of_same (A.out _)))
        go_wp2
        go_end0
        have e := E.out
        rw [riseF_stop (by rw [← X.out.1, X.out.2.1, X.out.2.2]; omega)] at e
        rw [← e]
        exact ⟨rfl, R'.out.drewN _, grown_drewN G.out _⟩
end Go.Proofs.YteogbpaaacmllaaGreatDoor
