/- The library's Grow of nothing, and its Concat of two lists, by their contracts. -/
import Derived.Test.YtbmgjpdfmgcigabDoorRows
import Derived.Test.YtbmgjpdfmgcigabDoorLs
import Derived.Lib.AppendZeros
import Derived.Deep.LoopGhost
import Derived.Maps.AppendAt
namespace Go.Proofs.YtbmgjpdfmgcigabDoor
set_option maxRecDepth 20000
open Go.RowKit

theorem infoI : (Tryd.prog.info? 3).map (fun i => (i.zero, i.size, i.bytes)) = some (some (.int .i64 0), 1, 8) := by kernel_rfl

theorem ints_one (xs : List Int) : ∀ u ∈ xs.map (Value.int .i64), u.oneCell' = true := by
  intro u hu
  obtain ⟨x, _, rfl⟩ := List.mem_map.1 hu
  rfl
theorem ints_at {w : World} {b off : Nat} {xs : List Int} (h : ∀ j, j < xs.length → w.cell? ⟨b, off + j, none⟩ = some (.int .i64 (xs.getD j 0))) :
    ∀ j u, (xs.map (Value.int .i64))[j]? = some u → w.cell? ((⟨b, off, none⟩ : Addr).add j) = some u := by
  intro j u hu
  have hj : j < xs.length := by simpa using (List.getElem?_eq_some_iff.1 hu).1
  rw [Addr.add_lit, h j hj, ← hu]
  simp [List.getD, hj]

set_option maxHeartbeats 1000000 in
theorem Grow_nil (n : Nat) (h0 : 0 < n) (hn : n ≤ 1000000) (w : World) :
    Calls Tryd.prog 76 #[.slice none 0 0, .int .i64 n] w fun e w' => ∃ v', e = .returned v' ∧ Own w.heap.size w' v' [] ∧ Below w.heap.size w w' := by
  obtain ⟨i0, hi, hz0, hz1, hz2⟩ := info_parts infoI
  have hr : Hid (∀ ty, (Builtin.append_ #[27, 3] ty #[.slice none 0 0, .int .i64 n]).run Tryd.prog w = .ok (.slice (some ⟨w.heap.size, 0, none⟩) n (grownCap w n 0 3)) (w.drew.alloc (.cells (Builtin.zeroCells (Value.int .i64 0).cells n ++ Builtin.zeroCells (Value.int .i64 0).cells (grownCap w n 0 3 - n)) 3))) :=
    fun ty => Lib.run_append_nil_zeros w 27 3 ty 3 i0 (.int .i64 0) .i64 .i64 Tryd.underlying27 Tryd.underlying3 hi hz0 n h0 (by omega) (by omega) (by rw [hz2]; omega)
  have hG : n ≤ grownCap w n 0 3 := grownCap_ge w _ _ _
  have hM : grownCap w n 0 3 ≤ maxLen := grownCap_le_maxLen w n 0 3 (by unfold maxLen; omega)
  obtain ⟨G, hGe⟩ : ∃ G, G = grownCap w n 0 3 := ⟨_, rfl⟩
  rw [← hGe] at hr hG hM
  clear hGe hi hz0 hz1 hz2
  have h1 : ¬ ((n : Int) < 0) := by omega
  have h2 : (n : Int) > 0 := by omega
  go_enter Tryd.func76, Tryd.ntmps76
  go_wp2_with (at_builtin; refine Lib.wpList_append_run _ rfl _ _ _ _ rfl _ _ rfl rfl _ _ (hr.out _) ?_)
  go_ret
  refine ⟨_, rfl, ?_, ((Below.refl _ w).drew).alloc (by simp) _⟩
  exact World.ownsRow_made (base := w.heap.size) w.drew _ G (by simp) hM (by simp [Builtin.zeroCells]; omega)

/-- append(a row of the call's own, l...). -/
theorem run_onto {B C : Nat} {w : World} {v u : Value} {xs ys : List Int} (ty : TypeId) (hB : B ≤ w.heap.size) (h : Own B w v xs) (k : IsL C w u ys) (hx : xs.length + ys.length ≤ 1000000) :
    ∃ v' w', (Builtin.append_ #[27, 27] ty #[v, u]).run Tryd.prog w = .ok v' w' ∧ Own B w' v' (xs ++ ys) ∧ Below B w w' := by
  obtain ⟨i0, hi, hz0, hz1, hz2⟩ := info_parts infoI
  have own : ∀ (a : Addr) (c : Nat), (∀ j x, (ys.map (Value.int .i64))[j]? = some x → w.cell? (a.add j) = some x) →
      ∃ v' w', (Builtin.append_ #[27, 27] ty #[v, .slice (some a) ys.length c]).run Tryd.prog w = .ok v' w' ∧ Own B w' v' (xs ++ ys) ∧ Below B w w' := by
    intro a c hc
    obtain ⟨v', w', hr, ho, hg, _⟩ := run_append_own (P := Tryd.prog) w B 27 ty 3 i0 (.int .i64 0) 1 8 Tryd.underlying27 hi hz0 hz1 hz2 rfl (by decide) v xs.length (xs.map (Value.int .i64)) h a ys.length c (ys.map (Value.int .i64)) (by simp) hc (ints_one ys) (by unfold maxLen; omega) (by omega) hB
    refine ⟨v', w', hr, ?_, (Below.refl _ w).grown hg hB (fun j hj => (World.ownsRow.lt h j hj).1)⟩
    simpa [Own] using ho
  rcases k with ⟨rfl, a, c, rfl⟩ | ⟨b, off, c, rfl, hC, h0, hc, hcell, _⟩
  · cases a with
    | none =>
      refine ⟨v, w, ?_, by rw [List.append_nil]; exact h, Below.refl _ _⟩
      have h' := h
      rcases h'.2 with ⟨rfl, _⟩ | ⟨g, cap, cur, rfl, hb, hg, hn, hm, hs, ht⟩
      · simp [Builtin.append_, run_underlying Tryd.underlying27, sizeOf, typeInfo, hi, Builtin.lenOf, Builtin.firstCells]
      · simp [Builtin.append_, run_underlying Tryd.underlying27, sizeOf, typeInfo, hi, Builtin.lenOf, Builtin.firstCells, hn, storeCells]
    | some a => exact own a c (by intro j u hu; simp at hu)
  · exact own ⟨b, off, none⟩ c (ints_at hcell)

theorem wpList_onto {P : Program} (hP : P = Tryd.prog) {ops : Array Oper} {rest : List Oper} {o : Oper} {a : Act} {w : World} {Q : Exit → Act → World → Prop} (hgd : o.guard = none) (s x : Operand)
    (ho : o.op = .call { callee := .builtin .append, args := #[s, x], argTypes := #[27, 27] }) {B C : Nat} {v u : Value} {xs ys : List Int} (hs : a.eval s = v) (hx : a.eval x = u) (hB : B ≤ w.heap.size) (h : Own B w v xs) (k : IsL C w u ys) (hn : xs.length + ys.length ≤ 1000000)
    (hk : ∀ v' w', Own B w' v' (xs ++ ys) → Below B w w' → wpList P ops Q rest (a.put o.dst v') w') : wpList P ops Q (o :: rest) a w := by
  subst hP
  refine wpList_plain hgd fun K hK => ?_
  obtain ⟨v', w', hr, h2, h3⟩ := run_onto o.type hB h k hn
  unfold Oper.wp execOp
  simp only [ho, resolve, invoke, builtin, Sem.run_bind, Sem.run_pure, Result.andThen_ok, List.map_toArray, List.map_cons, List.map_nil, hs, hx, hr]
  exact hK _ _ (hk v' w' h2 h3)

set_option maxHeartbeats 2000000 in
theorem Concat_two {B C A : Nat} {u v : Value} {xs ys : List Int} {w : World} (h0 : w.cell? ⟨A, 0, none⟩ = some u) (h1 : w.cell? ⟨A, 1, none⟩ = some v) (h : IsL B w u xs) (k : IsL C w v ys) (hp : 0 < xs.length) (hx : xs.length + ys.length ≤ 1000000) :
    Calls Tryd.prog 66 #[.slice (some ⟨A, 0, none⟩) 2 2] w fun e w' => ∃ v', e = .returned v' ∧ Own w.heap.size w' v' (xs ++ ys) ∧ Below w.heap.size w w' := by
  obtain ⟨au, cu, rfl⟩ := h.form
  obtain ⟨av, cv, rfl⟩ := k.form
  have H : Hid (IsL B w (.slice au xs.length cu) xs) := h
  have K : Hid (IsL C w (.slice av ys.length cv) ys) := k
  clear h k
  have hA : A < w.heap.size := World.block_lt_of_cell? _ _ h0
  obtain ⟨m, hm⟩ : ∃ m, m = xs.length := ⟨_, rfl⟩
  obtain ⟨n, hn⟩ : ∃ n, n = ys.length := ⟨_, rfl⟩
  have M : Hid (m = xs.length) := hm
  have N : Hid (n = ys.length) := hn
  rw [← hm] at h0 H hp hx
  rw [← hn] at h1 K hx
  clear hm hn
  have e0 : ¬ ((m : Int) < 0) := by omega
  have e1 : ¬ ((m : Int) + (n : Int) < 0) := by omega
  go_enter Tryd.func66, Tryd.ntmps66
  go_wp2_with fail
  go_loopg [3, 11] 2 (fun gg s3 s11 wt => w = wt ∧ ((s11 = .int .i64 0 ∧ s3 = .int .i64 0 ∧ 2 ≤ gg) ∨ (s11 = .int .i64 1 ∧ s3 = .int .i64 m ∧ 1 ≤ gg) ∨ (s11 = .int .i64 2 ∧ s3 = .int .i64 ((m : Int) + n))))
  case atStart => exact ⟨rfl, Or.inl ⟨rfl, rfl, Nat.le_refl _⟩⟩
  case round =>
    obtain ⟨rfl, ⟨rfl, rfl, hgg⟩ | ⟨rfl, rfl, hgg⟩ | ⟨rfl, rfl⟩⟩ := hrel
    · go_wp2
      go_roundg 1
      case measure => omega
      case rel => exact ⟨rfl, Or.inr (Or.inl ⟨rfl, rfl, Nat.le_refl _⟩)⟩
    · go_wp2
      go_roundg 0
      case measure => omega
      case rel => exact ⟨rfl, Or.inr (Or.inr ⟨rfl, rfl⟩)⟩
    · go_wp2_with fail
      have e2 : (m : Int) + (n : Int) = ((m + n : Nat) : Int) := by omega
      rw [e2]
      refine (Grow_nil (m + n) (by omega) hx _).mono ?_
      rintro e w1 ⟨v1, rfl, hown, hb⟩
      have S0 : Hid (Own w.heap.size w1 v1 [] ∧ Below w.heap.size w w1) := ⟨hown, hb⟩
      clear hown hb e0 e1 e2
      go_wp2_with fail
      go_loopg [6, 27] 2 (fun gg s6 s27 wt => ∃ zs, Own w.heap.size wt s6 zs ∧ Below w.heap.size w wt ∧ ((s27 = .int .i64 0 ∧ zs = [] ∧ 2 ≤ gg) ∨ (s27 = .int .i64 1 ∧ zs = xs ∧ 1 ≤ gg) ∨ (s27 = .int .i64 2 ∧ zs = xs ++ ys)))
      case atStart => exact ⟨[], S0.out.1, S0.out.2, Or.inl ⟨rfl, rfl, Nat.le_refl _⟩⟩
      case round =>
        obtain ⟨zs, hO, hG, ⟨rfl, hz, hgg⟩ | ⟨rfl, hz, hgg⟩ | ⟨rfl, hz⟩⟩ := hrel
        · have c0 : wr.cell? ⟨A, 0, none⟩ = some (.slice au m cu) := by rw [hG.cell (p := ⟨A, 0, none⟩) hA]; exact h0
          have H' : Hid (IsL B wr (.slice au m cu) xs) := H.out.later hG
          have O' : Hid (Own w.heap.size wr u6 []) := hz ▸ hO
          have G' : Hid (Below w.heap.size w wr) := hG
          have hl : Hid (([] : List Int).length + xs.length ≤ 1000000) := show ([] : List Int).length + xs.length ≤ 1000000 by rw [← M.out]; simp; omega
          clear hO hG hz S0
          go_wp2_with (at_builtin; refine wpList_onto rfl rfl (.tmp 31) (.tmp 32) rfl rfl rfl G'.out.size O'.out H'.out hl.out ?_; intro v3 w3 hO3 hb3; have Q3 : Hid (Own w.heap.size w3 v3 ([] ++ xs) ∧ Below w.heap.size w w3) := ⟨hO3, G'.out.trans hb3⟩; clear hO3 hb3)
          go_roundg 1
          case measure => omega
          case rel => exact ⟨xs, Q3.out.1, Q3.out.2, Or.inr (Or.inl ⟨rfl, rfl, Nat.le_refl _⟩)⟩
        · have c1 : wr.cell? ⟨A, 1, none⟩ = some (.slice av n cv) := by rw [hG.cell (p := ⟨A, 1, none⟩) hA]; exact h1
          have H' : Hid (IsL C wr (.slice av n cv) ys) := K.out.later hG
          have O' : Hid (Own w.heap.size wr u6 xs) := hz ▸ hO
          have G' : Hid (Below w.heap.size w wr) := hG
          have hl : Hid (xs.length + ys.length ≤ 1000000) := show xs.length + ys.length ≤ 1000000 by rw [← M.out, ← N.out]; exact hx
          clear hO hG hz S0
          go_wp2_with (at_builtin; refine wpList_onto rfl rfl (.tmp 31) (.tmp 32) rfl rfl rfl G'.out.size O'.out H'.out hl.out ?_; intro v3 w3 hO3 hb3; have Q3 : Hid (Own w.heap.size w3 v3 (xs ++ ys) ∧ Below w.heap.size w w3) := ⟨hO3, G'.out.trans hb3⟩; clear hO3 hb3)
          go_roundg 0
          case measure => omega
          case rel => exact ⟨xs ++ ys, Q3.out.1, Q3.out.2, Or.inr (Or.inr ⟨rfl, rfl⟩)⟩
        · have Q3 : Hid (Own w.heap.size wr u6 (xs ++ ys) ∧ Below w.heap.size w wr) := ⟨hz ▸ hO, hG⟩
          clear hO hG hz S0
          go_wp2
          go_ret
          exact ⟨_, rfl, Q3.out.1, Q3.out.2⟩
end Go.Proofs.YtbmgjpdfmgcigabDoor
