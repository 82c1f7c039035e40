/- The reference's append of lists, said and within. -/
import Derived.Test.YtbmgjpdfmgcigabDoorKf
import Derived.Test.YtbmgjpdfmgcigabDoorOf
import Derived.Test.YtbmgjpdfmgcigabDoorCc
import Derived.Deep.RegionLawGrows
import Derived.Deep.AppendSrc
namespace Go.Proofs.YtbmgjpdfmgcigabDoor
set_option maxRecDepth 20000
open Go.RowKit

theorem said_is (c y : Int) (w : World) :
    Calls Tryd.prog 43 #[.int .i64 c, .int .i64 y] w fun e w' => e = .returned (.agg #[.int .i64 c, .int .i64 y]) ∧ Below w.heap.size w w' := by
  go_enter Tryd.func43, Tryd.ntmps43
  go_wp2
  exact bodyPost_ret (v := .agg #[.int .i64 c, .int .i64 y]) (by simp [results, Tryd.results43, go_sem]) rfl ⟨rfl, new_below _ _⟩

theorem within_is (n lo hi : Int) (w : World) :
    Calls Tryd.prog 13 #[.int .i64 n, .int .i64 lo, .int .i64 hi] w fun e w' => e = .returned (.bool (decide (lo ≤ n ∧ n ≤ hi))) ∧ w' = w := by
  by_cases h1 : lo ≤ n
  · by_cases h2 : n ≤ hi
    · go_enter Tryd.func13, Tryd.ntmps13
      go_wp2
      go_ret
      exact ⟨by simp [h1, h2], rfl⟩
    · go_enter Tryd.func13, Tryd.ntmps13
      go_wp2
      go_ret
      exact ⟨by simp [h2], rfl⟩
  · go_enter Tryd.func13, Tryd.ntmps13
    go_wp2
    go_ret
    exact ⟨by simp; omega, rfl⟩

/-- append(nil, l...): a copy. -/
theorem run_copy {B : Nat} {w : World} {v : Value} {xs : List Int} (ty : TypeId) (h : IsL B w v xs) (hx : xs.length ≤ 1000000) :
    ∃ v' w', (Builtin.append_ #[27, 27] ty #[.slice none 0 0, v]).run Tryd.prog w = .ok v' w' ∧ Own w.heap.size w' v' xs ∧ Below w.heap.size w w' := by
  obtain ⟨i0, hi, hz0, hz1, hz2⟩ := info_parts info_int
  have own : ∀ (a : Addr) (c : Nat), (∀ j u, (xs.map (Value.int .i64))[j]? = some u → w.cell? (a.add j) = some u) →
      ∃ v' w', (Builtin.append_ #[27, 27] ty #[.slice none 0 0, .slice (some a) xs.length c]).run Tryd.prog w = .ok v' w' ∧ Own w.heap.size w' v' xs ∧ Below w.heap.size w w' := by
    intro a c hc
    obtain ⟨v', w', hr, ho, hg, _⟩ := run_append_own (P := Tryd.prog) w w.heap.size 27 ty 3 i0 (.int .i64 0) 1 8 Tryd.underlying27 hi hz0 hz1 hz2 rfl (by decide) (.slice none 0 0) 0 [] (World.ownsRow_nil w _ _ 1) a xs.length c (xs.map (Value.int .i64)) (by simp) hc (ints_one xs) (by unfold maxLen; omega) (by omega) (Nat.le_refl _)
    refine ⟨v', w', hr, ?_, (Below.refl _ w).grown hg (Nat.le_refl _) (by intro k hk; simp [Value.ownBlock] at hk)⟩
    simpa [Own] using ho
  rcases h with ⟨rfl, a, c, rfl⟩ | ⟨b, off, c, rfl, hB, h0, hc, hcell, _⟩
  · cases a with
    | none =>
      refine ⟨.slice none 0 0, w, ?_, World.ownsRow_nil w _ _ 1, Below.refl _ _⟩
      simp [Builtin.append_, run_underlying Tryd.underlying27, sizeOf, typeInfo, hi, Builtin.lenOf, Builtin.firstCells]
    | some a => exact own a c (by intro j u hu; simp at hu)
  · exact own ⟨b, off, none⟩ c (ints_at hcell)

theorem wpList_copy {P : Program} (hP : P = Tryd.prog) {ops : Array Oper} {rest : List Oper} {o : Oper} {a : Act} {w : World} {Q : Exit → Act → World → Prop} (hgd : o.guard = none) (s x : Operand)
    (ho : o.op = .call { callee := .builtin .append, args := #[s, x], argTypes := #[27, 27] }) (hs : a.eval s = .slice none 0 0) {B : Nat} {v : Value} {xs : List Int} (hx : a.eval x = v) (h : IsL B w v xs) (hn : xs.length ≤ 1000000)
    (k : ∀ v' w', Own w.heap.size w' v' xs → Below w.heap.size w w' → wpList P ops Q rest (a.put o.dst v') w') : wpList P ops Q (o :: rest) a w := by
  subst hP
  refine wpList_plain hgd fun K hK => ?_
  obtain ⟨v', w', hr, h2, h3⟩ := run_copy o.type h hn
  unfold Oper.wp execOp
  simp only [ho, resolve, invoke, builtin, Sem.run_bind, Sem.run_pure, Result.andThen_ok, List.map_toArray, List.map_cons, List.map_nil, hs, hx, hr]
  exact hK _ _ (k v' w' h2 h3)

/-- append(x[:n:n], y...): both, one behind the other. -/
theorem run_join {B : Nat} {w : World} {g off : Nat} {xs ys : List Int} (ty : TypeId) (hB : B ≤ w.heap.size) (h : IsL B w (.slice (some ⟨g, off, none⟩) xs.length xs.length) xs) (ad : Addr) (c : Nat)
    (hy : ∀ j u, (ys.map (Value.int .i64))[j]? = some u → w.cell? (ad.add j) = some u) (hx : xs.length + ys.length ≤ 1000000) :
    ∃ v' w', (Builtin.append_ #[27, 27] ty #[.slice (some ⟨g, off, none⟩) xs.length xs.length, .slice (some ad) ys.length c]).run Tryd.prog w = .ok v' w' ∧ IsL B w' v' (xs ++ ys) ∧ Below w.heap.size w w' := by
  obtain ⟨i0, hi, hz0, hz1, hz2⟩ := info_parts info_int
  by_cases hm : ys.length = 0
  · have : ys = [] := List.eq_nil_of_length_eq_zero hm
    subst this
    have hr := run_append_room_cells (P := Tryd.prog) w 27 ty 3 i0 Tryd.underlying27 hi g off xs.length xs.length ad 0 c [] (by simp) (by simp) (by simp) (by omega) (by simp) (by simp)
    refine ⟨_, _, hr, ?_, ?_⟩
    · rw [List.append_nil]; exact h
    · exact Below.refl _ _
  · have hc : ∀ j u, (xs.map (Value.int .i64))[j]? = some u → w.cell? ((⟨g, off, none⟩ : Addr).add j) = some u := ints_at (fun j hj => h.at hj)
    obtain ⟨v', w', hr, ho, hg⟩ := run_append_arg_grows (P := Tryd.prog) w 27 ty 3 i0 (.int .i64 0) 1 8 Tryd.underlying27 hi hz0 hz1 hz2 rfl (by decide) ⟨g, off, none⟩ xs.length xs.length (xs.map (Value.int .i64)) (by simp) hc ad ys.length c (ys.map (Value.int .i64)) (by simp) hy (by omega) (by unfold maxLen; omega) (by omega)
    refine ⟨v', w', hr, ?_, (Below.refl _ w).grown hg (Nat.le_refl _) (by intro k hk; cases hk)⟩
    have o1 : Own w.heap.size w' v' (xs ++ ys) := by unfold Own; rw [List.map_append, List.length_append]; exact ho
    exact o1.isL.mono hB

theorem step_join {ops : Array Oper} {o : Oper} {a : Act} {w : World} {K : Act → World → Prop} {Q : Exit → Act → World → Prop} {E : Prop}
    (hg : o.guard = none) (s x : Operand) (hop : o.op = Op.call { callee := Callee.builtin Builtin.append, args := #[s, x], argTypes := #[27, 27] })
    {B g off n m c : Nat} {ad : Addr} {xs ys : List Int} (hs : a.eval s = .slice (some ⟨g, off, none⟩) n n) (hx : a.eval x = .slice (some ad) m c) (hn : n = xs.length) (hm : m = ys.length)
    (hB : B ≤ w.heap.size) (h : IsL B w (.slice (some ⟨g, off, none⟩) xs.length xs.length) xs) (hy : ∀ j u, (ys.map (Value.int .i64))[j]? = some u → w.cell? (ad.add j) = some u) (hl : xs.length + ys.length ≤ 1000000)
    (hK : ∀ v' w', IsL B w' v' (xs ++ ys) → Below w.heap.size w w' → K (a.put o.dst v') w') :
    if Region.wanted o (yielded ops a.tmps) = true then Oper.wp Tryd.prog o a w K Q else E := by
  have hw : Region.wanted o (yielded ops a.tmps) = true := by simp [Region.wanted, hg]
  rw [if_pos hw]
  subst hn hm
  obtain ⟨v', w', hr, h1, h2⟩ := run_join o.type hB h ad c hy hl
  unfold Oper.wp
  simp [execOp, hop, resolve, invoke, builtin, hs, hx, hr, Result.andThen]
  exact hK v' w' h1 h2
end Go.Proofs.YtbmgjpdfmgcigabDoor
