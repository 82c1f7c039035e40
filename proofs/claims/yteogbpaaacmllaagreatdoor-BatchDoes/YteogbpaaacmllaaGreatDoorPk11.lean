/- Texts laid together: The reference's map of the deeds that were seen, and steps of one cell; The reference's Fits, AnswerWord and AnswerOf, by their contracts; The reference's digits and number, by their contracts; The reference's Bit and Flip, by their contracts; The reference's Flip, by their contract; Cells from the first on; words of others; The reference Words, by its contract; The reference RecOf, by its contract; The reference Rec.Done, by its contract, with what its list is; The reference's OpRight, by its contracts. -/
import Derived.Test.YteogbpaaacmllaaGreatDoorPk03
import Derived.Test.YteogbpaaacmllaaGreatDoorPk07
import Derived.Maps.Own
import Derived.Maps.OwnSet
import Derived.Maps.Views
import Derived.Test.YteogbpaaacmllaaGreatDoorPk04
import Derived.Test.YteogbpaaacmllaaGreatDoorPk00
import Derived.Test.YteogbpaaacmllaaGreatDoorRows
import Derived.WalkKit
import Derived.Deep.DeepCutAuto
import Derived.Deep.RegionHeld3
import Derived.Test.YteogbpaaacmllaaGreatDoorPk01
import Derived.Laws.MakeOwn
import Derived.Deep.LoopGhost
import Derived.Test.YteogbpaaacmllaaGreatDoorPk10
import Derived.Test.YteogbpaaacmllaaGreatDoorPk08
namespace Go.Proofs.YteogbpaaacmllaaGreatDoor.Tab
set_option maxRecDepth 20000
open Go.RowKit Go.Maps
set_option linter.unusedVariables false

theorem rec_struct : ∃ fs, Tryz.prog.underlying 77 = some (.struct fs) := ⟨_, Tryz.underlying77⟩
theorem rwV {f : Nat → Value} (h : ∀ j, j < 37 → (f j).oneCell' = true) : Rw Tryz.prog 77 (rv f) := ⟨let ⟨_, h⟩ := rec_struct; ⟨_, h, rfl⟩, by rw [rv_length]; kernel_rfl, rv_one h⟩
theorem upl_one {f : Nat → Value} {o : Nat} {vs : List Value} (h : ∀ j, j < 37 → (f j).oneCell' = true) (hv : ∀ v ∈ vs, v.oneCell' = true) : ∀ j, j < 37 → (upl f o vs j).oneCell' = true := by
  intro j hj
  unfold upl
  split
  · rename_i e
    rw [List.getD_eq_getElem?_getD, List.getElem?_eq_getElem (by omega), Option.getD_some]
    exact hv _ (List.getElem_mem _)
  · exact h j hj
theorem upv_one {f : Nat → Value} {k : Nat} {v : Value} (h : ∀ j, j < 37 → (f j).oneCell' = true) (hv : v.oneCell' = true) : ∀ j, j < 37 → (upv f k v j).oneCell' = true := by
  intro j hj
  unfold upv
  split
  · exact hv
  · exact h j hj
section
variable {P : Program} {Q : Exit → Act → World → Prop} {a : Act} {w : World}
/-- One cell stored, as a step. -/
theorem st1o {o : Oper} {K : Act → World → Prop} {T : TypeId} {x y : Operand} {b : Nat} {cs : List Value} (ho : o.op = .store T x y) (hB : Bo w b cs) (j : Nat) (v : Value) (hv : v.oneCell' = true) (hi : (P.info? T).map (·.size) = some 1) (hj : j < cs.length)
    (k : K (a.put o.dst undef) (w.setCell ⟨b, j, none⟩ v)) (hx : a.eval x = .pointer (some ⟨b, j, none⟩) := by rfl) (hy : a.eval y = v := by rfl) : o.wp P a w K Q := by
  unfold Oper.wp execOp
  simp only [ho, hx, hy, Instr.storeAt, Instr.sureAddr, Sem.run_bind, Sem.run_pure, Result.andThen_ok, run_store1 w b j T v (hB.cell j _ (List.getElem?_eq_getElem hj)) (hB.froz j) hi hv]
  exact k
end

/-- What was seen behind i threads, and where it lies. -/
def Rvb (v : Value) : Option (DataW Value × List MemPlace) := some (.held v, [])
def Ds (ρ : Nat → Nat) : Nat → DataW Value
  | 0 => .map []
  | i + 1 => (Ds ρ i).put (.int .u64 ((ρ (22 + i) : Nat) : Int)) (.held (.bool true))
def Sn (W : World) (m : Nat) (ρ : Nat → Nat) (i : Nat) : Prop := W.ownsMap Tryz.prog 22 Rvb m i (Ds ρ i)
theorem seen_desc : Tryz.prog.underlying 107 = some (.map 22 4) := by kernel_rfl
theorem u64_desc : Tryz.prog.underlying 22 = some (.int .u64) := by kernel_rfl
theorem zero_bool (w : World) : (zeroValue 4).run Tryz.prog w = .ok (.bool false) w := by kernel_rfl
theorem wf_u64' {k : Nat} (h : k < 18446744073709551616) : (Lit.int .u64 ((k : Nat) : Int)).wf = true := by
  simp [Lit.wf, IntKind.min, IntKind.max, IntKind.signed, IntKind.bits]; omega
theorem Ds_map (ρ : Nat → Nat) : ∀ i, IsMap (Ds ρ i)
  | 0 => ⟨[], rfl⟩
  | i + 1 => by
    obtain ⟨es, h⟩ := Ds_map ρ i
    unfold Ds
    rw [h]
    exact ⟨_, rfl⟩
def seenB (ρ : Nat → Nat) (i y : Nat) : Bool := (List.range i).any fun t => decide (ρ (22 + t) = y)
theorem seenB_iff {ρ : Nat → Nat} {i y : Nat} : seenB ρ i y = true ↔ ∃ t, t < i ∧ ρ (22 + t) = y := by simp [seenB]
theorem seenB_next (ρ : Nat → Nat) (i y : Nat) : seenB ρ (i + 1) y = (seenB ρ i y || decide (ρ (22 + i) = y)) := by simp [seenB, List.range_succ]
theorem Ds_at (ρ : Nat → Nat) (y : Nat) : ∀ i, (Ds ρ i).atKey (.int .u64 ((y : Nat) : Int)) (.held (.bool false)) = .held (.bool (seenB ρ i y))
  | 0 => rfl
  | i + 1 => by
    unfold Ds
    rw [seenB_next]
    by_cases e : ρ (22 + i) = y
    · rw [e, atKey_put_same (k := .int .u64 ((y : Nat) : Int)) (Ds_map ρ i) (show True from trivial), decide_eq_true rfl, Bool.or_true]
    · rw [atKey_put_other (by intro h; injection h with _ h; omega), Ds_at ρ y i, decide_eq_false e, Bool.or_false]
section
variable {W W' : World} {m i : Nat} {ρ : Nat → Nat}
theorem Sn.keep (h : Sn W m ρ i) (hb : W'.heap[m]? = W.heap[m]?) : Sn W' m ρ i := by
  obtain ⟨es, clk, h1, h2⟩ := h
  exact ⟨es, clk, by rw [hb]; exact h1, h2⟩
theorem Sn.lt (h : Sn W m ρ i) : m < W.heap.size := World.ownsMap.lt h
theorem Sn.later (h : Sn W m ρ i) (hb : Below W.heap.size W W') : Sn W' m ρ i := h.keep (hb.block m h.lt)
theorem Sn.new (h : Sn W m ρ i) (o : Obj) : Sn (W.alloc o) m ρ i := h.later (new_below W o)
theorem Sn.drew (h : Sn W m ρ i) : Sn W.drew m ρ i := h
theorem Sn.aside1 (h : Sn W m ρ i) {c j : Nat} (hc : m ≠ c) (v : Value) : Sn (W.setCell ⟨c, j, none⟩ v) m ρ i := h.keep (Below.heap_setCell _ _ _ _ hc)
theorem Sn.asideL (h : Sn W m ρ i) {c : Nat} (hc : m ≠ c) (o : Nat) (vs : List Value) : Sn (W.setCells c o vs) m ρ i := h.keep (heap_setCells hc _ _ _)
theorem Sn.made (w : World) (ρ : Nat → Nat) : Sn (w.alloc (.map #[] 0)) w.heap.size ρ 0 := World.ownsMap_made _ _ _ _
theorem Sn.froz (h : Sn W m ρ i) (j : Nat) : W.frozen? ⟨m, j, none⟩ = false := by
  obtain ⟨es, clk, h1, h2⟩ := h
  simp [World.frozen?, h1]
theorem Sn.look (h : Sn W m ρ i) {y : Nat} (hy : y < 18446744073709551616) {v : Bool} (hv : seenB ρ i y = v) :
    (Instr.lookup 107 (.map (some m)) (.int .u64 ((y : Nat) : Int)) false).run Tryz.prog W = .ok (.bool v) W := by
  obtain ⟨u, ps, h1, h2⟩ := World.ownsMap.lookup h (int_keyed u64_desc) seen_desc (zero_bool W) (zd := .held (.bool false)) (zp := []) rfl (keyOf_int_mk u64_desc (a := (y : Nat)) (wf_u64' hy))
  unfold Rvb at h2
  rw [Ds_at ρ y i, hv] at h2
  injection h2 with h2
  injection h2 with h2 _
  injection h2 with h2
  rw [h1, h2]
theorem Sn.add (h : Sn W m ρ i) (hi : i ≤ 4) (hy : ρ (22 + i) < 18446744073709551616) :
    ∃ W', (Instr.mapUpdate 107 (.map (some m)) (.int .u64 ((ρ (22 + i) : Nat) : Int)) (.bool true)).run Tryz.prog W = .ok () W' ∧ Sn W' m ρ (i + 1) ∧ W.grownBy W' (some m) :=
  World.ownsMap.update h (int_keyed u64_desc) seen_desc (by unfold maxLen; omega) (keyOf_int_mk u64_desc (a := (ρ (22 + i) : Nat)) (wf_u64' hy)) rfl
/-- Blocks behind what turns the map alone. -/
theorem Ms.turned {n : Nat} {w : World} {L : List (Nat × List Value)} {Q : List (Nat × Value × List Int)} (h : Ms n w W L Q) (k : Nat) (hk : L[k]? = some (m, [])) (hg : W.grownBy W' (some m)) (hf : ∀ j, W'.frozen? ⟨m, j, none⟩ = false) : Ms n w W' L Q where
  gd := ⟨h.gd.1, h.gd.2.grown hg h.gd.2.size (fun c hc => by injection hc with hc; have := h.key k hk; have := h.gd.1; omega)⟩
  bo p hp := by
    by_cases e : p.1 = m
    · have hn : p = (m, []) := by
        obtain ⟨j, hj⟩ := List.getElem?_of_mem hp
        have h1 : (L.map (·.1))[j]? = some m := by rw [List.getElem?_map, hj, Option.map_some, e]
        have h2 : (L.map (·.1))[k]? = some m := by rw [List.getElem?_map, hk]; rfl
        have := nodup_inj h.nd h1 h2
        subst this
        rw [hj] at hk; injection hk
      have hB := h.bo p hp
      rw [hn] at hB ⊢
      exact ⟨fun j v hv => by simp at hv, fun j => hf j, Nat.lt_of_lt_of_le hB.lt hg.size⟩
    · exact (h.bo p hp).keep (hg.block _ (h.bo p hp).lt (fun c => e (by injection c))) (Nat.lt_of_lt_of_le (h.bo p hp).lt hg.size)
  ge := h.ge
  nd := h.nd
  li q hq := (h.li q hq).keep hg.size (fun b h _ => h) (fun b hb hl => hg.block b hl (fun c => by
    injection c with c
    subst c
    exact hb (List.mem_map.2 ⟨_, List.mem_of_getElem? hk, rfl⟩)))
theorem Ms.bornM {n : Nat} {w : World} {L : List (Nat × List Value)} {Q : List (Nat × Value × List Int)} (h : Ms n w W L Q) {b : Nat} (hb : b = W.heap.size) : Ms n w (W.alloc (.map #[] 0)) ((b, []) :: L) Q := by
  subst hb
  exact h.laterB (new_below W _) (Nat.le_refl _) ⟨fun j v hv => by simp at hv, fun j => Sn.froz (Sn.made W (fun _ => 0)) j, by simp⟩
theorem Ms.ne {n : Nat} {w : World} {L : List (Nat × List Value)} {Q : List (Nat × Value × List Int)} (h : Ms n w W L Q) (i j : Nat) {b c : Nat} {cs ds : List Value} (hi : L[i]? = some (b, cs)) (hj : L[j]? = some (c, ds)) (hij : i ≠ j) : b ≠ c := fun e => by
  have h1 : (L.map (·.1))[i]? = some b := by rw [List.getElem?_map, hi]; rfl
  have h2 : (L.map (·.1))[j]? = some b := by rw [List.getElem?_map, hj, e]; rfl
  exact hij (nodup_inj h.nd h1 h2)
end
end Go.Proofs.YteogbpaaacmllaaGreatDoor.Tab
namespace Go.Proofs.YteogbpaaacmllaaGreatDoor.Tab
set_option maxRecDepth 20000
open Go.RowKit
set_option linter.unusedVariables false

theorem not_ftr {c v : Int} (h : ¬ Ft c v) : (c < 1 ∨ 5 < c) ∨ (1 ≤ c ∧ c ≤ 5) ∧ ((v < 0 ∨ 4294967295 < v) ∨ (0 ≤ v ∧ v ≤ 4294967295) ∧ c ≠ 1 ∧ v ≠ 0) := by
  have : ¬ (1 ≤ c ∧ c ≤ 5 ∧ 0 ≤ v ∧ v ≤ 4294967295 ∧ (c = 1 ∨ v = 0)) := h
  omega
theorem awithin_yes (n a b : Int) (w : World) (h1 : a ≤ n) (h2 : n ≤ b) :
    Calls Tryz.prog 31 #[.int .i64 n, .int .i64 a, .int .i64 b] w fun e w' => e = .returned (.bool true) ∧ w' = w := by
  go_enter Tryz.func31, Tryz.ntmps31
  go_wp2
  go_ret
  exact ⟨rfl, rfl⟩
theorem awithin_no (n a b : Int) (w : World) (h : n < a ∨ b < n) :
    Calls Tryz.prog 31 #[.int .i64 n, .int .i64 a, .int .i64 b] w fun e w' => e = .returned (.bool false) ∧ w' = w := by
  by_cases h1 : a ≤ n
  · have h2 : ¬ n ≤ b := by omega
    clear h
    go_enter Tryz.func31, Tryz.ntmps31
    go_wp2
    go_ret
    exact ⟨rfl, rfl⟩
  · clear h
    go_enter Tryz.func31, Tryz.ntmps31
    go_wp2
    go_ret
    exact ⟨rfl, rfl⟩
theorem RfFits_is {c v : Int} (h : Ft c v) (w : World) :
    Calls Tryz.prog 74 #[.agg #[.int .i64 c, .int .i64 v]] w fun e w' => e = .returned (.bool true) ∧ w' = w.alloc (.cells #[.int .i64 c, .int .i64 v] 58) := by
  obtain ⟨h1, h2, h3, h4, h5⟩ := h
  by_cases hc : c = 1
  · subst hc
    clear h5
    go_enter Tryz.func74, Tryz.ntmps74
    go_wp2_with (go_at_call 31; refine (awithin_yes _ _ _ _ (by omega) (by omega)).mono ?_; rintro e w' ⟨rfl, rfl⟩)
    go_ret
    exact ⟨rfl, rfl⟩
  · obtain rfl : v = 0 := by omega
    clear h5
    have hc' : (c == 1) = false := beq_eq_false_iff_ne.2 hc
    go_enter Tryz.func74, Tryz.ntmps74
    go_wp2_with (go_at_call 31; refine (awithin_yes _ _ _ _ (by omega) (by omega)).mono ?_; rintro e w' ⟨rfl, rfl⟩)
    go_ret
    exact ⟨rfl, rfl⟩

theorem RfFits_isnt {c v : Int} (h : ¬ Ft c v) (w : World) :
    Calls Tryz.prog 74 #[.agg #[.int .i64 c, .int .i64 v]] w fun e w' => e = .returned (.bool false) ∧ w' = w.alloc (.cells #[.int .i64 c, .int .i64 v] 58) := by
  rcases not_ftr h with h1 | ⟨⟨h1, h2⟩, h3 | ⟨⟨h3, h4⟩, hc, hv⟩⟩
  · clear h
    go_enter Tryz.func74, Tryz.ntmps74
    go_wp2_with (go_at_call 31; refine (awithin_no _ _ _ _ h1).mono ?_; rintro e w' ⟨rfl, rfl⟩)
    go_ret
    exact ⟨rfl, rfl⟩
  · clear h
    go_enter Tryz.func74, Tryz.ntmps74
    go_wp2_with fail
    refine (awithin_yes _ _ _ _ h1 h2).mono ?_
    rintro e w' ⟨rfl, rfl⟩
    go_wp2_with fail
    refine (awithin_no _ _ _ _ h3).mono ?_
    rintro e w' ⟨rfl, rfl⟩
    go_wp2
    go_ret
    exact ⟨rfl, rfl⟩
  · clear h
    have hv' : (v == 0) = false := beq_eq_false_iff_ne.2 hv
    have hc' : (c == 1) = false := beq_eq_false_iff_ne.2 hc
    go_enter Tryz.func74, Tryz.ntmps74
    go_wp2_with fail
    refine (awithin_yes _ _ _ _ h1 h2).mono ?_
    rintro e w' ⟨rfl, rfl⟩
    go_wp2_with fail
    refine (awithin_yes _ _ _ _ h3 h4).mono ?_
    rintro e w' ⟨rfl, rfl⟩
    go_wp2
    go_ret
    exact ⟨rfl, rfl⟩

theorem RfAnswer_no {c v : Int} (h : ¬ Ft c v) (w : World) :
    Calls Tryz.prog 56 #[.agg #[.int .i64 c, .int .i64 v]] w fun e w' => e = .returned (.tuple #[.int .u64 0, .int .i64 1]) ∧ Gr w w' := by
  go_enter Tryz.func56, Tryz.ntmps56
  go_wp2_with (go_at_call 74; refine (RfFits_isnt h _).mono ?_; rintro e w' ⟨rfl, rfl⟩)
  go_ret2
  exact ⟨rfl, ((Gr.refl w).alloc _ _).alloc _ _⟩

theorem RfAnswer_yes {c v : Nat} (h : Ft c v) (w : World) :
    Calls Tryz.prog 56 #[.agg #[.int .i64 c, .int .i64 v]] w fun e w' => e = .returned (.tuple #[.int .u64 (ansN c v : Nat), .int .i64 0]) ∧ Gr w w' := by
  obtain ⟨h1, h2, h3, h4, h5⟩ := id h
  clear h5
  go_enter Tryz.func56, Tryz.ntmps56
  go_wp2_with (go_at_call 74; refine (RfFits_is h _).mono ?_; rintro e w' ⟨rfl, rfl⟩)
  go_ret2
  exact ⟨ret_pair' (by unfold ansN; omega), ((Gr.refl w).alloc _ _).alloc _ _⟩

theorem RfTold_core (x : Nat) (hx : (x : Int) < 18446744073709551616) (a b : Int) (w : World) (e0 : (x : Int) / 4294967296 = a) (e2 : (x : Int) % 4294967296 = b) (h : Ft a b) :
    Calls Tryz.prog 51 #[.int .u64 x] w fun e w' => e = .returned (.tuple #[.agg #[.int .i64 a, .int .i64 b], .int .i64 0]) ∧ Gr w w' := by
  go_enter Tryz.func51, Tryz.ntmps51
  go_wp2_with (go_at_call 74; refine (RfFits_is h _).mono ?_; rintro e w' ⟨rfl, rfl⟩)
  exact bodyPost_ret (v := .tuple #[.agg #[.int .i64 a, .int .i64 b], .int .i64 0]) (by simp [results, Tryz.results51, go_sem]) rfl ⟨rfl, (((Gr.refl w).alloc _ _).alloc _ _).alloc _ _⟩

theorem RfTold_cono (x : Nat) (hx : (x : Int) < 18446744073709551616) (a b : Int) (w : World) (e0 : (x : Int) / 4294967296 = a) (e2 : (x : Int) % 4294967296 = b) (h : ¬ Ft a b) :
    Calls Tryz.prog 51 #[.int .u64 x] w fun e w' => e = .returned (.tuple #[.agg #[.int .i64 0, .int .i64 0], .int .i64 3]) ∧ Gr w w' := by
  go_enter Tryz.func51, Tryz.ntmps51
  go_wp2_with (go_at_call 74; refine (RfFits_isnt h _).mono ?_; rintro e w' ⟨rfl, rfl⟩)
  exact bodyPost_ret (v := .tuple #[.agg #[.int .i64 0, .int .i64 0], .int .i64 3]) (by simp [results, Tryz.results51, go_sem]) rfl ⟨rfl, (((Gr.refl w).alloc _ _).alloc _ _).alloc _ _⟩

theorem RfTold_yes {c v : Nat} (h : Ft c v) (w : World) :
    Calls Tryz.prog 51 #[.int .u64 (ansN c v : Nat)] w fun e w' => e = .returned (.tuple #[.agg #[.int .i64 c, .int .i64 v], .int .i64 0]) ∧ Gr w w' := by
  obtain ⟨p1, p2⟩ := ansN_parts h
  have hx := ansN_lt h
  exact RfTold_core _ (by omega) _ _ w (by omega) (by omega) h

theorem RfTold_no (x : Nat) (hx : x < 18446744073709551616) (h : NoAns x) (w : World) :
    Calls Tryz.prog 51 #[.int .u64 (x : Nat)] w fun e w' => e = .returned (.tuple #[.agg #[.int .i64 0, .int .i64 0], .int .i64 3]) ∧ Gr w w' :=
  RfTold_cono x (by omega) _ _ w (by omega) (by omega) h


theorem rtold_yes {x : Nat} (hx : x < 18446744073709551616) (h : Aw x) (w : World) :
    Calls Tryz.prog 51 #[.int .u64 (x : Nat)] w fun e w' => e = .returned (.tuple #[.agg #[.int .i64 (x / 4294967296 : Nat), .int .i64 (x % 4294967296 : Nat)], .int .i64 0]) ∧ Below w.heap.size w w' :=
  (RfTold_core x (by omega) _ _ w (by omega) (by omega) h).mono fun _ _ ⟨he, hg⟩ => ⟨he, hg.below⟩
theorem rtold_no {x : Nat} (hx : x < 18446744073709551616) (h : ¬ Aw x) (w : World) :
    Calls Tryz.prog 51 #[.int .u64 (x : Nat)] w fun e w' => e = .returned (.tuple #[.agg #[.int .i64 0, .int .i64 0], .int .i64 3]) ∧ Below w.heap.size w w' :=
  (RfTold_cono x (by omega) _ _ w (by omega) (by omega) h).mono fun _ _ ⟨he, hg⟩ => ⟨he, hg.below⟩
/-- AnswerWord, of what a word is told as. -/
theorem rword_yes {x : Nat} (h : Aw x) (w : World) :
    Calls Tryz.prog 56 #[.agg #[.int .i64 (x / 4294967296 : Nat), .int .i64 (x % 4294967296 : Nat)]] w fun e w' => e = .returned (.tuple #[.int .u64 (x : Nat), .int .i64 0]) ∧ Below w.heap.size w w' :=
  (RfAnswer_yes h w).mono fun _ _ ⟨he, hg⟩ => ⟨by rw [ansN_of] at he; exact he, hg.below⟩
theorem rword_no {c v : Int} (h : ¬ Ft c v) (w : World) :
    Calls Tryz.prog 56 #[.agg #[.int .i64 c, .int .i64 v]] w fun e w' => e = .returned (.tuple #[.int .u64 0, .int .i64 1]) ∧ Below w.heap.size w w' :=
  (RfAnswer_no h w).mono fun _ _ ⟨he, hg⟩ => ⟨he, hg.below⟩
end Go.Proofs.YteogbpaaacmllaaGreatDoor.Tab
namespace Go.Proofs.YteogbpaaacmllaaGreatDoor
set_option maxRecDepth 20000
open Go.RowKit

theorem mk64 (w : World) : (Instr.makeSlice 66 (.int .i64 64) (.int .i64 64)).run Tryz.prog w = .ok (.slice (some ⟨w.heap.size, 0, none⟩) 64 64) (w.alloc (.cells z64 3)) :=
  run_make w 66 3 _ (.int .i64 0) Tryz.underlying66 rfl rfl .i64 .i64 64 64 (by decide) (by decide) (by decide) (by decide)

set_option maxHeartbeats 400000 in
theorem digits_any (x : Nat) (w : World) (hx : x < 18446744073709551616) :
    Calls Tryz.prog 75 #[.int .u64 x] w fun e w' => e = .returned (.slice (some ⟨w.heap.size, 0, none⟩) 64 64) ∧ Dg (bt x) w w' := by
  have hmk := mk64
  go_enter Tryz.func75, Tryz.ntmps75
  go_wp2
  clear hmk
  go_loopw [0, 8] (fun v i wr => ∃ k y : Nat, k ≤ 64 ∧ y < 18446744073709551616 ∧ Hid (y = x / 2 ^ k) ∧ v = .int .u64 y ∧ i = .int .i64 k ∧ Dg (fun j => if j < k then bt x j else 0) w wr)
    (fun _ i _ => 64 - (intOf i).toNat)
  case atStart => exact ⟨0, x, by omega, hx, (by simp [Hid]), rfl, rfl, by simpa using Dg.start w _⟩
  case round =>
    obtain ⟨k, y, hk, hy, HY, rfl, rfl, hd⟩ := hrel
    by_cases hlt : k < 64
    · have hc := hd.cell k hlt
      have hfz := hd.froz k
      simp only [Nat.lt_irrefl, if_false] at hc
      go_wp2
      go_roundw
      case rel =>
        have e1 : (y : Int) % 2 = ((bt x k : Nat) : Int) := by simp [bt, HY.out]
        refine ⟨k + 1, y / 2, by omega, by omega, ?_, by go_num, by go_num, ?_⟩
        · show y / 2 = _
          rw [HY.out, Nat.pow_succ, Nat.div_div_eq_div_mul]
        · rw [e1]; exact hd.set k (bt x k) hlt _ (fun i _ => by
            by_cases h1 : i = k
            · subst h1; simp
            · by_cases h2 : i < k
              · simp [h1, h2, Nat.lt_succ_of_lt h2]
              · simp [h1, h2, show ¬ i < k + 1 by omega])
      case measure => simp [intOf]; omega
    · go_wp2
      go_ret
      have : k = 64 := by omega
      subst this
      refine ⟨rfl, hd.gr, hd.size, fun i hi => ?_⟩
      have := hd.cell i hi
      simpa [hi] using this

set_option maxHeartbeats 400000 in
theorem number_any (b off n cap : Nat) (f : Nat → Nat) (w : World) (hn : n ≤ 64) (hf : ∀ i, f i < 2)
    (hc : ∀ i, i < n → w.cell? ⟨b, off + i, none⟩ = some (.int .i64 (f i : Nat))) :
    Calls Tryz.prog 82 #[.slice (some ⟨b, off, none⟩) n cap] w fun e w' => e = .returned (.int .u64 (tp f 0 n : Nat)) ∧ w' = w := by
  go_enter Tryz.func82, Tryz.ntmps82
  go_wp2
  go_loop [3, 4] (fun v i => ∃ (j : Int) (y : Nat), -1 ≤ j ∧ j < n ∧ Hid (y = tp f (j + 1).toNat (n - (j + 1).toNat)) ∧ v = .int .u64 y ∧ i = .int .i64 j)
    (fun _ i => (intOf i + 1).toNat)
  case atStart => exact ⟨(n : Int) - 1, 0, by omega, by omega, (by simp [Hid, tp]), rfl, rfl⟩
  case round =>
    obtain ⟨j, y, h1, h2, HY, rfl, rfl⟩ := hrel
    by_cases h0 : 0 ≤ j
    · obtain ⟨k, rfl⟩ := Int.eq_ofNat_of_zero_le h0
      have hk : k < n := by omega
      have hcell := hc k hk
      have hfk := hf k
      have hy : y < 9223372036854775808 := by
        have := tp_lt f hf (n - ((k : Int) + 1).toNat) ((k : Int) + 1).toNat
        rw [← HY.out] at this
        have : 2 ^ (n - ((k : Int) + 1).toNat) ≤ 2 ^ 63 := Nat.pow_le_pow_right (by decide) (by omega)
        omega
      clear hc
      go_wp2
      go_round
      case rel =>
        refine ⟨(k : Int) - 1, f k + 2 * y, by omega, by omega, ?_, by go_num, by go_num⟩
        show _ = _
        rw [HY.out, show ((k : Int) - 1 + 1).toNat = k by omega, show n - k = (n - ((k : Int) + 1).toNat) + 1 by omega, tp, show ((k : Int) + 1).toNat = k + 1 by omega]
      case measure => simp [intOf]
    · have e : j = -1 := by omega
      subst e
      go_wp2
      go_ret
      refine ⟨?_, rfl⟩
      rw [HY.out]; simp
end Go.Proofs.YteogbpaaacmllaaGreatDoor
namespace Go.Proofs.YteogbpaaacmllaaGreatDoor
set_option maxRecDepth 20000
open Go.RowKit

theorem bwithin_yes (a : Int) (w : World) (h0 : 0 ≤ a) (h1 : a ≤ 63) :
    Calls Tryz.prog 31 #[.int .i64 a, .int .i64 0, .int .i64 63] w fun e w' => e = .returned (.bool true) ∧ w' = w := by
  go_enter Tryz.func31, Tryz.ntmps31
  go_wp2
  go_ret
  exact ⟨rfl, rfl⟩

theorem bwithin_no (a : Int) (w : World) (h : a < 0 ∨ 63 < a) :
    Calls Tryz.prog 31 #[.int .i64 a, .int .i64 0, .int .i64 63] w fun e w' => e = .returned (.bool false) ∧ w' = w := by
  by_cases h1 : a < 0
  · have : ¬ 0 ≤ a := by omega
    clear h
    go_enter Tryz.func31, Tryz.ntmps31
    go_wp2
    go_ret
    exact ⟨rfl, rfl⟩
  · have h2 : 0 ≤ a := by omega
    have : ¬ a ≤ 63 := by omega
    clear h h1
    go_enter Tryz.func31, Tryz.ntmps31
    go_wp2
    go_ret
    exact ⟨rfl, rfl⟩

theorem refBit_no (x : Nat) (a : Int) (w : World) (h : a < 0 ∨ 63 < a) :
    Calls Tryz.prog 52 #[.int .u64 x, .int .i64 a] w fun e w' => e = .returned (.bool false) ∧ Gr w w' := by
  go_enter Tryz.func52, Tryz.ntmps52
  go_wp2_with (go_at_call 31; refine (bwithin_no _ _ h).mono ?_; rintro e w' ⟨rfl, rfl⟩)
  go_ret
  exact ⟨rfl, Gr.refl _⟩

theorem refBit_yes (x k : Nat) (w : World) (hx : x < 18446744073709551616) (hk : k < 64) :
    Calls Tryz.prog 52 #[.int .u64 x, .int .i64 k] w fun e w' => e = .returned (.bool (x.testBit k)) ∧ Gr w w' := by
  go_enter Tryz.func52, Tryz.ntmps52
  go_wp2_with fail
  refine (bwithin_yes _ _ (by omega) (by omega)).mono ?_
  rintro e w' ⟨rfl, rfl⟩
  go_wp2_with fail
  refine (digits_any x _ hx).mono ?_
  rintro e w1 ⟨rfl, hd⟩
  have hc := hd.cell k hk
  go_wp2
  go_ret
  refine ⟨ret_bool ?_, hd.gr⟩
  rw [bt_test]
  cases x.testBit k <;> rfl

end Go.Proofs.YteogbpaaacmllaaGreatDoor
namespace Go.Proofs.YteogbpaaacmllaaGreatDoor
set_option maxRecDepth 20000
open Go.RowKit

theorem refFlip_no (x : Nat) (a : Int) (w : World) (hx : x < 18446744073709551616) (h : a < 0 ∨ 63 < a) :
    Calls Tryz.prog 57 #[.int .u64 x, .int .i64 a] w fun e w' => e = .returned (.int .u64 x) ∧ Gr w w' := by
  go_enter Tryz.func57, Tryz.ntmps57
  go_wp2_with fail
  refine (digits_any x _ hx).mono ?_
  rintro e w1 ⟨rfl, hd⟩
  go_wp2_with fail
  refine (bwithin_no _ _ h).mono ?_
  rintro e w' ⟨rfl, rfl⟩
  go_wp2_with fail
  refine (number_any _ 0 64 64 (bt x) _ (Nat.le_refl _) (bt_lt x) (fun i hi => by simpa using hd.cell i hi)).mono ?_
  rintro e w' ⟨rfl, rfl⟩
  go_wp2
  go_ret
  exact ⟨ret_int (by rw [tp_all x hx]), hd.gr⟩

theorem refFlip_yes (x k : Nat) (w : World) (hx : x < 18446744073709551616) (hk : k < 64) :
    Calls Tryz.prog 57 #[.int .u64 x, .int .i64 k] w fun e w' => e = .returned (.int .u64 (x ^^^ 2 ^ k : Nat)) ∧ Gr w w' := by
  go_enter Tryz.func57, Tryz.ntmps57
  go_wp2_with fail
  refine (digits_any x _ hx).mono ?_
  rintro e w1 ⟨rfl, hd⟩
  go_wp2_with fail
  refine (bwithin_yes _ _ (by omega) (by omega)).mono ?_
  rintro e w' ⟨rfl, rfl⟩
  have hc := hd.cell k hk
  have hf := hd.froz k
  have hb := bt_lt x k
  go_wp2_with fail
  have e1 : (1 : Int) - (bt x k : Nat) = ((1 - bt x k : Nat) : Int) := by omega
  rw [e1]
  have hd2 := hd.set k (1 - bt x k) hk (bt (x ^^^ 2 ^ k)) (fun i _ => by rw [bt_flip]; by_cases h : i = k <;> simp [h])
  refine (number_any _ 0 64 64 (bt (x ^^^ 2 ^ k)) _ (Nat.le_refl _) (bt_lt _) (fun i hi => by simpa using hd2.cell i hi)).mono ?_
  rintro e w2 ⟨rfl, rfl⟩
  go_wp2
  go_ret
  exact ⟨ret_int (by rw [tp_all _ (flip_lt x k hx hk)]), hd2.gr⟩
end Go.Proofs.YteogbpaaacmllaaGreatDoor
namespace Go.Proofs.YteogbpaaacmllaaGreatDoor.Tab
set_option maxRecDepth 20000
open Go.RowKit
set_option linter.unusedVariables false

theorem Bo.cellsZ {w : World} {b : Nat} {cs : List Value} (h : Bo w b cs) : ∀ j v, cs[j]? = some v → w.cell? ⟨b, 0 + j, none⟩ = some v := fun j v hv => by rw [Nat.zero_add]; exact h.cell j v hv
theorem upw_neq {f : Nat → Nat} {j k x : Nat} (h : k ≠ j) : upw f j x k = f k := by unfold upw; rw [if_neg h]
end Go.Proofs.YteogbpaaacmllaaGreatDoor.Tab
namespace Go.Proofs.YteogbpaaacmllaaGreatDoor.Tab
set_option maxRecDepth 20000
open Go.RowKit
set_option linter.unusedVariables false

theorem ixw {e : Int} (h0 : 0 ≤ e) (h1 : e < 1000) : IntKind.i64.wrap e = e ∧ wrap64 e = e := ⟨by rw [IntKind.wrap_i64]; omega, by unfold wrap64; omega⟩
theorem ixn {e : Int} {n : Nat} (h : e = (n : Int)) : e.toNat = n := by omega
theorem made32 : madeCells (Value.int .u64 0).cells 32 = (rl wz).toArray := by kernel_rfl
theorem mk32 (w : World) : (Instr.makeSlice 26 (.int .i64 32) (.int .i64 32)).run Tryz.prog w = .ok (.slice (some ⟨w.heap.size, 0, none⟩) 32 32) (w.alloc (.cells (rl wz).toArray 22)) := by
  obtain ⟨i, hi, hz, h1, h2⟩ := info_parts info_u64
  have := run_make (P := Tryz.prog) w 26 22 i _ Tryz.underlying26 hi hz .i64 .i64 32 32 (by decide) (by decide) (by rw [h2]; decide) (by decide)
  rw [h1] at this
  rw [← made32]
  exact this
theorem mk32b (w : World) (o : Obj) : (Instr.makeSlice 26 (.int .i64 32) (.int .i64 32)).run Tryz.prog (w.alloc o) = .ok (.slice (some ⟨w.heap.size + 1, 0, none⟩) 32 32) ((w.alloc o).alloc (.cells (rl wz).toArray 22)) := by
  have := mk32 (w.alloc o)
  simpa using this
theorem upw_self {f : Nat → Nat} {j x : Nat} (h : f j = x) : upw f j x = f := by
  funext k; unfold upw; by_cases e : k = j
  · rw [if_pos e, e, h]
  · rw [if_neg e]
set_option maxHeartbeats 8000000 in
theorem Words_is {ρ c : Nat → Nat} {th : List Value} (hl : th.length = 19) (ho : ∀ v ∈ th, v.oneCell' = true) (hrow : Rw Tryz.prog 72 th) (h0 : th.getD 0 undef = .int .i64 ((ρ 0 : Nat) : Int)) (h6 : ρ 0 ≤ 6) (hc : ∀ j, j < 17 → c j = ob ρ j) (U : ∀ j, j < 32 → ρ j < 18446744073709551616) (hA : ∀ t, t < 4 → ρ (18 + t) = 0 ∨ Aw (ρ (18 + t))) (w : World) (CE : ∀ W, Below w.heap.size w W → Calls Tryz.prog 55 #[.agg th.toArray] W fun e w' => Wd W.heap.size e w' c ∧ Below W.heap.size W w') :
    Calls Tryz.prog 34 #[.agg (rv (rf th ρ 4)).toArray] w (fun e w' => (∃ b, e = .returned (.slice (some ⟨b, 0, none⟩) 32 32) ∧ w.heap.size ≤ b ∧ Bo w' b (rl (nw ρ))) ∧ Below w.heap.size w w') := by
  have AWI : Hid (∀ t, t < 4 → ∃ ae : Value, ∀ w, Calls Tryz.prog 56 #[.agg #[.int .i64 (ρ (18 + t) / 4294967296 : Nat), .int .i64 (ρ (18 + t) % 4294967296 : Nat)]] w fun e w' => e = .returned (.tuple #[.int .u64 (ρ (18 + t) : Nat), ae]) ∧ Below w.heap.size w w') := fun t ht => by
    rcases hA t ht with h | h
    · rw [h]; exact ⟨_, fun w => rword_no (c := 0) (v := 0) (by decide) w⟩
    · exact ⟨_, fun w => rword_yes h w⟩
  have CEH : Hid _ := CE
  have HL : Hid _ := hl
  have H0 : Hid _ := h0
  have HRW : Hid _ := hrow
  have U64 : Hid _ := U
  have e0 : IntKind.u64.wrap ((ρ 0 : Nat) : Int) = (ρ 0 : Nat) := by rw [IntKind.wrap_u64]; omega
  have W0 : Hid (rl (wo (upw wz 0 (ρ 0)) c) = rl (wq ρ 0)) := wq_zero ρ c hc
  have F1 : Hid (∀ j, j < 37 → (rf th ρ 4 j).oneCell' = true) := rf_one ho hl
  have mk := mk32b w (.cells (rv (rf th ρ 4)).toArray 77)
  clear hA CE hl h0 hrow h6 hc U ho
  have hM : Hid _ := (((Ms.nil w).born (rv (rf th ρ 4)) 77 (b := w.heap.size) rfl).born (rl wz) 22 (b := w.heap.size + 1) (by simp))
  have x1 := (hM.out.at 1 rfl).rcell (j := 0) (by decide) ((rf_th (by decide)).trans H0.out)
  go_enter Tryz.func34, Tryz.ntmps34
  go_wp2_with (first
    | (refine s1 rfl (hM.out.at 0 rfl) 0 rfl (.int .u64 (ρ 0 : Nat)) rfl sz_u ?_ (by rw [rl_length]; decide)
       replace hM := hid (hM.out.put1 0 0 rfl (.int .u64 (ρ 0 : Nat)) (rl (upw wz 0 (ρ 0))) (by rw [rl_length]; decide) (rl_set _ _ (by decide)))
       generalize World.setCell _ _ _ = W at hM ⊢
       clear x1
       clear mk))
  generalize hsz : w.heap.size = n at hM CEH ⊢
  clear hsz
  replace hM := hid (hM.out.drew)
  refine wp_region_held_drew (S := fun w' => Bo w' n (rv (rf th ρ 4)) ∧ Bo w' n th) (by kernel_rfl) ⟨hM.out.at 1 rfl, Bo.thing (hM.out.at 1 rfl) HL.out (fun j hj => rf_th hj)⟩ (fun hH => ?_)
  generalize World.drew _ = W at hM hH  ⊢
  refine tk 0 rfl hH ?_
  simp only [Act.put, p1, p2, p3]
  refine tk 1 rfl hH ?_
  simp only [Act.put, p1, p2, p3]
  refine tk 2 rfl hH ?_
  simp only [Act.put, p1, p2, p3]
  refine tkR 3 rfl hH (fun _ h => h.2) HRW.out ?_
  simp only [Act.put, p1, p2, p3]
  refine rd1 4 rfl (fun K hK => ?_)
  go_simp
  refine (CEH.out _ hM.out.low).mono ?_
  rintro e W ⟨⟨bq, rfl, hq, hWq⟩, hb⟩
  replace hM := hid (hM.out.laterB hb hq hWq)
  clear hb
  go_wp2_with fail
  refine hK.out _ _ ⟨hM.out.at 2 rfl, Bo.thing (hM.out.at 2 rfl) HL.out (fun j hj => rf_th hj)⟩ (fun hH => ?_)
  clear hK K
  try simp only [Act.put, p1, p2, p3]
  refine rd1 5 rfl (fun K hK => ?_)
  refine cpR rfl Tryz.underlying26 sz_u (vs := wl c) (off := 1) (dLen := 31) (sLen := 17) (by rw [wl_length]; rfl) ((hM.out.at 0 rfl).cellsZ) ((hM.out.at 1 rfl).thereAt (o := 1) (n := (wl c).length) (by rw [wl_length, rl_length]; decide)) (wl_one _) ?_
  replace hM := hid (hM.out.putAt 1 1 rfl (wl c) (rl (wo (upw wz 0 (ρ 0)) c)) ((hM.out.at 1 rfl).setOb c))
  rw [W0.out] at hM
  refine hK.out _ _ ⟨hM.out.at 2 rfl, Bo.thing (hM.out.at 2 rfl) HL.out (fun j hj => rf_th hj)⟩ (fun hH => ?_)
  clear hK K
  generalize World.setCells _ _ _ _ = W at hM hH ⊢
  try simp only [Act.put, p1, p2, p3]
  refine wpAnyH_done (by kernel_rfl) ?_ _
  go_wp2_with fail
  go_loopg [18] 4 (fun gg s18 wt => ∃ i : Nat, i ≤ 4 ∧ 4 - i ≤ gg ∧ s18 = .int .i64 i ∧ Hid (Ms n w wt [((n + 1), rl (wq ρ i)), (n, rv (rf th ρ 4))] []))
  case atStart => exact ⟨0, by omega, by omega, rfl, hM.out.pick [1, 2]⟩
  case round =>
    clear hM
    obtain ⟨i, hi, hgg, rfl, hM⟩ := hrel
    obtain ⟨W, rfl⟩ : ∃ q, q = wr := ⟨_, rfl⟩
    by_cases hlt : i < 4
    · have hi1 : (i : Int) < 4 := by omega
      have hi0 : (0 : Int) ≤ (i : Int) := by omega
      have fa0 : (0 : Int) ≤ 18 + (i : Int) := by omega
      have fa1 : 18 + (i : Int) < 32 := by omega
      have fan : Hid (18 + (i : Int) = ((18 + i : Nat) : Int)) := (by omega : 18 + (i : Int) = ((18 + i : Nat) : Int))
      have fax : 18 + i < 32 := by omega
      have fb0 : (0 : Int) ≤ 22 + (i : Int) := by omega
      have fb1 : 22 + (i : Int) < 32 := by omega
      have fbn : Hid (22 + (i : Int) = ((22 + i : Nat) : Int)) := (by omega : 22 + (i : Int) = ((22 + i : Nat) : Int))
      have fbx : 22 + i < 32 := by omega
      have fc0 : (0 : Int) ≤ 19 + (i : Int) * 2 := by omega
      have fc1 : 19 + (i : Int) * 2 < 37 := by omega
      have fcn : Hid (19 + (i : Int) * 2 = ((19 + i * 2 : Nat) : Int)) := (by omega : 19 + (i : Int) * 2 = ((19 + i * 2 : Nat) : Int))
      have fcx : 19 + i * 2 < 37 := by omega
      have fd0 : (0 : Int) ≤ 27 + (i : Int) := by omega
      have fd1 : 27 + (i : Int) < 37 := by omega
      have fdn : Hid (27 + (i : Int) = ((27 + i : Nat) : Int)) := (by omega : 27 + (i : Int) = ((27 + i : Nat) : Int))
      have fdx : 27 + i < 37 := by omega
      have fe0 : (0 : Int) ≤ 31 + (i : Int) := by omega
      have fe1 : 31 + (i : Int) < 37 := by omega
      have fen : Hid (31 + (i : Int) = ((31 + i : Nat) : Int)) := (by omega : 31 + (i : Int) = ((31 + i : Nat) : Int))
      have fex : 31 + i < 37 := by omega
      obtain ⟨ae, aw⟩ := AWI.out i hlt
      obtain ⟨x, hx⟩ : ∃ x, ρ (18 + i) = x := ⟨_, rfl⟩
      obtain ⟨y, hy⟩ : ∃ y, ρ (22 + i) = y := ⟨_, rfl⟩
      have RA : Hid (∀ W, Bo W n (rv (rf th ρ 4)) → W.rangeAt n (19 + i * 2) [.int .i64 (x / 4294967296 : Nat), .int .i64 (x % 4294967296 : Nat)]) := fun W h => h.two (by omega) ((rf_code hlt hlt).trans (by rw [hx])) ((rf_val hlt hlt).trans (by rw [hx]))
      have RY : Hid (∀ W, Bo W n (rv (rf th ρ 4)) → W.cell? ⟨n, 27 + i, none⟩ = some (.int .u64 (y : Nat))) := fun W h => h.rcell (by omega) ((rf_when hlt hlt).trans (by rw [hy]))
      have WN : Hid _ := wq_next ρ hlt
      have fl := refFlip_yes (ρ 26 % 2 ^ i) i
      rw [hx, hy] at WN
      rw [hx] at aw
      have AW2 : Hid _ := aw
      have hg26 : ρ 26 % 2 ^ i < 18446744073709551616 := Nat.lt_of_le_of_lt (Nat.mod_le _ _) (U64.out 26 (by decide))
      have FL : Hid (∀ w, _) := fun w => fl w hg26 (by omega)
      have M1 : ρ 26 % 2 ^ (i + 1) = ρ 26 % 2 ^ i + 2 ^ i * ((ρ 26).testBit i).toNat := by rw [Nat.pow_succ, Nat.mod_mul, ← bt_test]; rfl
      rw [mod_xor] at FL
      have ew : upw (upw (wq ρ i) (18 + i) x) (22 + i) y 26 = ρ 26 % 2 ^ i := by rw [upw_neq (by omega), upw_neq (by omega)]; unfold wq; rw [if_neg (by omega), if_neg (by omega), if_neg (by omega), if_pos rfl]
      obtain ⟨g, hg⟩ : ∃ g, ρ 26 % 2 ^ i = g := ⟨_, rfl⟩
      obtain ⟨b, hb⟩ : ∃ b, (ρ 26).testBit i = b := ⟨_, rfl⟩
      have RT : Hid (∀ W, Bo W n (rv (rf th ρ 4)) → W.cell? ⟨n, 31 + i, none⟩ = some (.int .i64 (b.toNat : Nat))) := fun W h => h.rcell (by omega) ((rf_tog hlt hlt).trans (by rw [hb]))
      have HG : Hid (upw (upw (wq ρ i) (18 + i) x) (22 + i) y 26 = g) := ew.trans hg
      rw [hg, hb] at M1
      rw [hg] at FL
      clear aw hx hy fl ew hg26 hg hb
      have fa2 : IntKind.i64.wrap (18 + (i : Int)) = 18 + (i : Int) := (ixw fa0 (Int.lt_of_lt_of_le fa1 (by decide))).1
      have fb2 : IntKind.i64.wrap (22 + (i : Int)) = 22 + (i : Int) := (ixw fb0 (Int.lt_of_lt_of_le fb1 (by decide))).1
      have fc2 : IntKind.i64.wrap (19 + (i : Int) * 2) = 19 + (i : Int) * 2 := (ixw fc0 (Int.lt_of_lt_of_le fc1 (by decide))).1
      have fd2 : IntKind.i64.wrap (27 + (i : Int)) = 27 + (i : Int) := (ixw fd0 (Int.lt_of_lt_of_le fd1 (by decide))).1
      have fe2 : IntKind.i64.wrap (31 + (i : Int)) = 31 + (i : Int) := (ixw fe0 (Int.lt_of_lt_of_le fe1 (by decide))).1
      rcases b with _ | _
      · have WN2 : Hid (rl (upw (upw (wq ρ i) (18 + i) x) (22 + i) y) = rl (wq ρ (i + 1))) := by
          have h := WN.out
          rw [M1, show 2 ^ i * (false).toNat = 0 from Nat.mul_zero _, Nat.add_zero, upw_self HG.out] at h
          exact h
        clear M1 WN FL
        have bt : (((false).toNat : Nat) : Int) = 0 := rfl
        rw [bt] at RT
        clear bt
        go_wp2_with (first
          | (refine lO rfl (RA.out _ (hM.out.at 1 rfl)) rfl (rwA _ _) ?_))
        refine (AW2.out _).mono ?_
        rintro e W ⟨rfl, hb⟩
        replace hM := hid (hM.out.later hb)
        clear hb
        go_wp2_with (first
          | (refine s1 rfl (hM.out.at 0 rfl) (18 + i) rfl (.int .u64 (x : Nat)) rfl sz_u ?_ (by rw [rl_length]; exact fax)
             replace hM := hid (hM.out.put1 0 (18 + i) rfl (.int .u64 (x : Nat)) (rl (upw (wq ρ i) (18 + i) x)) (by rw [rl_length]; exact fax) (rl_set _ _ (by exact fax)))
             generalize World.setCell _ _ _ = W at hM ⊢
             have x2 := RY.out _ (hM.out.at 1 rfl))
          | (refine s1 rfl (hM.out.at 0 rfl) (22 + i) rfl (.int .u64 (y : Nat)) rfl sz_u ?_ (by rw [rl_length]; exact fbx)
             replace hM := hid (hM.out.put1 0 (22 + i) rfl (.int .u64 (y : Nat)) (rl (upw (upw (wq ρ i) (18 + i) x) (22 + i) y)) (by rw [rl_length]; exact fbx) (rl_set _ _ (by exact fbx)))
             generalize World.setCell _ _ _ = W at hM ⊢
             clear x2
             clear fa2 fb2 fc2 fd2 fa0 fa1 fb0 fb1 fc0 fc1 fd0 fd1 fax fbx fcx fdx
             have x3 := RT.out _ (hM.out.at 1 rfl)
             have x4 := (hM.out.at 0 rfl).rwordx (show 26 < 32 by decide) HG.out))
        rw [WN2.out] at hM
        clear fe2
        go_roundg (4 - (i + 1))
        case measure => omega
        case rel => exact ⟨i + 1, by omega, by omega, by go_num, hM⟩
      · have WN2 : Hid (rl (upw (upw (upw (wq ρ i) (18 + i) x) (22 + i) y) 26 (g + 2 ^ i)) = rl (wq ρ (i + 1))) := by
          have h := WN.out
          rw [M1, show 2 ^ i * (true).toNat = 2 ^ i from Nat.mul_one _] at h
          exact h
        obtain ⟨g2, hg2⟩ : ∃ g2, g + 2 ^ i = g2 := ⟨_, rfl⟩
        rw [hg2] at WN2 FL
        clear hg2 M1 WN
        have bt : (((true).toNat : Nat) : Int) = 1 := rfl
        rw [bt] at RT
        clear bt
        go_wp2_with (first
          | (refine lO rfl (RA.out _ (hM.out.at 1 rfl)) rfl (rwA _ _) ?_))
        refine (AW2.out _).mono ?_
        rintro e W ⟨rfl, hb⟩
        replace hM := hid (hM.out.later hb)
        clear hb
        go_wp2_with (first
          | (refine s1 rfl (hM.out.at 0 rfl) (18 + i) rfl (.int .u64 (x : Nat)) rfl sz_u ?_ (by rw [rl_length]; exact fax)
             replace hM := hid (hM.out.put1 0 (18 + i) rfl (.int .u64 (x : Nat)) (rl (upw (wq ρ i) (18 + i) x)) (by rw [rl_length]; exact fax) (rl_set _ _ (by exact fax)))
             generalize World.setCell _ _ _ = W at hM ⊢
             have x2 := RY.out _ (hM.out.at 1 rfl))
          | (refine s1 rfl (hM.out.at 0 rfl) (22 + i) rfl (.int .u64 (y : Nat)) rfl sz_u ?_ (by rw [rl_length]; exact fbx)
             replace hM := hid (hM.out.put1 0 (22 + i) rfl (.int .u64 (y : Nat)) (rl (upw (upw (wq ρ i) (18 + i) x) (22 + i) y)) (by rw [rl_length]; exact fbx) (rl_set _ _ (by exact fbx)))
             generalize World.setCell _ _ _ = W at hM ⊢
             clear x2
             clear fa2 fb2 fc2 fd2 fa0 fa1 fb0 fb1 fc0 fc1 fd0 fd1 fax fbx fcx fdx
             have x3 := RT.out _ (hM.out.at 1 rfl)
             have x4 := (hM.out.at 0 rfl).rwordx (show 26 < 32 by decide) HG.out))
        refine (FL.out _).mono ?_
        rintro e W ⟨rfl, hg⟩
        have hb := hg.below
        clear hg
        replace hM := hid (hM.out.later hb)
        clear hb
        clear x3 x4
        go_wp2_with (first
          | (refine s1 rfl (hM.out.at 0 rfl) 26 rfl (.int .u64 (g2 : Nat)) rfl sz_u ?_ (by rw [rl_length]; decide)
             replace hM := hid (hM.out.put1 0 26 rfl (.int .u64 (g2 : Nat)) (rl (upw (upw (upw (wq ρ i) (18 + i) x) (22 + i) y) 26 g2)) (by rw [rl_length]; decide) (rl_set _ _ (by decide)))
             generalize World.setCell _ _ _ = W at hM ⊢))
        rw [WN2.out] at hM
        clear fe2
        go_roundg (4 - (i + 1))
        case measure => omega
        case rel => exact ⟨i + 1, by omega, by omega, by go_num, hM⟩
    · obtain rfl : i = 4 := by omega
      go_wp2_with fail
      replace hM := hid (hM.out.drew)
      refine wp_region_held_drew (S := fun w' => Bo w' n (rv (rf th ρ 4))) (by kernel_rfl) (hM.out.at 1 rfl) (fun hH => ?_)
      generalize World.drew _ = W at hM hH  ⊢
      refine tk 0 rfl hH ?_
      simp only [Act.put, p1, p2, p3]
      refine tk 1 rfl hH ?_
      simp only [Act.put, p1, p2, p3]
      refine tk 2 rfl hH ?_
      simp only [Act.put, p1, p2, p3]
      refine tk 3 rfl hH ?_ (by intro w h; have c0 := h.rcell (j := 35) (by decide) rf_ver; clear h; go_simp; try with_reducible rfl)
      simp only [Act.put, p1, p2, p3]
      refine tk 4 rfl hH ?_
      simp only [Act.put, p1, p2, p3]
      refine tk 5 rfl hH ?_ (by intro w h; have c0 := h.rcell (j := 36) (by decide) rf_cnt; clear h; go_simp; try with_reducible rfl)
      simp only [Act.put, p1, p2, p3]
      refine tk 6 rfl hH ?_
      simp only [Act.put, p1, p2, p3]
      refine rd1 7 rfl (fun K hK => ?_)
      refine st1o rfl (hM.out.at 0 rfl) 27 (.int .u64 (ρ 27 : Nat)) rfl sz_u (by rw [rl_length]; decide) ?_
      replace hM := hid (hM.out.put1 0 27 rfl (.int .u64 (ρ 27 : Nat)) (rl (upw (wq ρ 4) 27 (ρ 27))) (by rw [rl_length]; decide) (rl_set _ _ (by decide)))
      refine hK.out _ _ (hM.out.at 1 rfl) (fun hH => ?_)
      clear hK K
      generalize World.setCell _ _ _ = W at hM hH ⊢
      try simp only [Act.put]
      refine tk 8 rfl hH ?_
      simp only [Act.put, p1, p2, p3]
      refine rd1 9 rfl (fun K hK => ?_)
      refine st1o rfl (hM.out.at 0 rfl) 28 (.int .u64 (ρ 28 : Nat)) rfl sz_u (by rw [rl_length]; decide) ?_
      replace hM := hid (hM.out.put1 0 28 rfl (.int .u64 (ρ 28 : Nat)) (rl (upw (upw (wq ρ 4) 27 (ρ 27)) 28 (ρ 28))) (by rw [rl_length]; decide) (rl_set _ _ (by decide)))
      refine hK.out _ _ (hM.out.at 1 rfl) (fun hH => ?_)
      clear hK K
      generalize World.setCell _ _ _ = W at hM hH ⊢
      try simp only [Act.put]
      refine wpAnyH_done (by kernel_rfl) ?_ _
      rw [wq_all] at hM
      go_wp2
      go_ret
      exact ⟨⟨_, rfl, by rw [hM.out.size]; exact hM.out.key 0 rfl, hM.out.at 0 rfl⟩, hM.out.below⟩
end Go.Proofs.YteogbpaaacmllaaGreatDoor.Tab
namespace Go.Proofs.YteogbpaaacmllaaGreatDoor.Tab
set_option maxRecDepth 20000
open Go.RowKit
set_option linter.unusedVariables false

/-- What a thread of a record must meet, and what all of them must: 12.2. -/
def CR (ρ : Nat → Nat) (t : Nat) : Prop := (ρ (18 + t) = 0 ∧ ρ (22 + t) = 0) ∨ (Aw (ρ (18 + t)) ∧ ρ (22 + t) ≠ 0 ∧ ρ (22 + t) ≤ ρ 28 ∧ ∀ s, s < t → ρ (22 + s) ≠ ρ (22 + t))
theorem cr_iff {ρ : Nat → Nat} : (∀ t, t < 4 → CR ρ t) ↔ aR ρ ∧ nR ρ := by
  constructor
  · intro h
    refine ⟨fun t ht => ?_, fun t ht => ?_⟩
    · rcases h t ht with ⟨h1, h2⟩ | ⟨h1, h2, _, _⟩
      · exact ⟨by rw [h1, h2], Or.inl h1⟩
      · exact ⟨⟨fun e => absurd (e ▸ h1) aw_zero, fun e => absurd e h2⟩, Or.inr h1⟩
    · rcases h t ht with ⟨h1, h2⟩ | ⟨h1, h2, h3, h4⟩
      · exact ⟨by rw [h2]; exact Nat.zero_le _, fun o _ => Or.inl h2⟩
      · exact ⟨h3, fun o ho => Or.inr (fun e => h4 o ho e.symm)⟩
  · rintro ⟨ha, hn⟩ t ht
    obtain ⟨a1, a2⟩ := ha t ht
    obtain ⟨n1, n2⟩ := hn t ht
    by_cases e : ρ (18 + t) = 0
    · exact Or.inl ⟨e, a1.1 e⟩
    · have hy : ρ (22 + t) ≠ 0 := fun h => e (a1.2 h)
      exact Or.inr ⟨a2.resolve_left e, hy, n1, fun s hs h => by
        rcases n2 s hs with h2 | h2
        · exact hy h2
        · exact h2 h.symm⟩
theorem cr_ans {ρ : Nat → Nat} {t : Nat} (h : CR ρ t) : ρ (18 + t) = 0 ∨ Aw (ρ (18 + t)) := by
  rcases h with ⟨h, _⟩ | ⟨h, _⟩
  · exact Or.inl h
  · exact Or.inr h
theorem nw_iff {ρ : Nat → Nat} : (∀ j, j < 32 → nw ρ j = ρ j) ↔ ρ 26 < 16 ∧ zR ρ := by
  constructor
  · intro h
    refine ⟨?_, fun j hj => ?_⟩
    · have := h 26 (by decide)
      unfold nw at this
      rw [if_pos rfl] at this
      omega
    · have := h (29 + j) (by omega)
      unfold nw at this
      rw [if_neg (by omega), if_neg (by omega)] at this
      exact this.symm
  · rintro ⟨h1, h2⟩ j hj
    unfold nw
    by_cases e : j = 26
    · subst e; rw [if_pos rfl]; omega
    · rw [if_neg e]
      by_cases e2 : j < 29
      · rw [if_pos e2]
      · rw [if_neg e2]
        have := h2 (j - 29) (by omega)
        rw [show 29 + (j - 29) = j by omega] at this
        exact this.symm
theorem isRec_iff {ρ : Nat → Nat} : isRec ρ ↔ isTh (ρ 0 : Nat) (ob ρ) ∧ (ρ 27 ≤ 1099511627776 ∧ ρ 28 ≤ 1099511627776) ∧ (∀ t, t < 4 → CR ρ t) ∧ (∀ j, j < 32 → nw ρ j = ρ j) := by
  rw [cr_iff, nw_iff, isTh_ob]
  unfold isRec
  constructor
  · rintro ⟨h1, h2, h3, h4, h5, h6, h7⟩
    exact ⟨h1, ⟨h6, h7⟩, ⟨h2, h3⟩, h5, h4⟩
  · rintro ⟨h1, ⟨h6, h7⟩, ⟨h2, h3⟩, h5, h4⟩
    exact ⟨h1, h2, h3, h4, h5, h6, h7⟩
theorem Th.low {B C : Nat} {w : World} {kind : Int} {c : Nat → Nat} {v : Value} {t : Tb} {n : Int} (h : Th B w kind c v t n) : Th B w kind c v t n := h
set_option maxRecDepth 20000 in
set_option maxHeartbeats 16000000 in
theorem RecOf_is {ρ : Nat → Nat} (U : ∀ j, j < 32 → ρ j < 18446744073709551616) {b : Bool} (hb : b = true ↔ isRec ρ) {bc : Nat} (w : World) (hC : Bo w bc (rl ρ)) :
    Calls Tryz.prog 29 #[.slice (some ⟨bc, 0, none⟩) 32 32] w (fun e w' => ∃ f, (∀ j, j < 37 → (f j).oneCell' = true) ∧ e = .returned (.tuple #[.agg (rv f).toArray, .bool b]) ∧ (b = true → ∃ B v t x, w.heap.size ≤ B ∧ v.oneCell' = true ∧ rv f = rv (rf (tg (ρ 0 : Nat) v t x) ρ 4) ∧ Th B w' (ρ 0 : Nat) (ob ρ) v t x) ∧ Below w.heap.size w w') := by
  have HC : Hid _ := hC
  have HBR : Hid (b = true ↔ isTh (ρ 0 : Nat) (ob ρ) ∧ (ρ 27 ≤ 1099511627776 ∧ ρ 28 ≤ 1099511627776) ∧ (∀ t, t < 4 → CR ρ t) ∧ (∀ j, j < 32 → nw ρ j = ρ j)) := hb.trans isRec_iff
  have U64 : Hid _ := U
  clear hC hb
  obtain ⟨k, hk⟩ : ∃ k, ρ 0 = k := ⟨_, rfl⟩
  have HK : Hid _ := hk
  by_cases h6 : k ≤ 6
  · have g6 : ¬ (6 : Int) < (k : Int) := by omega
    have gd : decide ((6 : Int) < (k : Int)) = false := by simp; omega
    have ek : IntKind.i64.wrap (k : Int) = k := by rw [IntKind.wrap_i64]; omega
    have K6 : ((k : Nat) : Int) ≤ 6 := by omega
    by_cases hO : isTh (ρ 0 : Nat) (ob ρ)
    · have TO : Hid (∀ {bc oc kc : Nat} {w : World} (hc : Wf w bc oc (ob ρ)), _) := fun {bc oc kc w} hc => ThingOf_is (kind := (ρ 0 : Nat)) (b := true) (bc := bc) (oc := oc) (kc := kc) ⟨fun _ => hO, fun _ => rfl⟩ hc
      rw [hk] at TO
      have HO : Hid (isTh (k : Nat) (ob ρ)) := hk ▸ hO
      clear hO hk
      have hM : Hid _ := (((Ms.nil w).bornR zf_all.symm 77 (b := w.heap.size) rfl).bornR zf_all.symm 77 (b := w.heap.size + 1) (by simp))
      have x1 := (HC.out.later hM.out.below).rwordx (show 0 < 32 by decide) HK.out
      go_enter Tryz.func29, Tryz.ntmps29
      go_wp2_with fail
      clear x1
      generalize World.alloc _ _ = W at hM ⊢
      generalize hsz : w.heap.size = n at hM ⊢
      clear hsz
      obtain ⟨y27, h27⟩ : ∃ y, ρ 27 = y := ⟨_, rfl⟩
      obtain ⟨y28, h28⟩ : ∃ y, ρ 28 = y := ⟨_, rfl⟩
      have H27 : Hid _ := h27
      have H28 : Hid _ := h28
      clear h27 h28
      replace hM := hid (hM.out.drew)
      refine wp_region_held_drew (S := fun w' => Bo w' bc (rl ρ)) (by kernel_rfl) (HC.out.later hM.out.below) (fun hH => ?_)
      generalize World.drew _ = W at hM hH  ⊢
      refine tk 0 rfl hH ?_
      simp only [Act.put, p1, p2, p3]
      refine tk 1 rfl hH ?_
      simp only [Act.put, p1, p2, p3]
      refine tk 2 rfl hH ?_ (by intro w h; have c0 := h.rwordx (show 0 < 32 by decide) HK.out; clear h; go_simp; try with_reducible rfl)
      simp only [Act.put, p1, p2, p3]
      refine tk 3 rfl hH ?_
      simp only [Act.put, p1, p2, p3]
      refine tk 4 rfl hH ?_
      simp only [Act.put, p1, p2, p3]
      refine tk 5 rfl hH ?_
      simp only [Act.put, p1, p2, p3]
      refine rd1 6 rfl (fun K hK => ?_)
      go_simp
      obtain ⟨B0, hB0⟩ : ∃ q, q = W.heap.size := ⟨_, rfl⟩
      have HB0 : Hid (n ≤ B0) := by rw [hB0]; exact hM.out.le
      refine (TO.out ⟨fun j hj => (HC.out.later hM.out.below).rword (show 1 + j < 32 by omega)⟩).mono ?_
      rintro e W ⟨v, t, x, hv, rfl, hth, hb⟩
      replace hM := hid (hM.out.laterL hb ((hth (by first | rfl | trivial)).isl K6) (Nat.le_refl _))
      clear hb
      have HV : Hid _ := hv
      have F0 : Hid (∀ j, j < 37 → (upl zf 0 (tg (k : Nat) v t x) j).oneCell' = true) := upl_one zf_one (tg_one _ hv t x)
      have TQ : Hid _ := (hth (by first | rfl | trivial)).tq
      rw [← hB0] at hM
      clear hB0
      clear hv hth
      go_wp2_with fail
      refine hK.out _ _ (HC.out.later hM.out.below) (fun hH => ?_)
      clear hK K
      try simp only [Act.put, p1, p2, p3]
      refine tk 7 rfl hH ?_
      simp only [Act.put, p1, p2, p3]
      refine tk 8 rfl hH ?_
      simp only [Act.put, p1, p2, p3]
      refine tk 9 rfl hH ?_
      simp only [Act.put, p1, p2, p3]
      refine tk 10 rfl hH ?_
      simp only [Act.put, p1, p2, p3]
      refine rd1 11 rfl (fun K hK => ?_)
      refine stO rfl ((hM.out.at 0 rfl).thereAt (o := 0) (n := (tg (k : Nat) v t x).length) (by rw [tg_length, rv_length]; decide)) (rwTh (k : Nat) HV.out t x) ?_
      replace hM := hid (hM.out.putAt 0 0 rfl (tg (k : Nat) v t x) (rv (upl zf 0 (tg (k : Nat) v t x))) ((hM.out.at 0 rfl).upl (by rw [tg_length]; decide)))
      refine hK.out _ _ (HC.out.later hM.out.below) (fun hH => ?_)
      clear hK K
      generalize World.setCells _ _ _ _ = W at hM hH ⊢
      try simp only [Act.put]
      refine tk 12 rfl hH ?_
      simp only [Act.put, p1, p2, p3]
      refine wpAnyH_done (by kernel_rfl) ?_ _
      go_wp2_with fail
      replace hM := hid (hM.out.drew)
      refine wp_region_held_drew (S := fun w' => Bo w' bc (rl ρ)) (by kernel_rfl) (HC.out.later hM.out.below) (fun hH => ?_)
      generalize World.drew _ = W at hM hH  ⊢
      refine tk 0 rfl hH ?_
      simp only [Act.put, p1, p2, p3]
      refine tk 1 rfl hH ?_
      simp only [Act.put, p1, p2, p3]
      refine tk 2 rfl hH ?_ (by intro w h; have c0 := h.rwordx (show 27 < 32 by decide) H27.out; clear h; go_simp; try with_reducible rfl)
      simp only [Act.put, p1, p2, p3]
      refine tk 3 rfl hH ?_
      simp only [Act.put, p1, p2, p3]
      refine tk 4 rfl hH ?_
      simp only [Act.put, p1, p2, p3]
      refine tk 5 rfl hH ?_ (by intro w h; have c0 := h.rwordx (show 28 < 32 by decide) H28.out; clear h; go_simp; try with_reducible rfl)
      simp only [Act.put, p1, p2, p3]
      refine tk 6 rfl hH ?_
      simp only [Act.put, p1, p2, p3]
      refine rd1 7 rfl (fun K hK => ?_)
      refine st1o rfl (hM.out.at 0 rfl) 35 (.int .u64 (y27 : Nat)) rfl sz_u (by rw [rv_length]; decide) ?_
      replace hM := hid (hM.out.put1 0 35 rfl (.int .u64 (y27 : Nat)) (rv (upv (upl zf 0 (tg (k : Nat) v t x)) 35 (.int .u64 (y27 : Nat)))) (by rw [rv_length]; decide) (rv_set _ _ (by decide)))
      refine hK.out _ _ (HC.out.later hM.out.below) (fun hH => ?_)
      clear hK K
      generalize World.setCell _ _ _ = W at hM hH ⊢
      try simp only [Act.put]
      refine tk 8 rfl hH ?_
      simp only [Act.put, p1, p2, p3]
      refine rd1 9 rfl (fun K hK => ?_)
      refine st1o rfl (hM.out.at 0 rfl) 36 (.int .u64 (y28 : Nat)) rfl sz_u (by rw [rv_length]; decide) ?_
      replace hM := hid (hM.out.put1 0 36 rfl (.int .u64 (y28 : Nat)) (rv (upv (upv (upl zf 0 (tg (k : Nat) v t x)) 35 (.int .u64 (y27 : Nat))) 36 (.int .u64 (y28 : Nat)))) (by rw [rv_length]; decide) (rv_set _ _ (by decide)))
      refine hK.out _ _ (HC.out.later hM.out.below) (fun hH => ?_)
      clear hK K
      generalize World.setCell _ _ _ = W at hM hH ⊢
      try simp only [Act.put]
      refine wpAnyH_done (by kernel_rfl) ?_ _
      have RZ0 : Hid (rv (upv (upv (upl zf 0 (tg (k : Nat) v t x)) 35 (.int .u64 (y27 : Nat))) 36 (.int .u64 (y28 : Nat))) = rv (rf (tg (k : Nat) v t x) ρ 0)) := by have h := rf_zero (tg_length (k : Nat) v t x) ρ; rw [H27.out, H28.out] at h; exact h
      rw [RZ0.out] at hM
      have FO : Hid (∀ i, ∀ j, j < 37 → (rf (tg (k : Nat) v t x) ρ i j).oneCell' = true) := fun i => rf_one (tg_one _ HV.out t x) (tg_length _ _ _ _)
      clear RZ0
      have x2 := (hM.out.at 0 rfl).rcell (j := 35) (by decide) (rf_ver.trans (by rw [H27.out]))
      have x3 := (hM.out.at 0 rfl).rcell (j := 36) (by decide) (rf_cnt.trans (by rw [H28.out]))
      by_cases g27 : y27 ≤ 1099511627776
      · have d27 : ¬ (1099511627776 : Int) < (y27 : Int) := by omega
        by_cases g28 : y28 ≤ 1099511627776
        · have d28 : ¬ (1099511627776 : Int) < (y28 : Int) := by omega
          have Y2 : Hid (y27 ≤ 1099511627776 ∧ y28 ≤ 1099511627776) := ⟨g27, g28⟩
          clear g27 g28
          obtain ⟨m, hm⟩ : ∃ q, q = W.heap.size := ⟨_, rfl⟩
          have hS : Hid (Sn (W.alloc (.map #[] 0)) m ρ 0) := by rw [hm]; exact Sn.made W ρ
          have hmm := @run_makeMap Tryz.prog
          replace hM := hid (hM.out.bornM hm)
          have HMM : Hid _ := hm
          clear hm
          go_wp2_with fail
          clear hmm
          clear x2 x3
          clear d27 d28
          rw [← HMM.out]
          generalize World.alloc _ _ = W at hM hS ⊢
          go_loopg [53] 4 (fun gg s53 wt => ∃ i : Nat, i ≤ 4 ∧ 4 - i ≤ gg ∧ s53 = .int .i64 i ∧ Hid (Sn wt m ρ i) ∧ Hid (∀ t, t < i → CR ρ t) ∧ Hid (Ms n w wt [(m, []), ((n + 1), rv (rf (tg (k : Nat) v t x) ρ i)), (n, rv zf)] [(B0, v, tl (k : Nat) (ob ρ))]))
          case atStart => exact ⟨0, by omega, by omega, rfl, hS, fun t ht => absurd ht (by omega), hM.out.pick [0, 1, 2]⟩
          case round =>
            clear hM hS
            obtain ⟨i, hi, hgg, rfl, hS, A, hM⟩ := hrel
            obtain ⟨W, rfl⟩ : ∃ q, q = wr := ⟨_, rfl⟩
            by_cases hlt : i < 4
            · obtain ⟨x1, hx⟩ : ∃ x, ρ (18 + i) = x := ⟨_, rfl⟩
              obtain ⟨y1, hy⟩ : ∃ y, ρ (22 + i) = y := ⟨_, rfl⟩
              have HX : Hid _ := hx
              have HY : Hid _ := hy
              have x64 : x1 < 18446744073709551616 := hx ▸ U64.out _ (by omega)
              have y64 : y1 < 18446744073709551616 := hy ▸ U64.out _ (by omega)
              have hi1 : (i : Int) < 4 := by omega
              have hi0 : (0 : Int) ≤ (i : Int) := by omega
              have fa0 : (0 : Int) ≤ 18 + (i : Int) := by omega
              have fa1 : 18 + (i : Int) < 32 := by omega
              have fan : Hid (18 + (i : Int) = ((18 + i : Nat) : Int)) := (by omega : 18 + (i : Int) = ((18 + i : Nat) : Int))
              have fax : 18 + i < 32 := by omega
              have fb0 : (0 : Int) ≤ 22 + (i : Int) := by omega
              have fb1 : 22 + (i : Int) < 32 := by omega
              have fbn : Hid (22 + (i : Int) = ((22 + i : Nat) : Int)) := (by omega : 22 + (i : Int) = ((22 + i : Nat) : Int))
              have fbx : 22 + i < 32 := by omega
              clear hx hy
              by_cases hx0 : x1 = 0
              · subst hx0
                by_cases hy0 : y1 = 0
                · subst hy0
                  have A1 : Hid (CR ρ i) := Or.inl ⟨HX.out, HY.out⟩
                  have gc0 : decide ((y28 : Int) < 0) = false := by simp
                  have gc1 : ¬ (y28 : Int) < 0 := by omega
                  have FB : Hid (∀ w, _) := fun w => refBit_yes (ρ 26) i w (U64.out 26 (by decide)) (by omega)
                  obtain ⟨z26, h26⟩ : ∃ z, ρ 26 = z := ⟨_, rfl⟩
                  have H26 : Hid _ := h26
                  have RN : Hid _ := rf_next (th := tg (k : Nat) v t x) (ρ := ρ) hlt
                  rw [h26] at FB RN
                  clear h26
                  rw [HX.out, HY.out] at RN
                  have RN : Hid (rv (upv (upv (upl (rf (tg (k : Nat) v t x) ρ i) (19 + i * 2) [.int .i64 0, .int .i64 0]) (27 + i) (.int .u64 (0 : Nat))) (31 + i) (.int .i64 ((z26.testBit i).toNat : Nat))) = rv (rf (tg (k : Nat) v t x) ρ (i + 1))) := RN.out
                  obtain ⟨bt, hbt⟩ : ∃ q, z26.testBit i = q := ⟨_, rfl⟩
                  rw [hbt] at FB RN
                  clear hbt
                  have fcx : 19 + i * 2 + 2 ≤ 37 := by omega
                  have fdx : 27 + i < 37 := by omega
                  have fex : 31 + i < 37 := by omega
                  have TG0 : Hid ((upv (upl (rf (tg (k : Nat) v t x) ρ i) (19 + i * 2) [.int .i64 0, .int .i64 0]) (27 + i) (.int .u64 (0 : Nat))) (31 + i) = .int .i64 0) := by show _ = _; unfold upv upl; rw [if_neg (by omega), if_neg (by simp only [List.length_cons, List.length_nil]; omega)]; exact rf_tog_old hlt
                  have fa2 : IntKind.i64.wrap (18 + (i : Int)) = 18 + (i : Int) := (ixw fa0 (Int.lt_of_lt_of_le fa1 (by decide))).1
                  have fb2 : IntKind.i64.wrap (22 + (i : Int)) = 22 + (i : Int) := (ixw fb0 (Int.lt_of_lt_of_le fb1 (by decide))).1
                  have x4 := (HC.out.later hM.out.below).rwordx fax HX.out
                  have x5 := (HC.out.later hM.out.below).rwordx fbx HY.out
                  go_wp2_with fail
                  clear x4 x5
                  refine (rtold_no (x := 0) (by decide) aw_zero _).mono ?_
                  rintro e W ⟨rfl, hb⟩
                  replace hM := hid (hM.out.later hb)
                  replace hS := hid (Sn.later hS.out hb)
                  clear hb
                  obtain ⟨bx6, hbx6⟩ : ∃ q, q = W.heap.size := ⟨_, rfl⟩
                  replace hM := hid (hM.out.born [.int .i64 0, .int .i64 0] 58 (b := bx6) hbx6)
                  have Hbx6 : Hid _ := hbx6
                  clear hbx6
                  replace hS := hid (hS.out.new (.cells [.int .i64 0, .int .i64 0].toArray 58))
                  go_wp2_with (first
                    | (rw [← Hbx6.out]; refine sR rfl (hM.out.at 0 rfl) rfl ((rwA 0 0).len (rwA _ _)) (rwA _ _) ?_
                       replace hS := hid (hS.out.asideL (hM.out.ne 1 0 rfl rfl (by decide)) 0 [.int .i64 0, .int .i64 0])
                       replace hM := hid (hM.out.put 0 rfl [.int .i64 0, .int .i64 0] ((rwA 0 0).len (rwA _ _)))
                       generalize World.setCells _ _ _ _ = W at hM hS ⊢
                       have x7 := (HC.out.later hM.out.below).rwordx fax HX.out
                       have x8 := (HC.out.later hM.out.below).rwordx fbx HY.out
                       have c9 := hM.out.cell 0 0 rfl rfl
                       have c10 := hM.out.cell 0 1 rfl rfl)
                    | (refine sR rfl (hM.out.at 0 rfl) rfl ((rwA _ _).len (rwA 0 0)) (rwA 0 0) ?_
                       replace hS := hid (hS.out.asideL (hM.out.ne 1 0 rfl rfl (by decide)) 0 [.int .i64 0, .int .i64 0])
                       replace hM := hid (hM.out.put 0 rfl [.int .i64 0, .int .i64 0] ((rwA _ _).len (rwA 0 0)))
                       generalize World.setCells _ _ _ _ = W at hM hS ⊢
                       clear x7 x8 c9 c10
                       have x11 := (HC.out.later hM.out.below).rwordx fax HX.out
                       have x12 := (HC.out.later hM.out.below).rwordx fbx HY.out
                       have c13 := hM.out.cell 0 0 rfl rfl
                       have c14 := hM.out.cell 0 1 rfl rfl
                       have x15 := (hM.out.at 2 rfl).rcell (j := 36) (by decide) (rf_cnt.trans (by rw [H28.out]))
                       obtain ⟨W2, mu, hS2, hgr⟩ := hS.out.add hi (U64.out _ (by omega))
                       rw [HY.out] at mu
                       replace mu : (Instr.mapUpdate 107 (.map (some m)) (.int .u64 0) (.bool true)).run Tryz.prog W = .ok () W2 := mu
                       have hM2 := hid (hM.out.turned 1 rfl hgr hS2.froz)
                       have HS2 : Hid (Sn W2 m ρ (i + 1)) := hS2
                       clear hS2 hgr
                       have cq0 := hM2.out.cell 0 0 rfl rfl
                       have cq1 := hM2.out.cell 0 1 rfl rfl)
                    | (refine sO rfl ((hM2.out.at 2 rfl).thereAt (o := 19 + i * 2) (n := ([.int .i64 0, .int .i64 0] : List Value).length) (by rw [rv_length]; exact fcx)) rfl (rwA 0 0) ?_
                       replace hS := hid (HS2.out.asideL (hM2.out.ne 1 2 rfl rfl (by decide)) (19 + i * 2) [.int .i64 0, .int .i64 0])
                       replace hM := hid (hM2.out.putAt 2 (19 + i * 2) rfl [.int .i64 0, .int .i64 0] (rv (upl (rf (tg (k : Nat) v t x) ρ i) (19 + i * 2) [.int .i64 0, .int .i64 0])) ((hM2.out.at 2 rfl).upl fcx))
                       generalize World.setCells _ _ _ _ = W at hM hS ⊢
                       clear hM2 HS2 mu cq0 cq1)
                    | (refine s1 rfl (hM.out.at 2 rfl) (27 + i) rfl (.int .u64 (0 : Nat)) rfl sz_u ?_ (by rw [rv_length]; exact fdx)
                       replace hS := hid (hS.out.aside1 (j := (27 + i)) (hM.out.ne 1 2 rfl rfl (by decide)) (.int .u64 (0 : Nat)))
                       replace hM := hid (hM.out.put1 2 (27 + i) rfl (.int .u64 (0 : Nat)) (rv (upv (upl (rf (tg (k : Nat) v t x) ρ i) (19 + i * 2) [.int .i64 0, .int .i64 0]) (27 + i) (.int .u64 (0 : Nat)))) (by rw [rv_length]; exact fdx) (rv_set _ _ fdx))
                       generalize World.setCell _ _ _ = W at hM hS ⊢
                       have x16 := (HC.out.later hM.out.below).rwordx (show 26 < 32 by decide) H26.out))
                  refine (FB.out _).mono ?_
                  rintro e W ⟨rfl, hg⟩
                  have hb := hg.below
                  clear hg
                  replace hS := hid (hS.out.later hb)
                  replace hM := hid (hM.out.later hb)
                  clear hb
                  clear x11 x12 c13 c14 x15 x16
                  rcases bt with _ | _
                  · have R2 := RN.out
                    rw [show (((false).toNat : Nat) : Int) = 0 from rfl, rf_tog0 hlt _ TG0.out] at R2
                    rw [R2] at hM
                    clear R2 RN TG0
                    go_wp2
                    replace hS : Hid (Sn _ m ρ (i + 1)) := hS
                    go_roundg (4 - (i + 1))
                    case measure => omega
                    case rel => exact ⟨i + 1, by omega, by omega, by go_num, hS, fun q hq => by by_cases e : q = i; (subst e; exact A1.out); exact A.out q (by omega), hM.out.pick [1, 2, 3]⟩
                  · go_wp2_with (first
                      | (refine s1 rfl (hM.out.at 2 rfl) (31 + i) rfl (.int .i64 1) rfl sz_i ?_ (by rw [rv_length]; exact fex)
                         replace hS := hid (hS.out.aside1 (j := (31 + i)) (hM.out.ne 1 2 rfl rfl (by decide)) (.int .i64 1))
                         replace hM := hid (hM.out.put1 2 (31 + i) rfl (.int .i64 1) (rv (upv (upv (upl (rf (tg (k : Nat) v t x) ρ i) (19 + i * 2) [.int .i64 0, .int .i64 0]) (27 + i) (.int .u64 (0 : Nat))) (31 + i) (.int .i64 1))) (by rw [rv_length]; exact fex) (rv_set _ _ fex))
                         generalize World.setCell _ _ _ = W at hM hS ⊢))
                    have R2 := RN.out
                    rw [show (((true).toNat : Nat) : Int) = 1 from rfl] at R2
                    rw [R2] at hM
                    clear R2 RN TG0
                    go_roundg (4 - (i + 1))
                    case measure => omega
                    case rel => exact ⟨i + 1, by omega, by omega, by go_num, hS, fun q hq => by by_cases e : q = i; (subst e; exact A1.out); exact A.out q (by omega), hM.out.pick [1, 2, 3]⟩
                · have fy : ((y1 : Nat) : Int) ≠ 0 := by omega
                  have gy : (((y1 : Nat) : Int) == 0) = false := by simpa using hy0
                  have eb : b = false := by cases b with | false => rfl | true => exact absurd (HBR.out.1 rfl) (fun h => by rcases h.2.2.1 i hlt with ⟨_, e⟩ | ⟨e, _⟩; exact hy0 (HY.out.symm.trans e); rw [HX.out] at e; exact aw_zero e)
                  subst eb
                  have fa2 : IntKind.i64.wrap (18 + (i : Int)) = 18 + (i : Int) := (ixw fa0 (Int.lt_of_lt_of_le fa1 (by decide))).1
                  have fb2 : IntKind.i64.wrap (22 + (i : Int)) = 22 + (i : Int) := (ixw fb0 (Int.lt_of_lt_of_le fb1 (by decide))).1
                  have x4 := (HC.out.later hM.out.below).rwordx fax HX.out
                  have x5 := (HC.out.later hM.out.below).rwordx fbx HY.out
                  go_wp2_with fail
                  clear x4 x5
                  refine (rtold_no (x := 0) (by decide) aw_zero _).mono ?_
                  rintro e W ⟨rfl, hb⟩
                  replace hM := hid (hM.out.later hb)
                  replace hS := hid (Sn.later hS.out hb)
                  clear hb
                  obtain ⟨bx6, hbx6⟩ : ∃ q, q = W.heap.size := ⟨_, rfl⟩
                  replace hM := hid (hM.out.born [.int .i64 0, .int .i64 0] 58 (b := bx6) hbx6)
                  have Hbx6 : Hid _ := hbx6
                  clear hbx6
                  replace hS := hid (hS.out.new (.cells [.int .i64 0, .int .i64 0].toArray 58))
                  go_wp2_with (first
                    | (rw [← Hbx6.out]; refine sR rfl (hM.out.at 0 rfl) rfl ((rwA 0 0).len (rwA 0 0)) (rwA 0 0) ?_
                       replace hS := hid (hS.out.asideL (hM.out.ne 1 0 rfl rfl (by decide)) 0 [.int .i64 0, .int .i64 0])
                       replace hM := hid (hM.out.put 0 rfl [.int .i64 0, .int .i64 0] ((rwA 0 0).len (rwA 0 0)))
                       generalize World.setCells _ _ _ _ = W at hM hS ⊢
                       have x7 := (HC.out.later hM.out.below).rwordx fax HX.out
                       have x8 := (HC.out.later hM.out.below).rwordx fbx HY.out
                       have c9 := hM.out.cell 0 0 rfl rfl
                       have c10 := hM.out.cell 0 1 rfl rfl)
                    | (refine sR rfl (hM.out.at 0 rfl) rfl ((rwA 0 0).len (rwA 0 0)) (rwA 0 0) ?_
                       replace hS := hid (hS.out.asideL (hM.out.ne 1 0 rfl rfl (by decide)) 0 [.int .i64 0, .int .i64 0])
                       replace hM := hid (hM.out.put 0 rfl [.int .i64 0, .int .i64 0] ((rwA 0 0).len (rwA 0 0)))
                       generalize World.setCells _ _ _ _ = W at hM hS ⊢
                       clear x7 x8 c9 c10
                       have x11 := (HC.out.later hM.out.below).rwordx fax HX.out
                       have x12 := (HC.out.later hM.out.below).rwordx fbx HY.out
                       have c13 := hM.out.cell 0 0 rfl rfl
                       have c14 := hM.out.cell 0 1 rfl rfl)
                    | (refine lR rfl (hM.out.at 2 rfl) rfl (rwV (FO.out i)) ?_)
                    | (refine sR rfl (hM.out.at 3 rfl) rfl ((rwV zf_one).len (rwV (FO.out i))) (rwV (FO.out i)) ?_
                       replace hS := hid (hS.out.asideL (hM.out.ne 1 3 rfl rfl (by decide)) 0 (rv (rf (tg (k : Nat) v t x) ρ i)))
                       replace hM := hid (hM.out.put 3 rfl (rv (rf (tg (k : Nat) v t x) ρ i)) ((rwV zf_one).len (rwV (FO.out i))))
                       generalize World.setCells _ _ _ _ = W at hM hS ⊢))
                  first | exact bodyPost_ret (res1s Tryz.results29 (hM.out.at 3 rfl) (rwV (FO.out i)) (.bool false)) rfl ⟨_, (FO.out i), rfl, hM.out.below⟩ | exact bodyPost_ret (res1s Tryz.results29 (hM.out.at 3 rfl) (rwV (FO.out i)) (.bool false)) rfl ⟨_, (FO.out i), rfl, fun h => (by cases h), hM.out.below⟩
              · have fx : ((x1 : Nat) : Int) ≠ 0 := by omega
                have gx : (((x1 : Nat) : Int) == 0) = false := by simpa using hx0
                by_cases ha : Aw x1
                · have RT : Hid (∀ w : World, _) := fun w => rtold_yes x64 ha w
                  have xa1 : ((x1 / 4294967296 : Nat) : Int) ≠ 0 := by have := ha.1; omega
                  have xa2 : (((x1 / 4294967296 : Nat) : Int) == 0) = false := by simpa using xa1
                  by_cases hy0 : y1 = 0
                  · have eb : b = false := by cases b with | false => rfl | true => exact absurd (HBR.out.1 rfl) (fun h => by rcases h.2.2.1 i hlt with ⟨e, _⟩ | ⟨_, e, _⟩; exact hx0 (HX.out.symm.trans e); exact e (HY.out.trans hy0))
                    subst eb
                    obtain ⟨xa, hxa⟩ : ∃ q, x1 / 4294967296 = q := ⟨_, rfl⟩
                    obtain ⟨xb, hxb⟩ : ∃ q, x1 % 4294967296 = q := ⟨_, rfl⟩
                    have HXA : Hid (ρ (18 + i) / 4294967296 = xa ∧ ρ (18 + i) % 4294967296 = xb) := by show _ ∧ _; rw [HX.out]; exact ⟨hxa, hxb⟩
                    rw [hxa, hxb] at RT
                    rw [hxa] at xa1 xa2
                    clear hxa hxb ha hx0
                    subst hy0
                    have fa2 : IntKind.i64.wrap (18 + (i : Int)) = 18 + (i : Int) := (ixw fa0 (Int.lt_of_lt_of_le fa1 (by decide))).1
                    have fb2 : IntKind.i64.wrap (22 + (i : Int)) = 22 + (i : Int) := (ixw fb0 (Int.lt_of_lt_of_le fb1 (by decide))).1
                    have x4 := (HC.out.later hM.out.below).rwordx fax HX.out
                    have x5 := (HC.out.later hM.out.below).rwordx fbx HY.out
                    go_wp2_with fail
                    clear x4 x5
                    refine (RT.out _).mono ?_
                    rintro e W ⟨rfl, hb⟩
                    replace hM := hid (hM.out.later hb)
                    replace hS := hid (Sn.later hS.out hb)
                    clear hb
                    obtain ⟨bx6, hbx6⟩ : ∃ q, q = W.heap.size := ⟨_, rfl⟩
                    replace hM := hid (hM.out.born [.int .i64 0, .int .i64 0] 58 (b := bx6) hbx6)
                    have Hbx6 : Hid _ := hbx6
                    clear hbx6
                    replace hS := hid (hS.out.new (.cells [.int .i64 0, .int .i64 0].toArray 58))
                    go_wp2_with (first
                      | (rw [← Hbx6.out]; refine sR rfl (hM.out.at 0 rfl) rfl ((rwA 0 0).len (rwA _ _)) (rwA _ _) ?_
                         replace hS := hid (hS.out.asideL (hM.out.ne 1 0 rfl rfl (by decide)) 0 [.int .i64 (xa : Nat), .int .i64 (xb : Nat)])
                         replace hM := hid (hM.out.put 0 rfl [.int .i64 (xa : Nat), .int .i64 (xb : Nat)] ((rwA 0 0).len (rwA _ _)))
                         generalize World.setCells _ _ _ _ = W at hM hS ⊢
                         have x7 := (HC.out.later hM.out.below).rwordx fax HX.out
                         have x8 := (HC.out.later hM.out.below).rwordx fbx HY.out
                         have c9 := hM.out.cell 0 0 rfl rfl
                         have c10 := hM.out.cell 0 1 rfl rfl
                         have x11 := (hM.out.at 2 rfl).rcell (j := 36) (by decide) (rf_cnt.trans (by rw [H28.out])))
                      | (refine lR rfl (hM.out.at 2 rfl) rfl (rwV (FO.out i)) ?_)
                      | (refine sR rfl (hM.out.at 3 rfl) rfl ((rwV zf_one).len (rwV (FO.out i))) (rwV (FO.out i)) ?_
                         replace hS := hid (hS.out.asideL (hM.out.ne 1 3 rfl rfl (by decide)) 0 (rv (rf (tg (k : Nat) v t x) ρ i)))
                         replace hM := hid (hM.out.put 3 rfl (rv (rf (tg (k : Nat) v t x) ρ i)) ((rwV zf_one).len (rwV (FO.out i))))
                         generalize World.setCells _ _ _ _ = W at hM hS ⊢))
                    first | exact bodyPost_ret (res1s Tryz.results29 (hM.out.at 3 rfl) (rwV (FO.out i)) (.bool false)) rfl ⟨_, (FO.out i), rfl, hM.out.below⟩ | exact bodyPost_ret (res1s Tryz.results29 (hM.out.at 3 rfl) (rwV (FO.out i)) (.bool false)) rfl ⟨_, (FO.out i), rfl, fun h => (by cases h), hM.out.below⟩
                  · by_cases hyc : y1 ≤ y28
                    · rcases hs : seenB ρ i y1 with _ | _
                      · have HSB : Hid _ := hs
                        have A1 : Hid (CR ρ i) := Or.inr ⟨by rw [HX.out]; exact ha, by rw [HY.out]; exact hy0, by rw [HY.out, H28.out]; exact hyc, fun q hq e => by
                          have : seenB ρ i y1 = true := seenB_iff.2 ⟨q, hq, e.trans HY.out⟩
                          rw [HSB.out] at this; exact absurd this (by decide)⟩
                        obtain ⟨xa, hxa⟩ : ∃ q, x1 / 4294967296 = q := ⟨_, rfl⟩
                        obtain ⟨xb, hxb⟩ : ∃ q, x1 % 4294967296 = q := ⟨_, rfl⟩
                        have HXA : Hid (ρ (18 + i) / 4294967296 = xa ∧ ρ (18 + i) % 4294967296 = xb) := by show _ ∧ _; rw [HX.out]; exact ⟨hxa, hxb⟩
                        rw [hxa, hxb] at RT
                        rw [hxa] at xa1 xa2
                        clear hxa hxb ha hx0
                        have fy : ((y1 : Nat) : Int) ≠ 0 := by omega
                        have gy : (((y1 : Nat) : Int) == 0) = false := by simpa using hy0
                        have gc : ¬ (y28 : Int) < (y1 : Int) := by omega
                        have gc2 : decide ((y28 : Int) < (y1 : Int)) = false := by simp; omega
                        have g0 : (0 : Int) < (y1 : Int) := by omega
                        clear hyc hy0
                        clear hs
                        have FB : Hid (∀ w, _) := fun w => refBit_yes (ρ 26) i w (U64.out 26 (by decide)) (by omega)
                        obtain ⟨z26, h26⟩ : ∃ z, ρ 26 = z := ⟨_, rfl⟩
                        have H26 : Hid _ := h26
                        have RN : Hid _ := rf_next (th := tg (k : Nat) v t x) (ρ := ρ) hlt
                        rw [h26] at FB RN
                        clear h26
                        rw [HXA.out.1, HXA.out.2, HY.out] at RN
                        obtain ⟨bt, hbt⟩ : ∃ q, z26.testBit i = q := ⟨_, rfl⟩
                        rw [hbt] at FB RN
                        clear hbt
                        have fcx : 19 + i * 2 + 2 ≤ 37 := by omega
                        have fdx : 27 + i < 37 := by omega
                        have fex : 31 + i < 37 := by omega
                        have TG0 : Hid ((upv (upl (rf (tg (k : Nat) v t x) ρ i) (19 + i * 2) [.int .i64 (xa : Nat), .int .i64 (xb : Nat)]) (27 + i) (.int .u64 (y1 : Nat))) (31 + i) = .int .i64 0) := by show _ = _; unfold upv upl; rw [if_neg (by omega), if_neg (by simp only [List.length_cons, List.length_nil]; omega)]; exact rf_tog_old hlt
                        have fa2 : IntKind.i64.wrap (18 + (i : Int)) = 18 + (i : Int) := (ixw fa0 (Int.lt_of_lt_of_le fa1 (by decide))).1
                        have fb2 : IntKind.i64.wrap (22 + (i : Int)) = 22 + (i : Int) := (ixw fb0 (Int.lt_of_lt_of_le fb1 (by decide))).1
                        have x4 := (HC.out.later hM.out.below).rwordx fax HX.out
                        have x5 := (HC.out.later hM.out.below).rwordx fbx HY.out
                        go_wp2_with fail
                        clear x4 x5
                        refine (RT.out _).mono ?_
                        rintro e W ⟨rfl, hb⟩
                        replace hM := hid (hM.out.later hb)
                        replace hS := hid (Sn.later hS.out hb)
                        clear hb
                        obtain ⟨bx6, hbx6⟩ : ∃ q, q = W.heap.size := ⟨_, rfl⟩
                        replace hM := hid (hM.out.born [.int .i64 0, .int .i64 0] 58 (b := bx6) hbx6)
                        have Hbx6 : Hid _ := hbx6
                        clear hbx6
                        replace hS := hid (hS.out.new (.cells [.int .i64 0, .int .i64 0].toArray 58))
                        go_wp2_with (first
                          | (rw [← Hbx6.out]; refine sR rfl (hM.out.at 0 rfl) rfl ((rwA 0 0).len (rwA _ _)) (rwA _ _) ?_
                             replace hS := hid (hS.out.asideL (hM.out.ne 1 0 rfl rfl (by decide)) 0 [.int .i64 (xa : Nat), .int .i64 (xb : Nat)])
                             replace hM := hid (hM.out.put 0 rfl [.int .i64 (xa : Nat), .int .i64 (xb : Nat)] ((rwA 0 0).len (rwA _ _)))
                             generalize World.setCells _ _ _ _ = W at hM hS ⊢
                             have x7 := (HC.out.later hM.out.below).rwordx fax HX.out
                             have x8 := (HC.out.later hM.out.below).rwordx fbx HY.out
                             have c9 := hM.out.cell 0 0 rfl rfl
                             have c10 := hM.out.cell 0 1 rfl rfl
                             have x11 := (hM.out.at 2 rfl).rcell (j := 36) (by decide) (rf_cnt.trans (by rw [H28.out]))
                             have lk := hS.out.look y64 HSB.out
                             obtain ⟨W2, mu, hS2, hgr⟩ := hS.out.add hi (U64.out _ (by omega))
                             rw [HY.out] at mu
                             have hM2 := hid (hM.out.turned 1 rfl hgr hS2.froz)
                             have HS2 : Hid (Sn W2 m ρ (i + 1)) := hS2
                             clear hS2 hgr
                             have cq0 := hM2.out.cell 0 0 rfl rfl
                             have cq1 := hM2.out.cell 0 1 rfl rfl)
                          | (refine sO rfl ((hM2.out.at 2 rfl).thereAt (o := 19 + i * 2) (n := ([.int .i64 (xa : Nat), .int .i64 (xb : Nat)] : List Value).length) (by rw [rv_length]; exact fcx)) rfl (rwA (xa : Nat) (xb : Nat)) ?_
                             replace hS := hid (HS2.out.asideL (hM2.out.ne 1 2 rfl rfl (by decide)) (19 + i * 2) [.int .i64 (xa : Nat), .int .i64 (xb : Nat)])
                             replace hM := hid (hM2.out.putAt 2 (19 + i * 2) rfl [.int .i64 (xa : Nat), .int .i64 (xb : Nat)] (rv (upl (rf (tg (k : Nat) v t x) ρ i) (19 + i * 2) [.int .i64 (xa : Nat), .int .i64 (xb : Nat)])) ((hM2.out.at 2 rfl).upl fcx))
                             generalize World.setCells _ _ _ _ = W at hM hS ⊢
                             clear hM2 HS2 mu cq0 cq1 lk)
                          | (refine s1 rfl (hM.out.at 2 rfl) (27 + i) rfl (.int .u64 (y1 : Nat)) rfl sz_u ?_ (by rw [rv_length]; exact fdx)
                             replace hS := hid (hS.out.aside1 (j := (27 + i)) (hM.out.ne 1 2 rfl rfl (by decide)) (.int .u64 (y1 : Nat)))
                             replace hM := hid (hM.out.put1 2 (27 + i) rfl (.int .u64 (y1 : Nat)) (rv (upv (upl (rf (tg (k : Nat) v t x) ρ i) (19 + i * 2) [.int .i64 (xa : Nat), .int .i64 (xb : Nat)]) (27 + i) (.int .u64 (y1 : Nat)))) (by rw [rv_length]; exact fdx) (rv_set _ _ fdx))
                             generalize World.setCell _ _ _ = W at hM hS ⊢
                             have x12 := (HC.out.later hM.out.below).rwordx (show 26 < 32 by decide) H26.out))
                        refine (FB.out _).mono ?_
                        rintro e W ⟨rfl, hg⟩
                        have hb := hg.below
                        clear hg
                        replace hS := hid (hS.out.later hb)
                        replace hM := hid (hM.out.later hb)
                        clear hb
                        clear x7 x8 c9 c10 x11 x12
                        rcases bt with _ | _
                        · have R2 := RN.out
                          rw [show (((false).toNat : Nat) : Int) = 0 from rfl, rf_tog0 hlt _ TG0.out] at R2
                          rw [R2] at hM
                          clear R2 RN TG0
                          go_wp2
                          replace hS : Hid (Sn _ m ρ (i + 1)) := hS
                          go_roundg (4 - (i + 1))
                          case measure => omega
                          case rel => exact ⟨i + 1, by omega, by omega, by go_num, hS, fun q hq => by by_cases e : q = i; (subst e; exact A1.out); exact A.out q (by omega), hM.out.pick [1, 2, 3]⟩
                        · go_wp2_with (first
                            | (refine s1 rfl (hM.out.at 2 rfl) (31 + i) rfl (.int .i64 1) rfl sz_i ?_ (by rw [rv_length]; exact fex)
                               replace hS := hid (hS.out.aside1 (j := (31 + i)) (hM.out.ne 1 2 rfl rfl (by decide)) (.int .i64 1))
                               replace hM := hid (hM.out.put1 2 (31 + i) rfl (.int .i64 1) (rv (upv (upv (upl (rf (tg (k : Nat) v t x) ρ i) (19 + i * 2) [.int .i64 (xa : Nat), .int .i64 (xb : Nat)]) (27 + i) (.int .u64 (y1 : Nat))) (31 + i) (.int .i64 1))) (by rw [rv_length]; exact fex) (rv_set _ _ fex))
                               generalize World.setCell _ _ _ = W at hM hS ⊢))
                          have R2 := RN.out
                          rw [show (((true).toNat : Nat) : Int) = 1 from rfl] at R2
                          rw [R2] at hM
                          clear R2 RN TG0
                          go_roundg (4 - (i + 1))
                          case measure => omega
                          case rel => exact ⟨i + 1, by omega, by omega, by go_num, hS, fun q hq => by by_cases e : q = i; (subst e; exact A1.out); exact A.out q (by omega), hM.out.pick [1, 2, 3]⟩
                      · have HSB : Hid _ := hs
                        have eb : b = false := by cases b with | false => rfl | true => exact absurd (HBR.out.1 rfl) (fun h => by rcases h.2.2.1 i hlt with ⟨e, _⟩ | ⟨_, _, _, e⟩; exact hx0 (HX.out.symm.trans e); obtain ⟨q, hq, h2⟩ := seenB_iff.1 HSB.out; exact e q hq (h2.trans HY.out.symm))
                        subst eb
                        obtain ⟨xa, hxa⟩ : ∃ q, x1 / 4294967296 = q := ⟨_, rfl⟩
                        obtain ⟨xb, hxb⟩ : ∃ q, x1 % 4294967296 = q := ⟨_, rfl⟩
                        have HXA : Hid (ρ (18 + i) / 4294967296 = xa ∧ ρ (18 + i) % 4294967296 = xb) := by show _ ∧ _; rw [HX.out]; exact ⟨hxa, hxb⟩
                        rw [hxa, hxb] at RT
                        rw [hxa] at xa1 xa2
                        clear hxa hxb ha hx0
                        have fy : ((y1 : Nat) : Int) ≠ 0 := by omega
                        have gy : (((y1 : Nat) : Int) == 0) = false := by simpa using hy0
                        have gc : ¬ (y28 : Int) < (y1 : Int) := by omega
                        have gc2 : decide ((y28 : Int) < (y1 : Int)) = false := by simp; omega
                        have g0 : (0 : Int) < (y1 : Int) := by omega
                        clear hyc hy0
                        clear hs
                        have fa2 : IntKind.i64.wrap (18 + (i : Int)) = 18 + (i : Int) := (ixw fa0 (Int.lt_of_lt_of_le fa1 (by decide))).1
                        have fb2 : IntKind.i64.wrap (22 + (i : Int)) = 22 + (i : Int) := (ixw fb0 (Int.lt_of_lt_of_le fb1 (by decide))).1
                        have x4 := (HC.out.later hM.out.below).rwordx fax HX.out
                        have x5 := (HC.out.later hM.out.below).rwordx fbx HY.out
                        go_wp2_with fail
                        clear x4 x5
                        refine (RT.out _).mono ?_
                        rintro e W ⟨rfl, hb⟩
                        replace hM := hid (hM.out.later hb)
                        replace hS := hid (Sn.later hS.out hb)
                        clear hb
                        obtain ⟨bx6, hbx6⟩ : ∃ q, q = W.heap.size := ⟨_, rfl⟩
                        replace hM := hid (hM.out.born [.int .i64 0, .int .i64 0] 58 (b := bx6) hbx6)
                        have Hbx6 : Hid _ := hbx6
                        clear hbx6
                        replace hS := hid (hS.out.new (.cells [.int .i64 0, .int .i64 0].toArray 58))
                        go_wp2_with (first
                          | (rw [← Hbx6.out]; refine sR rfl (hM.out.at 0 rfl) rfl ((rwA 0 0).len (rwA _ _)) (rwA _ _) ?_
                             replace hS := hid (hS.out.asideL (hM.out.ne 1 0 rfl rfl (by decide)) 0 [.int .i64 (xa : Nat), .int .i64 (xb : Nat)])
                             replace hM := hid (hM.out.put 0 rfl [.int .i64 (xa : Nat), .int .i64 (xb : Nat)] ((rwA 0 0).len (rwA _ _)))
                             generalize World.setCells _ _ _ _ = W at hM hS ⊢
                             have x7 := (HC.out.later hM.out.below).rwordx fax HX.out
                             have x8 := (HC.out.later hM.out.below).rwordx fbx HY.out
                             have c9 := hM.out.cell 0 0 rfl rfl
                             have c10 := hM.out.cell 0 1 rfl rfl
                             have x11 := (hM.out.at 2 rfl).rcell (j := 36) (by decide) (rf_cnt.trans (by rw [H28.out]))
                             have lk := hS.out.look y64 HSB.out)
                          | (refine lR rfl (hM.out.at 2 rfl) rfl (rwV (FO.out i)) ?_)
                          | (refine sR rfl (hM.out.at 3 rfl) rfl ((rwV zf_one).len (rwV (FO.out i))) (rwV (FO.out i)) ?_
                             replace hS := hid (hS.out.asideL (hM.out.ne 1 3 rfl rfl (by decide)) 0 (rv (rf (tg (k : Nat) v t x) ρ i)))
                             replace hM := hid (hM.out.put 3 rfl (rv (rf (tg (k : Nat) v t x) ρ i)) ((rwV zf_one).len (rwV (FO.out i))))
                             generalize World.setCells _ _ _ _ = W at hM hS ⊢))
                        first | exact bodyPost_ret (res1s Tryz.results29 (hM.out.at 3 rfl) (rwV (FO.out i)) (.bool false)) rfl ⟨_, (FO.out i), rfl, hM.out.below⟩ | exact bodyPost_ret (res1s Tryz.results29 (hM.out.at 3 rfl) (rwV (FO.out i)) (.bool false)) rfl ⟨_, (FO.out i), rfl, fun h => (by cases h), hM.out.below⟩
                    · have eb : b = false := by cases b with | false => rfl | true => exact absurd (HBR.out.1 rfl) (fun h => by rcases h.2.2.1 i hlt with ⟨e, _⟩ | ⟨_, _, e, _⟩; exact hx0 (HX.out.symm.trans e); rw [HY.out, H28.out] at e; exact hyc e)
                      subst eb
                      obtain ⟨xa, hxa⟩ : ∃ q, x1 / 4294967296 = q := ⟨_, rfl⟩
                      obtain ⟨xb, hxb⟩ : ∃ q, x1 % 4294967296 = q := ⟨_, rfl⟩
                      have HXA : Hid (ρ (18 + i) / 4294967296 = xa ∧ ρ (18 + i) % 4294967296 = xb) := by show _ ∧ _; rw [HX.out]; exact ⟨hxa, hxb⟩
                      rw [hxa, hxb] at RT
                      rw [hxa] at xa1 xa2
                      clear hxa hxb ha hx0
                      have fy : ((y1 : Nat) : Int) ≠ 0 := by omega
                      have gy : (((y1 : Nat) : Int) == 0) = false := by simpa using hy0
                      have gc : (y28 : Int) < (y1 : Int) := by omega
                      clear hyc hy0
                      have fa2 : IntKind.i64.wrap (18 + (i : Int)) = 18 + (i : Int) := (ixw fa0 (Int.lt_of_lt_of_le fa1 (by decide))).1
                      have fb2 : IntKind.i64.wrap (22 + (i : Int)) = 22 + (i : Int) := (ixw fb0 (Int.lt_of_lt_of_le fb1 (by decide))).1
                      have x4 := (HC.out.later hM.out.below).rwordx fax HX.out
                      have x5 := (HC.out.later hM.out.below).rwordx fbx HY.out
                      go_wp2_with fail
                      clear x4 x5
                      refine (RT.out _).mono ?_
                      rintro e W ⟨rfl, hb⟩
                      replace hM := hid (hM.out.later hb)
                      replace hS := hid (Sn.later hS.out hb)
                      clear hb
                      obtain ⟨bx6, hbx6⟩ : ∃ q, q = W.heap.size := ⟨_, rfl⟩
                      replace hM := hid (hM.out.born [.int .i64 0, .int .i64 0] 58 (b := bx6) hbx6)
                      have Hbx6 : Hid _ := hbx6
                      clear hbx6
                      replace hS := hid (hS.out.new (.cells [.int .i64 0, .int .i64 0].toArray 58))
                      go_wp2_with (first
                        | (rw [← Hbx6.out]; refine sR rfl (hM.out.at 0 rfl) rfl ((rwA 0 0).len (rwA _ _)) (rwA _ _) ?_
                           replace hS := hid (hS.out.asideL (hM.out.ne 1 0 rfl rfl (by decide)) 0 [.int .i64 (xa : Nat), .int .i64 (xb : Nat)])
                           replace hM := hid (hM.out.put 0 rfl [.int .i64 (xa : Nat), .int .i64 (xb : Nat)] ((rwA 0 0).len (rwA _ _)))
                           generalize World.setCells _ _ _ _ = W at hM hS ⊢
                           have x7 := (HC.out.later hM.out.below).rwordx fax HX.out
                           have x8 := (HC.out.later hM.out.below).rwordx fbx HY.out
                           have c9 := hM.out.cell 0 0 rfl rfl
                           have c10 := hM.out.cell 0 1 rfl rfl
                           have x11 := (hM.out.at 2 rfl).rcell (j := 36) (by decide) (rf_cnt.trans (by rw [H28.out])))
                        | (refine lR rfl (hM.out.at 2 rfl) rfl (rwV (FO.out i)) ?_)
                        | (refine sR rfl (hM.out.at 3 rfl) rfl ((rwV zf_one).len (rwV (FO.out i))) (rwV (FO.out i)) ?_
                           replace hS := hid (hS.out.asideL (hM.out.ne 1 3 rfl rfl (by decide)) 0 (rv (rf (tg (k : Nat) v t x) ρ i)))
                           replace hM := hid (hM.out.put 3 rfl (rv (rf (tg (k : Nat) v t x) ρ i)) ((rwV zf_one).len (rwV (FO.out i))))
                           generalize World.setCells _ _ _ _ = W at hM hS ⊢))
                      first | exact bodyPost_ret (res1s Tryz.results29 (hM.out.at 3 rfl) (rwV (FO.out i)) (.bool false)) rfl ⟨_, (FO.out i), rfl, hM.out.below⟩ | exact bodyPost_ret (res1s Tryz.results29 (hM.out.at 3 rfl) (rwV (FO.out i)) (.bool false)) rfl ⟨_, (FO.out i), rfl, fun h => (by cases h), hM.out.below⟩
                · have eb : b = false := by cases b with | false => rfl | true => exact absurd (HBR.out.1 rfl) (fun h => by rcases cr_ans (h.2.2.1 i hlt) with e | e <;> rw [HX.out] at e; exact hx0 e; exact ha e)
                  subst eb
                  have RT : Hid (∀ w : World, _) := fun w => rtold_no x64 ha w
                  clear ha hx0
                  have fa2 : IntKind.i64.wrap (18 + (i : Int)) = 18 + (i : Int) := (ixw fa0 (Int.lt_of_lt_of_le fa1 (by decide))).1
                  have fb2 : IntKind.i64.wrap (22 + (i : Int)) = 22 + (i : Int) := (ixw fb0 (Int.lt_of_lt_of_le fb1 (by decide))).1
                  have x4 := (HC.out.later hM.out.below).rwordx fax HX.out
                  have x5 := (HC.out.later hM.out.below).rwordx fbx HY.out
                  go_wp2_with fail
                  clear x4 x5
                  refine (RT.out _).mono ?_
                  rintro e W ⟨rfl, hb⟩
                  replace hM := hid (hM.out.later hb)
                  replace hS := hid (Sn.later hS.out hb)
                  clear hb
                  obtain ⟨bx6, hbx6⟩ : ∃ q, q = W.heap.size := ⟨_, rfl⟩
                  replace hM := hid (hM.out.born [.int .i64 0, .int .i64 0] 58 (b := bx6) hbx6)
                  have Hbx6 : Hid _ := hbx6
                  clear hbx6
                  replace hS := hid (hS.out.new (.cells [.int .i64 0, .int .i64 0].toArray 58))
                  go_wp2_with (first
                    | (rw [← Hbx6.out]; refine sR rfl (hM.out.at 0 rfl) rfl ((rwA 0 0).len (rwA 0 0)) (rwA 0 0) ?_
                       replace hS := hid (hS.out.asideL (hM.out.ne 1 0 rfl rfl (by decide)) 0 [.int .i64 0, .int .i64 0])
                       replace hM := hid (hM.out.put 0 rfl [.int .i64 0, .int .i64 0] ((rwA 0 0).len (rwA 0 0)))
                       generalize World.setCells _ _ _ _ = W at hM hS ⊢
                       have x7 := (HC.out.later hM.out.below).rwordx fax HX.out
                       have x8 := (HC.out.later hM.out.below).rwordx fbx HY.out
                       have c9 := hM.out.cell 0 0 rfl rfl
                       have c10 := hM.out.cell 0 1 rfl rfl)
                    | (refine lR rfl (hM.out.at 2 rfl) rfl (rwV (FO.out i)) ?_)
                    | (refine sR rfl (hM.out.at 3 rfl) rfl ((rwV zf_one).len (rwV (FO.out i))) (rwV (FO.out i)) ?_
                       replace hS := hid (hS.out.asideL (hM.out.ne 1 3 rfl rfl (by decide)) 0 (rv (rf (tg (k : Nat) v t x) ρ i)))
                       replace hM := hid (hM.out.put 3 rfl (rv (rf (tg (k : Nat) v t x) ρ i)) ((rwV zf_one).len (rwV (FO.out i))))
                       generalize World.setCells _ _ _ _ = W at hM hS ⊢))
                  first | exact bodyPost_ret (res1s Tryz.results29 (hM.out.at 3 rfl) (rwV (FO.out i)) (.bool false)) rfl ⟨_, (FO.out i), rfl, hM.out.below⟩ | exact bodyPost_ret (res1s Tryz.results29 (hM.out.at 3 rfl) (rwV (FO.out i)) (.bool false)) rfl ⟨_, (FO.out i), rfl, fun h => (by cases h), hM.out.below⟩
            · obtain rfl : i = 4 := by omega
              clear hS
              obtain rfl := HK.out
              obtain ⟨sb, hsb⟩ := bool_of (∀ j, j < 32 → nw ρ j = ρ j)
              have EB : Hid (b = sb) := Bool.eq_iff_iff.2 (HBR.out.trans ⟨fun h => hsb.2 h.2.2.2, fun h => ⟨HO.out, by rw [H27.out, H28.out]; exact Y2.out, A.out, hsb.1 h⟩⟩)
              have SM : Hid _ := hsb
              clear hsb
              have WDS : Hid (∀ W, IsL B0 W v (tl (ρ 0 : Nat) (ob ρ)) → _) := fun W hl => Words_is (ρ := ρ) (c := ob ρ) (th := tg (ρ 0 : Nat) v t x) (tg_length _ _ _ _) (tg_one _ HV.out t x) (rwTh _ HV.out t x) rfl h6 (fun _ _ => rfl) U64.out (fun t ht => cr_ans (A.out t ht)) W (fun W2 hb => TCells_is HO.out (TQ.out.th (hl.later hb)))
              go_wp2_with fail
              replace hM := hid (hM.out.drew)
              refine wp_region_held_drew (S := fun w' => Bo w' (n + 1) (rv (rf (tg (ρ 0 : Nat) v t x) ρ 4)) ∧ Bo w' bc (rl ρ)) (by kernel_rfl) ⟨hM.out.at 1 rfl, HC.out.later hM.out.below⟩ (fun hH => ?_)
              generalize World.drew _ = W at hM hH  ⊢
              refine tkR 0 rfl hH (fun _ h => h.1) (rwV (FO.out 4)) ?_
              simp only [Act.put, p1, p2, p3]
              refine tkR 1 rfl hH (fun _ h => h.1) (rwV (FO.out 4)) ?_
              simp only [Act.put, p1, p2, p3]
              refine tk 3 rfl hH ?_
              simp only [Act.put, p1, p2, p3]
              refine rd1 2 rfl (fun K hK => ?_)
              go_simp
              refine (WDS.out _ (hM.out.isL 0 rfl)).mono ?_
              rintro e W ⟨⟨bq, rfl, hq, hWq⟩, hb⟩
              replace hM := hid (hM.out.laterB hb hq hWq)
              clear hb
              go_wp2_with fail
              refine hK.out _ _ ⟨hM.out.at 2 rfl, HC.out.later hM.out.below⟩ (fun hH => ?_)
              clear hK K
              try simp only [Act.put, p1, p2, p3]
              refine rd1 4 rfl (fun K hK => ?_)
              go_simp
              refine (same_is SM.out _ (hM.out.at 0 rfl) (HC.out.later hM.out.below)).mono ?_
              rintro e W ⟨rfl, hb⟩
              replace hM := hid (hM.out.later hb)
              clear hb
              go_wp2_with fail
              refine hK.out _ _ ⟨hM.out.at 2 rfl, HC.out.later hM.out.below⟩ (fun hH => ?_)
              clear hK K
              try simp only [Act.put, p1, p2, p3]
              refine rd1 5 rfl (fun K hK => ?_)
              refine stR rfl (hM.out.at 3 rfl) ((rwV zf_one).len (rwV (FO.out 4))) (rwV (FO.out 4)) ?_
              simp only [Act.put]
              replace hM := hid (hM.out.put 3 rfl (rv (rf (tg (ρ 0 : Nat) v t x) ρ 4)) ((rwV zf_one).len (rwV (FO.out 4))))
              refine hK.out _ _ ⟨hM.out.at 2 rfl, HC.out.later hM.out.below⟩ (fun hH => ?_)
              clear hK K
              generalize World.setCells _ _ _ _ = W at hM hH ⊢
              try simp only [Act.put, p1, p2, p3]
              refine tk 6 rfl hH ?_
              simp only [Act.put, p1, p2, p3]
              refine wpAnyH_done (by kernel_rfl) ?_ _
              go_wp2
              exact bodyPost_ret (res1s Tryz.results29 (hM.out.at 3 rfl) (rwV (FO.out 4)) (.bool sb)) rfl ⟨_, FO.out 4, by rw [EB.out], fun _ => ⟨B0, v, t, x, by rw [hM.out.size]; exact HB0.out, HV.out, rfl, TQ.out.th (hM.out.isL 0 rfl)⟩, hM.out.below⟩
        · have d28 : (1099511627776 : Int) < (y28 : Int) := by omega
          have eb : b = false := by cases b with | false => rfl | true => exact absurd (HBR.out.1 rfl) (fun h => g28 (by have := h.2.1.2; rw [H28.out] at this; exact this))
          subst eb
          clear g28
          go_wp2_with (first
            | (refine lR rfl (hM.out.at 0 rfl) rfl (rwV (FO.out 0)) ?_)
            | (refine sR rfl (hM.out.at 1 rfl) rfl ((rwV zf_one).len (rwV (FO.out 0))) (rwV (FO.out 0)) ?_
               replace hM := hid (hM.out.put 1 rfl (rv (rf (tg (k : Nat) v t x) ρ 0)) ((rwV zf_one).len (rwV (FO.out 0))))
               generalize World.setCells _ _ _ _ = W at hM ⊢))
          first | exact bodyPost_ret (res1s Tryz.results29 (hM.out.at 1 rfl) (rwV (FO.out 0)) (.bool false)) rfl ⟨_, (FO.out 0), rfl, hM.out.below⟩ | exact bodyPost_ret (res1s Tryz.results29 (hM.out.at 1 rfl) (rwV (FO.out 0)) (.bool false)) rfl ⟨_, (FO.out 0), rfl, fun h => (by cases h), hM.out.below⟩
      · have d27 : (1099511627776 : Int) < (y27 : Int) := by omega
        have eb : b = false := by cases b with | false => rfl | true => exact absurd (HBR.out.1 rfl) (fun h => g27 (by have := h.2.1.1; rw [H27.out] at this; exact this))
        subst eb
        clear g27
        go_wp2_with (first
          | (refine lR rfl (hM.out.at 0 rfl) rfl (rwV (FO.out 0)) ?_)
          | (refine sR rfl (hM.out.at 1 rfl) rfl ((rwV zf_one).len (rwV (FO.out 0))) (rwV (FO.out 0)) ?_
             replace hM := hid (hM.out.put 1 rfl (rv (rf (tg (k : Nat) v t x) ρ 0)) ((rwV zf_one).len (rwV (FO.out 0))))
             generalize World.setCells _ _ _ _ = W at hM ⊢))
        first | exact bodyPost_ret (res1s Tryz.results29 (hM.out.at 1 rfl) (rwV (FO.out 0)) (.bool false)) rfl ⟨_, (FO.out 0), rfl, hM.out.below⟩ | exact bodyPost_ret (res1s Tryz.results29 (hM.out.at 1 rfl) (rwV (FO.out 0)) (.bool false)) rfl ⟨_, (FO.out 0), rfl, fun h => (by cases h), hM.out.below⟩
    · have TO : Hid (∀ {bc oc kc : Nat} {w : World} (hc : Wf w bc oc (ob ρ)), _) := fun {bc oc kc w} hc => ThingOf_is (kind := (ρ 0 : Nat)) (b := false) (bc := bc) (oc := oc) (kc := kc) ⟨fun h => (by cases h), fun h => absurd h hO⟩ hc
      rw [hk] at TO
      have eb : b = false := by cases b with | false => rfl | true => exact absurd (HBR.out.1 rfl) (fun h => hO h.1)
      subst eb
      clear hO hk h6
      have hM : Hid _ := (((Ms.nil w).bornR zf_all.symm 77 (b := w.heap.size) rfl).bornR zf_all.symm 77 (b := w.heap.size + 1) (by simp))
      have x1 := (HC.out.later hM.out.below).rwordx (show 0 < 32 by decide) HK.out
      go_enter Tryz.func29, Tryz.ntmps29
      go_wp2_with fail
      clear x1
      generalize World.alloc _ _ = W at hM ⊢
      generalize hsz : w.heap.size = n at hM ⊢
      clear hsz
      replace hM := hid (hM.out.drew)
      refine wp_region_held_drew (S := fun w' => Bo w' bc (rl ρ)) (by kernel_rfl) (HC.out.later hM.out.below) (fun hH => ?_)
      generalize World.drew _ = W at hM hH  ⊢
      refine tk 0 rfl hH ?_
      simp only [Act.put, p1, p2, p3]
      refine tk 1 rfl hH ?_
      simp only [Act.put, p1, p2, p3]
      refine tk 2 rfl hH ?_ (by intro w h; have c0 := h.rwordx (show 0 < 32 by decide) HK.out; clear h; go_simp; try with_reducible rfl)
      simp only [Act.put, p1, p2, p3]
      refine tk 3 rfl hH ?_
      simp only [Act.put, p1, p2, p3]
      refine tk 4 rfl hH ?_
      simp only [Act.put, p1, p2, p3]
      refine tk 5 rfl hH ?_
      simp only [Act.put, p1, p2, p3]
      refine rd1 6 rfl (fun K hK => ?_)
      go_simp
      refine (TO.out ⟨fun j hj => (HC.out.later hM.out.below).rword (show 1 + j < 32 by omega)⟩).mono ?_
      rintro e W ⟨v, t, x, hv, rfl, hth, hb⟩
      replace hM := hid (hM.out.later hb)
      clear hb
      have HV : Hid _ := hv
      have F0 : Hid (∀ j, j < 37 → (upl zf 0 (tg (k : Nat) v t x) j).oneCell' = true) := upl_one zf_one (tg_one _ hv t x)
      clear hv hth
      go_wp2_with fail
      refine hK.out _ _ (HC.out.later hM.out.below) (fun hH => ?_)
      clear hK K
      try simp only [Act.put, p1, p2, p3]
      refine tk 7 rfl hH ?_
      simp only [Act.put, p1, p2, p3]
      refine tk 8 rfl hH ?_
      simp only [Act.put, p1, p2, p3]
      refine tk 9 rfl hH ?_
      simp only [Act.put, p1, p2, p3]
      refine tk 10 rfl hH ?_
      simp only [Act.put, p1, p2, p3]
      refine rd1 11 rfl (fun K hK => ?_)
      refine stO rfl ((hM.out.at 0 rfl).thereAt (o := 0) (n := (tg (k : Nat) v t x).length) (by rw [tg_length, rv_length]; decide)) (rwTh (k : Nat) HV.out t x) ?_
      replace hM := hid (hM.out.putAt 0 0 rfl (tg (k : Nat) v t x) (rv (upl zf 0 (tg (k : Nat) v t x))) ((hM.out.at 0 rfl).upl (by rw [tg_length]; decide)))
      refine hK.out _ _ (HC.out.later hM.out.below) (fun hH => ?_)
      clear hK K
      generalize World.setCells _ _ _ _ = W at hM hH ⊢
      try simp only [Act.put]
      refine tk 12 rfl hH ?_
      simp only [Act.put, p1, p2, p3]
      refine wpAnyH_done (by kernel_rfl) ?_ _
      go_wp2_with (first
        | (refine lR rfl (hM.out.at 0 rfl) rfl (rwV F0.out) ?_)
        | (refine sR rfl (hM.out.at 1 rfl) rfl ((rwV zf_one).len (rwV F0.out)) (rwV F0.out) ?_
           replace hM := hid (hM.out.put 1 rfl (rv (upl zf 0 (tg (k : Nat) v t x))) ((rwV zf_one).len (rwV F0.out)))
           generalize World.setCells _ _ _ _ = W at hM ⊢))
      first | exact bodyPost_ret (res1s Tryz.results29 (hM.out.at 1 rfl) (rwV F0.out) (.bool false)) rfl ⟨_, F0.out, rfl, hM.out.below⟩ | exact bodyPost_ret (res1s Tryz.results29 (hM.out.at 1 rfl) (rwV F0.out) (.bool false)) rfl ⟨_, F0.out, rfl, fun h => (by cases h), hM.out.below⟩
  · have g6 : (6 : Int) < (k : Int) := by omega
    clear hk
    have eb : b = false := by cases b with | false => rfl | true => exact absurd (HBR.out.1 rfl) (fun h => by have := h.1.kind.2; rw [HK.out] at this; omega)
    subst eb
    clear h6
    have hM : Hid _ := (((Ms.nil w).bornR zf_all.symm 77 (b := w.heap.size) rfl).bornR zf_all.symm 77 (b := w.heap.size + 1) (by simp))
    have x1 := (HC.out.later hM.out.below).rwordx (show 0 < 32 by decide) HK.out
    go_enter Tryz.func29, Tryz.ntmps29
    go_wp2_with (first
      | (refine lR rfl (hM.out.at 0 rfl) rfl (rwV zf_one) ?_)
      | (refine sR rfl (hM.out.at 1 rfl) rfl ((rwV zf_one).len (rwV zf_one)) (rwV zf_one) ?_
         replace hM := hid (hM.out.put 1 rfl (rv zf) ((rwV zf_one).len (rwV zf_one)))
         generalize World.setCells _ _ _ _ = W at hM ⊢))
    first | exact bodyPost_ret (res1s Tryz.results29 (hM.out.at 1 rfl) (rwV zf_one) (.bool false)) rfl ⟨_, zf_one, rfl, hM.out.below⟩ | exact bodyPost_ret (res1s Tryz.results29 (hM.out.at 1 rfl) (rwV zf_one) (.bool false)) rfl ⟨_, zf_one, rfl, fun h => (by cases h), hM.out.below⟩
end Go.Proofs.YteogbpaaacmllaaGreatDoor.Tab
namespace Go.Proofs.YteogbpaaacmllaaGreatDoor.Tab
set_option maxRecDepth 20000
open Go.RowKit
set_option linter.unusedVariables false

set_option maxHeartbeats 8000000 in
theorem RDone_to {ρ : Nat → Nat} (hr : isRec ρ) {t : Nat} (ht : t < 4) {o k x : Int} (hR : Rt o k x) {B : Nat} {v : Value} {tt : Tb} {x0 : Int} (ho : v.oneCell' = true) (w : World) (hT : Th B w (ρ 0 : Nat) (ob ρ) v tt x0) :
    Calls Tryz.prog 33 #[.agg (rv (rf (tg (ρ 0 : Nat) v tt x0) ρ 4)).toArray, .int .i64 (t : Nat), .agg #[.int .i64 o, .int .i64 k, .int .i64 x]] w (fun e w' => ∃ C c' v' t' n', v'.oneCell' = true ∧ e = .returned (.agg (rv (rf (tg (ρ 0 : Nat) v' t' n') (rdo ρ t o k x) 4)).toArray) ∧ ((v' = v ∧ tl (ρ 0 : Nat) c' = tl (ρ 0 : Nat) (ob ρ)) ∨ w.heap.size ≤ C) ∧ (isTh (ρ 0 : Nat) c' ∧ (∀ j, j < 17 → c' j = ob (rdo ρ t o k x) j) ∧ Th C w' (ρ 0 : Nat) c' v' t' n') ∧ Below w.heap.size w w') := by
  obtain ⟨⟨d, ci, yi⟩, hu⟩ : ∃ u, odo (ρ 0 : Nat) (ob ρ) o k x = u := ⟨_, rfl⟩
  have ft := odo_ft hr.1 hR
  have f := odo_facts hr.1 hR.w1 hR.w6 hR.k0 hR.k1 hR.v0 hR.v1
  have hO : isTh (ρ 0 : Nat) (ob ρ) := isTh_ob.2 hr.1
  have hk6 : ((ρ 0 : Nat) : Int) ≤ 6 := hO.kind.2
  have DO : Hid (∀ {v : Value} {t : Tb} {n : Int} {w : World} (h : Th B w (ρ 0 : Nat) (ob ρ) v t n), _) := fun {v t n w} h => TDo_is hO hR h
  unfold DoesTh at DO
  rw [hu] at f ft DO
  have ec : ci = ((ci.toNat : Nat) : Int) := by have := f.code.1; dsimp only at this; omega
  have ey : yi = ((yi.toNat : Nat) : Int) := by have := f.told.1; dsimp only at this; omega
  dsimp only at ft DO
  have hd : ∀ j, j < 17 → ob (rdo ρ t o k x) j = d j := fun j hj => by have := rdo_ob (r := ρ) (t := t) (o := o) (k := k) (x := x) ht j hj; rw [hu] at this; exact this
  generalize ci.toNat = cc at *
  generalize yi.toNat = y at *
  subst ec ey
  have RN : Hid (∀ {th th' : List Value} (hl : th'.length = 19), _) := fun {th th'} hl => rf_done (th := th) ht hu ft hl
  have hc28 := hr.2.2.2.2.2.2
  have HT : Hid _ := hT
  have TQ0 : Hid _ := hT.tq
  have HD : Hid (isTh (ρ 0 : Nat) d ∧ ∀ j, j < 17 → d j = ob (rdo ρ t o k x) j) := ⟨isTh_ob.2 f.ob, fun j hj => (hd j hj).symm⟩
  have F1 : Hid (∀ j, j < 37 → (rf (tg (ρ 0 : Nat) v tt x0) ρ 4 j).oneCell' = true) := rf_one (tg_one _ ho tt x0) (tg_length _ _ _ _)
  obtain ⟨c, hc⟩ : ∃ c, ρ 28 = c := ⟨_, rfl⟩
  obtain ⟨c1, hc1⟩ : ∃ c1, c + 1 = c1 := ⟨_, rfl⟩
  obtain ⟨b, hb⟩ : ∃ b, (ρ 26).testBit t = b := ⟨_, rfl⟩
  rw [hc] at hc28
  have w1 : IntKind.u64.wrap ((c : Int) + 1) = (c1 : Nat) := by rw [IntKind.wrap_u64]; omega
  have eb : (1 : Int) - (b.toNat : Nat) = ((!b).toNat : Nat) := by cases b <;> rfl
  have wb : IntKind.i64.wrap ((1 : Int) - (b.toNat : Nat)) = ((!b).toNat : Nat) := by cases b <;> rfl
  have C0 : Hid (rf (tg (ρ 0 : Nat) v tt x0) ρ 4 36 = .int .u64 (c : Nat)) := rf_cnt.trans (by rw [hc])
  have T0 : Hid (rf (tg (ρ 0 : Nat) v tt x0) ρ 4 (31 + t) = .int .i64 (b.toNat : Nat)) := (rf_tog ht ht).trans (by rw [hb])
  rw [hc, hc1, hb] at RN
  have KO : Hid (1 ≤ ((ρ 0 : Nat) : Int) ∧ ((ρ 0 : Nat) : Int) ≤ 6) := hO.kind
  clear hc hc1 hb hc28 hu f ft hd hO hr hT
  generalize (!b).toNat = nb at *
  generalize b.toNat = ob1 at *
  have hi1 : (t : Int) < 4 := by omega
  have hi0 : (0 : Int) ≤ (t : Int) := by omega
  have fc : 19 + t * 2 + 2 ≤ 37 := by omega
  have fd : 27 + t < 37 := by omega
  have fe : 31 + t < 37 := by omega
  have n1 : (36 : Nat) ≠ 27 + t := by omega
  have n2 : ¬ (19 + t * 2 ≤ 36 ∧ 36 < 19 + t * 2 + 2) := by omega
  have n3 : ¬ (19 + t * 2 ≤ 31 + t ∧ 31 + t < 19 + t * 2 + 2) := by omega
  have n4 : (31 + t) ≠ 27 + t := by omega
  have n5 : (31 + t) ≠ 36 := by omega
  have n6 : ¬ (31 + t < 19) := by omega
  have hM : Hid _ := (((((Ms.nil w).oldL (HT.out.isl hk6)).born (rv (rf (tg (ρ 0 : Nat) v tt x0) ρ 4)) 77 (b := w.heap.size) rfl).born [.int .i64 o, .int .i64 k, .int .i64 x] 44 (b := w.heap.size + 1) (by simp)).bornR zf_all.symm 77 (b := w.heap.size + 2) (by simp))
  have c1 := hM.out.cell 1 0 rfl rfl
  have c2 := hM.out.cell 1 1 rfl rfl
  have c3 := hM.out.cell 1 2 rfl rfl
  go_enter Tryz.func33, Tryz.ntmps33
  go_wp2_with (first
    | (refine lR rfl (Bo.thing (hM.out.at 2 rfl) (tg_length _ _ _ _) (fun j hj => rf_th hj)) rfl (rwTh _ ho tt x0) ?_))
  clear c1 c2 c3
  generalize World.alloc _ _ = W at hM ⊢
  generalize hsz : w.heap.size = n at hM ⊢
  have HSZ2 : Hid _ := hsz
  clear hsz
  refine (DO.out (TQ0.out.th (hM.out.isL 0 rfl))).mono ?_
  rintro e W ⟨v2, t2, x2, rfl, hq2, ho2, hl2, hb⟩
  have hle := hM.out.le
  obtain ⟨B2, hB2, hM⟩ := hM.out.laterM hb hl2
  have HN2 : Hid _ := hid (hB2.out.imp id fun h => Nat.le_trans hle h)
  clear hb
  have HV2 : Hid _ := ho2
  have TQ2 : Hid _ := hq2
  clear hq2 hl2 hB2 hle
  have C1 : Hid ((upl (upl (rf (tg (ρ 0 : Nat) v tt x0) ρ 4) 0 (tg (ρ 0 : Nat) v2 t2 x2)) (19 + t * 2) [.int .i64 (cc : Nat), .int .i64 (y : Nat)]) 36 = .int .u64 (c : Nat)) := by show _ = _; unfold upl; rw [if_neg (by simp only [List.length_cons, List.length_nil]; exact n2), if_neg (by rw [tg_length]; decide)]; exact C0.out
  have C2 : Hid ((upv (upl (upl (rf (tg (ρ 0 : Nat) v tt x0) ρ 4) 0 (tg (ρ 0 : Nat) v2 t2 x2)) (19 + t * 2) [.int .i64 (cc : Nat), .int .i64 (y : Nat)]) 36 (.int .u64 (c1 : Nat))) 36 = .int .u64 (c1 : Nat)) := by show _ = _; unfold upv; rw [if_pos rfl]
  have T1 : Hid ((upv (upv (upl (upl (rf (tg (ρ 0 : Nat) v tt x0) ρ 4) 0 (tg (ρ 0 : Nat) v2 t2 x2)) (19 + t * 2) [.int .i64 (cc : Nat), .int .i64 (y : Nat)]) 36 (.int .u64 (c1 : Nat))) (27 + t) (.int .u64 (c1 : Nat))) (31 + t) = .int .i64 (ob1 : Nat)) := by show _ = _; unfold upv; rw [if_neg n4, if_neg n5]; unfold upl; rw [if_neg (by simp only [List.length_cons, List.length_nil]; exact n3), if_neg (by rw [tg_length]; omega)]; exact T0.out
  have RE := RN.out (th := (tg (ρ 0 : Nat) v tt x0)) (tg_length (ρ 0 : Nat) v2 t2 x2)
  have REH : Hid _ := RE
  clear RE RN n1 n2 n3 n4 n5 n6 ho2 eb
  have F2 : Hid (∀ j, j < 37 → (rf (tg (ρ 0 : Nat) v2 t2 x2) (rdo ρ t o k x) 4 j).oneCell' = true) := rf_one (tg_one _ HV2.out t2 x2) (tg_length _ _ _ _)
  go_wp2_with (first
    | (refine sO rfl ((hM.out.at 2 rfl).thereAt (o := 0) (n := (tg (ρ 0 : Nat) v2 t2 x2).length) (by rw [tg_length, rv_length]; decide)) rfl (rwTh _ HV2.out t2 x2) ?_
       replace hM := hid (hM.out.putAt 2 0 rfl (tg (ρ 0 : Nat) v2 t2 x2) (rv (upl (rf (tg (ρ 0 : Nat) v tt x0) ρ 4) 0 (tg (ρ 0 : Nat) v2 t2 x2))) ((hM.out.at 2 rfl).upl (by rw [tg_length]; decide)))
       generalize World.setCells _ _ _ _ = W at hM ⊢)
    | (refine sO rfl ((hM.out.at 2 rfl).thereAt (o := 19 + t * 2) (n := ([.int .i64 (cc : Nat), .int .i64 (y : Nat)] : List Value).length) (by rw [rv_length]; exact fc)) rfl (rwA (cc : Nat) (y : Nat)) ?_
       replace hM := hid (hM.out.putAt 2 (19 + t * 2) rfl [.int .i64 (cc : Nat), .int .i64 (y : Nat)] (rv (upl (upl (rf (tg (ρ 0 : Nat) v tt x0) ρ 4) 0 (tg (ρ 0 : Nat) v2 t2 x2)) (19 + t * 2) [.int .i64 (cc : Nat), .int .i64 (y : Nat)])) ((hM.out.at 2 rfl).upl fc))
       generalize World.setCells _ _ _ _ = W at hM ⊢
       have x4 := (hM.out.at 2 rfl).rcell (j := 36) (by decide) C1.out)
    | (refine s1 rfl (hM.out.at 2 rfl) 36 rfl (.int .u64 (c1 : Nat)) rfl sz_u ?_ (by rw [rv_length]; decide)
       replace hM := hid (hM.out.put1 2 36 rfl (.int .u64 (c1 : Nat)) (rv (upv (upl (upl (rf (tg (ρ 0 : Nat) v tt x0) ρ 4) 0 (tg (ρ 0 : Nat) v2 t2 x2)) (19 + t * 2) [.int .i64 (cc : Nat), .int .i64 (y : Nat)]) 36 (.int .u64 (c1 : Nat)))) (by rw [rv_length]; decide) (rv_set _ _ (by decide)))
       generalize World.setCell _ _ _ = W at hM ⊢
       clear x4
       have x5 := (hM.out.at 2 rfl).rcell (j := 36) (by decide) C2.out)
    | (refine s1 rfl (hM.out.at 2 rfl) (27 + t) rfl (.int .u64 (c1 : Nat)) rfl sz_u ?_ (by rw [rv_length]; exact fd)
       replace hM := hid (hM.out.put1 2 (27 + t) rfl (.int .u64 (c1 : Nat)) (rv (upv (upv (upl (upl (rf (tg (ρ 0 : Nat) v tt x0) ρ 4) 0 (tg (ρ 0 : Nat) v2 t2 x2)) (19 + t * 2) [.int .i64 (cc : Nat), .int .i64 (y : Nat)]) 36 (.int .u64 (c1 : Nat))) (27 + t) (.int .u64 (c1 : Nat)))) (by rw [rv_length]; exact fd) (rv_set _ _ (by exact fd)))
       generalize World.setCell _ _ _ = W at hM ⊢
       clear x5
       have x6 := (hM.out.at 2 rfl).rcell (j := 31 + t) fe T1.out)
    | (refine s1 rfl (hM.out.at 2 rfl) (31 + t) rfl (.int .i64 (nb : Nat)) rfl sz_i ?_ (by rw [rv_length]; exact fe)
       replace hM := hid (hM.out.put1 2 (31 + t) rfl (.int .i64 (nb : Nat)) (rv (upv (upv (upv (upl (upl (rf (tg (ρ 0 : Nat) v tt x0) ρ 4) 0 (tg (ρ 0 : Nat) v2 t2 x2)) (19 + t * 2) [.int .i64 (cc : Nat), .int .i64 (y : Nat)]) 36 (.int .u64 (c1 : Nat))) (27 + t) (.int .u64 (c1 : Nat))) (31 + t) (.int .i64 (nb : Nat)))) (by rw [rv_length]; exact fe) (rv_set _ _ (by exact fe)))
       generalize World.setCell _ _ _ = W at hM ⊢
       clear x6
       rw [REH.out] at hM)
    | (refine lR rfl (hM.out.at 2 rfl) rfl (rwV F2.out) ?_)
    | (refine sR rfl (hM.out.at 0 rfl) rfl ((rwV zf_one).len (rwV F2.out)) (rwV F2.out) ?_
       replace hM := hid (hM.out.put 0 rfl (rv (rf (tg (ρ 0 : Nat) v2 t2 x2) (rdo ρ t o k x) 4)) ((rwV zf_one).len (rwV F2.out)))
       generalize World.setCells _ _ _ _ = W at hM ⊢))
  exact bodyPost_ret (res1 Tryz.results33 (hM.out.at 0 rfl) (rwV F2.out)) rfl ⟨_, d, v2, t2, x2, HV2.out, rfl, by rw [HSZ2.out]; exact HN2.out, ⟨HD.out.1, HD.out.2, TQ2.out.th (hM.out.isL 0 rfl)⟩, hM.out.below⟩
end Go.Proofs.YteogbpaaacmllaaGreatDoor.Tab
namespace Go.Proofs.YteogbpaaacmllaaGreatDoor.Tab
set_option maxRecDepth 20000
open Go.RowKit
set_option linter.unusedVariables false

theorem rfR_yes {o k v : Int} (h : Rt o k v) (w : World) :
    Calls Tryz.prog 32 #[.agg #[.int .i64 o, .int .i64 k, .int .i64 v]] w fun e w' => e = .returned (.bool true) ∧ Below w.heap.size w w' := by
  obtain ⟨h1, h2, h3, h4, h5, h6⟩ := h
  have B : Hid _ := new_below w (.cells #[.int .i64 o, .int .i64 k, .int .i64 v] 44)
  go_enter Tryz.func32, Tryz.ntmps32
  go_wp2_with (go_at_call 31; refine (rwithin_yes _ _ _ _ (by omega) (by omega)).mono ?_; rintro e w' ⟨rfl, rfl⟩)
  go_ret
  exact ⟨rfl, B.out⟩
theorem rfR_no {o k v : Int} (h : ¬ Rt o k v) (w : World) :
    Calls Tryz.prog 32 #[.agg #[.int .i64 o, .int .i64 k, .int .i64 v]] w fun e w' => e = .returned (.bool false) ∧ Below w.heap.size w w' := by
  have B : Hid _ := new_below w (.cells #[.int .i64 o, .int .i64 k, .int .i64 v] 44)
  by_cases h1 : 1 ≤ o ∧ o ≤ 6
  · by_cases h2 : 0 ≤ k ∧ k ≤ 1000
    · have h3 : v < 0 ∨ 4294967295 < v := by
        by_cases e : 0 ≤ v ∧ v ≤ 4294967295
        · exact absurd ⟨h1.1, h1.2, h2.1, h2.2, e.1, e.2⟩ h
        · omega
      clear h
      go_enter Tryz.func32, Tryz.ntmps32
      go_wp2_with fail
      refine (rwithin_yes _ _ _ _ h1.1 h1.2).mono ?_
      rintro e w' ⟨rfl, hw⟩
      rw [hw]; clear hw w'
      go_wp2_with fail
      refine (rwithin_yes _ _ _ _ h2.1 h2.2).mono ?_
      rintro e w' ⟨rfl, hw⟩
      rw [hw]; clear hw w'
      go_wp2_with fail
      refine (rwithin_no _ _ _ _ h3).mono ?_
      rintro e w' ⟨rfl, hw⟩
      rw [hw]; clear hw w'
      go_wp2
      go_ret
      exact ⟨rfl, B.out⟩
    · have h3 : k < 0 ∨ 1000 < k := by omega
      clear h h2
      go_enter Tryz.func32, Tryz.ntmps32
      go_wp2_with fail
      refine (rwithin_yes _ _ _ _ h1.1 h1.2).mono ?_
      rintro e w' ⟨rfl, hw⟩
      rw [hw]; clear hw w'
      go_wp2_with fail
      refine (rwithin_no _ _ _ _ h3).mono ?_
      rintro e w' ⟨rfl, hw⟩
      rw [hw]; clear hw w'
      go_wp2
      go_ret
      exact ⟨rfl, B.out⟩
  · have h3 : o < 1 ∨ 6 < o := by omega
    clear h h1
    go_enter Tryz.func32, Tryz.ntmps32
    go_wp2_with fail
    refine (rwithin_no _ _ _ _ h3).mono ?_
    rintro e w' ⟨rfl, hw⟩
    rw [hw]; clear hw w'
    go_wp2
    go_ret
    exact ⟨rfl, B.out⟩
end Go.Proofs.YteogbpaaacmllaaGreatDoor.Tab
