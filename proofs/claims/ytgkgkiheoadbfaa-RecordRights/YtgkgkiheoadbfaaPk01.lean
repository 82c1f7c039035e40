/- Texts laid together: The reference's records, as they lie: facts of no program; The reference's map of the deeds that were seen, and steps of one cell; Package op's within and Right, by their contracts; Package op's Fits, Answer and Told, by their contracts; The reference's Fits, AnswerWord and AnswerOf, by their contracts; The reference's digits and number, by their contracts; The reference's Bit and Flip, by their contracts; The reference's Flip, by their contract; The reference's Thing.Cells, by its contract: a tally; Tables as rows of cells: a slot read, a slot written; Package table: free, home; Package table: Len, fits, found, Right, by their contracts; Package table: found, Right, by their contracts; Package table: byKey, without, by their contracts; Rows of this program's types: package table; Cells fr. -/
import Derived.Test.YtgkgkiheoadbfaaPk00
import Derived.Maps.Own
import Derived.Maps.OwnSet
import Derived.Maps.Views
import Derived.Test.YtgkgkiheoadbfaaRows
import Derived.WalkKit
import Derived.Laws.MakeOwn
import Derived.Deep.LoopGhost
import Derived.BigRegion
import Derived.Deep.QuietTactic
import Derived.Deep.RegionHeld3
import Derived.BigQuiet
import Derived.Deep.RegionWith
import Derived.Deep.DeepCutAuto
namespace Go.Proofs.Ytgkgkiheoadbfaa.Tab
set_option maxRecDepth 20000
open Go.RowKit
set_option linter.unusedVariables false

/-- Thirty-seven cells, by their numbers. -/
def rv (f : Nat → Value) : List Value := (List.range 37).map f
theorem rv_length (f : Nat → Value) : (rv f).length = 37 := by simp [rv]
theorem rv_at (f : Nat → Value) {j : Nat} (h : j < 37) : (rv f)[j]? = some (f j) := by simp [rv, h]
theorem rv_one {f : Nat → Value} (h : ∀ j, j < 37 → (f j).oneCell' = true) : ∀ v ∈ rv f, v.oneCell' = true := by
  intro v hv; simp only [rv, List.mem_map] at hv; obtain ⟨j, hj, rfl⟩ := hv; exact h j (by simpa using hj)
theorem rv_congr {f g : Nat → Value} (h : ∀ j, j < 37 → f j = g j) : rv f = rv g := List.map_congr_left fun j hj => h j (by simpa using hj)
def upv (f : Nat → Value) (j : Nat) (v : Value) : Nat → Value := fun k => if k = j then v else f k
def upl (f : Nat → Value) (o : Nat) (vs : List Value) : Nat → Value := fun k => if o ≤ k ∧ k < o + vs.length then vs.getD (k - o) undef else f k
theorem rv_set (f : Nat → Value) {j : Nat} (v : Value) (hj : j < 37) : (rv f).set j v = rv (upv f j v) := by
  apply List.ext_getElem?
  intro k
  by_cases hk : k < 37
  · rw [rv_at _ hk, List.getElem?_set, rv_length]
    by_cases e : j = k
    · subst e; simp [hj, upv]
    · rw [if_neg e, rv_at _ hk]; simp [upv, show k ≠ j from fun h => e h.symm]
  · rw [List.getElem?_eq_none (by rw [List.length_set, rv_length]; omega), List.getElem?_eq_none (by rw [rv_length]; omega)]
theorem Bo.rcell {w : World} {b j : Nat} {f : Nat → Value} {v : Value} (h : Bo w b (rv f)) (hj : j < 37) (hv : f j = v) : w.cell? ⟨b, j, none⟩ = some v := hv ▸ h.cell j _ (rv_at f hj)
theorem Bo.upl {w : World} {b o : Nat} {f : Nat → Value} {vs : List Value} (h : Bo w b (rv f)) (hl : o + vs.length ≤ 37) : Bo (w.setCells b o vs) b (rv (upl f o vs)) :=
  h.setAt (by rw [rv_length]; exact hl) fun j v hv => by
    have hj : j < 37 := by have := (List.getElem?_eq_some_iff.1 hv).1; rwa [rv_length] at this
    rw [rv_at _ hj] at hv
    unfold Tab.upl at hv
    by_cases e : o ≤ j ∧ j < o + vs.length
    · rw [if_pos e] at hv
      refine Or.inl ⟨e.1, e.2, ?_⟩
      rw [← hv, List.getElem?_eq_getElem (by omega)]
      congr 1
      rw [List.getD_eq_getElem?_getD, List.getElem?_eq_getElem (by omega), Option.getD_some]
    · rw [if_neg e] at hv
      exact Or.inr ⟨by omega, by rw [rv_at _ hj]; exact hv⟩

/-- The record that the words ρ are, as far as its first i threads; its thing's cells are th. -/
def rf (th : List Value) (ρ : Nat → Nat) (i : Nat) : Nat → Value := fun j =>
  if j < 19 then th.getD j undef
  else if j < 27 then (if j < 19 + i * 2 then (if j % 2 = 1 then .int .i64 ((ρ (18 + (j - 19) / 2) / 4294967296 : Nat) : Int) else .int .i64 ((ρ (18 + (j - 19) / 2) % 4294967296 : Nat) : Int)) else .int .i64 0)
  else if j < 31 then .int .u64 (((if j < 27 + i then ρ (j - 5) else 0) : Nat) : Int)
  else if j < 35 then .int .i64 (((if j < 31 + i then ((ρ 26).testBit (j - 31)).toNat else 0) : Nat) : Int)
  else if j = 35 then .int .u64 ((ρ 27 : Nat) : Int) else .int .u64 ((ρ 28 : Nat) : Int)
section
variable {th : List Value} {ρ : Nat → Nat} {i : Nat}
theorem rf_th {j : Nat} (h : j < 19) : rf th ρ i j = th.getD j undef := by unfold rf; rw [if_pos h]
theorem rf_code {t : Nat} (ht : t < 4) (hi : t < i) : rf th ρ i (19 + t * 2) = .int .i64 ((ρ (18 + t) / 4294967296 : Nat) : Int) := by
  unfold rf; rw [if_neg (by omega), if_pos (by omega), if_pos (by omega), if_pos (by omega), show 18 + (19 + t * 2 - 19) / 2 = 18 + t by omega]
theorem rf_val {t : Nat} (ht : t < 4) (hi : t < i) : rf th ρ i (19 + t * 2 + 1) = .int .i64 ((ρ (18 + t) % 4294967296 : Nat) : Int) := by
  unfold rf; rw [if_neg (by omega), if_pos (by omega), if_pos (by omega), if_neg (by omega), show 18 + (19 + t * 2 + 1 - 19) / 2 = 18 + t by omega]
theorem rf_when {t : Nat} (ht : t < 4) (hi : t < i) : rf th ρ i (27 + t) = .int .u64 ((ρ (22 + t) : Nat) : Int) := by
  unfold rf; rw [if_neg (by omega), if_neg (by omega), if_pos (by omega), if_pos (by omega), show 27 + t - 5 = 22 + t by omega]
theorem rf_tog {t : Nat} (ht : t < 4) (hi : t < i) : rf th ρ i (31 + t) = .int .i64 ((((ρ 26).testBit t).toNat : Nat) : Int) := by
  unfold rf; rw [if_neg (by omega), if_neg (by omega), if_neg (by omega), if_pos (by omega), if_pos (by omega), show 31 + t - 31 = t by omega]
theorem rf_ver : rf th ρ i 35 = .int .u64 ((ρ 27 : Nat) : Int) := by unfold rf; rw [if_neg (by omega), if_neg (by omega), if_neg (by omega), if_neg (by omega), if_pos rfl]
theorem rf_cnt : rf th ρ i 36 = .int .u64 ((ρ 28 : Nat) : Int) := by unfold rf; rw [if_neg (by omega), if_neg (by omega), if_neg (by omega), if_neg (by omega), if_neg (by omega)]
theorem rf_one (hth : ∀ v ∈ th, v.oneCell' = true) (hl : th.length = 19) : ∀ j, j < 37 → (rf th ρ i j).oneCell' = true := by
  intro j hj
  unfold rf
  split
  · rename_i h
    rw [List.getD_eq_getElem?_getD, List.getElem?_eq_getElem (by omega), Option.getD_some]
    exact hth _ (List.getElem_mem _)
  · split
    · split
      · split <;> rfl
      · rfl
    · split
      · rfl
      · split
        · rfl
        · split <;> rfl
/-- A thread more. -/
theorem rf_next (hi : i < 4) : rv (upv (upv (upl (rf th ρ i) (19 + i * 2) [.int .i64 ((ρ (18 + i) / 4294967296 : Nat) : Int), .int .i64 ((ρ (18 + i) % 4294967296 : Nat) : Int)]) (27 + i) (.int .u64 ((ρ (22 + i) : Nat) : Int))) (31 + i) (.int .i64 ((((ρ 26).testBit i).toNat : Nat) : Int))) = rv (rf th ρ (i + 1)) := rv_congr fun j hj => by
  unfold upv
  by_cases h31 : j = 31 + i
  · subst h31; rw [if_pos rfl, rf_tog hi (by omega)]
  rw [if_neg h31]
  by_cases h27 : j = 27 + i
  · subst h27; rw [if_pos rfl, rf_when hi (by omega)]
  rw [if_neg h27]
  unfold upl
  simp only [List.length_cons, List.length_nil]
  by_cases h19 : j = 19 + i * 2
  · subst h19; rw [if_pos (by omega), rf_code hi (by omega), Nat.sub_self]; rfl
  by_cases h20 : j = 19 + i * 2 + 1
  · subst h20; rw [if_pos (by omega), rf_val hi (by omega), show 19 + i * 2 + 1 - (19 + i * 2) = 1 by omega]; rfl
  rw [if_neg (by omega)]
  unfold rf
  by_cases a1 : j < 19
  · rw [if_pos a1, if_pos a1]
  rw [if_neg a1, if_neg a1]
  by_cases a2 : j < 27
  · rw [if_pos a2, if_pos a2]
    by_cases a3 : j < 19 + i * 2
    · rw [if_pos a3, if_pos (show j < 19 + (i + 1) * 2 by omega)]
    · rw [if_neg a3, if_neg (show ¬ j < 19 + (i + 1) * 2 by omega)]
  rw [if_neg a2, if_neg a2]
  by_cases a4 : j < 31
  · rw [if_pos a4, if_pos a4]
    by_cases a5 : j < 27 + i
    · rw [if_pos a5, if_pos (by omega)]
    · rw [if_neg a5, if_neg (by omega)]
  rw [if_neg a4, if_neg a4]
  by_cases a6 : j < 35
  · rw [if_pos a6, if_pos a6]
    by_cases a7 : j < 31 + i
    · rw [if_pos a7, if_pos (by omega)]
    · rw [if_neg a7, if_neg (by omega)]
  rw [if_neg a6, if_neg a6]
/-- Where the toggle is not turned, its cell is 0 as it was. -/
theorem rf_tog0 (hi : i < 4) (f : Nat → Value) (hf : f (31 + i) = .int .i64 0) : upv f (31 + i) (.int .i64 0) = f := by
  funext j; unfold upv; by_cases e : j = 31 + i
  · rw [if_pos e, e, hf]
  · rw [if_neg e]
theorem rf_tog_old (hi : i < 4) : rf th ρ i (31 + i) = .int .i64 0 := by
  unfold rf; rw [if_neg (by omega), if_neg (by omega), if_neg (by omega), if_pos (by omega), if_neg (by omega)]; rfl
end
/-- A record in which there is nothing. -/
def zf : Nat → Value := fun j => if j = 1 then .slice none 0 0 else if 27 ≤ j ∧ j < 31 ∨ 35 ≤ j then .int .u64 0 else .int .i64 0
theorem zf_one : ∀ j, j < 37 → (zf j).oneCell' = true := by intro j _; unfold zf; split <;> (try split) <;> rfl
theorem zf_all : (rv zf).toArray = #[.int .i64 0, .slice none 0 0, .int .i64 0, .int .i64 0, .int .i64 0, .int .i64 0, .int .i64 0, .int .i64 0, .int .i64 0, .int .i64 0, .int .i64 0, .int .i64 0, .int .i64 0, .int .i64 0, .int .i64 0, .int .i64 0, .int .i64 0, .int .i64 0, .int .i64 0,
    .int .i64 0, .int .i64 0, .int .i64 0, .int .i64 0, .int .i64 0, .int .i64 0, .int .i64 0, .int .i64 0, .int .u64 0, .int .u64 0, .int .u64 0, .int .u64 0, .int .i64 0, .int .i64 0, .int .i64 0, .int .i64 0, .int .u64 0, .int .u64 0] := rfl
theorem rf_zero {th : List Value} (hl : th.length = 19) (ρ : Nat → Nat) : rv (upv (upv (upl zf 0 th) 35 (.int .u64 ((ρ 27 : Nat) : Int))) 36 (.int .u64 ((ρ 28 : Nat) : Int))) = rv (rf th ρ 0) := rv_congr fun j hj => by
  unfold upv
  by_cases h36 : j = 36
  · subst h36; rw [if_pos rfl, rf_cnt]
  rw [if_neg h36]
  by_cases h35 : j = 35
  · subst h35; rw [if_pos rfl, rf_ver]
  rw [if_neg h35]
  unfold upl
  rw [hl]
  by_cases h19 : j < 19
  · rw [if_pos (by omega), rf_th h19, Nat.sub_zero]
  rw [if_neg (by omega)]
  unfold zf rf
  rw [if_neg (by omega), if_neg h19]
  by_cases a2 : j < 27
  · rw [if_pos a2, if_neg (by omega), if_neg (by omega)]
  rw [if_neg a2]
  by_cases a4 : j < 31
  · rw [if_pos a4, if_pos (by omega), if_neg (by omega)]; rfl
  rw [if_neg a4, if_neg (show ¬(27 ≤ j ∧ j < 31 ∨ 35 ≤ j) by omega), if_pos (show j < 35 by omega), if_neg (show ¬ j < 31 + 0 by omega)]; rfl

/-- A record's thing, and a thread's answer, as rows within it. -/
theorem Bo.thing {w : World} {b : Nat} {f : Nat → Value} {th : List Value} (h : Bo w b (rv f)) (hl : th.length = 19) (hf : ∀ j, j < 19 → f j = th.getD j undef) : Bo w b th :=
  ⟨fun j v hv => by
    have hj : j < 19 := by have := (List.getElem?_eq_some_iff.1 hv).1; omega
    refine h.rcell (by omega) ?_
    rw [hf j hj, List.getD_eq_getElem?_getD, hv, Option.getD_some], h.froz, h.lt⟩
theorem Bo.two {w : World} {b q : Nat} {f : Nat → Value} {x y : Value} (h : Bo w b (rv f)) (hq : q + 1 < 37) (hx : f q = x) (hy : f (q + 1) = y) : w.rangeAt b q [x, y] := fun j v hv => by
  match j, hv with
  | 0, hv => cases hv; exact h.rcell (by omega) hx
  | 1, hv => cases hv; exact h.rcell hq hy
/-- What words a record that words are has. -/
def nw (ρ : Nat → Nat) : Nat → Nat := fun j => if j = 26 then ρ 26 % 16 else if j < 29 then ρ j else 0
def wq (ρ : Nat → Nat) (i : Nat) : Nat → Nat := fun j => if j < 18 then ρ j else if j < 22 then (if j < 18 + i then ρ j else 0) else if j < 26 then (if j < 22 + i then ρ j else 0) else if j = 26 then ρ 26 % 2 ^ i else 0
theorem wq_zero (ρ c : Nat → Nat) (hc : ∀ j, j < 17 → c j = ob ρ j) : rl (wo (upw wz 0 (ρ 0)) c) = rl (wq ρ 0) := rl_congr fun j hj => by
  unfold wo upw wq wz
  by_cases h1 : 1 ≤ j ∧ j < 18
  · rw [if_pos h1, if_pos h1.2, hc _ (by omega)]; unfold ob; rw [show 1 + (j - 1) = j by omega]
  rw [if_neg h1]
  by_cases h0 : j = 0
  · subst h0; rfl
  rw [if_neg h0, if_neg (show ¬ j < 18 by omega)]
  by_cases a2 : j < 22
  · rw [if_pos a2, if_neg (show ¬ j < 18 + 0 by omega)]
  rw [if_neg a2]
  by_cases a4 : j < 26
  · rw [if_pos a4, if_neg (show ¬ j < 22 + 0 by omega)]
  rw [if_neg a4, Nat.pow_zero, Nat.mod_one]
  split <;> rfl
theorem mod_xor (x i : Nat) : (x % 2 ^ i) ^^^ 2 ^ i = x % 2 ^ i + 2 ^ i := by
  have h : x % 2 ^ i < 2 ^ i := Nat.mod_lt _ (Nat.two_pow_pos i)
  have h1 := Nat.two_pow_add_eq_or_of_lt h 1
  rw [Nat.mul_one] at h1
  rw [Nat.add_comm, h1]
  apply Nat.eq_of_testBit_eq
  intro j
  rw [Nat.testBit_xor, Nat.testBit_or, Nat.testBit_mod_two_pow, Nat.testBit_two_pow]
  by_cases e : i = j
  · subst e; simp
  · simp [e]
theorem wq_next (ρ : Nat → Nat) {i : Nat} (hi : i < 4) : rl (upw (upw (upw (wq ρ i) (18 + i) (ρ (18 + i))) (22 + i) (ρ (22 + i))) 26 (ρ 26 % 2 ^ (i + 1))) = rl (wq ρ (i + 1)) := rl_congr fun j hj => by
  unfold upw wq
  by_cases h26 : j = 26
  · subst h26; rfl
  rw [if_neg h26]
  by_cases h22 : j = 22 + i
  · subst h22; rw [if_pos rfl, if_neg (by omega), if_neg (by omega), if_pos (by omega), if_pos (by omega)]
  rw [if_neg h22]
  by_cases h18 : j = 18 + i
  · subst h18; rw [if_pos rfl, if_neg (by omega), if_pos (by omega), if_pos (by omega)]
  rw [if_neg h18]
  by_cases a1 : j < 18
  · rw [if_pos a1, if_pos a1]
  rw [if_neg a1, if_neg a1]
  by_cases a2 : j < 22
  · rw [if_pos a2, if_pos a2]
    by_cases a3 : j < 18 + i
    · rw [if_pos a3, if_pos (by omega)]
    · rw [if_neg a3, if_neg (by omega)]
  rw [if_neg a2, if_neg a2]
  by_cases a4 : j < 26
  · rw [if_pos a4, if_pos a4]
    by_cases a5 : j < 22 + i
    · rw [if_pos a5, if_pos (by omega)]
    · rw [if_neg a5, if_neg (by omega)]
  rw [if_neg a4, if_neg a4, if_neg h26, if_neg h26]
theorem wq_all (ρ : Nat → Nat) : rl (upw (upw (wq ρ 4) 27 (ρ 27)) 28 (ρ 28)) = rl (nw ρ) := rl_congr fun j hj => by
  unfold upw wq nw
  by_cases h28 : j = 28
  · subst h28; rfl
  rw [if_neg h28]
  by_cases h27 : j = 27
  · subst h27; rfl
  rw [if_neg h27]
  by_cases h26 : j = 26
  · subst h26; rfl
  rw [if_neg h26]
  by_cases a1 : j < 18
  · rw [if_pos a1, if_neg h26, if_pos (show j < 29 by omega)]
  rw [if_neg a1]
  by_cases a2 : j < 22
  · rw [if_pos a2, if_pos (show j < 18 + 4 by omega), if_neg h26, if_pos (show j < 29 by omega)]
  rw [if_neg a2]
  by_cases a4 : j < 26
  · rw [if_pos a4, if_pos (show j < 22 + 4 by omega), if_neg h26, if_pos (show j < 29 by omega)]
  rw [if_neg a4, if_neg h26, if_neg (show ¬ j < 29 by omega)]
end Go.Proofs.Ytgkgkiheoadbfaa.Tab
namespace Go.Proofs.Ytgkgkiheoadbfaa.Tab
set_option maxRecDepth 20000
open Go.RowKit Go.Maps
set_option linter.unusedVariables false

theorem rec_struct : ∃ fs, Try.prog.underlying 47 = some (.struct fs) := ⟨_, Try.underlying47⟩
theorem rwV {f : Nat → Value} (h : ∀ j, j < 37 → (f j).oneCell' = true) : Rw Try.prog 47 (rv f) := ⟨let ⟨_, h⟩ := rec_struct; ⟨_, h, rfl⟩, by rw [rv_length]; kernel_rfl, rv_one h⟩
theorem upl_one {f : Nat → Value} {o : Nat} {vs : List Value} (h : ∀ j, j < 37 → (f j).oneCell' = true) (hv : ∀ v ∈ vs, v.oneCell' = true) : ∀ j, j < 37 → (upl f o vs j).oneCell' = true := by
  intro j hj
  unfold upl
  split
  · rename_i e
    rw [List.getD_eq_getElem?_getD, List.getElem?_eq_getElem (by omega), Option.getD_some]
    exact hv _ (List.getElem_mem _)
  · exact h j hj
theorem upv_one {f : Nat → Value} {k : Nat} {v : Value} (h : ∀ j, j < 37 → (f j).oneCell' = true) (hv : v.oneCell' = true) : ∀ j, j < 37 → (upv f k v j).oneCell' = true := by
  intro j hj
  unfold upv
  split
  · exact hv
  · exact h j hj
section
variable {P : Program} {Q : Exit → Act → World → Prop} {a : Act} {w : World}
/-- One cell stored, as a step. -/
theorem st1o {o : Oper} {K : Act → World → Prop} {T : TypeId} {x y : Operand} {b : Nat} {cs : List Value} (ho : o.op = .store T x y) (hB : Bo w b cs) (j : Nat) (v : Value) (hv : v.oneCell' = true) (hi : (P.info? T).map (·.size) = some 1) (hj : j < cs.length)
    (k : K (a.put o.dst undef) (w.setCell ⟨b, j, none⟩ v)) (hx : a.eval x = .pointer (some ⟨b, j, none⟩) := by rfl) (hy : a.eval y = v := by rfl) : o.wp P a w K Q := by
  unfold Oper.wp execOp
  simp only [ho, hx, hy, Instr.storeAt, Instr.sureAddr, Sem.run_bind, Sem.run_pure, Result.andThen_ok, run_store1 w b j T v (hB.cell j _ (List.getElem?_eq_getElem hj)) (hB.froz j) hi hv]
  exact k
end

/-- What was seen behind i threads, and where it lies. -/
def Rvb (v : Value) : Option (DataW Value × List MemPlace) := some (.held v, [])
def Ds (ρ : Nat → Nat) : Nat → DataW Value
  | 0 => .map []
  | i + 1 => (Ds ρ i).put (.int .u64 ((ρ (22 + i) : Nat) : Int)) (.held (.bool true))
def Sn (W : World) (m : Nat) (ρ : Nat → Nat) (i : Nat) : Prop := W.ownsMap Try.prog 22 Rvb m i (Ds ρ i)
theorem seen_desc : Try.prog.underlying 68 = some (.map 22 4) := by kernel_rfl
theorem u64_desc : Try.prog.underlying 22 = some (.int .u64) := by kernel_rfl
theorem zero_bool (w : World) : (zeroValue 4).run Try.prog w = .ok (.bool false) w := by kernel_rfl
theorem wf_u64' {k : Nat} (h : k < 18446744073709551616) : (Lit.int .u64 ((k : Nat) : Int)).wf = true := by
  simp [Lit.wf, IntKind.min, IntKind.max, IntKind.signed, IntKind.bits]; omega
theorem Ds_map (ρ : Nat → Nat) : ∀ i, IsMap (Ds ρ i)
  | 0 => ⟨[], rfl⟩
  | i + 1 => by
    obtain ⟨es, h⟩ := Ds_map ρ i
    unfold Ds
    rw [h]
    exact ⟨_, rfl⟩
def seenB (ρ : Nat → Nat) (i y : Nat) : Bool := (List.range i).any fun t => decide (ρ (22 + t) = y)
theorem seenB_iff {ρ : Nat → Nat} {i y : Nat} : seenB ρ i y = true ↔ ∃ t, t < i ∧ ρ (22 + t) = y := by simp [seenB]
theorem seenB_next (ρ : Nat → Nat) (i y : Nat) : seenB ρ (i + 1) y = (seenB ρ i y || decide (ρ (22 + i) = y)) := by simp [seenB, List.range_succ]
theorem Ds_at (ρ : Nat → Nat) (y : Nat) : ∀ i, (Ds ρ i).atKey (.int .u64 ((y : Nat) : Int)) (.held (.bool false)) = .held (.bool (seenB ρ i y))
  | 0 => rfl
  | i + 1 => by
    unfold Ds
    rw [seenB_next]
    by_cases e : ρ (22 + i) = y
    · rw [e, atKey_put_same (k := .int .u64 ((y : Nat) : Int)) (Ds_map ρ i) (show True from trivial), decide_eq_true rfl, Bool.or_true]
    · rw [atKey_put_other (by intro h; injection h with _ h; omega), Ds_at ρ y i, decide_eq_false e, Bool.or_false]
section
variable {W W' : World} {m i : Nat} {ρ : Nat → Nat}
theorem Sn.keep (h : Sn W m ρ i) (hb : W'.heap[m]? = W.heap[m]?) : Sn W' m ρ i := by
  obtain ⟨es, clk, h1, h2⟩ := h
  exact ⟨es, clk, by rw [hb]; exact h1, h2⟩
theorem Sn.lt (h : Sn W m ρ i) : m < W.heap.size := World.ownsMap.lt h
theorem Sn.later (h : Sn W m ρ i) (hb : Below W.heap.size W W') : Sn W' m ρ i := h.keep (hb.block m h.lt)
theorem Sn.new (h : Sn W m ρ i) (o : Obj) : Sn (W.alloc o) m ρ i := h.later (new_below W o)
theorem Sn.drew (h : Sn W m ρ i) : Sn W.drew m ρ i := h
theorem Sn.aside1 (h : Sn W m ρ i) {c j : Nat} (hc : m ≠ c) (v : Value) : Sn (W.setCell ⟨c, j, none⟩ v) m ρ i := h.keep (Below.heap_setCell _ _ _ _ hc)
theorem Sn.asideL (h : Sn W m ρ i) {c : Nat} (hc : m ≠ c) (o : Nat) (vs : List Value) : Sn (W.setCells c o vs) m ρ i := h.keep (heap_setCells hc _ _ _)
theorem Sn.made (w : World) (ρ : Nat → Nat) : Sn (w.alloc (.map #[] 0)) w.heap.size ρ 0 := World.ownsMap_made _ _ _ _
theorem Sn.froz (h : Sn W m ρ i) (j : Nat) : W.frozen? ⟨m, j, none⟩ = false := by
  obtain ⟨es, clk, h1, h2⟩ := h
  simp [World.frozen?, h1]
theorem Sn.look (h : Sn W m ρ i) {y : Nat} (hy : y < 18446744073709551616) {v : Bool} (hv : seenB ρ i y = v) :
    (Instr.lookup 68 (.map (some m)) (.int .u64 ((y : Nat) : Int)) false).run Try.prog W = .ok (.bool v) W := by
  obtain ⟨u, ps, h1, h2⟩ := World.ownsMap.lookup h (int_keyed u64_desc) seen_desc (zero_bool W) (zd := .held (.bool false)) (zp := []) rfl (keyOf_int_mk u64_desc (a := (y : Nat)) (wf_u64' hy))
  unfold Rvb at h2
  rw [Ds_at ρ y i, hv] at h2
  injection h2 with h2
  injection h2 with h2 _
  injection h2 with h2
  rw [h1, h2]
theorem Sn.add (h : Sn W m ρ i) (hi : i ≤ 4) (hy : ρ (22 + i) < 18446744073709551616) :
    ∃ W', (Instr.mapUpdate 68 (.map (some m)) (.int .u64 ((ρ (22 + i) : Nat) : Int)) (.bool true)).run Try.prog W = .ok () W' ∧ Sn W' m ρ (i + 1) ∧ W.grownBy W' (some m) :=
  World.ownsMap.update h (int_keyed u64_desc) seen_desc (by unfold maxLen; omega) (keyOf_int_mk u64_desc (a := (ρ (22 + i) : Nat)) (wf_u64' hy)) rfl
/-- Blocks behind what turns the map alone. -/
theorem Ms.turned {n : Nat} {w : World} {L : List (Nat × List Value)} {Q : List (Nat × Value × List Int)} (h : Ms n w W L Q) (k : Nat) (hk : L[k]? = some (m, [])) (hg : W.grownBy W' (some m)) (hf : ∀ j, W'.frozen? ⟨m, j, none⟩ = false) : Ms n w W' L Q where
  gd := ⟨h.gd.1, h.gd.2.grown hg h.gd.2.size (fun c hc => by injection hc with hc; have := h.key k hk; have := h.gd.1; omega)⟩
  bo p hp := by
    by_cases e : p.1 = m
    · have hn : p = (m, []) := by
        obtain ⟨j, hj⟩ := List.getElem?_of_mem hp
        have h1 : (L.map (·.1))[j]? = some m := by rw [List.getElem?_map, hj, Option.map_some, e]
        have h2 : (L.map (·.1))[k]? = some m := by rw [List.getElem?_map, hk]; rfl
        have := nodup_inj h.nd h1 h2
        subst this
        rw [hj] at hk; injection hk
      have hB := h.bo p hp
      rw [hn] at hB ⊢
      exact ⟨fun j v hv => by simp at hv, fun j => hf j, Nat.lt_of_lt_of_le hB.lt hg.size⟩
    · exact (h.bo p hp).keep (hg.block _ (h.bo p hp).lt (fun c => e (by injection c))) (Nat.lt_of_lt_of_le (h.bo p hp).lt hg.size)
  ge := h.ge
  nd := h.nd
  li q hq := (h.li q hq).keep hg.size (fun b h _ => h) (fun b hb hl => hg.block b hl (fun c => by
    injection c with c
    subst c
    exact hb (List.mem_map.2 ⟨_, List.mem_of_getElem? hk, rfl⟩)))
theorem Ms.bornM {n : Nat} {w : World} {L : List (Nat × List Value)} {Q : List (Nat × Value × List Int)} (h : Ms n w W L Q) {b : Nat} (hb : b = W.heap.size) : Ms n w (W.alloc (.map #[] 0)) ((b, []) :: L) Q := by
  subst hb
  exact h.laterB (new_below W _) (Nat.le_refl _) ⟨fun j v hv => by simp at hv, fun j => Sn.froz (Sn.made W (fun _ => 0)) j, by simp⟩
theorem Ms.ne {n : Nat} {w : World} {L : List (Nat × List Value)} {Q : List (Nat × Value × List Int)} (h : Ms n w W L Q) (i j : Nat) {b c : Nat} {cs ds : List Value} (hi : L[i]? = some (b, cs)) (hj : L[j]? = some (c, ds)) (hij : i ≠ j) : b ≠ c := fun e => by
  have h1 : (L.map (·.1))[i]? = some b := by rw [List.getElem?_map, hi]; rfl
  have h2 : (L.map (·.1))[j]? = some b := by rw [List.getElem?_map, hj, e]; rfl
  exact hij (nodup_inj h.nd h1 h2)
end
end Go.Proofs.Ytgkgkiheoadbfaa.Tab
namespace Go.Proofs.Ytgkgkiheoadbfaa
set_option maxRecDepth 20000
open Go.RowKit

/-- An operation that is right: 4.1. -/
structure Rt (w k v : Int) : Prop where
  w1 : 1 ≤ w
  w6 : w ≤ 6
  k0 : 0 ≤ k
  k1 : k ≤ 1000
  v0 : 0 ≤ v
  v1 : v ≤ 4294967295

theorem within_yes (n a b : Int) (w : World) (h1 : a ≤ n) (h2 : n ≤ b) :
    Calls Try.prog 34 #[.int .i64 n, .int .i64 a, .int .i64 b] w fun e w' => e = .returned (.bool true) ∧ w' = w := by
  go_enter Try.func34, Try.ntmps34
  go_wp2
  go_ret
  exact ⟨rfl, rfl⟩

theorem within_no (n a b : Int) (w : World) (h : n < a ∨ b < n) :
    Calls Try.prog 34 #[.int .i64 n, .int .i64 a, .int .i64 b] w fun e w' => e = .returned (.bool false) ∧ w' = w := by
  by_cases h1 : a ≤ n
  · have h2 : ¬ n ≤ b := by omega
    clear h
    go_enter Try.func34, Try.ntmps34
    go_wp2
    go_ret
    exact ⟨rfl, rfl⟩
  · clear h
    go_enter Try.func34, Try.ntmps34
    go_wp2
    go_ret
    exact ⟨rfl, rfl⟩

theorem opRight_is {o k v : Int} (h : Rt o k v) (w : World) :
    Calls Try.prog 14 #[.agg #[.int .i64 o, .int .i64 k, .int .i64 v]] w fun e w' => e = .returned (.bool true) ∧ w' = w.alloc (.cells #[.int .i64 o, .int .i64 k, .int .i64 v] 54) := by
  obtain ⟨h1, h2, h3, h4, h5, h6⟩ := h
  go_enter Try.func14, Try.ntmps14
  go_wp2_with (go_at_call 34; refine (within_yes _ _ _ _ (by omega) (by omega)).mono ?_; rintro e w' ⟨rfl, rfl⟩)
  go_ret
  exact ⟨rfl, rfl⟩

theorem not_rt {o k v : Int} (h : ¬ Rt o k v) : (o < 1 ∨ 6 < o) ∨ (1 ≤ o ∧ o ≤ 6) ∧ ((k < 0 ∨ 1000 < k) ∨ (0 ≤ k ∧ k ≤ 1000) ∧ (v < 0 ∨ 4294967295 < v)) := by
  have : ¬ (1 ≤ o ∧ o ≤ 6 ∧ 0 ≤ k ∧ k ≤ 1000 ∧ 0 ≤ v ∧ v ≤ 4294967295) := fun ⟨a, b, c, d, e, f⟩ => h ⟨a, b, c, d, e, f⟩
  omega

theorem opRight_isnt {o k v : Int} (h : ¬ Rt o k v) (w : World) :
    Calls Try.prog 14 #[.agg #[.int .i64 o, .int .i64 k, .int .i64 v]] w fun e w' => e = .returned (.bool false) ∧ w' = w.alloc (.cells #[.int .i64 o, .int .i64 k, .int .i64 v] 54) := by
  rcases not_rt h with h1 | ⟨⟨h1, h2⟩, h3 | ⟨⟨h3, h4⟩, h5⟩⟩
  · clear h
    go_enter Try.func14, Try.ntmps14
    go_wp2_with (go_at_call 34; refine (within_no _ _ _ _ (by omega)).mono ?_; rintro e w' ⟨rfl, rfl⟩)
    go_ret
    exact ⟨rfl, rfl⟩
  · clear h
    go_enter Try.func14, Try.ntmps14
    go_wp2_with fail
    refine (within_yes _ _ _ _ h1 h2).mono ?_
    rintro e w' ⟨rfl, rfl⟩
    go_wp2_with fail
    refine (within_no _ _ _ _ h3).mono ?_
    rintro e w' ⟨rfl, rfl⟩
    go_wp2
    go_ret
    exact ⟨rfl, rfl⟩
  · clear h
    go_enter Try.func14, Try.ntmps14
    go_wp2_with fail
    refine (within_yes _ _ _ _ h1 h2).mono ?_
    rintro e w' ⟨rfl, rfl⟩
    go_wp2_with fail
    refine (within_yes _ _ _ _ h3 h4).mono ?_
    rintro e w' ⟨rfl, rfl⟩
    go_wp2_with fail
    refine (within_no _ _ _ _ h5).mono ?_
    rintro e w' ⟨rfl, rfl⟩
    go_wp2
    go_ret
    exact ⟨rfl, rfl⟩

theorem opRight_yes {o k v : Int} (h : Rt o k v) (w : World) :
    Calls Try.prog 14 #[.agg #[.int .i64 o, .int .i64 k, .int .i64 v]] w fun e w' => e = .returned (.bool true) ∧ Gr w w' :=
  (opRight_is h w).mono fun _ _ ⟨he, hw⟩ => ⟨he, hw ▸ (Gr.refl w).alloc _ _⟩
theorem opRight_no {o k v : Int} (h : ¬ Rt o k v) (w : World) :
    Calls Try.prog 14 #[.agg #[.int .i64 o, .int .i64 k, .int .i64 v]] w fun e w' => e = .returned (.bool false) ∧ Gr w w' :=
  (opRight_isnt h w).mono fun _ _ ⟨he, hw⟩ => ⟨he, hw ▸ (Gr.refl w).alloc _ _⟩
end Go.Proofs.Ytgkgkiheoadbfaa
namespace Go.Proofs.Ytgkgkiheoadbfaa.Tab
set_option maxRecDepth 20000
open Go.RowKit
set_option linter.unusedVariables false

theorem ret_pair' {k : IntKind} {a b : Int} {v : Value} (h : a = b) : Ending.returned (.tuple #[.int k a, v]) = .returned (.tuple #[.int k b, v]) := by rw [h]
theorem and_mask (y m : Nat) (hy : y < 18446744073709551616) (hm : m ≤ 32) : bits .and .u64 (y : Int) ((2 ^ m - 1 : Nat) : Int) = ((y % 2 ^ m : Nat) : Int) := by
  have : 2 ^ m - 1 < 18446744073709551616 := by
    have : 2 ^ m ≤ 2 ^ 32 := Nat.pow_le_pow_right (by decide) hm
    omega
  rw [u64_and_nat _ _ hy this, Nat.and_two_pow_sub_one_eq_mod]
theorem of_val (x : Nat) (hx : x < 18446744073709551616) : wrap64 (bits .and .u64 (x : Int) 4294967295) = ((x % 4294967296 : Nat) : Int) := by
  have := and_mask x 32 hx (by decide)
  rw [show (4294967295 : Int) = ((2 ^ 32 - 1 : Nat) : Int) from rfl, this, IntWalk.wrap64_in _ (by omega)]
theorem opFits_is {c v : Int} (h : Ft c v) (w : World) :
    Calls Try.prog 53 #[.agg #[.int .i64 c, .int .i64 v]] w fun e w' => e = .returned (.bool true) ∧ w' = w.alloc (.cells #[.int .i64 c, .int .i64 v] 42) := by
  obtain ⟨h1, h2, h3, h4, h5⟩ := h
  by_cases hc : c = 1
  · subst hc
    clear h5
    go_enter Try.func53, Try.ntmps53
    go_wp2_with (go_at_call 34; refine (within_yes _ _ _ _ (by omega) (by omega)).mono ?_; rintro e w' ⟨rfl, rfl⟩)
    go_ret
    exact ⟨rfl, rfl⟩
  · obtain rfl : v = 0 := by omega
    clear h5
    go_enter Try.func53, Try.ntmps53
    go_wp2_with (go_at_call 34; refine (within_yes _ _ _ _ (by omega) (by omega)).mono ?_; rintro e w' ⟨rfl, rfl⟩)
    go_ret
    exact ⟨rfl, rfl⟩



theorem opFits_isnt {c v : Int} (h : ¬ Ft c v) (w : World) :
    Calls Try.prog 53 #[.agg #[.int .i64 c, .int .i64 v]] w fun e w' => e = .returned (.bool false) ∧ w' = w.alloc (.cells #[.int .i64 c, .int .i64 v] 42) := by
  rcases not_ft' h with ⟨rfl, hv⟩ | ⟨hc, h1⟩ | ⟨hc, ⟨h1, h2⟩, hv⟩
  · clear h
    go_enter Try.func53, Try.ntmps53
    go_wp2_with (go_at_call 34; refine (within_no _ _ _ _ hv).mono ?_; rintro e w' ⟨rfl, rfl⟩)
    go_ret
    exact ⟨rfl, rfl⟩
  · clear h
    go_enter Try.func53, Try.ntmps53
    go_wp2_with (go_at_call 34; refine (within_no _ _ _ _ h1).mono ?_; rintro e w' ⟨rfl, rfl⟩)
    go_ret
    exact ⟨rfl, rfl⟩
  · clear h
    have hv' : (v == 0) = false := beq_eq_false_iff_ne.2 hv
    go_enter Try.func53, Try.ntmps53
    go_wp2_with (go_at_call 34; refine (within_yes _ _ _ _ (by omega) (by omega)).mono ?_; rintro e w' ⟨rfl, rfl⟩)
    go_ret
    exact ⟨rfl, rfl⟩

theorem opFits_yes {c v : Int} (h : Ft c v) (w : World) :
    Calls Try.prog 53 #[.agg #[.int .i64 c, .int .i64 v]] w fun e w' => e = .returned (.bool true) ∧ Gr w w' :=
  (opFits_is h w).mono fun _ _ ⟨he, hw⟩ => ⟨he, hw ▸ (Gr.refl w).alloc _ _⟩
theorem opFits_no {c v : Int} (h : ¬ Ft c v) (w : World) :
    Calls Try.prog 53 #[.agg #[.int .i64 c, .int .i64 v]] w fun e w' => e = .returned (.bool false) ∧ Gr w w' :=
  (opFits_isnt h w).mono fun _ _ ⟨he, hw⟩ => ⟨he, hw ▸ (Gr.refl w).alloc _ _⟩



theorem ans_or (c v : Nat) (h2 : (c : Int) ≤ 5) (h6 : (v : Int) ≤ 4294967295) : bits .or .u64 ((c : Int) * 4294967296) (v : Int) = ((ansN c v : Nat) : Int) := by
  have e1 : (c : Int) * 4294967296 = ((c * 4294967296 : Nat) : Int) := by omega
  have a2 := Nat.two_pow_add_eq_or_of_lt (i := 32) (b := v) (by omega) c
  have b2 : c * 4294967296 ||| v = ansN c v := by
    rw [Nat.mul_comm c 4294967296]
    refine a2.symm.trans ?_
    unfold ansN; omega
  rw [e1, u64_or_nat _ _ (by omega) (by omega), b2]

theorem told_code (x : Nat) (hx : x < 18446744073709551616) : wrap64 ((x : Int) / 4294967296) = ((x / 4294967296 : Nat) : Int) := by
  rw [IntWalk.wrap64_in _ (by omega)]; omega

theorem Answer_no {c v : Int} (h : ¬ Ft c v) (w : World) :
    Calls Try.prog 36 #[.agg #[.int .i64 c, .int .i64 v]] w fun e w' => e = .returned (.tuple #[.int .u64 0, .iface 69 (.int .i64 1)]) ∧ Gr w w' := by
  go_enter Try.func36, Try.ntmps36
  go_wp2_with (go_at_call 53; refine (opFits_isnt h _).mono ?_; rintro e w' ⟨rfl, rfl⟩)
  go_ret2
  exact ⟨rfl, ((Gr.refl w).alloc _ _).alloc _ _⟩

theorem Answer_yes {c v : Nat} (h : Ft c v) (w : World) :
    Calls Try.prog 36 #[.agg #[.int .i64 c, .int .i64 v]] w fun e w' => e = .returned (.tuple #[.int .u64 (ansN c v : Nat), .nilIface]) ∧ Gr w w' := by
  obtain ⟨h1, h2, h3, h4, h5⟩ := id h
  clear h5
  go_enter Try.func36, Try.ntmps36
  go_wp2_with (go_at_call 53; refine (opFits_is h _).mono ?_; rintro e w' ⟨rfl, rfl⟩)
  go_ret2
  exact ⟨ret_pair' (ans_or c v h2 h4), ((Gr.refl w).alloc _ _).alloc _ _⟩

theorem Told_core (x : Nat) (a b : Int) (w : World) (e0 : wrap64 ((x : Int) / 4294967296) = a) (e2 : wrap64 (bits .and .u64 (x : Int) 4294967295) = b) (h : Ft a b) :
    Calls Try.prog 50 #[.int .u64 x] w fun e w' => e = .returned (.tuple #[.agg #[.int .i64 a, .int .i64 b], .nilIface]) ∧ Gr w w' := by
  go_enter Try.func50, Try.ntmps50
  go_wp2_with (go_at_call 53; refine (opFits_is h _).mono ?_; rintro e w' ⟨rfl, rfl⟩)
  exact bodyPost_ret (v := .tuple #[.agg #[.int .i64 a, .int .i64 b], .nilIface]) (by simp [results, Try.results50, go_sem]) rfl ⟨rfl, (((Gr.refl w).alloc _ _).alloc _ _).alloc _ _⟩

theorem Told_cono (x : Nat) (a b : Int) (w : World) (e0 : wrap64 ((x : Int) / 4294967296) = a) (e2 : wrap64 (bits .and .u64 (x : Int) 4294967295) = b) (h : ¬ Ft a b) :
    Calls Try.prog 50 #[.int .u64 x] w fun e w' => e = .returned (.tuple #[.agg #[.int .i64 0, .int .i64 0], .iface 69 (.int .i64 3)]) ∧ Gr w w' := by
  go_enter Try.func50, Try.ntmps50
  go_wp2_with (go_at_call 53; refine (opFits_isnt h _).mono ?_; rintro e w' ⟨rfl, rfl⟩)
  exact bodyPost_ret (v := .tuple #[.agg #[.int .i64 0, .int .i64 0], .iface 69 (.int .i64 3)]) (by simp [results, Try.results50, go_sem]) rfl ⟨rfl, (((Gr.refl w).alloc _ _).alloc _ _).alloc _ _⟩

theorem Told_yes {c v : Nat} (h : Ft c v) (w : World) :
    Calls Try.prog 50 #[.int .u64 (ansN c v : Nat)] w fun e w' => e = .returned (.tuple #[.agg #[.int .i64 c, .int .i64 v], .nilIface]) ∧ Gr w w' := by
  obtain ⟨p1, p2⟩ := ansN_parts h
  have hx := ansN_lt h
  exact Told_core _ _ _ w (by rw [told_code _ hx, p1]) (by rw [of_val _ hx, p2]) h

/-- No answer is this word. -/
def NoAns (x : Nat) : Prop := ¬ Ft ((x / 4294967296 : Nat) : Int) ((x % 4294967296 : Nat) : Int)

theorem Told_no (x : Nat) (hx : x < 18446744073709551616) (h : NoAns x) (w : World) :
    Calls Try.prog 50 #[.int .u64 (x : Nat)] w fun e w' => e = .returned (.tuple #[.agg #[.int .i64 0, .int .i64 0], .iface 69 (.int .i64 3)]) ∧ Gr w w' :=
  Told_cono x _ _ w (told_code x hx) (of_val x hx) h

theorem ans_cases (x : Nat) : NoAns x ∨ ∃ c v : Nat, Ft c v ∧ x = ansN c v := by
  by_cases h : Ft ((x / 4294967296 : Nat) : Int) ((x % 4294967296 : Nat) : Int)
  · exact Or.inr ⟨_, _, h, (ansN_of x).symm⟩
  · exact Or.inl h


theorem aw_iff (x : Nat) : Aw x ↔ ¬ NoAns x := by unfold NoAns; exact (Classical.not_not).symm
/-- Told, of any word. -/
theorem told_yes {x : Nat} (hx : x < 18446744073709551616) (h : Aw x) (w : World) :
    Calls Try.prog 50 #[.int .u64 (x : Nat)] w fun e w' => e = .returned (.tuple #[.agg #[.int .i64 (x / 4294967296 : Nat), .int .i64 (x % 4294967296 : Nat)], .nilIface]) ∧ Below w.heap.size w w' :=
  (Told_core x _ _ w (told_code x hx) (of_val x hx) h).mono fun _ _ ⟨he, hg⟩ => ⟨he, hg.below⟩
theorem told_no {x : Nat} (hx : x < 18446744073709551616) (h : ¬ Aw x) (w : World) :
    Calls Try.prog 50 #[.int .u64 (x : Nat)] w fun e w' => e = .returned (.tuple #[.agg #[.int .i64 0, .int .i64 0], .iface 69 (.int .i64 3)]) ∧ Below w.heap.size w w' :=
  (Told_cono x _ _ w (told_code x hx) (of_val x hx) h).mono fun _ _ ⟨he, hg⟩ => ⟨he, hg.below⟩
theorem answer_yes {c v : Nat} (h : Ft c v) (w : World) :
    Calls Try.prog 36 #[.agg #[.int .i64 c, .int .i64 v]] w fun e w' => e = .returned (.tuple #[.int .u64 (ansN c v : Nat), .nilIface]) ∧ Below w.heap.size w w' :=
  (Answer_yes h w).mono fun _ _ ⟨he, hg⟩ => ⟨he, hg.below⟩
end Go.Proofs.Ytgkgkiheoadbfaa.Tab
namespace Go.Proofs.Ytgkgkiheoadbfaa.Tab
set_option maxRecDepth 20000
open Go.RowKit
set_option linter.unusedVariables false

theorem not_ftr {c v : Int} (h : ¬ Ft c v) : (c < 1 ∨ 5 < c) ∨ (1 ≤ c ∧ c ≤ 5) ∧ ((v < 0 ∨ 4294967295 < v) ∨ (0 ≤ v ∧ v ≤ 4294967295) ∧ c ≠ 1 ∧ v ≠ 0) := by
  have : ¬ (1 ≤ c ∧ c ≤ 5 ∧ 0 ≤ v ∧ v ≤ 4294967295 ∧ (c = 1 ∨ v = 0)) := h
  omega
theorem awithin_yes (n a b : Int) (w : World) (h1 : a ≤ n) (h2 : n ≤ b) :
    Calls Try.prog 19 #[.int .i64 n, .int .i64 a, .int .i64 b] w fun e w' => e = .returned (.bool true) ∧ w' = w := by
  go_enter Try.func19, Try.ntmps19
  go_wp2
  go_ret
  exact ⟨rfl, rfl⟩
theorem awithin_no (n a b : Int) (w : World) (h : n < a ∨ b < n) :
    Calls Try.prog 19 #[.int .i64 n, .int .i64 a, .int .i64 b] w fun e w' => e = .returned (.bool false) ∧ w' = w := by
  by_cases h1 : a ≤ n
  · have h2 : ¬ n ≤ b := by omega
    clear h
    go_enter Try.func19, Try.ntmps19
    go_wp2
    go_ret
    exact ⟨rfl, rfl⟩
  · clear h
    go_enter Try.func19, Try.ntmps19
    go_wp2
    go_ret
    exact ⟨rfl, rfl⟩
theorem RfFits_is {c v : Int} (h : Ft c v) (w : World) :
    Calls Try.prog 42 #[.agg #[.int .i64 c, .int .i64 v]] w fun e w' => e = .returned (.bool true) ∧ w' = w.alloc (.cells #[.int .i64 c, .int .i64 v] 42) := by
  obtain ⟨h1, h2, h3, h4, h5⟩ := h
  by_cases hc : c = 1
  · subst hc
    clear h5
    go_enter Try.func42, Try.ntmps42
    go_wp2_with (go_at_call 19; refine (awithin_yes _ _ _ _ (by omega) (by omega)).mono ?_; rintro e w' ⟨rfl, rfl⟩)
    go_ret
    exact ⟨rfl, rfl⟩
  · obtain rfl : v = 0 := by omega
    clear h5
    have hc' : (c == 1) = false := beq_eq_false_iff_ne.2 hc
    go_enter Try.func42, Try.ntmps42
    go_wp2_with (go_at_call 19; refine (awithin_yes _ _ _ _ (by omega) (by omega)).mono ?_; rintro e w' ⟨rfl, rfl⟩)
    go_ret
    exact ⟨rfl, rfl⟩

theorem RfFits_isnt {c v : Int} (h : ¬ Ft c v) (w : World) :
    Calls Try.prog 42 #[.agg #[.int .i64 c, .int .i64 v]] w fun e w' => e = .returned (.bool false) ∧ w' = w.alloc (.cells #[.int .i64 c, .int .i64 v] 42) := by
  rcases not_ftr h with h1 | ⟨⟨h1, h2⟩, h3 | ⟨⟨h3, h4⟩, hc, hv⟩⟩
  · clear h
    go_enter Try.func42, Try.ntmps42
    go_wp2_with (go_at_call 19; refine (awithin_no _ _ _ _ h1).mono ?_; rintro e w' ⟨rfl, rfl⟩)
    go_ret
    exact ⟨rfl, rfl⟩
  · clear h
    go_enter Try.func42, Try.ntmps42
    go_wp2_with fail
    refine (awithin_yes _ _ _ _ h1 h2).mono ?_
    rintro e w' ⟨rfl, rfl⟩
    go_wp2_with fail
    refine (awithin_no _ _ _ _ h3).mono ?_
    rintro e w' ⟨rfl, rfl⟩
    go_wp2
    go_ret
    exact ⟨rfl, rfl⟩
  · clear h
    have hv' : (v == 0) = false := beq_eq_false_iff_ne.2 hv
    have hc' : (c == 1) = false := beq_eq_false_iff_ne.2 hc
    go_enter Try.func42, Try.ntmps42
    go_wp2_with fail
    refine (awithin_yes _ _ _ _ h1 h2).mono ?_
    rintro e w' ⟨rfl, rfl⟩
    go_wp2_with fail
    refine (awithin_yes _ _ _ _ h3 h4).mono ?_
    rintro e w' ⟨rfl, rfl⟩
    go_wp2
    go_ret
    exact ⟨rfl, rfl⟩

theorem RfAnswer_no {c v : Int} (h : ¬ Ft c v) (w : World) :
    Calls Try.prog 43 #[.agg #[.int .i64 c, .int .i64 v]] w fun e w' => e = .returned (.tuple #[.int .u64 0, .int .i64 1]) ∧ Gr w w' := by
  go_enter Try.func43, Try.ntmps43
  go_wp2_with (go_at_call 42; refine (RfFits_isnt h _).mono ?_; rintro e w' ⟨rfl, rfl⟩)
  go_ret2
  exact ⟨rfl, ((Gr.refl w).alloc _ _).alloc _ _⟩

theorem RfAnswer_yes {c v : Nat} (h : Ft c v) (w : World) :
    Calls Try.prog 43 #[.agg #[.int .i64 c, .int .i64 v]] w fun e w' => e = .returned (.tuple #[.int .u64 (ansN c v : Nat), .int .i64 0]) ∧ Gr w w' := by
  obtain ⟨h1, h2, h3, h4, h5⟩ := id h
  clear h5
  go_enter Try.func43, Try.ntmps43
  go_wp2_with (go_at_call 42; refine (RfFits_is h _).mono ?_; rintro e w' ⟨rfl, rfl⟩)
  go_ret2
  exact ⟨ret_pair' (by unfold ansN; omega), ((Gr.refl w).alloc _ _).alloc _ _⟩

theorem RfTold_core (x : Nat) (hx : (x : Int) < 18446744073709551616) (a b : Int) (w : World) (e0 : (x : Int) / 4294967296 = a) (e2 : (x : Int) % 4294967296 = b) (h : Ft a b) :
    Calls Try.prog 24 #[.int .u64 x] w fun e w' => e = .returned (.tuple #[.agg #[.int .i64 a, .int .i64 b], .int .i64 0]) ∧ Gr w w' := by
  go_enter Try.func24, Try.ntmps24
  go_wp2_with (go_at_call 42; refine (RfFits_is h _).mono ?_; rintro e w' ⟨rfl, rfl⟩)
  exact bodyPost_ret (v := .tuple #[.agg #[.int .i64 a, .int .i64 b], .int .i64 0]) (by simp [results, Try.results24, go_sem]) rfl ⟨rfl, (((Gr.refl w).alloc _ _).alloc _ _).alloc _ _⟩

theorem RfTold_cono (x : Nat) (hx : (x : Int) < 18446744073709551616) (a b : Int) (w : World) (e0 : (x : Int) / 4294967296 = a) (e2 : (x : Int) % 4294967296 = b) (h : ¬ Ft a b) :
    Calls Try.prog 24 #[.int .u64 x] w fun e w' => e = .returned (.tuple #[.agg #[.int .i64 0, .int .i64 0], .int .i64 3]) ∧ Gr w w' := by
  go_enter Try.func24, Try.ntmps24
  go_wp2_with (go_at_call 42; refine (RfFits_isnt h _).mono ?_; rintro e w' ⟨rfl, rfl⟩)
  exact bodyPost_ret (v := .tuple #[.agg #[.int .i64 0, .int .i64 0], .int .i64 3]) (by simp [results, Try.results24, go_sem]) rfl ⟨rfl, (((Gr.refl w).alloc _ _).alloc _ _).alloc _ _⟩

theorem RfTold_yes {c v : Nat} (h : Ft c v) (w : World) :
    Calls Try.prog 24 #[.int .u64 (ansN c v : Nat)] w fun e w' => e = .returned (.tuple #[.agg #[.int .i64 c, .int .i64 v], .int .i64 0]) ∧ Gr w w' := by
  obtain ⟨p1, p2⟩ := ansN_parts h
  have hx := ansN_lt h
  exact RfTold_core _ (by omega) _ _ w (by omega) (by omega) h

theorem RfTold_no (x : Nat) (hx : x < 18446744073709551616) (h : NoAns x) (w : World) :
    Calls Try.prog 24 #[.int .u64 (x : Nat)] w fun e w' => e = .returned (.tuple #[.agg #[.int .i64 0, .int .i64 0], .int .i64 3]) ∧ Gr w w' :=
  RfTold_cono x (by omega) _ _ w (by omega) (by omega) h


theorem rtold_yes {x : Nat} (hx : x < 18446744073709551616) (h : Aw x) (w : World) :
    Calls Try.prog 24 #[.int .u64 (x : Nat)] w fun e w' => e = .returned (.tuple #[.agg #[.int .i64 (x / 4294967296 : Nat), .int .i64 (x % 4294967296 : Nat)], .int .i64 0]) ∧ Below w.heap.size w w' :=
  (RfTold_core x (by omega) _ _ w (by omega) (by omega) h).mono fun _ _ ⟨he, hg⟩ => ⟨he, hg.below⟩
theorem rtold_no {x : Nat} (hx : x < 18446744073709551616) (h : ¬ Aw x) (w : World) :
    Calls Try.prog 24 #[.int .u64 (x : Nat)] w fun e w' => e = .returned (.tuple #[.agg #[.int .i64 0, .int .i64 0], .int .i64 3]) ∧ Below w.heap.size w w' :=
  (RfTold_cono x (by omega) _ _ w (by omega) (by omega) h).mono fun _ _ ⟨he, hg⟩ => ⟨he, hg.below⟩
/-- AnswerWord, of what a word is told as. -/
theorem rword_yes {x : Nat} (h : Aw x) (w : World) :
    Calls Try.prog 43 #[.agg #[.int .i64 (x / 4294967296 : Nat), .int .i64 (x % 4294967296 : Nat)]] w fun e w' => e = .returned (.tuple #[.int .u64 (x : Nat), .int .i64 0]) ∧ Below w.heap.size w w' :=
  (RfAnswer_yes h w).mono fun _ _ ⟨he, hg⟩ => ⟨by rw [ansN_of] at he; exact he, hg.below⟩
theorem rword_no {c v : Int} (h : ¬ Ft c v) (w : World) :
    Calls Try.prog 43 #[.agg #[.int .i64 c, .int .i64 v]] w fun e w' => e = .returned (.tuple #[.int .u64 0, .int .i64 1]) ∧ Below w.heap.size w w' :=
  (RfAnswer_no h w).mono fun _ _ ⟨he, hg⟩ => ⟨he, hg.below⟩
end Go.Proofs.Ytgkgkiheoadbfaa.Tab
namespace Go.Proofs.Ytgkgkiheoadbfaa
set_option maxRecDepth 20000
open Go.RowKit

theorem mk64 (w : World) : (Instr.makeSlice 34 (.int .i64 64) (.int .i64 64)).run Try.prog w = .ok (.slice (some ⟨w.heap.size, 0, none⟩) 64 64) (w.alloc (.cells z64 3)) :=
  run_make w 34 3 _ (.int .i64 0) Try.underlying34 rfl rfl .i64 .i64 64 64 (by decide) (by decide) (by decide) (by decide)

set_option maxHeartbeats 400000 in
theorem digits_any (x : Nat) (w : World) (hx : x < 18446744073709551616) :
    Calls Try.prog 20 #[.int .u64 x] w fun e w' => e = .returned (.slice (some ⟨w.heap.size, 0, none⟩) 64 64) ∧ Dg (bt x) w w' := by
  have hmk := mk64
  go_enter Try.func20, Try.ntmps20
  go_wp2
  clear hmk
  go_loopw [0, 8] (fun v i wr => ∃ k y : Nat, k ≤ 64 ∧ y < 18446744073709551616 ∧ Hid (y = x / 2 ^ k) ∧ v = .int .u64 y ∧ i = .int .i64 k ∧ Dg (fun j => if j < k then bt x j else 0) w wr)
    (fun _ i _ => 64 - (intOf i).toNat)
  case atStart => exact ⟨0, x, by omega, hx, (by simp [Hid]), rfl, rfl, by simpa using Dg.start w _⟩
  case round =>
    obtain ⟨k, y, hk, hy, HY, rfl, rfl, hd⟩ := hrel
    by_cases hlt : k < 64
    · have hc := hd.cell k hlt
      have hfz := hd.froz k
      simp only [Nat.lt_irrefl, if_false] at hc
      go_wp2
      go_roundw
      case rel =>
        have e1 : (y : Int) % 2 = ((bt x k : Nat) : Int) := by simp [bt, HY.out]
        refine ⟨k + 1, y / 2, by omega, by omega, ?_, by go_num, by go_num, ?_⟩
        · show y / 2 = _
          rw [HY.out, Nat.pow_succ, Nat.div_div_eq_div_mul]
        · rw [e1]; exact hd.set k (bt x k) hlt _ (fun i _ => by
            by_cases h1 : i = k
            · subst h1; simp
            · by_cases h2 : i < k
              · simp [h1, h2, Nat.lt_succ_of_lt h2]
              · simp [h1, h2, show ¬ i < k + 1 by omega])
      case measure => simp [intOf]; omega
    · go_wp2
      go_ret
      have : k = 64 := by omega
      subst this
      refine ⟨rfl, hd.gr, hd.size, fun i hi => ?_⟩
      have := hd.cell i hi
      simpa [hi] using this

set_option maxHeartbeats 400000 in
theorem number_any (b off n cap : Nat) (f : Nat → Nat) (w : World) (hn : n ≤ 64) (hf : ∀ i, f i < 2)
    (hc : ∀ i, i < n → w.cell? ⟨b, off + i, none⟩ = some (.int .i64 (f i : Nat))) :
    Calls Try.prog 56 #[.slice (some ⟨b, off, none⟩) n cap] w fun e w' => e = .returned (.int .u64 (tp f 0 n : Nat)) ∧ w' = w := by
  go_enter Try.func56, Try.ntmps56
  go_wp2
  go_loop [3, 4] (fun v i => ∃ (j : Int) (y : Nat), -1 ≤ j ∧ j < n ∧ Hid (y = tp f (j + 1).toNat (n - (j + 1).toNat)) ∧ v = .int .u64 y ∧ i = .int .i64 j)
    (fun _ i => (intOf i + 1).toNat)
  case atStart => exact ⟨(n : Int) - 1, 0, by omega, by omega, (by simp [Hid, tp]), rfl, rfl⟩
  case round =>
    obtain ⟨j, y, h1, h2, HY, rfl, rfl⟩ := hrel
    by_cases h0 : 0 ≤ j
    · obtain ⟨k, rfl⟩ := Int.eq_ofNat_of_zero_le h0
      have hk : k < n := by omega
      have hcell := hc k hk
      have hfk := hf k
      have hy : y < 9223372036854775808 := by
        have := tp_lt f hf (n - ((k : Int) + 1).toNat) ((k : Int) + 1).toNat
        rw [← HY.out] at this
        have : 2 ^ (n - ((k : Int) + 1).toNat) ≤ 2 ^ 63 := Nat.pow_le_pow_right (by decide) (by omega)
        omega
      clear hc
      go_wp2
      go_round
      case rel =>
        refine ⟨(k : Int) - 1, f k + 2 * y, by omega, by omega, ?_, by go_num, by go_num⟩
        show _ = _
        rw [HY.out, show ((k : Int) - 1 + 1).toNat = k by omega, show n - k = (n - ((k : Int) + 1).toNat) + 1 by omega, tp, show ((k : Int) + 1).toNat = k + 1 by omega]
      case measure => simp [intOf]
    · have e : j = -1 := by omega
      subst e
      go_wp2
      go_ret
      refine ⟨?_, rfl⟩
      rw [HY.out]; simp
end Go.Proofs.Ytgkgkiheoadbfaa
namespace Go.Proofs.Ytgkgkiheoadbfaa
set_option maxRecDepth 20000
open Go.RowKit

theorem bwithin_yes (a : Int) (w : World) (h0 : 0 ≤ a) (h1 : a ≤ 63) :
    Calls Try.prog 19 #[.int .i64 a, .int .i64 0, .int .i64 63] w fun e w' => e = .returned (.bool true) ∧ w' = w := by
  go_enter Try.func19, Try.ntmps19
  go_wp2
  go_ret
  exact ⟨rfl, rfl⟩

theorem bwithin_no (a : Int) (w : World) (h : a < 0 ∨ 63 < a) :
    Calls Try.prog 19 #[.int .i64 a, .int .i64 0, .int .i64 63] w fun e w' => e = .returned (.bool false) ∧ w' = w := by
  by_cases h1 : a < 0
  · have : ¬ 0 ≤ a := by omega
    clear h
    go_enter Try.func19, Try.ntmps19
    go_wp2
    go_ret
    exact ⟨rfl, rfl⟩
  · have h2 : 0 ≤ a := by omega
    have : ¬ a ≤ 63 := by omega
    clear h h1
    go_enter Try.func19, Try.ntmps19
    go_wp2
    go_ret
    exact ⟨rfl, rfl⟩

theorem refBit_no (x : Nat) (a : Int) (w : World) (h : a < 0 ∨ 63 < a) :
    Calls Try.prog 6 #[.int .u64 x, .int .i64 a] w fun e w' => e = .returned (.bool false) ∧ Gr w w' := by
  go_enter Try.func6, Try.ntmps6
  go_wp2_with (go_at_call 19; refine (bwithin_no _ _ h).mono ?_; rintro e w' ⟨rfl, rfl⟩)
  go_ret
  exact ⟨rfl, Gr.refl _⟩

theorem refBit_yes (x k : Nat) (w : World) (hx : x < 18446744073709551616) (hk : k < 64) :
    Calls Try.prog 6 #[.int .u64 x, .int .i64 k] w fun e w' => e = .returned (.bool (x.testBit k)) ∧ Gr w w' := by
  go_enter Try.func6, Try.ntmps6
  go_wp2_with fail
  refine (bwithin_yes _ _ (by omega) (by omega)).mono ?_
  rintro e w' ⟨rfl, rfl⟩
  go_wp2_with fail
  refine (digits_any x _ hx).mono ?_
  rintro e w1 ⟨rfl, hd⟩
  have hc := hd.cell k hk
  go_wp2
  go_ret
  refine ⟨ret_bool ?_, hd.gr⟩
  rw [bt_test]
  cases x.testBit k <;> rfl

end Go.Proofs.Ytgkgkiheoadbfaa
namespace Go.Proofs.Ytgkgkiheoadbfaa
set_option maxRecDepth 20000
open Go.RowKit

theorem refFlip_no (x : Nat) (a : Int) (w : World) (hx : x < 18446744073709551616) (h : a < 0 ∨ 63 < a) :
    Calls Try.prog 44 #[.int .u64 x, .int .i64 a] w fun e w' => e = .returned (.int .u64 x) ∧ Gr w w' := by
  go_enter Try.func44, Try.ntmps44
  go_wp2_with fail
  refine (digits_any x _ hx).mono ?_
  rintro e w1 ⟨rfl, hd⟩
  go_wp2_with fail
  refine (bwithin_no _ _ h).mono ?_
  rintro e w' ⟨rfl, rfl⟩
  go_wp2_with fail
  refine (number_any _ 0 64 64 (bt x) _ (Nat.le_refl _) (bt_lt x) (fun i hi => by simpa using hd.cell i hi)).mono ?_
  rintro e w' ⟨rfl, rfl⟩
  go_wp2
  go_ret
  exact ⟨ret_int (by rw [tp_all x hx]), hd.gr⟩

theorem refFlip_yes (x k : Nat) (w : World) (hx : x < 18446744073709551616) (hk : k < 64) :
    Calls Try.prog 44 #[.int .u64 x, .int .i64 k] w fun e w' => e = .returned (.int .u64 (x ^^^ 2 ^ k : Nat)) ∧ Gr w w' := by
  go_enter Try.func44, Try.ntmps44
  go_wp2_with fail
  refine (digits_any x _ hx).mono ?_
  rintro e w1 ⟨rfl, hd⟩
  go_wp2_with fail
  refine (bwithin_yes _ _ (by omega) (by omega)).mono ?_
  rintro e w' ⟨rfl, rfl⟩
  have hc := hd.cell k hk
  have hf := hd.froz k
  have hb := bt_lt x k
  go_wp2_with fail
  have e1 : (1 : Int) - (bt x k : Nat) = ((1 - bt x k : Nat) : Int) := by omega
  rw [e1]
  have hd2 := hd.set k (1 - bt x k) hk (bt (x ^^^ 2 ^ k)) (fun i _ => by rw [bt_flip]; by_cases h : i = k <;> simp [h])
  refine (number_any _ 0 64 64 (bt (x ^^^ 2 ^ k)) _ (Nat.le_refl _) (bt_lt _) (fun i hi => by simpa using hd2.cell i hi)).mono ?_
  rintro e w2 ⟨rfl, rfl⟩
  go_wp2
  go_ret
  exact ⟨ret_int (by rw [tp_all _ (flip_lt x k hx hk)]), hd2.gr⟩
end Go.Proofs.Ytgkgkiheoadbfaa
namespace Go.Proofs.Ytgkgkiheoadbfaa.Tab
set_option maxRecDepth 20000
open Go.RowKit
set_option linter.unusedVariables false

theorem info_u64 : (Try.prog.info? 22).map (fun i => (i.zero, i.size, i.bytes)) = some (some (.int .u64 0), 1, 8) := by kernel_rfl
theorem made17 : madeCells (Value.int .u64 0).cells 17 = (wl wz).toArray := by kernel_rfl
theorem mk17 (w : World) : (Instr.makeSlice 31 (.int .i64 17) (.int .i64 17)).run Try.prog w = .ok (.slice (some ⟨w.heap.size, 0, none⟩) 17 17) (w.alloc (.cells (wl wz).toArray 22)) := by
  obtain ⟨i, hi, hz, h1, h2⟩ := info_parts info_u64
  have := run_make (P := Try.prog) w 31 22 i _ Try.underlying31 hi hz .i64 .i64 17 17 (by decide) (by decide) (by rw [h2]; decide) (by decide)
  rw [h1] at this
  rw [← made17]
  exact this
theorem mk17b (w : World) (o : Obj) : (Instr.makeSlice 31 (.int .i64 17) (.int .i64 17)).run Try.prog (w.alloc o) = .ok (.slice (some ⟨w.heap.size + 1, 0, none⟩) 17 17) ((w.alloc o).alloc (.cells (wl wz).toArray 22)) := by
  have := mk17 (w.alloc o)
  simpa using this

theorem new_below2 (w : World) (o p : Obj) : Below w.heap.size w ((w.alloc o).alloc p) := ((Gd.refl w).new o |>.new p).2
/-- Seventeen words, in a block of the call's own. -/
def Wd (n : Nat) (e : Ending) (w' : World) (d : Nat → Nat) : Prop := ∃ b, e = .returned (.slice (some ⟨b, 0, none⟩) 17 17) ∧ n ≤ b ∧ Bo w' b (wl d)

set_option maxHeartbeats 1000000 in
theorem Cells_6 (v : Value) (t : Tb) (x : Nat) (hx : x ≤ 4294967295) (w : World) :
    Calls Try.prog 41 #[.agg (tg 6 v t x).toArray] w fun e w' => Wd w.heap.size e w' (tyw x) ∧ Below w.heap.size w w' := by
  have mk := mk17b w (.cells (tg 6 v t x).toArray 40)
  have S0 : Hid (Bo ((w.alloc (.cells (tg 6 v t x).toArray 40)).alloc (.cells (wl wz).toArray 22)) w.heap.size (tg 6 v t x)) := (Bo.born w (tg 6 v t x) _ rfl).new _
  have T0 : Hid (Bo ((w.alloc (.cells (tg 6 v t x).toArray 40)).alloc (.cells (wl wz).toArray 22)) (w.heap.size + 1) (wl wz)) := Bo.born _ (wl wz) _ (by simp)
  have G0 : Hid (Gd w.heap.size w ((w.alloc (.cells (tg 6 v t x).toArray 40)).alloc (.cells (wl wz).toArray 22))) := ((Gd.refl w).new _).new _
  have c0 := S0.out.tcell.1
  have c1 := S0.out.tcell.2.2
  have d0 := T0.out.word (show 0 < 17 by decide)
  have d1 := T0.out.froz 0
  go_enter Try.func41, Try.ntmps41
  go_wp2_with fail
  go_ret
  have e : wl (tyw x) = (wl wz).set 0 (.int .u64 (x : Nat)) := by
    rw [wl_set wz x (by decide)]
    exact wl_congr fun j _ => by unfold tyw upw wz; by_cases e0 : j = 0 <;> simp [e0]
  refine ⟨⟨_, rfl, by omega, ?_⟩, new_below2 _ _ _⟩
  rw [e]
  exact Bo.born _ _ _ (by simp)
end Go.Proofs.Ytgkgkiheoadbfaa.Tab
namespace Go.Proofs.Ytgkgkiheoadbfaa.Tab
set_option maxRecDepth 20000
open Go.RowKit
theorem Bo.toT {w : World} {b : Nat} {t : Tb} (h : Bo w b t.all) : TAt w b t := ⟨fun j hj => h.cell j _ (Tb.all_at t j hj), h.froz⟩
theorem TAt.toB {w : World} {b : Nat} {t : Tb} (h : TAt w b t) : Bo w b t.all := ⟨fun j v hv => by
  have hj : j < 16 := by have := (List.getElem?_eq_some_iff.1 hv).1; rwa [Tb.all_length] at this
  rw [Tb.all_at t j hj] at hv
  rw [h.cell j hj, ← hv], h.froz, h.lt⟩
theorem Bo.tkey {w : World} {b p : Nat} {t : Tb} (h : Bo w b t.all) (hp : p < 8) : w.cell? ⟨b, p * 2, none⟩ = some (.int .i64 (t.k p)) := h.toT.key hp
theorem Bo.tval {w : World} {b p : Nat} {t : Tb} (h : Bo w b t.all) (hp : p < 8) : w.cell? ⟨b, p * 2 + 1, none⟩ = some (.int .i64 (t.v p)) := h.toT.val hp
theorem Bo.tset {w : World} {b p : Nat} {t : Tb} (h : Bo w b t.all) (hp : p < 8) (x y : Int) : Bo (w.setCells b (p * 2) [.int .i64 x, .int .i64 y]) b (t.set p x y).all := (h.toT.slot hp x y).toB
theorem Bo.tthere {w : World} {b p : Nat} {t : Tb} (h : Bo w b t.all) (hp : p < 8) {l : List Value} (hl : l.length = 2 := by rfl) : w.there b (p * 2) l.length := by rw [hl]; exact h.toT.thereS hp
end Go.Proofs.Ytgkgkiheoadbfaa.Tab
namespace Go.Proofs.Ytgkgkiheoadbfaa.Tab
set_option maxRecDepth 20000
open Go.RowKit

theorem free_is (k v : Int) (w : World) :
    Calls Try.prog 70 #[.agg #[.int .i64 k, .int .i64 v]] w fun e w' => e = .returned (.bool (k == 0)) ∧ Below w.heap.size w w' := by
  go_enter Try.func70, Try.ntmps70
  go_wp2
  go_ret
  exact ⟨rfl, new_below _ _⟩

theorem home_eq (k : Int) : wrap64 ((IntKind.u64.wrap (5 * IntKind.u64.wrap k)).tmod 8) = (home k : Nat) := by
  rw [IntKind.wrap_u64, IntKind.wrap_u64, Int.tmod_eq_emod_of_nonneg (by omega)]
  have e : 5 * (k % 18446744073709551616) % 18446744073709551616 % 8 = 5 * k % 8 := by omega
  rw [e]
  unfold wrap64 home
  omega
theorem home_is (k : Int) (w : World) :
    Calls Try.prog 89 #[.int .i64 k] w fun e w' => e = .returned (.int .i64 (home k : Nat)) ∧ w' = w := by
  go_enter Try.func89, Try.ntmps89
  go_wp2
  go_ret
  exact ⟨congrArg (fun x => Ending.returned (.int .i64 x)) (home_eq k), rfl⟩

/-- What place tells. -/
def Placed (t : Tb) (k : Int) (w : World) (e : Ending) (w' : World) : Prop := e = .returned (.tuple #[.int .i64 (place t k : Nat), .bool (t.k (place t k) == k)]) ∧ Below w.heap.size w w'

set_option maxHeartbeats 1000000 in
theorem place_eq (t : Tb) (k : Int) (w : World) : Calls Try.prog 83 #[.agg t.all.toArray, .int .i64 k] w (Placed t k w) := by
  have T0 : Hid (TAt (w.alloc (.cells t.all.toArray 109)) w.heap.size t) := TAt.born w t _
  have B0 : Hid (Below w.heap.size w (w.alloc (.cells t.all.toArray 109))) := new_below w _
  have hh := home_lt k
  have HM := home_is k
  have P : Hid (plF t k 7 0 = place t k) := rfl
  have RA : Hid (∀ i, rowAt k i = (home k + i) % 8) := fun _ => rfl
  generalize home k = h at *
  go_enter Try.func83, Try.ntmps83
  go_wp2_with fail
  generalize w.alloc (.cells t.all.toArray 109) = W at T0 B0 ⊢
  generalize hb : w.heap.size = b at T0 ⊢
  have HB : Hid (w.heap.size = b) := hb
  clear hb
  go_loopg [4, 7] 8 (fun gg s4 s7 wt => Hid (TAt wt b t) ∧ Hid (Below w.heap.size w wt) ∧ ∃ i : Nat, i ≤ 8 ∧ 8 - i ≤ gg ∧ s7 = .int .i64 i ∧ Hid ((i < 8 ∧ plF t k (7 - i) i = place t k) ∨ (i = 8 ∧ s4 = .int .i64 (place t k : Nat) ∧ ¬ Hit t k (place t k))))
  case atStart => exact ⟨T0, B0, 0, by omega, by omega, rfl, Or.inl ⟨by omega, P.out⟩⟩
  case round =>
    obtain ⟨T, B, i, hi, hgg, rfl, D⟩ := hrel
    by_cases hlt : i < 8
    · clear T0 B0
      go_wp2_with fail
      refine (HM wr).mono ?_
      rintro e w1 ⟨rfl, rfl⟩
      obtain ⟨p, hpe⟩ : ∃ p, p = (h + i) % 8 := ⟨_, rfl⟩
      have ep : ((h : Int) + (i : Int)) % 8 = (p : Int) := by omega
      have hp : p < 8 := by omega
      have hp1 : (p : Int) < 8 := by omega
      have hp0 : (0 : Int) ≤ (p : Int) := by omega
      have EP : Hid (rowAt k i = p) := (RA.out i).trans hpe.symm
      have g0 := T.out.key hp
      have g1 := T.out.val hp
      obtain ⟨x, hx⟩ : ∃ x, t.k p = x := ⟨_, rfl⟩
      have X : Hid (t.k p = x) := hx
      rw [hx] at g0
      generalize t.v p = y at g1
      clear hpe hx
      have D' : Hid (plF t k (7 - i) i = place t k) := by
        rcases D.out with d | d
        · exact d.2
        · exact absurd d.1 (by omega)
      clear D
      by_cases hk : x = k
      · have m1 : (x == k) = true := by simp [hk]
        have PL : Hid (place t k = p ∧ (t.k (place t k) == k) = true) := by
          have : place t k = p := by
            rw [← D'.out, ← EP.out]
            cases hn : 7 - i with
            | zero => rfl
            | succ n => rw [plF, if_pos (show Hit t k (rowAt k i) from Or.inl (by rw [EP.out, X.out, hk]))]
          exact ⟨this, by rw [this, X.out]; exact m1⟩
        clear hk
        go_wp2_with fail
        go_region
        all_goals go_wp2
        refine bodyPost_ret (v := .tuple #[.int .i64 (p : Nat), .bool true]) (by simp [results, Try.results83, go_sem, ep]) rfl ⟨?_, B.out.drew⟩
        rw [PL.out.2, PL.out.1]
      · have m1 : (x == k) = false := by simp [hk]
        by_cases h0 : x = 0
        · have m0 : (x == 0) = true := by simp [h0]
          have PL : Hid (place t k = p ∧ (t.k (place t k) == k) = false) := by
            have : place t k = p := by
              rw [← D'.out, ← EP.out]
              cases hn : 7 - i with
              | zero => rfl
              | succ n => rw [plF, if_pos (show Hit t k (rowAt k i) from Or.inr (by rw [EP.out, X.out, h0]))]
            exact ⟨this, by rw [this, X.out]; exact m1⟩
          clear hk h0
          go_wp2_with fail
          refine (free_is x y _).mono ?_
          rintro e w2 ⟨rfl, hb2⟩
          have B2 : Hid (Below w.heap.size w w2) := B.out.trans (hb2.mono B.out.size)
          have T2 : Hid (TAt w2 b t) := T.out.later hb2
          have g2 := T2.out.key hp
          rw [X.out] at g2
          clear hb2 g0 g1 T B
          go_wp2_with fail
          go_region
          all_goals go_wp2
          refine bodyPost_ret (v := .tuple #[.int .i64 (p : Nat), .bool false]) (by simp [results, Try.results83, go_sem]) rfl ⟨?_, B2.out.drew⟩
          rw [PL.out.2, PL.out.1]
        · have m0 : (x == 0) = false := by simp [h0]
          have NH : Hid (¬ Hit t k (rowAt k i)) := by
            rw [EP.out]; unfold Hit; rw [X.out]
            rintro (e | e)
            · exact hk e
            · exact h0 e
          clear hk h0
          go_wp2_with fail
          refine (free_is x y _).mono ?_
          rintro e w2 ⟨rfl, hb2⟩
          have B2 : Hid (Below w.heap.size w w2) := B.out.trans (hb2.mono B.out.size)
          have T2 : Hid (TAt w2 b t) := T.out.later hb2
          clear hb2 g0 g1 T B
          go_wp2
          go_roundg (8 - (i + 1))
          case measure => omega
          case rel =>
            refine ⟨T2, B2, i + 1, by omega, by omega, by go_num, ?_⟩
            by_cases h7 : i = 7
            · subst h7
              have hpl : place t k = rowAt k 7 := D'.out.symm
              exact Or.inr ⟨rfl, by rw [hpl, EP.out], by rw [hpl]; exact NH.out⟩
            · refine Or.inl ⟨by omega, ?_⟩
              have e7 : 7 - i = (7 - (i + 1)) + 1 := by omega
              have := D'.out
              rw [e7, plF, if_neg NH.out] at this
              exact this
    · obtain rfl : i = 8 := by omega
      have D' : u4 = .int .i64 (place t k : Nat) ∧ Hid (¬ Hit t k (place t k)) := by
        rcases D.out with d | d
        · exact absurd d.1 (by omega)
        · exact ⟨d.2.1, d.2.2⟩
      obtain ⟨rfl, NH⟩ := D'
      clear D
      go_wp2
      refine bodyPost_ret (v := .tuple #[.int .i64 (place t k : Nat), .bool false]) (by simp [results, Try.results83, go_sem]) rfl ⟨?_, B.out⟩
      have : (t.k (place t k) == k) = false := by
        have := NH.out
        unfold Hit at this
        simp only [beq_eq_false_iff_ne]
        exact fun e => this (Or.inl e)
      rw [this]
end Go.Proofs.Ytgkgkiheoadbfaa.Tab
namespace Go.Proofs.Ytgkgkiheoadbfaa.Tab
set_option maxRecDepth 20000
open Go.RowKit

theorem slot_at0 (t : Tb) (w : World) : (Instr.index 109 (.agg t.all.toArray) (.int .i64 0)).run Try.prog w = .ok (.agg #[.int .i64 (t.k 0), .int .i64 (t.v 0)]) w := by kernel_rfl
theorem slot_at1 (t : Tb) (w : World) : (Instr.index 109 (.agg t.all.toArray) (.int .i64 1)).run Try.prog w = .ok (.agg #[.int .i64 (t.k 1), .int .i64 (t.v 1)]) w := by kernel_rfl
theorem slot_at2 (t : Tb) (w : World) : (Instr.index 109 (.agg t.all.toArray) (.int .i64 2)).run Try.prog w = .ok (.agg #[.int .i64 (t.k 2), .int .i64 (t.v 2)]) w := by kernel_rfl
theorem slot_at3 (t : Tb) (w : World) : (Instr.index 109 (.agg t.all.toArray) (.int .i64 3)).run Try.prog w = .ok (.agg #[.int .i64 (t.k 3), .int .i64 (t.v 3)]) w := by kernel_rfl
theorem slot_at4 (t : Tb) (w : World) : (Instr.index 109 (.agg t.all.toArray) (.int .i64 4)).run Try.prog w = .ok (.agg #[.int .i64 (t.k 4), .int .i64 (t.v 4)]) w := by kernel_rfl
theorem slot_at5 (t : Tb) (w : World) : (Instr.index 109 (.agg t.all.toArray) (.int .i64 5)).run Try.prog w = .ok (.agg #[.int .i64 (t.k 5), .int .i64 (t.v 5)]) w := by kernel_rfl
theorem slot_at6 (t : Tb) (w : World) : (Instr.index 109 (.agg t.all.toArray) (.int .i64 6)).run Try.prog w = .ok (.agg #[.int .i64 (t.k 6), .int .i64 (t.v 6)]) w := by kernel_rfl
theorem slot_at7 (t : Tb) (w : World) : (Instr.index 109 (.agg t.all.toArray) (.int .i64 7)).run Try.prog w = .ok (.agg #[.int .i64 (t.k 7), .int .i64 (t.v 7)]) w := by kernel_rfl
theorem slot_at (t : Tb) (i : Nat) (hi : i < 8) (w : World) :
    (Instr.index 109 (.agg t.all.toArray) (.int .i64 (i : Nat))).run Try.prog w = .ok (.agg #[.int .i64 (t.k i), .int .i64 (t.v i)]) w := by
  have : i = 0 ∨ i = 1 ∨ i = 2 ∨ i = 3 ∨ i = 4 ∨ i = 5 ∨ i = 6 ∨ i = 7 := by omega
  rcases this with rfl | rfl | rfl | rfl | rfl | rfl | rfl | rfl
  · exact slot_at0 t w
  · exact slot_at1 t w
  · exact slot_at2 t w
  · exact slot_at3 t w
  · exact slot_at4 t w
  · exact slot_at5 t w
  · exact slot_at6 t w
  · exact slot_at7 t w

theorem slots_array : ∃ n e, Try.prog.underlying 109 = some (.array n e) := ⟨_, _, Try.underlying109⟩
theorem slots_size (t : Tb) : (Try.prog.info? 109).map (·.size) = some t.all.length := by rw [t.all_length]; kernel_rfl

/-- How many of the first n slots aren't free. -/
def cnt (t : Tb) : Nat → Nat
  | 0 => 0
  | n + 1 => cnt t n + ind t n
theorem cnt_len (t : Tb) : cnt t 8 = len t := by simp [cnt, len]
theorem cnt_le (t : Tb) : ∀ n, cnt t n ≤ n
  | 0 => Nat.le_refl _
  | n + 1 => by have := cnt_le t n; have := ind_le t n; rw [cnt]; omega

set_option maxHeartbeats 1000000 in
theorem Len_is (t : Tb) (w : World) : Calls Try.prog 68 #[.agg t.all.toArray] w fun e w' => e = .returned (.int .i64 (len t : Nat)) ∧ Below w.heap.size w w' := by
  have T0 : Hid (TAt (w.alloc (.cells t.all.toArray 109)) w.heap.size t) := TAt.born w t _
  have B0 : Hid (Below w.heap.size w (w.alloc (.cells t.all.toArray 109))) := new_below w _
  obtain ⟨na, ea, hd⟩ := slots_array
  have HD : Hid _ := hd
  have HS : Hid _ := slots_size t
  have HX : Hid (∀ i : Nat, i < 8 → ∀ w, (Instr.index 109 (.agg t.all.toArray) (.int .i64 (i : Nat))).run Try.prog w = .ok (.agg #[.int .i64 (t.k i), .int .i64 (t.v i)]) w) := slot_at t
  have HL : Hid (cnt t 8 = len t) := cnt_len t
  have R : (w.alloc (.cells t.all.toArray 109)).rangeAt w.heap.size 0 t.all := T0.out.range
  clear hd
  generalize t.all = cs at *
  go_enter Try.func68, Try.ntmps68
  go_wp2_with (refine wpList_load_mid rfl 109 _ rfl _ _ rfl cs _ R HD.out rfl HS.out ?_)
  generalize w.alloc (.cells cs.toArray 109) = W at *
  clear R
  go_loopg [3, 7] 8 (fun gg s3 s7 wt => Hid (Below w.heap.size w wt) ∧ ∃ i : Nat, i ≤ 8 ∧ 8 - i ≤ gg ∧ s7 = .int .i64 i ∧ ∃ c : Nat, c ≤ i ∧ s3 = .int .i64 c ∧ Hid (cnt t i = c))
  case atStart => exact ⟨B0, 0, by omega, by omega, rfl, 0, by omega, rfl, rfl⟩
  case round =>
    obtain ⟨B, i, hi, hgg, rfl, c, hc, rfl, C⟩ := hrel
    clear T0 B0
    by_cases hlt : i < 8
    · have hx := HX.out i hlt
      by_cases h0 : t.k i = 0
      · have C' : Hid (cnt t (i + 1) = c) := by show cnt t i + ind t i = c; rw [C.out]; unfold ind; rw [if_pos h0]; rfl
        rw [h0] at hx
        generalize t.v i = y at hx
        clear h0
        go_wp2_with fail
        refine (free_is 0 y _).mono ?_
        rintro e w2 ⟨rfl, hb2⟩
        have B2 : Hid (Below w.heap.size w w2) := (B.out.alloc B.out.size _).trans (hb2.mono (by have := B.out.size; simp; omega))
        clear hb2 B
        go_wp2
        go_roundg (8 - (i + 1))
        case measure => omega
        case rel => exact ⟨B2, i + 1, by omega, by omega, by go_num, c, by omega, rfl, C'⟩
      · have C' : Hid (cnt t (i + 1) = c + 1) := by show cnt t i + ind t i = c + 1; rw [C.out]; unfold ind; rw [if_neg h0]
        generalize t.k i = x at hx h0
        generalize t.v i = y at hx
        have m0 : (x == 0) = false := by simp [h0]
        clear h0
        go_wp2_with fail
        refine (free_is x y _).mono ?_
        rintro e w2 ⟨rfl, hb2⟩
        have B2 : Hid (Below w.heap.size w w2) := (B.out.alloc B.out.size _).trans (hb2.mono (by have := B.out.size; simp; omega))
        clear hb2 B
        go_wp2
        go_roundg (8 - (i + 1))
        case measure => omega
        case rel => exact ⟨B2, i + 1, by omega, by omega, by go_num, c + 1, by omega, by go_num, C'⟩
    · obtain rfl : i = 8 := by omega
      go_wp2
      go_ret
      exact ⟨by rw [← HL.out, C.out]; rfl, B.out⟩

theorem fits_free (y : Int) (w : World) :
    Calls Try.prog 69 #[.agg #[.int .i64 0, .int .i64 y]] w fun e w' => e = .returned (.bool (y == 0)) ∧ Below w.heap.size w w' := by
  go_enter Try.func69, Try.ntmps69
  go_wp2_with fail
  refine (free_is 0 y _).mono ?_
  rintro e w2 ⟨rfl, hb⟩
  have g1 : w2.cell? ⟨w.heap.size, 1, none⟩ = some (.int .i64 y) := Below.box hb 1 rfl
  have B2 : Hid (Below w.heap.size w w2) := (new_below w _).trans (hb.mono (by simp))
  clear hb
  go_wp2
  go_ret
  exact ⟨rfl, B2.out⟩

set_option maxHeartbeats 1000000 in
theorem fits_key (x y : Int) (hx : x ≠ 0) (w : World) :
    Calls Try.prog 69 #[.agg #[.int .i64 x, .int .i64 y]] w fun e w' => e = .returned (.bool (decide (1 ≤ x ∧ x ≤ 1000 ∧ 0 ≤ y ∧ y ≤ 4294967295))) ∧ Below w.heap.size w w' := by
  have m0 : (x == 0) = false := by simp [hx]
  clear hx
  by_cases h0 : 1 ≤ x
  · by_cases h1 : x ≤ 1000
    · by_cases h2 : 0 ≤ y
      · by_cases h3 : y ≤ 4294967295
        · rw [show decide (1 ≤ x ∧ x ≤ 1000 ∧ 0 ≤ y ∧ y ≤ 4294967295) = true by simp [h0, h1, h2, h3]]
          go_enter Try.func69, Try.ntmps69
          go_wp2_with fail
          refine (free_is x y _).mono ?_
          rintro e w2 ⟨rfl, hb⟩
          have g0 : w2.cell? ⟨w.heap.size, 0, none⟩ = some (.int .i64 x) := Below.box hb 0 rfl
          have g1 : w2.cell? ⟨w.heap.size, 1, none⟩ = some (.int .i64 y) := Below.box hb 1 rfl
          have B2 : Hid (Below w.heap.size w w2) := (new_below w _).trans (hb.mono (by simp))
          clear hb
          go_wp2
          go_ret
          first | exact ⟨rfl, B2.out⟩ | exact ⟨congrArg (fun b => Ending.returned (.bool b)) (decide_eq_false (by omega)), B2.out⟩
        · rw [show decide (1 ≤ x ∧ x ≤ 1000 ∧ 0 ≤ y ∧ y ≤ 4294967295) = false by simp [h3]]
          go_enter Try.func69, Try.ntmps69
          go_wp2_with fail
          refine (free_is x y _).mono ?_
          rintro e w2 ⟨rfl, hb⟩
          have g0 : w2.cell? ⟨w.heap.size, 0, none⟩ = some (.int .i64 x) := Below.box hb 0 rfl
          have g1 : w2.cell? ⟨w.heap.size, 1, none⟩ = some (.int .i64 y) := Below.box hb 1 rfl
          have B2 : Hid (Below w.heap.size w w2) := (new_below w _).trans (hb.mono (by simp))
          clear hb
          go_wp2
          go_ret
          first | exact ⟨rfl, B2.out⟩ | exact ⟨congrArg (fun b => Ending.returned (.bool b)) (decide_eq_false (by omega)), B2.out⟩
      · rw [show decide (1 ≤ x ∧ x ≤ 1000 ∧ 0 ≤ y ∧ y ≤ 4294967295) = false by simp [h2]]
        go_enter Try.func69, Try.ntmps69
        go_wp2_with fail
        refine (free_is x y _).mono ?_
        rintro e w2 ⟨rfl, hb⟩
        have g0 : w2.cell? ⟨w.heap.size, 0, none⟩ = some (.int .i64 x) := Below.box hb 0 rfl
        have g1 : w2.cell? ⟨w.heap.size, 1, none⟩ = some (.int .i64 y) := Below.box hb 1 rfl
        have B2 : Hid (Below w.heap.size w w2) := (new_below w _).trans (hb.mono (by simp))
        clear hb
        go_wp2
        go_ret
        first | exact ⟨rfl, B2.out⟩ | exact ⟨congrArg (fun b => Ending.returned (.bool b)) (decide_eq_false (by omega)), B2.out⟩
    · rw [show decide (1 ≤ x ∧ x ≤ 1000 ∧ 0 ≤ y ∧ y ≤ 4294967295) = false by simp [h1]]
      go_enter Try.func69, Try.ntmps69
      go_wp2_with fail
      refine (free_is x y _).mono ?_
      rintro e w2 ⟨rfl, hb⟩
      have g0 : w2.cell? ⟨w.heap.size, 0, none⟩ = some (.int .i64 x) := Below.box hb 0 rfl
      have g1 : w2.cell? ⟨w.heap.size, 1, none⟩ = some (.int .i64 y) := Below.box hb 1 rfl
      have B2 : Hid (Below w.heap.size w w2) := (new_below w _).trans (hb.mono (by simp))
      clear hb
      go_wp2
      go_ret
      first | exact ⟨rfl, B2.out⟩ | exact ⟨congrArg (fun b => Ending.returned (.bool b)) (decide_eq_false (by omega)), B2.out⟩
  · rw [show decide (1 ≤ x ∧ x ≤ 1000 ∧ 0 ≤ y ∧ y ≤ 4294967295) = false by simp [h0]]
    go_enter Try.func69, Try.ntmps69
    go_wp2_with fail
    refine (free_is x y _).mono ?_
    rintro e w2 ⟨rfl, hb⟩
    have g0 : w2.cell? ⟨w.heap.size, 0, none⟩ = some (.int .i64 x) := Below.box hb 0 rfl
    have g1 : w2.cell? ⟨w.heap.size, 1, none⟩ = some (.int .i64 y) := Below.box hb 1 rfl
    have B2 : Hid (Below w.heap.size w w2) := (new_below w _).trans (hb.mono (by simp))
    clear hb
    go_wp2
    go_ret
    first | exact ⟨rfl, B2.out⟩ | exact ⟨congrArg (fun b => Ending.returned (.bool b)) (decide_eq_false (by omega)), B2.out⟩

/-- What comes of a slot's test. -/
def fitsF (x y : Int) : Bool := if x = 0 then y == 0 else decide (1 ≤ x ∧ x ≤ 1000 ∧ 0 ≤ y ∧ y ≤ 4294967295)
theorem fits_is (x y : Int) (w : World) :
    Calls Try.prog 69 #[.agg #[.int .i64 x, .int .i64 y]] w fun e w' => e = .returned (.bool (fitsF x y)) ∧ Below w.heap.size w w' := by
  unfold fitsF
  by_cases h : x = 0
  · subst h
    exact fits_free y w
  · rw [if_neg h]
    exact fits_key x y h w

theorem range_later {w w' : World} {n o : Nat} {cs : List Value} (h : w.rangeAt n o cs) (hb : Below w.heap.size w w') : w'.rangeAt n o cs := fun j v hv => by
  have c := h j v hv
  rw [hb.cell (World.block_lt_of_cell? w _ c)]; exact c
theorem cell_later {w w' : World} {n o : Nat} {v : Value} (h : w.cell? ⟨n, o, none⟩ = some v) (hb : Below w.heap.size w w') : w'.cell? ⟨n, o, none⟩ = some v := by
  rw [hb.cell (World.block_lt_of_cell? w _ h)]; exact h
theorem below_later {B : Nat} {W w w' : World} (h : Below B W w) (hB : B ≤ W.heap.size) (hb : Below w.heap.size w w') : Below B W w' := h.trans (hb.mono (Nat.le_trans hB h.size))

theorem found_keep {W w w' : World} {b o : Nat} {cs : List Value} {v : Value} (h : w.rangeAt b 0 cs ∧ w.cell? ⟨b, o, none⟩ = some v ∧ Below W.heap.size W w) (hb : Below w.heap.size w w') :
    w'.rangeAt b 0 cs ∧ w'.cell? ⟨b, o, none⟩ = some v ∧ Below W.heap.size W w' := ⟨range_later h.1 hb, cell_later h.2.1 hb, below_later h.2.2 (Nat.le_refl _) hb⟩

end Go.Proofs.Ytgkgkiheoadbfaa.Tab
namespace Go.Proofs.Ytgkgkiheoadbfaa.Tab
set_option maxRecDepth 20000
open Go.RowKit

theorem nat_beq (p i : Nat) : ((p : Int) == (i : Int)) = decide (p = i) := by
  by_cases h : p = i
  · simp [h]
  · have : ¬ ((p : Int) = (i : Int)) := by omega
    simp [h, this]

set_option maxHeartbeats 1000000 in
theorem found_is (t : Tb) (i : Nat) (hi : i < 8) (w : World) :
    Calls Try.prog 71 #[.agg t.all.toArray, .int .i64 (i : Nat)] w fun e w' => e = .returned (.bool (t.k (place t (t.k i)) == t.k i && decide (place t (t.k i) = i))) ∧ Below w.heap.size w w' := by
  obtain ⟨na, ea, hd⟩ := slots_array
  have HD : Hid _ := hd
  clear hd
  have HS : Hid (∀ t : Tb, (Try.prog.info? 109).map (·.size) = some t.all.length) := slots_size
  have hi1 : (i : Int) < 8 := by omega
  have hi0 : (0 : Int) ≤ (i : Int) := by omega
  have HP := place_eq t (t.k i)
  unfold Placed at HP
  generalize (t.k (place t (t.k i)) == t.k i) = has at HP ⊢
  generalize place t (t.k i) = p at HP ⊢
  have g0 : Hid (Gd w.heap.size w (w.alloc (.cells t.all.toArray 109))) := (Gd.refl w).new _
  have t0 : Hid (TAt (w.alloc (.cells t.all.toArray 109)) w.heap.size t) := TAt.born w t _
  go_enter Try.func71, Try.ntmps71
  go_wp2_with fail
  generalize (w.alloc (.cells t.all.toArray 109)) = W at g0 t0 ⊢
  generalize w.heap.size = n at g0 t0 ⊢
  have h1q : Hid (Gd n w W.drew) := g0.out.drew
  have h2q : Hid (TAt W.drew n t) := t0.out.drew
  clear g0 t0
  refine wp_region_held_drew (S := fun w' => TAt w' n t) (by kernel_rfl) h2q.out (fun hH => ?_)
  generalize W.drew = u3q at h1q h2q hH ⊢
  refine wpAnyH_take (i := 0) (oi := { dst := some 8, op := .load _ (.tmp 2), type := _, pos := _, after := _, guard := _ }) (v := _) rfl (by kernel_rfl) (by kernel_rfl) (by kernel_rfl) (fun _ _ _ h => h) (yieldsIf_load_mid (by rfl) _ _ rfl n _ rfl t.all _ (fun _ h => (h).range) HD.out rfl (HS.out t)) hH ?_
  simp only [Act.put, List.setIfInBounds_toArray, List.set_cons_zero, List.set_cons_succ]
  refine wpAnyH_take (i := 1) (oi := { dst := some 9, op := .move (.tmp 1), type := _, pos := _, after := _, guard := _ }) (v := ?_) rfl (by kernel_rfl) (by kernel_rfl) (by kernel_rfl) (fun _ _ _ h => h) (Or.inl ⟨by rfl, ?_⟩) hH ?_
  rotate_left
  · intro w hSw
    clear hSw
    go_simp
    try with_reducible rfl
  simp only [Act.put, List.setIfInBounds_toArray, List.set_cons_zero, List.set_cons_succ]
  refine wpAnyH_take (i := 2) (oi := { dst := some 10, op := .indexAddr _ (.tmp 2) (.tmp 9), type := _, pos := _, after := _, guard := _ }) (v := ?_) rfl (by kernel_rfl) (by kernel_rfl) (by kernel_rfl) (fun _ _ _ h => h) (Or.inl ⟨by rfl, ?_⟩) hH ?_
  rotate_left
  · intro w hSw
    clear hSw
    go_simp
    try with_reducible rfl
  simp only [Act.put, List.setIfInBounds_toArray, List.set_cons_zero, List.set_cons_succ]
  refine wpAnyH_take (i := 3) (oi := { dst := some 11, op := .fieldAddr _ (.tmp 10) 0, type := _, pos := _, after := _, guard := _ }) (v := ?_) rfl (by kernel_rfl) (by kernel_rfl) (by kernel_rfl) (fun _ _ _ h => h) (Or.inl ⟨by rfl, ?_⟩) hH ?_
  rotate_left
  · intro w hSw
    clear hSw
    go_simp
    try with_reducible rfl
  simp only [Act.put, List.setIfInBounds_toArray, List.set_cons_zero, List.set_cons_succ]
  refine wpAnyH_take (i := 4) (oi := { dst := some 12, op := .load _ (.tmp 11), type := _, pos := _, after := _, guard := _ }) (v := ?_) rfl (by kernel_rfl) (by kernel_rfl) (by kernel_rfl) (fun _ _ _ h => h) (Or.inl ⟨by rfl, ?_⟩) hH ?_
  rotate_left
  · intro w hSw
    have c4q := (hSw).key hi
    clear hSw
    go_simp
    try with_reducible rfl
  simp only [Act.put, List.setIfInBounds_toArray, List.set_cons_zero, List.set_cons_succ]
  refine wpAnyH_ready (rs := [5]) (by kernel_rfl) (by simp) ?_
  refine AllReadyH.cons (o := { dst := some 13, op := _, type := _, pos := _, after := _, guard := _ }) rfl (fun K hK => ?_) AllReadyH.nil
  go_simp
  refine (HP _).mono ?_
  rintro e u5q ⟨rfl, hb⟩
  have h6q : Hid (Gd n w u5q) := h1q.out.later hb
  have h7q : Hid (TAt u5q n t) := h2q.out.later hb
  clear h1q h2q
  clear hb
  go_wp2_with fail
  refine hK.out _ _ h7q.out (fun hH => ?_)
  clear hK K
  try simp only [Act.put, List.setIfInBounds_toArray, List.set_cons_zero, List.set_cons_succ]
  refine wpAnyH_take (i := 6) (oi := { dst := some 7, op := .move (.tmp 13), type := _, pos := _, after := _, guard := _ }) (v := ?_) rfl (by kernel_rfl) (by kernel_rfl) (by kernel_rfl) (fun _ _ _ h => h) (Or.inl ⟨by rfl, ?_⟩) hH ?_
  rotate_left
  · intro w hSw
    clear hSw
    go_simp
    try with_reducible rfl
  simp only [Act.put, List.setIfInBounds_toArray, List.set_cons_zero, List.set_cons_succ]
  refine wpAnyH_take (i := 7) (oi := { dst := some 14, op := .extract (.tmp 7) 0, type := _, pos := _, after := _, guard := _ }) (v := ?_) rfl (by kernel_rfl) (by kernel_rfl) (by kernel_rfl) (fun _ _ _ h => h) (Or.inl ⟨by rfl, ?_⟩) hH ?_
  rotate_left
  · intro w hSw
    clear hSw
    go_simp
    try with_reducible rfl
  simp only [Act.put, List.setIfInBounds_toArray, List.set_cons_zero, List.set_cons_succ]
  refine wpAnyH_take (i := 8) (oi := { dst := some 15, op := .extract (.tmp 7) 1, type := _, pos := _, after := _, guard := _ }) (v := ?_) rfl (by kernel_rfl) (by kernel_rfl) (by kernel_rfl) (fun _ _ _ h => h) (Or.inl ⟨by rfl, ?_⟩) hH ?_
  rotate_left
  · intro w hSw
    clear hSw
    go_simp
    try with_reducible rfl
  simp only [Act.put, List.setIfInBounds_toArray, List.set_cons_zero, List.set_cons_succ]
  refine wpAnyH_take (i := 9) (oi := { dst := some 5, op := .assign (.tmp 14), type := _, pos := _, after := _, guard := _ }) (v := ?_) rfl (by kernel_rfl) (by kernel_rfl) (by kernel_rfl) (fun _ _ _ h => h) (Or.inl ⟨by rfl, ?_⟩) hH ?_
  rotate_left
  · intro w hSw
    clear hSw
    go_simp
    try with_reducible rfl
  simp only [Act.put, List.setIfInBounds_toArray, List.set_cons_zero, List.set_cons_succ]
  refine wpAnyH_take (i := 10) (oi := { dst := some 6, op := .assign (.tmp 15), type := _, pos := _, after := _, guard := _ }) (v := ?_) rfl (by kernel_rfl) (by kernel_rfl) (by kernel_rfl) (fun _ _ _ h => h) (Or.inl ⟨by rfl, ?_⟩) hH ?_
  rotate_left
  · intro w hSw
    clear hSw
    go_simp
    try with_reducible rfl
  simp only [Act.put, List.setIfInBounds_toArray, List.set_cons_zero, List.set_cons_succ]
  refine wpAnyH_done (by kernel_rfl) ?_ _
  go_wp2
  all_goals go_ret
  all_goals refine ⟨?_, h6q.out.2⟩
  · have e : has = true := by cases has <;> simp_all
    subst e
    exact congrArg (fun b => Ending.returned (.bool b)) (by rw [Bool.true_and]; exact nat_beq p i)
  · have e : has = false := by cases has <;> simp_all
    subst e; rfl

/-- A slot as it may be. -/
def good (t : Tb) (i : Nat) : Prop := fitsF (t.k i) (t.v i) = true ∧ (t.k i ≠ 0 → place t (t.k i) = i)
theorem RT.goodAt {t : Tb} (h : RT t) {i : Nat} (hi : i < 8) : good t i := by
  refine ⟨?_, fun hk => h.found hi hk⟩
  unfold fitsF
  by_cases hk : t.k i = 0
  · rw [if_pos hk, h.none i hi hk]; rfl
  · have h1 := h.keys i hi
    have h2 := h.vals i hi
    rw [if_neg hk]
    simp only [decide_eq_true_eq]
    omega
theorem RT.of_good {t : Tb} (hl : len t ≤ 6) (h : ∀ i, i < 8 → good t i) : RT t := by
  have hf : ∀ i, i < 8 → (0 ≤ t.k i ∧ t.k i ≤ 1000) ∧ (0 ≤ t.v i ∧ t.v i ≤ 4294967295) ∧ (t.k i = 0 → t.v i = 0) := fun i hi => by
    have := (h i hi).1
    unfold fitsF at this
    by_cases hk : t.k i = 0
    · rw [if_pos hk] at this
      have e : t.v i = 0 := by simpa using this
      rw [hk, e]
      exact ⟨by omega, by omega, fun _ => rfl⟩
    · rw [if_neg hk] at this
      simp only [decide_eq_true_eq] at this
      exact ⟨by omega, by omega, fun e => absurd e hk⟩
  exact RT.of_found (fun i hi => (hf i hi).1) (fun i hi => (hf i hi).2.1) (fun i hi => (hf i hi).2.2) (fun i hi => (h i hi).2) hl

/-- A load under a guard that is met. -/
theorem wpList_load_wanted {P : Program} {ops : Array Oper} {rest : List Oper} {op : Oper} {a : Act} {w : World} {Q : Exit → Act → World → Prop} (hw : Region.wanted op (yielded ops a.tmps) = true) (ty : TypeId) (x : Operand) (ho : op.op = .load ty x)
    (b o : Nat) (hx : a.eval x = .pointer (some ⟨b, o, none⟩)) (cs : List Value) (d : TypeDesc) (hc : w.rangeAt b o cs)
    (hu : P.underlying ty = some d) (hd : d.isRow = true) (hi : (P.info? ty).map (·.size) = some cs.length)
    (h : wpList P ops Q rest (a.put op.dst (.agg cs.toArray)) w) : wpList P ops Q (op :: rest) a w := by
  simp only [wpList, hw, if_true]
  exact .inl (wp_load_mid ty x ho b o hx cs d hc hu hd hi h)

set_option maxHeartbeats 2000000 in
theorem Right_is (t : Tb) (b : Bool) (hb : b = true ↔ RT t) (w : World) :
    Calls Try.prog 59 #[.agg t.all.toArray] w fun e w' => e = .returned (.bool b) ∧ Below w.heap.size w w' := by
  obtain ⟨na, ea, hd⟩ := slots_array
  have HD : Hid _ := hd
  clear hd
  have HS : Hid (∀ t : Tb, (Try.prog.info? 109).map (·.size) = some t.all.length) := slots_size
  have HB : Hid (b = true ↔ RT t) := hb
  have HL := Len_is t
  have HX : Hid _ := slot_at t
  have HLL : Hid (len t ≤ 8) := len_le t
  have LE : Hid (∃ l, len t = l) := ⟨_, rfl⟩
  clear hb
  have g0 : Hid (Gd w.heap.size w (w.alloc (.cells t.all.toArray 109))) := (Gd.refl w).new _
  have t0 : Hid (TAt (w.alloc (.cells t.all.toArray 109)) w.heap.size t) := TAt.born w t _
  go_enter Try.func59, Try.ntmps59
  go_wp2_with (refine wpList_load_mid rfl 109 _ rfl _ _ rfl t.all _ t0.out.range HD.out rfl (HS.out t) ?_)
  refine (HL _).mono ?_
  rintro e w1 ⟨rfl, hb1⟩
  have g1 := g0.out.later hb1
  have t1 : Hid (TAt w1 w.heap.size t) := t0.out.later hb1
  have G1 : Hid (Gd w.heap.size w w1) := g1
  clear hb1 g0 t0 g1
  obtain ⟨l, hl⟩ := LE.out
  have HL2 : Hid (len t = l) := hl
  have hl8 : l ≤ 8 := hl ▸ HLL.out
  rw [hl]
  clear hl HL
  by_cases h6 : 6 < l
  · have h6' : (6 : Int) < (l : Int) := by omega
    have e : b = false := by
      cases b with
      | false => rfl
      | true => have := (HB.out.1 rfl).room; have := HL2.out; omega
    subst e
    go_wp2
    go_ret
    exact ⟨rfl, G1.out.2⟩
  have h6' : ¬ (6 : Int) < (l : Int) := by omega
  have L6 : Hid (len t ≤ 6) := by have := HL2.out; show len t ≤ 6; omega
  go_wp2_with (refine wpList_load_mid rfl 109 _ rfl _ _ rfl t.all _ t1.out.range HD.out rfl (HS.out t) ?_)
  generalize w.heap.size = n at t1 G1 ⊢
  have HNN : Hid (n = w.heap.size) := G1.out.1.symm
  go_loopg [9] 8 (fun gg s9 wt => Hid (TAt wt n t) ∧ Hid (Gd n w wt) ∧ ∃ i : Nat, i ≤ 8 ∧ 8 - i ≤ gg ∧ s9 = .int .i64 i ∧ Hid (∀ j, j < i → good t j))
  case atStart => exact ⟨t1, G1, 0, by omega, by omega, rfl, fun j hj => absurd hj (Nat.not_lt_zero _)⟩
  case round =>
    obtain ⟨T, G, i, hi, hgg, rfl, D⟩ := hrel
    clear t1 G1
    by_cases hlt : i < 8
    · have hx := HX.out i hlt
      by_cases hgd : good t i
      · have GD : Hid (good t i) := hgd
        have D' : Hid (∀ j, j < i + 1 → good t j) := fun j hj => by
          by_cases e : j = i
          · subst e; exact hgd
          · exact D.out j (by omega)
        have F := fits_is (t.k i) (t.v i)
        rw [hgd.1] at F
        by_cases hk : t.k i = 0
        · have m0 : (t.k i == 0) = true := by simp [hk]
          have R := free_is (t.k i) (t.v i)
          rw [m0] at R
          generalize t.k i = x at *
          generalize t.v i = y at *
          clear hk hgd m0
          go_wp2_with fail
          refine (F _).mono ?_
          rintro e w2 ⟨rfl, hb2⟩
          have T3 : Hid (TAt w2 n t) := (T.out.new (.cells #[.int .i64 x, .int .i64 y] 107)).later hb2
          have G3 : Hid (Gd n w w2) := (G.out.new (.cells #[.int .i64 x, .int .i64 y] 107)).later hb2
          have c0 : w2.cell? ⟨wr.heap.size, 0, none⟩ = some (.int .i64 x) := Below.box hb2 0 rfl
          have c1 : w2.cell? ⟨wr.heap.size, 1, none⟩ = some (.int .i64 y) := Below.box hb2 1 rfl
          clear hb2
          go_wp2_with fail
          refine (R _).mono ?_
          rintro e w3 ⟨rfl, hb3⟩
          have T4 : Hid (TAt w3 n t) := T3.out.later hb3
          have G4 : Hid (Gd n w w3) := G3.out.later hb3
          clear hb3 c0 c1
          go_wp2
          go_roundg (8 - (i + 1))
          case measure => omega
          case rel => exact ⟨T4, G4, i + 1, by omega, by omega, by go_num, D'⟩
        · have m0 : (t.k i == 0) = false := by simp [hk]
          have R := free_is (t.k i) (t.v i)
          rw [m0] at R
          have U := found_is t i hlt
          rw [show (t.k (place t (t.k i)) == t.k i && decide (place t (t.k i) = i)) = true by rw [hgd.2 hk]; simp] at U
          generalize t.k i = x at *
          generalize t.v i = y at *
          clear hk hgd m0
          go_wp2_with fail
          refine (F _).mono ?_
          rintro e w2 ⟨rfl, hb2⟩
          have T3 : Hid (TAt w2 n t) := (T.out.new (.cells #[.int .i64 x, .int .i64 y] 107)).later hb2
          have G3 : Hid (Gd n w w2) := (G.out.new (.cells #[.int .i64 x, .int .i64 y] 107)).later hb2
          have c0 : w2.cell? ⟨wr.heap.size, 0, none⟩ = some (.int .i64 x) := Below.box hb2 0 rfl
          have c1 : w2.cell? ⟨wr.heap.size, 1, none⟩ = some (.int .i64 y) := Below.box hb2 1 rfl
          clear hb2
          go_wp2_with fail
          refine (R _).mono ?_
          rintro e w3 ⟨rfl, hb3⟩
          have T4 : Hid (TAt w3 n t) := T3.out.later hb3
          have G4 : Hid (Gd n w w3) := G3.out.later hb3
          clear hb3 c0 c1
          go_wp2_with (refine wpList_load_wanted (by rfl) 109 _ rfl n _ rfl t.all _ T4.out.range HD.out rfl (HS.out t) ?_)
          refine (U _).mono ?_
          rintro e w4 ⟨rfl, hb4⟩
          have T5 : Hid (TAt w4 n t) := T4.out.later hb4
          have G5 : Hid (Gd n w w4) := G4.out.later hb4
          clear hb4
          go_wp2
          go_roundg (8 - (i + 1))
          case measure => omega
          case rel => exact ⟨T5, G5, i + 1, by omega, by omega, by go_num, D'⟩
      · have e : b = false := by
          cases b with
          | false => rfl
          | true => exact absurd ((HB.out.1 rfl).goodAt hlt) hgd
        subst e
        have F := fits_is (t.k i) (t.v i)
        by_cases hf : fitsF (t.k i) (t.v i) = true
        · rw [hf] at F
          have hk : t.k i ≠ 0 := fun hk => hgd ⟨hf, fun h => absurd hk h⟩
          have hp : place t (t.k i) ≠ i := fun hp => hgd ⟨hf, fun _ => hp⟩
          have m0 : (t.k i == 0) = false := by simp [hk]
          have R := free_is (t.k i) (t.v i)
          rw [m0] at R
          have U := found_is t i hlt
          rw [show (t.k (place t (t.k i)) == t.k i && decide (place t (t.k i) = i)) = false by simp [hp]] at U
          generalize t.k i = x at *
          generalize t.v i = y at *
          clear hk hgd m0 hp hf
          go_wp2_with fail
          refine (F _).mono ?_
          rintro e w2 ⟨rfl, hb2⟩
          have T3 : Hid (TAt w2 n t) := (T.out.new (.cells #[.int .i64 x, .int .i64 y] 107)).later hb2
          have G3 : Hid (Gd n w w2) := (G.out.new (.cells #[.int .i64 x, .int .i64 y] 107)).later hb2
          have c0 : w2.cell? ⟨wr.heap.size, 0, none⟩ = some (.int .i64 x) := Below.box hb2 0 rfl
          have c1 : w2.cell? ⟨wr.heap.size, 1, none⟩ = some (.int .i64 y) := Below.box hb2 1 rfl
          clear hb2
          go_wp2_with fail
          refine (R _).mono ?_
          rintro e w3 ⟨rfl, hb3⟩
          have T4 : Hid (TAt w3 n t) := T3.out.later hb3
          have G4 : Hid (Gd n w w3) := G3.out.later hb3
          clear hb3 c0 c1
          go_wp2_with (refine wpList_load_wanted (by rfl) 109 _ rfl n _ rfl t.all _ T4.out.range HD.out rfl (HS.out t) ?_)
          refine (U _).mono ?_
          rintro e w4 ⟨rfl, hb4⟩
          have T5 : Hid (TAt w4 n t) := T4.out.later hb4
          have G5 : Hid (Gd n w w4) := G4.out.later hb4
          clear hb4
          go_wp2
          go_ret
          exact ⟨rfl, G5.out.2⟩
        · rw [show fitsF (t.k i) (t.v i) = false by simpa using hf] at F
          generalize t.k i = x at *
          generalize t.v i = y at *
          clear hgd hf
          go_wp2_with fail
          refine (F _).mono ?_
          rintro e w2 ⟨rfl, hb2⟩
          have T3 : Hid (TAt w2 n t) := (T.out.new (.cells #[.int .i64 x, .int .i64 y] 107)).later hb2
          have G3 : Hid (Gd n w w2) := (G.out.new (.cells #[.int .i64 x, .int .i64 y] 107)).later hb2
          clear hb2
          go_wp2
          go_ret
          exact ⟨rfl, G3.out.2⟩
    · obtain rfl : i = 8 := by omega
      have e : b = true := HB.out.2 (RT.of_good L6.out D.out)
      subst e
      go_wp2
      go_ret
      exact ⟨rfl, G.out.2⟩
end Go.Proofs.Ytgkgkiheoadbfaa.Tab
namespace Go.Proofs.Ytgkgkiheoadbfaa.Tab
set_option maxRecDepth 20000
open Go.RowKit

theorem slots_size2 (t : Tb) : (Try.prog.info? 109).map (·.size) = some t.all.toArray.size := by rw [List.size_toArray]; exact slots_size t
theorem slot_size : (Try.prog.info? 107).map (·.size) = some 2 := by kernel_rfl
set_option maxHeartbeats 1000000 in
theorem byKey_is (o k x : Int) (w : World) :
    Calls Try.prog 87 #[.agg #[.int .i64 o, .int .i64 k, .int .i64 x]] w fun e w' => e = .returned (.bool (decide (byKey o k))) ∧ Below w.heap.size w w' := by
  have fin : ∀ q, o = q → (q = 1 ∨ q = 2 ∨ q = 5) → Calls Try.prog 87 #[.agg #[.int .i64 o, .int .i64 k, .int .i64 x]] w fun e w' => e = .returned (.bool (decide (byKey o k))) ∧ Below w.heap.size w w' := by
    intro q e hq
    subst e
    have B : Hid (byKey o k ↔ 1 ≤ k ∧ k ≤ 1000) := ⟨fun h => h.2, fun h => ⟨hq, h⟩⟩
    by_cases h1 : 1 ≤ k
    · by_cases h2 : k ≤ 1000
      · rw [show decide (byKey o k) = true by first | exact decide_eq_true (B.out.2 ⟨h1, h2⟩) | exact decide_eq_false (fun h => by have := B.out.1 h; omega)]
        clear B
        rcases hq with rfl | rfl | rfl
        all_goals (
          go_enter Try.func87, Try.ntmps87
          go_wp2
          go_ret
          first | exact ⟨rfl, new_below _ _⟩ | exact ⟨congrArg (fun b => Ending.returned (.bool b)) (decide_eq_false (by omega)), new_below _ _⟩)
      · rw [show decide (byKey o k) = false by first | exact decide_eq_true (B.out.2 ⟨h1, h2⟩) | exact decide_eq_false (fun h => by have := B.out.1 h; omega)]
        clear B
        rcases hq with rfl | rfl | rfl
        all_goals (
          go_enter Try.func87, Try.ntmps87
          go_wp2
          go_ret
          first | exact ⟨rfl, new_below _ _⟩ | exact ⟨congrArg (fun b => Ending.returned (.bool b)) (decide_eq_false (by omega)), new_below _ _⟩)
    · rw [show decide (byKey o k) = false by first | exact decide_eq_true (B.out.2 ⟨h1, h2⟩) | exact decide_eq_false (fun h => by have := B.out.1 h; omega)]
      clear B
      rcases hq with rfl | rfl | rfl
      all_goals (
        go_enter Try.func87, Try.ntmps87
        go_wp2
        go_ret
        first | exact ⟨rfl, new_below _ _⟩ | exact ⟨congrArg (fun b => Ending.returned (.bool b)) (decide_eq_false (by omega)), new_below _ _⟩)
  by_cases o1 : o = 1
  · exact fin 1 o1 (Or.inl rfl)
  by_cases o2 : o = 2
  · exact fin 2 o2 (Or.inr (Or.inl rfl))
  by_cases o5 : o = 5
  · exact fin 5 o5 (Or.inr (Or.inr rfl))
  clear fin
  rw [show decide (byKey o k) = false by exact decide_eq_false (fun h => by rcases h.1 with e | e | e <;> contradiction)]
  have m1 : (o == 1) = false := by simp [o1]
  have m2 : (o == 2) = false := by simp [o2]
  have m5 : (o == 5) = false := by simp [o5]
  clear o1 o2 o5
  go_enter Try.func87, Try.ntmps87
  go_wp2
  go_ret
  exact ⟨rfl, new_below _ _⟩

set_option maxHeartbeats 2000000 in
theorem without_is (t : Tb) (p : Nat) (hp : p < 8) (w : World) :
    Calls Try.prog 88 #[.agg t.all.toArray, .int .i64 (p : Nat)] w fun e w' => e = .returned (.agg (without t p).all.toArray) ∧ Below w.heap.size w w' := by
  obtain ⟨na, ea, hd⟩ := slots_array
  have HD : Hid _ := hd
  clear hd
  have HS : Hid (∀ t : Tb, (Try.prog.info? 109).map (·.size) = some t.all.length) := slots_size
  have HZ : Hid (∀ t : Tb, (Try.prog.info? 109).map (·.size) = some t.all.toArray.size) := slots_size2
  have HT : Hid ((Try.prog.info? 107).map (·.size) = some 2) := slot_size
  have hp1 : (p : Int) < 8 := by omega
  have hp0 : (0 : Int) ≤ (p : Int) := by omega
  have g0 : Hid (Gd w.heap.size w ((w.alloc (.cells t.all.toArray 109)).alloc (.cells #[.int .i64 0, .int .i64 0, .int .i64 0, .int .i64 0, .int .i64 0, .int .i64 0, .int .i64 0, .int .i64 0, .int .i64 0, .int .i64 0, .int .i64 0, .int .i64 0, .int .i64 0, .int .i64 0, .int .i64 0, .int .i64 0] 109))) := ((Gd.refl w).new _).new _
  have t0 : Hid (TAt ((w.alloc (.cells t.all.toArray 109)).alloc (.cells #[.int .i64 0, .int .i64 0, .int .i64 0, .int .i64 0, .int .i64 0, .int .i64 0, .int .i64 0, .int .i64 0, .int .i64 0, .int .i64 0, .int .i64 0, .int .i64 0, .int .i64 0, .int .i64 0, .int .i64 0, .int .i64 0] 109)) w.heap.size t) := (TAt.born w t _).new _
  have z0 : Hid (TAt ((w.alloc (.cells t.all.toArray 109)).alloc (.cells #[.int .i64 0, .int .i64 0, .int .i64 0, .int .i64 0, .int .i64 0, .int .i64 0, .int .i64 0, .int .i64 0, .int .i64 0, .int .i64 0, .int .i64 0, .int .i64 0, .int .i64 0, .int .i64 0, .int .i64 0, .int .i64 0] 109)) (w.heap.size + 1) Tb.zero) := TAt.bornZero _ _ (by simp)
  generalize hn : w.heap.size = n at g0 t0 z0
  go_enter Try.func88, Try.ntmps88
  skip
  go_wp2_with (first
    | (refine wpList_store_mid rfl 107 _ _ rfl n _ #[.int .i64 (0), .int .i64 (0)] rfl rfl (t0.out.thereS hp) HT.out (two_one _ _) ?_
       have h1q : Hid (Gd n w (((w.alloc (.cells t.all.toArray 109)).alloc (.cells #[.int .i64 0, .int .i64 0, .int .i64 0, .int .i64 0, .int .i64 0, .int .i64 0, .int .i64 0, .int .i64 0, .int .i64 0, .int .i64 0, .int .i64 0, .int .i64 0, .int .i64 0, .int .i64 0, .int .i64 0, .int .i64 0] 109)).setCells n (p * 2) [.int .i64 (0), .int .i64 (0)])) := g0.out.asideL (by omega) (p * 2) [.int .i64 (0), .int .i64 (0)]
       have h2q : Hid (TAt (((w.alloc (.cells t.all.toArray 109)).alloc (.cells #[.int .i64 0, .int .i64 0, .int .i64 0, .int .i64 0, .int .i64 0, .int .i64 0, .int .i64 0, .int .i64 0, .int .i64 0, .int .i64 0, .int .i64 0, .int .i64 0, .int .i64 0, .int .i64 0, .int .i64 0, .int .i64 0] 109)).setCells n (p * 2) [.int .i64 (0), .int .i64 (0)]) n (t.set p 0 0)) := t0.out.slot hp (0) (0)
       have h3q : Hid (TAt (((w.alloc (.cells t.all.toArray 109)).alloc (.cells #[.int .i64 0, .int .i64 0, .int .i64 0, .int .i64 0, .int .i64 0, .int .i64 0, .int .i64 0, .int .i64 0, .int .i64 0, .int .i64 0, .int .i64 0, .int .i64 0, .int .i64 0, .int .i64 0, .int .i64 0, .int .i64 0] 109)).setCells n (p * 2) [.int .i64 (0), .int .i64 (0)]) (n + 1) Tb.zero) := z0.out.asideL (by omega) (p * 2) [.int .i64 (0), .int .i64 (0)]
       clear g0 t0 z0
       generalize (((w.alloc (.cells t.all.toArray 109)).alloc (.cells #[.int .i64 0, .int .i64 0, .int .i64 0, .int .i64 0, .int .i64 0, .int .i64 0, .int .i64 0, .int .i64 0, .int .i64 0, .int .i64 0, .int .i64 0, .int .i64 0, .int .i64 0, .int .i64 0, .int .i64 0, .int .i64 0] 109)).setCells n (p * 2) [.int .i64 (0), .int .i64 (0)]) = u4q at h1q h2q h3q  ⊢))
  have HN : Hid (w.heap.size = n) := hn
  clear hn
  go_loopg [1, 11] 7 (fun gg s1 s11 wt => ∃ i : Nat, i ≤ 7 ∧ 7 - i ≤ gg ∧ s11 = .int .i64 i ∧ ∃ q : Nat, q < 8 ∧ s1 = .int .i64 q ∧ ∃ u : Tb, Hid (TAt wt n u) ∧ Hid (TAt wt (n + 1) Tb.zero) ∧ Hid (Gd n w wt) ∧ Hid (woF (7 - i) u q = without t p))
  case atStart => exact ⟨0, by omega, by omega, rfl, p, hp, rfl, t.set p 0 0, h2q, h3q, h1q, rfl⟩
  case round =>
    obtain ⟨i, hi, hgg, rfl, q, hq, rfl, u, T, Z, G, D⟩ := hrel
    clear h2q h3q h1q
    by_cases hlt : i < 7
    · obtain ⟨r, hre⟩ : ∃ r, r = (q + 1) % 8 := ⟨_, rfl⟩
      have er : ((q : Int) + 1) % 8 = (r : Int) := by omega
      have hr : r < 8 := by omega
      have hr1 : (r : Int) < 8 := by omega
      have hr0 : (0 : Int) ≤ (r : Int) := by omega
      have ER : Hid (r = (q + 1) % 8) := hre
      have hi7 : (i : Int) < 7 := by omega
      clear hre
      have c0 := T.out.key hr
      have c1 := T.out.val hr
      have D1 : Hid ((if u.k r = 0 then u else woF (7 - (i + 1)) (anew u r) r) = without t p) := by
        have := D.out
        rw [show 7 - i = (7 - (i + 1)) + 1 by omega, woF, ← ER.out] at this
        exact this
      clear D
      obtain ⟨x, hx⟩ : ∃ x, u.k r = x := ⟨_, rfl⟩
      obtain ⟨y, hy⟩ : ∃ y, u.v r = y := ⟨_, rfl⟩
      have X : Hid (u.k r = x) := hx
      have Y : Hid (u.v r = y) := hy
      rw [hx] at c0
      rw [hy] at c1
      clear hx hy
      by_cases h0 : x = 0
      · have E : Hid (without t p = u) := by
          have := D1.out
          rw [X.out, if_pos h0] at this
          exact this.symm
        have m0 : (x == 0) = true := by simp [h0]
        clear h0
        go_wp2_with fail
        refine (free_is x y _).mono ?_
        rintro e u5q ⟨rfl, hb⟩
        have h6q : Hid (Gd n w u5q) := G.out.later hb
        have h7q : Hid (TAt u5q n u) := T.out.later hb
        have h8q : Hid (TAt u5q (n + 1) Tb.zero) := Z.out.later hb
        clear G T Z
        clear hb
        clear c0 c1
        go_wp2_with (first
          | (refine wpList_load_mid rfl 109 _ rfl n _ rfl u.all _ h7q.out.range HD.out rfl (HS.out u) ?_)
          | (refine wpList_store_mid rfl 109 _ _ rfl (n + 1) _ u.all.toArray rfl rfl (h8q.out.thereOf u) (HZ.out u) (u.all_all) ?_
             have h9q : Hid (Gd n w (u5q.setCells (n + 1) 0 u.all)) := h6q.out.asideAll (by omega) u
             have h10q : Hid (TAt (u5q.setCells (n + 1) 0 u.all) n u) := h7q.out.asideAll (by omega) u
             have h11q : Hid (TAt (u5q.setCells (n + 1) 0 u.all) (n + 1) u) := h8q.out.setAll u
             clear h6q h7q h8q
             generalize (u5q.setCells (n + 1) 0 u.all) = u12q at h9q h10q h11q  ⊢))
        refine bodyPost_ret (results_row Try.results88 _ _ (n + 1) u.all _ rfl h11q.out.range HD.out rfl (HS.out u)) rfl ⟨?_, h9q.out.low⟩
        rw [E.out]
      · have E : Hid (woF (7 - (i + 1)) (anew u r) r = without t p) := by
          have := D1.out
          rw [X.out, if_neg h0] at this
          exact this
        have m0 : (x == 0) = false := by simp [h0]
        clear h0
        go_wp2_with fail
        refine (free_is x y _).mono ?_
        rintro e u13q ⟨rfl, hb⟩
        have h14q : Hid (Gd n w u13q) := G.out.later hb
        have h15q : Hid (TAt u13q n u) := T.out.later hb
        have h16q : Hid (TAt u13q (n + 1) Tb.zero) := Z.out.later hb
        clear G T Z
        clear hb
        clear c0 c1
        have c2 := h15q.out.key hr
        have c3 := h15q.out.val hr
        rw [X.out] at c2
        rw [Y.out] at c3
        have hle : n + 2 ≤ u13q.heap.size := by have := h16q.out.lt; omega
        have h17q : Hid (Gd n w (u13q.alloc (.cells #[.int .i64 x, .int .i64 y] 107))) := h14q.out.new (.cells #[.int .i64 x, .int .i64 y] 107)
        have h18q : Hid (TAt (u13q.alloc (.cells #[.int .i64 x, .int .i64 y] 107)) n u) := h15q.out.new (.cells #[.int .i64 x, .int .i64 y] 107)
        have h19q : Hid (TAt (u13q.alloc (.cells #[.int .i64 x, .int .i64 y] 107)) (n + 1) Tb.zero) := h16q.out.new (.cells #[.int .i64 x, .int .i64 y] 107)
        clear h14q h15q h16q
        have h20q : Hid (Bo (u13q.alloc (.cells #[.int .i64 x, .int .i64 y] 107)) u13q.heap.size [.int .i64 x, .int .i64 y]) := Bo.born u13q [.int .i64 x, .int .i64 y] _ rfl
        go_wp2_with (first
          | (refine wpList_store_mid rfl 107 _ _ rfl n _ #[.int .i64 (0), .int .i64 (0)] rfl rfl (h18q.out.thereS hr) HT.out (two_one _ _) ?_
             have h21q : Hid (Gd n w ((u13q.alloc (.cells #[.int .i64 x, .int .i64 y] 107)).setCells n (r * 2) [.int .i64 (0), .int .i64 (0)])) := h17q.out.asideL (by omega) (r * 2) [.int .i64 (0), .int .i64 (0)]
             have h22q : Hid (TAt ((u13q.alloc (.cells #[.int .i64 x, .int .i64 y] 107)).setCells n (r * 2) [.int .i64 (0), .int .i64 (0)]) n (u.set r 0 0)) := h18q.out.slot hr (0) (0)
             have h23q : Hid (TAt ((u13q.alloc (.cells #[.int .i64 x, .int .i64 y] 107)).setCells n (r * 2) [.int .i64 (0), .int .i64 (0)]) (n + 1) Tb.zero) := h19q.out.asideL (by omega) (r * 2) [.int .i64 (0), .int .i64 (0)]
             have h24q : Hid (Bo ((u13q.alloc (.cells #[.int .i64 x, .int .i64 y] 107)).setCells n (r * 2) [.int .i64 (0), .int .i64 (0)]) u13q.heap.size [.int .i64 x, .int .i64 y]) := h20q.out.asideL (by omega) (r * 2) [.int .i64 (0), .int .i64 (0)]
             clear h17q h18q h19q h20q
             generalize ((u13q.alloc (.cells #[.int .i64 x, .int .i64 y] 107)).setCells n (r * 2) [.int .i64 (0), .int .i64 (0)]) = u25q at h21q h22q h23q h24q  ⊢
             have c4 := h24q.out.at 0 rfl)
          | (refine wpList_load_mid rfl 109 _ rfl n _ rfl (u.set r 0 0).all _ h22q.out.range HD.out rfl (HS.out (u.set r 0 0)) ?_))
        obtain ⟨a, ha⟩ : ∃ a, place (u.set r 0 0) x = a := ⟨_, rfl⟩
        have PL := place_eq (u.set r 0 0) x
        unfold Placed at PL
        have ha8 : a < 8 := ha ▸ place_lt _ _
        have A : Hid (place (u.set r 0 0) x = a) := ha
        rw [ha] at PL
        clear ha
        generalize ((u.set r 0 0).k a == x) = has at PL
        have ha1 : (a : Int) < 8 := by omega
        have ha0 : (0 : Int) ≤ (a : Int) := by omega
        refine (PL _).mono ?_
        rintro e u26q ⟨rfl, hb⟩
        have h27q : Hid (Gd n w u26q) := h21q.out.later hb
        have h28q : Hid (TAt u26q n (u.set r 0 0)) := h22q.out.later hb
        have h29q : Hid (TAt u26q (n + 1) Tb.zero) := h23q.out.later hb
        have h30q : Hid (Bo u26q u13q.heap.size [.int .i64 x, .int .i64 y]) := h24q.out.later hb
        clear h21q h22q h23q h24q
        clear hb
        clear c4 PL
        have c5 := h30q.out.at 0 rfl
        have c6 := h30q.out.at 1 rfl
        go_wp2_with (first
          | (refine wpList_store_mid rfl 107 _ _ rfl n _ #[.int .i64 (x), .int .i64 (y)] rfl rfl (h28q.out.thereS ha8) HT.out (two_one _ _) ?_
             have h31q : Hid (Gd n w (u26q.setCells n (a * 2) [.int .i64 (x), .int .i64 (y)])) := h27q.out.asideL (by omega) (a * 2) [.int .i64 (x), .int .i64 (y)]
             have h32q : Hid (TAt (u26q.setCells n (a * 2) [.int .i64 (x), .int .i64 (y)]) n ((u.set r 0 0).set a x y)) := h28q.out.slot ha8 (x) (y)
             have h33q : Hid (TAt (u26q.setCells n (a * 2) [.int .i64 (x), .int .i64 (y)]) (n + 1) Tb.zero) := h29q.out.asideL (by omega) (a * 2) [.int .i64 (x), .int .i64 (y)]
             have h34q : Hid (Bo (u26q.setCells n (a * 2) [.int .i64 (x), .int .i64 (y)]) u13q.heap.size [.int .i64 x, .int .i64 y]) := h30q.out.asideL (by omega) (a * 2) [.int .i64 (x), .int .i64 (y)]
             clear h27q h28q h29q h30q
             generalize (u26q.setCells n (a * 2) [.int .i64 (x), .int .i64 (y)]) = u35q at h31q h32q h33q h34q  ⊢))
        go_roundg (7 - (i + 1))
        case measure => omega
        case rel =>
          refine ⟨i + 1, by omega, by omega, by go_num, r, hr, rfl, (u.set r 0 0).set a x y, h32q, h33q, h31q, ?_⟩
          have := E.out
          rw [anew, X.out, Y.out, A.out] at this
          exact this
    · obtain rfl : i = 7 := by omega
      have E : Hid (without t p = u) := D.out.symm
      clear D
      go_wp2_with (first
        | (refine wpList_load_mid rfl 109 _ rfl n _ rfl u.all _ T.out.range HD.out rfl (HS.out u) ?_)
        | (refine wpList_store_mid rfl 109 _ _ rfl (n + 1) _ u.all.toArray rfl rfl (Z.out.thereOf u) (HZ.out u) (u.all_all) ?_
           have h36q : Hid (Gd n w (wr.setCells (n + 1) 0 u.all)) := G.out.asideAll (by omega) u
           have h37q : Hid (TAt (wr.setCells (n + 1) 0 u.all) n u) := T.out.asideAll (by omega) u
           have h38q : Hid (TAt (wr.setCells (n + 1) 0 u.all) (n + 1) u) := Z.out.setAll u
           clear G T Z
           generalize (wr.setCells (n + 1) 0 u.all) = u39q at h36q h37q h38q  ⊢))
      refine bodyPost_ret (results_row Try.results88 _ _ (n + 1) u.all _ rfl h38q.out.range HD.out rfl (HS.out u)) rfl ⟨?_, h36q.out.low⟩
      rw [E.out]
end Go.Proofs.Ytgkgkiheoadbfaa.Tab
namespace Go.Proofs.Ytgkgkiheoadbfaa.Tab
set_option maxRecDepth 20000
open Go.RowKit
theorem two_row {P : Program} {T : TypeId} (x y : Int) (hl : ∃ d, P.underlying T = some d ∧ d.isRow = true) (hs : (P.info? T).map (·.size) = some 2) : Rw P T [.int .i64 x, .int .i64 y] :=
  ⟨hl, hs, by intro v hv; simp at hv; rcases hv with rfl | rfl <;> rfl⟩
theorem answer_size : (Try.prog.info? 42).map (·.size) = some 2 := by kernel_rfl
theorem answer_struct : ∃ fs, Try.prog.underlying 42 = some (.struct fs) := ⟨_, Try.underlying42⟩
theorem rwA (x y : Int) : Rw Try.prog 42 [.int .i64 x, .int .i64 y] := two_row x y ⟨_, Try.underlying42, rfl⟩ answer_size
theorem rwS (t : Tb) : Rw Try.prog 109 t.all := ⟨let ⟨_, _, h⟩ := slots_array; ⟨_, h, rfl⟩, slots_size t, t.all_one⟩
theorem rwSl (x y : Int) : Rw Try.prog 107 [.int .i64 x, .int .i64 y] := two_row x y ⟨_, Try.underlying107, rfl⟩ (by kernel_rfl)
end Go.Proofs.Ytgkgkiheoadbfaa.Tab
namespace Go.Proofs.Ytgkgkiheoadbfaa.Tab
set_option maxRecDepth 20000
open Go.RowKit
set_option linter.unusedVariables false

theorem Bo.cellsZ {w : World} {b : Nat} {cs : List Value} (h : Bo w b cs) : ∀ j v, cs[j]? = some v → w.cell? ⟨b, 0 + j, none⟩ = some v := fun j v hv => by rw [Nat.zero_add]; exact h.cell j v hv
theorem upw_neq {f : Nat → Nat} {j k x : Nat} (h : k ≠ j) : upw f j x k = f k := by unfold upw; rw [if_neg h]
end Go.Proofs.Ytgkgkiheoadbfaa.Tab
