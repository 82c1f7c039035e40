/- Texts laid together: The reference's records, as they lie: facts of no program; The reference's record as a row, and steps of one cell; Package op's within, by its contracts; Package op's Fits, Answer and Told, by their contracts; The reference's Fits, AnswerWord and AnswerOf, by their contracts; The reference's digits and number, by their contracts; The reference's within and Flip, by their contracts; The reference's Flip, by their contract; The reference's Thing.Cells, by its contract: a tally; Rows of this program's types: answers; Cells from the first on; words of others; The reference Words, by its contract; The law's recordOf, by its contract; Records are held against each other; Package record: New, by its contract; The reference's Thing.Cells, by its contract: a list; The reference's slots as rows; The. -/
import Derived.Test.YtgkgkiheoadbfaaDoorPk00
import Derived.Test.YtgkgkiheoadbfaaDoorRows
import Derived.WalkKit
import Derived.Laws.MakeOwn
import Derived.Deep.LoopGhost
import Derived.BigRegion
import Derived.Deep.DeepCutAuto
import Derived.Deep.RegionHeld3
import Derived.ChangeKeysEq
import Derived.Deep.RegionHeld
import Derived.Tactics
import Derived.LaidEql
import Derived.Stop.Asserts
import Derived.RowKitTokens
import Derived.WalkSmall
import Derived.Lib.LaidTab
import Derived.Lib.Space
import Derived.Shelf.Strings.Fields
import Derived.Shelf.LaysM
import Derived.Shelf.Strings.SplitShaped
import Derived.Shelf.Unicode.Latin
import Derived.Shelf.Unicode.Is16White
import Derived.Shelf.Unicode.IsSpaceAny
import Derived.Shelf.Unicode.Is16Any
import Derived.Shelf.Unicode.Is32Any
import Derived.Shelf.Unicode.ExclAny
import Derived.Test.YtgkgkiheoadbfaaDoorProg
namespace Go.Proofs.YtgkgkiheoadbfaaDoor.Tab
set_option maxRecDepth 20000
open Go.RowKit
set_option linter.unusedVariables false

/-- Thirty-seven cells, by their numbers. -/
def rv (f : Nat → Value) : List Value := (List.range 37).map f
theorem rv_length (f : Nat → Value) : (rv f).length = 37 := by simp [rv]
theorem rv_at (f : Nat → Value) {j : Nat} (h : j < 37) : (rv f)[j]? = some (f j) := by simp [rv, h]
theorem rv_one {f : Nat → Value} (h : ∀ j, j < 37 → (f j).oneCell' = true) : ∀ v ∈ rv f, v.oneCell' = true := by
  intro v hv; simp only [rv, List.mem_map] at hv; obtain ⟨j, hj, rfl⟩ := hv; exact h j (by simpa using hj)
theorem rv_congr {f g : Nat → Value} (h : ∀ j, j < 37 → f j = g j) : rv f = rv g := List.map_congr_left fun j hj => h j (by simpa using hj)
def upv (f : Nat → Value) (j : Nat) (v : Value) : Nat → Value := fun k => if k = j then v else f k
def upl (f : Nat → Value) (o : Nat) (vs : List Value) : Nat → Value := fun k => if o ≤ k ∧ k < o + vs.length then vs.getD (k - o) undef else f k
theorem rv_set (f : Nat → Value) {j : Nat} (v : Value) (hj : j < 37) : (rv f).set j v = rv (upv f j v) := by
  apply List.ext_getElem?
  intro k
  by_cases hk : k < 37
  · rw [rv_at _ hk, List.getElem?_set, rv_length]
    by_cases e : j = k
    · subst e; simp [hj, upv]
    · rw [if_neg e, rv_at _ hk]; simp [upv, show k ≠ j from fun h => e h.symm]
  · rw [List.getElem?_eq_none (by rw [List.length_set, rv_length]; omega), List.getElem?_eq_none (by rw [rv_length]; omega)]
theorem Bo.rcell {w : World} {b j : Nat} {f : Nat → Value} {v : Value} (h : Bo w b (rv f)) (hj : j < 37) (hv : f j = v) : w.cell? ⟨b, j, none⟩ = some v := hv ▸ h.cell j _ (rv_at f hj)
theorem Bo.upl {w : World} {b o : Nat} {f : Nat → Value} {vs : List Value} (h : Bo w b (rv f)) (hl : o + vs.length ≤ 37) : Bo (w.setCells b o vs) b (rv (upl f o vs)) :=
  h.setAt (by rw [rv_length]; exact hl) fun j v hv => by
    have hj : j < 37 := by have := (List.getElem?_eq_some_iff.1 hv).1; rwa [rv_length] at this
    rw [rv_at _ hj] at hv
    unfold Tab.upl at hv
    by_cases e : o ≤ j ∧ j < o + vs.length
    · rw [if_pos e] at hv
      refine Or.inl ⟨e.1, e.2, ?_⟩
      rw [← hv, List.getElem?_eq_getElem (by omega)]
      congr 1
      rw [List.getD_eq_getElem?_getD, List.getElem?_eq_getElem (by omega), Option.getD_some]
    · rw [if_neg e] at hv
      exact Or.inr ⟨by omega, by rw [rv_at _ hj]; exact hv⟩

/-- The record that the words ρ are, as far as its first i threads; its thing's cells are th. -/
def rf (th : List Value) (ρ : Nat → Nat) (i : Nat) : Nat → Value := fun j =>
  if j < 19 then th.getD j undef
  else if j < 27 then (if j < 19 + i * 2 then (if j % 2 = 1 then .int .i64 ((ρ (18 + (j - 19) / 2) / 4294967296 : Nat) : Int) else .int .i64 ((ρ (18 + (j - 19) / 2) % 4294967296 : Nat) : Int)) else .int .i64 0)
  else if j < 31 then .int .u64 (((if j < 27 + i then ρ (j - 5) else 0) : Nat) : Int)
  else if j < 35 then .int .i64 (((if j < 31 + i then ((ρ 26).testBit (j - 31)).toNat else 0) : Nat) : Int)
  else if j = 35 then .int .u64 ((ρ 27 : Nat) : Int) else .int .u64 ((ρ 28 : Nat) : Int)
section
variable {th : List Value} {ρ : Nat → Nat} {i : Nat}
theorem rf_th {j : Nat} (h : j < 19) : rf th ρ i j = th.getD j undef := by unfold rf; rw [if_pos h]
theorem rf_code {t : Nat} (ht : t < 4) (hi : t < i) : rf th ρ i (19 + t * 2) = .int .i64 ((ρ (18 + t) / 4294967296 : Nat) : Int) := by
  unfold rf; rw [if_neg (by omega), if_pos (by omega), if_pos (by omega), if_pos (by omega), show 18 + (19 + t * 2 - 19) / 2 = 18 + t by omega]
theorem rf_val {t : Nat} (ht : t < 4) (hi : t < i) : rf th ρ i (19 + t * 2 + 1) = .int .i64 ((ρ (18 + t) % 4294967296 : Nat) : Int) := by
  unfold rf; rw [if_neg (by omega), if_pos (by omega), if_pos (by omega), if_neg (by omega), show 18 + (19 + t * 2 + 1 - 19) / 2 = 18 + t by omega]
theorem rf_when {t : Nat} (ht : t < 4) (hi : t < i) : rf th ρ i (27 + t) = .int .u64 ((ρ (22 + t) : Nat) : Int) := by
  unfold rf; rw [if_neg (by omega), if_neg (by omega), if_pos (by omega), if_pos (by omega), show 27 + t - 5 = 22 + t by omega]
theorem rf_tog {t : Nat} (ht : t < 4) (hi : t < i) : rf th ρ i (31 + t) = .int .i64 ((((ρ 26).testBit t).toNat : Nat) : Int) := by
  unfold rf; rw [if_neg (by omega), if_neg (by omega), if_neg (by omega), if_pos (by omega), if_pos (by omega), show 31 + t - 31 = t by omega]
theorem rf_ver : rf th ρ i 35 = .int .u64 ((ρ 27 : Nat) : Int) := by unfold rf; rw [if_neg (by omega), if_neg (by omega), if_neg (by omega), if_neg (by omega), if_pos rfl]
theorem rf_cnt : rf th ρ i 36 = .int .u64 ((ρ 28 : Nat) : Int) := by unfold rf; rw [if_neg (by omega), if_neg (by omega), if_neg (by omega), if_neg (by omega), if_neg (by omega)]
theorem rf_one (hth : ∀ v ∈ th, v.oneCell' = true) (hl : th.length = 19) : ∀ j, j < 37 → (rf th ρ i j).oneCell' = true := by
  intro j hj
  unfold rf
  split
  · rename_i h
    rw [List.getD_eq_getElem?_getD, List.getElem?_eq_getElem (by omega), Option.getD_some]
    exact hth _ (List.getElem_mem _)
  · split
    · split
      · split <;> rfl
      · rfl
    · split
      · rfl
      · split
        · rfl
        · split <;> rfl
/-- A thread more. -/
theorem rf_next (hi : i < 4) : rv (upv (upv (upl (rf th ρ i) (19 + i * 2) [.int .i64 ((ρ (18 + i) / 4294967296 : Nat) : Int), .int .i64 ((ρ (18 + i) % 4294967296 : Nat) : Int)]) (27 + i) (.int .u64 ((ρ (22 + i) : Nat) : Int))) (31 + i) (.int .i64 ((((ρ 26).testBit i).toNat : Nat) : Int))) = rv (rf th ρ (i + 1)) := rv_congr fun j hj => by
  unfold upv
  by_cases h31 : j = 31 + i
  · subst h31; rw [if_pos rfl, rf_tog hi (by omega)]
  rw [if_neg h31]
  by_cases h27 : j = 27 + i
  · subst h27; rw [if_pos rfl, rf_when hi (by omega)]
  rw [if_neg h27]
  unfold upl
  simp only [List.length_cons, List.length_nil]
  by_cases h19 : j = 19 + i * 2
  · subst h19; rw [if_pos (by omega), rf_code hi (by omega), Nat.sub_self]; rfl
  by_cases h20 : j = 19 + i * 2 + 1
  · subst h20; rw [if_pos (by omega), rf_val hi (by omega), show 19 + i * 2 + 1 - (19 + i * 2) = 1 by omega]; rfl
  rw [if_neg (by omega)]
  unfold rf
  by_cases a1 : j < 19
  · rw [if_pos a1, if_pos a1]
  rw [if_neg a1, if_neg a1]
  by_cases a2 : j < 27
  · rw [if_pos a2, if_pos a2]
    by_cases a3 : j < 19 + i * 2
    · rw [if_pos a3, if_pos (show j < 19 + (i + 1) * 2 by omega)]
    · rw [if_neg a3, if_neg (show ¬ j < 19 + (i + 1) * 2 by omega)]
  rw [if_neg a2, if_neg a2]
  by_cases a4 : j < 31
  · rw [if_pos a4, if_pos a4]
    by_cases a5 : j < 27 + i
    · rw [if_pos a5, if_pos (by omega)]
    · rw [if_neg a5, if_neg (by omega)]
  rw [if_neg a4, if_neg a4]
  by_cases a6 : j < 35
  · rw [if_pos a6, if_pos a6]
    by_cases a7 : j < 31 + i
    · rw [if_pos a7, if_pos (by omega)]
    · rw [if_neg a7, if_neg (by omega)]
  rw [if_neg a6, if_neg a6]
/-- Where the toggle is not turned, its cell is 0 as it was. -/
theorem rf_tog0 (hi : i < 4) (f : Nat → Value) (hf : f (31 + i) = .int .i64 0) : upv f (31 + i) (.int .i64 0) = f := by
  funext j; unfold upv; by_cases e : j = 31 + i
  · rw [if_pos e, e, hf]
  · rw [if_neg e]
theorem rf_tog_old (hi : i < 4) : rf th ρ i (31 + i) = .int .i64 0 := by
  unfold rf; rw [if_neg (by omega), if_neg (by omega), if_neg (by omega), if_pos (by omega), if_neg (by omega)]; rfl
end
/-- A record in which there is nothing. -/
def zf : Nat → Value := fun j => if j = 1 then .slice none 0 0 else if 27 ≤ j ∧ j < 31 ∨ 35 ≤ j then .int .u64 0 else .int .i64 0
theorem zf_one : ∀ j, j < 37 → (zf j).oneCell' = true := by intro j _; unfold zf; split <;> (try split) <;> rfl
theorem zf_all : (rv zf).toArray = #[.int .i64 0, .slice none 0 0, .int .i64 0, .int .i64 0, .int .i64 0, .int .i64 0, .int .i64 0, .int .i64 0, .int .i64 0, .int .i64 0, .int .i64 0, .int .i64 0, .int .i64 0, .int .i64 0, .int .i64 0, .int .i64 0, .int .i64 0, .int .i64 0, .int .i64 0,
    .int .i64 0, .int .i64 0, .int .i64 0, .int .i64 0, .int .i64 0, .int .i64 0, .int .i64 0, .int .i64 0, .int .u64 0, .int .u64 0, .int .u64 0, .int .u64 0, .int .i64 0, .int .i64 0, .int .i64 0, .int .i64 0, .int .u64 0, .int .u64 0] := rfl
theorem rf_zero {th : List Value} (hl : th.length = 19) (ρ : Nat → Nat) : rv (upv (upv (upl zf 0 th) 35 (.int .u64 ((ρ 27 : Nat) : Int))) 36 (.int .u64 ((ρ 28 : Nat) : Int))) = rv (rf th ρ 0) := rv_congr fun j hj => by
  unfold upv
  by_cases h36 : j = 36
  · subst h36; rw [if_pos rfl, rf_cnt]
  rw [if_neg h36]
  by_cases h35 : j = 35
  · subst h35; rw [if_pos rfl, rf_ver]
  rw [if_neg h35]
  unfold upl
  rw [hl]
  by_cases h19 : j < 19
  · rw [if_pos (by omega), rf_th h19, Nat.sub_zero]
  rw [if_neg (by omega)]
  unfold zf rf
  rw [if_neg (by omega), if_neg h19]
  by_cases a2 : j < 27
  · rw [if_pos a2, if_neg (by omega), if_neg (by omega)]
  rw [if_neg a2]
  by_cases a4 : j < 31
  · rw [if_pos a4, if_pos (by omega), if_neg (by omega)]; rfl
  rw [if_neg a4, if_neg (show ¬(27 ≤ j ∧ j < 31 ∨ 35 ≤ j) by omega), if_pos (show j < 35 by omega), if_neg (show ¬ j < 31 + 0 by omega)]; rfl

/-- A record's thing, and a thread's answer, as rows within it. -/
theorem Bo.thing {w : World} {b : Nat} {f : Nat → Value} {th : List Value} (h : Bo w b (rv f)) (hl : th.length = 19) (hf : ∀ j, j < 19 → f j = th.getD j undef) : Bo w b th :=
  ⟨fun j v hv => by
    have hj : j < 19 := by have := (List.getElem?_eq_some_iff.1 hv).1; omega
    refine h.rcell (by omega) ?_
    rw [hf j hj, List.getD_eq_getElem?_getD, hv, Option.getD_some], h.froz, h.lt⟩
theorem Bo.two {w : World} {b q : Nat} {f : Nat → Value} {x y : Value} (h : Bo w b (rv f)) (hq : q + 1 < 37) (hx : f q = x) (hy : f (q + 1) = y) : w.rangeAt b q [x, y] := fun j v hv => by
  match j, hv with
  | 0, hv => cases hv; exact h.rcell (by omega) hx
  | 1, hv => cases hv; exact h.rcell hq hy
/-- What words a record that words are has. -/
def nw (ρ : Nat → Nat) : Nat → Nat := fun j => if j = 26 then ρ 26 % 16 else if j < 29 then ρ j else 0
def wq (ρ : Nat → Nat) (i : Nat) : Nat → Nat := fun j => if j < 18 then ρ j else if j < 22 then (if j < 18 + i then ρ j else 0) else if j < 26 then (if j < 22 + i then ρ j else 0) else if j = 26 then ρ 26 % 2 ^ i else 0
theorem wq_zero (ρ c : Nat → Nat) (hc : ∀ j, j < 17 → c j = ob ρ j) : rl (wo (upw wz 0 (ρ 0)) c) = rl (wq ρ 0) := rl_congr fun j hj => by
  unfold wo upw wq wz
  by_cases h1 : 1 ≤ j ∧ j < 18
  · rw [if_pos h1, if_pos h1.2, hc _ (by omega)]; unfold ob; rw [show 1 + (j - 1) = j by omega]
  rw [if_neg h1]
  by_cases h0 : j = 0
  · subst h0; rfl
  rw [if_neg h0, if_neg (show ¬ j < 18 by omega)]
  by_cases a2 : j < 22
  · rw [if_pos a2, if_neg (show ¬ j < 18 + 0 by omega)]
  rw [if_neg a2]
  by_cases a4 : j < 26
  · rw [if_pos a4, if_neg (show ¬ j < 22 + 0 by omega)]
  rw [if_neg a4, Nat.pow_zero, Nat.mod_one]
  split <;> rfl
theorem mod_xor (x i : Nat) : (x % 2 ^ i) ^^^ 2 ^ i = x % 2 ^ i + 2 ^ i := by
  have h : x % 2 ^ i < 2 ^ i := Nat.mod_lt _ (Nat.two_pow_pos i)
  have h1 := Nat.two_pow_add_eq_or_of_lt h 1
  rw [Nat.mul_one] at h1
  rw [Nat.add_comm, h1]
  apply Nat.eq_of_testBit_eq
  intro j
  rw [Nat.testBit_xor, Nat.testBit_or, Nat.testBit_mod_two_pow, Nat.testBit_two_pow]
  by_cases e : i = j
  · subst e; simp
  · simp [e]
theorem wq_next (ρ : Nat → Nat) {i : Nat} (hi : i < 4) : rl (upw (upw (upw (wq ρ i) (18 + i) (ρ (18 + i))) (22 + i) (ρ (22 + i))) 26 (ρ 26 % 2 ^ (i + 1))) = rl (wq ρ (i + 1)) := rl_congr fun j hj => by
  unfold upw wq
  by_cases h26 : j = 26
  · subst h26; rfl
  rw [if_neg h26]
  by_cases h22 : j = 22 + i
  · subst h22; rw [if_pos rfl, if_neg (by omega), if_neg (by omega), if_pos (by omega), if_pos (by omega)]
  rw [if_neg h22]
  by_cases h18 : j = 18 + i
  · subst h18; rw [if_pos rfl, if_neg (by omega), if_pos (by omega), if_pos (by omega)]
  rw [if_neg h18]
  by_cases a1 : j < 18
  · rw [if_pos a1, if_pos a1]
  rw [if_neg a1, if_neg a1]
  by_cases a2 : j < 22
  · rw [if_pos a2, if_pos a2]
    by_cases a3 : j < 18 + i
    · rw [if_pos a3, if_pos (by omega)]
    · rw [if_neg a3, if_neg (by omega)]
  rw [if_neg a2, if_neg a2]
  by_cases a4 : j < 26
  · rw [if_pos a4, if_pos a4]
    by_cases a5 : j < 22 + i
    · rw [if_pos a5, if_pos (by omega)]
    · rw [if_neg a5, if_neg (by omega)]
  rw [if_neg a4, if_neg a4, if_neg h26, if_neg h26]
theorem wq_all (ρ : Nat → Nat) : rl (upw (upw (wq ρ 4) 27 (ρ 27)) 28 (ρ 28)) = rl (nw ρ) := rl_congr fun j hj => by
  unfold upw wq nw
  by_cases h28 : j = 28
  · subst h28; rfl
  rw [if_neg h28]
  by_cases h27 : j = 27
  · subst h27; rfl
  rw [if_neg h27]
  by_cases h26 : j = 26
  · subst h26; rfl
  rw [if_neg h26]
  by_cases a1 : j < 18
  · rw [if_pos a1, if_neg h26, if_pos (show j < 29 by omega)]
  rw [if_neg a1]
  by_cases a2 : j < 22
  · rw [if_pos a2, if_pos (show j < 18 + 4 by omega), if_neg h26, if_pos (show j < 29 by omega)]
  rw [if_neg a2]
  by_cases a4 : j < 26
  · rw [if_pos a4, if_pos (show j < 22 + 4 by omega), if_neg h26, if_pos (show j < 29 by omega)]
  rw [if_neg a4, if_neg h26, if_neg (show ¬ j < 29 by omega)]
end Go.Proofs.YtgkgkiheoadbfaaDoor.Tab
namespace Go.Proofs.YtgkgkiheoadbfaaDoor.Tab
set_option maxRecDepth 20000
open Go.RowKit
set_option linter.unusedVariables false

theorem rec_struct : ∃ fs, Tryd.prog.underlying 47 = some (.struct fs) := ⟨_, Tryd.underlying47⟩
theorem rwV {f : Nat → Value} (h : ∀ j, j < 37 → (f j).oneCell' = true) : Rw Tryd.prog 47 (rv f) := ⟨let ⟨_, h⟩ := rec_struct; ⟨_, h, rfl⟩, by rw [rv_length]; kernel_rfl, rv_one h⟩
theorem upl_one {f : Nat → Value} {o : Nat} {vs : List Value} (h : ∀ j, j < 37 → (f j).oneCell' = true) (hv : ∀ v ∈ vs, v.oneCell' = true) : ∀ j, j < 37 → (upl f o vs j).oneCell' = true := by
  intro j hj
  unfold upl
  split
  · rename_i e
    rw [List.getD_eq_getElem?_getD, List.getElem?_eq_getElem (by omega), Option.getD_some]
    exact hv _ (List.getElem_mem _)
  · exact h j hj
theorem upv_one {f : Nat → Value} {k : Nat} {v : Value} (h : ∀ j, j < 37 → (f j).oneCell' = true) (hv : v.oneCell' = true) : ∀ j, j < 37 → (upv f k v j).oneCell' = true := by
  intro j hj
  unfold upv
  split
  · exact hv
  · exact h j hj
section
variable {P : Program} {Q : Exit → Act → World → Prop} {a : Act} {w : World}
/-- One cell stored, as a step. -/
theorem st1o {o : Oper} {K : Act → World → Prop} {T : TypeId} {x y : Operand} {b : Nat} {cs : List Value} (ho : o.op = .store T x y) (hB : Bo w b cs) (j : Nat) (v : Value) (hv : v.oneCell' = true) (hi : (P.info? T).map (·.size) = some 1) (hj : j < cs.length)
    (k : K (a.put o.dst undef) (w.setCell ⟨b, j, none⟩ v)) (hx : a.eval x = .pointer (some ⟨b, j, none⟩) := by rfl) (hy : a.eval y = v := by rfl) : o.wp P a w K Q := by
  unfold Oper.wp execOp
  simp only [ho, hx, hy, Instr.storeAt, Instr.sureAddr, Sem.run_bind, Sem.run_pure, Result.andThen_ok, run_store1 w b j T v (hB.cell j _ (List.getElem?_eq_getElem hj)) (hB.froz j) hi hv]
  exact k
end

end Go.Proofs.YtgkgkiheoadbfaaDoor.Tab
namespace Go.Proofs.YtgkgkiheoadbfaaDoor
set_option maxRecDepth 20000
open Go.RowKit

theorem within_yes (n a b : Int) (w : World) (h1 : a ≤ n) (h2 : n ≤ b) :
    Calls Tryd.prog 31 #[.int .i64 n, .int .i64 a, .int .i64 b] w fun e w' => e = .returned (.bool true) ∧ w' = w := by
  go_enter Tryd.func31, Tryd.ntmps31
  go_wp2
  go_ret
  exact ⟨rfl, rfl⟩

theorem within_no (n a b : Int) (w : World) (h : n < a ∨ b < n) :
    Calls Tryd.prog 31 #[.int .i64 n, .int .i64 a, .int .i64 b] w fun e w' => e = .returned (.bool false) ∧ w' = w := by
  by_cases h1 : a ≤ n
  · have h2 : ¬ n ≤ b := by omega
    clear h
    go_enter Tryd.func31, Tryd.ntmps31
    go_wp2
    go_ret
    exact ⟨rfl, rfl⟩
  · clear h
    go_enter Tryd.func31, Tryd.ntmps31
    go_wp2
    go_ret
    exact ⟨rfl, rfl⟩

end Go.Proofs.YtgkgkiheoadbfaaDoor
namespace Go.Proofs.YtgkgkiheoadbfaaDoor.Tab
set_option maxRecDepth 20000
open Go.RowKit
set_option linter.unusedVariables false

theorem ret_pair' {k : IntKind} {a b : Int} {v : Value} (h : a = b) : Ending.returned (.tuple #[.int k a, v]) = .returned (.tuple #[.int k b, v]) := by rw [h]
theorem and_mask (y m : Nat) (hy : y < 18446744073709551616) (hm : m ≤ 32) : bits .and .u64 (y : Int) ((2 ^ m - 1 : Nat) : Int) = ((y % 2 ^ m : Nat) : Int) := by
  have : 2 ^ m - 1 < 18446744073709551616 := by
    have : 2 ^ m ≤ 2 ^ 32 := Nat.pow_le_pow_right (by decide) hm
    omega
  rw [u64_and_nat _ _ hy this, Nat.and_two_pow_sub_one_eq_mod]
theorem of_val (x : Nat) (hx : x < 18446744073709551616) : wrap64 (bits .and .u64 (x : Int) 4294967295) = ((x % 4294967296 : Nat) : Int) := by
  have := and_mask x 32 hx (by decide)
  rw [show (4294967295 : Int) = ((2 ^ 32 - 1 : Nat) : Int) from rfl, this, IntWalk.wrap64_in _ (by omega)]
theorem opFits_is {c v : Int} (h : Ft c v) (w : World) :
    Calls Tryd.prog 28 #[.agg #[.int .i64 c, .int .i64 v]] w fun e w' => e = .returned (.bool true) ∧ w' = w.alloc (.cells #[.int .i64 c, .int .i64 v] 42) := by
  obtain ⟨h1, h2, h3, h4, h5⟩ := h
  by_cases hc : c = 1
  · subst hc
    clear h5
    go_enter Tryd.func28, Tryd.ntmps28
    go_wp2_with (go_at_call 31; refine (within_yes _ _ _ _ (by omega) (by omega)).mono ?_; rintro e w' ⟨rfl, rfl⟩)
    go_ret
    exact ⟨rfl, rfl⟩
  · obtain rfl : v = 0 := by omega
    clear h5
    go_enter Tryd.func28, Tryd.ntmps28
    go_wp2_with (go_at_call 31; refine (within_yes _ _ _ _ (by omega) (by omega)).mono ?_; rintro e w' ⟨rfl, rfl⟩)
    go_ret
    exact ⟨rfl, rfl⟩



theorem opFits_isnt {c v : Int} (h : ¬ Ft c v) (w : World) :
    Calls Tryd.prog 28 #[.agg #[.int .i64 c, .int .i64 v]] w fun e w' => e = .returned (.bool false) ∧ w' = w.alloc (.cells #[.int .i64 c, .int .i64 v] 42) := by
  rcases not_ft' h with ⟨rfl, hv⟩ | ⟨hc, h1⟩ | ⟨hc, ⟨h1, h2⟩, hv⟩
  · clear h
    go_enter Tryd.func28, Tryd.ntmps28
    go_wp2_with (go_at_call 31; refine (within_no _ _ _ _ hv).mono ?_; rintro e w' ⟨rfl, rfl⟩)
    go_ret
    exact ⟨rfl, rfl⟩
  · clear h
    go_enter Tryd.func28, Tryd.ntmps28
    go_wp2_with (go_at_call 31; refine (within_no _ _ _ _ h1).mono ?_; rintro e w' ⟨rfl, rfl⟩)
    go_ret
    exact ⟨rfl, rfl⟩
  · clear h
    have hv' : (v == 0) = false := beq_eq_false_iff_ne.2 hv
    go_enter Tryd.func28, Tryd.ntmps28
    go_wp2_with (go_at_call 31; refine (within_yes _ _ _ _ (by omega) (by omega)).mono ?_; rintro e w' ⟨rfl, rfl⟩)
    go_ret
    exact ⟨rfl, rfl⟩

theorem opFits_yes {c v : Int} (h : Ft c v) (w : World) :
    Calls Tryd.prog 28 #[.agg #[.int .i64 c, .int .i64 v]] w fun e w' => e = .returned (.bool true) ∧ Gr w w' :=
  (opFits_is h w).mono fun _ _ ⟨he, hw⟩ => ⟨he, hw ▸ (Gr.refl w).alloc _ _⟩
theorem opFits_no {c v : Int} (h : ¬ Ft c v) (w : World) :
    Calls Tryd.prog 28 #[.agg #[.int .i64 c, .int .i64 v]] w fun e w' => e = .returned (.bool false) ∧ Gr w w' :=
  (opFits_isnt h w).mono fun _ _ ⟨he, hw⟩ => ⟨he, hw ▸ (Gr.refl w).alloc _ _⟩



theorem told_code (x : Nat) (hx : x < 18446744073709551616) : wrap64 ((x : Int) / 4294967296) = ((x / 4294967296 : Nat) : Int) := by
  rw [IntWalk.wrap64_in _ (by omega)]; omega

theorem Told_core (x : Nat) (a b : Int) (w : World) (e0 : wrap64 ((x : Int) / 4294967296) = a) (e2 : wrap64 (bits .and .u64 (x : Int) 4294967295) = b) (h : Ft a b) :
    Calls Tryd.prog 21 #[.int .u64 x] w fun e w' => e = .returned (.tuple #[.agg #[.int .i64 a, .int .i64 b], .nilIface]) ∧ Gr w w' := by
  go_enter Tryd.func21, Tryd.ntmps21
  go_wp2_with (go_at_call 28; refine (opFits_is h _).mono ?_; rintro e w' ⟨rfl, rfl⟩)
  exact bodyPost_ret (v := .tuple #[.agg #[.int .i64 a, .int .i64 b], .nilIface]) (by simp [results, Tryd.results21, go_sem]) rfl ⟨rfl, (((Gr.refl w).alloc _ _).alloc _ _).alloc _ _⟩

theorem Told_cono (x : Nat) (a b : Int) (w : World) (e0 : wrap64 ((x : Int) / 4294967296) = a) (e2 : wrap64 (bits .and .u64 (x : Int) 4294967295) = b) (h : ¬ Ft a b) :
    Calls Tryd.prog 21 #[.int .u64 x] w fun e w' => e = .returned (.tuple #[.agg #[.int .i64 0, .int .i64 0], .iface 31 (.int .i64 3)]) ∧ Gr w w' := by
  go_enter Tryd.func21, Tryd.ntmps21
  go_wp2_with (go_at_call 28; refine (opFits_isnt h _).mono ?_; rintro e w' ⟨rfl, rfl⟩)
  exact bodyPost_ret (v := .tuple #[.agg #[.int .i64 0, .int .i64 0], .iface 31 (.int .i64 3)]) (by simp [results, Tryd.results21, go_sem]) rfl ⟨rfl, (((Gr.refl w).alloc _ _).alloc _ _).alloc _ _⟩

theorem Told_yes {c v : Nat} (h : Ft c v) (w : World) :
    Calls Tryd.prog 21 #[.int .u64 (ansN c v : Nat)] w fun e w' => e = .returned (.tuple #[.agg #[.int .i64 c, .int .i64 v], .nilIface]) ∧ Gr w w' := by
  obtain ⟨p1, p2⟩ := ansN_parts h
  have hx := ansN_lt h
  exact Told_core _ _ _ w (by rw [told_code _ hx, p1]) (by rw [of_val _ hx, p2]) h

/-- No answer is this word. -/
def NoAns (x : Nat) : Prop := ¬ Ft ((x / 4294967296 : Nat) : Int) ((x % 4294967296 : Nat) : Int)

theorem Told_no (x : Nat) (hx : x < 18446744073709551616) (h : NoAns x) (w : World) :
    Calls Tryd.prog 21 #[.int .u64 (x : Nat)] w fun e w' => e = .returned (.tuple #[.agg #[.int .i64 0, .int .i64 0], .iface 31 (.int .i64 3)]) ∧ Gr w w' :=
  Told_cono x _ _ w (told_code x hx) (of_val x hx) h

theorem ans_cases (x : Nat) : NoAns x ∨ ∃ c v : Nat, Ft c v ∧ x = ansN c v := by
  by_cases h : Ft ((x / 4294967296 : Nat) : Int) ((x % 4294967296 : Nat) : Int)
  · exact Or.inr ⟨_, _, h, (ansN_of x).symm⟩
  · exact Or.inl h


theorem aw_iff (x : Nat) : Aw x ↔ ¬ NoAns x := by unfold NoAns; exact (Classical.not_not).symm
/-- Told, of any word. -/
theorem told_yes {x : Nat} (hx : x < 18446744073709551616) (h : Aw x) (w : World) :
    Calls Tryd.prog 21 #[.int .u64 (x : Nat)] w fun e w' => e = .returned (.tuple #[.agg #[.int .i64 (x / 4294967296 : Nat), .int .i64 (x % 4294967296 : Nat)], .nilIface]) ∧ Below w.heap.size w w' :=
  (Told_core x _ _ w (told_code x hx) (of_val x hx) h).mono fun _ _ ⟨he, hg⟩ => ⟨he, hg.below⟩
theorem told_no {x : Nat} (hx : x < 18446744073709551616) (h : ¬ Aw x) (w : World) :
    Calls Tryd.prog 21 #[.int .u64 (x : Nat)] w fun e w' => e = .returned (.tuple #[.agg #[.int .i64 0, .int .i64 0], .iface 31 (.int .i64 3)]) ∧ Below w.heap.size w w' :=
  (Told_cono x _ _ w (told_code x hx) (of_val x hx) h).mono fun _ _ ⟨he, hg⟩ => ⟨he, hg.below⟩
end Go.Proofs.YtgkgkiheoadbfaaDoor.Tab
namespace Go.Proofs.YtgkgkiheoadbfaaDoor.Tab
set_option maxRecDepth 20000
open Go.RowKit
set_option linter.unusedVariables false

theorem not_ftr {c v : Int} (h : ¬ Ft c v) : (c < 1 ∨ 5 < c) ∨ (1 ≤ c ∧ c ≤ 5) ∧ ((v < 0 ∨ 4294967295 < v) ∨ (0 ≤ v ∧ v ≤ 4294967295) ∧ c ≠ 1 ∧ v ≠ 0) := by
  have : ¬ (1 ≤ c ∧ c ≤ 5 ∧ 0 ≤ v ∧ v ≤ 4294967295 ∧ (c = 1 ∨ v = 0)) := h
  omega
theorem awithin_yes (n a b : Int) (w : World) (h1 : a ≤ n) (h2 : n ≤ b) :
    Calls Tryd.prog 14 #[.int .i64 n, .int .i64 a, .int .i64 b] w fun e w' => e = .returned (.bool true) ∧ w' = w := by
  go_enter Tryd.func14, Tryd.ntmps14
  go_wp2
  go_ret
  exact ⟨rfl, rfl⟩
theorem awithin_no (n a b : Int) (w : World) (h : n < a ∨ b < n) :
    Calls Tryd.prog 14 #[.int .i64 n, .int .i64 a, .int .i64 b] w fun e w' => e = .returned (.bool false) ∧ w' = w := by
  by_cases h1 : a ≤ n
  · have h2 : ¬ n ≤ b := by omega
    clear h
    go_enter Tryd.func14, Tryd.ntmps14
    go_wp2
    go_ret
    exact ⟨rfl, rfl⟩
  · clear h
    go_enter Tryd.func14, Tryd.ntmps14
    go_wp2
    go_ret
    exact ⟨rfl, rfl⟩
theorem RfFits_is {c v : Int} (h : Ft c v) (w : World) :
    Calls Tryd.prog 22 #[.agg #[.int .i64 c, .int .i64 v]] w fun e w' => e = .returned (.bool true) ∧ w' = w.alloc (.cells #[.int .i64 c, .int .i64 v] 42) := by
  obtain ⟨h1, h2, h3, h4, h5⟩ := h
  by_cases hc : c = 1
  · subst hc
    clear h5
    go_enter Tryd.func22, Tryd.ntmps22
    go_wp2_with (go_at_call 14; refine (awithin_yes _ _ _ _ (by omega) (by omega)).mono ?_; rintro e w' ⟨rfl, rfl⟩)
    go_ret
    exact ⟨rfl, rfl⟩
  · obtain rfl : v = 0 := by omega
    clear h5
    have hc' : (c == 1) = false := beq_eq_false_iff_ne.2 hc
    go_enter Tryd.func22, Tryd.ntmps22
    go_wp2_with (go_at_call 14; refine (awithin_yes _ _ _ _ (by omega) (by omega)).mono ?_; rintro e w' ⟨rfl, rfl⟩)
    go_ret
    exact ⟨rfl, rfl⟩

theorem RfFits_isnt {c v : Int} (h : ¬ Ft c v) (w : World) :
    Calls Tryd.prog 22 #[.agg #[.int .i64 c, .int .i64 v]] w fun e w' => e = .returned (.bool false) ∧ w' = w.alloc (.cells #[.int .i64 c, .int .i64 v] 42) := by
  rcases not_ftr h with h1 | ⟨⟨h1, h2⟩, h3 | ⟨⟨h3, h4⟩, hc, hv⟩⟩
  · clear h
    go_enter Tryd.func22, Tryd.ntmps22
    go_wp2_with (go_at_call 14; refine (awithin_no _ _ _ _ h1).mono ?_; rintro e w' ⟨rfl, rfl⟩)
    go_ret
    exact ⟨rfl, rfl⟩
  · clear h
    go_enter Tryd.func22, Tryd.ntmps22
    go_wp2_with fail
    refine (awithin_yes _ _ _ _ h1 h2).mono ?_
    rintro e w' ⟨rfl, rfl⟩
    go_wp2_with fail
    refine (awithin_no _ _ _ _ h3).mono ?_
    rintro e w' ⟨rfl, rfl⟩
    go_wp2
    go_ret
    exact ⟨rfl, rfl⟩
  · clear h
    have hv' : (v == 0) = false := beq_eq_false_iff_ne.2 hv
    have hc' : (c == 1) = false := beq_eq_false_iff_ne.2 hc
    go_enter Tryd.func22, Tryd.ntmps22
    go_wp2_with fail
    refine (awithin_yes _ _ _ _ h1 h2).mono ?_
    rintro e w' ⟨rfl, rfl⟩
    go_wp2_with fail
    refine (awithin_yes _ _ _ _ h3 h4).mono ?_
    rintro e w' ⟨rfl, rfl⟩
    go_wp2
    go_ret
    exact ⟨rfl, rfl⟩

theorem RfAnswer_no {c v : Int} (h : ¬ Ft c v) (w : World) :
    Calls Tryd.prog 18 #[.agg #[.int .i64 c, .int .i64 v]] w fun e w' => e = .returned (.tuple #[.int .u64 0, .int .i64 1]) ∧ Gr w w' := by
  go_enter Tryd.func18, Tryd.ntmps18
  go_wp2_with (go_at_call 22; refine (RfFits_isnt h _).mono ?_; rintro e w' ⟨rfl, rfl⟩)
  go_ret2
  exact ⟨rfl, ((Gr.refl w).alloc _ _).alloc _ _⟩

theorem RfAnswer_yes {c v : Nat} (h : Ft c v) (w : World) :
    Calls Tryd.prog 18 #[.agg #[.int .i64 c, .int .i64 v]] w fun e w' => e = .returned (.tuple #[.int .u64 (ansN c v : Nat), .int .i64 0]) ∧ Gr w w' := by
  obtain ⟨h1, h2, h3, h4, h5⟩ := id h
  clear h5
  go_enter Tryd.func18, Tryd.ntmps18
  go_wp2_with (go_at_call 22; refine (RfFits_is h _).mono ?_; rintro e w' ⟨rfl, rfl⟩)
  go_ret2
  exact ⟨ret_pair' (by unfold ansN; omega), ((Gr.refl w).alloc _ _).alloc _ _⟩

theorem RfTold_core (x : Nat) (hx : (x : Int) < 18446744073709551616) (a b : Int) (w : World) (e0 : (x : Int) / 4294967296 = a) (e2 : (x : Int) % 4294967296 = b) (h : Ft a b) :
    Calls Tryd.prog 12 #[.int .u64 x] w fun e w' => e = .returned (.tuple #[.agg #[.int .i64 a, .int .i64 b], .int .i64 0]) ∧ Gr w w' := by
  go_enter Tryd.func12, Tryd.ntmps12
  go_wp2_with (go_at_call 22; refine (RfFits_is h _).mono ?_; rintro e w' ⟨rfl, rfl⟩)
  exact bodyPost_ret (v := .tuple #[.agg #[.int .i64 a, .int .i64 b], .int .i64 0]) (by simp [results, Tryd.results12, go_sem]) rfl ⟨rfl, (((Gr.refl w).alloc _ _).alloc _ _).alloc _ _⟩

theorem RfTold_cono (x : Nat) (hx : (x : Int) < 18446744073709551616) (a b : Int) (w : World) (e0 : (x : Int) / 4294967296 = a) (e2 : (x : Int) % 4294967296 = b) (h : ¬ Ft a b) :
    Calls Tryd.prog 12 #[.int .u64 x] w fun e w' => e = .returned (.tuple #[.agg #[.int .i64 0, .int .i64 0], .int .i64 3]) ∧ Gr w w' := by
  go_enter Tryd.func12, Tryd.ntmps12
  go_wp2_with (go_at_call 22; refine (RfFits_isnt h _).mono ?_; rintro e w' ⟨rfl, rfl⟩)
  exact bodyPost_ret (v := .tuple #[.agg #[.int .i64 0, .int .i64 0], .int .i64 3]) (by simp [results, Tryd.results12, go_sem]) rfl ⟨rfl, (((Gr.refl w).alloc _ _).alloc _ _).alloc _ _⟩

theorem RfTold_yes {c v : Nat} (h : Ft c v) (w : World) :
    Calls Tryd.prog 12 #[.int .u64 (ansN c v : Nat)] w fun e w' => e = .returned (.tuple #[.agg #[.int .i64 c, .int .i64 v], .int .i64 0]) ∧ Gr w w' := by
  obtain ⟨p1, p2⟩ := ansN_parts h
  have hx := ansN_lt h
  exact RfTold_core _ (by omega) _ _ w (by omega) (by omega) h

theorem RfTold_no (x : Nat) (hx : x < 18446744073709551616) (h : NoAns x) (w : World) :
    Calls Tryd.prog 12 #[.int .u64 (x : Nat)] w fun e w' => e = .returned (.tuple #[.agg #[.int .i64 0, .int .i64 0], .int .i64 3]) ∧ Gr w w' :=
  RfTold_cono x (by omega) _ _ w (by omega) (by omega) h


theorem rtold_yes {x : Nat} (hx : x < 18446744073709551616) (h : Aw x) (w : World) :
    Calls Tryd.prog 12 #[.int .u64 (x : Nat)] w fun e w' => e = .returned (.tuple #[.agg #[.int .i64 (x / 4294967296 : Nat), .int .i64 (x % 4294967296 : Nat)], .int .i64 0]) ∧ Below w.heap.size w w' :=
  (RfTold_core x (by omega) _ _ w (by omega) (by omega) h).mono fun _ _ ⟨he, hg⟩ => ⟨he, hg.below⟩
theorem rtold_no {x : Nat} (hx : x < 18446744073709551616) (h : ¬ Aw x) (w : World) :
    Calls Tryd.prog 12 #[.int .u64 (x : Nat)] w fun e w' => e = .returned (.tuple #[.agg #[.int .i64 0, .int .i64 0], .int .i64 3]) ∧ Below w.heap.size w w' :=
  (RfTold_cono x (by omega) _ _ w (by omega) (by omega) h).mono fun _ _ ⟨he, hg⟩ => ⟨he, hg.below⟩
/-- AnswerWord, of what a word is told as. -/
theorem rword_yes {x : Nat} (h : Aw x) (w : World) :
    Calls Tryd.prog 18 #[.agg #[.int .i64 (x / 4294967296 : Nat), .int .i64 (x % 4294967296 : Nat)]] w fun e w' => e = .returned (.tuple #[.int .u64 (x : Nat), .int .i64 0]) ∧ Below w.heap.size w w' :=
  (RfAnswer_yes h w).mono fun _ _ ⟨he, hg⟩ => ⟨by rw [ansN_of] at he; exact he, hg.below⟩
theorem rword_no {c v : Int} (h : ¬ Ft c v) (w : World) :
    Calls Tryd.prog 18 #[.agg #[.int .i64 c, .int .i64 v]] w fun e w' => e = .returned (.tuple #[.int .u64 0, .int .i64 1]) ∧ Below w.heap.size w w' :=
  (RfAnswer_no h w).mono fun _ _ ⟨he, hg⟩ => ⟨he, hg.below⟩
end Go.Proofs.YtgkgkiheoadbfaaDoor.Tab
namespace Go.Proofs.YtgkgkiheoadbfaaDoor
set_option maxRecDepth 20000
open Go.RowKit

theorem mk64 (w : World) : (Instr.makeSlice 34 (.int .i64 64) (.int .i64 64)).run Tryd.prog w = .ok (.slice (some ⟨w.heap.size, 0, none⟩) 64 64) (w.alloc (.cells z64 3)) :=
  run_make w 34 3 _ (.int .i64 0) Tryd.underlying34 rfl rfl .i64 .i64 64 64 (by decide) (by decide) (by decide) (by decide)

set_option maxHeartbeats 400000 in
theorem digits_any (x : Nat) (w : World) (hx : x < 18446744073709551616) :
    Calls Tryd.prog 26 #[.int .u64 x] w fun e w' => e = .returned (.slice (some ⟨w.heap.size, 0, none⟩) 64 64) ∧ Dg (bt x) w w' := by
  have hmk := mk64
  go_enter Tryd.func26, Tryd.ntmps26
  go_wp2
  clear hmk
  go_loopw [0, 8] (fun v i wr => ∃ k y : Nat, k ≤ 64 ∧ y < 18446744073709551616 ∧ Hid (y = x / 2 ^ k) ∧ v = .int .u64 y ∧ i = .int .i64 k ∧ Dg (fun j => if j < k then bt x j else 0) w wr)
    (fun _ i _ => 64 - (intOf i).toNat)
  case atStart => exact ⟨0, x, by omega, hx, (by simp [Hid]), rfl, rfl, by simpa using Dg.start w _⟩
  case round =>
    obtain ⟨k, y, hk, hy, HY, rfl, rfl, hd⟩ := hrel
    by_cases hlt : k < 64
    · have hc := hd.cell k hlt
      have hfz := hd.froz k
      simp only [Nat.lt_irrefl, if_false] at hc
      go_wp2
      go_roundw
      case rel =>
        have e1 : (y : Int) % 2 = ((bt x k : Nat) : Int) := by simp [bt, HY.out]
        refine ⟨k + 1, y / 2, by omega, by omega, ?_, by go_num, by go_num, ?_⟩
        · show y / 2 = _
          rw [HY.out, Nat.pow_succ, Nat.div_div_eq_div_mul]
        · rw [e1]; exact hd.set k (bt x k) hlt _ (fun i _ => by
            by_cases h1 : i = k
            · subst h1; simp
            · by_cases h2 : i < k
              · simp [h1, h2, Nat.lt_succ_of_lt h2]
              · simp [h1, h2, show ¬ i < k + 1 by omega])
      case measure => simp [intOf]; omega
    · go_wp2
      go_ret
      have : k = 64 := by omega
      subst this
      refine ⟨rfl, hd.gr, hd.size, fun i hi => ?_⟩
      have := hd.cell i hi
      simpa [hi] using this

set_option maxHeartbeats 400000 in
theorem number_any (b off n cap : Nat) (f : Nat → Nat) (w : World) (hn : n ≤ 64) (hf : ∀ i, f i < 2)
    (hc : ∀ i, i < n → w.cell? ⟨b, off + i, none⟩ = some (.int .i64 (f i : Nat))) :
    Calls Tryd.prog 27 #[.slice (some ⟨b, off, none⟩) n cap] w fun e w' => e = .returned (.int .u64 (tp f 0 n : Nat)) ∧ w' = w := by
  go_enter Tryd.func27, Tryd.ntmps27
  go_wp2
  go_loop [3, 4] (fun v i => ∃ (j : Int) (y : Nat), -1 ≤ j ∧ j < n ∧ Hid (y = tp f (j + 1).toNat (n - (j + 1).toNat)) ∧ v = .int .u64 y ∧ i = .int .i64 j)
    (fun _ i => (intOf i + 1).toNat)
  case atStart => exact ⟨(n : Int) - 1, 0, by omega, by omega, (by simp [Hid, tp]), rfl, rfl⟩
  case round =>
    obtain ⟨j, y, h1, h2, HY, rfl, rfl⟩ := hrel
    by_cases h0 : 0 ≤ j
    · obtain ⟨k, rfl⟩ := Int.eq_ofNat_of_zero_le h0
      have hk : k < n := by omega
      have hcell := hc k hk
      have hfk := hf k
      have hy : y < 9223372036854775808 := by
        have := tp_lt f hf (n - ((k : Int) + 1).toNat) ((k : Int) + 1).toNat
        rw [← HY.out] at this
        have : 2 ^ (n - ((k : Int) + 1).toNat) ≤ 2 ^ 63 := Nat.pow_le_pow_right (by decide) (by omega)
        omega
      clear hc
      go_wp2
      go_round
      case rel =>
        refine ⟨(k : Int) - 1, f k + 2 * y, by omega, by omega, ?_, by go_num, by go_num⟩
        show _ = _
        rw [HY.out, show ((k : Int) - 1 + 1).toNat = k by omega, show n - k = (n - ((k : Int) + 1).toNat) + 1 by omega, tp, show ((k : Int) + 1).toNat = k + 1 by omega]
      case measure => simp [intOf]
    · have e : j = -1 := by omega
      subst e
      go_wp2
      go_ret
      refine ⟨?_, rfl⟩
      rw [HY.out]; simp
end Go.Proofs.YtgkgkiheoadbfaaDoor
namespace Go.Proofs.YtgkgkiheoadbfaaDoor
set_option maxRecDepth 20000
open Go.RowKit

theorem bwithin_yes (a : Int) (w : World) (h0 : 0 ≤ a) (h1 : a ≤ 63) :
    Calls Tryd.prog 14 #[.int .i64 a, .int .i64 0, .int .i64 63] w fun e w' => e = .returned (.bool true) ∧ w' = w := by
  go_enter Tryd.func14, Tryd.ntmps14
  go_wp2
  go_ret
  exact ⟨rfl, rfl⟩

theorem bwithin_no (a : Int) (w : World) (h : a < 0 ∨ 63 < a) :
    Calls Tryd.prog 14 #[.int .i64 a, .int .i64 0, .int .i64 63] w fun e w' => e = .returned (.bool false) ∧ w' = w := by
  by_cases h1 : a < 0
  · have : ¬ 0 ≤ a := by omega
    clear h
    go_enter Tryd.func14, Tryd.ntmps14
    go_wp2
    go_ret
    exact ⟨rfl, rfl⟩
  · have h2 : 0 ≤ a := by omega
    have : ¬ a ≤ 63 := by omega
    clear h h1
    go_enter Tryd.func14, Tryd.ntmps14
    go_wp2
    go_ret
    exact ⟨rfl, rfl⟩

end Go.Proofs.YtgkgkiheoadbfaaDoor
namespace Go.Proofs.YtgkgkiheoadbfaaDoor
set_option maxRecDepth 20000
open Go.RowKit

theorem refFlip_no (x : Nat) (a : Int) (w : World) (hx : x < 18446744073709551616) (h : a < 0 ∨ 63 < a) :
    Calls Tryd.prog 19 #[.int .u64 x, .int .i64 a] w fun e w' => e = .returned (.int .u64 x) ∧ Gr w w' := by
  go_enter Tryd.func19, Tryd.ntmps19
  go_wp2_with fail
  refine (digits_any x _ hx).mono ?_
  rintro e w1 ⟨rfl, hd⟩
  go_wp2_with fail
  refine (bwithin_no _ _ h).mono ?_
  rintro e w' ⟨rfl, rfl⟩
  go_wp2_with fail
  refine (number_any _ 0 64 64 (bt x) _ (Nat.le_refl _) (bt_lt x) (fun i hi => by simpa using hd.cell i hi)).mono ?_
  rintro e w' ⟨rfl, rfl⟩
  go_wp2
  go_ret
  exact ⟨ret_int (by rw [tp_all x hx]), hd.gr⟩

theorem refFlip_yes (x k : Nat) (w : World) (hx : x < 18446744073709551616) (hk : k < 64) :
    Calls Tryd.prog 19 #[.int .u64 x, .int .i64 k] w fun e w' => e = .returned (.int .u64 (x ^^^ 2 ^ k : Nat)) ∧ Gr w w' := by
  go_enter Tryd.func19, Tryd.ntmps19
  go_wp2_with fail
  refine (digits_any x _ hx).mono ?_
  rintro e w1 ⟨rfl, hd⟩
  go_wp2_with fail
  refine (bwithin_yes _ _ (by omega) (by omega)).mono ?_
  rintro e w' ⟨rfl, rfl⟩
  have hc := hd.cell k hk
  have hf := hd.froz k
  have hb := bt_lt x k
  go_wp2_with fail
  have e1 : (1 : Int) - (bt x k : Nat) = ((1 - bt x k : Nat) : Int) := by omega
  rw [e1]
  have hd2 := hd.set k (1 - bt x k) hk (bt (x ^^^ 2 ^ k)) (fun i _ => by rw [bt_flip]; by_cases h : i = k <;> simp [h])
  refine (number_any _ 0 64 64 (bt (x ^^^ 2 ^ k)) _ (Nat.le_refl _) (bt_lt _) (fun i hi => by simpa using hd2.cell i hi)).mono ?_
  rintro e w2 ⟨rfl, rfl⟩
  go_wp2
  go_ret
  exact ⟨ret_int (by rw [tp_all _ (flip_lt x k hx hk)]), hd2.gr⟩
end Go.Proofs.YtgkgkiheoadbfaaDoor
namespace Go.Proofs.YtgkgkiheoadbfaaDoor.Tab
set_option maxRecDepth 20000
open Go.RowKit
set_option linter.unusedVariables false

theorem info_u64 : (Tryd.prog.info? 22).map (fun i => (i.zero, i.size, i.bytes)) = some (some (.int .u64 0), 1, 8) := by kernel_rfl
theorem made17 : madeCells (Value.int .u64 0).cells 17 = (wl wz).toArray := by kernel_rfl
theorem mk17 (w : World) : (Instr.makeSlice 33 (.int .i64 17) (.int .i64 17)).run Tryd.prog w = .ok (.slice (some ⟨w.heap.size, 0, none⟩) 17 17) (w.alloc (.cells (wl wz).toArray 22)) := by
  obtain ⟨i, hi, hz, h1, h2⟩ := info_parts info_u64
  have := run_make (P := Tryd.prog) w 33 22 i _ Tryd.underlying33 hi hz .i64 .i64 17 17 (by decide) (by decide) (by rw [h2]; decide) (by decide)
  rw [h1] at this
  rw [← made17]
  exact this
theorem mk17b (w : World) (o : Obj) : (Instr.makeSlice 33 (.int .i64 17) (.int .i64 17)).run Tryd.prog (w.alloc o) = .ok (.slice (some ⟨w.heap.size + 1, 0, none⟩) 17 17) ((w.alloc o).alloc (.cells (wl wz).toArray 22)) := by
  have := mk17 (w.alloc o)
  simpa using this

theorem new_below2 (w : World) (o p : Obj) : Below w.heap.size w ((w.alloc o).alloc p) := ((Gd.refl w).new o |>.new p).2
/-- Seventeen words, in a block of the call's own. -/
def Wd (n : Nat) (e : Ending) (w' : World) (d : Nat → Nat) : Prop := ∃ b, e = .returned (.slice (some ⟨b, 0, none⟩) 17 17) ∧ n ≤ b ∧ Bo w' b (wl d)

set_option maxHeartbeats 1000000 in
theorem Cells_6 (v : Value) (t : Tb) (x : Nat) (hx : x ≤ 4294967295) (w : World) :
    Calls Tryd.prog 17 #[.agg (tg 6 v t x).toArray] w fun e w' => Wd w.heap.size e w' (tyw x) ∧ Below w.heap.size w w' := by
  have mk := mk17b w (.cells (tg 6 v t x).toArray 40)
  have S0 : Hid (Bo ((w.alloc (.cells (tg 6 v t x).toArray 40)).alloc (.cells (wl wz).toArray 22)) w.heap.size (tg 6 v t x)) := (Bo.born w (tg 6 v t x) _ rfl).new _
  have T0 : Hid (Bo ((w.alloc (.cells (tg 6 v t x).toArray 40)).alloc (.cells (wl wz).toArray 22)) (w.heap.size + 1) (wl wz)) := Bo.born _ (wl wz) _ (by simp)
  have G0 : Hid (Gd w.heap.size w ((w.alloc (.cells (tg 6 v t x).toArray 40)).alloc (.cells (wl wz).toArray 22))) := ((Gd.refl w).new _).new _
  have c0 := S0.out.tcell.1
  have c1 := S0.out.tcell.2.2
  have d0 := T0.out.word (show 0 < 17 by decide)
  have d1 := T0.out.froz 0
  go_enter Tryd.func17, Tryd.ntmps17
  go_wp2_with fail
  go_ret
  have e : wl (tyw x) = (wl wz).set 0 (.int .u64 (x : Nat)) := by
    rw [wl_set wz x (by decide)]
    exact wl_congr fun j _ => by unfold tyw upw wz; by_cases e0 : j = 0 <;> simp [e0]
  refine ⟨⟨_, rfl, by omega, ?_⟩, new_below2 _ _ _⟩
  rw [e]
  exact Bo.born _ _ _ (by simp)
end Go.Proofs.YtgkgkiheoadbfaaDoor.Tab
namespace Go.Proofs.YtgkgkiheoadbfaaDoor.Tab
set_option maxRecDepth 20000
open Go.RowKit
theorem two_row {P : Program} {T : TypeId} (x y : Int) (hl : ∃ d, P.underlying T = some d ∧ d.isRow = true) (hs : (P.info? T).map (·.size) = some 2) : Rw P T [.int .i64 x, .int .i64 y] :=
  ⟨hl, hs, by intro v hv; simp at hv; rcases hv with rfl | rfl <;> rfl⟩
theorem answer_size : (Tryd.prog.info? 42).map (·.size) = some 2 := by kernel_rfl
theorem rwA (x y : Int) : Rw Tryd.prog 42 [.int .i64 x, .int .i64 y] := two_row x y ⟨_, Tryd.underlying42, rfl⟩ answer_size
end Go.Proofs.YtgkgkiheoadbfaaDoor.Tab
namespace Go.Proofs.YtgkgkiheoadbfaaDoor.Tab
set_option maxRecDepth 20000
open Go.RowKit
set_option linter.unusedVariables false

theorem Bo.cellsZ {w : World} {b : Nat} {cs : List Value} (h : Bo w b cs) : ∀ j v, cs[j]? = some v → w.cell? ⟨b, 0 + j, none⟩ = some v := fun j v hv => by rw [Nat.zero_add]; exact h.cell j v hv
theorem upw_neq {f : Nat → Nat} {j k x : Nat} (h : k ≠ j) : upw f j x k = f k := by unfold upw; rw [if_neg h]
end Go.Proofs.YtgkgkiheoadbfaaDoor.Tab
namespace Go.Proofs.YtgkgkiheoadbfaaDoor.Tab
set_option maxRecDepth 20000
open Go.RowKit
set_option linter.unusedVariables false

theorem ixw {e : Int} (h0 : 0 ≤ e) (h1 : e < 1000) : IntKind.i64.wrap e = e ∧ wrap64 e = e := ⟨by rw [IntKind.wrap_i64]; omega, by unfold wrap64; omega⟩
theorem ixn {e : Int} {n : Nat} (h : e = (n : Int)) : e.toNat = n := by omega
theorem made32 : madeCells (Value.int .u64 0).cells 32 = (rl wz).toArray := by kernel_rfl
theorem mk32 (w : World) : (Instr.makeSlice 33 (.int .i64 32) (.int .i64 32)).run Tryd.prog w = .ok (.slice (some ⟨w.heap.size, 0, none⟩) 32 32) (w.alloc (.cells (rl wz).toArray 22)) := by
  obtain ⟨i, hi, hz, h1, h2⟩ := info_parts info_u64
  have := run_make (P := Tryd.prog) w 33 22 i _ Tryd.underlying33 hi hz .i64 .i64 32 32 (by decide) (by decide) (by rw [h2]; decide) (by decide)
  rw [h1] at this
  rw [← made32]
  exact this
theorem mk32b (w : World) (o : Obj) : (Instr.makeSlice 33 (.int .i64 32) (.int .i64 32)).run Tryd.prog (w.alloc o) = .ok (.slice (some ⟨w.heap.size + 1, 0, none⟩) 32 32) ((w.alloc o).alloc (.cells (rl wz).toArray 22)) := by
  have := mk32 (w.alloc o)
  simpa using this
theorem upw_self {f : Nat → Nat} {j x : Nat} (h : f j = x) : upw f j x = f := by
  funext k; unfold upw; by_cases e : k = j
  · rw [if_pos e, e, h]
  · rw [if_neg e]
set_option maxHeartbeats 8000000 in
theorem Words_is {ρ c : Nat → Nat} {th : List Value} (hl : th.length = 19) (ho : ∀ v ∈ th, v.oneCell' = true) (hrow : Rw Tryd.prog 40 th) (h0 : th.getD 0 undef = .int .i64 ((ρ 0 : Nat) : Int)) (h6 : ρ 0 ≤ 6) (hc : ∀ j, j < 17 → c j = ob ρ j) (U : ∀ j, j < 32 → ρ j < 18446744073709551616) (hA : ∀ t, t < 4 → ρ (18 + t) = 0 ∨ Aw (ρ (18 + t))) (w : World) (CE : ∀ W, Below w.heap.size w W → Calls Tryd.prog 17 #[.agg th.toArray] W fun e w' => Wd W.heap.size e w' c ∧ Below W.heap.size W w') :
    Calls Tryd.prog 10 #[.agg (rv (rf th ρ 4)).toArray] w (fun e w' => (∃ b, e = .returned (.slice (some ⟨b, 0, none⟩) 32 32) ∧ w.heap.size ≤ b ∧ Bo w' b (rl (nw ρ))) ∧ Below w.heap.size w w') := by
  have AWI : Hid (∀ t, t < 4 → ∃ ae : Value, ∀ w, Calls Tryd.prog 18 #[.agg #[.int .i64 (ρ (18 + t) / 4294967296 : Nat), .int .i64 (ρ (18 + t) % 4294967296 : Nat)]] w fun e w' => e = .returned (.tuple #[.int .u64 (ρ (18 + t) : Nat), ae]) ∧ Below w.heap.size w w') := fun t ht => by
    rcases hA t ht with h | h
    · rw [h]; exact ⟨_, fun w => rword_no (c := 0) (v := 0) (by decide) w⟩
    · exact ⟨_, fun w => rword_yes h w⟩
  have CEH : Hid _ := CE
  have HL : Hid _ := hl
  have H0 : Hid _ := h0
  have HRW : Hid _ := hrow
  have U64 : Hid _ := U
  have e0 : IntKind.u64.wrap ((ρ 0 : Nat) : Int) = (ρ 0 : Nat) := by rw [IntKind.wrap_u64]; omega
  have W0 : Hid (rl (wo (upw wz 0 (ρ 0)) c) = rl (wq ρ 0)) := wq_zero ρ c hc
  have F1 : Hid (∀ j, j < 37 → (rf th ρ 4 j).oneCell' = true) := rf_one ho hl
  have mk := mk32b w (.cells (rv (rf th ρ 4)).toArray 47)
  clear hA CE hl h0 hrow h6 hc U ho
  have hM : Hid _ := (((Ms.nil w).born (rv (rf th ρ 4)) 47 (b := w.heap.size) rfl).born (rl wz) 22 (b := w.heap.size + 1) (by simp))
  have x1 := (hM.out.at 1 rfl).rcell (j := 0) (by decide) ((rf_th (by decide)).trans H0.out)
  go_enter Tryd.func10, Tryd.ntmps10
  go_wp2_with (first
    | (refine s1 rfl (hM.out.at 0 rfl) 0 rfl (.int .u64 (ρ 0 : Nat)) rfl sz_u ?_ (by rw [rl_length]; decide)
       replace hM := hid (hM.out.put1 0 0 rfl (.int .u64 (ρ 0 : Nat)) (rl (upw wz 0 (ρ 0))) (by rw [rl_length]; decide) (rl_set _ _ (by decide)))
       generalize World.setCell _ _ _ = W at hM ⊢
       clear x1
       clear mk))
  generalize hsz : w.heap.size = n at hM CEH ⊢
  clear hsz
  replace hM := hid (hM.out.drew)
  refine wp_region_held_drew (S := fun w' => Bo w' n (rv (rf th ρ 4)) ∧ Bo w' n th) (by kernel_rfl) ⟨hM.out.at 1 rfl, Bo.thing (hM.out.at 1 rfl) HL.out (fun j hj => rf_th hj)⟩ (fun hH => ?_)
  generalize World.drew _ = W at hM hH  ⊢
  refine tk 0 rfl hH ?_
  simp only [Act.put, p1, p2, p3]
  refine tk 1 rfl hH ?_
  simp only [Act.put, p1, p2, p3]
  refine tk 2 rfl hH ?_
  simp only [Act.put, p1, p2, p3]
  refine tkR 3 rfl hH (fun _ h => h.2) HRW.out ?_
  simp only [Act.put, p1, p2, p3]
  refine rd1 4 rfl (fun K hK => ?_)
  go_simp
  refine (CEH.out _ hM.out.low).mono ?_
  rintro e W ⟨⟨bq, rfl, hq, hWq⟩, hb⟩
  replace hM := hid (hM.out.laterB hb hq hWq)
  clear hb
  go_wp2_with fail
  refine hK.out _ _ ⟨hM.out.at 2 rfl, Bo.thing (hM.out.at 2 rfl) HL.out (fun j hj => rf_th hj)⟩ (fun hH => ?_)
  clear hK K
  try simp only [Act.put, p1, p2, p3]
  refine rd1 5 rfl (fun K hK => ?_)
  refine cpR rfl Tryd.underlying33 sz_u (vs := wl c) (off := 1) (dLen := 31) (sLen := 17) (by rw [wl_length]; rfl) ((hM.out.at 0 rfl).cellsZ) ((hM.out.at 1 rfl).thereAt (o := 1) (n := (wl c).length) (by rw [wl_length, rl_length]; decide)) (wl_one _) ?_
  replace hM := hid (hM.out.putAt 1 1 rfl (wl c) (rl (wo (upw wz 0 (ρ 0)) c)) ((hM.out.at 1 rfl).setOb c))
  rw [W0.out] at hM
  refine hK.out _ _ ⟨hM.out.at 2 rfl, Bo.thing (hM.out.at 2 rfl) HL.out (fun j hj => rf_th hj)⟩ (fun hH => ?_)
  clear hK K
  generalize World.setCells _ _ _ _ = W at hM hH ⊢
  try simp only [Act.put, p1, p2, p3]
  refine wpAnyH_done (by kernel_rfl) ?_ _
  go_wp2_with fail
  go_loopg [18] 4 (fun gg s18 wt => ∃ i : Nat, i ≤ 4 ∧ 4 - i ≤ gg ∧ s18 = .int .i64 i ∧ Hid (Ms n w wt [((n + 1), rl (wq ρ i)), (n, rv (rf th ρ 4))] []))
  case atStart => exact ⟨0, by omega, by omega, rfl, hM.out.pick [1, 2]⟩
  case round =>
    clear hM
    obtain ⟨i, hi, hgg, rfl, hM⟩ := hrel
    obtain ⟨W, rfl⟩ : ∃ q, q = wr := ⟨_, rfl⟩
    by_cases hlt : i < 4
    · have hi1 : (i : Int) < 4 := by omega
      have hi0 : (0 : Int) ≤ (i : Int) := by omega
      have fa0 : (0 : Int) ≤ 18 + (i : Int) := by omega
      have fa1 : 18 + (i : Int) < 32 := by omega
      have fan : Hid (18 + (i : Int) = ((18 + i : Nat) : Int)) := (by omega : 18 + (i : Int) = ((18 + i : Nat) : Int))
      have fax : 18 + i < 32 := by omega
      have fb0 : (0 : Int) ≤ 22 + (i : Int) := by omega
      have fb1 : 22 + (i : Int) < 32 := by omega
      have fbn : Hid (22 + (i : Int) = ((22 + i : Nat) : Int)) := (by omega : 22 + (i : Int) = ((22 + i : Nat) : Int))
      have fbx : 22 + i < 32 := by omega
      have fc0 : (0 : Int) ≤ 19 + (i : Int) * 2 := by omega
      have fc1 : 19 + (i : Int) * 2 < 37 := by omega
      have fcn : Hid (19 + (i : Int) * 2 = ((19 + i * 2 : Nat) : Int)) := (by omega : 19 + (i : Int) * 2 = ((19 + i * 2 : Nat) : Int))
      have fcx : 19 + i * 2 < 37 := by omega
      have fd0 : (0 : Int) ≤ 27 + (i : Int) := by omega
      have fd1 : 27 + (i : Int) < 37 := by omega
      have fdn : Hid (27 + (i : Int) = ((27 + i : Nat) : Int)) := (by omega : 27 + (i : Int) = ((27 + i : Nat) : Int))
      have fdx : 27 + i < 37 := by omega
      have fe0 : (0 : Int) ≤ 31 + (i : Int) := by omega
      have fe1 : 31 + (i : Int) < 37 := by omega
      have fen : Hid (31 + (i : Int) = ((31 + i : Nat) : Int)) := (by omega : 31 + (i : Int) = ((31 + i : Nat) : Int))
      have fex : 31 + i < 37 := by omega
      obtain ⟨ae, aw⟩ := AWI.out i hlt
      obtain ⟨x, hx⟩ : ∃ x, ρ (18 + i) = x := ⟨_, rfl⟩
      obtain ⟨y, hy⟩ : ∃ y, ρ (22 + i) = y := ⟨_, rfl⟩
      have RA : Hid (∀ W, Bo W n (rv (rf th ρ 4)) → W.rangeAt n (19 + i * 2) [.int .i64 (x / 4294967296 : Nat), .int .i64 (x % 4294967296 : Nat)]) := fun W h => h.two (by omega) ((rf_code hlt hlt).trans (by rw [hx])) ((rf_val hlt hlt).trans (by rw [hx]))
      have RY : Hid (∀ W, Bo W n (rv (rf th ρ 4)) → W.cell? ⟨n, 27 + i, none⟩ = some (.int .u64 (y : Nat))) := fun W h => h.rcell (by omega) ((rf_when hlt hlt).trans (by rw [hy]))
      have WN : Hid _ := wq_next ρ hlt
      have fl := refFlip_yes (ρ 26 % 2 ^ i) i
      rw [hx, hy] at WN
      rw [hx] at aw
      have AW2 : Hid _ := aw
      have hg26 : ρ 26 % 2 ^ i < 18446744073709551616 := Nat.lt_of_le_of_lt (Nat.mod_le _ _) (U64.out 26 (by decide))
      have FL : Hid (∀ w, _) := fun w => fl w hg26 (by omega)
      have M1 : ρ 26 % 2 ^ (i + 1) = ρ 26 % 2 ^ i + 2 ^ i * ((ρ 26).testBit i).toNat := by rw [Nat.pow_succ, Nat.mod_mul, ← bt_test]; rfl
      rw [mod_xor] at FL
      have ew : upw (upw (wq ρ i) (18 + i) x) (22 + i) y 26 = ρ 26 % 2 ^ i := by rw [upw_neq (by omega), upw_neq (by omega)]; unfold wq; rw [if_neg (by omega), if_neg (by omega), if_neg (by omega), if_pos rfl]
      obtain ⟨g, hg⟩ : ∃ g, ρ 26 % 2 ^ i = g := ⟨_, rfl⟩
      obtain ⟨b, hb⟩ : ∃ b, (ρ 26).testBit i = b := ⟨_, rfl⟩
      have RT : Hid (∀ W, Bo W n (rv (rf th ρ 4)) → W.cell? ⟨n, 31 + i, none⟩ = some (.int .i64 (b.toNat : Nat))) := fun W h => h.rcell (by omega) ((rf_tog hlt hlt).trans (by rw [hb]))
      have HG : Hid (upw (upw (wq ρ i) (18 + i) x) (22 + i) y 26 = g) := ew.trans hg
      rw [hg, hb] at M1
      rw [hg] at FL
      clear aw hx hy fl ew hg26 hg hb
      have fa2 : IntKind.i64.wrap (18 + (i : Int)) = 18 + (i : Int) := (ixw fa0 (Int.lt_of_lt_of_le fa1 (by decide))).1
      have fb2 : IntKind.i64.wrap (22 + (i : Int)) = 22 + (i : Int) := (ixw fb0 (Int.lt_of_lt_of_le fb1 (by decide))).1
      have fc2 : IntKind.i64.wrap (19 + (i : Int) * 2) = 19 + (i : Int) * 2 := (ixw fc0 (Int.lt_of_lt_of_le fc1 (by decide))).1
      have fd2 : IntKind.i64.wrap (27 + (i : Int)) = 27 + (i : Int) := (ixw fd0 (Int.lt_of_lt_of_le fd1 (by decide))).1
      have fe2 : IntKind.i64.wrap (31 + (i : Int)) = 31 + (i : Int) := (ixw fe0 (Int.lt_of_lt_of_le fe1 (by decide))).1
      rcases b with _ | _
      · have WN2 : Hid (rl (upw (upw (wq ρ i) (18 + i) x) (22 + i) y) = rl (wq ρ (i + 1))) := by
          have h := WN.out
          rw [M1, show 2 ^ i * (false).toNat = 0 from Nat.mul_zero _, Nat.add_zero, upw_self HG.out] at h
          exact h
        clear M1 WN FL
        have bt : (((false).toNat : Nat) : Int) = 0 := rfl
        rw [bt] at RT
        clear bt
        go_wp2_with (first
          | (refine lO rfl (RA.out _ (hM.out.at 1 rfl)) rfl (rwA _ _) ?_))
        refine (AW2.out _).mono ?_
        rintro e W ⟨rfl, hb⟩
        replace hM := hid (hM.out.later hb)
        clear hb
        go_wp2_with (first
          | (refine s1 rfl (hM.out.at 0 rfl) (18 + i) rfl (.int .u64 (x : Nat)) rfl sz_u ?_ (by rw [rl_length]; exact fax)
             replace hM := hid (hM.out.put1 0 (18 + i) rfl (.int .u64 (x : Nat)) (rl (upw (wq ρ i) (18 + i) x)) (by rw [rl_length]; exact fax) (rl_set _ _ (by exact fax)))
             generalize World.setCell _ _ _ = W at hM ⊢
             have x2 := RY.out _ (hM.out.at 1 rfl))
          | (refine s1 rfl (hM.out.at 0 rfl) (22 + i) rfl (.int .u64 (y : Nat)) rfl sz_u ?_ (by rw [rl_length]; exact fbx)
             replace hM := hid (hM.out.put1 0 (22 + i) rfl (.int .u64 (y : Nat)) (rl (upw (upw (wq ρ i) (18 + i) x) (22 + i) y)) (by rw [rl_length]; exact fbx) (rl_set _ _ (by exact fbx)))
             generalize World.setCell _ _ _ = W at hM ⊢
             clear x2
             clear fa2 fb2 fc2 fd2 fa0 fa1 fb0 fb1 fc0 fc1 fd0 fd1 fax fbx fcx fdx
             have x3 := RT.out _ (hM.out.at 1 rfl)
             have x4 := (hM.out.at 0 rfl).rwordx (show 26 < 32 by decide) HG.out))
        rw [WN2.out] at hM
        clear fe2
        go_roundg (4 - (i + 1))
        case measure => omega
        case rel => exact ⟨i + 1, by omega, by omega, by go_num, hM⟩
      · have WN2 : Hid (rl (upw (upw (upw (wq ρ i) (18 + i) x) (22 + i) y) 26 (g + 2 ^ i)) = rl (wq ρ (i + 1))) := by
          have h := WN.out
          rw [M1, show 2 ^ i * (true).toNat = 2 ^ i from Nat.mul_one _] at h
          exact h
        obtain ⟨g2, hg2⟩ : ∃ g2, g + 2 ^ i = g2 := ⟨_, rfl⟩
        rw [hg2] at WN2 FL
        clear hg2 M1 WN
        have bt : (((true).toNat : Nat) : Int) = 1 := rfl
        rw [bt] at RT
        clear bt
        go_wp2_with (first
          | (refine lO rfl (RA.out _ (hM.out.at 1 rfl)) rfl (rwA _ _) ?_))
        refine (AW2.out _).mono ?_
        rintro e W ⟨rfl, hb⟩
        replace hM := hid (hM.out.later hb)
        clear hb
        go_wp2_with (first
          | (refine s1 rfl (hM.out.at 0 rfl) (18 + i) rfl (.int .u64 (x : Nat)) rfl sz_u ?_ (by rw [rl_length]; exact fax)
             replace hM := hid (hM.out.put1 0 (18 + i) rfl (.int .u64 (x : Nat)) (rl (upw (wq ρ i) (18 + i) x)) (by rw [rl_length]; exact fax) (rl_set _ _ (by exact fax)))
             generalize World.setCell _ _ _ = W at hM ⊢
             have x2 := RY.out _ (hM.out.at 1 rfl))
          | (refine s1 rfl (hM.out.at 0 rfl) (22 + i) rfl (.int .u64 (y : Nat)) rfl sz_u ?_ (by rw [rl_length]; exact fbx)
             replace hM := hid (hM.out.put1 0 (22 + i) rfl (.int .u64 (y : Nat)) (rl (upw (upw (wq ρ i) (18 + i) x) (22 + i) y)) (by rw [rl_length]; exact fbx) (rl_set _ _ (by exact fbx)))
             generalize World.setCell _ _ _ = W at hM ⊢
             clear x2
             clear fa2 fb2 fc2 fd2 fa0 fa1 fb0 fb1 fc0 fc1 fd0 fd1 fax fbx fcx fdx
             have x3 := RT.out _ (hM.out.at 1 rfl)
             have x4 := (hM.out.at 0 rfl).rwordx (show 26 < 32 by decide) HG.out))
        refine (FL.out _).mono ?_
        rintro e W ⟨rfl, hg⟩
        have hb := hg.below
        clear hg
        replace hM := hid (hM.out.later hb)
        clear hb
        clear x3 x4
        go_wp2_with (first
          | (refine s1 rfl (hM.out.at 0 rfl) 26 rfl (.int .u64 (g2 : Nat)) rfl sz_u ?_ (by rw [rl_length]; decide)
             replace hM := hid (hM.out.put1 0 26 rfl (.int .u64 (g2 : Nat)) (rl (upw (upw (upw (wq ρ i) (18 + i) x) (22 + i) y) 26 g2)) (by rw [rl_length]; decide) (rl_set _ _ (by decide)))
             generalize World.setCell _ _ _ = W at hM ⊢))
        rw [WN2.out] at hM
        clear fe2
        go_roundg (4 - (i + 1))
        case measure => omega
        case rel => exact ⟨i + 1, by omega, by omega, by go_num, hM⟩
    · obtain rfl : i = 4 := by omega
      go_wp2_with fail
      replace hM := hid (hM.out.drew)
      refine wp_region_held_drew (S := fun w' => Bo w' n (rv (rf th ρ 4))) (by kernel_rfl) (hM.out.at 1 rfl) (fun hH => ?_)
      generalize World.drew _ = W at hM hH  ⊢
      refine tk 0 rfl hH ?_
      simp only [Act.put, p1, p2, p3]
      refine tk 1 rfl hH ?_
      simp only [Act.put, p1, p2, p3]
      refine tk 2 rfl hH ?_
      simp only [Act.put, p1, p2, p3]
      refine tk 3 rfl hH ?_ (by intro w h; have c0 := h.rcell (j := 35) (by decide) rf_ver; clear h; go_simp; try with_reducible rfl)
      simp only [Act.put, p1, p2, p3]
      refine tk 4 rfl hH ?_
      simp only [Act.put, p1, p2, p3]
      refine tk 5 rfl hH ?_ (by intro w h; have c0 := h.rcell (j := 36) (by decide) rf_cnt; clear h; go_simp; try with_reducible rfl)
      simp only [Act.put, p1, p2, p3]
      refine tk 6 rfl hH ?_
      simp only [Act.put, p1, p2, p3]
      refine rd1 7 rfl (fun K hK => ?_)
      refine st1o rfl (hM.out.at 0 rfl) 27 (.int .u64 (ρ 27 : Nat)) rfl sz_u (by rw [rl_length]; decide) ?_
      replace hM := hid (hM.out.put1 0 27 rfl (.int .u64 (ρ 27 : Nat)) (rl (upw (wq ρ 4) 27 (ρ 27))) (by rw [rl_length]; decide) (rl_set _ _ (by decide)))
      refine hK.out _ _ (hM.out.at 1 rfl) (fun hH => ?_)
      clear hK K
      generalize World.setCell _ _ _ = W at hM hH ⊢
      try simp only [Act.put]
      refine tk 8 rfl hH ?_
      simp only [Act.put, p1, p2, p3]
      refine rd1 9 rfl (fun K hK => ?_)
      refine st1o rfl (hM.out.at 0 rfl) 28 (.int .u64 (ρ 28 : Nat)) rfl sz_u (by rw [rl_length]; decide) ?_
      replace hM := hid (hM.out.put1 0 28 rfl (.int .u64 (ρ 28 : Nat)) (rl (upw (upw (wq ρ 4) 27 (ρ 27)) 28 (ρ 28))) (by rw [rl_length]; decide) (rl_set _ _ (by decide)))
      refine hK.out _ _ (hM.out.at 1 rfl) (fun hH => ?_)
      clear hK K
      generalize World.setCell _ _ _ = W at hM hH ⊢
      try simp only [Act.put]
      refine wpAnyH_done (by kernel_rfl) ?_ _
      rw [wq_all] at hM
      go_wp2
      go_ret
      exact ⟨⟨_, rfl, by rw [hM.out.size]; exact hM.out.key 0 rfl, hM.out.at 0 rfl⟩, hM.out.below⟩
end Go.Proofs.YtgkgkiheoadbfaaDoor.Tab
namespace Go.Proofs.YtgkgkiheoadbfaaDoor.Tab
set_option maxRecDepth 20000
open Go.RowKit
set_option linter.unusedVariables false

def rcq (d : Nat → Nat) (i : Nat) : Nat → Nat := fun j => if j < i then d j else 0
theorem rcq_zero (d : Nat → Nat) : rl (rcq d 0) = rl wz := rl_congr fun j _ => by simp [rcq, wz]
theorem rcq_all (d : Nat → Nat) : rl (rcq d 32) = rl d := rl_congr fun j hj => by unfold rcq; rw [if_pos hj]
theorem rcq_next (d : Nat → Nat) (i : Nat) : rl (upw (rcq d i) i (d i)) = rl (rcq d (i + 1)) := rl_congr fun j _ => by
  unfold upw rcq
  by_cases e : j = i
  · subst e; rw [if_pos rfl, if_pos (by omega)]
  · rw [if_neg e]
    by_cases h : j < i
    · rw [if_pos h, if_pos (by omega)]
    · rw [if_neg h, if_neg (by omega)]
set_option maxHeartbeats 4000000 in
theorem recordOf_is {ρ : Nat → Nat} {b k : Nat} (w : World) (hB : Bo w b (rl ρ)) :
    Calls Tryd.prog 8 #[.slice (some ⟨b, 0, none⟩) 32 k] w (fun e w' => e = .returned (.agg (rl ρ).toArray) ∧ Below w.heap.size w w') := by
  have HB : Hid _ := hB
  clear hB
  have NX : Hid (∀ i, _) := fun i => rcq_next ρ i
  have AL : Hid _ := rcq_all ρ
  have Z0 : Hid _ := rcq_zero ρ
  have hM : Hid _ := (((Ms.nil w).bornR rl_zero.symm 24 (b := w.heap.size) rfl).bornR rl_zero.symm 24 (b := w.heap.size + 1) (by simp))
  go_enter Tryd.func8, Tryd.ntmps8
  go_wp2_with fail
  generalize World.alloc _ _ = W at hM ⊢
  generalize hsz : w.heap.size = n at hM ⊢
  clear hsz
  go_loopg [4] 32 (fun gg s4 wt => ∃ i : Nat, i ≤ 32 ∧ 32 - i ≤ gg ∧ s4 = .int .i64 i ∧ Hid (Ms n w wt [(n + 1, rl (rcq ρ i)), (n, rl wz)] []))
  case atStart => exact ⟨0, by omega, by omega, rfl, by rw [Z0.out]; exact hM⟩
  case round =>
    clear hM
    obtain ⟨i, hi, hgg, rfl, hM⟩ := hrel
    obtain ⟨W, rfl⟩ : ∃ q, q = wr := ⟨_, rfl⟩
    by_cases hlt : i < 32
    · have i1 : (i : Int) < 32 := by omega
      have i0 : (0 : Int) ≤ (i : Int) := by omega
      obtain ⟨x, hx⟩ : ∃ x, ρ i = x := ⟨_, rfl⟩
      have NI : Hid _ := NX.out i
      rw [hx] at NI
      have HX : Hid _ := hx
      clear hx
      have x1 := (HB.out.later hM.out.below).rwordx hlt HX.out
      go_wp2_with (first
        | (refine s1 rfl (hM.out.at 0 rfl) i rfl (.int .u64 (x : Nat)) rfl sz_u ?_ (by rw [rl_length]; exact hlt)
           replace hM := hid (hM.out.put1 0 i rfl (.int .u64 (x : Nat)) (rl (upw (rcq ρ i) i x)) (by rw [rl_length]; exact hlt) (rl_set _ _ hlt))
           generalize World.setCell _ _ _ = W at hM ⊢
           clear x1
           rw [NI.out] at hM))
      go_roundg (32 - (i + 1))
      case measure => omega
      case rel => exact ⟨i + 1, by omega, by omega, by go_num, hM⟩
    · obtain rfl : i = 32 := by omega
      rw [AL.out] at hM
      go_wp2_with (first
        | (refine lR rfl (hM.out.at 0 rfl) rfl (rwR ρ) ?_)
        | (refine sR rfl (hM.out.at 1 rfl) rfl ((rwR wz).len (rwR ρ)) (rwR ρ) ?_
           replace hM := hid (hM.out.put 1 rfl (rl ρ) ((rwR wz).len (rwR ρ)))
           generalize World.setCells _ _ _ _ = W at hM ⊢))
      exact bodyPost_ret (res1 Tryd.results8 (hM.out.at 1 rfl) (rwR ρ)) rfl ⟨rfl, hM.out.below⟩
end Go.Proofs.YtgkgkiheoadbfaaDoor.Tab
namespace Go.Proofs.YtgkgkiheoadbfaaDoor.Tab
set_option maxRecDepth 20000
open Go.RowKit
set_option linter.unusedVariables false
theorem rec_desc : Tryd.prog.underlying 24 = some (.array 32 22) := by kernel_rfl
theorem rpart0 (c : Nat → Nat) (w : World) : (part 22 (rl c).toArray 0).run Tryd.prog w = .ok (.int .u64 (c 0 : Nat)) w := by kernel_rfl
theorem rpart1 (c : Nat → Nat) (w : World) : (part 22 (rl c).toArray 1).run Tryd.prog w = .ok (.int .u64 (c 1 : Nat)) w := by kernel_rfl
theorem rpart2 (c : Nat → Nat) (w : World) : (part 22 (rl c).toArray 2).run Tryd.prog w = .ok (.int .u64 (c 2 : Nat)) w := by kernel_rfl
theorem rpart3 (c : Nat → Nat) (w : World) : (part 22 (rl c).toArray 3).run Tryd.prog w = .ok (.int .u64 (c 3 : Nat)) w := by kernel_rfl
theorem rpart4 (c : Nat → Nat) (w : World) : (part 22 (rl c).toArray 4).run Tryd.prog w = .ok (.int .u64 (c 4 : Nat)) w := by kernel_rfl
theorem rpart5 (c : Nat → Nat) (w : World) : (part 22 (rl c).toArray 5).run Tryd.prog w = .ok (.int .u64 (c 5 : Nat)) w := by kernel_rfl
theorem rpart6 (c : Nat → Nat) (w : World) : (part 22 (rl c).toArray 6).run Tryd.prog w = .ok (.int .u64 (c 6 : Nat)) w := by kernel_rfl
theorem rpart7 (c : Nat → Nat) (w : World) : (part 22 (rl c).toArray 7).run Tryd.prog w = .ok (.int .u64 (c 7 : Nat)) w := by kernel_rfl
theorem rpart8 (c : Nat → Nat) (w : World) : (part 22 (rl c).toArray 8).run Tryd.prog w = .ok (.int .u64 (c 8 : Nat)) w := by kernel_rfl
theorem rpart9 (c : Nat → Nat) (w : World) : (part 22 (rl c).toArray 9).run Tryd.prog w = .ok (.int .u64 (c 9 : Nat)) w := by kernel_rfl
theorem rpart10 (c : Nat → Nat) (w : World) : (part 22 (rl c).toArray 10).run Tryd.prog w = .ok (.int .u64 (c 10 : Nat)) w := by kernel_rfl
theorem rpart11 (c : Nat → Nat) (w : World) : (part 22 (rl c).toArray 11).run Tryd.prog w = .ok (.int .u64 (c 11 : Nat)) w := by kernel_rfl
theorem rpart12 (c : Nat → Nat) (w : World) : (part 22 (rl c).toArray 12).run Tryd.prog w = .ok (.int .u64 (c 12 : Nat)) w := by kernel_rfl
theorem rpart13 (c : Nat → Nat) (w : World) : (part 22 (rl c).toArray 13).run Tryd.prog w = .ok (.int .u64 (c 13 : Nat)) w := by kernel_rfl
theorem rpart14 (c : Nat → Nat) (w : World) : (part 22 (rl c).toArray 14).run Tryd.prog w = .ok (.int .u64 (c 14 : Nat)) w := by kernel_rfl
theorem rpart15 (c : Nat → Nat) (w : World) : (part 22 (rl c).toArray 15).run Tryd.prog w = .ok (.int .u64 (c 15 : Nat)) w := by kernel_rfl
theorem rpart16 (c : Nat → Nat) (w : World) : (part 22 (rl c).toArray 16).run Tryd.prog w = .ok (.int .u64 (c 16 : Nat)) w := by kernel_rfl
theorem rpart17 (c : Nat → Nat) (w : World) : (part 22 (rl c).toArray 17).run Tryd.prog w = .ok (.int .u64 (c 17 : Nat)) w := by kernel_rfl
theorem rpart18 (c : Nat → Nat) (w : World) : (part 22 (rl c).toArray 18).run Tryd.prog w = .ok (.int .u64 (c 18 : Nat)) w := by kernel_rfl
theorem rpart19 (c : Nat → Nat) (w : World) : (part 22 (rl c).toArray 19).run Tryd.prog w = .ok (.int .u64 (c 19 : Nat)) w := by kernel_rfl
theorem rpart20 (c : Nat → Nat) (w : World) : (part 22 (rl c).toArray 20).run Tryd.prog w = .ok (.int .u64 (c 20 : Nat)) w := by kernel_rfl
theorem rpart21 (c : Nat → Nat) (w : World) : (part 22 (rl c).toArray 21).run Tryd.prog w = .ok (.int .u64 (c 21 : Nat)) w := by kernel_rfl
theorem rpart22 (c : Nat → Nat) (w : World) : (part 22 (rl c).toArray 22).run Tryd.prog w = .ok (.int .u64 (c 22 : Nat)) w := by kernel_rfl
theorem rpart23 (c : Nat → Nat) (w : World) : (part 22 (rl c).toArray 23).run Tryd.prog w = .ok (.int .u64 (c 23 : Nat)) w := by kernel_rfl
theorem rpart24 (c : Nat → Nat) (w : World) : (part 22 (rl c).toArray 24).run Tryd.prog w = .ok (.int .u64 (c 24 : Nat)) w := by kernel_rfl
theorem rpart25 (c : Nat → Nat) (w : World) : (part 22 (rl c).toArray 25).run Tryd.prog w = .ok (.int .u64 (c 25 : Nat)) w := by kernel_rfl
theorem rpart26 (c : Nat → Nat) (w : World) : (part 22 (rl c).toArray 26).run Tryd.prog w = .ok (.int .u64 (c 26 : Nat)) w := by kernel_rfl
theorem rpart27 (c : Nat → Nat) (w : World) : (part 22 (rl c).toArray 27).run Tryd.prog w = .ok (.int .u64 (c 27 : Nat)) w := by kernel_rfl
theorem rpart28 (c : Nat → Nat) (w : World) : (part 22 (rl c).toArray 28).run Tryd.prog w = .ok (.int .u64 (c 28 : Nat)) w := by kernel_rfl
theorem rpart29 (c : Nat → Nat) (w : World) : (part 22 (rl c).toArray 29).run Tryd.prog w = .ok (.int .u64 (c 29 : Nat)) w := by kernel_rfl
theorem rpart30 (c : Nat → Nat) (w : World) : (part 22 (rl c).toArray 30).run Tryd.prog w = .ok (.int .u64 (c 30 : Nat)) w := by kernel_rfl
theorem rpart31 (c : Nat → Nat) (w : World) : (part 22 (rl c).toArray 31).run Tryd.prog w = .ok (.int .u64 (c 31 : Nat)) w := by kernel_rfl
theorem rword_equal (x : Int) (w : World) : (Op.equalIn 9999 22 (.int .u64 x) (.int .u64 x)).run Tryd.prog w = .ok true w := by
  go_simp
theorem rec_equal (c : Nat → Nat) (w : World) : (Op.equalIn 10000 24 (.agg (rl c).toArray) (.agg (rl c).toArray)).run Tryd.prog w = .ok true w := by
  have hc : Tryd.prog.cellsOf 22 = 1 := by kernel_rfl
  cases hi : Tryd.prog.info? 22 with
  | none => simp [Program.cellsOf, hi] at hc
  | some i =>
    have h := run_equalIn_array (w := w) 9999 (rl c).toArray (rl c).toArray rec_desc hi
    rw [h, hc]
    have hr : List.range 32 = [0, 1, 2, 3, 4, 5, 6, 7, 8, 9, 10, 11, 12, 13, 14, 15, 16, 17, 18, 19, 20, 21, 22, 23, 24, 25, 26, 27, 28, 29, 30, 31] := by decide
    rw [hr]
    simp [Op.eqItems, rpart0 c w, rpart1 c w, rpart2 c w, rpart3 c w, rpart4 c w, rpart5 c w, rpart6 c w, rpart7 c w, rpart8 c w, rpart9 c w, rpart10 c w, rpart11 c w, rpart12 c w, rpart13 c w, rpart14 c w, rpart15 c w, rpart16 c w, rpart17 c w, rpart18 c w, rpart19 c w, rpart20 c w, rpart21 c w, rpart22 c w, rpart23 c w, rpart24 c w, rpart25 c w, rpart26 c w, rpart27 c w, rpart28 c w, rpart29 c w, rpart30 c w, rpart31 c w, rword_equal]
theorem rec_zero (w : World) : (Op.equalIn 10000 24 (.agg (rl wz).toArray) (.agg #[.int .u64 0, .int .u64 0, .int .u64 0, .int .u64 0, .int .u64 0, .int .u64 0, .int .u64 0, .int .u64 0, .int .u64 0, .int .u64 0, .int .u64 0, .int .u64 0, .int .u64 0, .int .u64 0, .int .u64 0, .int .u64 0, .int .u64 0, .int .u64 0, .int .u64 0, .int .u64 0, .int .u64 0, .int .u64 0, .int .u64 0, .int .u64 0, .int .u64 0, .int .u64 0, .int .u64 0, .int .u64 0, .int .u64 0, .int .u64 0, .int .u64 0, .int .u64 0])).run Tryd.prog w = .ok true w := rec_equal wz w
end Go.Proofs.YtgkgkiheoadbfaaDoor.Tab
namespace Go.Proofs.YtgkgkiheoadbfaaDoor.Tab
set_option maxRecDepth 20000
open Go.RowKit
set_option linter.unusedVariables false

theorem obIs_yes {k : Int} (h1 : 1 ≤ k) (h6 : k ≤ 6) (w : World) : Calls Tryd.prog 13 #[.int .i64 k] w fun e w' => e = .returned (.bool true) ∧ w' = w := by
  go_enter Tryd.func13, Tryd.ntmps13
  go_wp2
  go_ret
  exact ⟨rfl, rfl⟩
theorem obIs_no {k : Int} (h : ¬ (1 ≤ k ∧ k ≤ 6)) (w : World) : Calls Tryd.prog 13 #[.int .i64 k] w fun e w' => e = .returned (.bool false) ∧ w' = w := by
  by_cases h1 : 1 ≤ k
  · have h2 : ¬ k ≤ 6 := by omega
    clear h
    go_enter Tryd.func13, Tryd.ntmps13
    go_wp2
    go_ret
    exact ⟨rfl, rfl⟩
  · clear h
    go_enter Tryd.func13, Tryd.ntmps13
    go_wp2
    go_ret
    exact ⟨rfl, rfl⟩
set_option maxHeartbeats 2000000 in
theorem recNew_no {k : Int} (h : ¬ (1 ≤ k ∧ k ≤ 6)) (w : World) :
    Calls Tryd.prog 5 #[.int .i64 k] w (fun e w' => e = .returned (.tuple #[.agg (rl wz).toArray, .iface 31 (.int .i64 1)]) ∧ Below w.heap.size w w') := by
  have IS : Hid (∀ w : World, _) := obIs_no h
  clear h
  have hM : Hid _ := ((Ms.nil w).bornR rl_zero.symm 24 (b := w.heap.size) rfl)
  go_enter Tryd.func5, Tryd.ntmps5
  go_wp2_with fail
  refine (IS.out _).mono ?_
  rintro e ux ⟨rfl, hw⟩
  rw [hw]; clear hw ux
  go_wp2_with (first
    | (refine sR rfl (hM.out.at 0 rfl) rfl ((rwR wz).len (rwR wz)) (rwR wz) ?_
       replace hM := hid (hM.out.put 0 rfl (rl wz) ((rwR wz).len (rwR wz)))
       generalize World.setCells _ _ _ _ = W at hM ⊢))
  exact bodyPost_ret (res1s Tryd.results5 (hM.out.at 0 rfl) (rwR wz) (.iface 31 (.int .i64 1))) rfl ⟨rfl, hM.out.below⟩
set_option maxHeartbeats 2000000 in
theorem recNew_yes {k : Nat} (h1 : 1 ≤ k) (h6 : k ≤ 6) (w : World) :
    Calls Tryd.prog 5 #[.int .i64 (k : Nat)] w (fun e w' => e = .returned (.tuple #[.agg (rl (newR k)).toArray, .nilIface]) ∧ Below w.heap.size w w') := by
  have IS : Hid (∀ w : World, _) := obIs_yes (k := (k : Nat)) (by omega) (by omega)
  have w1 : IntKind.u64.wrap (k : Int) = (k : Nat) := by rw [IntKind.wrap_u64]; omega
  have hz : (rl (newR k)).toArray = #[.int .u64 (k : Nat), .int .u64 0, .int .u64 0, .int .u64 0, .int .u64 0, .int .u64 0, .int .u64 0, .int .u64 0, .int .u64 0, .int .u64 0, .int .u64 0, .int .u64 0, .int .u64 0, .int .u64 0, .int .u64 0, .int .u64 0, .int .u64 0, .int .u64 0, .int .u64 0, .int .u64 0, .int .u64 0, .int .u64 0, .int .u64 0, .int .u64 0, .int .u64 0, .int .u64 0, .int .u64 0, .int .u64 0, .int .u64 0, .int .u64 0, .int .u64 0, .int .u64 0] := rfl
  clear h1 h6
  have hM : Hid _ := ((Ms.nil w).bornR rl_zero.symm 24 (b := w.heap.size) rfl)
  go_enter Tryd.func5, Tryd.ntmps5
  go_wp2_with fail
  refine (IS.out _).mono ?_
  rintro e ux ⟨rfl, hw⟩
  rw [hw]; clear hw ux
  have HZ : Hid _ := hz
  clear hz
  go_wp2_with (first
    | (refine sR rfl (hM.out.at 0 rfl) rfl ((rwR wz).len (rwR (newR k))) (rwR (newR k)) ?_
       replace hM := hid (hM.out.put 0 rfl (rl (newR k)) ((rwR wz).len (rwR (newR k))))
       generalize World.setCells _ _ _ _ = W at hM ⊢))
  exact bodyPost_ret (res1s Tryd.results5 (hM.out.at 0 rfl) (rwR (newR k)) (.nilIface)) rfl ⟨rfl, hM.out.below⟩
end Go.Proofs.YtgkgkiheoadbfaaDoor.Tab
namespace Go.Proofs.YtgkgkiheoadbfaaDoor.Tab
set_option maxRecDepth 20000
open Go.RowKit
set_option linter.unusedVariables false

def lwq (l : List Int) (i : Nat) : Nat → Nat := fun j => if j = 0 then l.length else if j ≤ i then (l.getD (j - 1) 0).toNat else 0
theorem lwq_next (l : List Int) (i : Nat) : wl (upw (lwq l i) (1 + i) (l.getD i 0).toNat) = wl (lwq l (i + 1)) := by
  refine wl_congr fun j _ => ?_
  unfold upw lwq
  by_cases e : j = 1 + i
  · subst e
    rw [if_pos rfl, if_neg (by omega), if_pos (by omega), show 1 + i - 1 = i by omega]
  · rw [if_neg e]
    by_cases e0 : j = 0
    · rw [if_pos e0, if_pos e0]
    · rw [if_neg e0, if_neg e0]
      by_cases e1 : j ≤ i
      · rw [if_pos e1, if_pos (by omega)]
      · rw [if_neg e1, if_neg (by omega)]
theorem lwq_all (l : List Int) : wl (lwq l l.length) = wl (lw l) := by
  refine wl_congr fun j _ => ?_
  unfold lwq lw
  by_cases e0 : j = 0
  · rw [if_pos e0, if_pos e0]
  · rw [if_neg e0, if_neg e0]
    by_cases e1 : j ≤ l.length
    · rw [if_pos e1]
    · rw [if_neg e1, List.getD_eq_getElem?_getD, List.getElem?_eq_none (by omega)]; rfl
theorem lwq_zero (l : List Int) : wl (lwq l 0) = (wl wz).set 0 (.int .u64 (l.length : Nat)) := by
  rw [wl_set wz l.length (by decide)]
  refine wl_congr fun j _ => ?_
  unfold lwq upw wz
  by_cases e0 : j = 0
  · rw [if_pos e0, if_pos e0]
  · rw [if_neg e0, if_neg e0, if_neg (by omega)]

set_option maxHeartbeats 2000000 in
theorem Cells_list {B : Nat} {k : Int} (k5 : k ≠ 5) (k6 : k ≠ 6) {v : Value} {l : List Int} (t : Tb) (x : Int) {w : World} (h : IsL B w v l) (h6 : l.length ≤ 6) (hv : ∀ x ∈ l, 0 ≤ x ∧ x ≤ 4294967295) :
    Calls Tryd.prog 17 #[.agg (tg k v t x).toArray] w fun e w' => Wd w.heap.size e w' (lw l) ∧ Below w.heap.size w w' := by
  obtain ⟨a, c, rfl⟩ := h.form
  have HL : Hid (∀ i, i < l.length → ∃ b off, a = some ⟨b, off, none⟩ ∧ (∀ W, Below w.heap.size w W → W.cell? ⟨b, off + i, none⟩ = some (.int .i64 ((l.getD i 0).toNat : Nat)))) := fun i hi => by
    rcases h with ⟨rfl, _⟩ | ⟨b, off, c, h1, hB, h0, hc, hcell, _⟩
    · simp at hi
    · injection h1 with h1 _ _
      refine ⟨b, off, h1, fun W hW => ?_⟩
      have hx := hv (l.getD i 0) (by rw [List.getD_eq_getElem?_getD, List.getElem?_eq_getElem hi]; exact List.getElem_mem hi)
      rw [hW.cell (p := ⟨b, off + i, none⟩) (World.block_lt_of_cell? _ _ (hcell i hi)), hcell i hi]
      congr 2; omega
  have HX : Hid (∀ i, i < l.length → (l.getD i 0).toNat ≤ 4294967295) := fun i hi => by
    have hx := hv (l.getD i 0) (by rw [List.getD_eq_getElem?_getD, List.getElem?_eq_getElem hi]; exact List.getElem_mem hi)
    omega
  clear hv h
  have LZ : Hid _ := lwq_zero l
  obtain ⟨N, hN⟩ : ∃ N, l.length = N := ⟨_, rfl⟩
  have HN : Hid (l.length = N) := hN
  have m5 : (k == 5) = false := by simp [k5]
  have m6 : (k == 6) = false := by simp [k6]
  rw [hN] at HL HX LZ h6 ⊢
  clear k5 k6 hN
  have mk := mk17b w (.cells (tg k (.slice a N c) t x).toArray 40)
  have S0 : Hid (Bo ((w.alloc (.cells (tg k (.slice a N c) t x).toArray 40)).alloc (.cells (wl wz).toArray 22)) w.heap.size (tg k (.slice a N c) t x)) := (Bo.born w (tg k (.slice a N c) t x) _ rfl).new _
  have T0 : Hid (Bo ((w.alloc (.cells (tg k (.slice a N c) t x).toArray 40)).alloc (.cells (wl wz).toArray 22)) (w.heap.size + 1) (wl wz)) := Bo.born _ (wl wz) _ (by simp)
  have S1 : Hid (Bo ((w.alloc (.cells (tg k (.slice a N c) t x).toArray 40)).alloc (.cells ((wl wz).set 0 (.int .u64 N)).toArray 22)) w.heap.size (tg k (.slice a N c) t x)) := (Bo.born w (tg k (.slice a N c) t x) _ rfl).new _
  have T1 : Hid (Bo ((w.alloc (.cells (tg k (.slice a N c) t x).toArray 40)).alloc (.cells ((wl wz).set 0 (.int .u64 N)).toArray 22)) (w.heap.size + 1) (wl (lwq l 0))) := by
    rw [LZ.out]; exact Bo.born _ _ _ (by simp)
  have G1 : Hid (Gd w.heap.size w ((w.alloc (.cells (tg k (.slice a N c) t x).toArray 40)).alloc (.cells ((wl wz).set 0 (.int .u64 N)).toArray 22))) := ((Gd.refl w).new _).new _
  have c0 := S0.out.tcell.1
  have c1 := S0.out.tcell.2.1
  have c2 := S1.out.tcell.2.1
  have d0 := T0.out.word (show 0 < 17 by decide)
  have d1 := T0.out.froz 0
  have ew : IntKind.u64.wrap (N : Int) = N := by rw [IntKind.wrap_u64]; omega
  go_enter Tryd.func17, Tryd.ntmps17
  go_wp2_with fail
  clear c0 c1 c2 d0 d1 S0 T0 mk
  generalize (w.alloc (.cells (tg k (.slice a N c) t x).toArray 40)).alloc (.cells ((wl wz).set 0 (.int .u64 N)).toArray 22) = W at S1 T1 G1 ⊢
  generalize hsz : w.heap.size = n at S1 T1 G1 ⊢
  have HSZ : Hid (w.heap.size = n) := hsz
  clear hsz
  go_loopg [20] N (fun gg s20 wt => ∃ i : Nat, i ≤ N ∧ N - i ≤ gg ∧ s20 = .int .i64 i ∧ Hid (Bo wt (n + 1) (wl (lwq l i))) ∧ Hid (Bo wt n (tg k (.slice a N c) t x)) ∧ Hid (Gd n w wt))
  case atStart => exact ⟨0, by omega, by omega, rfl, T1, S1, G1⟩
  case round =>
    clear T1 S1 G1
    obtain ⟨i, hi, hgg, rfl, T, S, G⟩ := hrel
    by_cases hlt : i < N
    · obtain ⟨b, off, rfl, hc⟩ := HL.out i hlt
      have c0 := hc wr G.out.2
      have NX : Hid _ := lwq_next l i
      have e1 := T.out.word (show 1 + i < 17 by omega)
      have f1 := T.out.froz (1 + i)
      have j1 : (i : Int) + 1 < 17 := by omega
      have j0 : (0 : Int) ≤ (i : Int) + 1 := by omega
      have i1 : (i : Int) < (N : Int) := by omega
      have i0 : (0 : Int) ≤ (i : Int) := by omega
      have T1 : Hid (Bo (wr.setCell ⟨n + 1, 1 + i, none⟩ (.int .u64 ((l.getD i 0).toNat : Nat))) (n + 1) (wl (lwq l (i + 1)))) := by
        rw [← NX.out]; exact T.out.setw _ (by omega)
      have S1 : Hid (Bo (wr.setCell ⟨n + 1, 1 + i, none⟩ (.int .u64 ((l.getD i 0).toNat : Nat))) n (tg k (.slice (some ⟨b, off, none⟩) N c) t x)) := S.out.aside (by simp) _
      have G1 : Hid (Gd n w (wr.setCell ⟨n + 1, 1 + i, none⟩ (.int .u64 ((l.getD i 0).toNat : Nat)))) := G.out.aside (by simp) _
      have hx : (l.getD i 0).toNat ≤ 4294967295 := HX.out i hlt
      rw [Nat.add_comm 1 i] at e1 f1 T1 S1 G1
      clear hc NX T S G
      generalize lwq l i (i + 1) = z at e1
      generalize (l.getD i 0).toNat = y at c0 T1 S1 G1 hx
      have ew2 : IntKind.u64.wrap (y : Int) = y := by rw [IntKind.wrap_u64]; omega
      go_wp2
      go_roundg (N - (i + 1))
      case measure => omega
      case rel => exact ⟨i + 1, by omega, by omega, by go_num, T1, S1, G1⟩
    · have ei : i = N := by omega
      have LA := lwq_all l
      rw [HN.out, ← ei] at LA
      rw [LA] at T
      clear LA
      go_wp2
      go_ret
      exact ⟨⟨n + 1, rfl, by have := HSZ.out; omega, T.out⟩, G.out.2⟩
end Go.Proofs.YtgkgkiheoadbfaaDoor.Tab
namespace Go.Proofs.YtgkgkiheoadbfaaDoor.Tab
set_option maxRecDepth 20000
open Go.RowKit
theorem rslot_at0 (t : Tb) (w : World) : (Instr.index 38 (.agg t.all.toArray) (.int .i64 0)).run Tryd.prog w = .ok (.agg #[.int .i64 (t.k 0), .int .i64 (t.v 0)]) w := by kernel_rfl
theorem rslot_at1 (t : Tb) (w : World) : (Instr.index 38 (.agg t.all.toArray) (.int .i64 1)).run Tryd.prog w = .ok (.agg #[.int .i64 (t.k 1), .int .i64 (t.v 1)]) w := by kernel_rfl
theorem rslot_at2 (t : Tb) (w : World) : (Instr.index 38 (.agg t.all.toArray) (.int .i64 2)).run Tryd.prog w = .ok (.agg #[.int .i64 (t.k 2), .int .i64 (t.v 2)]) w := by kernel_rfl
theorem rslot_at3 (t : Tb) (w : World) : (Instr.index 38 (.agg t.all.toArray) (.int .i64 3)).run Tryd.prog w = .ok (.agg #[.int .i64 (t.k 3), .int .i64 (t.v 3)]) w := by kernel_rfl
theorem rslot_at4 (t : Tb) (w : World) : (Instr.index 38 (.agg t.all.toArray) (.int .i64 4)).run Tryd.prog w = .ok (.agg #[.int .i64 (t.k 4), .int .i64 (t.v 4)]) w := by kernel_rfl
theorem rslot_at5 (t : Tb) (w : World) : (Instr.index 38 (.agg t.all.toArray) (.int .i64 5)).run Tryd.prog w = .ok (.agg #[.int .i64 (t.k 5), .int .i64 (t.v 5)]) w := by kernel_rfl
theorem rslot_at6 (t : Tb) (w : World) : (Instr.index 38 (.agg t.all.toArray) (.int .i64 6)).run Tryd.prog w = .ok (.agg #[.int .i64 (t.k 6), .int .i64 (t.v 6)]) w := by kernel_rfl
theorem rslot_at7 (t : Tb) (w : World) : (Instr.index 38 (.agg t.all.toArray) (.int .i64 7)).run Tryd.prog w = .ok (.agg #[.int .i64 (t.k 7), .int .i64 (t.v 7)]) w := by kernel_rfl
theorem rslot_at (t : Tb) (i : Nat) (hi : i < 8) (w : World) :
    (Instr.index 38 (.agg t.all.toArray) (.int .i64 (i : Nat))).run Tryd.prog w = .ok (.agg #[.int .i64 (t.k i), .int .i64 (t.v i)]) w := by
  have : i = 0 ∨ i = 1 ∨ i = 2 ∨ i = 3 ∨ i = 4 ∨ i = 5 ∨ i = 6 ∨ i = 7 := by omega
  rcases this with rfl | rfl | rfl | rfl | rfl | rfl | rfl | rfl
  · exact rslot_at0 t w
  · exact rslot_at1 t w
  · exact rslot_at2 t w
  · exact rslot_at3 t w
  · exact rslot_at4 t w
  · exact rslot_at5 t w
  · exact rslot_at6 t w
  · exact rslot_at7 t w
theorem rslots_array : ∃ n e, Tryd.prog.underlying 38 = some (.array n e) := ⟨_, _, Tryd.underlying38⟩
theorem rslots_size (t : Tb) : (Tryd.prog.info? 38).map (·.size) = some t.all.length := by rw [t.all_length]; kernel_rfl
theorem rslots_size2 (t : Tb) : (Tryd.prog.info? 38).map (·.size) = some t.all.toArray.size := by rw [List.size_toArray]; exact rslots_size t
theorem rslot_size : (Tryd.prog.info? 36).map (·.size) = some 2 := by kernel_rfl
end Go.Proofs.YtgkgkiheoadbfaaDoor.Tab
namespace Go.Proofs.YtgkgkiheoadbfaaDoor.Tab
set_option maxRecDepth 20000
open Go.RowKit
set_option linter.unusedVariables false

def twq (t : Tb) (i : Nat) : Nat → Nat := fun j => if j < 2 * i then tw t j else 0
theorem twq_zero (t : Tb) : wl (twq t 0) = wl wz := wl_congr fun j _ => by simp [twq, wz]
theorem twq_next (t : Tb) {i : Nat} (hi : i < 8) : wl (upw (upw (twq t i) (2 * i) (t.k i).toNat) (2 * i + 1) (t.v i).toNat) = wl (twq t (i + 1)) := by
  refine wl_congr fun j _ => ?_
  unfold upw twq tw
  by_cases e1 : j = 2 * i + 1
  · subst e1
    rw [if_pos rfl, if_pos (by omega), if_pos (by omega), if_neg (by omega), show (2 * i + 1) / 2 = i by omega]
  · rw [if_neg e1]
    by_cases e0 : j = 2 * i
    · subst e0
      rw [if_pos rfl, if_pos (by omega), if_pos (by omega), if_pos (by omega), show (2 * i) / 2 = i by omega]
    · rw [if_neg e0]
      by_cases h : j < 2 * i
      · have h2 : j < 2 * (i + 1) := by omega
        simp only [h, h2, if_true]
      · have h2 : ¬ j < 2 * (i + 1) := by omega
        simp only [h, h2, if_false]
theorem twq_all (t : Tb) : wl (twq t 8) = wl (tw t) := wl_congr fun j hj => by
  unfold twq
  by_cases h : j < 16
  · rw [if_pos (by omega)]
  · rw [if_neg (by omega)]; unfold tw; rw [if_neg h]

set_option maxHeartbeats 4000000 in
theorem Cells_5 (v : Value) (t : Tb) (x : Int) (hk : ∀ i, i < 8 → 0 ≤ t.k i ∧ t.k i ≤ 4294967295) (hv : ∀ i, i < 8 → 0 ≤ t.v i ∧ t.v i ≤ 4294967295) (w : World) :
    Calls Tryd.prog 17 #[.agg (tg 5 v t x).toArray] w fun e w' => Wd w.heap.size e w' (tw t) ∧ Below w.heap.size w w' := by
  obtain ⟨na, ea, hd⟩ := rslots_array
  have HD : Hid _ := hd
  clear hd
  have HS : Hid (∀ t : Tb, (Tryd.prog.info? 38).map (·.size) = some t.all.length) := rslots_size
  have HX : Hid (∀ i : Nat, i < 8 → ∀ w, (Instr.index 38 (.agg t.all.toArray) (.int .i64 (i : Nat))).run Tryd.prog w = .ok (.agg #[.int .i64 (t.k i), .int .i64 (t.v i)]) w) := rslot_at t
  have HK : Hid _ := hk
  have HV : Hid _ := hv
  clear hk hv
  have mk := mk17b w (.cells (tg 5 v t x).toArray 40)
  have S : Hid (Bo ((w.alloc (.cells (tg 5 v t x).toArray 40)).alloc (.cells (wl wz).toArray 22)) w.heap.size (tg 5 v t x)) := (Bo.born w (tg 5 v t x) _ rfl).new _
  have L : Hid (Bo ((w.alloc (.cells (tg 5 v t x).toArray 40)).alloc (.cells (wl wz).toArray 22)) (w.heap.size + 1) (wl (twq t 0))) := by rw [twq_zero]; exact Bo.born _ (wl wz) _ (by simp)
  have G : Hid (Gd w.heap.size w ((w.alloc (.cells (tg 5 v t x).toArray 40)).alloc (.cells (wl wz).toArray 22))) := ((Gd.refl w).new _).new _
  have c0 := S.out.tcell.1
  have NX : Hid _ := @twq_next t
  have AL : Hid _ := twq_all t
  have RG : Hid _ := S.out.slots
  generalize tg 5 v t x = th at mk L G c0 RG ⊢
  clear S
  obtain ⟨cs, hcs⟩ : ∃ cs, cs = t.all := ⟨_, rfl⟩
  rw [← hcs] at RG HX
  have HS1 : Hid ((Tryd.prog.info? 38).map (·.size) = some cs.length) := by rw [hcs]; exact HS.out t
  clear hcs HS
  go_enter Tryd.func17, Tryd.ntmps17
  go_wp2_with (refine wpList_load_mid rfl 38 _ rfl w.heap.size _ rfl cs _ RG.out HD.out rfl HS1.out ?_)
  clear mk c0
  generalize (w.alloc (.cells th.toArray 40)).alloc (.cells (wl wz).toArray 22) = W at G L RG ⊢
  generalize hsz : w.heap.size = n at G L RG ⊢
  have HSZ : Hid (w.heap.size = n) := hsz
  clear hsz RG
  go_loopg [36] 8 (fun gg s36 wt => ∃ i : Nat, i ≤ 8 ∧ 8 - i ≤ gg ∧ s36 = .int .i64 i ∧ Hid (Bo wt (n + 1) (wl (twq t i))) ∧ Hid (Gd n w wt))
  case atStart => exact ⟨0, by omega, by omega, rfl, L, G⟩
  case round =>
    clear L G
    obtain ⟨i, hi, hgg, rfl, L, G⟩ := hrel
    by_cases hlt : i < 8
    · have hx := HX.out i hlt
      have k0 := HK.out i hlt
      have v0 := HV.out i hlt
      have nx := NX.out hlt
      generalize t.k i = x at hx k0 nx
      generalize t.v i = y at hx v0 nx
      obtain ⟨a, rfl⟩ : ∃ a : Nat, (a : Int) = x := ⟨x.toNat, by omega⟩
      obtain ⟨b, rfl⟩ : ∃ b : Nat, (b : Int) = y := ⟨y.toNat, by omega⟩
      rw [Int.toNat_natCast, Int.toNat_natCast] at nx
      have NX1 : Hid _ := nx
      clear nx
      have ex1 : IntKind.u64.wrap (a : Int) = a := by rw [IntKind.wrap_u64]; omega
      have ey1 : IntKind.u64.wrap (b : Int) = b := by rw [IntKind.wrap_u64]; omega
      have i1 : (i : Int) < 8 := by omega
      have i0 : (0 : Int) ≤ (i : Int) := by omega
      have i2 : 2 * (i : Int) < 17 := by omega
      have i3 : 2 * (i : Int) + 1 < 17 := by omega
      have i4 : (0 : Int) ≤ 2 * (i : Int) := by omega
      have i5 : (0 : Int) ≤ 2 * (i : Int) + 1 := by omega
      have ls : n + 1 < wr.heap.size := L.out.lt
      have L1 : Hid (Bo (wr.alloc (.cells #[.int .i64 a, .int .i64 b] 36)) (n + 1) (wl (twq t i))) := L.out.new _
      have G1 : Hid (Gd n w (wr.alloc (.cells #[.int .i64 a, .int .i64 b] 36))) := G.out.new _
      have S1 : Hid (Bo (wr.alloc (.cells #[.int .i64 a, .int .i64 b] 36)) wr.heap.size [.int .i64 a, .int .i64 b]) := Bo.born wr [.int .i64 a, .int .i64 b] _ rfl
      clear L G k0 v0
      go_wp2_with fail
      generalize wr.alloc (.cells #[.int .i64 a, .int .i64 b] 36) = V at L1 G1 S1 ⊢
      have c0 := L1.out.word (show 2 * i < 17 by omega)
      have c1 := L1.out.word (show 2 * i + 1 < 17 by omega)
      have f0 := L1.out.froz (2 * i)
      have f1 := L1.out.froz (2 * i + 1)
      have s0 := S1.out.at 0 rfl
      have s1 := S1.out.at 1 rfl
      have ne : wr.heap.size ≠ n + 1 := by omega
      generalize wr.heap.size = q at S1 s0 s1 ne ⊢
      go_region
      all_goals go_wp2
      all_goals go_roundg (8 - (i + 1))
      case measure => omega
      case rel => exact ⟨i + 1, by omega, by omega, by go_num, by rw [← NX1.out]; exact (L1.out.drew.setw a (by omega)).setw b (by omega), (G1.out.drew.aside (show n ≤ n + 1 by omega) _).aside (show n ≤ n + 1 by omega) _⟩
    · have ei : i = 8 := by omega
      subst ei
      rw [AL.out] at L
      clear hlt
      go_wp2
      go_ret
      exact ⟨⟨n + 1, rfl, by have := HSZ.out; omega, L.out⟩, G.out.2⟩
end Go.Proofs.YtgkgkiheoadbfaaDoor.Tab
namespace Go.Proofs.YtgkgkiheoadbfaaDoor
set_option maxRecDepth 20000
open Go.RowKit Go.Extern.Stop Go.Stop Go.Extern

theorem As.valueOfP (t : Addr) (w : World) : (ReflectliteValue.unpack (.iface 88 (.pointer (some t)))).run Tryd.prog w
    = .ok (.agg #[.pointer (some ⟨4, 88, none⟩), .pointer (some ⟨w.heap.size, 0, none⟩), .int .u64 150]) (w.alloc (.cells #[.pointer (some t)] 88)) := by kernel_rfl
theorem As.typeP (a : Addr) (w : World) : (ReflectliteValue.methodAny (ReflectliteValue.valueError "reflectlite.Value.Type" 0) (fun t _ _ _ => ReflectliteType.toType t) #[.agg #[.pointer (some ⟨4, 88, none⟩), .pointer (some a), .int .u64 150]]).run Tryd.prog w
    = .ok (.iface 116 (.agg #[.pointer (some ⟨4, 88, none⟩)])) w := by kernel_rfl
theorem As.methodKind (h : Value) (w : World) : (Go.method 255 116 (.agg #[h]) "Kind").run Tryd.prog w = .ok (55, h) w := by kernel_rfl
theorem As.kindP (w : World) : ((ReflectliteType.abiMethod fun t => (fun a : Nat => Value.int IntKind.u8 (a : Int)) <$> Rtype.kind t) #[.pointer (some ⟨4, 88, none⟩)]).run Tryd.prog w = .ok (.int .u8 22) w := by kernel_rfl
theorem As.kindE (w : World) : ((ReflectliteType.abiMethod fun t => (fun a : Nat => Value.int IntKind.u8 (a : Int)) <$> Rtype.kind t) #[.pointer (some ⟨4, 31, none⟩)]).run Tryd.prog w = .ok (.int .u8 2) w := by kernel_rfl

theorem As.partsP (a : Addr) (w : World) : (ReflectliteValue.parts (.agg #[.pointer (some ⟨4, 88, none⟩), .pointer (some a), .int .u64 150])).run Tryd.prog w = .ok (some (88, a, 150)) w := by kernel_rfl
theorem As.isNilP (a p : Addr) (W : World) (ha : W.cell? a = some (.pointer (some p))) :
    (ReflectliteValue.method (ReflectliteValue.valueError "reflectlite.Value.IsNil" 0) ReflectliteValue.isNil #[.agg #[.pointer (some ⟨4, 88, none⟩), .pointer (some a), .int .u64 150]]).run Tryd.prog W = .ok (.bool false) W := by
  delta ReflectliteValue.method ReflectliteValue.method.match_2
  simp [Array.getLit, As.partsP, ReflectliteValue.isNil, loadVar, isAgg, underlying, Tryd.underlying88, ha, Result.andThen]

theorem As.methodElem (h : Value) (w : World) : (Go.method 255 116 (.agg #[h]) "Elem").run Tryd.prog w = .ok (68, .agg #[h]) w := by kernel_rfl
theorem As.methodImplements (h : Value) (w : World) : (Go.method 255 116 (.agg #[h]) "Implements").run Tryd.prog w = .ok (69, .agg #[h]) w := by kernel_rfl
theorem As.methodAssignableTo (h : Value) (w : World) : (Go.method 255 116 (.agg #[h]) "AssignableTo").run Tryd.prog w = .ok (66, .agg #[h]) w := by kernel_rfl
theorem As.elemP (w : World) : (ReflectliteType.method ReflectliteType.elem #[.agg #[.pointer (some ⟨4, 88, none⟩)]]).run Tryd.prog w = .ok (.iface 116 (.agg #[.pointer (some ⟨4, 31, none⟩)])) w := by kernel_rfl
theorem As.implementsE (w : World) : (ReflectliteType.relation "Implements" ReflectliteType.implements_ #[.agg #[.pointer (some ⟨4, 31, none⟩)], .iface 116 (.agg #[.pointer (some ⟨4, 26, none⟩)])]).run Tryd.prog w = .ok (.bool true) w := by kernel_rfl
theorem As.typeOfE (v : Value) (w : World) : (ReflectliteType.typeOf #[.iface 31 v]).run Tryd.prog w = .ok (.iface 116 (.agg #[.pointer (some ⟨4, 31, none⟩)])) w := by kernel_rfl
theorem As.assignableE (w : World) : (ReflectliteType.relation "AssignableTo" ReflectliteType.assignableTo #[.agg #[.pointer (some ⟨4, 31, none⟩)], .iface 116 (.agg #[.pointer (some ⟨4, 31, none⟩)])]).run Tryd.prog w = .ok (.bool true) w := by kernel_rfl
theorem As.valueOfE (n : Int) (w : World) : (ReflectliteValue.unpack (.iface 31 (.int .i64 n))).run Tryd.prog w
    = .ok (.agg #[.pointer (some ⟨4, 31, none⟩), .pointer (some ⟨w.heap.size, 0, none⟩), .int .u64 130]) (w.alloc (.cells #[.int .i64 n] 31)) := by kernel_rfl
theorem As.elemOfP (w : World) : (Rtype.elem? 88).run Tryd.prog w = .ok (some 31) w := by kernel_rfl
theorem As.mkE (p : Addr) (w : World) : (ReflectliteValue.mk 31 p ReflectliteValue.flagAddr).run Tryd.prog w = .ok (.agg #[.pointer (some ⟨4, 31, none⟩), .pointer (some p), .int .u64 386]) w := by kernel_rfl
theorem As.elemVP (a p : Addr) (W : World) (ha : W.cell? a = some (.pointer (some p))) :
    (ReflectliteValue.method (ReflectliteValue.valueError "reflectlite.Value.Elem" 0) ReflectliteValue.elem #[.agg #[.pointer (some ⟨4, 88, none⟩), .pointer (some a), .int .u64 150]]).run Tryd.prog W
      = .ok (.agg #[.pointer (some ⟨4, 31, none⟩), .pointer (some p), .int .u64 386]) W := by
  delta ReflectliteValue.method ReflectliteValue.method.match_2
  simp [Array.getLit, As.partsP, ReflectliteValue.elem, loadVar, isAgg, underlying, Tryd.underlying88, ha, Result.andThen, As.elemOfP, As.mkE]
theorem As.partsEa (a : Addr) (w : World) : (ReflectliteValue.parts (.agg #[.pointer (some ⟨4, 31, none⟩), .pointer (some a), .int .u64 386])).run Tryd.prog w = .ok (some (31, a, 386)) w := by kernel_rfl
theorem As.partsE (a : Addr) (w : World) : (ReflectliteValue.parts (.agg #[.pointer (some ⟨4, 31, none⟩), .pointer (some a), .int .u64 130])).run Tryd.prog w = .ok (some (31, a, 130)) w := by kernel_rfl
theorem As.directE (w : World) : (Rtype.directlyAssignable 31 31).run Tryd.prog w = .ok true w := by kernel_rfl
theorem As.setE (ta b : Addr) (n : Int) (old : Value) (W : World) (hb : W.cell? b = some (.int .i64 n)) (ht : W.cell? ta = some old) (hf : W.frozen? ta = false) :
    (ReflectliteValue.set #[.agg #[.pointer (some ⟨4, 31, none⟩), .pointer (some ta), .int .u64 386], .agg #[.pointer (some ⟨4, 31, none⟩), .pointer (some b), .int .u64 130]]).run Tryd.prog W
      = .ok (.tuple #[]) (W.setCell ta (.int .i64 n)) := by
  delta ReflectliteValue.set ReflectliteValue.set.match_3
  simp [Array.getLit, As.partsEa, As.partsE, ReflectliteValue.flagAddr, loadVar, isAgg, underlying, Tryd.underlying31, hb, Result.andThen, As.directE, storeVar, Value.cells, storeCells, Addr.add]
  rw [run_store Tryd.prog W ta _ _ (by rfl)]
  simp [ht, hf]

set_option maxHeartbeats 4000000 in
theorem as_errno (n : Int) (t : Addr) (old : Value) (w : World) (hg : w.cell? ⟨2, 0, none⟩ = some (.iface 116 (.agg #[.pointer (some ⟨4, 26, none⟩)]))) (ht0 : w.cell? t = some old) (hf0 : w.frozen? t = false) :
    Calls Tryd.prog 30 #[.iface 31 (.int .i64 n), .iface 88 (.pointer (some t))] w fun ev w' => ev = .returned (.bool true) ∧ w' = ((((w.alloc (.cells #[.pointer (some t)] 88)).alloc (.cells #[.pointer (some ⟨4, 88, none⟩), .pointer (some ⟨w.heap.size, 0, none⟩), .int .u64 150] 103)).alloc (.cells #[.pointer (some ⟨4, 88, none⟩), .pointer (some ⟨w.heap.size, 0, none⟩), .int .u64 150] 103)).alloc (.cells #[.int .i64 n] 31)).setCell t (.int .i64 n) := by
  have hF0 := @run_callFunc_extern Tryd.prog 34 _ (fun args => ReflectliteValue.unpack (args.getD 0 (.tuple #[]))) Tryd.func34 (by kernel_rfl) (by kernel_rfl) (by kernel_rfl) (by kernel_rfl)
  have hF1 := @run_callFunc_extern Tryd.prog 35 _ (ReflectliteValue.methodAny (ReflectliteValue.valueError "reflectlite.Value.Type" 0) (fun t _ _ _ => ReflectliteType.toType t)) Tryd.func35 (by kernel_rfl) (by kernel_rfl) (by kernel_rfl) (by kernel_rfl)
  have hF2 := @run_callFunc_extern Tryd.prog 36 _ (ReflectliteValue.method (ReflectliteValue.valueError "reflectlite.Value.IsNil" 0) ReflectliteValue.isNil) Tryd.func36 (by kernel_rfl) (by kernel_rfl) (by kernel_rfl) (by kernel_rfl)
  have hF3 := @run_callFunc_extern Tryd.prog 55 _ (ReflectliteType.abiMethod fun t => do pure (.int .u8 (← Rtype.kind t))) Tryd.func55 (by kernel_rfl) (by kernel_rfl) (by kernel_rfl) (by kernel_rfl)
  have hF4 := @run_callFunc_extern Tryd.prog 68 _ (ReflectliteType.method ReflectliteType.elem) Tryd.func68 (by kernel_rfl) (by kernel_rfl) (by kernel_rfl) (by kernel_rfl)
  have hF5 := @run_callFunc_extern Tryd.prog 69 _ (ReflectliteType.relation "Implements" ReflectliteType.implements_) Tryd.func69 (by kernel_rfl) (by kernel_rfl) (by kernel_rfl) (by kernel_rfl)
  have hF6 := @run_callFunc_extern Tryd.prog 38 _ ReflectliteType.typeOf Tryd.func38 (by kernel_rfl) (by kernel_rfl) (by kernel_rfl) (by kernel_rfl)
  have hF7 := @run_callFunc_extern Tryd.prog 66 _ (ReflectliteType.relation "AssignableTo" ReflectliteType.assignableTo) Tryd.func66 (by kernel_rfl) (by kernel_rfl) (by kernel_rfl) (by kernel_rfl)
  have hF8 := @run_callFunc_extern Tryd.prog 39 _ (ReflectliteValue.method (ReflectliteValue.valueError "reflectlite.Value.Elem" 0) ReflectliteValue.elem) Tryd.func39 (by kernel_rfl) (by kernel_rfl) (by kernel_rfl) (by kernel_rfl)
  have hF9 := @run_callFunc_extern Tryd.prog 40 _ ReflectliteValue.set Tryd.func40 (by kernel_rfl) (by kernel_rfl) (by kernel_rfl) (by kernel_rfl)
  have tO := As.typeOfE
  have mA := As.methodAssignableTo
  have aE := As.assignableE
  have vE := As.valueOfE
  have vP := As.valueOfP
  have tP := As.typeP
  have mK := As.methodKind
  have mE := As.methodElem
  have mI := As.methodImplements
  have kP := As.kindP
  have kE := As.kindE
  have eP := As.elemP
  have iE := As.implementsE
  have n8 := As.isNilP ⟨w.heap.size, 0, none⟩ t ((w.alloc (.cells #[.pointer (some t)] 88)).alloc (.cells #[.pointer (some ⟨4, 88, none⟩), .pointer (some ⟨w.heap.size, 0, none⟩), .int .u64 150] 103)) (by simp)
  have hlt : 2 < w.heap.size := by
    rcases Nat.lt_or_ge 2 w.heap.size with h | h
    · exact h
    · simp [World.cell?, Array.getElem?_eq_none h] at hg
  have hg2 : ((w.alloc (.cells #[.pointer (some t)] 88)).alloc (.cells #[.pointer (some ⟨4, 88, none⟩), .pointer (some ⟨w.heap.size, 0, none⟩), .int .u64 150] 103)).cell? ⟨2, 0, none⟩ = some (.iface 116 (.agg #[.pointer (some ⟨4, 26, none⟩)])) := by
    rw [World.cell?_alloc_lt _ _ ⟨2, 0, none⟩ (by simp <;> omega), World.cell?_alloc_lt _ _ ⟨2, 0, none⟩ hlt]; exact hg
  have htl : t.block < w.heap.size := by
    rcases Nat.lt_or_ge t.block w.heap.size with h | h
    · exact h
    · simp [World.cell?, Array.getElem?_eq_none h] at ht0
  have el := As.elemVP ⟨w.heap.size, 0, none⟩ t (((w.alloc (.cells #[.pointer (some t)] 88)).alloc (.cells #[.pointer (some ⟨4, 88, none⟩), .pointer (some ⟨w.heap.size, 0, none⟩), .int .u64 150] 103)).alloc (.cells #[.pointer (some ⟨4, 88, none⟩), .pointer (some ⟨w.heap.size, 0, none⟩), .int .u64 150] 103)) (by rw [World.cell?_alloc_lt _ _ ⟨w.heap.size, 0, none⟩ (by simp; omega)]; simp)
  have st := As.setE t ⟨w.heap.size + 1 + 1 + 1, 0, none⟩ n old ((((w.alloc (.cells #[.pointer (some t)] 88)).alloc (.cells #[.pointer (some ⟨4, 88, none⟩), .pointer (some ⟨w.heap.size, 0, none⟩), .int .u64 150] 103)).alloc (.cells #[.pointer (some ⟨4, 88, none⟩), .pointer (some ⟨w.heap.size, 0, none⟩), .int .u64 150] 103)).alloc (.cells #[.int .i64 n] 31))
    (by rw [World.cell?_alloc_at _ _ _ _ (by simp)]; rfl)
    (by rw [World.cell?_alloc_lt _ _ t (by simp; omega), World.cell?_alloc_lt _ _ t (by simp; omega), World.cell?_alloc_lt _ _ t (by simp; omega), World.cell?_alloc_lt _ _ t htl]; exact ht0)
    (by rw [World.frozen?_alloc_old _ _ t (by simp; omega), World.frozen?_alloc_old _ _ t (by simp; omega), World.frozen?_alloc_old _ _ t (by simp; omega), World.frozen?_alloc_old _ _ t (Nat.ne_of_lt htl)]; exact hf0)
  go_enter Tryd.func30, Tryd.ntmps30
  go_wp2
  refine wp_loop_rounds 1 ?_
  rw [rounds_succ]
  go_wp2
  go_ret
  exact ⟨rfl, rfl⟩
end Go.Proofs.YtgkgkiheoadbfaaDoor
namespace Go.Proofs.YtgkgkiheoadbfaaDoor
set_option maxRecDepth 20000
open Go.RowKit

/-- The library's handle of the type error in its variable. -/
def HandleAt (w : World) : Prop := w.cell? ⟨2, 0, none⟩ = some (.iface 116 (.agg #[.pointer (some ⟨4, 26, none⟩)]))

theorem size_of_cell' {w : World} {b o : Nat} {v : Value} (h : w.cell? ⟨b, o, none⟩ = some v) : b < w.heap.size := by
  by_cases hb : b < w.heap.size
  · exact hb
  · have e : w.heap[b]? = none := by simp; omega
    simp [World.cell?, e] at h

theorem HandleAt.later {w w' : World} (h : HandleAt w) (g : Gr w w') : HandleAt w' := (g.cell (size_of_cell' h)).trans h

theorem tell_nil (w : World) : Calls Tryd.prog 25 #[.nilIface] w fun e w' => e = .returned (.int .i64 0) ∧ w' = w := by
  go_enter Tryd.func25, Tryd.ntmps25
  go_wp2
  go_ret
  exact ⟨rfl, rfl⟩

theorem as_errno' (n : Int) (t : Addr) (old : Value) (w : World) (hg : HandleAt w) (ht0 : w.cell? t = some old) (hf0 : w.frozen? t = false) :
    Calls Tryd.prog 30 #[.iface 31 (.int .i64 n), .iface 88 (.pointer (some t))] w fun e w' => e = .returned (.bool true) ∧ ∃ W, Gr w W ∧ w' = W.setCell t (.int .i64 n) :=
  (as_errno n t old w hg ht0 hf0).mono fun _ _ ⟨he, hw⟩ => ⟨he, _, ((((Gr.refl w).alloc _ _).alloc _ _).alloc _ _).alloc _ _, hw⟩

theorem tell_errno (n : Int) (w : World) (hH : HandleAt w) :
    Calls Tryd.prog 25 #[.iface 31 (.int .i64 n)] w fun e w' => e = .returned (.int .i64 n) ∧ Gr w w' := by
  have H1 : Hid (HandleAt (w.alloc (.cells #[.int .i64 0] 31))) := hH.later ((Gr.refl w).alloc _ _)
  clear hH
  go_enter Tryd.func25, Tryd.ntmps25
  go_wp2_with fail
  refine (as_errno' n ⟨w.heap.size, 0, none⟩ (.int .i64 0) _ H1.out (by simp) ((frozen?_alloc_cells _ _ _ _).trans (frozen_past w (Nat.le_refl _)))).mono ?_
  rintro e w' ⟨rfl, W, hW, rfl⟩
  have hc : (W.setCell ⟨w.heap.size, 0, none⟩ (.int .i64 n)).cell? ⟨w.heap.size, 0, none⟩ = some (.int .i64 n) := by
    refine World.cell?_setCell_same _ _ _ (u := .int .i64 0) ?_
    rw [hW.cell (by simp)]
    simp
  have hG : Gr w (W.setCell ⟨w.heap.size, 0, none⟩ (.int .i64 n)) := (((Gr.refl w).alloc _ _).trans hW).setCell (Nat.le_refl _) _
  generalize W.setCell ⟨w.heap.size, 0, none⟩ (.int .i64 n) = W2 at hc hG
  clear hW H1
  go_wp2
  go_ret
  exact ⟨rfl, hG⟩

theorem place_nil (w : World) : Calls Tryd.prog 16 #[.nilIface] w fun e w' => e = .returned (.tuple #[.int .i64 0, .int .i64 (-1)]) ∧ w' = w := by
  go_enter Tryd.func16, Tryd.ntmps16
  go_wp2_with fail
  refine (tell_nil _).mono ?_
  rintro e w' ⟨rfl, rfl⟩
  go_wp2_with fail
  refine wp_loop_rounds 1 ?_
  rw [rounds_succ]
  go_wp2
  go_ret2
  exact ⟨rfl, rfl⟩

theorem noAt (n : Int) (w : World) : (Instr.typeAssert (.iface 31 (.int .i64 n)) 26 71 true).run Tryd.prog w = .ok (.tuple #[.pointer none, .bool false]) w := by kernel_rfl
theorem noUnwrap (n : Int) (w : World) : (Instr.typeAssert (.iface 31 (.int .i64 n)) 26 75 true).run Tryd.prog w = .ok (.tuple #[.nilIface, .bool false]) w :=
  run_typeAssert_lacksB Tryd.underlying75 (by kernel_rfl) (by kernel_rfl) _ _ w

theorem place_errno (n : Int) (w : World) (hH : HandleAt w) :
    Calls Tryd.prog 16 #[.iface 31 (.int .i64 n)] w fun e w' => e = .returned (.tuple #[.int .i64 n, .int .i64 (-1)]) ∧ Gr w w' := by
  have h1 := noAt n
  have h2 := noUnwrap n
  go_enter Tryd.func16, Tryd.ntmps16
  go_wp2_with fail
  refine (tell_errno n _ hH).mono ?_
  rintro e w' ⟨rfl, hG⟩
  clear hH
  go_wp2_with fail
  refine wp_loop_rounds 1 ?_
  rw [rounds_succ]
  go_wp2
  go_ret2
  exact ⟨rfl, hG⟩

theorem bare_nil (n : Int) (w : World) :
    Calls Tryd.prog 7 #[.nilIface, .int .i64 n] w fun e w' => e = .returned (.bool (decide (n = 0))) ∧ w' = w := by
  by_cases hn : n = 0
  · subst hn
    go_enter Tryd.func7, Tryd.ntmps7
    go_wp2_with fail
    refine (place_nil _).mono ?_
    rintro e w' ⟨rfl, rfl⟩
    go_wp2
    go_ret
    exact ⟨rfl, rfl⟩
  · have hb : ((0 : Int) == n) = false := beq_eq_false_iff_ne.2 (by omega)
    rw [decide_eq_false hn]
    go_enter Tryd.func7, Tryd.ntmps7
    go_wp2_with fail
    refine (place_nil _).mono ?_
    rintro e w' ⟨rfl, rfl⟩
    go_wp2
    go_ret
    exact ⟨rfl, rfl⟩

theorem bare_errno (n m : Int) (w : World) (hH : HandleAt w) :
    Calls Tryd.prog 7 #[.iface 31 (.int .i64 n), .int .i64 m] w fun e w' => e = .returned (.bool (decide (n = m))) ∧ Gr w w' := by
  by_cases hn : n = m
  · subst hn
    rw [decide_eq_true rfl]
    go_enter Tryd.func7, Tryd.ntmps7
    go_wp2_with fail
    refine (place_errno n _ hH).mono ?_
    rintro e w' ⟨rfl, hG⟩
    go_wp2
    go_ret
    exact ⟨rfl, hG⟩
  · have hb : (n == m) = false := beq_eq_false_iff_ne.2 hn
    rw [decide_eq_false hn]
    go_enter Tryd.func7, Tryd.ntmps7
    go_wp2_with fail
    refine (place_errno n _ hH).mono ?_
    rintro e w' ⟨rfl, hG⟩
    go_wp2
    go_ret
    exact ⟨rfl, hG⟩
end Go.Proofs.YtgkgkiheoadbfaaDoor
namespace Go.Proofs.YtgkgkiheoadbfaaDoor
set_option maxRecDepth 20000
open Go.RowKit

theorem var_lt {w : World} {n : String} {cs : Array Value} {g : Nat} (hg : Tryd.prog.globalNamed n = some g) (h : w.var? Tryd.prog n = some cs) : g < w.heap.size := by
  unfold World.var? at h
  rw [hg] at h
  by_cases hb : g < w.heap.size
  · exact hb
  · have e : w.heap[g]? = none := by simp; omega
    simp [e] at h
def As (w : World) : Prop := Lib.TabIs Tryd.prog w "strings.asciiSpace" .u8 Lib.asciiSpaceTab
theorem As.later {w w' : World} (h : As w) (hb : Below w.heap.size w w') : As w' := by
  have hg : Tryd.prog.globalNamed "strings.asciiSpace" = some 0 := by kernel_rfl
  exact var?_below hb hg (var_lt hg h) h

/-- The kinds' names. -/
def knm : Nat → List UInt8
  | 1 => [113, 117, 101, 117, 101]
  | 2 => [115, 116, 97, 99, 107]
  | 3 => [100, 101, 113, 117, 101]
  | 4 => [104, 101, 97, 112]
  | 5 => [116, 97, 98, 108, 101]
  | 6 => [116, 97, 108, 108, 121]
  | _ => []
structure En (w : World) : Prop where
  hd : HandleAt w
  asc : As w
end Go.Proofs.YtgkgkiheoadbfaaDoor
namespace Go.Proofs.YtgkgkiheoadbfaaDoor
open Go.Shelf
def sh_laysM157_ren : Go.Shelf.Ren := ⟨fun | 157 => 15 | 229 => 23 | 199 => 24 | 261 => 29 | 311 => 32 | 312 => 33 | n => n, fun | 9 => 9 | 31 => 57 | 3 => 3 | 5 => 5 | 4 => 4 | 119 => 67 | 0 => 0 | 40 => 69 | 152 => 81 | 21 => 21 | 154 => 83 | 51 => 84 | 141 => 86 | 196 => 92 | 193 => 89 | 198 => 95 | 49 => 93 | 194 => 90 | 201 => 98 | 226 => 113 | 46 => 80 | 227 => 114 | n => n, fun | 0 => 0 | 6 => 1 | n => n⟩
theorem sh_laysM157 : Go.Proofs.LaysM.n157 Tryd.prog sh_laysM157_ren := {
  mixed := by kernel_rfl
  f157 := Tryd.func15.trans (congrArg some (by kernel_rfl))
  f199 := Tryd.func24.trans (congrArg some (by kernel_rfl))
  f229 := Tryd.func23.trans (congrArg some (by kernel_rfl))
  f261 := Tryd.func29.trans (congrArg some (by kernel_rfl))
  f311 := Tryd.func32.trans (congrArg some (by kernel_rfl))
  f312 := Tryd.func33.trans (congrArg some (by kernel_rfl))
  t0 := Tryd.underlying0
  a0 := Tryd.isAgg0
  z0 := Tryd.sizeOf0
  v0 := Tryd.zeroValue0
  t3 := Tryd.underlying3
  a3 := Tryd.isAgg3
  z3 := Tryd.sizeOf3
  v3 := Tryd.zeroValue3
  t4 := Tryd.underlying4
  a4 := Tryd.isAgg4
  z4 := Tryd.sizeOf4
  v4 := Tryd.zeroValue4
  t5 := Tryd.underlying5
  a5 := Tryd.isAgg5
  z5 := Tryd.sizeOf5
  v5 := Tryd.zeroValue5
  t9 := Tryd.underlying9
  a9 := Tryd.isAgg9
  z9 := Tryd.sizeOf9
  v9 := Tryd.zeroValue9
  t21 := Tryd.underlying21
  a21 := Tryd.isAgg21
  z21 := Tryd.sizeOf21
  v21 := Tryd.zeroValue21
  t31 := Tryd.underlying57
  a31 := Tryd.isAgg57
  z31 := Tryd.sizeOf57
  v31 := Tryd.zeroValue57
  t40 := Tryd.underlying69
  a40 := Tryd.isAgg69
  z40 := Tryd.sizeOf69
  v40 := Tryd.zeroValue69
  t46 := Tryd.underlying80
  a46 := Tryd.isAgg80
  z46 := Tryd.sizeOf80
  v46 := Tryd.zeroValue80
  t49 := Tryd.underlying93
  a49 := Tryd.isAgg93
  z49 := Tryd.sizeOf93
  v49 := Tryd.zeroValue93
  t51 := Tryd.underlying84
  a51 := Tryd.isAgg84
  z51 := Tryd.sizeOf84
  v51 := Tryd.zeroValue84
  t119 := Tryd.underlying67
  a119 := Tryd.isAgg67
  z119 := Tryd.sizeOf67
  t141 := Tryd.underlying86
  a141 := Tryd.isAgg86
  z141 := Tryd.sizeOf86
  v141 := Tryd.zeroValue86
  t152 := Tryd.underlying81
  a152 := Tryd.isAgg81
  z152 := Tryd.sizeOf81
  v152 := Tryd.zeroValue81
  t154 := Tryd.underlying83
  a154 := Tryd.isAgg83
  z154 := Tryd.sizeOf83
  v154 := Tryd.zeroValue83
  t193 := Tryd.underlying89
  a193 := Tryd.isAgg89
  z193 := Tryd.sizeOf89
  v193 := Tryd.zeroValue89
  t194 := Tryd.underlying90
  a194 := Tryd.isAgg90
  z194 := Tryd.sizeOf90
  v194 := Tryd.zeroValue90
  t196 := Tryd.underlying92
  a196 := Tryd.isAgg92
  z196 := Tryd.sizeOf92
  v196 := Tryd.zeroValue92
  t198 := Tryd.underlying95
  a198 := Tryd.isAgg95
  z198 := Tryd.sizeOf95
  v198 := Tryd.zeroValue95
  t201 := Tryd.underlying98
  a201 := Tryd.isAgg98
  z201 := Tryd.sizeOf98
  v201 := Tryd.zeroValue98
  t226 := Tryd.underlying113
  a226 := Tryd.isAgg113
  z226 := Tryd.sizeOf113
  v226 := Tryd.zeroValue113
  t227 := Tryd.underlying114
  a227 := Tryd.isAgg114
  z227 := Tryd.sizeOf114
  v227 := Tryd.zeroValue114
  g0 := by kernel_rfl
  g6 := by kernel_rfl
  i0 := by kernel_rfl
  i3 := by kernel_rfl
  i4 := by kernel_rfl
  i5 := by kernel_rfl
  i9 := by kernel_rfl
  i21 := by kernel_rfl
  i31 := by kernel_rfl
  i40 := by kernel_rfl
  i46 := by kernel_rfl
  i49 := by kernel_rfl
  i51 := by kernel_rfl
  i141 := by kernel_rfl
  i152 := by kernel_rfl
  i154 := by kernel_rfl
  i193 := by kernel_rfl
  i194 := by kernel_rfl
  i196 := by kernel_rfl
  i198 := by kernel_rfl
  i201 := by kernel_rfl
  i226 := by kernel_rfl
  i227 := by kernel_rfl
  m0 := by kernel_rfl
  m6 := by kernel_rfl }
open Go.RowKit Go.Lib in
theorem sh_strings_Fields_laid (s : ByteArray) (w : World) (hs : s.size < 4294967281) (hascii : ∀ (j : Nat) b, s.data.toList[j]? = some b → b.toNat < 128) (htab : Lib.TabIs Tryd.prog w "strings.asciiSpace" .u8 Lib.asciiSpaceTab) :
    Calls Tryd.prog 15 #[.string s] w fun e w' =>
      e = .returned (.slice (some ⟨w.heap.size, 0, none⟩) (Lib.fields s.data.toList).length (Lib.fields s.data.toList).length) ∧ w' = w.alloc (.cells ((Lib.fields s.data.toList).map fun l => Value.string ⟨l.toArray⟩).toArray 9) := Any.strings_Fields_laid sh_laysM157 s w hs hascii htab
end Go.Proofs.YtgkgkiheoadbfaaDoor
namespace Go.Proofs.YtgkgkiheoadbfaaDoor
set_option maxRecDepth 20000
open Go.RowKit
set_option linter.unusedVariables false

theorem rwithin_yes (n a b : Int) (w : World) (h1 : a ≤ n) (h2 : n ≤ b) :
    Calls Tryd.prog 14 #[.int .i64 n, .int .i64 a, .int .i64 b] w fun e w' => e = .returned (.bool true) ∧ w' = w := by
  go_enter Tryd.func14, Tryd.ntmps14
  go_wp2
  go_ret
  exact ⟨rfl, rfl⟩
theorem rwithin_no (n a b : Int) (w : World) (h : n < a ∨ b < n) :
    Calls Tryd.prog 14 #[.int .i64 n, .int .i64 a, .int .i64 b] w fun e w' => e = .returned (.bool false) ∧ w' = w := by
  by_cases h1 : a ≤ n
  · have h2 : ¬ n ≤ b := by omega
    clear h
    go_enter Tryd.func14, Tryd.ntmps14
    go_wp2
    go_ret
    exact ⟨rfl, rfl⟩
  · clear h
    go_enter Tryd.func14, Tryd.ntmps14
    go_wp2
    go_ret
    exact ⟨rfl, rfl⟩
theorem KName_no {a : Int} (h : a < 1 ∨ 6 < a) (w : World) : Calls Tryd.prog 6 #[.int .i64 a] w fun e w' => e = .returned (.string ⟨#[63]⟩) ∧ w' = w := by
  have I : Hid _ := fun w => rwithin_no a 1 6 w h
  clear h
  go_enter Tryd.func6, Tryd.ntmps6
  go_wp2_with fail
  refine (I.out _).mono ?_
  rintro e w1 ⟨rfl, rfl⟩
  go_wp2
  go_ret
  exact ⟨rfl, rfl⟩

def six : List UInt8 := [113, 117, 101, 117, 101, 32, 115, 116, 97, 99, 107, 32, 100, 101, 113, 117, 101, 32, 104, 101, 97, 112, 32, 116, 97, 98, 108, 101, 32, 116, 97, 108, 108, 121]
theorem six_fields : Lib.fields six = [knm 1, knm 2, knm 3, knm 4, knm 5, knm 6] := by decide +kernel
theorem six_ascii : ∀ b ∈ six, b.toNat < 128 := by decide +kernel
theorem fields_any (w : World) (hA : As w) :
    Calls Tryd.prog 15 #[.string ⟨#[113, 117, 101, 117, 101, 32, 115, 116, 97, 99, 107, 32, 100, 101, 113, 117, 101, 32, 104, 101, 97, 112, 32, 116, 97, 98, 108, 101, 32, 116, 97, 108, 108, 121]⟩] w fun e w' => e = .returned (.slice (some ⟨w.heap.size, 0, none⟩) 6 6) ∧ Below w.heap.size w w' ∧ ∀ j : Nat, j ≤ 5 → w'.cell? ⟨w.heap.size, j, none⟩ = some (.string ⟨(knm (j + 1)).toArray⟩) := by
  refine (sh_strings_Fields_laid ⟨six.toArray⟩ w (by decide) (fun j b h => six_ascii b (List.mem_of_getElem? h)) hA).mono ?_
  rintro e w' ⟨he, hw⟩
  have e6 : Lib.fields (⟨six.toArray⟩ : ByteArray).data.toList = [knm 1, knm 2, knm 3, knm 4, knm 5, knm 6] := six_fields
  rw [e6] at he hw
  subst hw
  refine ⟨he, (Below.refl _ _).alloc (Nat.le_refl _) _, fun j hj => ?_⟩
  rw [World.cell?_alloc_new]
  obtain rfl | rfl | rfl | rfl | rfl | rfl : j = 0 ∨ j = 1 ∨ j = 2 ∨ j = 3 ∨ j = 4 ∨ j = 5 := by omega
  all_goals rfl
theorem KName_yes {j : Nat} (h : j ≤ 5) (w : World) (hA : As w) : Calls Tryd.prog 6 #[.int .i64 ((j : Int) + 1)] w fun e w' => e = .returned (.string ⟨(knm (j + 1)).toArray⟩) ∧ Below w.heap.size w w' := by
  have I : Hid _ := fun w => rwithin_yes ((j : Int) + 1) 1 6 w (by omega) (by omega)
  have A0 : Hid _ := hA
  have hj0 : (0 : Int) ≤ (j : Int) := by omega
  have hj1 : (j : Int) < 6 := by omega
  have hwr : IntKind.i64.wrap (j : Int) = (j : Int) := IntWalk.i64_in _ (by omega)
  have hwr2 : IntKind.i64.wrap ((j : Int) + 1 - 1) = (j : Int) := by rw [show (j : Int) + 1 - 1 = j by omega]; exact hwr
  have HJ : Hid (j ≤ 5) := h
  clear hA h
  go_enter Tryd.func6, Tryd.ntmps6
  go_wp2_with fail
  refine (I.out _).mono ?_
  rintro e w1 ⟨rfl, rfl⟩
  go_wp2_with fail
  refine (fields_any _ A0.out).mono ?_
  rintro e w2 ⟨rfl, hb, hc⟩
  have hcj := hc j HJ.out
  have B : Hid _ := hb
  clear hc hb
  go_wp2
  go_ret
  exact ⟨rfl, B.out⟩
end Go.Proofs.YtgkgkiheoadbfaaDoor
namespace Go.Proofs.YtgkgkiheoadbfaaDoor.Tab
set_option maxRecDepth 20000
open Go.RowKit
set_option linter.unusedVariables false

theorem thing_size0 (k : Int) : (Tryd.prog.info? 40).map (·.size) = some (tg k (.slice none 0 0) Tb.zero 0).length := by rw [tg_length]; kernel_rfl
theorem rwTg (k : Nat) : Rw Tryd.prog 40 (tg (k : Nat) (.slice none 0 0) Tb.zero 0) := ⟨⟨_, Tryd.underlying40, rfl⟩, thing_size0 _, tg_one _ rfl _ _⟩
theorem nr_cell (k : Nat) : ∀ j, j < 37 → rf (tg (k : Nat) (.slice none 0 0) Tb.zero 0) (newR k) 4 j = upv zf 0 (.int .i64 (k : Nat)) j
  | 0, _ => rfl
  | 1, _ => rfl
  | 2, _ => rfl
  | 3, _ => rfl
  | 4, _ => rfl
  | 5, _ => rfl
  | 6, _ => rfl
  | 7, _ => rfl
  | 8, _ => rfl
  | 9, _ => rfl
  | 10, _ => rfl
  | 11, _ => rfl
  | 12, _ => rfl
  | 13, _ => rfl
  | 14, _ => rfl
  | 15, _ => rfl
  | 16, _ => rfl
  | 17, _ => rfl
  | 18, _ => rfl
  | 19, _ => (congrArg (fun n : Nat => Value.int .i64 (n : Int)) (Nat.zero_div 4294967296) :)
  | 20, _ => rfl
  | 21, _ => (congrArg (fun n : Nat => Value.int .i64 (n : Int)) (Nat.zero_div 4294967296) :)
  | 22, _ => rfl
  | 23, _ => (congrArg (fun n : Nat => Value.int .i64 (n : Int)) (Nat.zero_div 4294967296) :)
  | 24, _ => rfl
  | 25, _ => (congrArg (fun n : Nat => Value.int .i64 (n : Int)) (Nat.zero_div 4294967296) :)
  | 26, _ => rfl
  | 27, _ => rfl
  | 28, _ => rfl
  | 29, _ => rfl
  | 30, _ => rfl
  | 31, _ => (congrArg (fun b : Bool => Value.int .i64 ((b.toNat : Nat) : Int)) (Nat.zero_testBit 0) :)
  | 32, _ => (congrArg (fun b : Bool => Value.int .i64 ((b.toNat : Nat) : Int)) (Nat.zero_testBit 1) :)
  | 33, _ => (congrArg (fun b : Bool => Value.int .i64 ((b.toNat : Nat) : Int)) (Nat.zero_testBit 2) :)
  | 34, _ => (congrArg (fun b : Bool => Value.int .i64 ((b.toNat : Nat) : Int)) (Nat.zero_testBit 3) :)
  | 35, _ => rfl
  | 36, _ => rfl
  | j + 37, h => absurd h (by omega)
theorem NewRec_is (k : Nat) (w : World) : Calls Tryd.prog 9 #[.int .i64 (k : Nat)] w fun e w' => e = .returned (.agg (rv (rf (tg (k : Nat) (.slice none 0 0) Tb.zero 0) (newR k) 4)).toArray) ∧ Below w.heap.size w w' := by
  have F0 : Hid (∀ j, j < 37 → (rf (tg (k : Nat) (.slice none 0 0) Tb.zero 0) (newR k) 4 j).oneCell' = true) := rf_one (tg_one _ rfl _ _) (tg_length _ _ _ _)
  rw [rv_congr (nr_cell k)]
  have F1 : Hid (∀ j, j < 37 → (upv zf 0 (.int .i64 (k : Nat)) j).oneCell' = true) := fun j hj => nr_cell k j hj ▸ F0.out j hj
  clear F0
  have hM : Hid _ := ((Ms.nil w).bornR zf_all.symm 47 (b := w.heap.size) rfl)
  go_enter Tryd.func9, Tryd.ntmps9
  go_wp2_with (first
    | (refine sR rfl (hM.out.at 0 rfl) rfl ((rwV zf_one).len (rwV F1.out)) (rwV F1.out) ?_
       replace hM := hid (hM.out.put 0 rfl (rv (upv zf 0 (.int .i64 (k : Nat)))) ((rwV zf_one).len (rwV F1.out)))
       generalize World.setCells _ _ _ _ = W at hM ⊢))
  exact bodyPost_ret (res1 Tryd.results9 (hM.out.at 0 rfl) (rwV F1.out)) rfl ⟨rfl, hM.out.below⟩
theorem wd_zero {n : Nat} {e : Ending} {w' : World} {d : Nat → Nat} (h : Wd n e w' d) (hd : wl d = wl wz) : Wd n e w' wz := by
  obtain ⟨b, h1, h2, h3⟩ := h
  exact ⟨b, h1, h2, hd ▸ h3⟩
theorem Cells0 {k : Nat} (h1 : 1 ≤ k) (h6 : k ≤ 6) (w : World) : Calls Tryd.prog 17 #[.agg (tg (k : Nat) (.slice none 0 0) Tb.zero 0).toArray] w fun e w' => Wd w.heap.size e w' wz ∧ Below w.heap.size w w' := by
  by_cases e5 : k = 5
  · subst e5
    refine (Cells_5 (.slice none 0 0) Tb.zero 0 (fun i _ => ?_) (fun i _ => ?_) w).mono fun e w' ⟨a, b⟩ => ⟨wd_zero a (wl_congr fun j _ => ?_), b⟩
    · exact ⟨Int.le_refl _, show (0 : Int) ≤ 4294967295 by decide⟩
    · exact ⟨Int.le_refl _, show (0 : Int) ≤ 4294967295 by decide⟩
    · unfold tw wz Tb.zero; split <;> (try split) <;> rfl
  by_cases e6 : k = 6
  · subst e6
    exact (Cells_6 (.slice none 0 0) Tb.zero 0 (by decide) w).mono fun e w' ⟨a, b⟩ => ⟨wd_zero a (wl_congr fun j _ => by unfold tyw wz; split <;> rfl), b⟩
  · exact (Cells_list (k := (k : Nat)) (by omega) (by omega) Tb.zero 0 (IsL.nil w.heap.size _ _ _) (by simp) (by simp)).mono fun e w' ⟨a, b⟩ => ⟨wd_zero a (wl_congr fun j _ => by unfold lw wz; split <;> simp), b⟩
theorem ne_q (j : Nat) (h : j ≤ 5) : (knm (j + 1) == [63]) = false := by
  obtain rfl | rfl | rfl | rfl | rfl | rfl : j = 0 ∨ j = 1 ∨ j = 2 ∨ j = 3 ∨ j = 4 ∨ j = 5 := by omega
  all_goals decide
end Go.Proofs.YtgkgkiheoadbfaaDoor.Tab
