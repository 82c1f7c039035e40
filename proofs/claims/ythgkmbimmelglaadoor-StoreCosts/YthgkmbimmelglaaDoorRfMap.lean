/- The reference's map of wishes: keys of two numbers; looked up, added, deleted. -/
import Derived.Test.YthgkmbimmelglaaDoorStEq
import Derived.Test.YthgkmbimmelglaaDoorRows
import Derived.ChangeKeysEq
namespace Go.Proofs.YthgkmbimmelglaaDoor
open Go.RowKit

def kv (p : Nat × Nat) : Value := .agg #[.int .i64 (p.1 : Nat), .int .i64 (p.2 : Nat)]

theorem kv_equal (p q : Nat × Nat) (w : World) : (Op.equal 70 (kv p) (kv q)).run Tryd.prog w = .ok (decide (p = q)) w := by
  have hu : Tryd.prog.underlying 70 = some (.array 2 3) := by kernel_rfl
  have he : Tryd.prog.underlying 3 = some (.int .i64) := by kernel_rfl
  have hc : Tryd.prog.cellsOf 3 = 1 := by kernel_rfl
  cases hi : Tryd.prog.info? 3 with
  | none => simp [Program.cellsOf, hi] at hc
  | some i =>
    show (Op.equalIn (9999 + 1) 70 (.agg _) (.agg _)).run Tryd.prog w = _
    rw [run_equalIn_array w 9999 _ _ hu hi, hc]
    obtain ⟨a, b⟩ := p
    obtain ⟨c, d⟩ := q
    have r2 : List.range 2 = [0, 1] := rfl
    have px : ∀ (x y : Nat) (w : World), (part 3 #[.int .i64 (x : Nat), .int .i64 (y : Nat)] (0 * 1)).run Tryd.prog w = .ok (.int .i64 (x : Nat)) w := fun x y w => by simp [part]
    have py : ∀ (x y : Nat) (w : World), (part 3 #[.int .i64 (x : Nat), .int .i64 (y : Nat)] (1 * 1)).run Tryd.prog w = .ok (.int .i64 (y : Nat)) w := fun x y w => by simp [part]
    have pe : ∀ (x y : Int) (w : World), (Op.equalIn 9999 3 (.int .i64 x) (.int .i64 y)).run Tryd.prog w = .ok (x == y) w := fun x y w => run_equalIn_int w 9998 3 .i64 .i64 x y he
    rw [r2]
    simp only [Op.eqItems, Sem.run_bind, px, pe, Result.andThen_ok]
    by_cases h1 : a = c
    · by_cases h2 : b = d
      · simp [h1, h2, py, pe]
      · have hne : ¬ ((b : Int) = (d : Int)) := by omega
        simp [h1, h2, py, pe, hne]
    · have hne : ¬ ((a : Int) = (c : Int)) := by omega
      simp [h1, hne]

theorem int_check (em : Bool) (n : Nat) (x : Int) (w : World) : (Instr.checkKey em (n + 1) 3 (.int .i64 x)).run Tryd.prog w = .ok () w := by
  simp [Instr.checkKey]
theorem two_check (em : Bool) (n : Nat) (p : Nat × Nat) (w : World) : (Instr.checkKey em (n + 1 + 1) 70 (kv p)).run Tryd.prog w = .ok () w := by
  have hu : Tryd.prog.underlying 70 = some (.array 2 3) := by kernel_rfl
  rw [Instr.checkKey]
  simp only [kv, Sem.run_bind, run_underlying hu, Result.andThen_ok]
  simp [part, Std.Legacy.Range.forIn_eq_forIn_range', Std.Legacy.Range.size, List.range'_succ, int_check]
theorem kv_check (em : Bool) (p : Nat × Nat) (w : World) : (Instr.checkKey em 10000 70 (kv p)).run Tryd.prog w = .ok () w := two_check em 9998 p w

def fnd (p : Nat × Nat) : List (Nat × Nat) → Option Nat
  | [] => none
  | k :: ks => if p = k then some 0 else (fnd p ks).map (· + 1)

theorem fnd_none {p : Nat × Nat} : ∀ {ks : List (Nat × Nat)}, fnd p ks = none → p ∉ ks
  | [], _ => by simp
  | k :: ks, h => by
    unfold fnd at h
    by_cases e : p = k
    · simp [e] at h
    · simp [e] at h
      simp [e, fnd_none h]
theorem fnd_some {p : Nat × Nat} : ∀ {ks : List (Nat × Nat)} {j : Nat}, fnd p ks = some j → ks[j]? = some p
  | [], _, h => by simp [fnd] at h
  | k :: ks, j, h => by
    unfold fnd at h
    by_cases e : p = k
    · simp [e] at h; subst h; simp [e]
    · simp [e] at h
      obtain ⟨i, hi, rfl⟩ := h
      simpa using fnd_some hi

theorem run_find (p : Nat × Nat) (w : World) : ∀ (es : List MapEntry) (ks : List (Nat × Nat)) (i : Nat), es.map (·.key) = ks.map kv → (∀ e ∈ es, e.val = .bool true) →
    (Instr.findAsking 70 (kv p) es i).run Tryd.prog w = .ok ((fnd p ks).map fun j => (i + j, .bool true)) w
  | [], [], _, _, _ => by simp [Instr.findAsking, fnd]
  | [], _ :: _, _, h, _ => by simp at h
  | _ :: _, [], _, h, _ => by simp at h
  | e :: es, k :: ks, i, h, hv => by
    simp only [List.map_cons, List.cons.injEq] at h
    have ih := run_find p w es ks (i + 1) h.2 (fun x hx => hv x (by simp [hx]))
    simp only [Instr.findAsking, Sem.run_bind, h.1, kv_equal, Result.andThen_ok, fnd]
    by_cases e1 : p = k
    · simp [e1, hv e (by simp)]
    · simp only [e1, decide_false, Bool.false_eq_true, if_false, ih, Option.map_map]
      congr 2
      funext j
      simp
      omega

structure MapIs (es : Array MapEntry) (ks : List (Nat × Nat)) : Prop where
  keys : es.toList.map (·.key) = ks.map kv
  vals : ∀ e ∈ es.toList, e.val = .bool true

theorem run_key {es : Array MapEntry} {ks : List (Nat × Nat)} (h : MapIs es ks) (p : Nat × Nat) (w : World) :
    (Instr.findKey 70 (kv p) es.toList).run Tryd.prog w = .ok ((fnd p ks).map fun j => (j, .bool true)) w := by
  have hf := run_find p w es.toList ks 0 h.keys h.vals
  simp only [Nat.zero_add] at hf
  obtain ⟨l⟩ := es
  cases l with
  | nil =>
    have : ks = [] := by simpa using h.keys
    subst this
    simp [Instr.findKey, Instr.findNow, fnd]
  | cons e r =>
    have hn : Instr.findNow (.array 2 3) (kv p) (e :: r) 0 = none := by simp [Instr.findNow, Instr.sameNow]
    simp only at hf
    simp [Instr.findKey, hn, hf]

/-- The map in block m holds the wishes f. -/
def Wants (w : World) (m : Nat) (f : Nat → Bool) : Prop :=
  ∃ (es : Array MapEntry) (clk : Nat) (ks : List (Nat × Nat)), w.heap[m]? = some (.map es clk) ∧ MapIs es ks ∧ ks.Nodup ∧ ∀ t l, t < 4 → l < 9 → ((t, l) ∈ ks ↔ f (9 * t + l) = true)

/-- w with another map in block m. -/
def setM (w : World) (m : Nat) (o : Obj) : World := { w with heap := w.heap.setIfInBounds m o }
theorem setM_same {w : World} {m : Nat} {o o' : Obj} (h : w.heap[m]? = some o') : (setM w m o).heap[m]? = some o := by
  have : m < w.heap.size := (Array.getElem?_eq_some_iff.1 h).1
  simp [setM, this]
theorem setM_other (w : World) {m n : Nat} (o : Obj) (h : n ≠ m) : (setM w m o).heap[n]? = w.heap[n]? := by
  simp [setM, Ne.symm h]

theorem map_desc : Tryd.prog.underlying 31 = some (.map 70 4) := by kernel_rfl

theorem Wants.look {w : World} {m : Nat} {f : Nat → Bool} (h : Wants w m f) (t l : Nat) (ht : t < 4) (hl : l < 9) :
    (Instr.lookup 31 (.map (some m)) (.agg #[.int .i64 (t : Nat), .int .i64 (l : Nat)]) false).run Tryd.prog w = .ok (.bool (f (9 * t + l))) w := by
  obtain ⟨es, clk, ks, hm, hi, _, hf⟩ := h
  have hk := run_key hi (t, l) w
  have hc := kv_check es.isEmpty (t, l) w
  simp only [kv] at hk hc
  simp only [Instr.lookup, Sem.run_bind, run_underlying map_desc, Result.andThen_ok]
  have hg : (getObj m).run Tryd.prog w = .ok (.map es clk) w := by simp [getObj, Sem.run, hm]
  simp only [hg, Result.andThen_ok]
  cases hj : fnd (t, l) ks with
  | none =>
    have : f (9 * t + l) = false := by
      have := fnd_none hj
      rw [hf t l ht hl] at this
      simpa using this
    simp [hc, hk, hj, this]
  | some j =>
    have : f (9 * t + l) = true := (hf t l ht hl).1 (List.mem_of_getElem? (fnd_some hj))
    simp [hc, hk, hj, this]

theorem get_map {w : World} {m : Nat} {es : Array MapEntry} {clk : Nat} (hm : w.heap[m]? = some (.map es clk)) : (getObj m).run Tryd.prog w = .ok (.map es clk) w := by simp [getObj, Sem.run, hm]
theorem set_map {w : World} {m : Nat} {es : Array MapEntry} {clk : Nat} (hm : w.heap[m]? = some (.map es clk)) (o : Obj) : (setObj m o).run Tryd.prog w = .ok () (setM w m o) := by
  simp [setObj, Sem.run, hm, setM]

theorem same_kv (p : Nat × Nat) : Instr.sameBits 10000 (kv p) (kv p) = true := by
  rw [show (10000 : Nat) = 9999 + 1 from rfl, kv, Instr.sameBits]
  simp [Instr.sameBits]

theorem MapIs.at {es : Array MapEntry} {ks : List (Nat × Nat)} (h : MapIs es ks) {j : Nat} {p : Nat × Nat} (hj : ks[j]? = some p) : ∃ e, es[j]? = some e ∧ e.key = kv p := by
  have := congrArg (·[j]?) h.keys
  simp only [List.getElem?_map, hj, Option.map_some] at this
  rw [Option.map_eq_some_iff] at this
  obtain ⟨e, h1, h2⟩ := this
  exact ⟨e, by simpa using h1, h2⟩

theorem Wants.update {w : World} {m : Nat} {f : Nat → Bool} (h : Wants w m f) (t l : Nat) (ht : t < 4) (hl : l < 9) : ∃ o : Obj, (∃ es c, o = .map es c) ∧
    (Instr.mapUpdate 31 (.map (some m)) (.agg #[.int .i64 (t : Nat), .int .i64 (l : Nat)]) (.bool true)).run Tryd.prog w = .ok () (setM w m o) ∧
    Wants (setM w m o) m (fun i => if i = 9 * t + l then true else f i) := by
  obtain ⟨es, clk, ks, hm, hi, hnd, hf⟩ := h
  have hk := run_key hi (t, l) w
  have hc := kv_check false (t, l) w
  have hs := same_kv (t, l)
  have inj : ∀ a b, a < 4 → b < 9 → (9 * a + b = 9 * t + l ↔ (a, b) = (t, l)) := fun a b ha hb => by
    simp only [Prod.mk.injEq]; omega
  cases hj : fnd (t, l) ks with
  | none =>
    refine ⟨.map (es.push { key := kv (t, l), val := .bool true, born := clk }) (clk + 1), ⟨_, _, rfl⟩, ?_, _, _, ks ++ [(t, l)], setM_same hm, ⟨?_, ?_⟩, ?_, ?_⟩
    · simp only [kv] at hk hc
      simp only [Instr.mapUpdate, Sem.run_bind, run_underlying map_desc, Result.andThen_ok, get_map hm]
      simp [hc, hk, hj, set_map hm, kv]
    · simp [hi.keys]
    · intro e he
      simp only [Array.toList_push, List.mem_append, List.mem_singleton] at he
      rcases he with he | rfl
      · exact hi.vals e he
      · rfl
    · rw [List.nodup_append]
      refine ⟨hnd, by simp, fun a ha b hb => ?_⟩
      simp only [List.mem_singleton] at hb
      subst hb
      intro e; subst e
      exact fnd_none hj ha
    · intro a b ha hb
      simp only [List.mem_append, List.mem_singleton, hf a b ha hb, ← inj a b ha hb]
      by_cases e : 9 * a + b = 9 * t + l <;> simp [e]
  | some j =>
    have hp := fnd_some hj
    obtain ⟨e0, he0, hk0⟩ := hi.at hp
    refine ⟨.map (es.modify j fun e => { e with key := kv (t, l), val := .bool true }) clk, ⟨_, _, rfl⟩, ?_, _, _, ks, setM_same hm, ⟨?_, ?_⟩, hnd, ?_⟩
    · have hst : (Instr.keyThatStays (kv (t, l)) (kv (t, l))).run Tryd.prog w = .ok (kv (t, l)) w := by simp [Instr.keyThatStays, hs]
      rw [← hk0] at hst
      simp only [kv] at hk hc
      simp only [Instr.mapUpdate, Sem.run_bind, run_underlying map_desc, Result.andThen_ok, get_map hm]
      rw [hk0] at hst
      simp only [kv] at hst hk0
      simp [hc, hk, hj, he0, hk0, hst, set_map hm, kv]
    · rw [← hi.keys]
      apply List.ext_getElem?
      intro i
      simp only [List.getElem?_map, Array.getElem?_toList, Array.getElem?_modify]
      by_cases e : j = i
      · subst e; simp [he0, hk0]
      · simp [e]
    · intro e he
      simp only [Array.mem_toList_iff, Array.mem_iff_getElem?] at he
      obtain ⟨i, hi'⟩ := he
      rw [Array.getElem?_modify] at hi'
      by_cases e1 : j = i
      · subst e1; simp [he0] at hi'; rw [← hi']
      · simp [e1] at hi'
        exact hi.vals e (by simpa using Array.mem_of_getElem? hi')
    · intro a b ha hb
      rw [hf a b ha hb]
      by_cases e : 9 * a + b = 9 * t + l
      · have : (a, b) = (t, l) := (inj a b ha hb).1 e
        simp only [e, if_true, iff_true]
        exact (hf t l ht hl).1 (List.mem_of_getElem? hp)
      · simp [e]

theorem map_erase {α β : Type} (f : α → β) : ∀ (l : List α) (j : Nat), (l.eraseIdx j).map f = (l.map f).eraseIdx j
  | [], _ => rfl
  | _ :: _, 0 => rfl
  | a :: l, j + 1 => by simp [map_erase f l j]

theorem Wants.del {w : World} {m : Nat} {f : Nat → Bool} (h : Wants w m f) (t l : Nat) (ht : t < 4) (hl : l < 9) : ∃ o : Obj, (∃ es c, o = .map es c) ∧
    (∀ ty, (Builtin.delete_ #[31, 70] ty #[.map (some m), .agg #[.int .i64 (t : Nat), .int .i64 (l : Nat)]]).run Tryd.prog w = .ok (.tuple #[]) (setM w m o)) ∧
    Wants (setM w m o) m (fun i => if i = 9 * t + l then false else f i) := by
  obtain ⟨es, clk, ks, hm, hi, hnd, hf⟩ := h
  have hk := run_key hi (t, l) w
  have hc := kv_check es.isEmpty (t, l) w
  have inj : ∀ a b, a < 4 → b < 9 → (9 * a + b = 9 * t + l ↔ (a, b) = (t, l)) := fun a b ha hb => by
    simp only [Prod.mk.injEq]; omega
  cases hj : fnd (t, l) ks with
  | none =>
    refine ⟨.map es clk, ⟨_, _, rfl⟩, ?_, _, _, ks, setM_same hm, hi, hnd, ?_⟩
    · intro ty
      simp only [kv] at hk hc
      simp [Builtin.delete_, run_underlying map_desc, get_map hm, hc, hk, hj, set_map hm]
    · intro a b ha hb
      rw [hf a b ha hb]
      by_cases e : 9 * a + b = 9 * t + l
      · have : (a, b) = (t, l) := (inj a b ha hb).1 e
        have hn := fnd_none hj
        rw [hf t l ht hl] at hn
        simp only [e, if_true]
        simpa using hn
      · simp [e]
  | some j =>
    have hp := fnd_some hj
    have hjk : j < ks.length := (List.getElem?_eq_some_iff.1 hp).1
    refine ⟨.map (es.eraseIdxIfInBounds j) clk, ⟨_, _, rfl⟩, ?_, _, _, ks.eraseIdx j, setM_same hm, ⟨?_, ?_⟩, hnd.eraseIdx j, ?_⟩
    · intro ty
      simp only [kv] at hk hc
      simp [Builtin.delete_, run_underlying map_desc, get_map hm, hc, hk, hj, set_map hm]
    · have hsz : j < es.size := by
        obtain ⟨e0, he0, _⟩ := hi.at hp
        exact (Array.getElem?_eq_some_iff.1 he0).1
      simp only [Array.eraseIdxIfInBounds, hsz, dite_true, Array.toList_eraseIdx]
      rw [map_erase, map_erase, hi.keys]
    · intro e he
      have hsz : j < es.size := by
        obtain ⟨e0, he0, _⟩ := hi.at hp
        exact (Array.getElem?_eq_some_iff.1 he0).1
      simp only [Array.eraseIdxIfInBounds, hsz, dite_true, Array.toList_eraseIdx] at he
      exact hi.vals e (List.mem_of_mem_eraseIdx he)
    · intro a b ha hb
      rw [List.mem_eraseIdx_iff_getElem?]
      by_cases e : 9 * a + b = 9 * t + l
      · have hab : (a, b) = (t, l) := (inj a b ha hb).1 e
        simp only [e, if_true, Bool.false_eq_true, iff_false, hab]
        rintro ⟨i, hne, hi'⟩
        exact hne ((List.getElem?_inj (List.getElem?_eq_some_iff.1 hi').1 hnd).1 (hi'.trans hp.symm))
      · have hab : ¬ ((a, b) = (t, l)) := fun h => e ((inj a b ha hb).2 h)
        simp only [e, if_false]
        rw [← hf a b ha hb, List.mem_iff_getElem?]
        constructor
        · rintro ⟨i, _, h⟩; exact ⟨i, h⟩
        · rintro ⟨i, h⟩
          exact ⟨i, fun hij => by subst hij; rw [hp] at h; exact hab (Option.some.inj h).symm, h⟩
end Go.Proofs.YthgkmbimmelglaaDoor
