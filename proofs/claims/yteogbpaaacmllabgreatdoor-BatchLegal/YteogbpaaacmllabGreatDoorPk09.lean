/- Texts laid together: Histories as functions from numbers; their calls, and what of them is open (no program); A map whose keys are ints, and a row of calls of the call's own, as they lie; Which call has which deed: those that were answered, those that are open; in what order (no program); how it lies; Which open call has which deed (no program); a map of calls, as it lies; Package judge: giveAnswered, by its contracts. -/
import Derived.Test.YteogbpaaacmllabGreatDoorPk03
import Derived.Test.YteogbpaaacmllabGreatDoorPk02
import Derived.Test.YteogbpaaacmllabGreatDoorPk00
import Derived.Maps.Own
import Derived.Maps.OwnSet
import Derived.Maps.Views
import Derived.Maps.OwnOps
import Derived.Test.YteogbpaaacmllabGreatDoorPk07
import Derived.Deep.DeepCutAuto
import Derived.Deep.RegionHeld3
namespace Go.Proofs.YteogbpaaacmllabGreatDoor.Tab
set_option maxRecDepth 20000
open Go.RowKit
set_option linter.unusedVariables false

/-- An event. -/
structure EV where
  kd : Int
  th : Int
  o : Int
  k : Int
  x : Int
  c : Int
  y : Int
  wh : Int
  st : Int
def el (kd th o k x c y wh st : Int) : List Value := [.int .i64 kd, .int .i64 th, .int .i64 o, .int .i64 k, .int .i64 x, .int .i64 c, .int .i64 y, .int .i64 wh, .int .i64 st]
def EV.row (e : EV) : List Value := el e.kd e.th e.o e.k e.x e.c e.y e.wh e.st
def EV.op (e : EV) : Int × Int × Int := (e.o, e.k, e.x)
def DD.op (d : DD) : Int × Int × Int := (d.o, d.k, d.x)

/-- A call: the number of the event that asked, and that of the event that answered, if any. -/
abbrev CC := Nat × Option Nat
/-- The first open call of a thread. -/
def opn (h : Nat → EV) (cs : List CC) (t : Int) : Option Nat := cs.findIdx? fun c => decide ((h c.1).th = t) && c.2.isNone
def cg (cs : List CC) (k : Nat) : CC := cs.getD k (0, none)
/-- One event more. -/
def stepC (h : Nat → EV) (i : Nat) (cs : List CC) : Option (List CC) :=
  if (h i).kd = 3 then some cs
  else match opn h cs (h i).th with
    | none => if (h i).kd = 1 then some (cs ++ [(i, none)]) else none
    | some k => if (h i).kd = 2 ∧ (h i).op = (h (cg cs k).1).op then some (cs.set k ((cg cs k).1, some i)) else none
def callsF (h : Nat → EV) : Nat → Option (List CC)
  | 0 => some []
  | i + 1 => (callsF h i).bind (stepC h i)
theorem calls_first (h : Nat → EV) : ∀ n, (∃ cs, callsF h n = some cs) ∨ ∃ m cs, m < n ∧ callsF h m = some cs ∧ stepC h m cs = none
  | 0 => Or.inl ⟨[], rfl⟩
  | n + 1 => by
    rcases calls_first h n with ⟨cs, e⟩ | ⟨m, cs, hm, e⟩
    · cases e2 : stepC h n cs with
      | none => exact Or.inr ⟨n, cs, Nat.lt_succ_self _, e, e2⟩
      | some ds => exact Or.inl ⟨ds, by show (callsF h n).bind _ = _; rw [e]; exact e2⟩
    · exact Or.inr ⟨m, cs, Nat.lt_succ_of_lt hm, e⟩
theorem callsF_le {h : Nat → EV} {n : Nat} {cs : List CC} (e : callsF h n = some cs) : ∀ m, m ≤ n → ∃ ds, callsF h m = some ds := by
  induction n generalizing cs with
  | zero => intro m hm; obtain rfl : m = 0 := (by omega); exact ⟨_, e⟩
  | succ n ih =>
    intro m hm
    by_cases hm2 : m = n + 1
    · subst hm2; exact ⟨_, e⟩
    · cases e2 : callsF h n with
      | none => have : (callsF h n).bind (stepC h n) = some cs := e; rw [e2] at this; cases this
      | some ds => exact ih e2 m (by omega)

/-- What is so of a history's calls. -/
structure GC (h : Nat → EV) (n : Nat) (cs : List CC) : Prop where
  lt : ∀ c ∈ cs, c.1 < n ∧ ∀ z, c.2 = some z → z < n
  un : ∀ (j j' : Nat) (c c' : CC), cs[j]? = some c → cs[j']? = some c' → c.2 = none → c'.2 = none → (h c.1).th = (h c'.1).th → j = j'
  len : cs.length ≤ n
theorem opn_hit {h : Nat → EV} {cs : List CC} {t : Int} {k : Nat} (e : opn h cs t = some k) : ∃ a, cs[k]? = some (a, none) ∧ (h a).th = t := by
  unfold opn at e
  rw [List.findIdx?_eq_some_iff_getElem] at e
  obtain ⟨hk, hp, _⟩ := e
  obtain ⟨⟨a, z⟩, hc⟩ : ∃ c, cs[k] = c := ⟨_, rfl⟩
  rw [hc] at hp
  simp only [Bool.and_eq_true, decide_eq_true_eq, Option.isNone_iff_eq_none] at hp
  obtain ⟨h1, rfl⟩ := hp
  exact ⟨a, by rw [List.getElem?_eq_getElem hk, hc], h1⟩
theorem opn_none {h : Nat → EV} {cs : List CC} {t : Int} (e : opn h cs t = none) : ∀ (j a : Nat), cs[j]? = some (a, none) → (h a).th ≠ t := by
  unfold opn at e
  rw [List.findIdx?_eq_none_iff] at e
  intro j a hj ht
  have := e _ (List.mem_of_getElem? hj)
  simp [ht] at this
theorem opn_of {h : Nat → EV} {n : Nat} {cs : List CC} (g : GC h n cs) {t : Int} {k a : Nat} (hk : cs[k]? = some (a, none)) (ht : (h a).th = t) : opn h cs t = some k := by
  cases e : opn h cs t with
  | none => exact absurd ht (opn_none e k a hk)
  | some j =>
    obtain ⟨b, hj, hb⟩ := opn_hit e
    rw [g.un j k _ _ hj hk rfl rfl (by show (h b).th = (h a).th; rw [hb, ht])]
theorem cg_of {cs : List CC} {k : Nat} {c : CC} (h : cs[k]? = some c) : cg cs k = c := by unfold cg; rw [List.getD_eq_getElem?_getD, h]; rfl
theorem GC.nil (h : Nat → EV) : GC h 0 [] := ⟨fun c hc => (by cases hc), fun j j' c c' hj => (by simp at hj), Nat.le_refl _⟩
theorem GC.more {h : Nat → EV} {n : Nat} {cs : List CC} (g : GC h n cs) : GC h (n + 1) cs :=
  ⟨fun c hc => ⟨Nat.lt_succ_of_lt (g.lt c hc).1, fun z hz => Nat.lt_succ_of_lt ((g.lt c hc).2 z hz)⟩, g.un, Nat.le_succ_of_le g.len⟩
theorem GC.ask {h : Nat → EV} {n : Nat} {cs : List CC} (g : GC h n cs) (e : opn h cs (h n).th = none) : GC h (n + 1) (cs ++ [(n, none)]) := by
  refine ⟨fun c hc => ?_, fun j j' c c' hj hj' hz hz' ht => ?_, by rw [List.length_append]; have := g.len; simp; omega⟩
  · rcases List.mem_append.1 hc with hc | hc
    · exact (g.more).lt c hc
    · rw [List.mem_singleton] at hc; subst hc; exact ⟨Nat.lt_succ_self _, fun z hz => by cases hz⟩
  · have cut : ∀ {j : Nat} {c : CC}, (cs ++ [(n, none)])[j]? = some c → cs[j]? = some c ∨ (j = cs.length ∧ c = (n, none)) := by
      intro j c hj
      rcases Nat.lt_trichotomy j cs.length with hl | hl | hl
      · rw [List.getElem?_append_left hl] at hj; exact Or.inl hj
      · subst hl; simp at hj; exact Or.inr ⟨rfl, hj.symm⟩
      · rw [List.getElem?_eq_none (by simp; omega)] at hj; cases hj
    rcases cut hj with h1 | ⟨h1, rfl⟩
    · rcases cut hj' with h2 | ⟨h2, rfl⟩
      · exact g.un j j' c c' h1 h2 hz hz' ht
      · obtain ⟨a, z⟩ := c
        simp only at hz; subst hz
        exact absurd ht (opn_none e j a h1)
    · rcases cut hj' with h2 | ⟨h2, rfl⟩
      · obtain ⟨a, z⟩ := c'
        simp only at hz'; subst hz'
        exact absurd ht.symm (opn_none e j' a h2)
      · omega
theorem GC.answer {h : Nat → EV} {n : Nat} {cs : List CC} (g : GC h n cs) {k : Nat} (e : opn h cs (h n).th = some k) : GC h (n + 1) (cs.set k ((cg cs k).1, some n)) := by
  obtain ⟨a, hk, ha⟩ := opn_hit e
  rw [cg_of hk]
  refine ⟨fun c hc => ?_, fun j j' c c' hj hj' hz hz' ht => ?_, by rw [List.length_set]; have := g.len; omega⟩
  · obtain ⟨j, hj⟩ := List.getElem?_of_mem hc
    rw [List.getElem?_set] at hj
    split at hj
    · split at hj
      · injection hj with hj; subst hj
        exact ⟨Nat.lt_succ_of_lt (g.lt _ (List.mem_of_getElem? hk)).1, fun z hz => by injection hz with hz; omega⟩
      · cases hj
    · exact (g.more).lt c (List.mem_of_getElem? hj)
  · rw [List.getElem?_set] at hj hj'
    split at hj
    · split at hj
      · injection hj with hj; subst hj; cases hz
      · cases hj
    · split at hj'
      · split at hj'
        · injection hj' with hj'; subst hj'; cases hz'
        · cases hj'
      · exact g.un j j' c c' hj hj' hz hz' ht
theorem GC.step {h : Nat → EV} {n : Nat} {cs ds : List CC} (g : GC h n cs) (e : stepC h n cs = some ds) : GC h (n + 1) ds := by
  unfold stepC at e
  split at e
  · injection e with e; subst e; exact g.more
  · split at e
    · rename_i e2
      split at e
      · injection e with e; subst e; exact g.ask e2
      · cases e
    · rename_i k e2
      split at e
      · injection e with e; subst e; exact g.answer e2
      · cases e
theorem GC.of {h : Nat → EV} : ∀ {n : Nat} {cs : List CC}, callsF h n = some cs → GC h n cs
  | 0, cs, e => by injection e with e; subst e; exact GC.nil h
  | n + 1, cs, e => by
    have e' : (callsF h n).bind (stepC h n) = some cs := e
    cases e2 : callsF h n with
    | none => rw [e2] at e'; cases e'
    | some ds => rw [e2] at e'; exact (GC.of e2).step e'
/-- Who is open behind a call. -/
theorem opn_ask {h : Nat → EV} {n : Nat} {cs : List CC} (g : GC h n cs) (e : opn h cs (h n).th = none) (t : Int) :
    opn h (cs ++ [(n, none)]) t = if t = (h n).th then some cs.length else opn h cs t := by
  have g' := g.ask e
  by_cases ht : t = (h n).th
  · rw [if_pos ht]; exact opn_of g' (by simp) ht.symm
  · rw [if_neg ht]
    cases e2 : opn h cs t with
    | some k =>
      obtain ⟨a, hk, ha⟩ := opn_hit e2
      exact opn_of g' (by rw [List.getElem?_append_left (List.getElem?_eq_some_iff.1 hk).1]; exact hk) ha
    | none =>
      cases e3 : opn h (cs ++ [(n, none)]) t with
      | none => rfl
      | some k =>
        obtain ⟨a, hk, ha⟩ := opn_hit e3
        rcases Nat.lt_trichotomy k cs.length with hl | hl | hl
        · rw [List.getElem?_append_left hl] at hk; exact absurd ha (opn_none e2 k a hk)
        · subst hl; simp at hk; subst hk; exact absurd ha.symm ht
        · rw [List.getElem?_eq_none (by simp; omega)] at hk; cases hk
/-- Who is open behind an answer. -/
theorem opn_answer {h : Nat → EV} {n : Nat} {cs : List CC} (g : GC h n cs) {k : Nat} (e : opn h cs (h n).th = some k) (t : Int) :
    opn h (cs.set k ((cg cs k).1, some n)) t = if t = (h n).th then none else opn h cs t := by
  have g' := g.answer e
  obtain ⟨a, hk, ha⟩ := opn_hit e
  rw [cg_of hk] at g' ⊢
  have off : ∀ {j : Nat} {b : Nat}, (cs.set k (a, some n))[j]? = some (b, none) → j ≠ k ∧ cs[j]? = some (b, none) := by
    intro j b hj
    rw [List.getElem?_set] at hj
    split at hj
    · split at hj
      · injection hj with hj; injection hj with _ hj; cases hj
      · cases hj
    · rename_i hne; exact ⟨fun h => hne h.symm, hj⟩
  by_cases ht : t = (h n).th
  · rw [if_pos ht]
    cases e3 : opn h (cs.set k (a, some n)) t with
    | none => rfl
    | some j =>
      obtain ⟨b, hj, hb⟩ := opn_hit e3
      obtain ⟨h1, h2⟩ := off hj
      exact absurd (g.un j k _ _ h2 hk rfl rfl (by show (h b).th = (h a).th; rw [hb, ha, ht])) h1
  · rw [if_neg ht]
    cases e2 : opn h cs t with
    | some j =>
      obtain ⟨b, hj, hb⟩ := opn_hit e2
      have hne : k ≠ j := fun h => by subst h; rw [hk] at hj; injection hj with hj; injection hj with hj _; subst hj; exact ht (hb.symm.trans ha)
      exact opn_of g' (by rw [List.getElem?_set_ne hne]; exact hj) hb
    | none =>
      cases e3 : opn h (cs.set k (a, some n)) t with
      | none => rfl
      | some j =>
        obtain ⟨b, hj, hb⟩ := opn_hit e3
        exact absurd hb (opn_none e2 j b (off hj).2)
/-- What a step is. -/
theorem stepC_some {h : Nat → EV} {i : Nat} {cs ds : List CC} (e : stepC h i cs = some ds) :
    ((h i).kd = 3 ∧ ds = cs) ∨ ((h i).kd = 1 ∧ opn h cs (h i).th = none ∧ ds = cs ++ [(i, none)]) ∨
    ∃ k a, (h i).kd = 2 ∧ opn h cs (h i).th = some k ∧ cs[k]? = some (a, none) ∧ (h i).op = (h a).op ∧ ds = cs.set k (a, some i) := by
  unfold stepC at e
  split at e
  · rename_i h3; injection e with e; exact Or.inl ⟨h3, e.symm⟩
  · split at e
    · rename_i e2
      split at e
      · rename_i h1; injection e with e; exact Or.inr (Or.inl ⟨h1, e2, e.symm⟩)
      · cases e
    · rename_i k e2
      split at e
      · rename_i h2
        injection e with e
        obtain ⟨a, hk, _⟩ := opn_hit e2
        have hc := cg_of hk
        rw [hc] at e h2
        exact Or.inr (Or.inr ⟨k, a, h2.1, e2, hk, h2.2, e.symm⟩)
      · cases e
/-- What no step is. -/
theorem stepC_none {h : Nat → EV} {i : Nat} {cs : List CC} (e : stepC h i cs = none) :
    (h i).kd ≠ 3 ∧ ((opn h cs (h i).th = none ∧ (h i).kd ≠ 1) ∨ ∃ k a, opn h cs (h i).th = some k ∧ cs[k]? = some (a, none) ∧ ((h i).kd ≠ 2 ∨ (h i).op ≠ (h a).op)) := by
  unfold stepC at e
  split at e
  · cases e
  · rename_i h3
    refine ⟨h3, ?_⟩
    split at e
    · rename_i e2
      split at e
      · cases e
      · rename_i h1; exact Or.inl ⟨e2, h1⟩
    · rename_i k e2
      split at e
      · cases e
      · rename_i h2
        obtain ⟨a, hk, _⟩ := opn_hit e2
        rw [cg_of hk] at h2
        refine Or.inr ⟨k, a, e2, hk, ?_⟩
        by_cases h4 : (h i).kd = 2
        · exact Or.inr fun h5 => h2 ⟨h4, h5⟩
        · exact Or.inl h4
theorem callsF_next {h : Nat → EV} {n i : Nat} {cs fin : List CC} (e : callsF h n = some fin) (hi : i < n) (ei : callsF h i = some cs) : ∃ ds, stepC h i cs = some ds ∧ callsF h (i + 1) = some ds := by
  obtain ⟨ds, hd⟩ := callsF_le e (i + 1) hi
  have : (callsF h i).bind (stepC h i) = some ds := hd
  rw [ei] at this
  exact ⟨ds, this, hd⟩
/-- n events lie in the slice v. -/
def Ev (w : World) (v : Value) (n : Nat) (h : Nat → EV) : Prop :=
  (n = 0 ∧ ∃ (a : Option Addr) (c : Nat), v = .slice a 0 c ∧ (a = none → c = 0)) ∨
  ∃ (b off c : Nat), v = .slice (some ⟨b, off, none⟩) n c ∧ 0 < n ∧ n ≤ c ∧ n ≤ 9223372036854775807 ∧ ∀ i, i < n → w.rangeAt b (off + i * 9) (h i).row ∧ (Lit.int .i64 (h i).th).wf = true
theorem Ev.later {w w' : World} {v : Value} {n : Nat} {h : Nat → EV} (E : Ev w v n h) (hb : Below w.heap.size w w') : Ev w' v n h := by
  rcases E with E | ⟨b, off, c, h1, h2, h3, h4, h5⟩
  · exact Or.inl E
  · exact Or.inr ⟨b, off, c, h1, h2, h3, h4, fun i hi => ⟨fun j v hv => by
      have := (h5 i hi).1 j v hv
      rw [hb.cell (World.block_lt_of_cell? w _ this)]; exact this, (h5 i hi).2⟩⟩
theorem Ev.all {w : World} {b off c n : Nat} {h : Nat → EV} (E : Ev w (.slice (some ⟨b, off, none⟩) n c) n h) : ∀ w', Below w.heap.size w w' → ∀ i, i < n → w'.rangeAt b (off + i * 9) (h i).row ∧ (Lit.int .i64 (h i).th).wf = true := by
  intro w' hb i hi
  rcases E.later hb with ⟨h, _⟩ | ⟨b2, off2, c2, hv2, _, _, _, hh⟩
  · omega
  · injection hv2 with e1 _ _
    injection e1 with e1
    injection e1 with e1 e2
    subst e1 e2
    exact hh i hi
end Go.Proofs.YteogbpaaacmllabGreatDoor.Tab
namespace Go.Proofs.YteogbpaaacmllabGreatDoor.Tab
set_option maxRecDepth 20000
open Go.RowKit Go.Maps
set_option linter.unusedVariables false

def Hv (v : Value) : Option (DataW Value × List MemPlace) := some (.held v, [])
/-- The map m holds what f tells, of up to n stores. -/
def Imp (W : World) (m n : Nat) (f : Int → Option Value) : Prop :=
  ∃ D : DataW Value, W.ownsMap Tryz.prog 3 Hv m n D ∧ (∀ t, Maps.has D (.int .i64 t) = (f t).isSome) ∧ ∀ t v z, f t = some v → D.atKey (.int .i64 t) z = .held v
theorem int_desc' : Tryz.prog.underlying 3 = some (.int .i64) := by kernel_rfl
section
variable {W W' : World} {m n : Nat} {f : Int → Option Value}
theorem Imp.made (w : World) : Imp (w.alloc (.map #[] 0)) w.heap.size 0 (fun _ => none) := ⟨.map [], World.ownsMap_made _ _ _ _, fun _ => rfl, fun _ _ _ h => (by cases h)⟩
theorem Imp.keep (h : Imp W m n f) (hb : W'.heap[m]? = W.heap[m]?) : Imp W' m n f := by
  obtain ⟨D, ⟨es, clk, h1, h2⟩, h3⟩ := h
  exact ⟨D, ⟨es, clk, by rw [hb]; exact h1, h2⟩, h3⟩
theorem Imp.lt (h : Imp W m n f) : m < W.heap.size := by obtain ⟨D, h1, _⟩ := h; exact World.ownsMap.lt h1
theorem Imp.later (h : Imp W m n f) (hb : Below W.heap.size W W') : Imp W' m n f := h.keep (hb.block m h.lt)
theorem Imp.laterA (h : Imp W m n f) {B : Nat} (hb : Below B W W') (hm : m < B) : Imp W' m n f := h.keep (hb.block m hm)
theorem Imp.new (h : Imp W m n f) (o : Obj) : Imp (W.alloc o) m n f := h.later (new_below W o)
theorem Imp.drew (h : Imp W m n f) : Imp W.drew m n f := h
theorem Imp.aside1 (h : Imp W m n f) {c j : Nat} (hc : m ≠ c) (v : Value) : Imp (W.setCell ⟨c, j, none⟩ v) m n f := h.keep (Below.heap_setCell _ _ _ _ hc)
theorem Imp.asideL (h : Imp W m n f) {c : Nat} (hc : m ≠ c) (o : Nat) (vs : List Value) : Imp (W.setCells c o vs) m n f := h.keep (heap_setCells hc _ _ _)
theorem Imp.congr {g : Int → Option Value} (h : Imp W m n f) (e : ∀ t, g t = f t) : Imp W m n g := by
  have : g = f := funext e
  rw [this]; exact h
theorem Imp.look {T E : TypeId} (hT : Tryz.prog.underlying T = some (.map 3 E)) {z : Value} (hz : ∀ W, (zeroValue E).run Tryz.prog W = .ok z W) (h : Imp W m n f) {t : Int} (ht : (Lit.int .i64 t).wf = true) {v : Value} (hv : f t = some v) :
    (Instr.lookup T (.map (some m)) (.int .i64 t) true).run Tryz.prog W = .ok (.tuple #[v, .bool true]) W := by
  obtain ⟨D, h1, h2, h3⟩ := h
  obtain ⟨u, ps, r1, r2⟩ := World.ownsMap.look_ok h1 (int_keyed int_desc') hT (hz W) (zd := .held z) (zp := []) rfl (keyOf_int_mk int_desc' ht)
  rw [h2, hv] at r1
  rw [h3 t v _ hv] at r2
  unfold Hv at r2
  injection r2 with r2
  injection r2 with r2 _
  injection r2 with r2
  rw [r1, r2]; rfl
theorem Imp.miss {T E : TypeId} (hT : Tryz.prog.underlying T = some (.map 3 E)) {z : Value} (hz : ∀ W, (zeroValue E).run Tryz.prog W = .ok z W) (h : Imp W m n f) {t : Int} (ht : (Lit.int .i64 t).wf = true) (hv : f t = none) :
    (Instr.lookup T (.map (some m)) (.int .i64 t) true).run Tryz.prog W = .ok (.tuple #[z, .bool false]) W := by
  obtain ⟨D, h1, h2, h3⟩ := h
  obtain ⟨u, ps, r1, r2⟩ := World.ownsMap.look_ok h1 (int_keyed int_desc') hT (hz W) (zd := .held z) (zp := []) rfl (keyOf_int_mk int_desc' ht)
  rw [h2, hv] at r1
  rw [atKey_of_not_has (by rw [h2, hv]; rfl)] at r2
  unfold Hv at r2
  injection r2 with r2
  injection r2 with r2 _
  injection r2 with r2
  rw [r1, r2]; rfl
theorem Imp.add {T E : TypeId} (hT : Tryz.prog.underlying T = some (.map 3 E)) (h : Imp W m n f) (hn : n < maxLen) {t : Int} (ht : (Lit.int .i64 t).wf = true) (v : Value) :
    ∃ W', (Instr.mapUpdate T (.map (some m)) (.int .i64 t) v).run Tryz.prog W = .ok () W' ∧ Imp W' m (n + 1) (fun s => if s = t then some v else f s) ∧ W.mapTurned W' m := by
  obtain ⟨D, h1, h2, h3⟩ := h
  obtain ⟨W', r1, r2, r3⟩ := World.ownsMap.store h1 (int_keyed int_desc') hT hn (keyOf_int_mk int_desc' ht) (val := v) (d := .held v) (ps := []) rfl
  refine ⟨W', r1, ⟨_, r2, fun s => ?_, fun s u z hs => ?_⟩, r3⟩
  · show _ = (if s = t then some v else f s).isSome
    by_cases e : s = t
    · subst e; rw [if_pos rfl, has_put_same (k := .int .i64 s) h1.isMap (show True from trivial)]; rfl
    · rw [if_neg e, has_put_other (by intro h; injection h with _ h; exact e h), h2]
  · replace hs : (if s = t then some v else f s) = some u := hs
    by_cases e : s = t
    · subst e; rw [if_pos rfl] at hs; injection hs with hs; subst hs; exact atKey_put_same (k := .int .i64 s) h1.isMap (show True from trivial) _ _
    · rw [if_neg e] at hs; rw [atKey_put_other (by intro h; injection h with _ h; exact e h)]; exact h3 s u z hs
theorem Imp.del {T E : TypeId} (hT : Tryz.prog.underlying T = some (.map 3 E)) (h : Imp W m n f) {t : Int} (ht : (Lit.int .i64 t).wf = true) (ty : TypeId) :
    ∃ W', (Builtin.delete_ #[T, 3] ty #[.map (some m), .int .i64 t]).run Tryz.prog W = .ok (.tuple #[]) W' ∧ Imp W' m n (fun s => if s = t then none else f s) ∧ W.mapTurned W' m := by
  obtain ⟨D, h1, h2, h3⟩ := h
  obtain ⟨W', r1, r2, r3⟩ := World.ownsMap.drop h1 (int_keyed int_desc') hT (keyOf_int_mk int_desc' ht) ty
  refine ⟨W', r1, ⟨_, r2, fun s => ?_, fun s u z hs => ?_⟩, r3⟩
  · show _ = (if s = t then none else f s).isSome
    by_cases e : s = t
    · subst e; rw [if_pos rfl, has_del_same]; rfl
    · rw [if_neg e, has_del_other (by intro h; injection h with _ h; exact e h), h2]
  · replace hs : (if s = t then none else f s) = some u := hs
    by_cases e : s = t
    · subst e; rw [if_pos rfl] at hs; cases hs
    · rw [if_neg e] at hs; rw [atKey_del_other (by intro h; injection h with _ h; exact e h)]; exact h3 s u z hs
theorem Imp.froz (h : Imp W m n f) (j : Nat) : W.frozen? ⟨m, j, none⟩ = false := by
  obtain ⟨D, ⟨es, clk, h1, h2⟩, _⟩ := h
  simp [World.frozen?, h1]
end

/-- The place of an answer, as the program has it. -/
def zp : Option Nat → Int
  | none => 9223372036854775807
  | some z => (z : Nat)
def ccs (cs : List CC) : List Value := cs.flatMap fun c => [.int .i64 (c.1 : Nat), .int .i64 (zp c.2)]
theorem ccs_length (cs : List CC) : (ccs cs).length = cs.length * 2 := by
  induction cs with
  | nil => rfl
  | cons c cs ih => show ([_, _] ++ ccs cs).length = _; rw [List.length_append, ih]; simp; omega
theorem ccs_get : ∀ (cs : List CC) (k : Nat) (c : CC), cs[k]? = some c → (ccs cs)[k * 2]? = some (.int .i64 (c.1 : Nat)) ∧ (ccs cs)[k * 2 + 1]? = some (.int .i64 (zp c.2))
  | [], k, c, h => by simp at h
  | d :: cs, 0, c, h => by simp at h; subst h; exact ⟨rfl, rfl⟩
  | d :: cs, k + 1, c, h => by
    have := ccs_get cs k c (by simpa using h)
    rw [show (k + 1) * 2 = k * 2 + 2 by omega, show k * 2 + 2 + 1 = k * 2 + 1 + 2 by omega]
    exact this
theorem ccs_app (cs : List CC) (c : CC) : ccs (cs ++ [c]) = ccs cs ++ [.int .i64 (c.1 : Nat), .int .i64 (zp c.2)] := by simp [ccs]
theorem ccs_set : ∀ (cs : List CC) (k a : Nat) (y z : Option Nat), cs[k]? = some (a, y) → (ccs cs).set (k * 2 + 1) (.int .i64 (zp z)) = ccs (cs.set k (a, z))
  | [], k, a, y, z, h => by simp at h
  | d :: cs, 0, a, y, z, h => by simp at h; subst h; rfl
  | d :: cs, k + 1, a, y, z, h => by
    have := ccs_set cs k a y z (by simpa using h)
    rw [show (k + 1) * 2 + 1 = k * 2 + 1 + 2 by omega]
    show _ :: _ :: (ccs cs).set (k * 2 + 1) _ = _ :: _ :: ccs (cs.set k (a, z))
    rw [this]
/-- A row of calls of the call's own. -/
def Oc (B : Nat) (W : World) (v : Value) (cs : List CC) : Prop := W.ownsRow B 121 2 v cs.length (ccs cs)
section
variable {B : Nat} {W W' : World} {v : Value} {cs : List CC}
theorem Oc.nil (B : Nat) (W : World) : Oc B W (.slice none 0 0) [] := World.ownsRow_nil _ _ _ _
theorem Oc.keep (h : Oc B W v cs) (hb : ∀ g, v.ownBlock = some g → W'.heap[g]? = W.heap[g]?) : Oc B W' v cs := by
  refine ⟨h.1, ?_⟩
  rcases h.2 with e | ⟨g, cap, cur, hv, h1, h2, h3⟩
  · exact .inl e
  · exact .inr ⟨g, cap, cur, hv, h1, by rw [hb g (by rw [hv]; rfl)]; exact h2, h3⟩
theorem Oc.lt (h : Oc B W v cs) : ∀ g, v.ownBlock = some g → B ≤ g ∧ g < W.heap.size := World.ownsRow.lt h
theorem Oc.later (h : Oc B W v cs) (hb : Below W.heap.size W W') : Oc B W' v cs := h.keep fun g hg => hb.block g (h.lt g hg).2
theorem Oc.new (h : Oc B W v cs) (o : Obj) : Oc B (W.alloc o) v cs := h.later (new_below W o)
theorem Oc.drew (h : Oc B W v cs) : Oc B W.drew v cs := h
theorem Oc.asideL (h : Oc B W v cs) {c : Nat} (hc : ∀ g, v.ownBlock = some g → g ≠ c) (o : Nat) (vs : List Value) : Oc B (W.setCells c o vs) v cs := h.keep fun g hg => heap_setCells (hc g hg) _ _ _
theorem Oc.aside1 (h : Oc B W v cs) {c j : Nat} (hc : ∀ g, v.ownBlock = some g → g ≠ c) (u : Value) : Oc B (W.setCell ⟨c, j, none⟩ u) v cs := h.keep fun g hg => Below.heap_setCell _ _ _ _ (hc g hg)
theorem Oc.turned {m : Nat} (h : Oc B W v cs) (hm : m < B) (ht : W.mapTurned W' m) : Oc B W' v cs := h.keep fun g hg => ht.grown.block g (h.lt g hg).2 (fun e => by have := (h.lt g hg).1; injection e with e; omega)
theorem Oc.form (h : Oc B W v cs) : (v = .slice none 0 0 ∧ cs = []) ∨ ∃ g cap, v = .slice (some ⟨g, 0, none⟩) cs.length cap ∧ B ≤ g ∧ cs.length ≤ cap ∧ Bo W g (ccs cs) := by
  rcases h.2 with ⟨e, e2⟩ | ⟨g, cap, cur, hv, h1, h2, h3, h4, h5, h6⟩
  · exact .inl ⟨e, List.length_eq_zero_iff.1 e2⟩
  · have h' : W.ownsRow B 121 2 (.slice (some ⟨g, 0, none⟩) cs.length cap) cs.length (ccs cs) := hv ▸ h
    refine .inr ⟨g, cap, hv, h1, h3, ⟨fun j u hu => ?_, fun j => World.ownsRow.frozenAt h' j, (h.lt g (by rw [hv]; rfl)).2⟩⟩
    have hj : j < cs.length * 2 := by rw [← ccs_length]; exact (List.getElem?_eq_some_iff.1 hu).1
    rw [World.ownsRow.cellAt h' j hj]; exact hu
theorem Oc.len (h : Oc B W v cs) : ∃ (a : Option Addr) (cap : Nat), v = .slice a cs.length cap := by
  rcases h.form with ⟨e, rfl⟩ | ⟨g, cap, e, _⟩
  · exact ⟨none, 0, e⟩
  · exact ⟨_, cap, e⟩
theorem Oc.bo {g cap m : Nat} (h : Oc B W (.slice (some ⟨g, 0, none⟩) m cap) cs) : Bo W g (ccs cs) := by
  rcases h.form with ⟨e, _⟩ | ⟨g2, cap2, e, _, _, hb⟩
  · cases e
  · injection e with e _ _
    injection e with e
    injection e with e
    subst e; exact hb
theorem Oc.set {g cap k a : Nat} {y : Option Nat} (h : Oc B W (.slice (some ⟨g, 0, none⟩) cs.length cap) cs) (hk : cs[k]? = some (a, y)) (z : Option Nat) :
    Oc B (W.setCell ⟨g, k * 2 + 1, none⟩ (.int .i64 (zp z))) (.slice (some ⟨g, 0, none⟩) cs.length cap) (cs.set k (a, z)) := by
  have := World.ownsRow.stored (w := W) (base := B) (e := 121) (size := 2) (g := g) (n := cs.length) (cap := cap) (xs := ccs cs) h (k * 2 + 1) (.int .i64 (zp z))
  replace this := this.1
  rw [ccs_set cs k a y z hk] at this
  unfold Oc
  rw [List.length_set]
  exact this
theorem infoCall : (Tryz.prog.info? 121).map (fun i => (i.zero, i.size, i.bytes)) = some (some (.agg #[.int .i64 0, .int .i64 0]), 2, 16) := by kernel_rfl
theorem calls_desc : Tryz.prog.underlying 85 = some (.slice 121) := by kernel_rfl
theorem Oc.push (h : Oc B W v cs) (hB : B ≤ W.heap.size) {nb i : Nat} (c0 : W.cell? ⟨nb, 0, none⟩ = some (.int .i64 (i : Nat))) (c1 : W.cell? ⟨nb, 1, none⟩ = some (.int .i64 9223372036854775807)) (hn : cs.length ≤ 1000000) (ty : TypeId) :
    ∃ v' W', (Builtin.append_ #[85, 85] ty #[v, .slice (some ⟨nb, 0, none⟩) 1 1]).run Tryz.prog W = .ok v' W' ∧ Oc B W' v' (cs ++ [(i, none)]) ∧ Below B W W' := by
  obtain ⟨i0, hi, hz0, hz1, hz2⟩ := info_parts infoCall
  obtain ⟨v', w', hr, ho, hg, _⟩ := run_append_own (P := Tryz.prog) (w := W) B 85 ty 121 i0 (.agg #[.int .i64 0, .int .i64 0]) 2 16 calls_desc hi hz0 hz1 hz2 rfl (by decide) v cs.length (ccs cs) h ⟨nb, 0, none⟩ 1 1 [.int .i64 (i : Nat), .int .i64 9223372036854775807] rfl
    (fun j u hu => by
      rw [Addr.add_lit]
      match j, hu with
      | 0, hu => simp at hu; subst hu; simpa using c0
      | 1, hu => simp at hu; subst hu; simpa using c1
      | j + 2, hu => simp at hu)
    (fun u hu => by simp at hu; rcases hu with rfl | rfl <;> rfl) (by unfold maxLen; omega) (by omega) hB
  refine ⟨v', w', hr, ?_, (Below.refl _ W).grown hg hB (fun j hj => (h.lt j hj).1)⟩
  unfold Oc
  rw [ccs_app, List.length_append]
  exact ho
end
section
variable {P : Program} {ops : Array Oper} {rest : List Oper} {o : Oper} {a : Act} {w : World} {Q : Exit → Act → World → Prop}
theorem wpList_look (hg : o.guard = none) (m x : Operand) (t : TypeId) (hop : o.op = .lookup t m x true) {b : Nat} {th : Int} {r : Value} (hm : a.eval m = .map (some b)) (hx : a.eval x = .int .i64 th)
    (hr : (Instr.lookup t (.map (some b)) (.int .i64 th) true).run P w = .ok r w) (hK : wpList P ops Q rest (a.put o.dst r) w) : wpList P ops Q (o :: rest) a w := by
  refine wpList_plain hg fun K' hK' => ?_
  unfold Oper.wp
  simp [execOp, hop, hm, hx, hr, Result.andThen]
  exact hK' _ _ hK
theorem wpList_mapUp (hg : o.guard = none) (m x v : Operand) (t : TypeId) (hop : o.op = .mapUpdate t m x v) {b : Nat} {th : Int} {u : Value} {w' : World} (hm : a.eval m = .map (some b)) (hx : a.eval x = .int .i64 th) (hv : a.eval v = u)
    (hr : (Instr.mapUpdate t (.map (some b)) (.int .i64 th) u).run P w = .ok () w') (hK : wpList P ops Q rest (a.put o.dst undef) w') : wpList P ops Q (o :: rest) a w := by
  refine wpList_plain hg fun K' hK' => ?_
  unfold Oper.wp
  simp [execOp, hop, hm, hx, hv, hr, Result.andThen]
  exact hK' _ _ hK
theorem wpList_del (hg : o.guard = none) (m x : Operand) (t k : TypeId) (hop : o.op = .call { callee := .builtin .delete, args := #[m, x], argTypes := #[t, k] }) {b : Nat} {th : Int} {w' : World} (hm : a.eval m = .map (some b)) (hx : a.eval x = .int .i64 th)
    (hr : (Builtin.delete_ #[t, k] o.type #[.map (some b), .int .i64 th]).run P w = .ok (.tuple #[]) w') (hK : wpList P ops Q rest (a.put o.dst (.tuple #[])) w') : wpList P ops Q (o :: rest) a w := by
  refine wpList_plain hg fun K' hK' => ?_
  unfold Oper.wp
  simp [execOp, hop, resolve, invoke, builtin, hm, hx, hr, Result.andThen]
  exact hK' _ _ hK
theorem wpList_push (hP : P = Tryz.prog) (hgd : o.guard = none) (s x : Operand) (ho : o.op = .call { callee := .builtin .append, args := #[s, x], argTypes := #[85, 85] })
    {B : Nat} {v : Value} {cs : List CC} {nb i : Nat} (hs : a.eval s = v) (hx : a.eval x = .slice (some ⟨nb, 0, none⟩) 1 1) (hB : B ≤ w.heap.size) (h : Oc B w v cs) (c0 : w.cell? ⟨nb, 0, none⟩ = some (.int .i64 (i : Nat))) (c1 : w.cell? ⟨nb, 1, none⟩ = some (.int .i64 9223372036854775807)) (hn : cs.length ≤ 1000000)
    (hk : ∀ v' w', Oc B w' v' (cs ++ [(i, none)]) → Below B w w' → wpList P ops Q rest (a.put o.dst v') w') : wpList P ops Q (o :: rest) a w := by
  subst hP
  refine wpList_plain hgd fun K hK => ?_
  obtain ⟨v', w', hr, h2, h3⟩ := h.push hB c0 c1 hn o.type
  unfold Oper.wp execOp
  simp only [ho, resolve, invoke, builtin, Sem.run_bind, Sem.run_pure, Result.andThen_ok, List.map_toArray, List.map_cons, List.map_nil, hs, hx, hr]
  exact hK _ _ (hk v' w' h2 h3)
end
section
variable {W W' : World} {m : Nat}
/-- Blocks behind what turns the map alone. -/
theorem Ms.turned {n : Nat} {w : World} {L : List (Nat × List Value)} {Q : List (Nat × Value × List Int)} (h : Ms n w W L Q) (k : Nat) (hk : L[k]? = some (m, [])) (hg : W.grownBy W' (some m)) (hf : ∀ j, W'.frozen? ⟨m, j, none⟩ = false) : Ms n w W' L Q where
  gd := ⟨h.gd.1, h.gd.2.grown hg h.gd.2.size (fun c hc => by injection hc with hc; have := h.key k hk; have := h.gd.1; omega)⟩
  bo p hp := by
    by_cases e : p.1 = m
    · have hn : p = (m, []) := by
        obtain ⟨j, hj⟩ := List.getElem?_of_mem hp
        have h1 : (L.map (·.1))[j]? = some m := by rw [List.getElem?_map, hj, Option.map_some, e]
        have h2 : (L.map (·.1))[k]? = some m := by rw [List.getElem?_map, hk]; rfl
        have := nodup_inj h.nd h1 h2
        subst this
        rw [hj] at hk; injection hk
      have hB := h.bo p hp
      rw [hn] at hB ⊢
      exact ⟨fun j v hv => by simp at hv, fun j => hf j, Nat.lt_of_lt_of_le hB.lt hg.size⟩
    · exact (h.bo p hp).keep (hg.block _ (h.bo p hp).lt (fun c => e (by injection c))) (Nat.lt_of_lt_of_le (h.bo p hp).lt hg.size)
  ge := h.ge
  nd := h.nd
  li q hq := (h.li q hq).keep hg.size (fun b h _ => h) (fun b hb hl => hg.block b hl (fun c => by
    injection c with c
    subst c
    exact hb (List.mem_map.2 ⟨_, List.mem_of_getElem? hk, rfl⟩)))
theorem Ms.ne {n : Nat} {w : World} {L : List (Nat × List Value)} {Q : List (Nat × Value × List Int)} (h : Ms n w W L Q) (i j : Nat) {b c : Nat} {cs ds : List Value} (hi : L[i]? = some (b, cs)) (hj : L[j]? = some (c, ds)) (hij : i ≠ j) : b ≠ c := fun e => by
  have h1 : (L.map (·.1))[i]? = some b := by rw [List.getElem?_map, hi]; rfl
  have h2 : (L.map (·.1))[j]? = some b := by rw [List.getElem?_map, hj, e]; rfl
  exact hij (nodup_inj h.nd h1 h2)
end
theorem Ms.bornM {n : Nat} {w W : World} {L : List (Nat × List Value)} {Q : List (Nat × Value × List Int)} (h : Ms n w W L Q) {b : Nat} (hb : b = W.heap.size) : Ms n w (W.alloc (.map #[] 0)) ((b, []) :: L) Q := by
  subst hb
  exact h.laterB (new_below W _) (Nat.le_refl _) ⟨fun j v hv => by simp at hv, fun j => Imp.froz (Imp.made W) j, by simp⟩
theorem Imp.mono {W : World} {m n n' : Nat} {f : Int → Option Value} (h : Imp W m n f) (hn : n ≤ n') : Imp W m n' f := by
  obtain ⟨D, h1, h2⟩ := h
  exact ⟨D, World.ownsMap.mono h1 hn, h2⟩
theorem Ms.sz1 {n : Nat} {w W : World} {L : List (Nat × List Value)} {Q : List (Nat × Value × List Int)} {b m : Nat} {r : List Value} (h : Ms n w W ((b, r) :: (m, []) :: L) Q) : m + 1 ≤ W.heap.size := by
  have := h.len 1 rfl; omega
theorem Oc.mono_ {B C : Nat} {W : World} {v : Value} {cs : List CC} (h : Oc B W v cs) (hb : C ≤ B) : Oc C W v cs := by
  refine ⟨h.1, ?_⟩
  rcases h.2 with e | ⟨g, cap, cur, hv, h1, h2⟩
  · exact .inl e
  · exact .inr ⟨g, cap, cur, hv, Nat.le_trans hb h1, h2⟩
theorem op_eq (o k x o' k' x' : Int) (b : Bool) (hb : b = true ↔ (o, k, x) = (o', k', x')) (w : World) : (Op.equalIn 10000 42 (.agg #[.int .i64 o, .int .i64 k, .int .i64 x]) (.agg #[.int .i64 o', .int .i64 k', .int .i64 x'])).run Tryz.prog w = .ok b w := by
  have he : b = ((o == o') && ((k == k') && (x == x'))) := by
    rw [Bool.eq_iff_iff, hb]; simp
  rw [he]
  cases h1 : (o == o') <;> cases h2 : (k == k') <;> cases h3 : (x == x') <;> go_simp <;> simp [h1, h2, h3]
theorem rwEv (kd th o k x c y wh st : Int) : Rw Tryz.prog 56 (el kd th o k x c y wh st) := ⟨⟨_, Tryz.underlying56, rfl⟩, by kernel_rfl, by intro v hv; simp [el] at hv; rcases hv with rfl | rfl | rfl | rfl | rfl | rfl | rfl | rfl | rfl <;> rfl⟩
end Go.Proofs.YteogbpaaacmllabGreatDoor.Tab
namespace Go.Proofs.YteogbpaaacmllabGreatDoor.Tab
set_option maxRecDepth 20000
open Go.RowKit
set_option linter.unusedVariables false

/-- A deed is what an event says. -/
def Sm (d : DD) (e : EV) : Prop := d.t = e.th ∧ d.op = e.op ∧ d.c = e.c ∧ d.y = e.y
instance (d : DD) (e : EV) : Decidable (Sm d e) := by unfold Sm; infer_instance
/-- One call more. -/
def stepA (h : Nat → EV) (q : Nat → DD) (m k : Nat) (c : CC) (bl : List (Option Nat)) : Except Int (List (Option Nat)) :=
  match c.2 with
  | none => .ok bl
  | some z => if (h z).wh < 1 ∨ (m : Int) < (h z).wh then .error 7
    else if ¬ Sm (q ((h z).wh.toNat - 1)) (h z) then .error 13
    else if (bl.getD ((h z).wh.toNat - 1) none).isSome then .error 9
    else .ok (bl.set ((h z).wh.toNat - 1) (some k))
def ansF (h : Nat → EV) (q : Nat → DD) (m : Nat) (cs : List CC) : Nat → Except Int (List (Option Nat))
  | 0 => .ok (List.replicate m none)
  | k + 1 => match ansF h q m cs k with
    | .error e => .error e
    | .ok bl => stepA h q m k (cg cs k) bl
theorem ansF_ok {h : Nat → EV} {q : Nat → DD} {m : Nat} {cs : List CC} : ∀ {k : Nat} {bl : List (Option Nat)}, ansF h q m cs k = .ok bl → ∀ j, j ≤ k → ∃ b2, ansF h q m cs j = .ok b2
  | 0, bl, e, j, hj => by obtain rfl : j = 0 := (by omega); exact ⟨_, e⟩
  | k + 1, bl, e, j, hj => by
    by_cases hk : j = k + 1
    · subst hk; exact ⟨_, e⟩
    · unfold ansF at e
      cases e2 : ansF h q m cs k with
      | error c => rw [e2] at e; cases e
      | ok b2 => exact ansF_ok e2 j (by omega)
theorem ansF_step {h : Nat → EV} {q : Nat → DD} {m : Nat} {cs : List CC} {k : Nat} {bl : List (Option Nat)} (e : ansF h q m cs k = .ok bl) : ansF h q m cs (k + 1) = stepA h q m k (cg cs k) bl := by
  show (match ansF h q m cs k with | .error e => _ | .ok bl => _) = _
  rw [e]
theorem ansF_next {h : Nat → EV} {q : Nat → DD} {m : Nat} {cs : List CC} {n k : Nat} {bl fin : List (Option Nat)} (e : ansF h q m cs n = .ok fin) (hk : k < n) (e2 : ansF h q m cs k = .ok bl) : ∃ b2, stepA h q m k (cg cs k) bl = .ok b2 ∧ ansF h q m cs (k + 1) = .ok b2 := by
  obtain ⟨b2, h2⟩ := ansF_ok e (k + 1) hk
  exact ⟨b2, by rw [← ansF_step e2]; exact h2, h2⟩
theorem ansF_bad {h : Nat → EV} {q : Nat → DD} {m : Nat} {cs : List CC} {c : Int} : ∀ {n : Nat}, ansF h q m cs n = .error c → ∃ k bl, k < n ∧ ansF h q m cs k = .ok bl ∧ stepA h q m k (cg cs k) bl = .error c
  | 0, e => by cases e
  | n + 1, e => by
    cases e2 : ansF h q m cs n with
    | error c2 =>
      have e' := e
      unfold ansF at e'
      rw [e2] at e'
      injection e' with e'
      subst e'
      obtain ⟨k, bl, hk, h1, h2⟩ := ansF_bad e2
      exact ⟨k, bl, by omega, h1, h2⟩
    | ok bl => exact ⟨n, bl, by omega, e2, by rw [← ansF_step e2]; exact e⟩
theorem stepA_len {h : Nat → EV} {q : Nat → DD} {m k : Nat} {c : CC} {bl b2 : List (Option Nat)} (e : stepA h q m k c bl = .ok b2) : b2.length = bl.length := by
  unfold stepA at e
  split at e
  · injection e with e; rw [e]
  · split at e
    · cases e
    · split at e
      · cases e
      · split at e
        · cases e
        · injection e with e; rw [← e, List.length_set]
theorem ansF_len {h : Nat → EV} {q : Nat → DD} {m : Nat} {cs : List CC} : ∀ {k : Nat} {bl : List (Option Nat)}, ansF h q m cs k = .ok bl → bl.length = m
  | 0, bl, e => by injection e with e; rw [← e, List.length_replicate]
  | k + 1, bl, e => by
    cases e2 : ansF h q m cs k with
    | error c => unfold ansF at e; rw [e2] at e; cases e
    | ok b2 => rw [ansF_step e2] at e; rw [stepA_len e, ansF_len e2]
theorem place_of {wh : Int} {m : Nat} (h : ¬ (wh < 1 ∨ (m : Int) < wh)) : ∃ p, wh = (p : Nat) + 1 ∧ p < m ∧ wh.toNat - 1 = p := ⟨wh.toNat - 1, by omega, by omega, rfl⟩
theorem stepA_some {h : Nat → EV} {q : Nat → DD} {m k : Nat} {c : CC} {bl b2 : List (Option Nat)} (hl : bl.length = m) (e : stepA h q m k c bl = .ok b2) :
    (c.2 = none ∧ b2 = bl) ∨ ∃ z p, c.2 = some z ∧ (h z).wh = (p : Nat) + 1 ∧ p < m ∧ Sm (q p) (h z) ∧ bl[p]? = some none ∧ b2 = bl.set p (some k) := by
  unfold stepA at e
  split at e
  · rename_i h1; injection e with e; exact Or.inl ⟨h1, e.symm⟩
  · rename_i z h1
    split at e
    · cases e
    · rename_i h2
      obtain ⟨p, hp, hm, ht⟩ := place_of h2
      rw [ht] at e
      split at e
      · cases e
      · rename_i h3
        split at e
        · cases e
        · rename_i h4
          injection e with e
          refine Or.inr ⟨z, p, h1, hp, hm, Classical.not_not.1 h3, ?_, e.symm⟩
          rw [List.getD_eq_getElem?_getD, List.getElem?_eq_getElem (by omega), Option.getD_some] at h4
          rw [List.getElem?_eq_getElem (by omega)]
          cases hb : bl[p]'(by omega) with
          | none => rfl
          | some x => rw [hb] at h4; simp at h4
theorem stepA_err {h : Nat → EV} {q : Nat → DD} {m k : Nat} {c : CC} {bl : List (Option Nat)} {er : Int} (hl : bl.length = m) (e : stepA h q m k c bl = .error er) :
    ∃ z, c.2 = some z ∧ (((h z).wh < 1 ∧ er = 7) ∨ (¬ (h z).wh < 1 ∧ (m : Int) < (h z).wh ∧ er = 7) ∨ ∃ p, (h z).wh = (p : Nat) + 1 ∧ p < m ∧ ((¬ Sm (q p) (h z) ∧ er = 13) ∨ (Sm (q p) (h z) ∧ (∃ x, bl[p]? = some (some x)) ∧ er = 9))) := by
  unfold stepA at e
  split at e
  · cases e
  · rename_i z h1
    refine ⟨z, h1, ?_⟩
    split at e
    · rename_i h2
      injection e with e
      by_cases h3 : (h z).wh < 1
      · exact Or.inl ⟨h3, e.symm⟩
      · exact Or.inr (Or.inl ⟨h3, by omega, e.symm⟩)
    · rename_i h2
      obtain ⟨p, hp, hm, ht⟩ := place_of h2
      rw [ht] at e
      refine Or.inr (Or.inr ⟨p, hp, hm, ?_⟩)
      split at e
      · rename_i h3; injection e with e; exact Or.inl ⟨h3, e.symm⟩
      · rename_i h3
        split at e
        · rename_i h4
          injection e with e
          refine Or.inr ⟨Classical.not_not.1 h3, ?_, e.symm⟩
          rw [List.getD_eq_getElem?_getD, List.getElem?_eq_getElem (by omega), Option.getD_some] at h4
          rw [List.getElem?_eq_getElem (by omega)]
          cases hb : bl[p]'(by omega) with
          | none => rw [hb] at h4; simp at h4
          | some x => exact ⟨x, rfl⟩
        · cases e

/-- The pointer at a call. -/
def bp (g : Nat) : Option Nat → Value
  | none => .pointer none
  | some k => .pointer (some ⟨g, k * 2, none⟩)
def byr (g : Nat) (bl : List (Option Nat)) : List Value := bl.map (bp g)
theorem byr_length (g : Nat) (bl : List (Option Nat)) : (byr g bl).length = bl.length := by simp [byr]
theorem byr_get {g : Nat} {bl : List (Option Nat)} {p : Nat} {x : Option Nat} (h : bl[p]? = some x) : (byr g bl)[p]? = some (bp g x) := by simp [byr, h]
theorem byr_set (g : Nat) (bl : List (Option Nat)) (p k : Nat) : (byr g bl).set p (.pointer (some ⟨g, k * 2, none⟩)) = byr g (bl.set p (some k)) := by
  unfold byr; rw [List.map_set]; rfl
set_option maxHeartbeats 8000000 in
theorem deed_eq (t o k x c y t' o' k' x' c' y' : Int) (b : Bool) (hb : b = true ↔ t = t' ∧ (o, k, x) = (o', k', x') ∧ c = c' ∧ y = y') (w : World) :
    (Op.equalIn 10000 46 (.agg #[.int .i64 t, .int .i64 o, .int .i64 k, .int .i64 x, .int .i64 c, .int .i64 y]) (.agg #[.int .i64 t', .int .i64 o', .int .i64 k', .int .i64 x', .int .i64 c', .int .i64 y'])).run Tryz.prog w = .ok b w := by
  have he : b = ((t == t') && (((o == o') && ((k == k') && (x == x'))) && ((c == c') && (y == y')))) := by
    rw [Bool.eq_iff_iff, hb]; simp [and_assoc]
  rw [he]
  cases h1 : (t == t') <;> cases h2 : (o == o') <;> cases h3 : (k == k') <;> cases h4 : (x == x') <;> cases h5 : (c == c') <;> cases h6 : (y == y') <;> go_simp <;> simp [h1, h2, h3, h4, h5, h6]
theorem Ms.tail {n : Nat} {w W : World} {L : List (Nat × List Value)} {Q : List (Nat × Value × List Int)} {p : Nat × List Value} (h : Ms n w W (p :: L) Q) : Ms n w W L Q where
  gd := h.gd
  bo x hx := h.bo x (List.mem_cons_of_mem _ hx)
  ge x hx := h.ge x (List.mem_cons_of_mem _ hx)
  nd := (List.nodup_cons.1 h.nd).2
  li q hq := (h.li q hq).keep (Nat.le_refl _) (fun b hb _ hc => hb (List.mem_cons_of_mem _ hc)) (fun _ _ _ => rfl)
end Go.Proofs.YteogbpaaacmllabGreatDoor.Tab
namespace Go.Proofs.YteogbpaaacmllabGreatDoor.Tab
set_option maxRecDepth 20000
open Go.RowKit Go.Maps
set_option linter.unusedVariables false

/-- Who is open among the first calls. -/
theorem opn_take {h : Nat → EV} {n : Nat} {cs : List CC} (g : GC h n cs) {i a : Nat} {z : Option Nat} (hi : cs[i]? = some (a, z)) (t : Int) :
    opn h (cs.take (i + 1)) t = if z = none ∧ (h a).th = t then some i else opn h (cs.take i) t := by
  have hl : i < cs.length := (List.getElem?_eq_some_iff.1 hi).1
  have gt : ∀ k, GC h n (cs.take k) := fun k => ⟨fun c hc => g.lt c (List.mem_of_mem_take hc), fun j j' c c' hj hj' => by
    have cut : ∀ {j : Nat} {c : CC}, (cs.take k)[j]? = some c → cs[j]? = some c := fun {j c} hj => by
      rw [List.getElem?_take] at hj
      split at hj
      · exact hj
      · cases hj
    exact g.un j j' c c' (cut hj) (cut hj'), by have := g.len; rw [List.length_take]; omega⟩
  have at_ : ∀ {k j : Nat} {c : CC}, j < k → cs[j]? = some c → (cs.take k)[j]? = some c := fun {k j c} hj hc => by rw [List.getElem?_take, if_pos hj]; exact hc
  have of_ : ∀ {k j : Nat} {c : CC}, (cs.take k)[j]? = some c → j < k ∧ cs[j]? = some c := fun {k j c} hj => by
    rw [List.getElem?_take] at hj
    split at hj
    · rename_i h1; exact ⟨h1, hj⟩
    · cases hj
  by_cases hz : z = none ∧ (h a).th = t
  · rw [if_pos hz]
    obtain ⟨rfl, ht⟩ := hz
    exact opn_of (gt (i + 1)) (at_ (Nat.lt_succ_self _) hi) ht
  · rw [if_neg hz]
    cases e : opn h (cs.take i) t with
    | some j =>
      obtain ⟨b, hj, hb⟩ := opn_hit e
      obtain ⟨h1, h2⟩ := of_ hj
      exact opn_of (gt (i + 1)) (at_ (Nat.lt_succ_of_lt h1) h2) hb
    | none =>
      cases e2 : opn h (cs.take (i + 1)) t with
      | none => rfl
      | some j =>
        obtain ⟨b, hj, hb⟩ := opn_hit e2
        obtain ⟨h1, h2⟩ := of_ hj
        by_cases hji : j = i
        · subst hji; rw [hi] at h2; injection h2 with h2; injection h2 with h2 h3; subst h2 h3; exact absurd ⟨rfl, hb⟩ hz
        · exact absurd hb (opn_none e j b (at_ (by omega) h2))
/-- One deed more. -/
def opu (h : Nat → EV) (cs : List CC) (us : List Int) (t : Int) : Option Nat := if t ∈ us then none else opn h cs t
abbrev BU := List (Option Nat) × List Int
def stepO (h : Nat → EV) (q : Nat → DD) (cs : List CC) (i : Nat) (s : BU) : Except Int BU :=
  if (s.1.getD i none).isSome then .ok s
  else match opu h cs s.2 (q i).t with
    | none => .error 8
    | some k => if (h (cg cs k).1).op = (q i).op then .ok (s.1.set i (some k), (q i).t :: s.2) else .error 8
def opnF (h : Nat → EV) (q : Nat → DD) (cs : List CC) (bl : List (Option Nat)) : Nat → Except Int BU
  | 0 => .ok (bl, [])
  | i + 1 => match opnF h q cs bl i with
    | .error e => .error e
    | .ok s => stepO h q cs i s
theorem opnF_step {h : Nat → EV} {q : Nat → DD} {cs : List CC} {bl : List (Option Nat)} {k : Nat} {s : BU} (e : opnF h q cs bl k = .ok s) : opnF h q cs bl (k + 1) = stepO h q cs k s := by
  show (match opnF h q cs bl k with | .error e => _ | .ok bl => _) = _
  rw [e]
theorem opnF_ok {h : Nat → EV} {q : Nat → DD} {cs : List CC} {bl : List (Option Nat)} : ∀ {k : Nat} {s : BU}, opnF h q cs bl k = .ok s → ∀ j, j ≤ k → ∃ s2, opnF h q cs bl j = .ok s2
  | 0, s, e, j, hj => by obtain rfl : j = 0 := (by omega); exact ⟨_, e⟩
  | k + 1, s, e, j, hj => by
    by_cases hk : j = k + 1
    · subst hk; exact ⟨_, e⟩
    · unfold opnF at e
      cases e2 : opnF h q cs bl k with
      | error c => rw [e2] at e; cases e
      | ok b2 => exact opnF_ok e2 j (by omega)
theorem opnF_next {h : Nat → EV} {q : Nat → DD} {cs : List CC} {bl : List (Option Nat)} {n k : Nat} {s fin : BU} (e : opnF h q cs bl n = .ok fin) (hk : k < n) (e2 : opnF h q cs bl k = .ok s) : ∃ s2, stepO h q cs k s = .ok s2 ∧ opnF h q cs bl (k + 1) = .ok s2 := by
  obtain ⟨b2, h2⟩ := opnF_ok e (k + 1) hk
  exact ⟨b2, by rw [← opnF_step e2]; exact h2, h2⟩
theorem opnF_bad {h : Nat → EV} {q : Nat → DD} {cs : List CC} {bl : List (Option Nat)} {c : Int} : ∀ {n : Nat}, opnF h q cs bl n = .error c → ∃ k s, k < n ∧ opnF h q cs bl k = .ok s ∧ stepO h q cs k s = .error c
  | 0, e => by cases e
  | n + 1, e => by
    cases e2 : opnF h q cs bl n with
    | error c2 =>
      have e' := e
      unfold opnF at e'
      rw [e2] at e'
      injection e' with e'
      subst e'
      obtain ⟨k, s, hk, h1, h2⟩ := opnF_bad e2
      exact ⟨k, s, by omega, h1, h2⟩
    | ok s => exact ⟨n, s, by omega, e2, by rw [← opnF_step e2]; exact e⟩
theorem stepO_len {h : Nat → EV} {q : Nat → DD} {cs : List CC} {i : Nat} {s s2 : BU} (e : stepO h q cs i s = .ok s2) : s2.1.length = s.1.length := by
  unfold stepO at e
  split at e
  · injection e with e; rw [e]
  · split at e
    · cases e
    · split at e
      · injection e with e; rw [← e, List.length_set]
      · cases e
theorem opnF_len {h : Nat → EV} {q : Nat → DD} {cs : List CC} {bl : List (Option Nat)} : ∀ {k : Nat} {s : BU}, opnF h q cs bl k = .ok s → s.1.length = bl.length
  | 0, s, e => by injection e with e; rw [← e]
  | k + 1, s, e => by
    cases e2 : opnF h q cs bl k with
    | error c => unfold opnF at e; rw [e2] at e; cases e
    | ok b2 => rw [opnF_step e2] at e; rw [stepO_len e, opnF_len e2]
theorem opu_hit {h : Nat → EV} {cs : List CC} {us : List Int} {t : Int} {k : Nat} (e : opu h cs us t = some k) : t ∉ us ∧ opn h cs t = some k := by
  unfold opu at e
  split at e
  · cases e
  · rename_i h1; exact ⟨h1, e⟩
theorem stepO_some {h : Nat → EV} {q : Nat → DD} {cs : List CC} {i : Nat} {s s2 : BU} (hl : i < s.1.length) (e : stepO h q cs i s = .ok s2) :
    (∃ x, s.1[i]? = some (some x) ∧ s2 = s) ∨ ∃ k a, s.1[i]? = some none ∧ opu h cs s.2 (q i).t = some k ∧ cs[k]? = some (a, none) ∧ (h a).op = (q i).op ∧ s2 = (s.1.set i (some k), (q i).t :: s.2) := by
  unfold stepO at e
  rw [List.getD_eq_getElem?_getD, List.getElem?_eq_getElem hl, Option.getD_some] at e
  rw [List.getElem?_eq_getElem hl]
  split at e
  · rename_i h1
    injection e with e
    cases hb : s.1[i]'hl with
    | none => rw [hb] at h1; cases h1
    | some x => exact Or.inl ⟨x, rfl, e.symm⟩
  · rename_i h1
    have hn : s.1[i]'hl = none := by
      cases hb : s.1[i]'hl with
      | none => rfl
      | some x => rw [hb] at h1; exact absurd rfl h1
    split at e
    · cases e
    · rename_i k e2
      split at e
      · rename_i h3
        injection e with e
        obtain ⟨a, hk, _⟩ := opn_hit (opu_hit e2).2
        rw [cg_of hk] at h3
        exact Or.inr ⟨k, a, by rw [hn], e2, hk, h3, e.symm⟩
      · cases e
theorem stepO_err {h : Nat → EV} {q : Nat → DD} {cs : List CC} {i : Nat} {s : BU} {er : Int} (hl : i < s.1.length) (e : stepO h q cs i s = .error er) :
    er = 8 ∧ s.1[i]? = some none ∧ (opu h cs s.2 (q i).t = none ∨ ∃ k a, opu h cs s.2 (q i).t = some k ∧ cs[k]? = some (a, none) ∧ (h a).op ≠ (q i).op) := by
  unfold stepO at e
  rw [List.getD_eq_getElem?_getD, List.getElem?_eq_getElem hl, Option.getD_some] at e
  rw [List.getElem?_eq_getElem hl]
  split at e
  · cases e
  · rename_i h1
    have hn : s.1[i]'hl = none := by
      cases hb : s.1[i]'hl with
      | none => rfl
      | some x => rw [hb] at h1; exact absurd rfl h1
    split at e
    · rename_i e2
      injection e with e
      exact ⟨e.symm, by rw [hn], Or.inl e2⟩
    · rename_i k e2
      split at e
      · cases e
      · rename_i h3
        injection e with e
        obtain ⟨a, hk, _⟩ := opn_hit (opu_hit e2).2
        rw [cg_of hk] at h3
        exact ⟨e.symm, by rw [hn], Or.inr ⟨k, a, e2, hk, h3⟩⟩
/-- The map from a thread to its open call. -/
def mpf (g : Nat) (f : Int → Option Nat) (t : Int) : Option Value := (f t).map fun k => .pointer (some ⟨g, k * 2, none⟩)
theorem mpf_some {g : Nat} {f : Int → Option Nat} {t : Int} {k : Nat} (e : f t = some k) : mpf g f t = some (.pointer (some ⟨g, k * 2, none⟩)) := by unfold mpf; rw [e]; rfl
theorem mpf_none {g : Nat} {f : Int → Option Nat} {t : Int} (e : f t = none) : mpf g f t = none := by unfold mpf; rw [e]; rfl
theorem mapp_desc : Tryz.prog.underlying 123 = some (.map 3 122) := by kernel_rfl
theorem zero_ptr (w : World) : (zeroValue 122).run Tryz.prog w = .ok (.pointer none) w := by kernel_rfl
/-- A map's store, as a step. -/
theorem mpR {P : Program} {o : Oper} {a : Act} {w w' : World} {K : Act → World → Prop} {Q : Exit → Act → World → Prop} (m x v : Operand) (t : TypeId) (ho : o.op = .mapUpdate t m x v) {b : Nat} {th : Int} {u : Value} (hm : a.eval m = .map (some b)) (hx : a.eval x = .int .i64 th) (hv : a.eval v = u)
    (hr : (Instr.mapUpdate t (.map (some b)) (.int .i64 th) u).run P w = .ok () w') (k : K (a.put o.dst undef) w') : o.wp P a w K Q := by
  unfold Oper.wp
  simp [execOp, ho, hm, hx, hv, hr, Result.andThen]
  exact k
end Go.Proofs.YteogbpaaacmllabGreatDoor.Tab
namespace Go.Proofs.YteogbpaaacmllabGreatDoor.Tab
set_option maxRecDepth 20000
open Go.RowKit
set_option linter.unusedVariables false

/-- What lies where a function goes over the calls: the row by, the row of calls, events, deeds. -/
structure Ly (n0 : Nat) (w0 : World) (L : List (Nat × List Value)) (g : Nat) (vc ve vd : Value) (cs : List CC) (n : Nat) (h : Nat → EV) (m : Nat) (q : Nat → DD) : Prop where
  row : cs = [] ∧ vc = .slice none 0 0 ∨ ∃ cap, vc = .slice (some ⟨g, 0, none⟩) cs.length cap ∧ cs.length ≤ cap ∧ (g, ccs cs) ∈ L
  good : GC h n cs
  ev : Ev w0 ve n h
  de : Dq w0 vd m q
  few : n ≤ 1000000 ∧ m ≤ 1000000
/-- by is another row. -/
def Given (n0 : Nat) (w0 : World) (L : List (Nat × List Value)) (bb g : Nat) (bl : List (Option Nat)) (e : Ending) (w' : World) : Prop := e = .returned .nilIface ∧ Ms n0 w0 w' ((bb, byr g bl) :: L) []
def Refused (n0 : Nat) (w0 : World) (L : List (Nat × List Value)) (bb g : Nat) (c : Int) (e : Ending) (w' : World) : Prop := e = .returned (.iface 59 (.int .i64 c)) ∧ ∃ bl, Ms n0 w0 w' ((bb, byr g bl) :: L) []
theorem Ms.pickT {n : Nat} {w W : World} {p r : Nat × List Value} {L : List (Nat × List Value)} {Q : List (Nat × Value × List Int)} (h : Ms n w W (p :: r :: L) Q) : Ms n w W (r :: L) Q := h.tail
theorem op_ne_of {d : DD} {e : EV} (h : ¬ Sm d e) : ¬ (d.t = e.th ∧ (d.o, d.k, d.x) = (e.o, e.k, e.x) ∧ d.c = e.c ∧ d.y = e.y) := h
set_option maxHeartbeats 16000000 in
theorem giveA_some {n0 : Nat} {w0 w : World} {L : List (Nat × List Value)} {bb g : Nat} {vd : Value} {b off c n m cap : Nat} {h : Nat → EV} {q : Nat → DD} {cs : List CC} {fin : List (Option Nat)} (hM : Ms n0 w0 w ((bb, byr g (List.replicate m none)) :: L) []) (Y : Ly n0 w0 L g (.slice (some ⟨g, 0, none⟩) cs.length cap) (.slice (some ⟨b, off, none⟩) n c) vd cs n h m q) (hcs : (g, ccs cs) ∈ L) (hcap : cs.length ≤ cap) (hc : n ≤ c) (hO : ansF h q m cs cs.length = .ok fin) :
    Calls Tryz.prog 40 #[.slice (some ⟨bb, 0, none⟩) m m, .slice (some ⟨g, 0, none⟩) cs.length cap, .slice (some ⟨b, off, none⟩) n c, vd] w (Given n0 w0 L bb g fin) := by
  obtain ⟨vda, vdc, rfl⟩ := Y.de.form
  have HE : Hid _ := hid Y.ev.all
  have HD : Hid _ := hid Y.de
  have GG : Hid (GC h n cs) := Y.good
  have HC : Hid (n ≤ c ∧ n ≤ 1000000 ∧ m ≤ 1000000 ∧ cs.length ≤ n ∧ cs.length ≤ cap) := ⟨hc, Y.few.1, Y.few.2, Y.good.len, hcap⟩
  have CI : Hid _ := hcs
  have HF : Hid _ := hO
  clear hO hcs hcap hc
  have HY : Hid _ := hid Y
  clear Y
  replace hM := hid hM
  obtain ⟨W, hW⟩ : ∃ q, q = w := ⟨_, rfl⟩
  subst hW
  go_enter Tryz.func40, Tryz.ntmps40
  go_wp2_with fail
  go_loopg [15] cs.length (fun gg s15 wt => ∃ (i : Nat) (bl : List (Option Nat)), i ≤ cs.length ∧ cs.length - i ≤ gg ∧ s15 = .int .i64 i ∧ Hid (ansF h q m cs i = .ok bl) ∧ Hid (Ms n0 w0 wt ((bb, byr g bl) :: L) []))
  case atStart => exact ⟨0, _, by omega, by omega, rfl, hid rfl, hM⟩
  case round =>
    clear hM
    obtain ⟨i, bl, hi, hgg, rfl, AF, hM⟩ := hrel
    obtain ⟨W, rfl⟩ : ∃ q, q = wr := ⟨_, rfl⟩
    by_cases hlt : i < cs.length
    · have hi0 : (0 : Int) ≤ (i : Int) := by omega
      have hil : (i : Int) < (cs.length : Int) := by omega
      obtain ⟨⟨a, zz⟩, hk⟩ : ∃ c, cs[i]? = some c := ⟨cs[i]'(by omega), List.getElem?_eq_getElem (by omega)⟩
      have CK : Hid _ := ccs_get cs i _ hk
      have HK : Hid _ := hk
      obtain ⟨b2, hst, haf⟩ := ansF_next HF.out hlt AF.out
      have AF2 : Hid _ := haf
      clear haf
      rw [cg_of hk] at hst
      rcases stepA_some (ansF_len AF.out) hst with ⟨hz, hb2⟩ | ⟨z, p, hz, hwh, hp, hsm, hbp, hb2⟩
      · replace hz : zz = none := hz
        subst zz
        subst hb2
        clear hst hk
        have c0 := (hM.out.tail.bo _ CI.out).cell (i * 2) _ CK.out.1
        have c1 := (hM.out.tail.bo _ CI.out).cell (i * 2 + 1) _ CK.out.2
        replace c1 : W.cell? ⟨g, i * 2 + 1, none⟩ = some (.int .i64 9223372036854775807) := c1
        replace hM := hid (hM.out.new (.cells #[.int .i64 (a : Nat), .int .i64 9223372036854775807] 121))
        go_wp2
        clear c0 c1
        go_roundg (cs.length - (i + 1))
        case measure => omega
        case rel => exact ⟨i + 1, b2, by omega, by omega, by have := HC.out; have hw : wrap64 ((i : Int) + 1) = ((i + 1 : Nat) : Int) := (by unfold wrap64; omega); rw [hw], AF2, hM⟩
      · replace hz : zz = some z := hz
        subst zz
        clear hst
        have DB : Hid _ := hb2
        clear hb2
        have hzn : z < n := (GG.out.lt _ (List.mem_of_getElem? hk)).2 z rfl
        obtain ⟨⟨kd, th, o, k, x, cc, y, wh, st⟩, he⟩ : ∃ e, h z = e := ⟨_, rfl⟩
        rw [he] at hwh hsm
        have hrow := fun W hb => (HE.out W hb z hzn).1
        rw [he] at hrow
        replace hwh : wh = (p : Nat) + 1 := hwh
        obtain ⟨db, doff, rfl, hdc⟩ := HD.out.some (by omega)
        obtain ⟨⟨dt, dO, dk, dx, dc, dy⟩, hq⟩ : ∃ d, q p = d := ⟨_, rfl⟩
        have hdr := fun W hb => HD.out.row W hb p hp
        rw [hq] at hdr hsm
        have DA : Hid (∀ W, Below w0.heap.size w0 W → W.rangeAt db (doff + p * 6) (dl dt dO dk dx dc dy)) := hdr
        have w1 : ¬ wh < 1 := by omega
        have w2 : ¬ (m : Int) < wh := by omega
        have hsub : wrap64 (wh - 1) = (p : Nat) := by have := HC.out; unfold wrap64; omega
        have hp0 : (0 : Int) ≤ (p : Int) := by omega
        have hp1 : (p : Int) < (m : Int) := by omega
        have EQ := fun w => deed_eq dt dO dk dx dc dy th o k x cc y true ⟨fun _ => hsm, fun _ => rfl⟩ w
        have HBP : Hid _ := hbp
        have HP : Hid (p < m) := hp
        clear hdr hq hsm hwh hp hdc hbp
        have z1 : ((z : Int) == 9223372036854775807) = false := beq_eq_false_iff_ne.2 (by have := HC.out; omega)
        have hz0 : (0 : Int) ≤ (z : Int) := by omega
        have hz1 : (z : Int) < (n : Int) := by omega
        have c0 := (hM.out.tail.bo _ CI.out).cell (i * 2) _ CK.out.1
        have c1 := (hM.out.tail.bo _ CI.out).cell (i * 2 + 1) _ CK.out.2
        replace c1 : W.cell? ⟨g, i * 2 + 1, none⟩ = some (.int .i64 (z : Nat)) := c1
        replace hM := hid (hM.out.new (.cells #[.int .i64 (a : Nat), .int .i64 (z : Nat)] 121))
        have RA : Hid ((W.alloc (.cells #[.int .i64 (a : Nat), .int .i64 (z : Nat)] 121)).rangeAt b (off + z * 9) (el kd th o k x cc y wh st)) := hrow _ hM.out.below
        obtain ⟨be, hbe⟩ : ∃ q, q = W.heap.size + 1 := ⟨_, rfl⟩
        have HBE : Hid _ := hbe
        clear hbe hrow he hk hzn
        go_wp2_with (first
          | (refine lO rfl RA.out rfl (rwEv kd th o k x cc y wh st) ?_; clear RA)
          | (rw [← HBE.out]
             replace hM := hid (hM.out.born [.int .i64 0, .int .i64 0, .int .i64 0, .int .i64 0, .int .i64 0, .int .i64 0, .int .i64 0, .int .i64 0, .int .i64 0] 56 (b := be) (by rw [HBE.out]; simp))
             refine sR rfl (hM.out.at 0 rfl) rfl ((rwEv 0 0 0 0 0 0 0 0 0).len (rwEv kd th o k x cc y wh st)) (rwEv kd th o k x cc y wh st) ?_
             replace hM := hid (hM.out.put 0 rfl (el kd th o k x cc y wh st) ((rwEv 0 0 0 0 0 0 0 0 0).len (rwEv kd th o k x cc y wh st)))
             generalize World.setCells _ _ _ _ = W at hM ⊢
             clear HBE
             have c1 := hM.out.cell 0 7 rfl rfl))
        clear c1
        replace hM := hid (hM.out.drew)
        refine wp_region_held_drew (S := fun w' => Bo w' be (el kd th o k x cc y wh st) ∧ w'.rangeAt db (doff + p * 6) (dl dt dO dk dx dc dy)) (by kernel_rfl) ⟨hM.out.at 0 rfl, DA.out _ hM.out.below⟩ (fun hH => ?_)
        generalize World.drew _ = W at hM hH  ⊢
        refine tk 0 rfl hH ?_
        simp only [Act.put, p1, p2, p3]
        refine tk 1 rfl hH ?_
        simp only [Act.put, p1, p2, p3]
        refine tk 2 rfl hH ?_
        simp only [Act.put, p1, p2, p3]
        refine tk 3 rfl hH ?_ (by intro w h; have c0 := rg0 h.2; have c1 := h.2 1 _ rfl; have c2 := h.2 2 _ rfl; have c3 := h.2 3 _ rfl; have c4 := h.2 4 _ rfl; have c5 := h.2 5 _ rfl; clear h; go_simp; try with_reducible rfl)
        simp only [Act.put, p1, p2, p3]
        refine tk 4 rfl hH ?_
        simp only [Act.put, p1, p2, p3]
        refine tk 5 rfl hH ?_ (by intro w h; have c0 := h.1.at 1 rfl; clear h; go_simp; try with_reducible rfl)
        simp only [Act.put, p1, p2, p3]
        refine tk 6 rfl hH ?_
        simp only [Act.put, p1, p2, p3]
        refine tk 7 rfl hH ?_ (by intro w h; have c0 := h.1.at 2 rfl; have c1 := h.1.at 3 rfl; have c2 := h.1.at 4 rfl; clear h; go_simp; try with_reducible rfl)
        simp only [Act.put, p1, p2, p3]
        refine tk 8 rfl hH ?_
        simp only [Act.put, p1, p2, p3]
        refine tk 9 rfl hH ?_ (by intro w h; have c0 := h.1.at 5 rfl; have c1 := h.1.at 6 rfl; clear h; go_simp; try with_reducible rfl)
        simp only [Act.put, p1, p2, p3]
        refine tk 10 rfl hH ?_
        simp only [Act.put, p1, p2, p3]
        refine tk 11 rfl hH ?_
        simp only [Act.put, p1, p2, p3]
        refine wpAnyH_done (by kernel_rfl) ?_ _
        have cb : W.cell? ⟨bb, p, none⟩ = some (.pointer none) := hM.out.cell 1 p rfl (byr_get HBP.out)
        have fb := hM.out.froz 1 p rfl
        go_wp2
        clear cb fb
        have hM2 : Hid (Ms n0 w0 (W.setCell ⟨bb, p, none⟩ (.pointer (some ⟨g, i * 2, none⟩))) ((be, (el kd th o k x cc y wh st)) :: (bb, byr g b2) :: L) []) := hid (hM.out.put1 1 p rfl (.pointer (some ⟨g, i * 2, none⟩)) (byr g b2) (by rw [byr_length, ansF_len AF.out]; exact HP.out) (by rw [DB.out]; exact byr_set g bl p i))
        go_roundg (cs.length - (i + 1))
        case measure => omega
        case rel => exact ⟨i + 1, b2, by omega, by omega, by have := HC.out; have hw : wrap64 ((i : Int) + 1) = ((i + 1 : Nat) : Int) := (by unfold wrap64; omega); rw [hw], AF2, hM2.out.tail⟩
    · obtain rfl : i = cs.length := by omega
      have hil : ¬ (cs.length : Int) < (cs.length : Int) := by omega
      obtain rfl : fin = bl := by have h := HF.out.symm.trans AF.out; injection h
      go_wp2
      go_ret
      exact ⟨rfl, hM⟩
set_option maxHeartbeats 16000000 in
theorem giveA_bad {n0 : Nat} {w0 w : World} {L : List (Nat × List Value)} {bb g : Nat} {vd : Value} {b off c n m cap : Nat} {h : Nat → EV} {q : Nat → DD} {cs : List CC} {fin : List (Option Nat)} {kb : Nat} {er : Int} (hM : Ms n0 w0 w ((bb, byr g (List.replicate m none)) :: L) []) (Y : Ly n0 w0 L g (.slice (some ⟨g, 0, none⟩) cs.length cap) (.slice (some ⟨b, off, none⟩) n c) vd cs n h m q) (hcs : (g, ccs cs) ∈ L) (hcap : cs.length ≤ cap) (hc : n ≤ c) (hk : kb < cs.length) (hO : ansF h q m cs kb = .ok fin) (hB : stepA h q m kb (cg cs kb) fin = .error er) :
    Calls Tryz.prog 40 #[.slice (some ⟨bb, 0, none⟩) m m, .slice (some ⟨g, 0, none⟩) cs.length cap, .slice (some ⟨b, off, none⟩) n c, vd] w (Refused n0 w0 L bb g er) := by
  obtain ⟨vda, vdc, rfl⟩ := Y.de.form
  have HE : Hid _ := hid Y.ev.all
  have HD : Hid _ := hid Y.de
  have GG : Hid (GC h n cs) := Y.good
  have HC : Hid (n ≤ c ∧ n ≤ 1000000 ∧ m ≤ 1000000 ∧ cs.length ≤ n ∧ cs.length ≤ cap) := ⟨hc, Y.few.1, Y.few.2, Y.good.len, hcap⟩
  have CI : Hid _ := hcs
  have HF : Hid _ := hO
  have HB : Hid _ := hB
  clear hO hcs hcap hc hB
  have HY : Hid _ := hid Y
  clear Y
  replace hM := hid hM
  obtain ⟨W, hW⟩ : ∃ q, q = w := ⟨_, rfl⟩
  subst hW
  go_enter Tryz.func40, Tryz.ntmps40
  go_wp2_with fail
  go_loopg [15] kb (fun gg s15 wt => ∃ (i : Nat) (bl : List (Option Nat)), i ≤ kb ∧ kb - i ≤ gg ∧ s15 = .int .i64 i ∧ Hid (ansF h q m cs i = .ok bl) ∧ Hid (Ms n0 w0 wt ((bb, byr g bl) :: L) []))
  case atStart => exact ⟨0, _, by omega, by omega, rfl, hid rfl, hM⟩
  case round =>
    clear hM
    obtain ⟨i, bl, hi, hgg, rfl, AF, hM⟩ := hrel
    obtain ⟨W, rfl⟩ : ∃ q, q = wr := ⟨_, rfl⟩
    by_cases hlt : i < kb
    · have hi0 : (0 : Int) ≤ (i : Int) := by omega
      have hil : (i : Int) < (cs.length : Int) := by omega
      obtain ⟨⟨a, zz⟩, hk⟩ : ∃ c, cs[i]? = some c := ⟨cs[i]'(by omega), List.getElem?_eq_getElem (by omega)⟩
      have CK : Hid _ := ccs_get cs i _ hk
      have HK : Hid _ := hk
      obtain ⟨b2, hst, haf⟩ := ansF_next HF.out hlt AF.out
      have AF2 : Hid _ := haf
      clear haf
      rw [cg_of hk] at hst
      rcases stepA_some (ansF_len AF.out) hst with ⟨hz, hb2⟩ | ⟨z, p, hz, hwh, hp, hsm, hbp, hb2⟩
      · replace hz : zz = none := hz
        subst zz
        subst hb2
        clear hst hk
        have c0 := (hM.out.tail.bo _ CI.out).cell (i * 2) _ CK.out.1
        have c1 := (hM.out.tail.bo _ CI.out).cell (i * 2 + 1) _ CK.out.2
        replace c1 : W.cell? ⟨g, i * 2 + 1, none⟩ = some (.int .i64 9223372036854775807) := c1
        replace hM := hid (hM.out.new (.cells #[.int .i64 (a : Nat), .int .i64 9223372036854775807] 121))
        go_wp2
        clear c0 c1
        go_roundg (kb - (i + 1))
        case measure => omega
        case rel => exact ⟨i + 1, b2, by omega, by omega, by have := HC.out; have hw : wrap64 ((i : Int) + 1) = ((i + 1 : Nat) : Int) := (by unfold wrap64; omega); rw [hw], AF2, hM⟩
      · replace hz : zz = some z := hz
        subst zz
        clear hst
        have DB : Hid _ := hb2
        clear hb2
        have hzn : z < n := (GG.out.lt _ (List.mem_of_getElem? hk)).2 z rfl
        obtain ⟨⟨kd, th, o, k, x, cc, y, wh, st⟩, he⟩ : ∃ e, h z = e := ⟨_, rfl⟩
        rw [he] at hwh hsm
        have hrow := fun W hb => (HE.out W hb z hzn).1
        rw [he] at hrow
        replace hwh : wh = (p : Nat) + 1 := hwh
        obtain ⟨db, doff, rfl, hdc⟩ := HD.out.some (by omega)
        obtain ⟨⟨dt, dO, dk, dx, dc, dy⟩, hq⟩ : ∃ d, q p = d := ⟨_, rfl⟩
        have hdr := fun W hb => HD.out.row W hb p hp
        rw [hq] at hdr hsm
        have DA : Hid (∀ W, Below w0.heap.size w0 W → W.rangeAt db (doff + p * 6) (dl dt dO dk dx dc dy)) := hdr
        have w1 : ¬ wh < 1 := by omega
        have w2 : ¬ (m : Int) < wh := by omega
        have hsub : wrap64 (wh - 1) = (p : Nat) := by have := HC.out; unfold wrap64; omega
        have hp0 : (0 : Int) ≤ (p : Int) := by omega
        have hp1 : (p : Int) < (m : Int) := by omega
        have EQ := fun w => deed_eq dt dO dk dx dc dy th o k x cc y true ⟨fun _ => hsm, fun _ => rfl⟩ w
        have HBP : Hid _ := hbp
        have HP : Hid (p < m) := hp
        clear hdr hq hsm hwh hp hdc hbp
        have z1 : ((z : Int) == 9223372036854775807) = false := beq_eq_false_iff_ne.2 (by have := HC.out; omega)
        have hz0 : (0 : Int) ≤ (z : Int) := by omega
        have hz1 : (z : Int) < (n : Int) := by omega
        have c0 := (hM.out.tail.bo _ CI.out).cell (i * 2) _ CK.out.1
        have c1 := (hM.out.tail.bo _ CI.out).cell (i * 2 + 1) _ CK.out.2
        replace c1 : W.cell? ⟨g, i * 2 + 1, none⟩ = some (.int .i64 (z : Nat)) := c1
        replace hM := hid (hM.out.new (.cells #[.int .i64 (a : Nat), .int .i64 (z : Nat)] 121))
        have RA : Hid ((W.alloc (.cells #[.int .i64 (a : Nat), .int .i64 (z : Nat)] 121)).rangeAt b (off + z * 9) (el kd th o k x cc y wh st)) := hrow _ hM.out.below
        obtain ⟨be, hbe⟩ : ∃ q, q = W.heap.size + 1 := ⟨_, rfl⟩
        have HBE : Hid _ := hbe
        clear hbe hrow he hk hzn
        go_wp2_with (first
          | (refine lO rfl RA.out rfl (rwEv kd th o k x cc y wh st) ?_; clear RA)
          | (rw [← HBE.out]
             replace hM := hid (hM.out.born [.int .i64 0, .int .i64 0, .int .i64 0, .int .i64 0, .int .i64 0, .int .i64 0, .int .i64 0, .int .i64 0, .int .i64 0] 56 (b := be) (by rw [HBE.out]; simp))
             refine sR rfl (hM.out.at 0 rfl) rfl ((rwEv 0 0 0 0 0 0 0 0 0).len (rwEv kd th o k x cc y wh st)) (rwEv kd th o k x cc y wh st) ?_
             replace hM := hid (hM.out.put 0 rfl (el kd th o k x cc y wh st) ((rwEv 0 0 0 0 0 0 0 0 0).len (rwEv kd th o k x cc y wh st)))
             generalize World.setCells _ _ _ _ = W at hM ⊢
             clear HBE
             have c1 := hM.out.cell 0 7 rfl rfl))
        clear c1
        replace hM := hid (hM.out.drew)
        refine wp_region_held_drew (S := fun w' => Bo w' be (el kd th o k x cc y wh st) ∧ w'.rangeAt db (doff + p * 6) (dl dt dO dk dx dc dy)) (by kernel_rfl) ⟨hM.out.at 0 rfl, DA.out _ hM.out.below⟩ (fun hH => ?_)
        generalize World.drew _ = W at hM hH  ⊢
        refine tk 0 rfl hH ?_
        simp only [Act.put, p1, p2, p3]
        refine tk 1 rfl hH ?_
        simp only [Act.put, p1, p2, p3]
        refine tk 2 rfl hH ?_
        simp only [Act.put, p1, p2, p3]
        refine tk 3 rfl hH ?_ (by intro w h; have c0 := rg0 h.2; have c1 := h.2 1 _ rfl; have c2 := h.2 2 _ rfl; have c3 := h.2 3 _ rfl; have c4 := h.2 4 _ rfl; have c5 := h.2 5 _ rfl; clear h; go_simp; try with_reducible rfl)
        simp only [Act.put, p1, p2, p3]
        refine tk 4 rfl hH ?_
        simp only [Act.put, p1, p2, p3]
        refine tk 5 rfl hH ?_ (by intro w h; have c0 := h.1.at 1 rfl; clear h; go_simp; try with_reducible rfl)
        simp only [Act.put, p1, p2, p3]
        refine tk 6 rfl hH ?_
        simp only [Act.put, p1, p2, p3]
        refine tk 7 rfl hH ?_ (by intro w h; have c0 := h.1.at 2 rfl; have c1 := h.1.at 3 rfl; have c2 := h.1.at 4 rfl; clear h; go_simp; try with_reducible rfl)
        simp only [Act.put, p1, p2, p3]
        refine tk 8 rfl hH ?_
        simp only [Act.put, p1, p2, p3]
        refine tk 9 rfl hH ?_ (by intro w h; have c0 := h.1.at 5 rfl; have c1 := h.1.at 6 rfl; clear h; go_simp; try with_reducible rfl)
        simp only [Act.put, p1, p2, p3]
        refine tk 10 rfl hH ?_
        simp only [Act.put, p1, p2, p3]
        refine tk 11 rfl hH ?_
        simp only [Act.put, p1, p2, p3]
        refine wpAnyH_done (by kernel_rfl) ?_ _
        have cb : W.cell? ⟨bb, p, none⟩ = some (.pointer none) := hM.out.cell 1 p rfl (byr_get HBP.out)
        have fb := hM.out.froz 1 p rfl
        go_wp2
        clear cb fb
        have hM2 : Hid (Ms n0 w0 (W.setCell ⟨bb, p, none⟩ (.pointer (some ⟨g, i * 2, none⟩))) ((be, (el kd th o k x cc y wh st)) :: (bb, byr g b2) :: L) []) := hid (hM.out.put1 1 p rfl (.pointer (some ⟨g, i * 2, none⟩)) (byr g b2) (by rw [byr_length, ansF_len AF.out]; exact HP.out) (by rw [DB.out]; exact byr_set g bl p i))
        go_roundg (kb - (i + 1))
        case measure => omega
        case rel => exact ⟨i + 1, b2, by omega, by omega, by have := HC.out; have hw : wrap64 ((i : Int) + 1) = ((i + 1 : Nat) : Int) := (by unfold wrap64; omega); rw [hw], AF2, hM2.out.tail⟩
    · obtain rfl : i = kb := by omega
      obtain rfl : bl = fin := by have h := AF.out.symm.trans HF.out; injection h
      have hi0 : (0 : Int) ≤ (i : Int) := by omega
      have hil : (i : Int) < (cs.length : Int) := by omega
      obtain ⟨⟨a, zz⟩, hk⟩ : ∃ c, cs[i]? = some c := ⟨cs[i]'(by omega), List.getElem?_eq_getElem (by omega)⟩
      have CK : Hid _ := ccs_get cs i _ hk
      have HK : Hid _ := hk
      have hst := HB.out
      rw [cg_of hk] at hst
      obtain ⟨z, hz, hor⟩ := stepA_err (ansF_len AF.out) hst
      replace hz : zz = some z := hz
      subst zz
      clear hst
      have hzn : z < n := (GG.out.lt _ (List.mem_of_getElem? hk)).2 z rfl
      rcases hor with ⟨hwh, rfl⟩ | ⟨hw1, hwh, rfl⟩ | ⟨p, hwh, hp, ⟨hsm, rfl⟩ | ⟨hsm, hbp, rfl⟩⟩
      · obtain ⟨⟨kd, th, o, k, x, cc, y, wh, st⟩, he⟩ : ∃ e, h z = e := ⟨_, rfl⟩
        rw [he] at hwh
        have w1 : wh < 1 := hwh
        have hrow := fun W hb => (HE.out W hb z hzn).1
        rw [he] at hrow
        have z1 : ((z : Int) == 9223372036854775807) = false := beq_eq_false_iff_ne.2 (by have := HC.out; omega)
        have hz0 : (0 : Int) ≤ (z : Int) := by omega
        have hz1 : (z : Int) < (n : Int) := by omega
        have c0 := (hM.out.tail.bo _ CI.out).cell (i * 2) _ CK.out.1
        have c1 := (hM.out.tail.bo _ CI.out).cell (i * 2 + 1) _ CK.out.2
        replace c1 : W.cell? ⟨g, i * 2 + 1, none⟩ = some (.int .i64 (z : Nat)) := c1
        replace hM := hid (hM.out.new (.cells #[.int .i64 (a : Nat), .int .i64 (z : Nat)] 121))
        have RA : Hid ((W.alloc (.cells #[.int .i64 (a : Nat), .int .i64 (z : Nat)] 121)).rangeAt b (off + z * 9) (el kd th o k x cc y wh st)) := hrow _ hM.out.below
        obtain ⟨be, hbe⟩ : ∃ q, q = W.heap.size + 1 := ⟨_, rfl⟩
        have HBE : Hid _ := hbe
        clear hbe hrow he hk hzn
        go_wp2_with (first
          | (refine lO rfl RA.out rfl (rwEv kd th o k x cc y wh st) ?_; clear RA)
          | (rw [← HBE.out]
             replace hM := hid (hM.out.born [.int .i64 0, .int .i64 0, .int .i64 0, .int .i64 0, .int .i64 0, .int .i64 0, .int .i64 0, .int .i64 0, .int .i64 0] 56 (b := be) (by rw [HBE.out]; simp))
             refine sR rfl (hM.out.at 0 rfl) rfl ((rwEv 0 0 0 0 0 0 0 0 0).len (rwEv kd th o k x cc y wh st)) (rwEv kd th o k x cc y wh st) ?_
             replace hM := hid (hM.out.put 0 rfl (el kd th o k x cc y wh st) ((rwEv 0 0 0 0 0 0 0 0 0).len (rwEv kd th o k x cc y wh st)))
             generalize World.setCells _ _ _ _ = W at hM ⊢
             clear HBE
             have c1 := hM.out.cell 0 7 rfl rfl))
        clear c1
        go_ret
        exact ⟨rfl, bl, hM.out.tail⟩
      · obtain ⟨⟨kd, th, o, k, x, cc, y, wh, st⟩, he⟩ : ∃ e, h z = e := ⟨_, rfl⟩
        rw [he] at hwh hw1
        have w1 : ¬ wh < 1 := hw1
        have w2 : (m : Int) < wh := hwh
        have hrow := fun W hb => (HE.out W hb z hzn).1
        rw [he] at hrow
        have z1 : ((z : Int) == 9223372036854775807) = false := beq_eq_false_iff_ne.2 (by have := HC.out; omega)
        have hz0 : (0 : Int) ≤ (z : Int) := by omega
        have hz1 : (z : Int) < (n : Int) := by omega
        have c0 := (hM.out.tail.bo _ CI.out).cell (i * 2) _ CK.out.1
        have c1 := (hM.out.tail.bo _ CI.out).cell (i * 2 + 1) _ CK.out.2
        replace c1 : W.cell? ⟨g, i * 2 + 1, none⟩ = some (.int .i64 (z : Nat)) := c1
        replace hM := hid (hM.out.new (.cells #[.int .i64 (a : Nat), .int .i64 (z : Nat)] 121))
        have RA : Hid ((W.alloc (.cells #[.int .i64 (a : Nat), .int .i64 (z : Nat)] 121)).rangeAt b (off + z * 9) (el kd th o k x cc y wh st)) := hrow _ hM.out.below
        obtain ⟨be, hbe⟩ : ∃ q, q = W.heap.size + 1 := ⟨_, rfl⟩
        have HBE : Hid _ := hbe
        clear hbe hrow he hk hzn
        go_wp2_with (first
          | (refine lO rfl RA.out rfl (rwEv kd th o k x cc y wh st) ?_; clear RA)
          | (rw [← HBE.out]
             replace hM := hid (hM.out.born [.int .i64 0, .int .i64 0, .int .i64 0, .int .i64 0, .int .i64 0, .int .i64 0, .int .i64 0, .int .i64 0, .int .i64 0] 56 (b := be) (by rw [HBE.out]; simp))
             refine sR rfl (hM.out.at 0 rfl) rfl ((rwEv 0 0 0 0 0 0 0 0 0).len (rwEv kd th o k x cc y wh st)) (rwEv kd th o k x cc y wh st) ?_
             replace hM := hid (hM.out.put 0 rfl (el kd th o k x cc y wh st) ((rwEv 0 0 0 0 0 0 0 0 0).len (rwEv kd th o k x cc y wh st)))
             generalize World.setCells _ _ _ _ = W at hM ⊢
             clear HBE
             have c1 := hM.out.cell 0 7 rfl rfl))
        clear c1
        go_ret
        exact ⟨rfl, bl, hM.out.tail⟩
      · obtain ⟨⟨kd, th, o, k, x, cc, y, wh, st⟩, he⟩ : ∃ e, h z = e := ⟨_, rfl⟩
        rw [he] at hwh hsm
        have hrow := fun W hb => (HE.out W hb z hzn).1
        rw [he] at hrow
        replace hwh : wh = (p : Nat) + 1 := hwh
        obtain ⟨db, doff, rfl, hdc⟩ := HD.out.some (by omega)
        obtain ⟨⟨dt, dO, dk, dx, dc, dy⟩, hq⟩ : ∃ d, q p = d := ⟨_, rfl⟩
        have hdr := fun W hb => HD.out.row W hb p hp
        rw [hq] at hdr hsm
        have DA : Hid (∀ W, Below w0.heap.size w0 W → W.rangeAt db (doff + p * 6) (dl dt dO dk dx dc dy)) := hdr
        have w1 : ¬ wh < 1 := by omega
        have w2 : ¬ (m : Int) < wh := by omega
        have hsub : wrap64 (wh - 1) = (p : Nat) := by have := HC.out; unfold wrap64; omega
        have hp0 : (0 : Int) ≤ (p : Int) := by omega
        have hp1 : (p : Int) < (m : Int) := by omega
        have EQ := fun w => deed_eq dt dO dk dx dc dy th o k x cc y false ⟨fun h => (by cases h), fun h => absurd h hsm⟩ w
        have HP : Hid (p < m) := hp
        clear hdr hq hsm hwh hp hdc
        have z1 : ((z : Int) == 9223372036854775807) = false := beq_eq_false_iff_ne.2 (by have := HC.out; omega)
        have hz0 : (0 : Int) ≤ (z : Int) := by omega
        have hz1 : (z : Int) < (n : Int) := by omega
        have c0 := (hM.out.tail.bo _ CI.out).cell (i * 2) _ CK.out.1
        have c1 := (hM.out.tail.bo _ CI.out).cell (i * 2 + 1) _ CK.out.2
        replace c1 : W.cell? ⟨g, i * 2 + 1, none⟩ = some (.int .i64 (z : Nat)) := c1
        replace hM := hid (hM.out.new (.cells #[.int .i64 (a : Nat), .int .i64 (z : Nat)] 121))
        have RA : Hid ((W.alloc (.cells #[.int .i64 (a : Nat), .int .i64 (z : Nat)] 121)).rangeAt b (off + z * 9) (el kd th o k x cc y wh st)) := hrow _ hM.out.below
        obtain ⟨be, hbe⟩ : ∃ q, q = W.heap.size + 1 := ⟨_, rfl⟩
        have HBE : Hid _ := hbe
        clear hbe hrow he hk hzn
        go_wp2_with (first
          | (refine lO rfl RA.out rfl (rwEv kd th o k x cc y wh st) ?_; clear RA)
          | (rw [← HBE.out]
             replace hM := hid (hM.out.born [.int .i64 0, .int .i64 0, .int .i64 0, .int .i64 0, .int .i64 0, .int .i64 0, .int .i64 0, .int .i64 0, .int .i64 0] 56 (b := be) (by rw [HBE.out]; simp))
             refine sR rfl (hM.out.at 0 rfl) rfl ((rwEv 0 0 0 0 0 0 0 0 0).len (rwEv kd th o k x cc y wh st)) (rwEv kd th o k x cc y wh st) ?_
             replace hM := hid (hM.out.put 0 rfl (el kd th o k x cc y wh st) ((rwEv 0 0 0 0 0 0 0 0 0).len (rwEv kd th o k x cc y wh st)))
             generalize World.setCells _ _ _ _ = W at hM ⊢
             clear HBE
             have c1 := hM.out.cell 0 7 rfl rfl))
        clear c1
        replace hM := hid (hM.out.drew)
        refine wp_region_held_drew (S := fun w' => Bo w' be (el kd th o k x cc y wh st) ∧ w'.rangeAt db (doff + p * 6) (dl dt dO dk dx dc dy)) (by kernel_rfl) ⟨hM.out.at 0 rfl, DA.out _ hM.out.below⟩ (fun hH => ?_)
        generalize World.drew _ = W at hM hH  ⊢
        refine tk 0 rfl hH ?_
        simp only [Act.put, p1, p2, p3]
        refine tk 1 rfl hH ?_
        simp only [Act.put, p1, p2, p3]
        refine tk 2 rfl hH ?_
        simp only [Act.put, p1, p2, p3]
        refine tk 3 rfl hH ?_ (by intro w h; have c0 := rg0 h.2; have c1 := h.2 1 _ rfl; have c2 := h.2 2 _ rfl; have c3 := h.2 3 _ rfl; have c4 := h.2 4 _ rfl; have c5 := h.2 5 _ rfl; clear h; go_simp; try with_reducible rfl)
        simp only [Act.put, p1, p2, p3]
        refine tk 4 rfl hH ?_
        simp only [Act.put, p1, p2, p3]
        refine tk 5 rfl hH ?_ (by intro w h; have c0 := h.1.at 1 rfl; clear h; go_simp; try with_reducible rfl)
        simp only [Act.put, p1, p2, p3]
        refine tk 6 rfl hH ?_
        simp only [Act.put, p1, p2, p3]
        refine tk 7 rfl hH ?_ (by intro w h; have c0 := h.1.at 2 rfl; have c1 := h.1.at 3 rfl; have c2 := h.1.at 4 rfl; clear h; go_simp; try with_reducible rfl)
        simp only [Act.put, p1, p2, p3]
        refine tk 8 rfl hH ?_
        simp only [Act.put, p1, p2, p3]
        refine tk 9 rfl hH ?_ (by intro w h; have c0 := h.1.at 5 rfl; have c1 := h.1.at 6 rfl; clear h; go_simp; try with_reducible rfl)
        simp only [Act.put, p1, p2, p3]
        refine tk 10 rfl hH ?_
        simp only [Act.put, p1, p2, p3]
        refine tk 11 rfl hH ?_
        simp only [Act.put, p1, p2, p3]
        refine wpAnyH_done (by kernel_rfl) ?_ _
        go_wp2
        go_ret
        exact ⟨rfl, bl, hM.out.tail⟩
      · obtain ⟨⟨kd, th, o, k, x, cc, y, wh, st⟩, he⟩ : ∃ e, h z = e := ⟨_, rfl⟩
        rw [he] at hwh hsm
        have hrow := fun W hb => (HE.out W hb z hzn).1
        rw [he] at hrow
        replace hwh : wh = (p : Nat) + 1 := hwh
        obtain ⟨db, doff, rfl, hdc⟩ := HD.out.some (by omega)
        obtain ⟨⟨dt, dO, dk, dx, dc, dy⟩, hq⟩ : ∃ d, q p = d := ⟨_, rfl⟩
        have hdr := fun W hb => HD.out.row W hb p hp
        rw [hq] at hdr hsm
        have DA : Hid (∀ W, Below w0.heap.size w0 W → W.rangeAt db (doff + p * 6) (dl dt dO dk dx dc dy)) := hdr
        have w1 : ¬ wh < 1 := by omega
        have w2 : ¬ (m : Int) < wh := by omega
        have hsub : wrap64 (wh - 1) = (p : Nat) := by have := HC.out; unfold wrap64; omega
        have hp0 : (0 : Int) ≤ (p : Int) := by omega
        have hp1 : (p : Int) < (m : Int) := by omega
        have EQ := fun w => deed_eq dt dO dk dx dc dy th o k x cc y true ⟨fun _ => hsm, fun _ => rfl⟩ w
        have HBP : Hid _ := hbp
        have HP : Hid (p < m) := hp
        clear hdr hq hsm hwh hp hdc hbp
        have z1 : ((z : Int) == 9223372036854775807) = false := beq_eq_false_iff_ne.2 (by have := HC.out; omega)
        have hz0 : (0 : Int) ≤ (z : Int) := by omega
        have hz1 : (z : Int) < (n : Int) := by omega
        have c0 := (hM.out.tail.bo _ CI.out).cell (i * 2) _ CK.out.1
        have c1 := (hM.out.tail.bo _ CI.out).cell (i * 2 + 1) _ CK.out.2
        replace c1 : W.cell? ⟨g, i * 2 + 1, none⟩ = some (.int .i64 (z : Nat)) := c1
        replace hM := hid (hM.out.new (.cells #[.int .i64 (a : Nat), .int .i64 (z : Nat)] 121))
        have RA : Hid ((W.alloc (.cells #[.int .i64 (a : Nat), .int .i64 (z : Nat)] 121)).rangeAt b (off + z * 9) (el kd th o k x cc y wh st)) := hrow _ hM.out.below
        obtain ⟨be, hbe⟩ : ∃ q, q = W.heap.size + 1 := ⟨_, rfl⟩
        have HBE : Hid _ := hbe
        clear hbe hrow he hk hzn
        go_wp2_with (first
          | (refine lO rfl RA.out rfl (rwEv kd th o k x cc y wh st) ?_; clear RA)
          | (rw [← HBE.out]
             replace hM := hid (hM.out.born [.int .i64 0, .int .i64 0, .int .i64 0, .int .i64 0, .int .i64 0, .int .i64 0, .int .i64 0, .int .i64 0, .int .i64 0] 56 (b := be) (by rw [HBE.out]; simp))
             refine sR rfl (hM.out.at 0 rfl) rfl ((rwEv 0 0 0 0 0 0 0 0 0).len (rwEv kd th o k x cc y wh st)) (rwEv kd th o k x cc y wh st) ?_
             replace hM := hid (hM.out.put 0 rfl (el kd th o k x cc y wh st) ((rwEv 0 0 0 0 0 0 0 0 0).len (rwEv kd th o k x cc y wh st)))
             generalize World.setCells _ _ _ _ = W at hM ⊢
             clear HBE
             have c1 := hM.out.cell 0 7 rfl rfl))
        clear c1
        replace hM := hid (hM.out.drew)
        refine wp_region_held_drew (S := fun w' => Bo w' be (el kd th o k x cc y wh st) ∧ w'.rangeAt db (doff + p * 6) (dl dt dO dk dx dc dy)) (by kernel_rfl) ⟨hM.out.at 0 rfl, DA.out _ hM.out.below⟩ (fun hH => ?_)
        generalize World.drew _ = W at hM hH  ⊢
        refine tk 0 rfl hH ?_
        simp only [Act.put, p1, p2, p3]
        refine tk 1 rfl hH ?_
        simp only [Act.put, p1, p2, p3]
        refine tk 2 rfl hH ?_
        simp only [Act.put, p1, p2, p3]
        refine tk 3 rfl hH ?_ (by intro w h; have c0 := rg0 h.2; have c1 := h.2 1 _ rfl; have c2 := h.2 2 _ rfl; have c3 := h.2 3 _ rfl; have c4 := h.2 4 _ rfl; have c5 := h.2 5 _ rfl; clear h; go_simp; try with_reducible rfl)
        simp only [Act.put, p1, p2, p3]
        refine tk 4 rfl hH ?_
        simp only [Act.put, p1, p2, p3]
        refine tk 5 rfl hH ?_ (by intro w h; have c0 := h.1.at 1 rfl; clear h; go_simp; try with_reducible rfl)
        simp only [Act.put, p1, p2, p3]
        refine tk 6 rfl hH ?_
        simp only [Act.put, p1, p2, p3]
        refine tk 7 rfl hH ?_ (by intro w h; have c0 := h.1.at 2 rfl; have c1 := h.1.at 3 rfl; have c2 := h.1.at 4 rfl; clear h; go_simp; try with_reducible rfl)
        simp only [Act.put, p1, p2, p3]
        refine tk 8 rfl hH ?_
        simp only [Act.put, p1, p2, p3]
        refine tk 9 rfl hH ?_ (by intro w h; have c0 := h.1.at 5 rfl; have c1 := h.1.at 6 rfl; clear h; go_simp; try with_reducible rfl)
        simp only [Act.put, p1, p2, p3]
        refine tk 10 rfl hH ?_
        simp only [Act.put, p1, p2, p3]
        refine tk 11 rfl hH ?_
        simp only [Act.put, p1, p2, p3]
        refine wpAnyH_done (by kernel_rfl) ?_ _
        obtain ⟨xx, hxx⟩ := HBP.out
        have cb := hM.out.cell 1 p rfl (byr_get hxx)
        have cb2 : W.cell? ⟨bb, p, none⟩ = some (.pointer (some ⟨g, xx * 2, none⟩)) := cb
        clear cb
        go_wp2
        go_ret
        exact ⟨rfl, bl, hM.out.tail⟩
end Go.Proofs.YteogbpaaacmllabGreatDoor.Tab
