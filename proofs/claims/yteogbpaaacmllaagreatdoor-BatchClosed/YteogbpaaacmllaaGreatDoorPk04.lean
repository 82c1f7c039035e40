/- Texts laid together: A row of deeds of the call's own, as it lies; What an object does hangs on its seventeen words alone; deeds of a record behind asks are those of the object: facts of no program; Package record: isThread, by its contract; Package word: inside, Bit, Flip, by their contracts; Package word: inside, Bit, Flip, by their contracts; Package record: Toggle, by its contract; Package op's Fits, Answer and Told, by their contracts; Package record: Answer, by its contract; Package batch: Open, by its contracts; Package record: Kind, Object, by their contracts; Package record: answersRight, by its contract; Package record: numbersRight, by its contract; Package record: restRight, by its contract; Package record: Right, by its contract; Package object: Do, where it refuses; Package object: what is done, . -/
import Derived.Test.YteogbpaaacmllaaGreatDoorPk03
import Derived.Test.YteogbpaaacmllaaGreatDoorPk02
import Derived.Test.YteogbpaaacmllaaGreatDoorPk00
import Derived.Deep.DeepCutAuto
import Derived.Deep.RegionHeld3
import Derived.Test.YteogbpaaacmllaaGreatDoorRows
import Derived.WalkKit
import Derived.Test.YteogbpaaacmllaaGreatDoorPk01
import Derived.Maps.Own
namespace Go.Proofs.YteogbpaaacmllaaGreatDoor.Tab
set_option maxRecDepth 20000
open Go.RowKit
set_option linter.unusedVariables false

def dds (l : List DD) : List Value := l.flatMap DD.row
def qof (l : List DD) (i : Nat) : DD := l.getD i ⟨0, 0, 0, 0, 0, 0⟩
theorem dds_length (l : List DD) : (dds l).length = l.length * 6 := by
  induction l with
  | nil => rfl
  | cons c cs ih => show (c.row ++ dds cs).length = _; rw [List.length_append, ih]; simp [DD.row, dl]; omega
theorem dds_get : ∀ (l : List DD) (i j : Nat) (v : Value), i < l.length → (qof l i).row[j]? = some v → (dds l)[i * 6 + j]? = some v
  | [], i, j, v, hi, h => by simp at hi
  | d :: l, 0, j, v, hi, h => by
    rw [Nat.zero_mul, Nat.zero_add]
    show (d.row ++ dds l)[j]? = _
    have hj : j < d.row.length := (List.getElem?_eq_some_iff.1 h).1
    rw [List.getElem?_append_left hj]; exact h
  | d :: l, i + 1, j, v, hi, h => by
    have := dds_get l i j v (by simpa using hi) h
    show (d.row ++ dds l)[(i + 1) * 6 + j]? = _
    have hl : d.row.length = 6 := rfl
    rw [List.getElem?_append_right (by rw [hl]; omega), hl, show (i + 1) * 6 + j - 6 = i * 6 + j by omega]
    exact this
theorem dds_app (l : List DD) (d : DD) : dds (l ++ [d]) = dds l ++ d.row := by simp [dds]
theorem qof_app (l : List DD) (d : DD) {i : Nat} (hi : i < l.length) : qof (l ++ [d]) i = qof l i := by
  unfold qof; rw [List.getD_eq_getElem?_getD, List.getD_eq_getElem?_getD, List.getElem?_append_left hi]
theorem qof_last (l : List DD) (d : DD) : qof (l ++ [d]) l.length = d := by unfold qof; simp
theorem oi_congr {kind : Int} {q r : Nat → DD} : ∀ i, (∀ j, j < i → q j = r j) → oi kind q i = oi kind r i
  | 0, _ => rfl
  | i + 1, h => by
    show (odo kind (oi kind q i) (q i).o (q i).k (q i).x).1 = (odo kind (oi kind r i) (r i).o (r i).k (r i).x).1
    rw [oi_congr i fun j hj => h j (by omega), h i (by omega)]
theorem Ok1.congr {kind : Int} {q r : Nat → DD} {i : Nat} (h : ∀ j, j ≤ i → q j = r j) (ok : Ok1 kind q i) : Ok1 kind r i := by
  unfold Ok1 at ok ⊢
  rw [← oi_congr i fun j hj => h j (by omega), ← h i (Nat.le_refl _)]
  exact ok
def nd (o k x c y : Int) : DD := ⟨0, o, k, x, c, y⟩
theorem ok_app {kind : Int} {l : List DD} {o k x : Int} (hok : ∀ j, j < l.length → Ok1 kind (qof l) j) (hR : Rt o k x) {c y : Int} (hc : (odo kind (oi kind (qof l) l.length) o k x).2.1 = c) (hy : (odo kind (oi kind (qof l) l.length) o k x).2.2 = y) :
    (∀ j, j < (l ++ [nd o k x c y]).length → Ok1 kind (qof (l ++ [nd o k x c y])) j) ∧ oi kind (qof (l ++ [nd o k x c y])) (l ++ [nd o k x c y]).length = (odo kind (oi kind (qof l) l.length) o k x).1 := by
  have e : oi kind (qof (l ++ [nd o k x c y])) l.length = oi kind (qof l) l.length := oi_congr _ fun j hj => qof_app l _ hj
  have hq : qof (l ++ [nd o k x c y]) l.length = ⟨0, o, k, x, c, y⟩ := qof_last l _
  constructor
  · intro j hj
    rw [List.length_append] at hj
    by_cases hl : j < l.length
    · exact (hok j hl).congr fun i hi => (qof_app l _ (by omega)).symm
    · obtain rfl : j = l.length := by simp at hj; omega
      exact (Ok1.at hq).2 ⟨hR, by rw [e]; exact hc, by rw [e]; exact hy⟩
  · rw [List.length_append]
    show oi kind (qof (l ++ [nd o k x c y])) (l.length + 1) = _
    rw [oi_at hq, e]
/-- A row of deeds of the call's own. -/
def Odd (B : Nat) (W : World) (v : Value) (l : List DD) : Prop := W.ownsRow B 60 6 v l.length (dds l)
section
variable {B : Nat} {W W' : World} {v : Value} {l : List DD}
theorem Odd.nil (B : Nat) (W : World) : Odd B W (.slice none 0 0) [] := World.ownsRow_nil _ _ _ _
theorem Odd.keep (h : Odd B W v l) (hb : ∀ g, v.ownBlock = some g → W'.heap[g]? = W.heap[g]?) : Odd B W' v l := by
  refine ⟨h.1, ?_⟩
  rcases h.2 with e | ⟨g, cap, cur, hv, h1, h2, h3⟩
  · exact .inl e
  · exact .inr ⟨g, cap, cur, hv, h1, by rw [hb g (by rw [hv]; rfl)]; exact h2, h3⟩
theorem Odd.lt (h : Odd B W v l) : ∀ g, v.ownBlock = some g → B ≤ g ∧ g < W.heap.size := World.ownsRow.lt h
theorem Odd.later (h : Odd B W v l) (hb : Below W.heap.size W W') : Odd B W' v l := h.keep fun g hg => hb.block g (h.lt g hg).2
theorem Odd.new (h : Odd B W v l) (o : Obj) : Odd B (W.alloc o) v l := h.later (new_below W o)
theorem Odd.asideL (h : Odd B W v l) {c : Nat} (hc : ∀ g, v.ownBlock = some g → g ≠ c) (o : Nat) (vs : List Value) : Odd B (W.setCells c o vs) v l := h.keep fun g hg => heap_setCells (hc g hg) _ _ _
theorem Odd.aside (h : Odd B W v l) {c : Nat} (hc : c < B) (o : Nat) (vs : List Value) : Odd B (W.setCells c o vs) v l := h.asideL (fun g hg => by have := (h.lt g hg).1; omega) o vs
theorem Odd.form (h : Odd B W v l) : (v = .slice none 0 0 ∧ l = []) ∨ ∃ g cap, v = .slice (some ⟨g, 0, none⟩) l.length cap ∧ B ≤ g ∧ l.length ≤ cap ∧ Bo W g (dds l) := by
  rcases h.2 with ⟨e, e2⟩ | ⟨g, cap, cur, hv, h1, h2, h3, h4, h5, h6⟩
  · exact .inl ⟨e, List.length_eq_zero_iff.1 e2⟩
  · have h' : W.ownsRow B 60 6 (.slice (some ⟨g, 0, none⟩) l.length cap) l.length (dds l) := hv ▸ h
    refine .inr ⟨g, cap, hv, h1, h3, ⟨fun j u hu => ?_, fun j => World.ownsRow.frozenAt h' j, (h.lt g (by rw [hv]; rfl)).2⟩⟩
    have hj : j < l.length * 6 := by rw [← dds_length]; exact (List.getElem?_eq_some_iff.1 hu).1
    rw [World.ownsRow.cellAt h' j hj]; exact hu
theorem infoDeed : (Tryz.prog.info? 60).map (fun i => (i.zero, i.size, i.bytes)) = some (some (.agg #[.int .i64 0, .int .i64 0, .int .i64 0, .int .i64 0, .int .i64 0, .int .i64 0]), 6, 48) := by kernel_rfl
theorem deeds_desc : Tryz.prog.underlying 27 = some (.slice 60) := by kernel_rfl
theorem Odd.push (h : Odd B W v l) (hB : B ≤ W.heap.size) {nb : Nat} {d : DD} (hc : Bo W nb d.row) (hn : l.length ≤ 1000000) (ty : TypeId) :
    ∃ v' W', (Builtin.append_ #[27, 27] ty #[v, .slice (some ⟨nb, 0, none⟩) 1 1]).run Tryz.prog W = .ok v' W' ∧ Odd B W' v' (l ++ [d]) ∧ Below B W W' := by
  obtain ⟨i0, hi, hz0, hz1, hz2⟩ := info_parts infoDeed
  obtain ⟨v', w', hr, ho, hg, _⟩ := run_append_own (P := Tryz.prog) (w := W) B 27 ty 60 i0 (.agg #[.int .i64 0, .int .i64 0, .int .i64 0, .int .i64 0, .int .i64 0, .int .i64 0]) 6 48 deeds_desc hi hz0 hz1 hz2 rfl (by decide) v l.length (dds l) h ⟨nb, 0, none⟩ 1 1 d.row rfl
    (fun j u hu => by rw [Addr.add_lit, Nat.zero_add]; exact hc.cell j u hu)
    (fun u hu => by simp [DD.row, dl] at hu; rcases hu with rfl | rfl | rfl | rfl | rfl | rfl <;> rfl) (by unfold maxLen; omega) (by omega) hB
  refine ⟨v', w', hr, ?_, (Below.refl _ W).grown hg hB (fun j hj => (h.lt j hj).1)⟩
  unfold Odd
  rw [dds_app, List.length_append]
  exact ho
end
theorem Bo.deeds {W : World} {g : Nat} {l : List DD} (h : Bo W g (dds l)) {i : Nat} (hi : i < l.length) : W.rangeAt g (i * 6) (qof l i).row := fun j v hv => h.cell _ v (dds_get l i j v hi hv)
theorem Bo.dq {W : World} {g : Nat} {l : List DD} (h : Bo W g (dds l)) {n cap : Nat} (hn : n ≤ l.length) (hc : n ≤ cap) (h30 : l.length ≤ 1000000) : Dq W (.slice (some ⟨g, 0, none⟩) n cap) n (qof l) := by
  by_cases h0 : n = 0
  · subst h0; exact Or.inl ⟨rfl, _, _, rfl, fun h => by cases h⟩
  · exact Or.inr ⟨g, 0, cap, rfl, by omega, hc, by omega, fun i hi => by rw [Nat.zero_add]; exact h.deeds (by omega)⟩
section
variable {P : Program} {ops : Array Oper} {rest : List Oper} {o : Oper} {a : Act} {w : World} {Q : Exit → Act → World → Prop}
theorem wpList_pushD (hP : P = Tryz.prog) (hgd : o.guard = none) (s x : Operand) (ho : o.op = .call { callee := .builtin .append, args := #[s, x], argTypes := #[27, 27] })
    {B : Nat} {v : Value} {l : List DD} {nb : Nat} {d : DD} (hs : a.eval s = v) (hx : a.eval x = .slice (some ⟨nb, 0, none⟩) 1 1) (hB : B ≤ w.heap.size) (h : Odd B w v l) (hc : Bo w nb d.row) (hn : l.length ≤ 1000000)
    (hk : ∀ v' w', Odd B w' v' (l ++ [d]) → Below B w w' → wpList P ops Q rest (a.put o.dst v') w') : wpList P ops Q (o :: rest) a w := by
  subst hP
  refine wpList_plain hgd fun K hK => ?_
  obtain ⟨v', w', hr, h2, h3⟩ := h.push hB hc hn o.type
  unfold Oper.wp execOp
  simp only [ho, resolve, invoke, builtin, Sem.run_bind, Sem.run_pure, Result.andThen_ok, List.map_toArray, List.map_cons, List.map_nil, hs, hx, hr]
  exact hK _ _ (hk v' w' h2 h3)
end
end Go.Proofs.YteogbpaaacmllaaGreatDoor.Tab
namespace Go.Proofs.YteogbpaaacmllaaGreatDoor.Tab
set_option maxRecDepth 20000
open Go.RowKit
set_option linter.unusedVariables false

/-- Tables that have the same slots. -/
def Ag (t u : Tb) : Prop := ∀ i, i < 8 → u.k i = t.k i ∧ u.v i = t.v i
theorem Ag.set {t u : Tb} (h : Ag t u) (p : Nat) (x y : Int) : Ag (t.set p x y) (u.set p x y) := fun i hi => by
  rw [Tb.set_k, Tb.set_k, Tb.set_v, Tb.set_v]
  by_cases e : i = p
  · rw [if_pos e, if_pos e, if_pos e, if_pos e]; exact ⟨rfl, rfl⟩
  · rw [if_neg e, if_neg e, if_neg e, if_neg e]; exact h i hi
theorem Ag.plF {t u : Tb} (h : Ag t u) (k : Int) : ∀ n i, plF u k n i = plF t k n i
  | 0, _ => rfl
  | n + 1, i => by
    have e : Hit u k (rowAt k i) ↔ Hit t k (rowAt k i) := by unfold Hit; rw [(h _ (rowAt_lt k i)).1]
    show (if Hit u k (rowAt k i) then _ else _) = (if Hit t k (rowAt k i) then _ else _)
    by_cases hh : Hit t k (rowAt k i)
    · rw [if_pos hh, if_pos (e.2 hh)]
    · rw [if_neg hh, if_neg (fun a => hh (e.1 a))]; exact h.plF k n (i + 1)
theorem Ag.place {t u : Tb} (h : Ag t u) (k : Int) : place u k = place t k := h.plF k 7 0
theorem Ag.anew {t u : Tb} (h : Ag t u) {q : Nat} (hq : q < 8) : Ag (anew t q) (anew u q) := by
  unfold Tab.anew
  rw [(h q hq).1, (h q hq).2, (h.set q 0 0).place]
  exact (h.set q 0 0).set _ _ _
theorem Ag.woF : ∀ (n : Nat) {t u : Tb}, Ag t u → ∀ p, Ag (woF n t p) (woF n u p)
  | 0, _, _, h, _ => h
  | n + 1, t, u, h, p => by
    have hq : (p + 1) % 8 < 8 := Nat.mod_lt _ (by decide)
    show Ag (if t.k ((p + 1) % 8) = 0 then t else _) (if u.k ((p + 1) % 8) = 0 then u else _)
    rw [(h _ hq).1]
    by_cases e : t.k ((p + 1) % 8) = 0
    · rw [if_pos e, if_pos e]; exact h
    · rw [if_neg e, if_neg e]; exact Ag.woF n (h.anew hq) _
theorem Ag.tdo {t u : Tb} (h : Ag t u) (o k x : Int) : (tdo u o k x).2 = (tdo t o k x).2 ∧ Ag (tdo t o k x).1 (tdo u o k x).1 := by
  unfold Tab.tdo
  rw [h.place, len_congr h, (h _ (place_lt t k)).1, (h _ (place_lt t k)).2]
  by_cases h6 : o = 6
  · rw [if_pos h6, if_pos h6]; exact ⟨rfl, h⟩
  rw [if_neg h6, if_neg h6]
  by_cases hb : byKey o k
  · rw [if_pos hb, if_pos hb]
    by_cases h1 : o = 1
    · rw [if_pos h1, if_pos h1]
      by_cases hf : t.k (Tab.place t k) ≠ k ∧ 6 ≤ len t
      · rw [if_pos hf, if_pos hf]; exact ⟨rfl, h⟩
      · rw [if_neg hf, if_neg hf]; exact ⟨rfl, h.set _ _ _⟩
    rw [if_neg h1, if_neg h1]
    by_cases hk : t.k (Tab.place t k) ≠ k
    · rw [if_pos hk, if_pos hk]; exact ⟨rfl, h⟩
    rw [if_neg hk, if_neg hk]
    by_cases h2 : o = 2
    · rw [if_pos h2, if_pos h2]
      exact ⟨rfl, Ag.woF 7 (h.set _ 0 0) _⟩
    · rw [if_neg h2, if_neg h2]; exact ⟨rfl, h⟩
  · rw [if_neg hb, if_neg hb]; exact ⟨rfl, h⟩
theorem odo_congr {kind : Int} {c d : Nat → Nat} (h : isOb kind c) (e : ∀ j, j < 17 → d j = c j) (o k x : Int) : (odo kind d o k x).2 = (odo kind c o k x).2 ∧ ∀ j, j < 17 → (odo kind d o k x).1 j = (odo kind c o k x).1 j := by
  have wl : WList c → kind ≠ 5 → kind ≠ 6 → (odo kind d o k x).2 = (odo kind c o k x).2 ∧ ∀ j, j < 17 → (odo kind d o k x).1 j = (odo kind c o k x).1 j := fun h h5 h6 => by
    unfold odo
    rw [if_neg h5, if_neg h6, if_neg h5, if_neg h6, lst_congr h e]
    exact ⟨rfl, fun _ _ => rfl⟩
  rcases h with ⟨hk, hl⟩ | ⟨hk, hl, hp⟩ | ⟨hk, h1, h2, h3⟩ | ⟨hk, hl⟩
  · exact wl (isLb_w hl) (by omega) (by omega)
  · exact wl (isLb_w hl) (by omega) (by omega)
  · have ha : Ag (tbl c) (tbl d) := fun i hi => by
      unfold tbl
      exact ⟨by show ((d (2 * i) : Nat) : Int) = _; rw [e (2 * i) (by omega)], by show ((d (2 * i + 1) : Nat) : Int) = _; rw [e (2 * i + 1) (by omega)]⟩
    obtain ⟨a1, a2⟩ := ha.tdo o k x
    unfold odo
    rw [if_pos hk, if_pos hk]
    refine ⟨a1, fun j hj => ?_⟩
    show tw (tdo (tbl d) o k x).1 j = tw (tdo (tbl c) o k x).1 j
    unfold tw
    by_cases hj : j < 16
    · rw [if_pos hj, if_pos hj, (a2 (j / 2) (by omega)).1, (a2 (j / 2) (by omega)).2]
    · rw [if_neg hj, if_neg hj]
  · unfold odo
    rw [if_neg (by omega), if_pos hk, if_neg (by omega), if_pos hk, e 0 (by decide)]
    exact ⟨rfl, fun _ _ => rfl⟩
/-- Deeds, one more. -/
theorem ok_more {kind : Int} {l : List DD} {d : DD} (hok : ∀ j, j < l.length → Ok1 kind (qof l) j) (hR : Rt d.o d.k d.x) (hc : (odo kind (oi kind (qof l) l.length) d.o d.k d.x).2.1 = d.c) (hy : (odo kind (oi kind (qof l) l.length) d.o d.k d.x).2.2 = d.y) :
    (∀ j, j < (l ++ [d]).length → Ok1 kind (qof (l ++ [d])) j) ∧ oi kind (qof (l ++ [d])) (l ++ [d]).length = (odo kind (oi kind (qof l) l.length) d.o d.k d.x).1 := by
  have e : oi kind (qof (l ++ [d])) l.length = oi kind (qof l) l.length := oi_congr _ fun j hj => qof_app l _ hj
  have hq : qof (l ++ [d]) l.length = d := qof_last l _
  have hl : (l ++ [d]).length = l.length + 1 := by simp
  refine ⟨fun j hj => ?_, ?_⟩
  · rw [hl] at hj
    by_cases h : j = l.length
    · subst h
      unfold Ok1
      rw [e, hq]
      exact ⟨hR, hc, hy⟩
    · exact (hok j (by omega)).congr fun i hi => (qof_app l _ (by omega)).symm
  · rw [hl]
    show (odo kind (oi kind (qof (l ++ [d])) l.length) (qof (l ++ [d]) l.length).o (qof (l ++ [d]) l.length).k (qof (l ++ [d]) l.length).x).1 = _
    rw [e, hq]
/-- A record whose object is what the deeds l come to. -/
structure Lg (kk : Nat) (s : Nat → Nat) (l : List DD) (b : Nat) : Prop where
  isr : isRec s
  kind : s 0 = kk
  ok : ∀ j, j < l.length → Ok1 (kk : Nat) (qof l) j
  obj : ∀ j, j < 17 → oi (kk : Nat) (qof l) l.length j = ob s j
  cnt : s 28 = l.length
  few : l.length ≤ b
  ver : s 27 ≤ b
theorem Lg.new {kk : Nat} (h1 : 1 ≤ kk) (h6 : kk ≤ 6) : Lg kk (newR kk) [] 0 :=
  ⟨newR_rec h1 h6, by unfold newR; rw [if_pos rfl], fun j hj => absurd hj (Nat.not_lt_zero _), fun j hj => by show wz j = ob (newR kk) j; unfold ob newR wz; rw [if_neg (by omega)], by unfold newR; rw [if_neg (by decide)]; rfl, Nat.le_refl _, by unfold newR; rw [if_neg (by decide)]; exact Nat.le_refl _⟩
theorem Lg.bump {kk : Nat} {s : Nat → Nat} {l : List DD} {b : Nat} (h : Lg kk s l b) (hb : b < 1000000) : Lg kk (bump s) l (b + 1) := by
  have e : ∀ j, j ≠ 27 → Tab.bump s j = s j := fun j hj => by unfold Tab.bump upw; rw [if_neg hj]
  have e27 : Tab.bump s 27 = s 27 + 1 := by unfold Tab.bump upw; rw [if_pos rfl]
  obtain ⟨hO, hA, hN, hZ, hT⟩ := h.isr
  have hv := h.ver
  refine ⟨⟨?_, fun t ht => ?_, fun t ht => ?_, fun j hj => ?_, ?_⟩, by rw [e _ (by decide)]; exact h.kind, h.ok, fun j hj => by rw [h.obj j hj]; unfold ob; rw [e _ (by omega)], by rw [e _ (by decide)]; exact h.cnt, by have := h.few; omega, by rw [e27]; omega⟩
  · rw [e 0 (by decide)]; exact isOb_congr (fun j hj => by unfold ob; rw [e _ (by omega)]) hO
  · have := hA t ht; unfold aR1 at this ⊢; rw [e _ (by omega), e _ (by omega)]; exact this
  · have := hN t ht; unfold nR1 at this ⊢; rw [e _ (by omega), e _ (by decide)]; exact ⟨this.1, fun o ho => by rw [e _ (by omega)]; exact this.2 o ho⟩
  · rw [e _ (by omega)]; exact hZ j hj
  · exact ⟨by rw [e _ (by decide)]; exact hT.1, by rw [e27]; omega, by rw [e _ (by decide)]; exact hT.2.2⟩
/-- An ask of a thread, a toggle and an operation that there are. -/
def Gk (a : AK) : Prop := Ak1 a ∧ Rt a.o a.k a.x
theorem Lg.oka {kk : Nat} {s : Nat → Nat} {l : List DD} {b : Nat} (h : Lg kk s l b) {a : AK} (hg : Gk a) : Oka s a := ⟨hg.1, Or.inr ⟨h.isr, hg.2⟩⟩
theorem Lg.next {kk : Nat} {s : Nat → Nat} {l : List DD} {b : Nat} (h : Lg kk s l b) (hb : b < 1000000) {a : AK} (hg : Gk a) : Lg kk (nx s a) (l ++ nd' s a) (b + 1) := by
  by_cases hs : a.g = (bt s a.t.toNat : Nat)
  · rw [nx_shut hs, nd_shut hs, List.append_nil]
    exact ⟨h.isr, h.kind, h.ok, h.obj, h.cnt, by have := h.few; omega, by have := h.ver; omega⟩
  · rw [nx_open hs, nd_open hs]
    have ht : a.t.toNat < 4 := by have := hg.1.1; omega
    have hob := h.isr.1
    rw [h.kind] at hob
    have cg := odo_congr hob h.obj a.o a.k a.x
    have hk := h.kind
    have m := ok_more (d := ⟨a.t, a.o, a.k, a.x, (odo (s 0 : Nat) (ob s) a.o a.k a.x).2.1, (odo (s 0 : Nat) (ob s) a.o a.k a.x).2.2⟩) h.ok hg.2 (by rw [cg.1, hk]) (by rw [cg.1, hk])
    have hc := h.cnt; have hf := h.few; have hv := h.ver
    refine ⟨rdo_rec h.isr hg.2 ht (by omega), by rw [rdo_0 ht]; exact hk, m.1, fun j hj => ?_, ?_, ?_, ?_⟩
    · rw [m.2, rdo_ob ht j hj, hk]
      exact cg.2 j hj
    · rw [rdo_28, hc]; simp
    · simp; omega
    · rw [rdo_27 ht]; omega
theorem Lg.run {kk : Nat} {s : Nat → Nat} {l : List DD} {b : Nat} (h : Lg kk s l b) {q : Nat → AK} : ∀ {n}, b + n < 1000000 → (∀ i, i < n → Gk (q i)) → Lg kk (st s q n) (l ++ dn s q n) (b + n)
  | 0, _, _ => by show Lg kk s (l ++ []) b; rw [List.append_nil]; exact h
  | n + 1, hb, hg => by
    have ih := h.run (n := n) (by omega) fun i hi => hg i (by omega)
    have := ih.next (by omega) (hg n (Nat.lt_succ_self n))
    show Lg kk (nx (st s q n) (q n)) (l ++ (dn s q n ++ nd' (st s q n) (q n))) (b + (n + 1))
    rw [← List.append_assoc]
    exact this
theorem Lg.okas {kk : Nat} {s : Nat → Nat} {l : List DD} {b : Nat} (h : Lg kk s l b) {q : Nat → AK} {n : Nat} (hb : b + n < 1000000) (hg : ∀ i, i < n → Gk (q i)) : ∀ i, i < n → Oka (st s q i) (q i) := fun i hi => (h.run (n := i) (by omega) fun j hj => hg j (by omega)).oka (hg i hi)
end Go.Proofs.YteogbpaaacmllaaGreatDoor.Tab
namespace Go.Proofs.YteogbpaaacmllaaGreatDoor.Tab
set_option maxRecDepth 20000
open Go.RowKit
set_option linter.unusedVariables false

theorem isThread_yes {t : Int} (h0 : 0 ≤ t) (h4 : t < 4) (w : World) : Calls Tryz.prog 48 #[.int .i64 t] w fun e w' => e = .returned (.bool true) ∧ w' = w := by
  go_enter Tryz.func48, Tryz.ntmps48
  go_wp2
  go_ret
  exact ⟨rfl, rfl⟩
theorem isThread_no {t : Int} (h : t < 0 ∨ 4 ≤ t) (w : World) : Calls Tryz.prog 48 #[.int .i64 t] w fun e w' => e = .returned (.bool false) ∧ w' = w := by
  by_cases h1 : 0 ≤ t
  · have h2 : ¬ t < 4 := by omega
    clear h
    go_enter Tryz.func48, Tryz.ntmps48
    go_wp2
    go_ret
    exact ⟨rfl, rfl⟩
  · clear h
    go_enter Tryz.func48, Tryz.ntmps48
    go_wp2
    go_ret
    exact ⟨rfl, rfl⟩
end Go.Proofs.YteogbpaaacmllaaGreatDoor.Tab
namespace Go.Proofs.YteogbpaaacmllaaGreatDoor
set_option maxRecDepth 20000
open Go.RowKit

theorem inside_yes (a n : Int) (w : World) (h : 1 ≤ n) (h0 : 0 ≤ a) (h1 : a ≤ 64 - n) :
    Calls Tryz.prog 71 #[.int .i64 a, .int .i64 n] w fun e w' => e = .returned (.bool true) ∧ w' = w := by
  go_enter Tryz.func71, Tryz.ntmps71
  go_wp2
  go_ret
  exact ⟨rfl, rfl⟩

theorem inside_no (a n : Int) (w : World) (hn : n ≤ 9223372036854775807) (h : n < 1 ∨ a < 0 ∨ 64 - n < a) :
    Calls Tryz.prog 71 #[.int .i64 a, .int .i64 n] w fun e w' => e = .returned (.bool false) ∧ w' = w := by
  by_cases h1 : n < 1
  · have : ¬ 1 ≤ n := by omega
    clear h
    go_enter Tryz.func71, Tryz.ntmps71
    go_wp2
    go_ret
    exact ⟨rfl, rfl⟩
  · by_cases h2 : a < 0
    · have h1' : 1 ≤ n := by omega
      have : ¬ 0 ≤ a := by omega
      clear h h1
      go_enter Tryz.func71, Tryz.ntmps71
      go_wp2
      go_ret
      exact ⟨rfl, rfl⟩
    · have h1' : 1 ≤ n := by omega
      have h2' : 0 ≤ a := by omega
      have : ¬ a ≤ 64 - n := by omega
      clear h h1 h2
      go_enter Tryz.func71, Tryz.ntmps71
      go_wp2
      go_ret
      exact ⟨rfl, rfl⟩

end Go.Proofs.YteogbpaaacmllaaGreatDoor
namespace Go.Proofs.YteogbpaaacmllaaGreatDoor
set_option maxRecDepth 20000
open Go.RowKit

theorem Bit_no (x a : Int) (w : World) (h : a < 0 ∨ 63 < a) :
    Calls Tryz.prog 49 #[.int .u64 x, .int .i64 a] w fun e w' => e = .returned (.bool false) ∧ w' = w := by
  go_enter Tryz.func49, Tryz.ntmps49
  go_wp2_with (go_at_call 71; refine (inside_no _ _ _ (by decide) (by omega)).mono ?_; rintro e w' ⟨rfl, rfl⟩)
  go_ret
  exact ⟨rfl, rfl⟩

theorem Bit_yes (x k : Nat) (w : World) (hx : x < 18446744073709551616) (hk : k < 64) :
    Calls Tryz.prog 49 #[.int .u64 x, .int .i64 k] w fun e w' => e = .returned (.bool (x.testBit k)) ∧ w' = w := by
  go_enter Tryz.func49, Tryz.ntmps49
  go_wp2_with (go_at_call 71; refine (inside_yes _ _ _ (by decide) (by omega) (by omega)).mono ?_; rintro e w' ⟨rfl, rfl⟩)
  go_ret
  exact ⟨ret_bool (bit_test x k hx), rfl⟩

end Go.Proofs.YteogbpaaacmllaaGreatDoor
namespace Go.Proofs.YteogbpaaacmllaaGreatDoor.Tab
set_option maxRecDepth 20000
open Go.RowKit
set_option linter.unusedVariables false

set_option maxHeartbeats 2000000 in
theorem toggle_no (r : Nat → Nat) {t : Int} (h : t < 0 ∨ 4 ≤ t) (w : World) :
    Calls Tryz.prog 24 #[.agg (rl r).toArray, .int .i64 t] w (fun e w' => e = .returned (.int .i64 0) ∧ Below w.heap.size w w') := by
  have IT : Hid (∀ w : World, _) := isThread_no h
  clear h
  have hM : Hid _ := ((Ms.nil w).born (rl r) 24 (b := w.heap.size) rfl)
  go_enter Tryz.func24, Tryz.ntmps24
  go_wp2_with fail
  refine (IT.out _).mono ?_
  rintro e ux ⟨rfl, hw⟩
  rw [hw]; clear hw ux
  go_wp2
  go_ret
  exact ⟨rfl, hM.out.below⟩
set_option maxHeartbeats 2000000 in
theorem toggle_yes (r : Nat → Nat) {t : Nat} (ht : t < 4) (h26 : r 26 < 18446744073709551616) (w : World) :
    Calls Tryz.prog 24 #[.agg (rl r).toArray, .int .i64 (t : Nat)] w (fun e w' => e = .returned (.int .i64 (((r 26).testBit t).toNat : Nat)) ∧ Below w.heap.size w w') := by
  have IT : Hid (∀ w : World, _) := isThread_yes (t := (t : Nat)) (by omega) (by omega)
  have BI : Hid (∀ w : World, _) := fun w => Bit_yes (r 26) t w h26 (by omega)
  clear ht h26
  have hM : Hid _ := ((Ms.nil w).born (rl r) 24 (b := w.heap.size) rfl)
  have x1 := (hM.out.at 0 rfl).rword (show 26 < 32 by decide)
  generalize (r 26).testBit t = b at *
  go_enter Tryz.func24, Tryz.ntmps24
  go_wp2_with fail
  refine (IT.out _).mono ?_
  rintro e ux ⟨rfl, hw⟩
  rw [hw]; clear hw ux
  go_wp2_with fail
  refine (BI.out _).mono ?_
  rintro e ux ⟨rfl, hw⟩
  rw [hw]; clear hw ux
  cases b
  all_goals go_wp2
  all_goals go_ret
  all_goals exact ⟨rfl, hM.out.below⟩
end Go.Proofs.YteogbpaaacmllaaGreatDoor.Tab
namespace Go.Proofs.YteogbpaaacmllaaGreatDoor.Tab
set_option maxRecDepth 20000
open Go.RowKit
set_option linter.unusedVariables false

theorem ret_pair' {k : IntKind} {a b : Int} {v : Value} (h : a = b) : Ending.returned (.tuple #[.int k a, v]) = .returned (.tuple #[.int k b, v]) := by rw [h]
theorem and_mask (y m : Nat) (hy : y < 18446744073709551616) (hm : m ≤ 32) : bits .and .u64 (y : Int) ((2 ^ m - 1 : Nat) : Int) = ((y % 2 ^ m : Nat) : Int) := by
  have : 2 ^ m - 1 < 18446744073709551616 := by
    have : 2 ^ m ≤ 2 ^ 32 := Nat.pow_le_pow_right (by decide) hm
    omega
  rw [u64_and_nat _ _ hy this, Nat.and_two_pow_sub_one_eq_mod]
theorem of_val (x : Nat) (hx : x < 18446744073709551616) : wrap64 (bits .and .u64 (x : Int) 4294967295) = ((x % 4294967296 : Nat) : Int) := by
  have := and_mask x 32 hx (by decide)
  rw [show (4294967295 : Int) = ((2 ^ 32 - 1 : Nat) : Int) from rfl, this, IntWalk.wrap64_in _ (by omega)]
theorem opFits_is {c v : Int} (h : Ft c v) (w : World) :
    Calls Tryz.prog 93 #[.agg #[.int .i64 c, .int .i64 v]] w fun e w' => e = .returned (.bool true) ∧ w' = w.alloc (.cells #[.int .i64 c, .int .i64 v] 58) := by
  obtain ⟨h1, h2, h3, h4, h5⟩ := h
  by_cases hc : c = 1
  · subst hc
    clear h5
    go_enter Tryz.func93, Tryz.ntmps93
    go_wp2_with (go_at_call 44; refine (within_yes _ _ _ _ (by omega) (by omega)).mono ?_; rintro e w' ⟨rfl, rfl⟩)
    go_ret
    exact ⟨rfl, rfl⟩
  · obtain rfl : v = 0 := by omega
    clear h5
    go_enter Tryz.func93, Tryz.ntmps93
    go_wp2_with (go_at_call 44; refine (within_yes _ _ _ _ (by omega) (by omega)).mono ?_; rintro e w' ⟨rfl, rfl⟩)
    go_ret
    exact ⟨rfl, rfl⟩



theorem opFits_isnt {c v : Int} (h : ¬ Ft c v) (w : World) :
    Calls Tryz.prog 93 #[.agg #[.int .i64 c, .int .i64 v]] w fun e w' => e = .returned (.bool false) ∧ w' = w.alloc (.cells #[.int .i64 c, .int .i64 v] 58) := by
  rcases not_ft' h with ⟨rfl, hv⟩ | ⟨hc, h1⟩ | ⟨hc, ⟨h1, h2⟩, hv⟩
  · clear h
    go_enter Tryz.func93, Tryz.ntmps93
    go_wp2_with (go_at_call 44; refine (within_no _ _ _ _ hv).mono ?_; rintro e w' ⟨rfl, rfl⟩)
    go_ret
    exact ⟨rfl, rfl⟩
  · clear h
    go_enter Tryz.func93, Tryz.ntmps93
    go_wp2_with (go_at_call 44; refine (within_no _ _ _ _ h1).mono ?_; rintro e w' ⟨rfl, rfl⟩)
    go_ret
    exact ⟨rfl, rfl⟩
  · clear h
    have hv' : (v == 0) = false := beq_eq_false_iff_ne.2 hv
    go_enter Tryz.func93, Tryz.ntmps93
    go_wp2_with (go_at_call 44; refine (within_yes _ _ _ _ (by omega) (by omega)).mono ?_; rintro e w' ⟨rfl, rfl⟩)
    go_ret
    exact ⟨rfl, rfl⟩

theorem opFits_yes {c v : Int} (h : Ft c v) (w : World) :
    Calls Tryz.prog 93 #[.agg #[.int .i64 c, .int .i64 v]] w fun e w' => e = .returned (.bool true) ∧ Gr w w' :=
  (opFits_is h w).mono fun _ _ ⟨he, hw⟩ => ⟨he, hw ▸ (Gr.refl w).alloc _ _⟩
theorem opFits_no {c v : Int} (h : ¬ Ft c v) (w : World) :
    Calls Tryz.prog 93 #[.agg #[.int .i64 c, .int .i64 v]] w fun e w' => e = .returned (.bool false) ∧ Gr w w' :=
  (opFits_isnt h w).mono fun _ _ ⟨he, hw⟩ => ⟨he, hw ▸ (Gr.refl w).alloc _ _⟩



theorem ans_or (c v : Nat) (h2 : (c : Int) ≤ 5) (h6 : (v : Int) ≤ 4294967295) : bits .or .u64 ((c : Int) * 4294967296) (v : Int) = ((ansN c v : Nat) : Int) := by
  have e1 : (c : Int) * 4294967296 = ((c * 4294967296 : Nat) : Int) := by omega
  have a2 := Nat.two_pow_add_eq_or_of_lt (i := 32) (b := v) (by omega) c
  have b2 : c * 4294967296 ||| v = ansN c v := by
    rw [Nat.mul_comm c 4294967296]
    refine a2.symm.trans ?_
    unfold ansN; omega
  rw [e1, u64_or_nat _ _ (by omega) (by omega), b2]

theorem told_code (x : Nat) (hx : x < 18446744073709551616) : wrap64 ((x : Int) / 4294967296) = ((x / 4294967296 : Nat) : Int) := by
  rw [IntWalk.wrap64_in _ (by omega)]; omega

theorem Answer_no {c v : Int} (h : ¬ Ft c v) (w : World) :
    Calls Tryz.prog 67 #[.agg #[.int .i64 c, .int .i64 v]] w fun e w' => e = .returned (.tuple #[.int .u64 0, .iface 28 (.int .i64 1)]) ∧ Gr w w' := by
  go_enter Tryz.func67, Tryz.ntmps67
  go_wp2_with (go_at_call 93; refine (opFits_isnt h _).mono ?_; rintro e w' ⟨rfl, rfl⟩)
  go_ret2
  exact ⟨rfl, ((Gr.refl w).alloc _ _).alloc _ _⟩

theorem Answer_yes {c v : Nat} (h : Ft c v) (w : World) :
    Calls Tryz.prog 67 #[.agg #[.int .i64 c, .int .i64 v]] w fun e w' => e = .returned (.tuple #[.int .u64 (ansN c v : Nat), .nilIface]) ∧ Gr w w' := by
  obtain ⟨h1, h2, h3, h4, h5⟩ := id h
  clear h5
  go_enter Tryz.func67, Tryz.ntmps67
  go_wp2_with (go_at_call 93; refine (opFits_is h _).mono ?_; rintro e w' ⟨rfl, rfl⟩)
  go_ret2
  exact ⟨ret_pair' (ans_or c v h2 h4), ((Gr.refl w).alloc _ _).alloc _ _⟩

theorem Told_core (x : Nat) (a b : Int) (w : World) (e0 : wrap64 ((x : Int) / 4294967296) = a) (e2 : wrap64 (bits .and .u64 (x : Int) 4294967295) = b) (h : Ft a b) :
    Calls Tryz.prog 69 #[.int .u64 x] w fun e w' => e = .returned (.tuple #[.agg #[.int .i64 a, .int .i64 b], .nilIface]) ∧ Gr w w' := by
  go_enter Tryz.func69, Tryz.ntmps69
  go_wp2_with (go_at_call 93; refine (opFits_is h _).mono ?_; rintro e w' ⟨rfl, rfl⟩)
  exact bodyPost_ret (v := .tuple #[.agg #[.int .i64 a, .int .i64 b], .nilIface]) (by simp [results, Tryz.results69, go_sem]) rfl ⟨rfl, (((Gr.refl w).alloc _ _).alloc _ _).alloc _ _⟩

theorem Told_cono (x : Nat) (a b : Int) (w : World) (e0 : wrap64 ((x : Int) / 4294967296) = a) (e2 : wrap64 (bits .and .u64 (x : Int) 4294967295) = b) (h : ¬ Ft a b) :
    Calls Tryz.prog 69 #[.int .u64 x] w fun e w' => e = .returned (.tuple #[.agg #[.int .i64 0, .int .i64 0], .iface 28 (.int .i64 3)]) ∧ Gr w w' := by
  go_enter Tryz.func69, Tryz.ntmps69
  go_wp2_with (go_at_call 93; refine (opFits_isnt h _).mono ?_; rintro e w' ⟨rfl, rfl⟩)
  exact bodyPost_ret (v := .tuple #[.agg #[.int .i64 0, .int .i64 0], .iface 28 (.int .i64 3)]) (by simp [results, Tryz.results69, go_sem]) rfl ⟨rfl, (((Gr.refl w).alloc _ _).alloc _ _).alloc _ _⟩

theorem Told_yes {c v : Nat} (h : Ft c v) (w : World) :
    Calls Tryz.prog 69 #[.int .u64 (ansN c v : Nat)] w fun e w' => e = .returned (.tuple #[.agg #[.int .i64 c, .int .i64 v], .nilIface]) ∧ Gr w w' := by
  obtain ⟨p1, p2⟩ := ansN_parts h
  have hx := ansN_lt h
  exact Told_core _ _ _ w (by rw [told_code _ hx, p1]) (by rw [of_val _ hx, p2]) h

/-- No answer is this word. -/
def NoAns (x : Nat) : Prop := ¬ Ft ((x / 4294967296 : Nat) : Int) ((x % 4294967296 : Nat) : Int)

theorem Told_no (x : Nat) (hx : x < 18446744073709551616) (h : NoAns x) (w : World) :
    Calls Tryz.prog 69 #[.int .u64 (x : Nat)] w fun e w' => e = .returned (.tuple #[.agg #[.int .i64 0, .int .i64 0], .iface 28 (.int .i64 3)]) ∧ Gr w w' :=
  Told_cono x _ _ w (told_code x hx) (of_val x hx) h

theorem ans_cases (x : Nat) : NoAns x ∨ ∃ c v : Nat, Ft c v ∧ x = ansN c v := by
  by_cases h : Ft ((x / 4294967296 : Nat) : Int) ((x % 4294967296 : Nat) : Int)
  · exact Or.inr ⟨_, _, h, (ansN_of x).symm⟩
  · exact Or.inl h


theorem aw_iff (x : Nat) : Aw x ↔ ¬ NoAns x := by unfold NoAns; exact (Classical.not_not).symm
/-- Told, of any word. -/
theorem told_yes {x : Nat} (hx : x < 18446744073709551616) (h : Aw x) (w : World) :
    Calls Tryz.prog 69 #[.int .u64 (x : Nat)] w fun e w' => e = .returned (.tuple #[.agg #[.int .i64 (x / 4294967296 : Nat), .int .i64 (x % 4294967296 : Nat)], .nilIface]) ∧ Below w.heap.size w w' :=
  (Told_core x _ _ w (told_code x hx) (of_val x hx) h).mono fun _ _ ⟨he, hg⟩ => ⟨he, hg.below⟩
theorem told_no {x : Nat} (hx : x < 18446744073709551616) (h : ¬ Aw x) (w : World) :
    Calls Tryz.prog 69 #[.int .u64 (x : Nat)] w fun e w' => e = .returned (.tuple #[.agg #[.int .i64 0, .int .i64 0], .iface 28 (.int .i64 3)]) ∧ Below w.heap.size w w' :=
  (Told_cono x _ _ w (told_code x hx) (of_val x hx) h).mono fun _ _ ⟨he, hg⟩ => ⟨he, hg.below⟩
theorem answer_yes {c v : Nat} (h : Ft c v) (w : World) :
    Calls Tryz.prog 67 #[.agg #[.int .i64 c, .int .i64 v]] w fun e w' => e = .returned (.tuple #[.int .u64 (ansN c v : Nat), .nilIface]) ∧ Below w.heap.size w w' :=
  (Answer_yes h w).mono fun _ _ ⟨he, hg⟩ => ⟨he, hg.below⟩
end Go.Proofs.YteogbpaaacmllaaGreatDoor.Tab
namespace Go.Proofs.YteogbpaaacmllaaGreatDoor.Tab
set_option maxRecDepth 20000
open Go.RowKit
set_option linter.unusedVariables false

theorem res1ss {P : Program} {fn : Func} {p q r : Tmp} {ty : TypeId} {tmps : Array Value} {w : World} {b : Nat} {cs : List Value} (h : fn.results = #[.cell p ty, .tmp q, .tmp r]) (hB : Bo w b cs) (r1 : Rw P ty cs) (v u : Value) (hp : tmps.getD p undef = .pointer (some ⟨b, 0, none⟩) := by rfl) (hq : tmps.getD q undef = v := by rfl) (hr : tmps.getD r undef = u := by rfl) :
    (results fn tmps).run P w = .ok (.tuple #[.agg cs.toArray, v, u]) w := by
  obtain ⟨d, h1, h2⟩ := r1.lay
  have hp' : tmps[p]?.getD undef = .pointer (some ⟨b, 0, none⟩) := by simpa using hp
  have hq' : tmps[q]?.getD undef = v := by simpa using hq
  have hr' : tmps[r]?.getD undef = u := by simpa using hr
  simp [results, h, hp', hq', hr', asAddr, run_loadVar_mid w b 0 ty cs d hB.range h1 h2 r1.size]
set_option maxHeartbeats 2000000 in
theorem recAnswer_no (r : Nat → Nat) {t : Int} (h : t < 0 ∨ 4 ≤ t) (w : World) :
    Calls Tryz.prog 43 #[.agg (rl r).toArray, .int .i64 t] w (fun e w' => e = .returned (.tuple #[.agg #[.int .i64 0, .int .i64 0], .int .i64 0, .iface 28 (.int .i64 2)]) ∧ Below w.heap.size w w') := by
  have IT : Hid (∀ w : World, _) := isThread_no h
  clear h
  have hM : Hid _ := (((Ms.nil w).born (rl r) 24 (b := w.heap.size) rfl).born [.int .i64 0, .int .i64 0] 58 (b := w.heap.size + 1) (by simp))
  go_enter Tryz.func43, Tryz.ntmps43
  go_wp2_with fail
  refine (IT.out _).mono ?_
  rintro e ux ⟨rfl, hw⟩
  rw [hw]; clear hw ux
  go_wp2_with (first
    | (refine sR rfl (hM.out.at 0 rfl) rfl ((rwA 0 0).len (rwA 0 0)) (rwA 0 0) ?_
       replace hM := hid (hM.out.put 0 rfl [.int .i64 0, .int .i64 0] ((rwA 0 0).len (rwA 0 0)))
       generalize World.setCells _ _ _ _ = W at hM ⊢))
  exact bodyPost_ret (res1ss Tryz.results43 (hM.out.at 0 rfl) (rwA 0 0) (.int .i64 0) (.iface 28 (.int .i64 2))) rfl ⟨rfl, hM.out.below⟩
set_option maxHeartbeats 2000000 in
theorem recAnswer_none {r : Nat → Nat} (U : ∀ j, j < 32 → r j < 18446744073709551616) {i : Nat} (hi : i < 4) (ha : ¬ Aw (r (18 + i))) (w : World) :
    Calls Tryz.prog 43 #[.agg (rl r).toArray, .int .i64 (i : Nat)] w (fun e w' => e = .returned (.tuple #[.agg #[.int .i64 0, .int .i64 0], .int .i64 0, .iface 28 (.int .i64 8)]) ∧ Below w.heap.size w w') := by
  have IT : Hid (∀ w : World, _) := isThread_yes (t := (i : Nat)) (by omega) (by omega)
  have TO : Hid (∀ w : World, _) := fun w => told_no (U (18 + i) (by omega)) ha w
  have fa0 : (0 : Int) ≤ 18 + (i : Int) := by omega
  have fa1 : 18 + (i : Int) < 32 := by omega
  have fa2 : IntKind.i64.wrap (18 + (i : Int)) = 18 + i := by rw [IntKind.wrap_i64]; omega
  have fa3 : wrap64 (18 + (i : Int)) = 18 + i := by unfold wrap64; omega
  have fa4 : (18 + (i : Int)).toNat = 18 + i := by omega
  have fb0 : (0 : Int) ≤ 22 + (i : Int) := by omega
  have fb1 : 22 + (i : Int) < 32 := by omega
  have fb2 : IntKind.i64.wrap (22 + (i : Int)) = 22 + i := by rw [IntKind.wrap_i64]; omega
  have fb3 : wrap64 (22 + (i : Int)) = 22 + i := by unfold wrap64; omega
  have fb4 : (22 + (i : Int)).toNat = 22 + i := by omega
  have hx1 : 18 + i < 32 := by omega
  have hx2 : 22 + i < 32 := by omega
  obtain ⟨x, hx⟩ : ∃ x, r (18 + i) = x := ⟨_, rfl⟩
  have HX : Hid _ := hx
  rw [hx] at TO
  clear hx U ha hi
  have hM : Hid _ := (((Ms.nil w).born (rl r) 24 (b := w.heap.size) rfl).born [.int .i64 0, .int .i64 0] 58 (b := w.heap.size + 1) (by simp))
  have x1 := (hM.out.at 1 rfl).rwordx hx1 HX.out
  go_enter Tryz.func43, Tryz.ntmps43
  go_wp2_with fail
  refine (IT.out _).mono ?_
  rintro e ux ⟨rfl, hw⟩
  rw [hw]; clear hw ux
  go_wp2_with fail
  clear x1
  generalize World.alloc _ _ = W at hM ⊢
  generalize hsz : w.heap.size = n at hM ⊢
  clear hsz
  refine (TO.out _).mono ?_
  rintro e W ⟨rfl, hb⟩
  replace hM := hid (hM.out.later hb)
  clear hb
  obtain ⟨bq0, hq0⟩ : ∃ q, q = W.heap.size := ⟨_, rfl⟩
  replace hM := hid (hM.out.born [.int .i64 0, .int .i64 0] 58 hq0)
  have HQ : Hid _ := hq0
  clear hq0
  go_wp2_with (first
    | (rw [← HQ.out]; refine sR rfl (hM.out.at 0 rfl) rfl ((rwA 0 0).len (rwA _ _)) (rwA _ _) ?_
       replace hM := hid (hM.out.put 0 rfl [.int .i64 0, .int .i64 0] ((rwA 0 0).len (rwA _ _)))
       generalize World.setCells _ _ _ _ = W at hM ⊢)
    | (refine sR rfl (hM.out.at 1 rfl) rfl ((rwA 0 0).len (rwA 0 0)) (rwA 0 0) ?_
       replace hM := hid (hM.out.put 1 rfl [.int .i64 0, .int .i64 0] ((rwA 0 0).len (rwA 0 0)))
       generalize World.setCells _ _ _ _ = W at hM ⊢))
  exact bodyPost_ret (res1ss Tryz.results43 (hM.out.at 1 rfl) (rwA 0 0) (.int .i64 0) (.iface 28 (.int .i64 8))) rfl ⟨rfl, hM.out.below⟩
set_option maxHeartbeats 2000000 in
theorem recAnswer_yes {r : Nat → Nat} (U : ∀ j, j < 32 → r j < 18446744073709551616) {i : Nat} (hi : i < 4) (ha : Aw (r (18 + i))) (w : World) :
    Calls Tryz.prog 43 #[.agg (rl r).toArray, .int .i64 (i : Nat)] w (fun e w' => e = .returned (.tuple #[.agg #[.int .i64 (r (18 + i) / 4294967296 : Nat), .int .i64 (r (18 + i) % 4294967296 : Nat)], .int .i64 (IntKind.i64.wrap (r (22 + i) : Nat)), .nilIface]) ∧ Below w.heap.size w w') := by
  have IT : Hid (∀ w : World, _) := isThread_yes (t := (i : Nat)) (by omega) (by omega)
  have TO : Hid (∀ w : World, _) := fun w => told_yes (U (18 + i) (by omega)) ha w
  have fa0 : (0 : Int) ≤ 18 + (i : Int) := by omega
  have fa1 : 18 + (i : Int) < 32 := by omega
  have fa2 : IntKind.i64.wrap (18 + (i : Int)) = 18 + i := by rw [IntKind.wrap_i64]; omega
  have fa3 : wrap64 (18 + (i : Int)) = 18 + i := by unfold wrap64; omega
  have fa4 : (18 + (i : Int)).toNat = 18 + i := by omega
  have fb0 : (0 : Int) ≤ 22 + (i : Int) := by omega
  have fb1 : 22 + (i : Int) < 32 := by omega
  have fb2 : IntKind.i64.wrap (22 + (i : Int)) = 22 + i := by rw [IntKind.wrap_i64]; omega
  have fb3 : wrap64 (22 + (i : Int)) = 22 + i := by unfold wrap64; omega
  have fb4 : (22 + (i : Int)).toNat = 22 + i := by omega
  obtain ⟨y, hy⟩ : ∃ y, r (22 + i) = y := ⟨_, rfl⟩
  have hx1 : 18 + i < 32 := by omega
  have hx2 : 22 + i < 32 := by omega
  obtain ⟨x, hx⟩ : ∃ x, r (18 + i) = x := ⟨_, rfl⟩
  have HX : Hid _ := hx
  have HY : Hid _ := hy
  rw [hx] at TO ⊢
  rw [hy]
  clear hx U ha hi hy
  generalize x / 4294967296 = xa at *
  generalize x % 4294967296 = xb at *
  have hM : Hid _ := (((Ms.nil w).born (rl r) 24 (b := w.heap.size) rfl).born [.int .i64 0, .int .i64 0] 58 (b := w.heap.size + 1) (by simp))
  have x1 := (hM.out.at 1 rfl).rwordx hx1 HX.out
  go_enter Tryz.func43, Tryz.ntmps43
  go_wp2_with fail
  refine (IT.out _).mono ?_
  rintro e ux ⟨rfl, hw⟩
  rw [hw]; clear hw ux
  go_wp2_with fail
  clear x1
  generalize World.alloc _ _ = W at hM ⊢
  generalize hsz : w.heap.size = n at hM ⊢
  clear hsz
  refine (TO.out _).mono ?_
  rintro e W ⟨rfl, hb⟩
  replace hM := hid (hM.out.later hb)
  clear hb
  obtain ⟨bq0, hq0⟩ : ∃ q, q = W.heap.size := ⟨_, rfl⟩
  replace hM := hid (hM.out.born [.int .i64 0, .int .i64 0] 58 hq0)
  have HQ : Hid _ := hq0
  clear hq0
  go_wp2_with (first
    | (rw [← HQ.out]; refine sR rfl (hM.out.at 0 rfl) rfl ((rwA 0 0).len (rwA _ _)) (rwA _ _) ?_
       replace hM := hid (hM.out.put 0 rfl [.int .i64 (xa : Nat), .int .i64 (xb : Nat)] ((rwA 0 0).len (rwA _ _)))
       generalize World.setCells _ _ _ _ = W at hM ⊢))
  replace hM := hid (hM.out.drew)
  refine wp_region_held_drew (S := fun w' => Bo w' n (rl r) ∧ Bo w' bq0 [.int .i64 (xa : Nat), .int .i64 (xb : Nat)]) (by kernel_rfl) ⟨hM.out.at 2 rfl, hM.out.at 0 rfl⟩ (fun hH => ?_)
  generalize World.drew _ = W at hM hH  ⊢
  refine tk 0 rfl hH ?_ (by intro w h; have c0 := h.2.at 0 rfl; have c1 := h.2.at 1 rfl; clear h; go_simp; try with_reducible rfl)
  simp only [Act.put, p1, p2, p3]
  refine tk 1 rfl hH ?_
  simp only [Act.put, p1, p2, p3]
  refine tk 2 rfl hH ?_
  simp only [Act.put, p1, p2, p3]
  refine tk 3 rfl hH ?_
  simp only [Act.put, p1, p2, p3]
  refine tk 4 rfl hH ?_ (by intro w h; have c0 := h.1.rwordx hx2 HY.out; clear h; go_simp; try with_reducible rfl)
  simp only [Act.put, p1, p2, p3]
  refine tk 5 rfl hH ?_
  simp only [Act.put, p1, p2, p3]
  refine rd1 6 rfl (fun K hK => ?_)
  refine stR rfl (hM.out.at 1 rfl) ((rwA 0 0).len (rwA _ _)) (rwA _ _) ?_
  simp only [Act.put]
  replace hM := hid (hM.out.put 1 rfl [.int .i64 (xa : Nat), .int .i64 (xb : Nat)] ((rwA 0 0).len (rwA _ _)))
  refine hK.out _ _ ⟨hM.out.at 2 rfl, hM.out.at 0 rfl⟩ (fun hH => ?_)
  clear hK K
  generalize World.setCells _ _ _ _ = W at hM hH ⊢
  try simp only [Act.put, p1, p2, p3]
  refine tk 7 rfl hH ?_
  simp only [Act.put, p1, p2, p3]
  refine tk 8 rfl hH ?_
  simp only [Act.put, p1, p2, p3]
  refine wpAnyH_done (by kernel_rfl) ?_ _
  go_wp2
  exact bodyPost_ret (res1ss Tryz.results43 (hM.out.at 1 rfl) (rwA _ _) (.int .i64 (IntKind.i64.wrap (y : Nat))) .nilIface) rfl ⟨rfl, hM.out.below⟩
end Go.Proofs.YteogbpaaacmllaaGreatDoor.Tab
namespace Go.Proofs.YteogbpaaacmllaaGreatDoor.Tab
set_option maxRecDepth 20000
open Go.RowKit
set_option linter.unusedVariables false

set_option maxHeartbeats 2000000 in
theorem open_range (r : Nat → Nat) {t : Int} (h : t < 0 ∨ 4 ≤ t) (g o k x : Int) (w : World) :
    Calls Tryz.prog 28 #[.agg (rl r).toArray, .agg #[.int .i64 t, .int .i64 g, .int .i64 o, .int .i64 k, .int .i64 x]] w (fun e w' => e = .returned (.tuple #[.bool false, .iface 28 (.int .i64 2)]) ∧ Below w.heap.size w w') := by
  by_cases h1 : t < 0
  · clear h
    have hM : Hid _ := (((Ms.nil w).born (rl r) 24 (b := w.heap.size) rfl).born [.int .i64 t, .int .i64 g, .int .i64 o, .int .i64 k, .int .i64 x] 52 (b := w.heap.size + 1) (by simp))
    have c1 := hM.out.cell 0 0 rfl rfl
    have c2 := hM.out.cell 0 1 rfl rfl
    go_enter Tryz.func28, Tryz.ntmps28
    go_wp2
    go_ret2
    exact ⟨rfl, hM.out.below⟩
  · have h2 : t ≥ 4 := by omega
    clear h
    have hM : Hid _ := (((Ms.nil w).born (rl r) 24 (b := w.heap.size) rfl).born [.int .i64 t, .int .i64 g, .int .i64 o, .int .i64 k, .int .i64 x] 52 (b := w.heap.size + 1) (by simp))
    have c1 := hM.out.cell 0 0 rfl rfl
    have c2 := hM.out.cell 0 1 rfl rfl
    go_enter Tryz.func28, Tryz.ntmps28
    go_wp2
    go_ret2
    exact ⟨rfl, hM.out.below⟩
set_option maxHeartbeats 2000000 in
theorem open_arg (r : Nat → Nat) {t : Int} (h0 : 0 ≤ t) (h4 : t < 4) {g : Int} (h : ¬ (g = 0 ∨ g = 1)) (o k x : Int) (w : World) :
    Calls Tryz.prog 28 #[.agg (rl r).toArray, .agg #[.int .i64 t, .int .i64 g, .int .i64 o, .int .i64 k, .int .i64 x]] w (fun e w' => e = .returned (.tuple #[.bool false, .iface 28 (.int .i64 1)]) ∧ Below w.heap.size w w') := by
  have h1 : ¬ t < 0 := by omega
  have h2 : ¬ t ≥ 4 := by omega
  have h3 : (g != 0) = true := bne_iff_ne.2 fun e => h (Or.inl e)
  have h5 : (g != 1) = true := bne_iff_ne.2 fun e => h (Or.inr e)
  clear h h0 h4
  have hM : Hid _ := (((Ms.nil w).born (rl r) 24 (b := w.heap.size) rfl).born [.int .i64 t, .int .i64 g, .int .i64 o, .int .i64 k, .int .i64 x] 52 (b := w.heap.size + 1) (by simp))
  have c1 := hM.out.cell 0 0 rfl rfl
  have c2 := hM.out.cell 0 1 rfl rfl
  go_enter Tryz.func28, Tryz.ntmps28
  go_wp2
  go_ret2
  exact ⟨rfl, hM.out.below⟩
set_option maxHeartbeats 4000000 in
theorem open_yes {r : Nat → Nat} (h26 : r 26 < 18446744073709551616) {t : Nat} (ht : t < 4) {g : Int} (hg : g = 0 ∨ g = 1) (o k x : Int) {v : Bool} (hv : v = false ↔ g = (bt r t : Nat)) (w : World) :
    Calls Tryz.prog 28 #[.agg (rl r).toArray, .agg #[.int .i64 (t : Nat), .int .i64 g, .int .i64 o, .int .i64 k, .int .i64 x]] w (fun e w' => e = .returned (.tuple #[.bool v, .nilIface]) ∧ Below w.heap.size w w') := by
  unfold bt at hv
  have TG : Hid (∀ w : World, _) := toggle_yes r ht h26
  have h1 : ¬ (t : Int) < 0 := by omega
  have h2 : ¬ (t : Int) ≥ 4 := by omega
  clear ht h26
  generalize (r 26).testBit t = b at *
  obtain rfl : v = !(g == ((b.toNat : Nat) : Int)) := by
    rcases hg with rfl | rfl <;> cases b <;> cases v <;> revert hv <;> decide
  clear hv
  rcases hg with rfl | rfl <;> cases b
  · have hM : Hid _ := (((Ms.nil w).born (rl r) 24 (b := w.heap.size) rfl).born [.int .i64 (t : Nat), .int .i64 0, .int .i64 o, .int .i64 k, .int .i64 x] 52 (b := w.heap.size + 1) (by simp))
    have c1 := hM.out.cell 0 0 rfl rfl
    have c2 := hM.out.cell 0 1 rfl rfl
    go_enter Tryz.func28, Tryz.ntmps28
    go_wp2_with fail
    clear c1 c2
    generalize World.alloc _ _ = W at hM ⊢
    generalize hsz : w.heap.size = n at hM ⊢
    clear hsz
    replace hM := hid (hM.out.drew)
    refine wp_region_held_drew (S := fun w' => Bo w' n (rl r) ∧ Bo w' (n + 1) [.int .i64 (t : Nat), .int .i64 0, .int .i64 o, .int .i64 k, .int .i64 x]) (by kernel_rfl) ⟨hM.out.at 1 rfl, hM.out.at 0 rfl⟩ (fun hH => ?_)
    generalize World.drew _ = W at hM hH  ⊢
    refine tk 0 rfl hH ?_
    simp only [Act.put, p1, p2, p3]
    refine tk 1 rfl hH ?_ (by intro w h; have c0 := h.2.cell 1 _ rfl; clear h; go_simp; try with_reducible rfl)
    simp only [Act.put, p1, p2, p3]
    refine tkR 2 rfl hH (fun _ h => h.1) (rwR r) ?_
    simp only [Act.put, p1, p2, p3]
    refine tk 3 rfl hH ?_
    simp only [Act.put, p1, p2, p3]
    refine tk 4 rfl hH ?_ (by intro w h; have c0 := h.2.cell 0 _ rfl; clear h; go_simp; try with_reducible rfl)
    simp only [Act.put, p1, p2, p3]
    refine rd1 5 rfl (fun K hK => ?_)
    go_simp
    refine (TG.out _).mono ?_
    rintro e W ⟨rfl, hb⟩
    replace hM := hid (hM.out.later hb)
    clear hb
    go_wp2_with fail
    refine hK.out _ _ ⟨hM.out.at 1 rfl, hM.out.at 0 rfl⟩ (fun hH => ?_)
    clear hK K
    try simp only [Act.put, p1, p2, p3]
    refine tk 6 rfl hH ?_
    simp only [Act.put, p1, p2, p3]
    refine tk 7 rfl hH ?_
    simp only [Act.put, p1, p2, p3]
    refine tk 8 rfl hH ?_
    simp only [Act.put, p1, p2, p3]
    refine wpAnyH_done (by kernel_rfl) ?_ _
    go_wp2
    go_ret2
    exact ⟨rfl, hM.out.below⟩
  · have hM : Hid _ := (((Ms.nil w).born (rl r) 24 (b := w.heap.size) rfl).born [.int .i64 (t : Nat), .int .i64 0, .int .i64 o, .int .i64 k, .int .i64 x] 52 (b := w.heap.size + 1) (by simp))
    have c1 := hM.out.cell 0 0 rfl rfl
    have c2 := hM.out.cell 0 1 rfl rfl
    go_enter Tryz.func28, Tryz.ntmps28
    go_wp2_with fail
    clear c1 c2
    generalize World.alloc _ _ = W at hM ⊢
    generalize hsz : w.heap.size = n at hM ⊢
    clear hsz
    replace hM := hid (hM.out.drew)
    refine wp_region_held_drew (S := fun w' => Bo w' n (rl r) ∧ Bo w' (n + 1) [.int .i64 (t : Nat), .int .i64 0, .int .i64 o, .int .i64 k, .int .i64 x]) (by kernel_rfl) ⟨hM.out.at 1 rfl, hM.out.at 0 rfl⟩ (fun hH => ?_)
    generalize World.drew _ = W at hM hH  ⊢
    refine tk 0 rfl hH ?_
    simp only [Act.put, p1, p2, p3]
    refine tk 1 rfl hH ?_ (by intro w h; have c0 := h.2.cell 1 _ rfl; clear h; go_simp; try with_reducible rfl)
    simp only [Act.put, p1, p2, p3]
    refine tkR 2 rfl hH (fun _ h => h.1) (rwR r) ?_
    simp only [Act.put, p1, p2, p3]
    refine tk 3 rfl hH ?_
    simp only [Act.put, p1, p2, p3]
    refine tk 4 rfl hH ?_ (by intro w h; have c0 := h.2.cell 0 _ rfl; clear h; go_simp; try with_reducible rfl)
    simp only [Act.put, p1, p2, p3]
    refine rd1 5 rfl (fun K hK => ?_)
    go_simp
    refine (TG.out _).mono ?_
    rintro e W ⟨rfl, hb⟩
    replace hM := hid (hM.out.later hb)
    clear hb
    go_wp2_with fail
    refine hK.out _ _ ⟨hM.out.at 1 rfl, hM.out.at 0 rfl⟩ (fun hH => ?_)
    clear hK K
    try simp only [Act.put, p1, p2, p3]
    refine tk 6 rfl hH ?_
    simp only [Act.put, p1, p2, p3]
    refine tk 7 rfl hH ?_
    simp only [Act.put, p1, p2, p3]
    refine tk 8 rfl hH ?_
    simp only [Act.put, p1, p2, p3]
    refine wpAnyH_done (by kernel_rfl) ?_ _
    go_wp2
    go_ret2
    exact ⟨rfl, hM.out.below⟩
  · have hM : Hid _ := (((Ms.nil w).born (rl r) 24 (b := w.heap.size) rfl).born [.int .i64 (t : Nat), .int .i64 1, .int .i64 o, .int .i64 k, .int .i64 x] 52 (b := w.heap.size + 1) (by simp))
    have c1 := hM.out.cell 0 0 rfl rfl
    have c2 := hM.out.cell 0 1 rfl rfl
    go_enter Tryz.func28, Tryz.ntmps28
    go_wp2_with fail
    clear c1 c2
    generalize World.alloc _ _ = W at hM ⊢
    generalize hsz : w.heap.size = n at hM ⊢
    clear hsz
    replace hM := hid (hM.out.drew)
    refine wp_region_held_drew (S := fun w' => Bo w' n (rl r) ∧ Bo w' (n + 1) [.int .i64 (t : Nat), .int .i64 1, .int .i64 o, .int .i64 k, .int .i64 x]) (by kernel_rfl) ⟨hM.out.at 1 rfl, hM.out.at 0 rfl⟩ (fun hH => ?_)
    generalize World.drew _ = W at hM hH  ⊢
    refine tk 0 rfl hH ?_
    simp only [Act.put, p1, p2, p3]
    refine tk 1 rfl hH ?_ (by intro w h; have c0 := h.2.cell 1 _ rfl; clear h; go_simp; try with_reducible rfl)
    simp only [Act.put, p1, p2, p3]
    refine tkR 2 rfl hH (fun _ h => h.1) (rwR r) ?_
    simp only [Act.put, p1, p2, p3]
    refine tk 3 rfl hH ?_
    simp only [Act.put, p1, p2, p3]
    refine tk 4 rfl hH ?_ (by intro w h; have c0 := h.2.cell 0 _ rfl; clear h; go_simp; try with_reducible rfl)
    simp only [Act.put, p1, p2, p3]
    refine rd1 5 rfl (fun K hK => ?_)
    go_simp
    refine (TG.out _).mono ?_
    rintro e W ⟨rfl, hb⟩
    replace hM := hid (hM.out.later hb)
    clear hb
    go_wp2_with fail
    refine hK.out _ _ ⟨hM.out.at 1 rfl, hM.out.at 0 rfl⟩ (fun hH => ?_)
    clear hK K
    try simp only [Act.put, p1, p2, p3]
    refine tk 6 rfl hH ?_
    simp only [Act.put, p1, p2, p3]
    refine tk 7 rfl hH ?_
    simp only [Act.put, p1, p2, p3]
    refine tk 8 rfl hH ?_
    simp only [Act.put, p1, p2, p3]
    refine wpAnyH_done (by kernel_rfl) ?_ _
    go_wp2
    go_ret2
    exact ⟨rfl, hM.out.below⟩
  · have hM : Hid _ := (((Ms.nil w).born (rl r) 24 (b := w.heap.size) rfl).born [.int .i64 (t : Nat), .int .i64 1, .int .i64 o, .int .i64 k, .int .i64 x] 52 (b := w.heap.size + 1) (by simp))
    have c1 := hM.out.cell 0 0 rfl rfl
    have c2 := hM.out.cell 0 1 rfl rfl
    go_enter Tryz.func28, Tryz.ntmps28
    go_wp2_with fail
    clear c1 c2
    generalize World.alloc _ _ = W at hM ⊢
    generalize hsz : w.heap.size = n at hM ⊢
    clear hsz
    replace hM := hid (hM.out.drew)
    refine wp_region_held_drew (S := fun w' => Bo w' n (rl r) ∧ Bo w' (n + 1) [.int .i64 (t : Nat), .int .i64 1, .int .i64 o, .int .i64 k, .int .i64 x]) (by kernel_rfl) ⟨hM.out.at 1 rfl, hM.out.at 0 rfl⟩ (fun hH => ?_)
    generalize World.drew _ = W at hM hH  ⊢
    refine tk 0 rfl hH ?_
    simp only [Act.put, p1, p2, p3]
    refine tk 1 rfl hH ?_ (by intro w h; have c0 := h.2.cell 1 _ rfl; clear h; go_simp; try with_reducible rfl)
    simp only [Act.put, p1, p2, p3]
    refine tkR 2 rfl hH (fun _ h => h.1) (rwR r) ?_
    simp only [Act.put, p1, p2, p3]
    refine tk 3 rfl hH ?_
    simp only [Act.put, p1, p2, p3]
    refine tk 4 rfl hH ?_ (by intro w h; have c0 := h.2.cell 0 _ rfl; clear h; go_simp; try with_reducible rfl)
    simp only [Act.put, p1, p2, p3]
    refine rd1 5 rfl (fun K hK => ?_)
    go_simp
    refine (TG.out _).mono ?_
    rintro e W ⟨rfl, hb⟩
    replace hM := hid (hM.out.later hb)
    clear hb
    go_wp2_with fail
    refine hK.out _ _ ⟨hM.out.at 1 rfl, hM.out.at 0 rfl⟩ (fun hH => ?_)
    clear hK K
    try simp only [Act.put, p1, p2, p3]
    refine tk 6 rfl hH ?_
    simp only [Act.put, p1, p2, p3]
    refine tk 7 rfl hH ?_
    simp only [Act.put, p1, p2, p3]
    refine tk 8 rfl hH ?_
    simp only [Act.put, p1, p2, p3]
    refine wpAnyH_done (by kernel_rfl) ?_ _
    go_wp2
    go_ret2
    exact ⟨rfl, hM.out.below⟩
end Go.Proofs.YteogbpaaacmllaaGreatDoor.Tab
namespace Go.Proofs.YteogbpaaacmllaaGreatDoor.Tab
set_option maxRecDepth 20000
open Go.RowKit
set_option linter.unusedVariables false

theorem rwO (o k x : Int) : Rw Tryz.prog 44 [.int .i64 o, .int .i64 k, .int .i64 x] := ⟨⟨_, Tryz.underlying44, rfl⟩, by kernel_rfl, by intro v hv; simp at hv; rcases hv with rfl | rfl | rfl <;> rfl⟩
set_option maxHeartbeats 2000000 in
theorem recKind_is (r : Nat → Nat) {q : Nat} (hq : q = min (r 0) 4294967296) (w : World) :
    Calls Tryz.prog 59 #[.agg (rl r).toArray] w (fun e w' => e = .returned (.int .i64 (q : Nat)) ∧ Below w.heap.size w w') := by
  have e1 : min ((r 0 : Nat) : Int) 4294967296 = (q : Int) := by omega
  have e2 : (if (4294967296 : Int) < ((r 0 : Nat) : Int) then (4294967296 : Int) else ((r 0 : Nat) : Int)) = (q : Int) := by split <;> omega
  have e3 : wrap64 (q : Int) = q := by unfold wrap64; omega
  have hM : Hid _ := ((Ms.nil w).born (rl r) 24 (b := w.heap.size) rfl)
  have x1 := (hM.out.at 0 rfl).rword (show 0 < 32 by decide)
  clear hq
  go_enter Tryz.func59, Tryz.ntmps59
  go_wp2
  go_ret
  exact ⟨ret_int (by omega), hM.out.below⟩
set_option maxHeartbeats 4000000 in
theorem recObject_is (r : Nat → Nat) (w : World) :
    Calls Tryz.prog 60 #[.agg (rl r).toArray] w (fun e w' => e = .returned (.agg (wl (ob r)).toArray) ∧ Below w.heap.size w w') := by
  have hM : Hid _ := ((((Ms.nil w).born (rl r) 24 (b := w.heap.size) rfl).bornR wz_all.symm 119 (b := w.heap.size + 1) (by simp)).bornR wz_all.symm 119 (b := w.heap.size + 2) (by simp))
  go_enter Tryz.func60, Tryz.ntmps60
  go_wp2_with fail
  generalize World.alloc _ _ = W at hM ⊢
  generalize hsz : w.heap.size = n at hM ⊢
  clear hsz
  replace hM := hid (hM.out.drew)
  refine wp_region_held_drew (S := fun w' => Bo w' n (rl r)) (by kernel_rfl) (hM.out.at 2 rfl) (fun hH => ?_)
  generalize World.drew _ = W at hM hH  ⊢
  refine tk 0 rfl hH ?_
  simp only [Act.put, p1, p2, p3]
  refine tk 1 rfl hH ?_
  simp only [Act.put, p1, p2, p3]
  refine rd1 2 rfl (fun K hK => ?_)
  refine cpR rfl Tryz.underlying26 sz_u (vs := wl (ob r)) (dLen := 17) (sLen := 31) (by rw [wl_length]; rfl) ((hM.out.at 2 rfl).objCells) ((hM.out.at 0 rfl).thereL (by rw [wl_length, wl_length])) (wl_one _) ?_
  replace hM := hid (hM.out.put 0 rfl (wl (ob r)) (by rw [wl_length, wl_length]))
  refine hK.out _ _ (hM.out.at 2 rfl) (fun hH => ?_)
  clear hK K
  generalize World.setCells _ _ _ _ = W at hM hH ⊢
  try simp only [Act.put, p1, p2, p3]
  refine wpAnyH_done (by kernel_rfl) ?_ _
  go_wp2_with (first
    | (refine lR rfl (hM.out.at 0 rfl) rfl (rwC (ob r)) ?_)
    | (refine sR rfl (hM.out.at 1 rfl) rfl ((rwC wz).len (rwC (ob r))) (rwC (ob r)) ?_
       replace hM := hid (hM.out.put 1 rfl (wl (ob r)) ((rwC wz).len (rwC (ob r))))
       generalize World.setCells _ _ _ _ = W at hM ⊢))
  exact bodyPost_ret (res1 Tryz.results60 (hM.out.at 1 rfl) (rwC (ob r))) rfl ⟨rfl, hM.out.below⟩
end Go.Proofs.YteogbpaaacmllaaGreatDoor.Tab
namespace Go.Proofs.YteogbpaaacmllaaGreatDoor.Tab
set_option maxRecDepth 20000
open Go.RowKit
set_option linter.unusedVariables false

set_option maxHeartbeats 4000000 in
theorem answersRight_is {r : Nat → Nat} (U : ∀ j, j < 32 → r j < 18446744073709551616) {v : Bool} (hv : v = true ↔ aR r) (w : World) :
    Calls Tryz.prog 61 #[.agg (rl r).toArray] w (fun e w' => e = .returned (.bool v) ∧ Below w.heap.size w w') := by
  have HV : Hid _ := hv
  have HU : Hid _ := U
  clear hv U
  have hM : Hid _ := ((Ms.nil w).born (rl r) 24 (b := w.heap.size) rfl)
  go_enter Tryz.func61, Tryz.ntmps61
  go_wp2_with fail
  generalize World.alloc _ _ = W at hM ⊢
  generalize hsz : w.heap.size = n at hM ⊢
  clear hsz
  go_loopg [8] 4 (fun gg s8 wt => ∃ i : Nat, i ≤ 4 ∧ 4 - i ≤ gg ∧ s8 = .int .i64 i ∧ Hid (Ms n w wt [(n, rl r)] []) ∧ Hid (∀ t, t < i → aR1 r t))
  case atStart => exact ⟨0, by omega, by omega, rfl, hM, fun t ht => absurd ht (by omega)⟩
  case round =>
    clear hM
    obtain ⟨i, hi, hgg, rfl, hM, A⟩ := hrel
    obtain ⟨W, rfl⟩ : ∃ q, q = wr := ⟨_, rfl⟩
    by_cases hlt : i < 4
    · have fa0 : (0 : Int) ≤ 18 + (i : Int) := by omega
      have fa1 : 18 + (i : Int) < 32 := by omega
      have fa2 : IntKind.i64.wrap (18 + (i : Int)) = 18 + i := by rw [IntKind.wrap_i64]; omega
      have fa3 : wrap64 (18 + (i : Int)) = 18 + i := by unfold wrap64; omega
      have fa4 : (18 + (i : Int)).toNat = 18 + i := by omega
      have fb0 : (0 : Int) ≤ 22 + (i : Int) := by omega
      have fb1 : 22 + (i : Int) < 32 := by omega
      have fb2 : IntKind.i64.wrap (22 + (i : Int)) = 22 + i := by rw [IntKind.wrap_i64]; omega
      have fb3 : wrap64 (22 + (i : Int)) = 22 + i := by unfold wrap64; omega
      have fb4 : (22 + (i : Int)).toNat = 22 + i := by omega
      have hi1 : (i : Int) < 4 := by omega
      obtain ⟨x, hx⟩ : ∃ x, r (18 + i) = x := ⟨_, rfl⟩
      obtain ⟨y, hy⟩ : ∃ y, r (22 + i) = y := ⟨_, rfl⟩
      have HX : Hid _ := hx
      have HY : Hid _ := hy
      have x64 : x < 18446744073709551616 := hx ▸ HU.out _ (by omega)
      clear hx hy
      by_cases hx0 : x = 0
      · subst hx0
        by_cases hy0 : y = 0
        · subst hy0
          have A1 : Hid (aR1 r i) := ⟨by rw [HX.out, HY.out], Or.inl HX.out⟩
          go_wp2_with fail
          replace hM := hid (hM.out.drew)
          refine wp_region_held_drew (S := fun w' => Bo w' n (rl r)) (by kernel_rfl) (hM.out.at 0 rfl) (fun hH => ?_)
          generalize World.drew _ = W at hM hH  ⊢
          refine tk 0 rfl hH ?_
          simp only [Act.put, p1, p2, p3]
          refine tk 1 rfl hH ?_
          simp only [Act.put, p1, p2, p3]
          refine tk 2 rfl hH ?_
          simp only [Act.put, p1, p2, p3]
          refine tk 3 rfl hH ?_ (by intro w h; have c0 := h.rwordx (show 18 + i < 32 by omega) HX.out; clear h; go_simp; try with_reducible rfl)
          simp only [Act.put, p1, p2, p3]
          refine tk 4 rfl hH ?_
          simp only [Act.put, p1, p2, p3]
          refine tk 5 rfl hH ?_
          simp only [Act.put, p1, p2, p3]
          refine tk 6 rfl hH ?_
          simp only [Act.put, p1, p2, p3]
          refine tk 7 rfl hH ?_ (by intro w h; have c0 := h.rwordx (show 22 + i < 32 by omega) HY.out; clear h; go_simp; try with_reducible rfl)
          simp only [Act.put, p1, p2, p3]
          refine tk 8 rfl hH ?_
          simp only [Act.put, p1, p2, p3]
          refine tk 9 rfl hH ?_
          simp only [Act.put, p1, p2, p3]
          refine wpAnyH_done (by kernel_rfl) ?_ _
          go_wp2_with fail
          refine (told_no (x := 0) (by decide) aw_zero _).mono ?_
          rintro e W ⟨rfl, hb⟩
          replace hM := hid (hM.out.later hb)
          clear hb
          obtain ⟨bq0, hq0⟩ : ∃ q, q = W.heap.size := ⟨_, rfl⟩
          replace hM := hid (hM.out.born [.int .i64 0, .int .i64 0] 58 hq0)
          have HQ : Hid _ := hq0
          clear hq0
          go_wp2_with (first
            | (rw [← HQ.out]; refine sR rfl (hM.out.at 0 rfl) rfl ((rwA 0 0).len (rwA _ _)) (rwA _ _) ?_
               replace hM := hid (hM.out.put 0 rfl [.int .i64 0, .int .i64 0] ((rwA 0 0).len (rwA _ _)))
               generalize World.setCells _ _ _ _ = W at hM ⊢))
          go_roundg (4 - (i + 1))
          case measure => omega
          case rel => exact ⟨i + 1, by omega, by omega, by go_num, hM.out.pick [1], fun t ht => by by_cases e : t = i; (subst e; exact A1.out); exact A.out t (by omega)⟩
        · have fy : ((y : Nat) : Int) ≠ 0 := by omega
          have gy : (((y : Nat) : Int) == 0) = false := by simpa using hy0
          have E : Hid (v = false) := by cases v with | false => rfl | true => exact absurd (HV.out.1 rfl) (fun h => hy0 (by have := (h i hlt).1.1 HX.out; rw [HY.out] at this; exact this))
          go_wp2_with fail
          replace hM := hid (hM.out.drew)
          refine wp_region_held_drew (S := fun w' => Bo w' n (rl r)) (by kernel_rfl) (hM.out.at 0 rfl) (fun hH => ?_)
          generalize World.drew _ = W at hM hH  ⊢
          refine tk 0 rfl hH ?_
          simp only [Act.put, p1, p2, p3]
          refine tk 1 rfl hH ?_
          simp only [Act.put, p1, p2, p3]
          refine tk 2 rfl hH ?_
          simp only [Act.put, p1, p2, p3]
          refine tk 3 rfl hH ?_ (by intro w h; have c0 := h.rwordx (show 18 + i < 32 by omega) HX.out; clear h; go_simp; try with_reducible rfl)
          simp only [Act.put, p1, p2, p3]
          refine tk 4 rfl hH ?_
          simp only [Act.put, p1, p2, p3]
          refine tk 5 rfl hH ?_
          simp only [Act.put, p1, p2, p3]
          refine tk 6 rfl hH ?_
          simp only [Act.put, p1, p2, p3]
          refine tk 7 rfl hH ?_ (by intro w h; have c0 := h.rwordx (show 22 + i < 32 by omega) HY.out; clear h; go_simp; try with_reducible rfl)
          simp only [Act.put, p1, p2, p3]
          refine tk 8 rfl hH ?_
          simp only [Act.put, p1, p2, p3]
          refine tk 9 rfl hH ?_
          simp only [Act.put, p1, p2, p3]
          refine wpAnyH_done (by kernel_rfl) ?_ _
          go_wp2
          go_ret
          exact ⟨ret_bool E.out.symm, hM.out.below⟩
      · have fx : ((x : Nat) : Int) ≠ 0 := by omega
        have gx : (((x : Nat) : Int) == 0) = false := by simpa using hx0
        by_cases hy0 : y = 0
        · subst hy0
          have E : Hid (v = false) := by cases v with | false => rfl | true => exact absurd (HV.out.1 rfl) (fun h => hx0 (by have := (h i hlt).1.2 HY.out; rw [HX.out] at this; exact this))
          go_wp2_with fail
          replace hM := hid (hM.out.drew)
          refine wp_region_held_drew (S := fun w' => Bo w' n (rl r)) (by kernel_rfl) (hM.out.at 0 rfl) (fun hH => ?_)
          generalize World.drew _ = W at hM hH  ⊢
          refine tk 0 rfl hH ?_
          simp only [Act.put, p1, p2, p3]
          refine tk 1 rfl hH ?_
          simp only [Act.put, p1, p2, p3]
          refine tk 2 rfl hH ?_
          simp only [Act.put, p1, p2, p3]
          refine tk 3 rfl hH ?_ (by intro w h; have c0 := h.rwordx (show 18 + i < 32 by omega) HX.out; clear h; go_simp; try with_reducible rfl)
          simp only [Act.put, p1, p2, p3]
          refine tk 4 rfl hH ?_
          simp only [Act.put, p1, p2, p3]
          refine tk 5 rfl hH ?_
          simp only [Act.put, p1, p2, p3]
          refine tk 6 rfl hH ?_
          simp only [Act.put, p1, p2, p3]
          refine tk 7 rfl hH ?_ (by intro w h; have c0 := h.rwordx (show 22 + i < 32 by omega) HY.out; clear h; go_simp; try with_reducible rfl)
          simp only [Act.put, p1, p2, p3]
          refine tk 8 rfl hH ?_
          simp only [Act.put, p1, p2, p3]
          refine tk 9 rfl hH ?_
          simp only [Act.put, p1, p2, p3]
          refine wpAnyH_done (by kernel_rfl) ?_ _
          go_wp2
          go_ret
          exact ⟨ret_bool E.out.symm, hM.out.below⟩
        · have fy : ((y : Nat) : Int) ≠ 0 := by omega
          have gy : (((y : Nat) : Int) == 0) = false := by simpa using hy0
          by_cases ha : Aw x
          · have A1 : Hid (aR1 r i) := ⟨by rw [HX.out, HY.out]; exact ⟨fun h => absurd h hx0, fun h => absurd h hy0⟩, Or.inr (by rw [HX.out]; exact ha)⟩
            have TY : Hid (∀ w : World, _) := fun w => told_yes x64 ha w
            clear ha
            generalize x / 4294967296 = xa at *
            generalize x % 4294967296 = xb at *
            go_wp2_with fail
            replace hM := hid (hM.out.drew)
            refine wp_region_held_drew (S := fun w' => Bo w' n (rl r)) (by kernel_rfl) (hM.out.at 0 rfl) (fun hH => ?_)
            generalize World.drew _ = W at hM hH  ⊢
            refine tk 0 rfl hH ?_
            simp only [Act.put, p1, p2, p3]
            refine tk 1 rfl hH ?_
            simp only [Act.put, p1, p2, p3]
            refine tk 2 rfl hH ?_
            simp only [Act.put, p1, p2, p3]
            refine tk 3 rfl hH ?_ (by intro w h; have c0 := h.rwordx (show 18 + i < 32 by omega) HX.out; clear h; go_simp; try with_reducible rfl)
            simp only [Act.put, p1, p2, p3]
            refine tk 4 rfl hH ?_
            simp only [Act.put, p1, p2, p3]
            refine tk 5 rfl hH ?_
            simp only [Act.put, p1, p2, p3]
            refine tk 6 rfl hH ?_
            simp only [Act.put, p1, p2, p3]
            refine tk 7 rfl hH ?_ (by intro w h; have c0 := h.rwordx (show 22 + i < 32 by omega) HY.out; clear h; go_simp; try with_reducible rfl)
            simp only [Act.put, p1, p2, p3]
            refine tk 8 rfl hH ?_
            simp only [Act.put, p1, p2, p3]
            refine tk 9 rfl hH ?_
            simp only [Act.put, p1, p2, p3]
            refine wpAnyH_done (by kernel_rfl) ?_ _
            go_wp2_with fail
            refine (TY.out _).mono ?_
            rintro e W ⟨rfl, hb⟩
            replace hM := hid (hM.out.later hb)
            clear hb
            obtain ⟨bq0, hq0⟩ : ∃ q, q = W.heap.size := ⟨_, rfl⟩
            replace hM := hid (hM.out.born [.int .i64 0, .int .i64 0] 58 hq0)
            have HQ : Hid _ := hq0
            clear hq0
            go_wp2_with (first
              | (rw [← HQ.out]; refine sR rfl (hM.out.at 0 rfl) rfl ((rwA 0 0).len (rwA _ _)) (rwA _ _) ?_
                 replace hM := hid (hM.out.put 0 rfl [.int .i64 (xa : Nat), .int .i64 (xb : Nat)] ((rwA 0 0).len (rwA _ _)))
                 generalize World.setCells _ _ _ _ = W at hM ⊢))
            go_roundg (4 - (i + 1))
            case measure => omega
            case rel => exact ⟨i + 1, by omega, by omega, by go_num, hM.out.pick [1], fun t ht => by by_cases e : t = i; (subst e; exact A1.out); exact A.out t (by omega)⟩
          · have E : Hid (v = false) := by cases v with | false => rfl | true => exact absurd (HV.out.1 rfl) (fun h => by rcases (h i hlt).2 with e | e <;> rw [HX.out] at e; exact hx0 e; exact ha e)
            have TN : Hid (∀ w : World, _) := fun w => told_no x64 ha w
            clear ha
            go_wp2_with fail
            replace hM := hid (hM.out.drew)
            refine wp_region_held_drew (S := fun w' => Bo w' n (rl r)) (by kernel_rfl) (hM.out.at 0 rfl) (fun hH => ?_)
            generalize World.drew _ = W at hM hH  ⊢
            refine tk 0 rfl hH ?_
            simp only [Act.put, p1, p2, p3]
            refine tk 1 rfl hH ?_
            simp only [Act.put, p1, p2, p3]
            refine tk 2 rfl hH ?_
            simp only [Act.put, p1, p2, p3]
            refine tk 3 rfl hH ?_ (by intro w h; have c0 := h.rwordx (show 18 + i < 32 by omega) HX.out; clear h; go_simp; try with_reducible rfl)
            simp only [Act.put, p1, p2, p3]
            refine tk 4 rfl hH ?_
            simp only [Act.put, p1, p2, p3]
            refine tk 5 rfl hH ?_
            simp only [Act.put, p1, p2, p3]
            refine tk 6 rfl hH ?_
            simp only [Act.put, p1, p2, p3]
            refine tk 7 rfl hH ?_ (by intro w h; have c0 := h.rwordx (show 22 + i < 32 by omega) HY.out; clear h; go_simp; try with_reducible rfl)
            simp only [Act.put, p1, p2, p3]
            refine tk 8 rfl hH ?_
            simp only [Act.put, p1, p2, p3]
            refine tk 9 rfl hH ?_
            simp only [Act.put, p1, p2, p3]
            refine wpAnyH_done (by kernel_rfl) ?_ _
            go_wp2_with fail
            refine (TN.out _).mono ?_
            rintro e W ⟨rfl, hb⟩
            replace hM := hid (hM.out.later hb)
            clear hb
            obtain ⟨bq0, hq0⟩ : ∃ q, q = W.heap.size := ⟨_, rfl⟩
            replace hM := hid (hM.out.born [.int .i64 0, .int .i64 0] 58 hq0)
            have HQ : Hid _ := hq0
            clear hq0
            go_wp2_with (first
              | (rw [← HQ.out]; refine sR rfl (hM.out.at 0 rfl) rfl ((rwA 0 0).len (rwA _ _)) (rwA _ _) ?_
                 replace hM := hid (hM.out.put 0 rfl [.int .i64 0, .int .i64 0] ((rwA 0 0).len (rwA _ _)))
                 generalize World.setCells _ _ _ _ = W at hM ⊢))
            go_ret
            exact ⟨ret_bool E.out.symm, hM.out.below⟩
    · obtain rfl : i = 4 := by omega
      have E : Hid (v = true) := HV.out.2 A.out
      go_wp2
      go_ret
      exact ⟨ret_bool E.out.symm, hM.out.below⟩
end Go.Proofs.YteogbpaaacmllaaGreatDoor.Tab
namespace Go.Proofs.YteogbpaaacmllaaGreatDoor.Tab
set_option maxRecDepth 20000
open Go.RowKit
set_option linter.unusedVariables false

set_option maxHeartbeats 4000000 in
theorem numbersRight_is {r : Nat → Nat} {v : Bool} (hv : v = true ↔ nR r) (w : World) :
    Calls Tryz.prog 62 #[.agg (rl r).toArray] w (fun e w' => e = .returned (.bool v) ∧ Below w.heap.size w w') := by
  have HV : Hid _ := hv
  clear hv
  have hM : Hid _ := ((Ms.nil w).born (rl r) 24 (b := w.heap.size) rfl)
  go_enter Tryz.func62, Tryz.ntmps62
  go_wp2_with fail
  generalize World.alloc _ _ = W at hM ⊢
  generalize hsz : w.heap.size = n at hM ⊢
  clear hsz
  go_loopg [6] 4 (fun gg s6 wt => wt = W ∧ ∃ i : Nat, i ≤ 4 ∧ 4 - i ≤ gg ∧ s6 = .int .i64 i ∧ Hid (∀ t, t < i → nR1 r t))
  case atStart => exact ⟨rfl, 0, by omega, by omega, rfl, fun t ht => absurd ht (by omega)⟩
  case round =>
    obtain ⟨hw, i, hi, hgg, rfl, A⟩ := hrel
    rw [hw]; clear hw wr
    by_cases hlt : i < 4
    · have hi1 : (i : Int) < 4 := by omega
      have hi0 : (0 : Int) ≤ (i : Int) := by omega
      have fb0 : (0 : Int) ≤ 22 + (i : Int) := by omega
      have fb1 : 22 + (i : Int) < 32 := by omega
      have fb2 : IntKind.i64.wrap (22 + (i : Int)) = 22 + i := by rw [IntKind.wrap_i64]; omega
      have fb3 : wrap64 (22 + (i : Int)) = 22 + i := by unfold wrap64; omega
      have fb4 : (22 + (i : Int)).toNat = 22 + i := by omega
      obtain ⟨x, hx⟩ : ∃ x, r (22 + i) = x := ⟨_, rfl⟩
      obtain ⟨c, hc⟩ : ∃ c, r 28 = c := ⟨_, rfl⟩
      have c1 := (hM.out.at 0 rfl).rwordx (show 22 + i < 32 by omega) hx
      have c2 := (hM.out.at 0 rfl).rwordx (show 28 < 32 by omega) hc
      have HX : Hid _ := hx
      have HC : Hid _ := hc
      clear hx hc
      by_cases hg : c < x
      · have hd : (c : Int) < (x : Int) := by omega
        have E : Hid (v = false) := by cases v with | false => rfl | true => exact absurd (HV.out.1 rfl) (fun h => by have := (h i hlt).1; rw [HX.out, HC.out] at this; omega)
        clear hg
        go_wp2
        go_ret
        exact ⟨ret_bool E.out.symm, hM.out.below⟩
      · have hd : ¬ (c : Int) < (x : Int) := by omega
        have G : Hid (x ≤ c) := (by omega : x ≤ c)
        clear hg
        go_wp2_with fail
        clear fb0 fb1 fb2 fb3 fb4 c1 c2 hd
        obtain ⟨gk0, hgk0⟩ : ∃ gk0, gk0 = gk := ⟨_, rfl⟩
        have GK : Hid (gk = gk0) := hgk0.symm
        go_loopg [18] i (fun gg s18 wt => wt = W ∧ ∃ o : Nat, o ≤ i ∧ i - o ≤ gg ∧ s18 = .int .i64 o ∧ Hid (∀ q, q < o → r (22 + i) = 0 ∨ r (22 + i) ≠ r (22 + q)))
        case atStart => exact ⟨rfl, 0, by omega, by omega, rfl, fun q hq => absurd hq (by omega)⟩
        case round =>
          obtain ⟨hw, o, ho, hgo, rfl, B⟩ := hrel
          rw [hw]; clear hw wr
          by_cases hol : o < i
          · have ho1 : (o : Int) < (i : Int) := by omega
            have ho0 : (0 : Int) ≤ (o : Int) := by omega
            have fc0 : (0 : Int) ≤ 22 + (o : Int) := by omega
            have fc1 : 22 + (o : Int) < 32 := by omega
            have fc2 : IntKind.i64.wrap (22 + (o : Int)) = 22 + o := by rw [IntKind.wrap_i64]; omega
            have fc3 : wrap64 (22 + (o : Int)) = 22 + o := by unfold wrap64; omega
            have fc4 : (22 + (o : Int)).toNat = 22 + o := by omega
            obtain ⟨y, hy⟩ : ∃ y, r (22 + o) = y := ⟨_, rfl⟩
            have c3 := (hM.out.at 0 rfl).rwordx (show 22 + o < 32 by omega) hy
            have HY : Hid _ := hy
            clear hy
            by_cases hx0 : x = 0
            · have gx : (((x : Nat) : Int) == 0) = true := by simp [hx0]
              have fx : ((x : Nat) : Int) = 0 := by omega
              have B1 : Hid (r (22 + i) = 0) := HX.out.trans hx0
              clear hx0
              go_wp2
              go_roundg (i - (o + 1))
              case measure => omega
              case rel => exact ⟨rfl, o + 1, by omega, by omega, by go_num, fun q hq => Or.inl B1.out⟩
            · have gx : (((x : Nat) : Int) == 0) = false := by simpa using hx0
              have fx : ((x : Nat) : Int) ≠ 0 := by omega
              have X0 : Hid (x ≠ 0) := hx0
              clear hx0
              by_cases hxy : x = y
              · have gy : (((x : Nat) : Int) == ((y : Nat) : Int)) = true := by simp [hxy]
                have E : Hid (v = false) := by cases v with | false => rfl | true => exact absurd (HV.out.1 rfl) (fun h => by rcases (h i hlt).2 o hol with e | e <;> rw [HX.out] at e; exact X0.out e; rw [HY.out] at e; exact e hxy)
                clear hxy
                go_wp2
                go_ret
                exact ⟨ret_bool E.out.symm, hM.out.below⟩
              · have gy : (((x : Nat) : Int) == ((y : Nat) : Int)) = false := by simp; omega
                have B1 : Hid (r (22 + i) ≠ r (22 + o)) := by show _ ≠ _; rw [HX.out, HY.out]; exact hxy
                clear hxy
                go_wp2
                go_roundg (i - (o + 1))
                case measure => omega
                case rel => exact ⟨rfl, o + 1, by omega, by omega, by go_num, fun q hq => by by_cases e : q = o; (subst e; exact Or.inr B1.out); exact B.out q (by omega)⟩
          · have ho1 : ¬ (o : Int) < (i : Int) := by omega
            have A1 : Hid (nR1 r i) := ⟨by rw [HX.out, HC.out]; exact G.out, fun q hq => B.out q (by omega)⟩
            go_wp2
            go_roundg (4 - (i + 1))
            case measure => have := GK.out; omega
            case rel => exact ⟨rfl, i + 1, by omega, by have := GK.out; omega, by go_num, fun t ht => by by_cases e : t = i; (subst e; exact A1.out); exact A.out t (by omega)⟩
    · obtain rfl : i = 4 := by omega
      have E : Hid (v = true) := HV.out.2 A.out
      go_wp2
      go_ret
      exact ⟨ret_bool E.out.symm, hM.out.below⟩
end Go.Proofs.YteogbpaaacmllaaGreatDoor.Tab
namespace Go.Proofs.YteogbpaaacmllaaGreatDoor.Tab
set_option maxRecDepth 20000
open Go.RowKit
set_option linter.unusedVariables false

set_option maxHeartbeats 4000000 in
theorem restRight_is {r : Nat → Nat} {v : Bool} (hv : v = true ↔ zR r ∧ tR r) (w : World) :
    Calls Tryz.prog 63 #[.agg (rl r).toArray] w (fun e w' => e = .returned (.bool v) ∧ Below w.heap.size w w') := by
  have HV : Hid _ := hv
  clear hv
  have hM : Hid _ := ((Ms.nil w).born (rl r) 24 (b := w.heap.size) rfl)
  go_enter Tryz.func63, Tryz.ntmps63
  go_wp2_with fail
  generalize World.alloc _ _ = W at hM ⊢
  generalize hsz : w.heap.size = n at hM ⊢
  clear hsz
  go_loopg [7] 3 (fun gg s7 wt => wt = W ∧ ∃ i : Nat, i ≤ 3 ∧ 3 - i ≤ gg ∧ s7 = .int .i64 i ∧ Hid (∀ j, j < i → r (29 + j) = 0))
  case atStart => exact ⟨rfl, 0, by omega, by omega, rfl, fun t ht => absurd ht (by omega)⟩
  case round =>
    obtain ⟨hw, i, hi, hgg, rfl, A⟩ := hrel
    rw [hw]; clear hw wr
    by_cases hlt : i < 3
    · have hi1 : (i : Int) < 3 := by omega
      have hi0 : (0 : Int) ≤ (i : Int) := by omega
      obtain ⟨x, hx⟩ : ∃ x, r (29 + i) = x := ⟨_, rfl⟩
      have c1 := (hM.out.at 0 rfl).rwordx (show 29 + i < 32 by omega) hx
      have HX : Hid _ := hx
      clear hx
      by_cases hx0 : x = 0
      · have gx : (((x : Nat) : Int) == 0) = true := by simp [hx0]
        have fx : ((x : Nat) : Int) = 0 := by omega
        have A1 : Hid (r (29 + i) = 0) := HX.out.trans hx0
        clear hx0
        go_wp2
        go_roundg (3 - (i + 1))
        case measure => omega
        case rel => exact ⟨rfl, i + 1, by omega, by omega, by go_num, fun j hj => by by_cases e : j = i; (subst e; exact A1.out); exact A.out j (by omega)⟩
      · have gx : (((x : Nat) : Int) == 0) = false := by simpa using hx0
        have fx : ((x : Nat) : Int) ≠ 0 := by omega
        have E : Hid (v = false) := by cases v with | false => rfl | true => exact absurd (HV.out.1 rfl).1 (fun h => hx0 (HX.out.symm.trans (h i hlt)))
        clear hx0
        go_wp2
        go_ret
        exact ⟨ret_bool E.out.symm, hM.out.below⟩
    · obtain rfl : i = 3 := by omega
      obtain ⟨a, ha⟩ : ∃ a, r 26 = a := ⟨_, rfl⟩
      obtain ⟨b, hb⟩ : ∃ b, r 27 = b := ⟨_, rfl⟩
      obtain ⟨c, hc⟩ : ∃ c, r 28 = c := ⟨_, rfl⟩
      have c1 := (hM.out.at 0 rfl).rwordx (show 26 < 32 by omega) ha
      have c2 := (hM.out.at 0 rfl).rwordx (show 27 < 32 by omega) hb
      have c3 := (hM.out.at 0 rfl).rwordx (show 28 < 32 by omega) hc
      have TT : Hid (tR r ↔ a < 16 ∧ b ≤ 1099511627776 ∧ c ≤ 1099511627776) := by unfold tR; rw [ha, hb, hc]; exact Iff.rfl
      clear ha hb hc
      by_cases h1 : a < 16
      · have d1 : (a : Int) < 16 := by omega
        by_cases h2 : b ≤ 1099511627776
        · have d2 : (b : Int) ≤ 1099511627776 := by omega
          by_cases h3 : c ≤ 1099511627776
          · have d3 : (c : Int) ≤ 1099511627776 := by omega
            have E : Hid (v = true) := HV.out.2 ⟨A.out, TT.out.2 ⟨h1, h2, h3⟩⟩
            clear h1 h2 h3
            go_wp2
            go_ret
            exact ⟨ret_bool E.out.symm, hM.out.below⟩
          · have d3 : ¬ (c : Int) ≤ 1099511627776 := by omega
            have E : Hid (v = false) := by cases v with | false => rfl | true => exact absurd (TT.out.1 (HV.out.1 rfl).2).2.2 h3
            clear h1 h2 h3
            go_wp2
            go_ret
            exact ⟨ret_bool E.out.symm, hM.out.below⟩
        · have d2 : ¬ (b : Int) ≤ 1099511627776 := by omega
          have E : Hid (v = false) := by cases v with | false => rfl | true => exact absurd (TT.out.1 (HV.out.1 rfl).2).2.1 h2
          clear h1 h2
          go_wp2
          go_ret
          exact ⟨ret_bool E.out.symm, hM.out.below⟩
      · have d1 : ¬ (a : Int) < 16 := by omega
        have E : Hid (v = false) := by cases v with | false => rfl | true => exact absurd (TT.out.1 (HV.out.1 rfl).2).1 h1
        clear h1
        go_wp2
        go_ret
        exact ⟨ret_bool E.out.symm, hM.out.below⟩
end Go.Proofs.YteogbpaaacmllaaGreatDoor.Tab
namespace Go.Proofs.YteogbpaaacmllaaGreatDoor.Tab
set_option maxRecDepth 20000
open Go.RowKit
set_option linter.unusedVariables false

theorem bool_of (p : Prop) : ∃ b : Bool, b = true ↔ p := by
  by_cases h : p
  · exact ⟨true, by simp [h]⟩
  · exact ⟨false, by simp [h]⟩
set_option maxHeartbeats 8000000 in
theorem recRight_is {r : Nat → Nat} (U : ∀ j, j < 32 → r j < 18446744073709551616) {v : Bool} (hv : v = true ↔ isRec r) (w : World) :
    Calls Tryz.prog 36 #[.agg (rl r).toArray] w (fun e w' => e = .returned (.bool v) ∧ Below w.heap.size w w') := by
  obtain ⟨q, hq⟩ : ∃ q, q = min (r 0) 4294967296 := ⟨_, rfl⟩
  have eo : isOb (q : Int) (ob r) ↔ isOb (r 0 : Nat) (ob r) := by
    by_cases e : r 0 ≤ 4294967296
    · rw [show q = r 0 by omega]
    · constructor
      · intro h; have := (isOb_kind h).2; omega
      · intro h; have := (isOb_kind h).2; omega
  obtain ⟨bo, hbo⟩ := bool_of (isOb (q : Int) (ob r))
  obtain ⟨ba, hba⟩ := bool_of (aR r)
  obtain ⟨bn, hbn⟩ := bool_of (nR r)
  obtain ⟨bz, hbz⟩ := bool_of (zR r ∧ tR r)
  have KI : Hid (∀ w : World, _) := recKind_is r hq
  have OB : Hid (∀ w : World, _) := recObject_is r
  have RI : Hid (∀ w : World, _) := obRight_is hbo
  have AI : Hid (∀ w : World, _) := answersRight_is U hba
  have NI : Hid (∀ w : World, _) := numbersRight_is hbn
  have ZI : Hid (∀ w : World, _) := restRight_is hbz
  have HV : Hid (v = (bo && (ba && (bn && bz)))) := by
    have h1 : v = true ↔ (bo && (ba && (bn && bz))) = true := by
      rw [hv]; unfold isRec
      simp only [Bool.and_eq_true]
      rw [hbo, hba, hbn, hbz, eo]
    show v = _
    exact Bool.eq_iff_iff.2 h1
  clear hq eo hbo hba hbn hbz hv U
  rcases bo with _ | _
  · have hM : Hid _ := ((Ms.nil w).born (rl r) 24 (b := w.heap.size) rfl)
    go_enter Tryz.func36, Tryz.ntmps36
    go_wp2_with fail
    generalize World.alloc _ _ = W at hM ⊢
    generalize hsz : w.heap.size = n at hM ⊢
    clear hsz
    replace hM := hid (hM.out.drew)
    refine wp_region_held_drew (S := fun w' => Bo w' n (rl r)) (by kernel_rfl) (hM.out.at 0 rfl) (fun hH => ?_)
    generalize World.drew _ = W at hM hH  ⊢
    refine tkR 0 rfl hH (fun _ h => h) (rwR r) ?_
    simp only [Act.put, p1, p2, p3]
    refine tkR 2 rfl hH (fun _ h => h) (rwR r) ?_
    simp only [Act.put, p1, p2, p3]
    refine rd1 1 rfl (fun K hK => ?_)
    go_simp
    refine (KI.out _).mono ?_
    rintro e W ⟨rfl, hb⟩
    replace hM := hid (hM.out.later hb)
    clear hb
    go_wp2_with fail
    refine hK.out _ _ (hM.out.at 0 rfl) (fun hH => ?_)
    clear hK K
    try simp only [Act.put, p1, p2, p3]
    refine rd1 3 rfl (fun K hK => ?_)
    go_simp
    refine (OB.out _).mono ?_
    rintro e W ⟨rfl, hb⟩
    replace hM := hid (hM.out.later hb)
    clear hb
    go_wp2_with fail
    refine hK.out _ _ (hM.out.at 0 rfl) (fun hH => ?_)
    clear hK K
    try simp only [Act.put, p1, p2, p3]
    refine rd1 4 rfl (fun K hK => ?_)
    go_simp
    refine (RI.out _).mono ?_
    rintro e W ⟨rfl, hb⟩
    replace hM := hid (hM.out.later hb)
    clear hb
    go_wp2_with fail
    refine hK.out _ _ (hM.out.at 0 rfl) (fun hH => ?_)
    clear hK K
    try simp only [Act.put, p1, p2, p3]
    refine tk 5 rfl hH ?_
    simp only [Act.put, p1, p2, p3]
    refine tkN 6 rfl hH ?_
    simp only [Act.put, p1, p2, p3]
    refine tkN 7 rfl hH ?_
    simp only [Act.put, p1, p2, p3]
    refine tk 8 rfl hH ?_
    simp only [Act.put, p1, p2, p3]
    refine tk 9 rfl hH ?_
    simp only [Act.put, p1, p2, p3]
    refine tkN 10 rfl hH ?_
    simp only [Act.put, p1, p2, p3]
    refine tkN 11 rfl hH ?_
    simp only [Act.put, p1, p2, p3]
    refine tk 12 rfl hH ?_
    simp only [Act.put, p1, p2, p3]
    refine tk 13 rfl hH ?_
    simp only [Act.put, p1, p2, p3]
    refine tkN 14 rfl hH ?_
    simp only [Act.put, p1, p2, p3]
    refine tkN 15 rfl hH ?_
    simp only [Act.put, p1, p2, p3]
    refine tk 16 rfl hH ?_
    simp only [Act.put, p1, p2, p3]
    refine tk 17 rfl hH ?_
    simp only [Act.put, p1, p2, p3]
    refine wpAnyH_done (by kernel_rfl) ?_ _
    go_wp2
    go_ret
    exact ⟨ret_bool HV.out.symm, hM.out.below⟩
  · rcases ba with _ | _
    · have hM : Hid _ := ((Ms.nil w).born (rl r) 24 (b := w.heap.size) rfl)
      go_enter Tryz.func36, Tryz.ntmps36
      go_wp2_with fail
      generalize World.alloc _ _ = W at hM ⊢
      generalize hsz : w.heap.size = n at hM ⊢
      clear hsz
      replace hM := hid (hM.out.drew)
      refine wp_region_held_drew (S := fun w' => Bo w' n (rl r)) (by kernel_rfl) (hM.out.at 0 rfl) (fun hH => ?_)
      generalize World.drew _ = W at hM hH  ⊢
      refine tkR 0 rfl hH (fun _ h => h) (rwR r) ?_
      simp only [Act.put, p1, p2, p3]
      refine tkR 2 rfl hH (fun _ h => h) (rwR r) ?_
      simp only [Act.put, p1, p2, p3]
      refine rd1 1 rfl (fun K hK => ?_)
      go_simp
      refine (KI.out _).mono ?_
      rintro e W ⟨rfl, hb⟩
      replace hM := hid (hM.out.later hb)
      clear hb
      go_wp2_with fail
      refine hK.out _ _ (hM.out.at 0 rfl) (fun hH => ?_)
      clear hK K
      try simp only [Act.put, p1, p2, p3]
      refine rd1 3 rfl (fun K hK => ?_)
      go_simp
      refine (OB.out _).mono ?_
      rintro e W ⟨rfl, hb⟩
      replace hM := hid (hM.out.later hb)
      clear hb
      go_wp2_with fail
      refine hK.out _ _ (hM.out.at 0 rfl) (fun hH => ?_)
      clear hK K
      try simp only [Act.put, p1, p2, p3]
      refine rd1 4 rfl (fun K hK => ?_)
      go_simp
      refine (RI.out _).mono ?_
      rintro e W ⟨rfl, hb⟩
      replace hM := hid (hM.out.later hb)
      clear hb
      go_wp2_with fail
      refine hK.out _ _ (hM.out.at 0 rfl) (fun hH => ?_)
      clear hK K
      try simp only [Act.put, p1, p2, p3]
      refine tk 5 rfl hH ?_
      simp only [Act.put, p1, p2, p3]
      refine tkR 6 rfl hH (fun _ h => h) (rwR r) ?_
      simp only [Act.put, p1, p2, p3]
      refine rd1 7 rfl (fun K hK => ?_)
      go_simp
      refine (AI.out _).mono ?_
      rintro e W ⟨rfl, hb⟩
      replace hM := hid (hM.out.later hb)
      clear hb
      go_wp2_with fail
      refine hK.out _ _ (hM.out.at 0 rfl) (fun hH => ?_)
      clear hK K
      try simp only [Act.put, p1, p2, p3]
      refine tk 8 rfl hH ?_
      simp only [Act.put, p1, p2, p3]
      refine tk 9 rfl hH ?_
      simp only [Act.put, p1, p2, p3]
      refine tkN 10 rfl hH ?_
      simp only [Act.put, p1, p2, p3]
      refine tkN 11 rfl hH ?_
      simp only [Act.put, p1, p2, p3]
      refine tk 12 rfl hH ?_
      simp only [Act.put, p1, p2, p3]
      refine tk 13 rfl hH ?_
      simp only [Act.put, p1, p2, p3]
      refine tkN 14 rfl hH ?_
      simp only [Act.put, p1, p2, p3]
      refine tkN 15 rfl hH ?_
      simp only [Act.put, p1, p2, p3]
      refine tk 16 rfl hH ?_
      simp only [Act.put, p1, p2, p3]
      refine tk 17 rfl hH ?_
      simp only [Act.put, p1, p2, p3]
      refine wpAnyH_done (by kernel_rfl) ?_ _
      go_wp2
      go_ret
      exact ⟨ret_bool HV.out.symm, hM.out.below⟩
    · rcases bn with _ | _
      · have hM : Hid _ := ((Ms.nil w).born (rl r) 24 (b := w.heap.size) rfl)
        go_enter Tryz.func36, Tryz.ntmps36
        go_wp2_with fail
        generalize World.alloc _ _ = W at hM ⊢
        generalize hsz : w.heap.size = n at hM ⊢
        clear hsz
        replace hM := hid (hM.out.drew)
        refine wp_region_held_drew (S := fun w' => Bo w' n (rl r)) (by kernel_rfl) (hM.out.at 0 rfl) (fun hH => ?_)
        generalize World.drew _ = W at hM hH  ⊢
        refine tkR 0 rfl hH (fun _ h => h) (rwR r) ?_
        simp only [Act.put, p1, p2, p3]
        refine tkR 2 rfl hH (fun _ h => h) (rwR r) ?_
        simp only [Act.put, p1, p2, p3]
        refine rd1 1 rfl (fun K hK => ?_)
        go_simp
        refine (KI.out _).mono ?_
        rintro e W ⟨rfl, hb⟩
        replace hM := hid (hM.out.later hb)
        clear hb
        go_wp2_with fail
        refine hK.out _ _ (hM.out.at 0 rfl) (fun hH => ?_)
        clear hK K
        try simp only [Act.put, p1, p2, p3]
        refine rd1 3 rfl (fun K hK => ?_)
        go_simp
        refine (OB.out _).mono ?_
        rintro e W ⟨rfl, hb⟩
        replace hM := hid (hM.out.later hb)
        clear hb
        go_wp2_with fail
        refine hK.out _ _ (hM.out.at 0 rfl) (fun hH => ?_)
        clear hK K
        try simp only [Act.put, p1, p2, p3]
        refine rd1 4 rfl (fun K hK => ?_)
        go_simp
        refine (RI.out _).mono ?_
        rintro e W ⟨rfl, hb⟩
        replace hM := hid (hM.out.later hb)
        clear hb
        go_wp2_with fail
        refine hK.out _ _ (hM.out.at 0 rfl) (fun hH => ?_)
        clear hK K
        try simp only [Act.put, p1, p2, p3]
        refine tk 5 rfl hH ?_
        simp only [Act.put, p1, p2, p3]
        refine tkR 6 rfl hH (fun _ h => h) (rwR r) ?_
        simp only [Act.put, p1, p2, p3]
        refine rd1 7 rfl (fun K hK => ?_)
        go_simp
        refine (AI.out _).mono ?_
        rintro e W ⟨rfl, hb⟩
        replace hM := hid (hM.out.later hb)
        clear hb
        go_wp2_with fail
        refine hK.out _ _ (hM.out.at 0 rfl) (fun hH => ?_)
        clear hK K
        try simp only [Act.put, p1, p2, p3]
        refine tk 8 rfl hH ?_
        simp only [Act.put, p1, p2, p3]
        refine tk 9 rfl hH ?_
        simp only [Act.put, p1, p2, p3]
        refine tkR 10 rfl hH (fun _ h => h) (rwR r) ?_
        simp only [Act.put, p1, p2, p3]
        refine rd1 11 rfl (fun K hK => ?_)
        go_simp
        refine (NI.out _).mono ?_
        rintro e W ⟨rfl, hb⟩
        replace hM := hid (hM.out.later hb)
        clear hb
        go_wp2_with fail
        refine hK.out _ _ (hM.out.at 0 rfl) (fun hH => ?_)
        clear hK K
        try simp only [Act.put, p1, p2, p3]
        refine tk 12 rfl hH ?_
        simp only [Act.put, p1, p2, p3]
        refine tk 13 rfl hH ?_
        simp only [Act.put, p1, p2, p3]
        refine tkN 14 rfl hH ?_
        simp only [Act.put, p1, p2, p3]
        refine tkN 15 rfl hH ?_
        simp only [Act.put, p1, p2, p3]
        refine tk 16 rfl hH ?_
        simp only [Act.put, p1, p2, p3]
        refine tk 17 rfl hH ?_
        simp only [Act.put, p1, p2, p3]
        refine wpAnyH_done (by kernel_rfl) ?_ _
        go_wp2
        go_ret
        exact ⟨ret_bool HV.out.symm, hM.out.below⟩
      · have hM : Hid _ := ((Ms.nil w).born (rl r) 24 (b := w.heap.size) rfl)
        go_enter Tryz.func36, Tryz.ntmps36
        go_wp2_with fail
        generalize World.alloc _ _ = W at hM ⊢
        generalize hsz : w.heap.size = n at hM ⊢
        clear hsz
        replace hM := hid (hM.out.drew)
        refine wp_region_held_drew (S := fun w' => Bo w' n (rl r)) (by kernel_rfl) (hM.out.at 0 rfl) (fun hH => ?_)
        generalize World.drew _ = W at hM hH  ⊢
        refine tkR 0 rfl hH (fun _ h => h) (rwR r) ?_
        simp only [Act.put, p1, p2, p3]
        refine tkR 2 rfl hH (fun _ h => h) (rwR r) ?_
        simp only [Act.put, p1, p2, p3]
        refine rd1 1 rfl (fun K hK => ?_)
        go_simp
        refine (KI.out _).mono ?_
        rintro e W ⟨rfl, hb⟩
        replace hM := hid (hM.out.later hb)
        clear hb
        go_wp2_with fail
        refine hK.out _ _ (hM.out.at 0 rfl) (fun hH => ?_)
        clear hK K
        try simp only [Act.put, p1, p2, p3]
        refine rd1 3 rfl (fun K hK => ?_)
        go_simp
        refine (OB.out _).mono ?_
        rintro e W ⟨rfl, hb⟩
        replace hM := hid (hM.out.later hb)
        clear hb
        go_wp2_with fail
        refine hK.out _ _ (hM.out.at 0 rfl) (fun hH => ?_)
        clear hK K
        try simp only [Act.put, p1, p2, p3]
        refine rd1 4 rfl (fun K hK => ?_)
        go_simp
        refine (RI.out _).mono ?_
        rintro e W ⟨rfl, hb⟩
        replace hM := hid (hM.out.later hb)
        clear hb
        go_wp2_with fail
        refine hK.out _ _ (hM.out.at 0 rfl) (fun hH => ?_)
        clear hK K
        try simp only [Act.put, p1, p2, p3]
        refine tk 5 rfl hH ?_
        simp only [Act.put, p1, p2, p3]
        refine tkR 6 rfl hH (fun _ h => h) (rwR r) ?_
        simp only [Act.put, p1, p2, p3]
        refine rd1 7 rfl (fun K hK => ?_)
        go_simp
        refine (AI.out _).mono ?_
        rintro e W ⟨rfl, hb⟩
        replace hM := hid (hM.out.later hb)
        clear hb
        go_wp2_with fail
        refine hK.out _ _ (hM.out.at 0 rfl) (fun hH => ?_)
        clear hK K
        try simp only [Act.put, p1, p2, p3]
        refine tk 8 rfl hH ?_
        simp only [Act.put, p1, p2, p3]
        refine tk 9 rfl hH ?_
        simp only [Act.put, p1, p2, p3]
        refine tkR 10 rfl hH (fun _ h => h) (rwR r) ?_
        simp only [Act.put, p1, p2, p3]
        refine rd1 11 rfl (fun K hK => ?_)
        go_simp
        refine (NI.out _).mono ?_
        rintro e W ⟨rfl, hb⟩
        replace hM := hid (hM.out.later hb)
        clear hb
        go_wp2_with fail
        refine hK.out _ _ (hM.out.at 0 rfl) (fun hH => ?_)
        clear hK K
        try simp only [Act.put, p1, p2, p3]
        refine tk 12 rfl hH ?_
        simp only [Act.put, p1, p2, p3]
        refine tk 13 rfl hH ?_
        simp only [Act.put, p1, p2, p3]
        refine tkR 14 rfl hH (fun _ h => h) (rwR r) ?_
        simp only [Act.put, p1, p2, p3]
        refine rd1 15 rfl (fun K hK => ?_)
        go_simp
        refine (ZI.out _).mono ?_
        rintro e W ⟨rfl, hb⟩
        replace hM := hid (hM.out.later hb)
        clear hb
        go_wp2_with fail
        refine hK.out _ _ (hM.out.at 0 rfl) (fun hH => ?_)
        clear hK K
        try simp only [Act.put, p1, p2, p3]
        refine tk 16 rfl hH ?_
        simp only [Act.put, p1, p2, p3]
        refine tk 17 rfl hH ?_
        simp only [Act.put, p1, p2, p3]
        refine wpAnyH_done (by kernel_rfl) ?_ _
        go_wp2
        go_ret
        exact ⟨ret_bool HV.out.symm, hM.out.below⟩
end Go.Proofs.YteogbpaaacmllaaGreatDoor.Tab
namespace Go.Proofs.YteogbpaaacmllaaGreatDoor.Tab
set_option maxRecDepth 20000
open Go.RowKit
set_option linter.unusedVariables false

/-- What Do hands back: an object, an answer, no error. -/
def DidD (w : World) (d : Nat → Nat) (cc y : Int) (e : Ending) (w' : World) : Prop := e = .returned (.tuple #[.agg (wl d).toArray, .agg #[.int .i64 cc, .int .i64 y], .nilIface]) ∧ Below w.heap.size w w'
def Refd (w : World) (e : Ending) (w' : World) : Prop := e = .returned (.tuple #[.agg (wl wz).toArray, .agg #[.int .i64 0, .int .i64 0], .iface 28 (.int .i64 1)]) ∧ Below w.heap.size w w'
theorem opR_yes {o k v : Int} (h : Rt o k v) (w : World) : Calls Tryz.prog 15 #[.agg #[.int .i64 o, .int .i64 k, .int .i64 v]] w fun e w' => e = .returned (.bool true) ∧ Below w.heap.size w w' :=
  (opRight_is h w).mono fun e w' ⟨he, hw⟩ => ⟨he, hw ▸ new_below w _⟩
theorem opR_no {o k v : Int} (h : ¬ Rt o k v) (w : World) : Calls Tryz.prog 15 #[.agg #[.int .i64 o, .int .i64 k, .int .i64 v]] w fun e w' => e = .returned (.bool false) ∧ Below w.heap.size w w' :=
  (opRight_isnt h w).mono fun e w' ⟨he, hw⟩ => ⟨he, hw ▸ new_below w _⟩
set_option maxHeartbeats 4000000 in
theorem obDo_wrong {kind o k x : Int} {c : Nat → Nat} (hR : ¬ Rt o k x) (w : World) :
    Calls Tryz.prog 66 #[.int .i64 kind, .agg (wl c).toArray, .agg #[.int .i64 o, .int .i64 k, .int .i64 x]] w (Refd w) := by
  have OR : Hid (∀ w : World, _) := fun w => opR_no hR w
  clear hR
  have hM : Hid _ := (((((Ms.nil w).born (wl c) 119 (b := w.heap.size) rfl).born [.int .i64 o, .int .i64 k, .int .i64 x] 44 (b := w.heap.size + 1) (by simp)).bornR wz_all.symm 119 (b := w.heap.size + 2) (by simp)).born [.int .i64 0, .int .i64 0] 58 (b := w.heap.size + 3) (by simp))
  have c1 := hM.out.cell 2 0 rfl rfl
  have c2 := hM.out.cell 2 1 rfl rfl
  have c3 := hM.out.cell 2 2 rfl rfl
  go_enter Tryz.func66, Tryz.ntmps66
  go_wp2_with fail
  clear c1 c2 c3
  generalize World.alloc _ _ = W at hM ⊢
  generalize hsz : w.heap.size = n at hM ⊢
  clear hsz
  refine (OR.out _).mono ?_
  rintro e W ⟨rfl, hb⟩
  replace hM := hid (hM.out.later hb)
  clear hb
  go_wp2_with (first
    | (refine sR rfl (hM.out.at 1 rfl) rfl ((rwC wz).len (rwC wz)) (rwC wz) ?_
       replace hM := hid (hM.out.put 1 rfl (wl wz) ((rwC wz).len (rwC wz)))
       generalize World.setCells _ _ _ _ = W at hM ⊢)
    | (refine sR rfl (hM.out.at 0 rfl) rfl ((rwA 0 0).len (rwA 0 0)) (rwA 0 0) ?_
       replace hM := hid (hM.out.put 0 rfl [.int .i64 0, .int .i64 0] ((rwA 0 0).len (rwA 0 0)))
       generalize World.setCells _ _ _ _ = W at hM ⊢))
  exact bodyPost_ret (res2s Tryz.results66 (hM.out.at 1 rfl) (rwC wz) (hM.out.at 0 rfl) (rwA 0 0) (.iface 28 (.int .i64 1))) rfl ⟨rfl, hM.out.below⟩
set_option maxHeartbeats 4000000 in
theorem obDo_isnt {kind o k x : Int} {c : Nat → Nat} (hR : Rt o k x) (hO : ¬ isOb kind c) (w : World) :
    Calls Tryz.prog 66 #[.int .i64 kind, .agg (wl c).toArray, .agg #[.int .i64 o, .int .i64 k, .int .i64 x]] w (Refd w) := by
  have OR : Hid (∀ w : World, _) := fun w => opR_yes hR w
  have RR : Hid (∀ w : World, _) := fun w => obRight_is (v := false) ⟨fun h => absurd h (by decide), fun h => absurd h hO⟩ w
  clear hR hO
  have hM : Hid _ := (((((Ms.nil w).born (wl c) 119 (b := w.heap.size) rfl).born [.int .i64 o, .int .i64 k, .int .i64 x] 44 (b := w.heap.size + 1) (by simp)).bornR wz_all.symm 119 (b := w.heap.size + 2) (by simp)).born [.int .i64 0, .int .i64 0] 58 (b := w.heap.size + 3) (by simp))
  have c1 := hM.out.cell 2 0 rfl rfl
  have c2 := hM.out.cell 2 1 rfl rfl
  have c3 := hM.out.cell 2 2 rfl rfl
  go_enter Tryz.func66, Tryz.ntmps66
  go_wp2_with fail
  clear c1 c2 c3
  generalize World.alloc _ _ = W at hM ⊢
  generalize hsz : w.heap.size = n at hM ⊢
  clear hsz
  refine (OR.out _).mono ?_
  rintro e W ⟨rfl, hb⟩
  replace hM := hid (hM.out.later hb)
  clear hb
  go_wp2_with (first
    | (refine lW rfl (hM.out.at 3 rfl) rfl (rwC c) ?_))
  refine (RR.out _).mono ?_
  rintro e W ⟨rfl, hb⟩
  replace hM := hid (hM.out.later hb)
  clear hb
  go_wp2_with (first
    | (refine sR rfl (hM.out.at 1 rfl) rfl ((rwC wz).len (rwC wz)) (rwC wz) ?_
       replace hM := hid (hM.out.put 1 rfl (wl wz) ((rwC wz).len (rwC wz)))
       generalize World.setCells _ _ _ _ = W at hM ⊢)
    | (refine sR rfl (hM.out.at 0 rfl) rfl ((rwA 0 0).len (rwA 0 0)) (rwA 0 0) ?_
       replace hM := hid (hM.out.put 0 rfl [.int .i64 0, .int .i64 0] ((rwA 0 0).len (rwA 0 0)))
       generalize World.setCells _ _ _ _ = W at hM ⊢))
  exact bodyPost_ret (res2s Tryz.results66 (hM.out.at 1 rfl) (rwC wz) (hM.out.at 0 rfl) (rwA 0 0) (.iface 28 (.int .i64 1))) rfl ⟨rfl, hM.out.below⟩
end Go.Proofs.YteogbpaaacmllaaGreatDoor.Tab
namespace Go.Proofs.YteogbpaaacmllaaGreatDoor.Tab
set_option maxRecDepth 20000
open Go.RowKit Go.Maps

def clos (b : Nat) : Value := .func (.func 118) #[] #[.pointer (some ⟨b, 0, none⟩)]
def fv (k : Nat) : Value := .func (.func k) #[] #[]
theorem withList_is (k : Nat) (w : World) : Calls Tryz.prog 107 #[fv k] w fun e w' => e = .returned (clos w.heap.size) ∧ Bo w' w.heap.size [fv k] ∧ Below w.heap.size w w' := by
  unfold fv clos
  go_enter Tryz.func107, Tryz.ntmps107
  go_wp2
  go_ret
  exact ⟨rfl, Bo.born w [.func (.func k) #[] #[]] _ rfl, new_below w _⟩

/-- The map in block m, its elements as they are. -/
def Rv (v : Value) : Option (DataW Value × List MemPlace) := some (.held v, [])
def Mp (w : World) (m n : Nat) (D : DataW Value) : Prop := w.ownsMap Tryz.prog 3 Rv m n D
theorem Mp.later {w w' : World} {m n : Nat} {D : DataW Value} (h : Mp w m n D) (hb : Below w.heap.size w w') : Mp w' m n D := by
  obtain ⟨es, clk, h1, h2⟩ := h
  exact ⟨es, clk, by rw [hb.block m (Array.getElem?_eq_some_iff.1 h1).1]; exact h1, h2⟩
theorem map_desc : Tryz.prog.underlying 162 = some (.map 3 161) := by kernel_rfl
theorem int_desc : Tryz.prog.underlying 3 = some (.int .i64) := by kernel_rfl
theorem zero_deed (w : World) : (zeroValue 161).run Tryz.prog w = .ok .nilFunc w := by kernel_rfl
theorem Mp.add {w : World} {m n : Nat} {D : DataW Value} (h : Mp w m n D) (hn : n ≤ 10) (k : Int) (h0 : 0 ≤ k) (hk : k ≤ 10) (v : Value) :
    ∃ w', (Instr.mapUpdate 162 (.map (some m)) (.int .i64 k) v).run Tryz.prog w = .ok () w' ∧ Mp w' m (n + 1) (D.put (.int .i64 k) (.held v)) ∧ w.grownBy w' (some m) :=
  World.ownsMap.update h (int_keyed int_desc) map_desc (by unfold maxLen; omega) (keyOf_int_mk int_desc (a := k) (WalkArith.wf_i64 (by omega))) rfl
theorem Mp.look {w : World} {m n : Nat} {D : DataW Value} (h : Mp w m n D) (k : Int) (h0 : 0 ≤ k) (hk : k ≤ 10) {v : Value} (hv : D.atKey (.int .i64 k) (.held .nilFunc) = .held v) :
    (Instr.lookup 162 (.map (some m)) (.int .i64 k) false).run Tryz.prog w = .ok v w := by
  obtain ⟨u, ps, h1, h2⟩ := World.ownsMap.lookup h (int_keyed int_desc) map_desc (zero_deed w) (zd := .held .nilFunc) (zp := []) rfl (keyOf_int_mk int_desc (a := k) (WalkArith.wf_i64 (by omega)))
  unfold Rv at h2
  rw [hv] at h2
  injection h2 with h2
  injection h2 with h2 _
  injection h2 with h2
  rw [h1, h2]
theorem Bo.grown {w w' : World} {b : Nat} {cs : List Value} {m : Nat} (h : Bo w b cs) (hg : w.grownBy w' (some m)) (hne : b ≠ m) : Bo w' b cs :=
  h.keep (hg.block b h.lt (fun e => hne (by injection e))) (Nat.lt_of_lt_of_le h.lt hg.size)
theorem Gd.grown {n : Nat} {w a b : World} {m : Nat} (h : Gd n w a) (hg : a.grownBy b (some m)) (hm : n ≤ m) : Gd n w b :=
  ⟨h.1, h.2.grown hg h.2.size (fun k hk => by injection hk with hk; have := h.1; omega)⟩

/-- All deeds, by kinds: each list's function lies in a block of its own. -/
def deedsD (b1 b2 b3 b4 : Nat) : DataW Value :=
  ((((((DataW.map []).put (.int .i64 1) (.held (clos b1))).put (.int .i64 2) (.held (clos b2))).put (.int .i64 3) (.held (clos b3))).put (.int .i64 4) (.held (clos b4))).put (.int .i64 5) (.held (fv 112))).put (.int .i64 6) (.held (fv 113))
theorem deeds_1 (b1 b2 b3 b4 : Nat) : (deedsD b1 b2 b3 b4).atKey (.int .i64 1) (.held .nilFunc) = .held (clos b1) := rfl
theorem deeds_2 (b1 b2 b3 b4 : Nat) : (deedsD b1 b2 b3 b4).atKey (.int .i64 2) (.held .nilFunc) = .held (clos b2) := rfl
theorem deeds_3 (b1 b2 b3 b4 : Nat) : (deedsD b1 b2 b3 b4).atKey (.int .i64 3) (.held .nilFunc) = .held (clos b3) := rfl
theorem deeds_4 (b1 b2 b3 b4 : Nat) : (deedsD b1 b2 b3 b4).atKey (.int .i64 4) (.held .nilFunc) = .held (clos b4) := rfl
theorem deeds_5 (b1 b2 b3 b4 : Nat) : (deedsD b1 b2 b3 b4).atKey (.int .i64 5) (.held .nilFunc) = .held (fv 112) := rfl
theorem deeds_6 (b1 b2 b3 b4 : Nat) : (deedsD b1 b2 b3 b4).atKey (.int .i64 6) (.held .nilFunc) = .held (fv 113) := rfl
structure Deeds (w : World) (m b1 b2 b3 b4 : Nat) : Prop where
  mp : Mp w m 6 (deedsD b1 b2 b3 b4)
  q : Bo w b1 [fv 108]
  s : Bo w b2 [fv 109]
  d : Bo w b3 [fv 110]
  h : Bo w b4 [fv 111]

set_option maxHeartbeats 2000000 in
theorem deeds_is (w : World) : Calls Tryz.prog 92 #[] w fun e w' => e = .returned (.map (some w.heap.size)) ∧ (∃ b1 b2 b3 b4, Deeds w' w.heap.size b1 b2 b3 b4) ∧ Below w.heap.size w w' := by
  have hmm := @run_makeMap Tryz.prog
  have M : Hid (Mp (w.alloc (.map #[] 0)) w.heap.size 0 (.map [])) := World.ownsMap_made _ _ _ _
  have G : Hid (Gd w.heap.size w (w.alloc (.map #[] 0))) := (Gd.refl w).new _
  have l0 : w.heap.size < (w.alloc (.map #[] 0)).heap.size := by simp
  go_enter Tryz.func92, Tryz.ntmps92
  go_wp2_with fail
  generalize w.alloc (.map #[] 0) = W at M G l0 ⊢
  generalize hsz : w.heap.size = n at M G l0 ⊢
  have HSZ : Hid (w.heap.size = n) := hsz
  clear hsz
  refine (withList_is 108 W).mono ?_
  rintro e w1 ⟨rfl, q1, hb⟩
  have q1 : Hid _ := q1
  have G1 : Hid (Gd n w w1) := G.out.later hb
  have l1 : n < w1.heap.size := Nat.lt_of_lt_of_le l0 hb.size
  generalize W.heap.size = b1 at q1 l0 ⊢
  obtain ⟨w2, r1, m2, g2⟩ := Mp.add (Mp.later M.out hb) (by decide) 1 (by decide) (by decide) (clos b1)
  have Q : Hid (Bo w2 b1 [fv 108]) := q1.out.grown g2 (by omega)
  have G2 : Hid (Gd n w w2) := G1.out.grown g2 (Nat.le_refl _)
  have M2 : Hid _ := m2
  have l2 : n < w2.heap.size := Nat.lt_of_lt_of_le l1 g2.size
  have e1 : b1 ≠ n := by omega
  clear hb g2 m2 M G G1 q1 l0 l1
  go_wp2_with fail
  clear r1
  refine (withList_is 109 w2).mono ?_
  rintro e w3 ⟨rfl, q1, hb⟩
  have q1 : Hid _ := q1
  have G1 : Hid (Gd n w w3) := G2.out.later hb
  have Q1 : Hid (Bo w3 b1 [fv 108]) := Q.out.later hb
  have l1 : n < w3.heap.size := Nat.lt_of_lt_of_le l2 hb.size
  have M1 : Hid _ := Mp.later M2.out hb
  generalize w2.heap.size = b2 at q1 l2 ⊢
  obtain ⟨w4, r1, m2, g2⟩ := Mp.add M1.out (by decide) 2 (by decide) (by decide) (clos b2)
  have e2 : b2 ≠ n := by omega
  have S : Hid (Bo w4 b2 [fv 109]) := q1.out.grown g2 e2
  have Q4 : Hid (Bo w4 b1 [fv 108]) := Q1.out.grown g2 e1
  have G4 : Hid (Gd n w w4) := G1.out.grown g2 (Nat.le_refl _)
  have M4 : Hid _ := m2
  have l4 : n < w4.heap.size := Nat.lt_of_lt_of_le l1 g2.size
  clear hb g2 m2 M2 M1 G1 G2 q1 Q Q1 l1 l2
  go_wp2_with fail
  clear r1
  refine (withList_is 110 w4).mono ?_
  rintro e w5 ⟨rfl, q1, hb⟩
  have q1 : Hid _ := q1
  have G1 : Hid (Gd n w w5) := G4.out.later hb
  have Q1 : Hid (Bo w5 b1 [fv 108]) := Q4.out.later hb
  have S1 : Hid (Bo w5 b2 [fv 109]) := S.out.later hb
  have l1 : n < w5.heap.size := Nat.lt_of_lt_of_le l4 hb.size
  have M1 : Hid _ := Mp.later M4.out hb
  generalize w4.heap.size = b3 at q1 l4 ⊢
  obtain ⟨w6, r1, m2, g2⟩ := Mp.add M1.out (by decide) 3 (by decide) (by decide) (clos b3)
  have e3 : b3 ≠ n := by omega
  have D : Hid (Bo w6 b3 [fv 110]) := q1.out.grown g2 e3
  have Q6 : Hid (Bo w6 b1 [fv 108]) := Q1.out.grown g2 e1
  have S6 : Hid (Bo w6 b2 [fv 109]) := S1.out.grown g2 e2
  have G6 : Hid (Gd n w w6) := G1.out.grown g2 (Nat.le_refl _)
  have M6 : Hid _ := m2
  have l6 : n < w6.heap.size := Nat.lt_of_lt_of_le l1 g2.size
  clear hb g2 m2 M4 M1 G1 G4 q1 Q4 Q1 S S1 l1 l4
  go_wp2_with fail
  clear r1
  refine (withList_is 111 w6).mono ?_
  rintro e w7 ⟨rfl, q1, hb⟩
  have q1 : Hid _ := q1
  have G1 : Hid (Gd n w w7) := G6.out.later hb
  have Q1 : Hid (Bo w7 b1 [fv 108]) := Q6.out.later hb
  have S1 : Hid (Bo w7 b2 [fv 109]) := S6.out.later hb
  have D1 : Hid (Bo w7 b3 [fv 110]) := D.out.later hb
  have M1 : Hid _ := Mp.later M6.out hb
  generalize w6.heap.size = b4 at q1 l6 ⊢
  obtain ⟨w8, r1, m2, g2⟩ := Mp.add M1.out (by decide) 4 (by decide) (by decide) (clos b4)
  have e4 : b4 ≠ n := by omega
  have H8 : Hid (Bo w8 b4 [fv 111]) := q1.out.grown g2 e4
  have D8 : Hid (Bo w8 b3 [fv 110]) := D1.out.grown g2 e3
  have Q8 : Hid (Bo w8 b1 [fv 108]) := Q1.out.grown g2 e1
  have S8 : Hid (Bo w8 b2 [fv 109]) := S1.out.grown g2 e2
  have G8 : Hid (Gd n w w8) := G1.out.grown g2 (Nat.le_refl _)
  have M8 : Hid _ := m2
  clear hb g2 m2 M6 M1 G1 G6 q1 Q6 Q1 S6 S1 D D1 l6
  obtain ⟨w9, r2, m9, g9⟩ := Mp.add M8.out (by decide) 5 (by decide) (by decide) (fv 112)
  obtain ⟨wx, r3, mx, gx⟩ := Mp.add m9 (by decide) 6 (by decide) (by decide) (fv 113)
  have FIN : Hid (Deeds wx n b1 b2 b3 b4 ∧ Gd n w wx) := ⟨⟨mx, (Q8.out.grown g9 e1).grown gx e1, (S8.out.grown g9 e2).grown gx e2, (D8.out.grown g9 e3).grown gx e3, (H8.out.grown g9 e4).grown gx e4⟩, (G8.out.grown g9 (Nat.le_refl _)).grown gx (Nat.le_refl _)⟩
  clear m9 g9 mx gx M8 G8 Q8 S8 D8 H8
  unfold fv at r2 r3
  go_wp2
  go_ret
  exact ⟨by rw [HSZ.out]; rfl, by rw [HSZ.out]; exact ⟨b1, b2, b3, b4, FIN.out.1⟩, FIN.out.2.2⟩
end Go.Proofs.YteogbpaaacmllaaGreatDoor.Tab
namespace Go.Proofs.YteogbpaaacmllaaGreatDoor.Tab
set_option maxRecDepth 20000
open Go.RowKit
theorem Deeds.later {w w' : World} {m b1 b2 b3 b4 : Nat} (h : Deeds w m b1 b2 b3 b4) (hb : Below w.heap.size w w') : Deeds w' m b1 b2 b3 b4 :=
  ⟨h.mp.later hb, h.q.later hb, h.s.later hb, h.d.later hb, h.h.later hb⟩
theorem Deeds.new {w : World} {m b1 b2 b3 b4 : Nat} (h : Deeds w m b1 b2 b3 b4) (o : Obj) : Deeds (w.alloc o) m b1 b2 b3 b4 := h.later (new_below w o)
end Go.Proofs.YteogbpaaacmllaaGreatDoor.Tab
