/- Texts laid together: The reference's calls: pointers at blocks of twelve cells; all that its walk has laid, in one fact (no walk); The reference's openOf, by its contract; The law's cellsOf, by its contract; The reference faults Bare and Good; cellsOf of no words; What the reference's Judge answers; rows of pointers, made; short steps (no walk); Package judge: callsOf, by its contracts; Package judge: Fits, by its contracts. -/
import Derived.Test.YtaipanjigindbaaDoorPk05
import Derived.Test.YtaipanjigindbaaDoorPk04
import Derived.Maps.AppendAt
import Derived.Deep.DeepCutAuto
import Derived.Deep.RegionHeld3
import Derived.Test.YtaipanjigindbaaDoorPk01
import Derived.Test.YtaipanjigindbaaDoorPk02
import Derived.Deep.LoopGhost
import Derived.Test.YtaipanjigindbaaDoorPk03
namespace Go.Proofs.YtaipanjigindbaaDoor.Tab
set_option maxRecDepth 20000
open Go.RowKit
set_option linter.unusedVariables false

/-- The place of an answer, as the reference has it. -/
def tv : Option Nat → Int
  | none => -1
  | some z => (z : Nat)
/-- A call's twelve cells. -/
def cr (e : EV) (a : Nat) (z : Int) (x : Nat) : List Value := [.int .i64 e.kd, .int .i64 e.th, .int .i64 e.o, .int .i64 e.k, .int .i64 e.x, .int .i64 e.c, .int .i64 e.y, .int .i64 e.wh, .int .i64 e.st, .int .i64 (a : Nat), .int .i64 z, .int .i64 (x : Nat)]
def crow (h : Nat → EV) (c : CC) (x : Nat) : List Value := cr (h c.1) c.1 (tv c.2) x
def frow (h : Nat → EV) (cs : List CC) (hs : Nat → Nat) (j : Nat) : List Value := crow h (cg cs j) (hs j)
def ptr (b : Nat) : Value := .pointer (some ⟨b, 0, none⟩)
def bk (bs : List Nat) (k : Nat) : Nat := bs.getD k 0
/-- The calls' blocks. -/
def cl (bs : List Nat) (f : Nat → List Value) : List (Nat × List Value) := (List.range bs.length).map fun j => (bk bs j, f j)
theorem cl_length (bs : List Nat) (f : Nat → List Value) : (cl bs f).length = bs.length := by simp [cl]
theorem cl_get {bs : List Nat} {f : Nat → List Value} {k : Nat} (hk : k < bs.length) : (cl bs f)[k]? = some (bk bs k, f k) := by simp [cl, hk]
theorem bk_app {bs : List Nat} {b k : Nat} (hk : k < bs.length) : bk (bs ++ [b]) k = bk bs k := by
  unfold bk; rw [List.getD_eq_getElem?_getD, List.getD_eq_getElem?_getD, List.getElem?_append_left hk]
theorem bk_last (bs : List Nat) (b : Nat) : bk (bs ++ [b]) bs.length = b := by unfold bk; simp
theorem cl_congr {bs : List Nat} {f g : Nat → List Value} (h : ∀ j, j < bs.length → f j = g j) : cl bs f = cl bs g := by
  unfold cl
  apply List.map_congr_left
  intro j hj
  rw [h j (List.mem_range.1 hj)]
theorem cl_app (bs : List Nat) (b : Nat) (f : Nat → List Value) : cl (bs ++ [b]) f = cl bs f ++ [(b, f bs.length)] := by
  unfold cl
  rw [List.length_append, List.length_singleton, List.range_succ, List.map_append, List.map_singleton, bk_last]
  congr 1
  apply List.map_congr_left
  intro j hj
  rw [bk_app (List.mem_range.1 hj)]
theorem cl_set {bs : List Nat} {f : Nat → List Value} {k : Nat} (hk : k < bs.length) (r : List Value) : (cl bs f).set k (bk bs k, r) = cl bs (fun j => if j = k then r else f j) := by
  apply List.ext_getElem?
  intro i
  rw [List.getElem?_set]
  by_cases e : k = i
  · subst e
    rw [if_pos rfl, if_pos (by rw [cl_length]; exact hk), cl_get hk, if_pos rfl]
  · rw [if_neg e]
    by_cases hi : i < bs.length
    · rw [cl_get hi, cl_get hi, if_neg (fun h => e h.symm)]
    · rw [List.getElem?_eq_none (by rw [cl_length]; omega), List.getElem?_eq_none (by rw [cl_length]; omega)]
def prs (ps : List Nat) : List Value := ps.map ptr

theorem Ms.grown {n : Nat} {w W W' : World} {L : List (Nat × List Value)} {row : Option Nat} (h : Ms n w W L []) (hg : W.grownBy W' row) (hr : ∀ g, row = some g → n ≤ g ∧ g ∉ L.map (·.1)) : Ms n w W' L [] where
  gd := ⟨h.gd.1, h.gd.2.grown hg h.gd.2.size (fun c hc => by have := (hr c hc).1; have := h.gd.1; omega)⟩
  bo p hp := (h.bo p hp).keep (hg.block _ (h.bo p hp).lt (fun c => (hr _ c.symm).2 (List.mem_map.2 ⟨p, hp, rfl⟩))) (Nat.lt_of_lt_of_le (h.bo p hp).lt hg.size)
  ge := h.ge
  nd := h.nd
  li := by intro q hq; cases hq

/-- All that the walk has laid: the blocks of F, the row of pointers v at the blocks ps, the calls' blocks bs with the rows f. -/
structure Jm (n : Nat) (w W : World) (F : List (Nat × List Value)) (v : Value) (ps bs : List Nat) (f : Nat → List Value) : Prop where
  ms : Ms n w W (F ++ cl bs f) []
  pr : W.ownsRow n 83 1 v ps.length (prs ps)
  ap : ∀ g, v.ownBlock = some g → g ∉ (F ++ cl bs f).map (·.1)
section
variable {n : Nat} {w W W' : World} {F : List (Nat × List Value)} {v : Value} {ps bs : List Nat} {f : Nat → List Value}
theorem own_keep {B : Nat} {e : TypeId} {size m : Nat} {xs : List Value} (h : W.ownsRow B e size v m xs) (hb : ∀ g, v.ownBlock = some g → W'.heap[g]? = W.heap[g]?) : W'.ownsRow B e size v m xs := by
  refine ⟨h.1, ?_⟩
  rcases h.2 with e | ⟨g, cap, cur, hv, h1, h2, h3⟩
  · exact .inl e
  · exact .inr ⟨g, cap, cur, hv, h1, by rw [hb g (by rw [hv]; rfl)]; exact h2, h3⟩
theorem Jm.at (h : Jm n w W F v ps bs f) (i : Nat) {b : Nat} {cs : List Value} (hi : F[i]? = some (b, cs)) : Bo W b cs :=
  h.ms.at i (by rw [List.getElem?_append_left (List.getElem?_eq_some_iff.1 hi).1]; exact hi)
theorem Jm.cell (h : Jm n w W F v ps bs f) (i j : Nat) {b : Nat} {cs : List Value} {u : Value} (hi : F[i]? = some (b, cs)) (hj : cs[j]? = some u) : W.cell? ⟨b, j, none⟩ = some u := (h.at i hi).cell j u hj
theorem Jm.froz (h : Jm n w W F v ps bs f) (i j : Nat) {b : Nat} {cs : List Value} (hi : F[i]? = some (b, cs)) : W.frozen? ⟨b, j, none⟩ = false := (h.at i hi).froz j
theorem Jm.below (h : Jm n w W F v ps bs f) : Below w.heap.size w W := h.ms.below
theorem Jm.le (h : Jm n w W F v ps bs f) : n ≤ W.heap.size := h.ms.le
theorem Jm.plt (h : Jm n w W F v ps bs f) : ∀ g, v.ownBlock = some g → n ≤ g ∧ g < W.heap.size := h.pr.lt
theorem Jm.later (h : Jm n w W F v ps bs f) (hb : Below W.heap.size W W') : Jm n w W' F v ps bs f :=
  ⟨h.ms.later hb, own_keep h.pr fun g hg => hb.block g (h.plt g hg).2, h.ap⟩
theorem Jm.new (h : Jm n w W F v ps bs f) (o : Obj) : Jm n w (W.alloc o) F v ps bs f := h.later (new_below W o)
theorem Jm.drew (h : Jm n w W F v ps bs f) : Jm n w W.drew F v ps bs f := ⟨h.ms.drew, h.pr, h.ap⟩
theorem Jm.born (h : Jm n w W F v ps bs f) (cs : List Value) (T : TypeId) {b : Nat} (hb : b = W.heap.size) : Jm n w (W.alloc (.cells cs.toArray T)) ((b, cs) :: F) v ps bs f :=
  ⟨h.ms.born cs T hb, (h.new _).pr, fun g hg hm => by
    rw [List.cons_append, List.map_cons, List.mem_cons] at hm
    rcases hm with e | hm
    · have := (h.plt g hg).2; have e : g = b := e; omega
    · exact h.ap g hg hm⟩
theorem front_set {A B : List (Nat × List Value)} {i : Nat} (hi : i < A.length) (x : Nat × List Value) : (A ++ B).set i x = A.set i x ++ B := List.set_append_left _ _ hi
theorem keys_front {i b : Nat} {cs ds : List Value} (hi : F[i]? = some (b, cs)) : (F.set i (b, ds) ++ cl bs f).map (·.1) = (F ++ cl bs f).map (·.1) := by
  rw [List.map_append, List.map_append, keys_set F i b cs ds hi]
theorem Jm.ne (h : Jm n w W F v ps bs f) (i : Nat) {b : Nat} {cs : List Value} (hi : F[i]? = some (b, cs)) : ∀ g, v.ownBlock = some g → g ≠ b := fun g hg e => h.ap g hg (by
  rw [List.map_append, List.mem_append]
  exact Or.inl (List.mem_map.2 ⟨_, List.mem_of_getElem? hi, e.symm⟩))
theorem Jm.put (h : Jm n w W F v ps bs f) (i : Nat) {b : Nat} {cs : List Value} (hi : F[i]? = some (b, cs)) (ds : List Value) (hl : ds.length = cs.length) : Jm n w (W.setCells b 0 ds) (F.set i (b, ds)) v ps bs f where
  ms := by
    have hlt := (List.getElem?_eq_some_iff.1 hi).1
    have := h.ms.put i (by rw [List.getElem?_append_left hlt]; exact hi) ds hl
    rw [front_set hlt] at this
    exact this
  pr := own_keep h.pr fun g hg => heap_setCells (h.ne i hi g hg) _ _ _
  ap g hg := by rw [keys_front hi]; exact h.ap g hg
theorem Jm.put1 (h : Jm n w W F v ps bs f) (i j : Nat) {b : Nat} {cs : List Value} (hi : F[i]? = some (b, cs)) (u : Value) (ds : List Value) (hj : j < cs.length) (hd : cs.set j u = ds) : Jm n w (W.setCell ⟨b, j, none⟩ u) (F.set i (b, ds)) v ps bs f where
  ms := by
    have hlt := (List.getElem?_eq_some_iff.1 hi).1
    have := h.ms.put1 i j (by rw [List.getElem?_append_left hlt]; exact hi) u ds hj hd
    rw [front_set hlt] at this
    exact this
  pr := own_keep h.pr fun g hg => Below.heap_setCell _ _ _ _ (h.ne i hi g hg)
  ap g hg := by rw [keys_front hi]; exact h.ap g hg
theorem Jm.tail {p : Nat × List Value} (h : Jm n w W (p :: F) v ps bs f) : Jm n w W F v ps bs f :=
  ⟨⟨h.ms.gd, fun x hx => h.ms.bo x (List.mem_cons_of_mem _ hx), fun x hx => h.ms.ge x (List.mem_cons_of_mem _ hx), (List.nodup_cons.1 h.ms.nd).2, fun q hq => by cases hq⟩, h.pr, fun g hg hm => h.ap g hg (List.mem_cons_of_mem _ hm)⟩
theorem Jm.call (h : Jm n w W F v ps bs f) {k : Nat} (hk : k < bs.length) : Bo W (bk bs k) (f k) :=
  h.ms.bo (bk bs k, f k) (List.mem_append_right _ (List.mem_of_getElem? (cl_get hk)))
theorem Jm.cne (h : Jm n w W F v ps bs f) {k : Nat} (hk : k < bs.length) : ∀ g, v.ownBlock = some g → g ≠ bk bs k := fun g hg e => h.ap g hg (by
  rw [List.map_append, List.mem_append]
  exact Or.inr (List.mem_map.2 ⟨_, List.mem_of_getElem? (cl_get (f := f) hk), e.symm⟩))
theorem Jm.congr {f' : Nat → List Value} (h : Jm n w W F v ps bs f) (hf : ∀ j, j < bs.length → f j = f' j) : Jm n w W F v ps bs f' := by
  have e := cl_congr hf
  exact ⟨e ▸ h.ms, h.pr, e ▸ h.ap⟩
/-- One cell of a call, written. -/
theorem Jm.putC (h : Jm n w W F v ps bs f) {k : Nat} (hk : k < bs.length) (i : Nat) (u : Value) (r : List Value) (hi : i < (f k).length) (hr : (f k).set i u = r) : Jm n w (W.setCell ⟨bk bs k, i, none⟩ u) F v ps bs (fun j => if j = k then r else f j) where
  ms := by
    have h1 : (F ++ cl bs f)[F.length + k]? = some (bk bs k, f k) := by
      rw [List.getElem?_append_right (by omega), show F.length + k - F.length = k by omega]; exact cl_get hk
    have := h.ms.put1 (F.length + k) i h1 u r hi hr
    rw [List.set_append_right _ _ (by omega), show F.length + k - F.length = k by omega, cl_set hk] at this
    exact this
  pr := own_keep h.pr fun g hg => Below.heap_setCell _ _ _ _ (h.cne hk g hg)
  ap g hg := by
    have e : (F ++ cl bs (fun j => if j = k then r else f j)).map (·.1) = (F ++ cl bs f).map (·.1) := by
      rw [List.map_append, List.map_append]; unfold cl; rw [List.map_map, List.map_map]; rfl
    rw [e]; exact h.ap g hg
/-- A block becomes a call's. -/
theorem Jm.adopt {c : Nat} {row : List Value} (h : Jm n w W ((c, row) :: F) v ps bs f) {f' : Nat → List Value} (hf : ∀ j, j < bs.length → f j = f' j) (hl : f' bs.length = row) : Jm n w W F v ps (bs ++ [c]) f' := by
  have e : F ++ cl (bs ++ [c]) f' = F ++ (cl bs f ++ [(c, row)]) := by rw [cl_app, hl, cl_congr hf]
  have hp : List.Perm (F ++ (cl bs f ++ [(c, row)])) ((c, row) :: F ++ cl bs f) := by
    rw [← List.append_assoc]; exact (List.perm_append_singleton _ _)
  refine ⟨?_, h.pr, fun g hg hm => h.ap g hg ((hp.map _).mem_iff.1 (e ▸ hm))⟩
  rw [e]
  exact ⟨h.ms.gd, fun x hx => h.ms.bo x (hp.mem_iff.1 hx), fun x hx => h.ms.ge x (hp.mem_iff.1 hx), ((hp.map _).nodup_iff).2 h.ms.nd, fun q hq => by cases hq⟩
theorem Jm.start (h : Ms n w W F []) : Jm n w W F (.slice none 0 0) [] [] f :=
  ⟨by show Ms n w W (F ++ []) []; rw [List.append_nil]; exact h, World.ownsRow_nil _ _ _ _, fun g hg => by cases hg⟩
theorem Jm.form (h : Jm n w W F v ps bs f) : (v = .slice none 0 0 ∧ ps = []) ∨ ∃ g cap, v = .slice (some ⟨g, 0, none⟩) ps.length cap ∧ ps.length ≤ cap ∧ ∀ j, j < ps.length → W.cell? ⟨g, j, none⟩ = some (ptr (bk ps j)) := by
  rcases h.pr.2 with ⟨e, e2⟩ | ⟨g, cap, cur, hv, h1, h2, h3, h4, h5, h6⟩
  · exact .inl ⟨e, List.length_eq_zero_iff.1 e2⟩
  · have h' : W.ownsRow n 83 1 (.slice (some ⟨g, 0, none⟩) ps.length cap) ps.length (prs ps) := hv ▸ h.pr
    refine .inr ⟨g, cap, hv, h3, fun j hj => ?_⟩
    rw [World.ownsRow.cellAt h' j (by omega)]
    simp [prs, bk, hj]
theorem infoCp : (Tryd.prog.info? 83).map (fun i => (i.zero, i.size, i.bytes)) = some (some (.pointer none), 1, 8) := by kernel_rfl
theorem cps_desc : Tryd.prog.underlying 82 = some (.slice 83) := by kernel_rfl
theorem Jm.push (h : Jm n w W F v ps bs f) {nb c : Nat} (hc : W.cell? ⟨nb, 0, none⟩ = some (ptr c)) (hn : ps.length ≤ 1000000) (ty : TypeId) :
    ∃ v' W', (Builtin.append_ #[82, 82] ty #[v, .slice (some ⟨nb, 0, none⟩) 1 1]).run Tryd.prog W = .ok v' W' ∧ Jm n w W' F v' (ps ++ [c]) bs f := by
  obtain ⟨i0, hi, hz0, hz1, hz2⟩ := info_parts infoCp
  obtain ⟨v', W', hr, ho, hg, _, hv⟩ := run_append_own_at (P := Tryd.prog) (w := W) n 82 ty 83 i0 (.pointer none) 1 8 cps_desc hi hz0 hz1 hz2 rfl (by decide) v ps.length (prs ps) h.pr ⟨nb, 0, none⟩ 1 1 [ptr c] rfl
    (fun j u hu => by
      rw [Addr.add_lit]
      match j, hu with
      | 0, hu => simp at hu; subst hu; simpa using hc
      | j + 1, hu => simp at hu)
    (fun u hu => by simp at hu; subst hu; rfl) (by unfold maxLen; omega) (by omega) h.le
  refine ⟨v', W', hr, h.ms.grown hg (fun g hg2 => ⟨(h.plt g hg2).1, h.ap g hg2⟩), ?_, fun g hg2 hm => ?_⟩
  · rw [List.length_append, List.length_singleton, show prs (ps ++ [c]) = prs ps ++ [ptr c] by simp [prs]]
    exact ho
  · rcases hv with e | e
    · exact h.ap g (e ▸ hg2) hm
    · rw [e] at hg2; injection hg2 with hg2; have := h.ms.lt _ hm; omega
end
section
variable {P : Program} {ops : Array Oper} {rest : List Oper} {o : Oper} {a : Act} {w : World} {Q : Exit → Act → World → Prop}
theorem wpList_pushC (hP : P = Tryd.prog) (hgd : o.guard = none) (s x : Operand) (ho : o.op = .call { callee := .builtin .append, args := #[s, x], argTypes := #[82, 82] })
    {n : Nat} {w0 : World} {F : List (Nat × List Value)} {v : Value} {ps bs : List Nat} {f : Nat → List Value} {nb c : Nat} (hs : a.eval s = v) (hx : a.eval x = .slice (some ⟨nb, 0, none⟩) 1 1) (h : Jm n w0 w F v ps bs f) (hc : w.cell? ⟨nb, 0, none⟩ = some (ptr c)) (hn : ps.length ≤ 1000000)
    (hk : ∀ v' w', Jm n w0 w' F v' (ps ++ [c]) bs f → wpList P ops Q rest (a.put o.dst v') w') : wpList P ops Q (o :: rest) a w := by
  subst hP
  refine wpList_plain hgd fun K hK => ?_
  obtain ⟨v', w', hr, h2⟩ := h.push hc hn o.type
  unfold Oper.wp execOp
  simp only [ho, resolve, invoke, builtin, Sem.run_bind, Sem.run_pure, Result.andThen_ok, List.map_toArray, List.map_cons, List.map_nil, hs, hx, hr]
  exact hK _ _ (hk v' w' h2)
end
end Go.Proofs.YtaipanjigindbaaDoor.Tab
namespace Go.Proofs.YtaipanjigindbaaDoor.Tab
set_option maxRecDepth 20000
open Go.RowKit
set_option linter.unusedVariables false

/-- The pointer at a call, if any. -/
def cp (bs : List Nat) : Option Nat → Value
  | none => .pointer none
  | some k => ptr (bk bs k)
theorem opn_first {h : Nat → EV} {cs : List CC} {t : Int} {i : Nat} {a : Nat} (hi : cs[i]? = some (a, none)) (ht : (h a).th = t) (hn : ∀ (j a : Nat), j < i → cs[j]? = some (a, none) → (h a).th ≠ t) : opn h cs t = some i := by
  unfold opn
  rw [List.findIdx?_eq_some_iff_getElem]
  obtain ⟨hl, he⟩ := List.getElem?_eq_some_iff.1 hi
  refine ⟨hl, by rw [he]; simp [ht], fun j hj => ?_⟩
  obtain ⟨⟨b, z⟩, hc⟩ : ∃ c, cs[j]'(by omega) = c := ⟨_, rfl⟩
  rw [hc]
  intro hp
  simp only [Bool.and_eq_true, decide_eq_true_eq, Option.isNone_iff_eq_none] at hp
  obtain ⟨h1, rfl⟩ := hp
  exact hn j b hj (by rw [List.getElem?_eq_getElem (by omega), hc]) h1
theorem opn_nil {h : Nat → EV} {cs : List CC} {t : Int} (hn : ∀ (j a : Nat), cs[j]? = some (a, none) → (h a).th ≠ t) : opn h cs t = none := by
  cases e : opn h cs t with
  | none => rfl
  | some k => obtain ⟨a, h1, h2⟩ := opn_hit e; exact absurd h2 (hn k a h1)
set_option maxHeartbeats 4000000 in
theorem openOf_is {n : Nat} {w0 w : World} {F : List (Nat × List Value)} {v : Value} {bs : List Nat} {h : Nat → EV} {cs : List CC} {hs : Nat → Nat} (J : Jm n w0 w F v bs bs (frow h cs hs)) (hl : bs.length = cs.length) (hc : cs.length ≤ 1000000) {b5 i5 : Nat} (h5 : F[i5]? = some (b5, [v])) (t : Int) :
    Calls Tryd.prog 29 #[.int .i64 t, .pointer (some ⟨b5, 0, none⟩)] w fun e w' => e = .returned (cp bs (opn h cs t)) ∧ w' = w := by
  have c5 := J.cell i5 0 h5 rfl
  rcases J.form with ⟨rfl, hp⟩ | ⟨g, cap, rfl, hcap, hr⟩
  · subst hp
    obtain rfl : cs = [] := List.length_eq_zero_iff.1 hl.symm
    clear J hl hc h5
    go_enter Tryd.func29, Tryd.ntmps29
    go_wp2_with fail
    go_loopg [8] 0 (fun _ s8 wt => s8 = .int .i64 0 ∧ w = wt)
    case atStart => exact ⟨rfl, rfl⟩
    case round =>
      obtain ⟨rfl, rfl⟩ := hrel
      go_wp2
      go_ret
      exact ⟨rfl, rfl⟩
  · have HR : Hid _ := hid hr
    have HC : Hid (bs.length = cs.length ∧ cs.length ≤ 1000000 ∧ bs.length ≤ cap) := ⟨hl, hc, hcap⟩
    have HX : Hid (∀ k, k < bs.length → Bo w (bk bs k) (frow h cs hs k)) := fun k hk => J.call hk
    clear J hl hc h5 hr hcap
    go_enter Tryd.func29, Tryd.ntmps29
    go_wp2_with fail
    clear c5
    go_loopg [8] bs.length (fun gg s8 wt => ∃ i : Nat, i ≤ bs.length ∧ bs.length - i ≤ gg ∧ s8 = .int .i64 i ∧ w = wt ∧ Hid (∀ (j a : Nat), j < i → cs[j]? = some (a, none) → (h a).th ≠ t))
    case atStart => exact ⟨0, Nat.zero_le _, by omega, rfl, rfl, fun j a hj => absurd hj (Nat.not_lt_zero _)⟩
    case round =>
      obtain ⟨i, hi, hgg, rfl, rfl, NO⟩ := hrel
      by_cases hlt : i < bs.length
      · have hi1 : (i : Int) < (bs.length : Int) := by omega
        have hi0 : (0 : Int) ≤ (i : Int) := by omega
        have c0 := HR.out i hlt
        have hB := HX.out i hlt
        obtain ⟨⟨a, z⟩, hk⟩ : ∃ c, cs[i]? = some c := ⟨cs[i]'(by have := HC.out; omega), List.getElem?_eq_getElem (by have := HC.out; omega)⟩
        unfold frow at hB
        rw [cg_of hk] at hB
        have hK : Hid _ := hk
        clear hk
        obtain ⟨bq, hbq⟩ : ∃ q, bk bs i = q := ⟨_, rfl⟩
        have HBQ : Hid _ := hbq
        rw [hbq] at c0 hB
        clear hbq
        unfold ptr at c0
        obtain ⟨⟨kd, th, o, k, x, cc, y, wh, st⟩, he⟩ : ∃ e, h a = e := ⟨_, rfl⟩
        have HE : Hid _ := he
        unfold crow cr at hB
        simp only at hB
        rw [he] at hB
        have c1 : w.cell? ⟨bq, 1, none⟩ = some (.int .i64 th) := hB.at 1 rfl
        have c2 : w.cell? ⟨bq, 10, none⟩ = some (.int .i64 (tv z)) := hB.at 10 rfl
        clear hB he
        have miss : ((th == t) = false ∨ z ≠ none) → ∀ (j a : Nat), j < i + 1 → cs[j]? = some (a, none) → (h a).th ≠ t := fun hor j b hj hb => by
          by_cases e : j = i
          · subst e
            rw [hK.out] at hb
            injection hb with hb
            injection hb with hb1 hb2
            subst hb1
            rcases hor with h1 | h1
            · rw [HE.out]; simpa using h1
            · exact absurd hb2 h1
          · exact NO.out j b (by omega) hb
        have wr : wrap64 ((i : Int) + 1) = ((i + 1 : Nat) : Int) := by have := HC.out; unfold wrap64; omega
        by_cases h1 : th = t
        · subst h1
          cases z with
          | none =>
            have OK : Hid (Value.pointer (some ⟨bq, 0, none⟩) = cp bs (opn h cs th)) := by
              rw [opn_first hK.out (by rw [HE.out]) NO.out]; show _ = ptr (bk bs i); rw [HBQ.out]; rfl
            clear miss wr
            unfold tv at c2
            go_wp2
            go_ret
            exact ⟨congrArg Ending.returned OK.out, rfl⟩
          | some z =>
            replace miss : Hid _ := miss (Or.inr (by simp))
            have hz : ¬ ((z : Int) < 0) := by omega
            unfold tv at c2
            have WR : Hid _ := wr
            clear wr
            go_wp2
            go_roundg (bs.length - (i + 1))
            case measure => omega
            case rel => exact ⟨i + 1, by omega, by omega, by rw [WR.out], rfl, miss⟩
        · have hd : (th == t) = false := beq_eq_false_iff_ne.2 h1
          replace miss : Hid _ := miss (Or.inl hd)
          have WR : Hid _ := wr
          clear wr
          go_wp2
          go_roundg (bs.length - (i + 1))
          case measure => omega
          case rel => exact ⟨i + 1, by omega, by omega, by rw [WR.out], rfl, miss⟩
      · obtain rfl : i = bs.length := by omega
        have OK : Hid (Value.pointer none = cp bs (opn h cs t)) := by
          rw [opn_nil (h := h) (cs := cs) (t := t) fun j a hj => NO.out j a (by have := HC.out; have := (List.getElem?_eq_some_iff.1 hj).1; omega) hj]; rfl
        have hx : ¬ (bs.length : Int) < (bs.length : Int) := by omega
        go_wp2
        go_ret
        exact ⟨congrArg Ending.returned OK.out, rfl⟩
end Go.Proofs.YtaipanjigindbaaDoor.Tab
namespace Go.Proofs.YtaipanjigindbaaDoor.Tab
set_option maxRecDepth 20000
open Go.RowKit
set_option linter.unusedVariables false

def cpw (d : Nat → Nat) (i : Nat) : Nat → Nat := fun j => if j < i then d j else 0
theorem cpw_zero (d : Nat → Nat) : wl (cpw d 0) = wl wz := wl_congr fun j _ => by simp [cpw, wz]
theorem cpw_all (d : Nat → Nat) : wl (cpw d 17) = wl d := wl_congr fun j hj => by unfold cpw; rw [if_pos hj]
theorem cpw_next (d : Nat → Nat) (i : Nat) : wl (upw (cpw d i) i (d i)) = wl (cpw d (i + 1)) := wl_congr fun j _ => by
  unfold upw cpw
  by_cases e : j = i
  · subst e; rw [if_pos rfl, if_pos (by omega)]
  · rw [if_neg e]
    by_cases h : j < i
    · rw [if_pos h, if_pos (by omega)]
    · rw [if_neg h, if_neg (by omega)]

set_option maxHeartbeats 2000000 in
theorem cellsOf_is {b o k : Nat} {d : Nat → Nat} {w : World} (h : Wf w b o d) :
    Calls Tryd.prog 9 #[.slice (some ⟨b, o, none⟩) 17 k] w fun e w' => e = .returned (.agg (wl d).toArray) ∧ Below w.heap.size w w' := by
  obtain ⟨nb, eb, hd⟩ := cells_array
  have HC : Hid _ := hd
  clear hd
  have HCS : Hid _ := cells_size
  have HCZ : Hid _ := cells_size2
  have hb := h.lt
  have S : Hid (Wf ((w.alloc (.cells (wl wz).toArray 31)).alloc (.cells (wl wz).toArray 31)) b o d) := (h.new _).new _
  have R : Hid (Bo ((w.alloc (.cells (wl wz).toArray 31)).alloc (.cells (wl wz).toArray 31)) w.heap.size (wl wz)) := (Bo.born w (wl wz) _ rfl).new _
  have T : Hid (Bo ((w.alloc (.cells (wl wz).toArray 31)).alloc (.cells (wl wz).toArray 31)) (w.heap.size + 1) (wl (cpw d 0))) := by rw [cpw_zero]; exact Bo.born _ (wl wz) _ (by simp)
  have G : Hid (Gd w.heap.size w ((w.alloc (.cells (wl wz).toArray 31)).alloc (.cells (wl wz).toArray 31))) := ((Gd.refl w).new _).new _
  have NX : Hid (∀ i, _) := fun i => cpw_next d i
  have AL : Hid _ := cpw_all d
  rw [wz_all] at S R T G
  clear h
  go_enter Tryd.func9, Tryd.ntmps9
  go_wp2_with fail
  generalize World.alloc _ _ = W at S R T G ⊢
  generalize hsz : w.heap.size = n at hb S R T G ⊢
  have HSZ : Hid (w.heap.size = n) := hsz
  clear hsz
  go_loopg [4] 17 (fun gg s4 wt => ∃ i : Nat, i ≤ 17 ∧ 17 - i ≤ gg ∧ s4 = .int .i64 i ∧ Hid (Wf wt b o d) ∧ Hid (Bo wt n (wl wz)) ∧ Hid (Bo wt (n + 1) (wl (cpw d i))) ∧ Hid (Gd n w wt))
  case atStart => exact ⟨0, by omega, by omega, rfl, S, R, T, G⟩
  case round =>
    clear S R T G
    obtain ⟨i, hi, hgg, rfl, S, R, T, G⟩ := hrel
    by_cases hlt : i < 17
    · have g0 := S.out.cell i hlt
      have c1 := T.out.word hlt
      have f1 := T.out.froz i
      have i1 : (i : Int) < 17 := by omega
      have i0 : (0 : Int) ≤ (i : Int) := by omega
      have NI : Hid _ := NX.out i
      have S1 : Hid (Wf (wr.setCell ⟨n + 1, i, none⟩ (.int .u64 (d i : Nat))) b o d) := S.out.aside (by simp; omega) _
      have R1 : Hid (Bo (wr.setCell ⟨n + 1, i, none⟩ (.int .u64 (d i : Nat))) n (wl wz)) := R.out.aside (by simp) _
      have T1 : Hid (Bo (wr.setCell ⟨n + 1, i, none⟩ (.int .u64 (d i : Nat))) (n + 1) (wl (cpw d (i + 1)))) := by rw [← NI.out]; exact T.out.setw _ hlt
      have G1 : Hid (Gd n w (wr.setCell ⟨n + 1, i, none⟩ (.int .u64 (d i : Nat)))) := G.out.aside (by simp) _
      clear S R T G NI
      generalize cpw d i i = z at c1
      go_wp2
      go_roundg (17 - (i + 1))
      case measure => omega
      case rel => exact ⟨i + 1, by omega, by omega, by go_num, S1, R1, T1, G1⟩
    · obtain rfl : i = 17 := by omega
      rw [AL.out] at T
      go_wp2_with (first
        | (refine wpList_load_mid rfl 31 _ rfl (n + 1) _ rfl (wl d) _ T.out.range HC.out rfl (HCS.out d) ?_)
        | (refine wpList_store_mid rfl 31 _ _ rfl n _ (wl d).toArray rfl rfl (R.out.thereW d) (HCZ.out d) (wl_all d) ?_
           have R1 : Hid (Bo (wr.setCells n 0 (wl d)) n (wl d)) := R.out.setW d
           have G1 : Hid (Gd n w (wr.setCells n 0 (wl d))) := G.out.asideL (by omega) _ _
           clear T R G S
           generalize wr.setCells n 0 (wl d) = V at R1 G1 ⊢))
      exact bodyPost_ret (results_row Tryd.results9 _ _ n (wl d) _ rfl R1.out.range HC.out rfl (HCS.out d)) rfl ⟨rfl, G1.out.2⟩
end Go.Proofs.YtaipanjigindbaaDoor.Tab
namespace Go.Proofs.YtaipanjigindbaaDoor.Tab
set_option maxRecDepth 20000
open Go.RowKit
set_option linter.unusedVariables false

set_option maxHeartbeats 2000000 in
theorem bare_is (ev : Int) (w : World) :
    Calls Tryd.prog 18 #[.int .i64 ev] w (fun e w' => e = .returned (.agg #[.int .i64 ev, .int .i64 (-1)]) ∧ Below w.heap.size w w') := by
  have hM : Hid _ := ((Ms.nil w).born [.int .i64 ev, .int .i64 (-1)] 26 (b := w.heap.size) rfl)
  go_enter Tryd.func18, Tryd.ntmps18
  go_wp2_with fail
  exact bodyPost_ret (res1 Tryd.results18 (hM.out.at 0 rfl) (rwF ev (-1))) rfl ⟨rfl, hM.out.below⟩
set_option maxHeartbeats 2000000 in
theorem good_is  (w : World) :
    Calls Tryd.prog 22 #[] w (fun e w' => e = .returned (.agg #[.int .i64 0, .int .i64 (-1)]) ∧ Below w.heap.size w w') := by
  have hM : Hid _ := ((Ms.nil w).born [.int .i64 0, .int .i64 (-1)] 26 (b := w.heap.size) rfl)
  go_enter Tryd.func22, Tryd.ntmps22
  go_wp2_with fail
  exact bodyPost_ret (res1 Tryd.results22 (hM.out.at 0 rfl) (rwF 0 (-1))) rfl ⟨rfl, hM.out.below⟩
set_option maxHeartbeats 2000000 in
theorem cellsOf_nil  (w : World) :
    Calls Tryd.prog 9 #[.slice none 0 0] w (fun e w' => e = .returned (.agg (wl wz).toArray) ∧ Below w.heap.size w w') := by
  have hM : Hid _ := (((Ms.nil w).bornR wz_all.symm 31 (b := w.heap.size) rfl).bornR wz_all.symm 31 (b := w.heap.size + 1) (by simp))
  go_enter Tryd.func9, Tryd.ntmps9
  go_wp2_with fail
  generalize World.alloc _ _ = W at hM ⊢
  generalize hsz : w.heap.size = n at hM ⊢
  clear hsz
  go_loopg [4] 0 (fun gg s4 wt => wt = W ∧ s4 = .int .i64 0)
  case atStart => exact ⟨rfl, rfl⟩
  case round =>
    obtain ⟨hw, rfl⟩ := hrel
    rw [hw]; clear hw wr
    go_wp2_with (first
      | (refine lR rfl (hM.out.at 0 rfl) rfl (rwC wz) ?_)
      | (refine sR rfl (hM.out.at 1 rfl) rfl ((rwC wz).len (rwC wz)) (rwC wz) ?_
         replace hM := hid (hM.out.put 1 rfl (wl wz) ((rwC wz).len (rwC wz)))
         generalize World.setCells _ _ _ _ = W at hM ⊢))
    exact bodyPost_ret (res1 Tryd.results9 (hM.out.at 1 rfl) (rwC wz)) rfl ⟨rfl, hM.out.below⟩
end Go.Proofs.YtaipanjigindbaaDoor.Tab
namespace Go.Proofs.YtaipanjigindbaaDoor.Tab
set_option maxRecDepth 20000
open Go.RowKit
set_option linter.unusedVariables false

/-- What the reference's Judge answers of n events and m deeds: the error a at the place p. -/
def JR (h : Nat → EV) (q : Nat → DD) (n m : Nat) (a p : Int) : Prop :=
  (∃ i cs, i < n ∧ callsF h i = some cs ∧ stepC h i cs = none ∧ a = 10 ∧ p = (i : Nat)) ∨
  (p = -1 ∧ ∃ cs, callsF h n = some cs ∧ (ansF h q m cs cs.length = .error a ∨ ∃ bl, ansF h q m cs cs.length = .ok bl ∧ (opnF h q cs bl m = .error a ∨ ∃ s, opnF h q cs bl m = .ok s ∧ a = if ordB cs s.1 m then 0 else 6)))
def JudgeY (h : Nat → EV) (q : Nat → DD) (n m : Nat) (w : World) (e : Ending) (w' : World) : Prop := ∃ a p, JR h q n m a p ∧ e = .returned (.agg #[.int .i64 a, .int .i64 p]) ∧ Below w.heap.size w w'
theorem ansF_stop {h : Nat → EV} {q : Nat → DD} {m : Nat} {cs : List CC} {c : Int} {k : Nat} (e : ansF h q m cs k = .error c) : ∀ d, ansF h q m cs (k + d) = .error c
  | 0 => e
  | d + 1 => by
    show (match ansF h q m cs (k + d) with | .error e => _ | .ok bl => _) = _
    rw [ansF_stop e d]
theorem ansF_err {h : Nat → EV} {q : Nat → DD} {m : Nat} {cs : List CC} {c : Int} {k n : Nat} {bl : List (Option Nat)} (hk : k < n) (e : ansF h q m cs k = .ok bl) (e2 : stepA h q m k (cg cs k) bl = .error c) : ansF h q m cs n = .error c := by
  have := ansF_stop (h := h) (q := q) (m := m) (cs := cs) (c := c) (k := k + 1) (by rw [ansF_step e]; exact e2) (n - (k + 1))
  rwa [show k + 1 + (n - (k + 1)) = n by omega] at this
theorem opnF_stop {h : Nat → EV} {q : Nat → DD} {cs : List CC} {bl : List (Option Nat)} {c : Int} {k : Nat} (e : opnF h q cs bl k = .error c) : ∀ d, opnF h q cs bl (k + d) = .error c
  | 0 => e
  | d + 1 => by
    show (match opnF h q cs bl (k + d) with | .error e => _ | .ok s => _) = _
    rw [opnF_stop e d]
theorem opnF_err {h : Nat → EV} {q : Nat → DD} {cs : List CC} {bl : List (Option Nat)} {c : Int} {k n : Nat} {s : BU} (hk : k < n) (e : opnF h q cs bl k = .ok s) (e2 : stepO h q cs k s = .error c) : opnF h q cs bl n = .error c := by
  have := opnF_stop (h := h) (q := q) (cs := cs) (bl := bl) (c := c) (k := k + 1) (by rw [opnF_step e]; exact e2) (n - (k + 1))
  rwa [show k + 1 + (n - (k + 1)) = n by omega] at this
theorem JR.order {h : Nat → EV} {q : Nat → DD} {n m i : Nat} {cs : List CC} (hi : i < n) (e1 : callsF h i = some cs) (e2 : stepC h i cs = none) : JR h q n m 10 (i : Nat) := Or.inl ⟨i, cs, hi, e1, e2, rfl, rfl⟩
theorem JR.ans {h : Nat → EV} {q : Nat → DD} {n m k : Nat} {cs : List CC} {bl : List (Option Nat)} {a : Int} (e1 : callsF h n = some cs) (hk : k < cs.length) (e2 : ansF h q m cs k = .ok bl) (e3 : stepA h q m k (cg cs k) bl = .error a) : JR h q n m a (-1) :=
  Or.inr ⟨rfl, cs, e1, Or.inl (ansF_err hk e2 e3)⟩
theorem JR.opn {h : Nat → EV} {q : Nat → DD} {n m k : Nat} {cs : List CC} {bl : List (Option Nat)} {s : BU} {a : Int} (e1 : callsF h n = some cs) (e2 : ansF h q m cs cs.length = .ok bl) (hk : k < m) (e3 : opnF h q cs bl k = .ok s) (e4 : stepO h q cs k s = .error a) : JR h q n m a (-1) :=
  Or.inr ⟨rfl, cs, e1, Or.inr ⟨bl, e2, Or.inl (opnF_err hk e3 e4)⟩⟩
theorem JR.late {h : Nat → EV} {q : Nat → DD} {n m : Nat} {cs : List CC} {bl : List (Option Nat)} {s : BU} (e1 : callsF h n = some cs) (e2 : ansF h q m cs cs.length = .ok bl) (e3 : opnF h q cs bl m = .ok s) (e4 : ordB cs s.1 m = false) : JR h q n m 6 (-1) :=
  Or.inr ⟨rfl, cs, e1, Or.inr ⟨bl, e2, Or.inr ⟨s, e3, by rw [e4]; rfl⟩⟩⟩
theorem JR.good {h : Nat → EV} {q : Nat → DD} {n m : Nat} {cs : List CC} {bl : List (Option Nat)} {s : BU} (e1 : callsF h n = some cs) (e2 : ansF h q m cs cs.length = .ok bl) (e3 : opnF h q cs bl m = .ok s) (e4 : ordB cs s.1 m = true) : JR h q n m 0 (-1) :=
  Or.inr ⟨rfl, cs, e1, Or.inr ⟨bl, e2, Or.inr ⟨s, e3, by rw [e4]; rfl⟩⟩⟩

/-- A call's row. -/
theorem Jm.row {n : Nat} {w W : World} {F : List (Nat × List Value)} {v : Value} {ps bs : List Nat} {hh : Nat → EV} {cs : List CC} {hs : Nat → Nat} (J : Jm n w W F v ps bs (frow hh cs hs)) (hl : bs.length = cs.length) {k a b x : Nat} {z : Option Nat} {e : EV} (hk : cs[k]? = some (a, z)) (hb : bk bs k = b) (hx : hs k = x) (he : hh a = e) : Bo W b (cr e a (tv z) x) := by
  have := J.call (k := k) (by rw [hl]; exact (List.getElem?_eq_some_iff.1 hk).1)
  unfold frow crow at this
  rw [cg_of hk, hb, hx, he] at this
  exact this
theorem Jm.len {n : Nat} {w W : World} {F : List (Nat × List Value)} {v : Value} {ps bs : List Nat} {f : Nat → List Value} (J : Jm n w W F v ps bs f) : ∃ (a : Option Addr) (c : Nat), v = .slice a ps.length c := by
  rcases J.form with ⟨e, rfl⟩ | ⟨g, cap, e, _⟩
  · exact ⟨none, 0, e⟩
  · exact ⟨_, cap, e⟩
theorem Jm.at_ptr {n : Nat} {w W : World} {F : List (Nat × List Value)} {a : Option Addr} {l c : Nat} {ps bs : List Nat} {f : Nat → List Value} (J : Jm n w W F (.slice a l c) ps bs f) {k : Nat} (hk : k < ps.length) : ∃ g, a = some ⟨g, 0, none⟩ ∧ l ≤ c ∧ W.cell? ⟨g, k, none⟩ = some (ptr (bk ps k)) := by
  rcases J.form with ⟨_, rfl⟩ | ⟨g, cap, e, h1, h2⟩
  · exact absurd hk (Nat.not_lt_zero _)
  · injection e with e1 e2 e3
    subst e2 e3
    exact ⟨g, e1, h1, h2 k hk⟩
/-- The row by: none, and then the calls. -/
def byp (bs : List Nat) (bl : List (Option Nat)) : List Value := .pointer none :: bl.map (cp bs)
theorem byp_length (bs : List Nat) (bl : List (Option Nat)) : (byp bs bl).length = bl.length + 1 := by simp [byp]
theorem byp_get {bs : List Nat} {bl : List (Option Nat)} {p : Nat} {x : Option Nat} (h : bl[p]? = some x) : (byp bs bl)[p + 1]? = some (cp bs x) := by simp [byp, h]
theorem byp_set (bs : List Nat) (bl : List (Option Nat)) (p k : Nat) : (byp bs bl).set (p + 1) (ptr (bk bs k)) = byp bs (bl.set p (some k)) := by
  unfold byp; rw [List.set_cons_succ, List.map_set]; rfl
theorem byp_made (bs : List Nat) (m : Nat) : madeCells (Value.pointer none).cells (m + 1) = (byp bs (List.replicate m none)).toArray := by
  apply Array.ext
  · simp [madeCells, byp, Value.cells]
  · intro i h1 h2
    cases i with
    | zero => simp [madeCells, byp, Value.cells]
    | succ i => simp [madeCells, byp, cp, Value.cells]; rw [Nat.mod_one]; rfl
theorem mkcp (bs : List Nat) (m : Nat) (hm : m ≤ 1000000) (w : World) : (Instr.makeSlice 82 (.int .i64 ((m + 1 : Nat) : Int)) (.int .i64 ((m + 1 : Nat) : Int))).run Tryd.prog w = .ok (.slice (some ⟨w.heap.size, 0, none⟩) (m + 1) (m + 1)) (w.alloc (.cells (byp bs (List.replicate m none)).toArray 83)) := by
  obtain ⟨i, hi, hz, h1, h2⟩ := info_parts infoCp
  have := run_make (P := Tryd.prog) w 82 83 i _ Tryd.underlying82 hi hz .i64 .i64 ((m + 1 : Nat) : Int) ((m + 1 : Nat) : Int) (by omega) (by omega) (by rw [h2]; omega) (by omega)
  rw [h1, Int.toNat_natCast, Nat.mul_one, byp_made bs m] at this
  exact this
theorem ans_eq (c y c' y' : Int) (b : Bool) (hb : b = true ↔ c = c' ∧ y = y') (w : World) : (Op.equalIn 10000 49 (.agg #[.int .i64 c, .int .i64 y]) (.agg #[.int .i64 c', .int .i64 y'])).run Tryd.prog w = .ok b w := by
  have he : b = ((c == c') && (y == y')) := by
    rw [Bool.eq_iff_iff, hb]; simp
  rw [he]
  cases h1 : (c == c') <;> cases h2 : (y == y') <;> go_simp <;> simp [h1, h2]
theorem sz_int : (Tryd.prog.info? 3).map (·.size) = some 1 := by kernel_rfl
theorem sz_cp : (Tryd.prog.info? 83).map (·.size) = some 1 := by kernel_rfl
section
variable {P : Program} {w : World} {a : Act} {Q : Exit → Act → World → Prop}
theorem st1q {o : Oper} {K : Act → World → Prop} {T : TypeId} {x y : Operand} {b : Nat} {cs : List Value} (ho : o.op = .store T x y) (hB : Bo w b cs) (j : Nat) (v : Value) (hv : v.oneCell' = true) (hi : (P.info? T).map (·.size) = some 1) (hj : j < cs.length)
    (k : K (a.put o.dst undef) (w.setCell ⟨b, j, none⟩ v)) (hx : a.eval x = .pointer (some ⟨b, j, none⟩) := by rfl) (hy : a.eval y = v := by rfl) : o.wp P a w K Q := by
  unfold Oper.wp execOp
  simp only [ho, hx, hy, Instr.storeAt, Instr.sureAddr, Sem.run_bind, Sem.run_pure, Result.andThen_ok, run_store1 w b j T v (hB.cell j _ (List.getElem?_eq_getElem hj)) (hB.froz j) hi hv]
  exact k
end
end Go.Proofs.YtaipanjigindbaaDoor.Tab
namespace Go.Proofs.YtaipanjigindbaaDoor.Tab
set_option maxRecDepth 20000
open Go.RowKit
set_option linter.unusedVariables false

/-- What callsOf answers. -/
def CallsY (w : World) (cs : List CC) (e : Ending) (w' : World) : Prop := ∃ v, e = .returned (.tuple #[v, .nilIface]) ∧ Oc w.heap.size w' v cs ∧ Below w.heap.size w w'
def CallsN (w : World) (m : Nat) (e : Ending) (w' : World) : Prop := ∃ b, e = .returned (.tuple #[.slice none 0 0, atV b]) ∧ w.heap.size ≤ b ∧ Bo w' b [.int .i64 10, .int .i64 (m : Nat)] ∧ Below w.heap.size w w'
theorem mapi_desc : Tryd.prog.underlying 111 = some (.map 3 3) := by kernel_rfl
theorem zero_int (w : World) : (zeroValue 3).run Tryd.prog w = .ok (.int .i64 0) w := by kernel_rfl
def mfn (h : Nat → EV) (cs : List CC) (t : Int) : Option Value := (opn h cs t).map fun k => .int .i64 (k : Nat)
theorem mfn_some {h : Nat → EV} {cs : List CC} {t : Int} {k : Nat} (e : opn h cs t = some k) : mfn h cs t = some (.int .i64 (k : Nat)) := by unfold mfn; rw [e]; rfl
theorem mfn_none {h : Nat → EV} {cs : List CC} {t : Int} (e : opn h cs t = none) : mfn h cs t = none := by unfold mfn; rw [e]; rfl
theorem Imp.any {W : World} {m n : Nat} {h : Nat → EV} {cs : List CC} (H : Imp W m n (mfn h cs)) {t : Int} (ht : (Lit.int .i64 t).wf = true) : ∃ (u : Int) (b : Bool), (Instr.lookup 111 (.map (some m)) (.int .i64 t) true).run Tryd.prog W = .ok (.tuple #[.int .i64 u, .bool b]) W := by
  cases e : opn h cs t with
  | none => exact ⟨0, false, H.miss mapi_desc zero_int ht (mfn_none e)⟩
  | some k => exact ⟨k, true, H.look mapi_desc zero_int ht (mfn_some e)⟩
set_option maxHeartbeats 2000000 in
theorem callsOf_nil  (w : World) :
    Calls Tryd.prog 25 #[.slice none 0 0] w (CallsY w []) := by
  have hmm := @run_makeMap Tryd.prog
  have hM : Hid _ := hid ((Ms.nil w).bornM rfl)
  go_enter Tryd.func25, Tryd.ntmps25
  go_wp2_with fail
  clear hmm
  generalize World.alloc _ _ = W at hM ⊢
  go_loopg [4, 13] 0 (fun gg s4 s13 wt => wt = W ∧ s4 = .slice none 0 0 ∧ s13 = .int .i64 0)
  case atStart => exact ⟨rfl, rfl, rfl⟩
  case round =>
    obtain ⟨hw, rfl, rfl⟩ := hrel
    rw [hw]; clear hw wr
    go_wp2
    go_ret2
    exact ⟨.slice none 0 0, rfl, Oc.nil _ _, hM.out.below⟩
set_option maxHeartbeats 2000000 in
theorem callsOf_none  (a : Addr) (c : Nat) (w : World) :
    Calls Tryd.prog 25 #[.slice (some a) 0 c] w (CallsY w []) := by
  have hmm := @run_makeMap Tryd.prog
  have hM : Hid _ := hid ((Ms.nil w).bornM rfl)
  go_enter Tryd.func25, Tryd.ntmps25
  go_wp2_with fail
  clear hmm
  generalize World.alloc _ _ = W at hM ⊢
  go_loopg [4, 13] 0 (fun gg s4 s13 wt => wt = W ∧ s4 = .slice none 0 0 ∧ s13 = .int .i64 0)
  case atStart => exact ⟨rfl, rfl, rfl⟩
  case round =>
    obtain ⟨hw, rfl, rfl⟩ := hrel
    rw [hw]; clear hw wr
    go_wp2
    go_ret2
    exact ⟨.slice none 0 0, rfl, Oc.nil _ _, hM.out.below⟩
set_option maxHeartbeats 16000000 in
theorem callsOf_some {b off c n : Nat} {h : Nat → EV} {fin : List CC} (h0 : 0 < n) (hc : n ≤ c) (hn : n ≤ 1000000) (hO : callsF h n = some fin) (w : World) (E : Ev w (.slice (some ⟨b, off, none⟩) n c) n h) :
    Calls Tryd.prog 25 #[.slice (some ⟨b, off, none⟩) n c] w (CallsY w fin) := by
  have HE : Hid _ := hid E.all
  clear E
  have HF : Hid _ := hO
  clear hO
  have HC : Hid (n ≤ c ∧ n ≤ 1000000) := ⟨hc, hn⟩
  clear hc hn h0
  have hmm := @run_makeMap Tryd.prog
  have hM : Hid _ := hid ((Ms.nil w).bornM rfl)
  have hS : Hid (Imp _ w.heap.size 0 _) := Imp.made w
  go_enter Tryd.func25, Tryd.ntmps25
  go_wp2_with fail
  clear hmm
  have hsz1 : Hid ((w.alloc (.map #[] 0)).heap.size = w.heap.size + 1) := hid (by simp)
  generalize World.alloc _ _ = W at hM hS hsz1 ⊢
  generalize hsz : w.heap.size = n0 at hM hS hsz1 ⊢
  have HSZ : Hid _ := hsz
  clear hsz
  go_loopg [4, 13] n (fun gg s4 s13 wt => ∃ (i : Nat) (cs : List CC), i ≤ n ∧ n - i ≤ gg ∧ s13 = .int .i64 i ∧ Hid (callsF h i = some cs) ∧ Hid (Oc (n0 + 1) wt s4 cs) ∧ Hid (Imp wt n0 i (mfn h cs)) ∧ Hid (n0 + 1 ≤ wt.heap.size) ∧ Hid (Ms n0 w wt [(n0, [])] []))
  case atStart => exact ⟨0, [], by omega, by omega, rfl, hid rfl, Oc.nil _ _, hS, hid (Nat.le_of_eq hsz1.out.symm), hM⟩
  case round =>
    clear hM hS hsz1
    obtain ⟨i, cs, hi, hgg, rfl, CF, hO, hS, HZ, hM⟩ := hrel
    obtain ⟨W, rfl⟩ : ∃ q, q = wr := ⟨_, rfl⟩
    have GG : Hid (GC h i cs) := GC.of CF.out
    by_cases hlt : i < n
    · have hi1 : (i : Int) < (n : Int) := by omega
      have hi0 : (0 : Int) ≤ (i : Int) := by omega
      have hrow := (HE.out W hM.out.below i (by omega)).1
      have hwf := (HE.out W hM.out.below i (by omega)).2
      obtain ⟨⟨kd, th, o, k, x, cc, y, wh, st⟩, he⟩ : ∃ e, h i = e := ⟨_, rfl⟩
      obtain ⟨ds, hst, hcf⟩ := callsF_next HF.out hlt CF.out
      have CF2 : Hid _ := hcf
      clear hcf
      rcases stepC_some hst with ⟨h3, hd⟩ | ⟨h1, hop, hd⟩ | ⟨kk, a, h2, hop, hk, heq, hd⟩
      · subst hd
        rw [he] at h3 hrow hwf
        replace h3 : kd = 3 := h3
        subst kd
        replace hwf : (Lit.int .i64 th).wf = true := hwf
        have HW : Hid _ := hwf
        clear hst hwf he
        have RA : Hid (W.rangeAt b (off + i * 9) (el 3 th o k x cc y wh st)) := hrow
        clear hrow
        obtain ⟨be, hbe⟩ : ∃ q, q = W.heap.size := ⟨_, rfl⟩
        have hOl : Hid (∀ gz, (u4).ownBlock = some gz → gz ≠ be) := fun gz hg => by have := (hO.out.lt gz hg).2; omega
        have HBE : Hid _ := hbe
        clear hbe
        go_wp2_with (first
          | (refine lO rfl RA.out rfl (rwEv 3 th o k x cc y wh st) ?_; clear RA)
          | (rw [← HBE.out]
             replace hS := hid (hS.out.new (.cells [.int .i64 0, .int .i64 0, .int .i64 0, .int .i64 0, .int .i64 0, .int .i64 0, .int .i64 0, .int .i64 0, .int .i64 0].toArray 85))
             replace hO := hid (hO.out.new (.cells [.int .i64 0, .int .i64 0, .int .i64 0, .int .i64 0, .int .i64 0, .int .i64 0, .int .i64 0, .int .i64 0, .int .i64 0].toArray 85))
             replace hM := hid (hM.out.born [.int .i64 0, .int .i64 0, .int .i64 0, .int .i64 0, .int .i64 0, .int .i64 0, .int .i64 0, .int .i64 0, .int .i64 0] 85 HBE.out)
             refine sR rfl (hM.out.at 0 rfl) rfl ((rwEv 0 0 0 0 0 0 0 0 0).len (rwEv 3 th o k x cc y wh st)) (rwEv 3 th o k x cc y wh st) ?_
             replace hS := hid (hS.out.asideL (hM.out.ne 1 0 rfl rfl (by decide)) 0 (el 3 th o k x cc y wh st))
             replace hO := hid (hO.out.asideL hOl.out 0 (el 3 th o k x cc y wh st))
             replace hM := hid (hM.out.put 0 rfl (el 3 th o k x cc y wh st) ((rwEv 0 0 0 0 0 0 0 0 0).len (rwEv 3 th o k x cc y wh st)))
             generalize World.setCells _ _ _ _ = W at hM hS hO ⊢
             clear HBE
             obtain ⟨uu, ub, lk⟩ := hS.out.any HW.out
             have LK : Hid _ := lk
             clear lk
             have c1 := hM.out.cell 0 0 rfl rfl
             have c2 := hM.out.cell 0 1 rfl rfl)
          | (at_lookup
             refine wpList_look rfl _ _ _ rfl rfl rfl LK.out ?_))
        clear c1 c2
        go_roundg (n - (i + 1))
        case measure => omega
        case rel => exact ⟨i + 1, ds, by omega, by omega, by have := HC.out; have hw : wrap64 ((i : Int) + 1) = ((i + 1 : Nat) : Int) := (by unfold wrap64; omega); rw [hw], CF2, hO, hS.out.mono (by omega), hid (hM.out.sz1), hM.out.pick [1]⟩
      · rw [he] at h1 hop hrow hwf
        replace h1 : kd = 1 := h1
        subst kd
        replace hwf : (Lit.int .i64 th).wf = true := hwf
        replace hop : opn h cs th = none := hop
        have HW : Hid _ := hwf
        have HOP : Hid _ := hop
        have MF : Hid (∀ t, mfn h ds t = if t = th then some (.int .i64 (cs.length : Nat)) else mfn h cs t) := fun t => by
          have := opn_ask GG.out (by rw [he]; exact hop) t
          rw [he] at this
          unfold mfn
          rw [hd, this]
          by_cases e : t = th
          · rw [if_pos e, if_pos e]; rfl
          · rw [if_neg e, if_neg e]
        have DS : Hid _ := hd
        have HL : Hid (cs.length ≤ i) := GG.out.len
        clear hst hwf he hop hd
        obtain ⟨va, vcap, rfl⟩ := hO.out.len
        have RA : Hid (W.rangeAt b (off + i * 9) (el 1 th o k x cc y wh st)) := hrow
        clear hrow
        obtain ⟨be, hbe⟩ : ∃ q, q = W.heap.size := ⟨_, rfl⟩
        have hOl : Hid (∀ gz, (Value.slice va cs.length vcap).ownBlock = some gz → gz ≠ be) := fun gz hg => by have := (hO.out.lt gz hg).2; omega
        have HBE : Hid _ := hbe
        clear hbe
        go_wp2_with (first
          | (refine lO rfl RA.out rfl (rwEv 1 th o k x cc y wh st) ?_; clear RA)
          | (rw [← HBE.out]
             replace hS := hid (hS.out.new (.cells [.int .i64 0, .int .i64 0, .int .i64 0, .int .i64 0, .int .i64 0, .int .i64 0, .int .i64 0, .int .i64 0, .int .i64 0].toArray 85))
             replace hO := hid (hO.out.new (.cells [.int .i64 0, .int .i64 0, .int .i64 0, .int .i64 0, .int .i64 0, .int .i64 0, .int .i64 0, .int .i64 0, .int .i64 0].toArray 85))
             replace hM := hid (hM.out.born [.int .i64 0, .int .i64 0, .int .i64 0, .int .i64 0, .int .i64 0, .int .i64 0, .int .i64 0, .int .i64 0, .int .i64 0] 85 HBE.out)
             refine sR rfl (hM.out.at 0 rfl) rfl ((rwEv 0 0 0 0 0 0 0 0 0).len (rwEv 1 th o k x cc y wh st)) (rwEv 1 th o k x cc y wh st) ?_
             replace hS := hid (hS.out.asideL (hM.out.ne 1 0 rfl rfl (by decide)) 0 (el 1 th o k x cc y wh st))
             replace hO := hid (hO.out.asideL hOl.out 0 (el 1 th o k x cc y wh st))
             replace hM := hid (hM.out.put 0 rfl (el 1 th o k x cc y wh st) ((rwEv 0 0 0 0 0 0 0 0 0).len (rwEv 1 th o k x cc y wh st)))
             generalize World.setCells _ _ _ _ = W at hM hS hO ⊢
             clear HBE
             have LK : Hid _ := hS.out.miss mapi_desc zero_int HW.out (mfn_none HOP.out)
             have c1 := hM.out.cell 0 0 rfl rfl
             have c2 := hM.out.cell 0 1 rfl rfl
             obtain ⟨W2, up, hS2, ht⟩ := hS.out.add mapi_desc (by have := HC.out; unfold maxLen; omega) HW.out (.int .i64 (cs.length : Nat))
             have hS3 : Hid _ := hid (hS2.congr MF.out)
             have hO3 : Hid _ := hid (Oc.turned hO.out (show n0 < n0 + 1 by omega) ht)
             have HZ3 : Hid (n0 + 1 ≤ W2.heap.size) := Nat.le_trans hM.out.sz1 ht.grown.size
             have hM3 : Hid _ := hid ((hM.out.turned 1 rfl ht.grown (fun j => hS2.froz j)).pick [1])
             have UP : Hid _ := up
             clear hS2 ht up)
          | (at_lookup
             refine wpList_look rfl _ _ _ rfl rfl rfl LK.out ?_)
          | (at_mapUpdate
             refine wpList_mapUp rfl _ _ _ _ rfl rfl rfl rfl UP.out ?_)
          | (at_builtin
             refine wpList_push rfl rfl (.tmp 46) (.tmp 49) rfl rfl rfl (B := n0 + 1) (cs := cs) (nb := W2.heap.size) (i := i) (by have := HZ3.out; simp; omega) (hO3.out.new _) (by simp) (by simp) (by have := HL.out; have := HC.out; omega) ?_
             intro v9 w9 hO9 hb9
             have hO : Hid _ := hid hO9
             have hS : Hid _ := hid ((hS3.out.new _).laterA hb9 (by omega))
             have HZ9 : Hid _ := hid (Nat.le_trans HZ3.out (Nat.le_trans (by simp) hb9.size))
             have hM : Hid _ := hid ((hM3.out.new _).laterA hb9 ⟨by omega, by intro b hb; simp at hb; omega⟩)
             rw [← DS.out] at hO
             clear hO9 hb9))
        clear c1 c2
        go_roundg (n - (i + 1))
        case measure => omega
        case rel => exact ⟨i + 1, ds, by omega, by omega, by have := HC.out; have hw : wrap64 ((i : Int) + 1) = ((i + 1 : Nat) : Int) := (by unfold wrap64; omega); rw [hw], CF2, hO, hS, HZ9, hM⟩
      · rw [he] at h2 hop hrow hwf heq
        replace h2 : kd = 2 := h2
        subst kd
        replace hwf : (Lit.int .i64 th).wf = true := hwf
        replace hop : opn h cs th = some kk := hop
        have HW : Hid _ := hwf
        have HOP : Hid _ := hop
        have MF : Hid (∀ t, mfn h ds t = if t = th then none else mfn h cs t) := fun t => by
          have := opn_answer GG.out (by rw [he]; exact hop) t
          rw [cg_of hk, he] at this
          unfold mfn
          rw [hd, this]
          by_cases e : t = th
          · rw [if_pos e, if_pos e]; rfl
          · rw [if_neg e, if_neg e]
        have DS : Hid _ := hd
        clear hst hwf he hop hd
        have ha : a < i := (GG.out.lt _ (List.mem_of_getElem? hk)).1
        have hra := (HE.out W hM.out.below a (by omega)).1
        obtain ⟨⟨kd2, th2, o2, k2, x2, cc2, y2, wh2, st2⟩, he2⟩ : ∃ e, h a = e := ⟨_, rfl⟩
        rw [he2] at hra heq
        obtain ⟨rfl, rfl, rfl⟩ : o = o2 ∧ k = k2 ∧ x = x2 := by simpa [EV.op] using heq
        have EQ := fun w => op_eq o k x o k x true (by simp) w
        clear heq
        obtain ⟨g, cap, hv, hgB, hcap, hcs⟩ : ∃ g cap, u4 = .slice (some ⟨g, 0, none⟩) cs.length cap ∧ n0 + 1 ≤ g ∧ cs.length ≤ cap ∧ Bo W g (ccs cs) := by
          rcases hO.out.form with ⟨_, rfl⟩ | h
          · simp at hk
          · exact h
        subst hv
        have hkl : kk < cs.length := (List.getElem?_eq_some_iff.1 hk).1
        have CK : Hid _ := ccs_get cs kk _ hk
        have HK : Hid _ := hk
        have HG : Hid (n0 + 1 ≤ g) := hgB
        have hk1 : (kk : Int) < (cs.length : Int) := by omega
        have hk0 : (0 : Int) ≤ (kk : Int) := by omega
        have ha1 : (a : Int) < (n : Int) := by omega
        have ha0 : (0 : Int) ≤ (a : Int) := by omega
        have HA : Hid (∀ W, Below w.heap.size w W → W.rangeAt b (off + a * 9) (el kd2 th2 o k x cc2 y2 wh2 st2)) := fun W hb => by have := (HE.out W hb a (by omega)).1; rw [he2] at this; exact this
        clear hcs hk ha hra he2 hcap hkl hgB
        have RA : Hid (W.rangeAt b (off + i * 9) (el 2 th o k x cc y wh st)) := hrow
        clear hrow
        obtain ⟨be, hbe⟩ : ∃ q, q = W.heap.size := ⟨_, rfl⟩
        have hOl : Hid (∀ gz, (Value.slice (some ⟨g, 0, none⟩) cs.length cap).ownBlock = some gz → gz ≠ be) := fun gz hg => by have := (hO.out.lt gz hg).2; omega
        have HBE : Hid _ := hbe
        clear hbe
        go_wp2_with (first
          | (refine lO rfl RA.out rfl (rwEv 2 th o k x cc y wh st) ?_; clear RA)
          | (rw [← HBE.out]
             replace hS := hid (hS.out.new (.cells [.int .i64 0, .int .i64 0, .int .i64 0, .int .i64 0, .int .i64 0, .int .i64 0, .int .i64 0, .int .i64 0, .int .i64 0].toArray 85))
             replace hO := hid (hO.out.new (.cells [.int .i64 0, .int .i64 0, .int .i64 0, .int .i64 0, .int .i64 0, .int .i64 0, .int .i64 0, .int .i64 0, .int .i64 0].toArray 85))
             replace hM := hid (hM.out.born [.int .i64 0, .int .i64 0, .int .i64 0, .int .i64 0, .int .i64 0, .int .i64 0, .int .i64 0, .int .i64 0, .int .i64 0] 85 HBE.out)
             refine sR rfl (hM.out.at 0 rfl) rfl ((rwEv 0 0 0 0 0 0 0 0 0).len (rwEv 2 th o k x cc y wh st)) (rwEv 2 th o k x cc y wh st) ?_
             replace hS := hid (hS.out.asideL (hM.out.ne 1 0 rfl rfl (by decide)) 0 (el 2 th o k x cc y wh st))
             replace hO := hid (hO.out.asideL hOl.out 0 (el 2 th o k x cc y wh st))
             replace hM := hid (hM.out.put 0 rfl (el 2 th o k x cc y wh st) ((rwEv 0 0 0 0 0 0 0 0 0).len (rwEv 2 th o k x cc y wh st)))
             generalize World.setCells _ _ _ _ = W at hM hS hO ⊢
             clear HBE
             have LK : Hid _ := hS.out.look mapi_desc zero_int HW.out (mfn_some HOP.out)
             have c1 := hM.out.cell 0 0 rfl rfl
             have c2 := hM.out.cell 0 1 rfl rfl)
          | (at_lookup
             refine wpList_look rfl _ _ _ rfl rfl rfl LK.out ?_))
        clear c1 c2
        replace hM := hid (hM.out.drew)
        replace hS := hid (hS.out.drew)
        replace hO := hid (hO.out.drew)
        refine wp_region_held_drew (S := fun w' => Bo w' be (el 2 th o k x cc y wh st) ∧ Bo w' g (ccs cs) ∧ w'.rangeAt b (off + a * 9) (el kd2 th2 o k x cc2 y2 wh2 st2)) (by kernel_rfl) ⟨hM.out.at 0 rfl, hO.out.bo, HA.out _ hM.out.below⟩ (fun hH => ?_)
        generalize World.drew _ = W at hM hH hS hO ⊢
        refine tk 0 rfl hH ?_
        simp only [Act.put, p1, p2, p3]
        refine tk 1 rfl hH ?_ (by intro w h; have c0 := h.1.at 0 rfl; clear h; go_simp; try with_reducible rfl)
        simp only [Act.put, p1, p2, p3]
        refine tk 2 rfl hH ?_
        simp only [Act.put, p1, p2, p3]
        refine tk 3 rfl hH ?_
        simp only [Act.put, p1, p2, p3]
        refine tk 4 rfl hH ?_
        simp only [Act.put, p1, p2, p3]
        refine tk 5 rfl hH ?_
        simp only [Act.put, p1, p2, p3]
        refine tk 6 rfl hH ?_
        simp only [Act.put, p1, p2, p3]
        refine tk 7 rfl hH ?_
        simp only [Act.put, p1, p2, p3]
        refine tk 8 rfl hH ?_ (by intro w h; have c0 := h.1.at 2 rfl; have c1 := h.1.at 3 rfl; have c2 := h.1.at 4 rfl; clear h; go_simp; try with_reducible rfl)
        simp only [Act.put, p1, p2, p3]
        refine tk 9 rfl hH ?_
        simp only [Act.put, p1, p2, p3]
        refine tk 10 rfl hH ?_
        simp only [Act.put, p1, p2, p3]
        refine tk 11 rfl hH ?_
        simp only [Act.put, p1, p2, p3]
        refine tk 12 rfl hH ?_
        simp only [Act.put, p1, p2, p3]
        refine tk 13 rfl hH ?_
        simp only [Act.put, p1, p2, p3]
        refine tk 14 rfl hH ?_ (by intro w h; have c0 := h.2.1.cell (kk * 2) _ CK.out.1; clear h; go_simp; try with_reducible rfl)
        simp only [Act.put, p1, p2, p3]
        refine tk 15 rfl hH ?_
        simp only [Act.put, p1, p2, p3]
        refine tk 16 rfl hH ?_
        simp only [Act.put, p1, p2, p3]
        refine tk 17 rfl hH ?_ (by intro w h; have c0 := h.2.2 2 _ rfl; have c1 := h.2.2 3 _ rfl; have c2 := h.2.2 4 _ rfl; clear h; go_simp; try with_reducible rfl)
        simp only [Act.put, p1, p2, p3]
        refine tk 18 rfl hH ?_
        simp only [Act.put, p1, p2, p3]
        refine tk 19 rfl hH ?_
        simp only [Act.put, p1, p2, p3]
        refine tk 20 rfl hH ?_
        simp only [Act.put, p1, p2, p3]
        refine wpAnyH_done (by kernel_rfl) ?_ _
        obtain ⟨W2, dl, hS2, ht⟩ := hS.out.del mapi_desc HW.out 0
        have hS3 : Hid _ := hid (hS2.congr MF.out)
        have hO3 : Hid _ := hid (Oc.turned hO.out (show n0 < n0 + 1 by omega) ht)
        have HZ3 : Hid (n0 + 1 ≤ W2.heap.size) := Nat.le_trans hM.out.sz1 ht.grown.size
        have hM3 : Hid _ := hid ((hM.out.turned 1 rfl ht.grown (fun j => hS2.froz j)).pick [1])
        have DL : Hid _ := dl
        clear hS2 ht dl
        have c3 := hM.out.cell 0 1 rfl rfl
        have cz := hO3.out.bo.cell (kk * 2 + 1) _ CK.out.2
        have fz := hO3.out.bo.froz (kk * 2 + 1)
        go_wp2_with (first
          | (at_delete
             refine wpList_del rfl _ _ _ _ rfl rfl rfl DL.out ?_))
        clear c3 cz fz
        have hO4 : Hid (Oc (n0 + 1) (W2.setCell ⟨g, kk * 2 + 1, none⟩ (.int .i64 (i : Nat))) (.slice (some ⟨g, 0, none⟩) cs.length cap) ds) := by rw [DS.out]; exact hO3.out.set HK.out (some i)
        have hS4 : Hid _ := hid (hS3.out.aside1 (c := g) (j := kk * 2 + 1) (by have := HG.out; omega) (.int .i64 (i : Nat)))
        have hM4 : Hid _ := hid (hM3.out.laterA ((Below.refl (n0 + 1) W2).setCell (p := ⟨g, kk * 2 + 1, none⟩) HG.out (.int .i64 (i : Nat))) ⟨by omega, by intro b hb; simp at hb; omega⟩)
        have HZ4 : Hid (n0 + 1 ≤ (W2.setCell ⟨g, kk * 2 + 1, none⟩ (.int .i64 (i : Nat))).heap.size) := hid (by have := HZ3.out; simpa using this)
        go_roundg (n - (i + 1))
        case measure => omega
        case rel => exact ⟨i + 1, ds, by omega, by omega, by have := HC.out; have hw : wrap64 ((i : Int) + 1) = ((i + 1 : Nat) : Int) := (by unfold wrap64; omega); rw [hw], CF2, hO4, hS4.out.mono (by omega), HZ4, hM4⟩
    · obtain rfl : i = n := by omega
      have hi1 : ¬ (i : Int) < (i : Int) := by omega
      obtain rfl : fin = cs := Option.some.inj (HF.out.symm.trans CF.out)
      go_wp2
      go_ret2
      exact ⟨u4, rfl, by rw [HSZ.out]; exact hO.out.mono_ (by omega), hM.out.below⟩
set_option maxHeartbeats 16000000 in
theorem callsOf_bad {b off c n m : Nat} {h : Nat → EV} {fin : List CC} (h0 : 0 < n) (hc : n ≤ c) (hn : n ≤ 1000000) (hm : m < n) (hO : callsF h m = some fin) (hB : stepC h m fin = none) (w : World) (E : Ev w (.slice (some ⟨b, off, none⟩) n c) n h) :
    Calls Tryd.prog 25 #[.slice (some ⟨b, off, none⟩) n c] w (CallsN w m) := by
  have HE : Hid _ := hid E.all
  clear E
  have HF : Hid _ := hO
  clear hO
  have HB : Hid _ := hB
  clear hB
  have HC : Hid (n ≤ c ∧ n ≤ 1000000) := ⟨hc, hn⟩
  clear hc hn h0
  have hmm := @run_makeMap Tryd.prog
  have hM : Hid _ := hid ((Ms.nil w).bornM rfl)
  have hS : Hid (Imp _ w.heap.size 0 _) := Imp.made w
  go_enter Tryd.func25, Tryd.ntmps25
  go_wp2_with fail
  clear hmm
  have hsz1 : Hid ((w.alloc (.map #[] 0)).heap.size = w.heap.size + 1) := hid (by simp)
  generalize World.alloc _ _ = W at hM hS hsz1 ⊢
  generalize hsz : w.heap.size = n0 at hM hS hsz1 ⊢
  have HSZ : Hid _ := hsz
  clear hsz
  go_loopg [4, 13] m (fun gg s4 s13 wt => ∃ (i : Nat) (cs : List CC), i ≤ m ∧ m - i ≤ gg ∧ s13 = .int .i64 i ∧ Hid (callsF h i = some cs) ∧ Hid (Oc (n0 + 1) wt s4 cs) ∧ Hid (Imp wt n0 i (mfn h cs)) ∧ Hid (n0 + 1 ≤ wt.heap.size) ∧ Hid (Ms n0 w wt [(n0, [])] []))
  case atStart => exact ⟨0, [], by omega, by omega, rfl, hid rfl, Oc.nil _ _, hS, hid (Nat.le_of_eq hsz1.out.symm), hM⟩
  case round =>
    clear hM hS hsz1
    obtain ⟨i, cs, hi, hgg, rfl, CF, hO, hS, HZ, hM⟩ := hrel
    obtain ⟨W, rfl⟩ : ∃ q, q = wr := ⟨_, rfl⟩
    have GG : Hid (GC h i cs) := GC.of CF.out
    by_cases hlt : i < m
    · have hi1 : (i : Int) < (n : Int) := by omega
      have hi0 : (0 : Int) ≤ (i : Int) := by omega
      have hrow := (HE.out W hM.out.below i (by omega)).1
      have hwf := (HE.out W hM.out.below i (by omega)).2
      obtain ⟨⟨kd, th, o, k, x, cc, y, wh, st⟩, he⟩ : ∃ e, h i = e := ⟨_, rfl⟩
      obtain ⟨ds, hst, hcf⟩ := callsF_next HF.out hlt CF.out
      have CF2 : Hid _ := hcf
      clear hcf
      rcases stepC_some hst with ⟨h3, hd⟩ | ⟨h1, hop, hd⟩ | ⟨kk, a, h2, hop, hk, heq, hd⟩
      · subst hd
        rw [he] at h3 hrow hwf
        replace h3 : kd = 3 := h3
        subst kd
        replace hwf : (Lit.int .i64 th).wf = true := hwf
        have HW : Hid _ := hwf
        clear hst hwf he
        have RA : Hid (W.rangeAt b (off + i * 9) (el 3 th o k x cc y wh st)) := hrow
        clear hrow
        obtain ⟨be, hbe⟩ : ∃ q, q = W.heap.size := ⟨_, rfl⟩
        have hOl : Hid (∀ gz, (u4).ownBlock = some gz → gz ≠ be) := fun gz hg => by have := (hO.out.lt gz hg).2; omega
        have HBE : Hid _ := hbe
        clear hbe
        go_wp2_with (first
          | (refine lO rfl RA.out rfl (rwEv 3 th o k x cc y wh st) ?_; clear RA)
          | (rw [← HBE.out]
             replace hS := hid (hS.out.new (.cells [.int .i64 0, .int .i64 0, .int .i64 0, .int .i64 0, .int .i64 0, .int .i64 0, .int .i64 0, .int .i64 0, .int .i64 0].toArray 85))
             replace hO := hid (hO.out.new (.cells [.int .i64 0, .int .i64 0, .int .i64 0, .int .i64 0, .int .i64 0, .int .i64 0, .int .i64 0, .int .i64 0, .int .i64 0].toArray 85))
             replace hM := hid (hM.out.born [.int .i64 0, .int .i64 0, .int .i64 0, .int .i64 0, .int .i64 0, .int .i64 0, .int .i64 0, .int .i64 0, .int .i64 0] 85 HBE.out)
             refine sR rfl (hM.out.at 0 rfl) rfl ((rwEv 0 0 0 0 0 0 0 0 0).len (rwEv 3 th o k x cc y wh st)) (rwEv 3 th o k x cc y wh st) ?_
             replace hS := hid (hS.out.asideL (hM.out.ne 1 0 rfl rfl (by decide)) 0 (el 3 th o k x cc y wh st))
             replace hO := hid (hO.out.asideL hOl.out 0 (el 3 th o k x cc y wh st))
             replace hM := hid (hM.out.put 0 rfl (el 3 th o k x cc y wh st) ((rwEv 0 0 0 0 0 0 0 0 0).len (rwEv 3 th o k x cc y wh st)))
             generalize World.setCells _ _ _ _ = W at hM hS hO ⊢
             clear HBE
             obtain ⟨uu, ub, lk⟩ := hS.out.any HW.out
             have LK : Hid _ := lk
             clear lk
             have c1 := hM.out.cell 0 0 rfl rfl
             have c2 := hM.out.cell 0 1 rfl rfl)
          | (at_lookup
             refine wpList_look rfl _ _ _ rfl rfl rfl LK.out ?_))
        clear c1 c2
        go_roundg (m - (i + 1))
        case measure => omega
        case rel => exact ⟨i + 1, ds, by omega, by omega, by have := HC.out; have hw : wrap64 ((i : Int) + 1) = ((i + 1 : Nat) : Int) := (by unfold wrap64; omega); rw [hw], CF2, hO, hS.out.mono (by omega), hid (hM.out.sz1), hM.out.pick [1]⟩
      · rw [he] at h1 hop hrow hwf
        replace h1 : kd = 1 := h1
        subst kd
        replace hwf : (Lit.int .i64 th).wf = true := hwf
        replace hop : opn h cs th = none := hop
        have HW : Hid _ := hwf
        have HOP : Hid _ := hop
        have MF : Hid (∀ t, mfn h ds t = if t = th then some (.int .i64 (cs.length : Nat)) else mfn h cs t) := fun t => by
          have := opn_ask GG.out (by rw [he]; exact hop) t
          rw [he] at this
          unfold mfn
          rw [hd, this]
          by_cases e : t = th
          · rw [if_pos e, if_pos e]; rfl
          · rw [if_neg e, if_neg e]
        have DS : Hid _ := hd
        have HL : Hid (cs.length ≤ i) := GG.out.len
        clear hst hwf he hop hd
        obtain ⟨va, vcap, rfl⟩ := hO.out.len
        have RA : Hid (W.rangeAt b (off + i * 9) (el 1 th o k x cc y wh st)) := hrow
        clear hrow
        obtain ⟨be, hbe⟩ : ∃ q, q = W.heap.size := ⟨_, rfl⟩
        have hOl : Hid (∀ gz, (Value.slice va cs.length vcap).ownBlock = some gz → gz ≠ be) := fun gz hg => by have := (hO.out.lt gz hg).2; omega
        have HBE : Hid _ := hbe
        clear hbe
        go_wp2_with (first
          | (refine lO rfl RA.out rfl (rwEv 1 th o k x cc y wh st) ?_; clear RA)
          | (rw [← HBE.out]
             replace hS := hid (hS.out.new (.cells [.int .i64 0, .int .i64 0, .int .i64 0, .int .i64 0, .int .i64 0, .int .i64 0, .int .i64 0, .int .i64 0, .int .i64 0].toArray 85))
             replace hO := hid (hO.out.new (.cells [.int .i64 0, .int .i64 0, .int .i64 0, .int .i64 0, .int .i64 0, .int .i64 0, .int .i64 0, .int .i64 0, .int .i64 0].toArray 85))
             replace hM := hid (hM.out.born [.int .i64 0, .int .i64 0, .int .i64 0, .int .i64 0, .int .i64 0, .int .i64 0, .int .i64 0, .int .i64 0, .int .i64 0] 85 HBE.out)
             refine sR rfl (hM.out.at 0 rfl) rfl ((rwEv 0 0 0 0 0 0 0 0 0).len (rwEv 1 th o k x cc y wh st)) (rwEv 1 th o k x cc y wh st) ?_
             replace hS := hid (hS.out.asideL (hM.out.ne 1 0 rfl rfl (by decide)) 0 (el 1 th o k x cc y wh st))
             replace hO := hid (hO.out.asideL hOl.out 0 (el 1 th o k x cc y wh st))
             replace hM := hid (hM.out.put 0 rfl (el 1 th o k x cc y wh st) ((rwEv 0 0 0 0 0 0 0 0 0).len (rwEv 1 th o k x cc y wh st)))
             generalize World.setCells _ _ _ _ = W at hM hS hO ⊢
             clear HBE
             have LK : Hid _ := hS.out.miss mapi_desc zero_int HW.out (mfn_none HOP.out)
             have c1 := hM.out.cell 0 0 rfl rfl
             have c2 := hM.out.cell 0 1 rfl rfl
             obtain ⟨W2, up, hS2, ht⟩ := hS.out.add mapi_desc (by have := HC.out; unfold maxLen; omega) HW.out (.int .i64 (cs.length : Nat))
             have hS3 : Hid _ := hid (hS2.congr MF.out)
             have hO3 : Hid _ := hid (Oc.turned hO.out (show n0 < n0 + 1 by omega) ht)
             have HZ3 : Hid (n0 + 1 ≤ W2.heap.size) := Nat.le_trans hM.out.sz1 ht.grown.size
             have hM3 : Hid _ := hid ((hM.out.turned 1 rfl ht.grown (fun j => hS2.froz j)).pick [1])
             have UP : Hid _ := up
             clear hS2 ht up)
          | (at_lookup
             refine wpList_look rfl _ _ _ rfl rfl rfl LK.out ?_)
          | (at_mapUpdate
             refine wpList_mapUp rfl _ _ _ _ rfl rfl rfl rfl UP.out ?_)
          | (at_builtin
             refine wpList_push rfl rfl (.tmp 46) (.tmp 49) rfl rfl rfl (B := n0 + 1) (cs := cs) (nb := W2.heap.size) (i := i) (by have := HZ3.out; simp; omega) (hO3.out.new _) (by simp) (by simp) (by have := HL.out; have := HC.out; omega) ?_
             intro v9 w9 hO9 hb9
             have hO : Hid _ := hid hO9
             have hS : Hid _ := hid ((hS3.out.new _).laterA hb9 (by omega))
             have HZ9 : Hid _ := hid (Nat.le_trans HZ3.out (Nat.le_trans (by simp) hb9.size))
             have hM : Hid _ := hid ((hM3.out.new _).laterA hb9 ⟨by omega, by intro b hb; simp at hb; omega⟩)
             rw [← DS.out] at hO
             clear hO9 hb9))
        clear c1 c2
        go_roundg (m - (i + 1))
        case measure => omega
        case rel => exact ⟨i + 1, ds, by omega, by omega, by have := HC.out; have hw : wrap64 ((i : Int) + 1) = ((i + 1 : Nat) : Int) := (by unfold wrap64; omega); rw [hw], CF2, hO, hS, HZ9, hM⟩
      · rw [he] at h2 hop hrow hwf heq
        replace h2 : kd = 2 := h2
        subst kd
        replace hwf : (Lit.int .i64 th).wf = true := hwf
        replace hop : opn h cs th = some kk := hop
        have HW : Hid _ := hwf
        have HOP : Hid _ := hop
        have MF : Hid (∀ t, mfn h ds t = if t = th then none else mfn h cs t) := fun t => by
          have := opn_answer GG.out (by rw [he]; exact hop) t
          rw [cg_of hk, he] at this
          unfold mfn
          rw [hd, this]
          by_cases e : t = th
          · rw [if_pos e, if_pos e]; rfl
          · rw [if_neg e, if_neg e]
        have DS : Hid _ := hd
        clear hst hwf he hop hd
        have ha : a < i := (GG.out.lt _ (List.mem_of_getElem? hk)).1
        have hra := (HE.out W hM.out.below a (by omega)).1
        obtain ⟨⟨kd2, th2, o2, k2, x2, cc2, y2, wh2, st2⟩, he2⟩ : ∃ e, h a = e := ⟨_, rfl⟩
        rw [he2] at hra heq
        obtain ⟨rfl, rfl, rfl⟩ : o = o2 ∧ k = k2 ∧ x = x2 := by simpa [EV.op] using heq
        have EQ := fun w => op_eq o k x o k x true (by simp) w
        clear heq
        obtain ⟨g, cap, hv, hgB, hcap, hcs⟩ : ∃ g cap, u4 = .slice (some ⟨g, 0, none⟩) cs.length cap ∧ n0 + 1 ≤ g ∧ cs.length ≤ cap ∧ Bo W g (ccs cs) := by
          rcases hO.out.form with ⟨_, rfl⟩ | h
          · simp at hk
          · exact h
        subst hv
        have hkl : kk < cs.length := (List.getElem?_eq_some_iff.1 hk).1
        have CK : Hid _ := ccs_get cs kk _ hk
        have HK : Hid _ := hk
        have HG : Hid (n0 + 1 ≤ g) := hgB
        have hk1 : (kk : Int) < (cs.length : Int) := by omega
        have hk0 : (0 : Int) ≤ (kk : Int) := by omega
        have ha1 : (a : Int) < (n : Int) := by omega
        have ha0 : (0 : Int) ≤ (a : Int) := by omega
        have HA : Hid (∀ W, Below w.heap.size w W → W.rangeAt b (off + a * 9) (el kd2 th2 o k x cc2 y2 wh2 st2)) := fun W hb => by have := (HE.out W hb a (by omega)).1; rw [he2] at this; exact this
        clear hcs hk ha hra he2 hcap hkl hgB
        have RA : Hid (W.rangeAt b (off + i * 9) (el 2 th o k x cc y wh st)) := hrow
        clear hrow
        obtain ⟨be, hbe⟩ : ∃ q, q = W.heap.size := ⟨_, rfl⟩
        have hOl : Hid (∀ gz, (Value.slice (some ⟨g, 0, none⟩) cs.length cap).ownBlock = some gz → gz ≠ be) := fun gz hg => by have := (hO.out.lt gz hg).2; omega
        have HBE : Hid _ := hbe
        clear hbe
        go_wp2_with (first
          | (refine lO rfl RA.out rfl (rwEv 2 th o k x cc y wh st) ?_; clear RA)
          | (rw [← HBE.out]
             replace hS := hid (hS.out.new (.cells [.int .i64 0, .int .i64 0, .int .i64 0, .int .i64 0, .int .i64 0, .int .i64 0, .int .i64 0, .int .i64 0, .int .i64 0].toArray 85))
             replace hO := hid (hO.out.new (.cells [.int .i64 0, .int .i64 0, .int .i64 0, .int .i64 0, .int .i64 0, .int .i64 0, .int .i64 0, .int .i64 0, .int .i64 0].toArray 85))
             replace hM := hid (hM.out.born [.int .i64 0, .int .i64 0, .int .i64 0, .int .i64 0, .int .i64 0, .int .i64 0, .int .i64 0, .int .i64 0, .int .i64 0] 85 HBE.out)
             refine sR rfl (hM.out.at 0 rfl) rfl ((rwEv 0 0 0 0 0 0 0 0 0).len (rwEv 2 th o k x cc y wh st)) (rwEv 2 th o k x cc y wh st) ?_
             replace hS := hid (hS.out.asideL (hM.out.ne 1 0 rfl rfl (by decide)) 0 (el 2 th o k x cc y wh st))
             replace hO := hid (hO.out.asideL hOl.out 0 (el 2 th o k x cc y wh st))
             replace hM := hid (hM.out.put 0 rfl (el 2 th o k x cc y wh st) ((rwEv 0 0 0 0 0 0 0 0 0).len (rwEv 2 th o k x cc y wh st)))
             generalize World.setCells _ _ _ _ = W at hM hS hO ⊢
             clear HBE
             have LK : Hid _ := hS.out.look mapi_desc zero_int HW.out (mfn_some HOP.out)
             have c1 := hM.out.cell 0 0 rfl rfl
             have c2 := hM.out.cell 0 1 rfl rfl)
          | (at_lookup
             refine wpList_look rfl _ _ _ rfl rfl rfl LK.out ?_))
        clear c1 c2
        replace hM := hid (hM.out.drew)
        replace hS := hid (hS.out.drew)
        replace hO := hid (hO.out.drew)
        refine wp_region_held_drew (S := fun w' => Bo w' be (el 2 th o k x cc y wh st) ∧ Bo w' g (ccs cs) ∧ w'.rangeAt b (off + a * 9) (el kd2 th2 o k x cc2 y2 wh2 st2)) (by kernel_rfl) ⟨hM.out.at 0 rfl, hO.out.bo, HA.out _ hM.out.below⟩ (fun hH => ?_)
        generalize World.drew _ = W at hM hH hS hO ⊢
        refine tk 0 rfl hH ?_
        simp only [Act.put, p1, p2, p3]
        refine tk 1 rfl hH ?_ (by intro w h; have c0 := h.1.at 0 rfl; clear h; go_simp; try with_reducible rfl)
        simp only [Act.put, p1, p2, p3]
        refine tk 2 rfl hH ?_
        simp only [Act.put, p1, p2, p3]
        refine tk 3 rfl hH ?_
        simp only [Act.put, p1, p2, p3]
        refine tk 4 rfl hH ?_
        simp only [Act.put, p1, p2, p3]
        refine tk 5 rfl hH ?_
        simp only [Act.put, p1, p2, p3]
        refine tk 6 rfl hH ?_
        simp only [Act.put, p1, p2, p3]
        refine tk 7 rfl hH ?_
        simp only [Act.put, p1, p2, p3]
        refine tk 8 rfl hH ?_ (by intro w h; have c0 := h.1.at 2 rfl; have c1 := h.1.at 3 rfl; have c2 := h.1.at 4 rfl; clear h; go_simp; try with_reducible rfl)
        simp only [Act.put, p1, p2, p3]
        refine tk 9 rfl hH ?_
        simp only [Act.put, p1, p2, p3]
        refine tk 10 rfl hH ?_
        simp only [Act.put, p1, p2, p3]
        refine tk 11 rfl hH ?_
        simp only [Act.put, p1, p2, p3]
        refine tk 12 rfl hH ?_
        simp only [Act.put, p1, p2, p3]
        refine tk 13 rfl hH ?_
        simp only [Act.put, p1, p2, p3]
        refine tk 14 rfl hH ?_ (by intro w h; have c0 := h.2.1.cell (kk * 2) _ CK.out.1; clear h; go_simp; try with_reducible rfl)
        simp only [Act.put, p1, p2, p3]
        refine tk 15 rfl hH ?_
        simp only [Act.put, p1, p2, p3]
        refine tk 16 rfl hH ?_
        simp only [Act.put, p1, p2, p3]
        refine tk 17 rfl hH ?_ (by intro w h; have c0 := h.2.2 2 _ rfl; have c1 := h.2.2 3 _ rfl; have c2 := h.2.2 4 _ rfl; clear h; go_simp; try with_reducible rfl)
        simp only [Act.put, p1, p2, p3]
        refine tk 18 rfl hH ?_
        simp only [Act.put, p1, p2, p3]
        refine tk 19 rfl hH ?_
        simp only [Act.put, p1, p2, p3]
        refine tk 20 rfl hH ?_
        simp only [Act.put, p1, p2, p3]
        refine wpAnyH_done (by kernel_rfl) ?_ _
        obtain ⟨W2, dl, hS2, ht⟩ := hS.out.del mapi_desc HW.out 0
        have hS3 : Hid _ := hid (hS2.congr MF.out)
        have hO3 : Hid _ := hid (Oc.turned hO.out (show n0 < n0 + 1 by omega) ht)
        have HZ3 : Hid (n0 + 1 ≤ W2.heap.size) := Nat.le_trans hM.out.sz1 ht.grown.size
        have hM3 : Hid _ := hid ((hM.out.turned 1 rfl ht.grown (fun j => hS2.froz j)).pick [1])
        have DL : Hid _ := dl
        clear hS2 ht dl
        have c3 := hM.out.cell 0 1 rfl rfl
        have cz := hO3.out.bo.cell (kk * 2 + 1) _ CK.out.2
        have fz := hO3.out.bo.froz (kk * 2 + 1)
        go_wp2_with (first
          | (at_delete
             refine wpList_del rfl _ _ _ _ rfl rfl rfl DL.out ?_))
        clear c3 cz fz
        have hO4 : Hid (Oc (n0 + 1) (W2.setCell ⟨g, kk * 2 + 1, none⟩ (.int .i64 (i : Nat))) (.slice (some ⟨g, 0, none⟩) cs.length cap) ds) := by rw [DS.out]; exact hO3.out.set HK.out (some i)
        have hS4 : Hid _ := hid (hS3.out.aside1 (c := g) (j := kk * 2 + 1) (by have := HG.out; omega) (.int .i64 (i : Nat)))
        have hM4 : Hid _ := hid (hM3.out.laterA ((Below.refl (n0 + 1) W2).setCell (p := ⟨g, kk * 2 + 1, none⟩) HG.out (.int .i64 (i : Nat))) ⟨by omega, by intro b hb; simp at hb; omega⟩)
        have HZ4 : Hid (n0 + 1 ≤ (W2.setCell ⟨g, kk * 2 + 1, none⟩ (.int .i64 (i : Nat))).heap.size) := hid (by have := HZ3.out; simpa using this)
        go_roundg (m - (i + 1))
        case measure => omega
        case rel => exact ⟨i + 1, ds, by omega, by omega, by have := HC.out; have hw : wrap64 ((i : Int) + 1) = ((i + 1 : Nat) : Int) := (by unfold wrap64; omega); rw [hw], CF2, hO4, hS4.out.mono (by omega), HZ4, hM4⟩
    · obtain rfl : i = m := by omega
      obtain rfl : cs = fin := Option.some.inj (CF.out.symm.trans HF.out)
      have hi1 : (i : Int) < (n : Int) := by omega
      have hi0 : (0 : Int) ≤ (i : Int) := by omega
      have hrow := (HE.out W hM.out.below i (by omega)).1
      have hwf := (HE.out W hM.out.below i (by omega)).2
      obtain ⟨⟨kd, th, o, k, x, cc, y, wh, st⟩, he⟩ : ∃ e, h i = e := ⟨_, rfl⟩
      obtain ⟨h3, hor⟩ := stepC_none HB.out
      rw [he] at h3 hrow hwf hor
      replace hwf : (Lit.int .i64 th).wf = true := hwf
      have HW : Hid _ := hwf
      replace h3 : kd ≠ 3 := h3
      rcases hor with ⟨hop, h1⟩ | ⟨kk, a, hop, hk, hor⟩
      · replace h1 : kd ≠ 1 := h1
        replace hop : opn h cs th = none := hop
        clear he hwf
        by_cases h2 : kd = 2
        · subst kd
          clear h1 h3
          have RA : Hid (W.rangeAt b (off + i * 9) (el 2 th o k x cc y wh st)) := hrow
          clear hrow
          obtain ⟨be, hbe⟩ : ∃ q, q = W.heap.size := ⟨_, rfl⟩
          have hOl : Hid (∀ gz, (u4).ownBlock = some gz → gz ≠ be) := fun gz hg => by have := (hO.out.lt gz hg).2; omega
          have HBE : Hid _ := hbe
          clear hbe
          go_wp2_with (first
            | (refine lO rfl RA.out rfl (rwEv 2 th o k x cc y wh st) ?_; clear RA)
            | (rw [← HBE.out]
               replace hS := hid (hS.out.new (.cells [.int .i64 0, .int .i64 0, .int .i64 0, .int .i64 0, .int .i64 0, .int .i64 0, .int .i64 0, .int .i64 0, .int .i64 0].toArray 85))
               replace hO := hid (hO.out.new (.cells [.int .i64 0, .int .i64 0, .int .i64 0, .int .i64 0, .int .i64 0, .int .i64 0, .int .i64 0, .int .i64 0, .int .i64 0].toArray 85))
               replace hM := hid (hM.out.born [.int .i64 0, .int .i64 0, .int .i64 0, .int .i64 0, .int .i64 0, .int .i64 0, .int .i64 0, .int .i64 0, .int .i64 0] 85 HBE.out)
               refine sR rfl (hM.out.at 0 rfl) rfl ((rwEv 0 0 0 0 0 0 0 0 0).len (rwEv 2 th o k x cc y wh st)) (rwEv 2 th o k x cc y wh st) ?_
               replace hS := hid (hS.out.asideL (hM.out.ne 1 0 rfl rfl (by decide)) 0 (el 2 th o k x cc y wh st))
               replace hO := hid (hO.out.asideL hOl.out 0 (el 2 th o k x cc y wh st))
               replace hM := hid (hM.out.put 0 rfl (el 2 th o k x cc y wh st) ((rwEv 0 0 0 0 0 0 0 0 0).len (rwEv 2 th o k x cc y wh st)))
               generalize World.setCells _ _ _ _ = W at hM hS hO ⊢
               clear HBE
               have LK : Hid _ := hS.out.miss mapi_desc zero_int HW.out (mfn_none hop)
               have c1 := hM.out.cell 0 0 rfl rfl
               have c2 := hM.out.cell 0 1 rfl rfl)
            | (at_lookup
               refine wpList_look rfl _ _ _ rfl rfl rfl LK.out ?_))
          clear c1 c2
          replace hM := hid (hM.out.drew)
          replace hS := hid (hS.out.drew)
          replace hO := hid (hO.out.drew)
          refine wp_region_held_drew (S := fun w' => Bo w' be (el 2 th o k x cc y wh st)) (by kernel_rfl) (hM.out.at 0 rfl) (fun hH => ?_)
          generalize World.drew _ = W at hM hH hS hO ⊢
          refine tk 0 rfl hH ?_
          simp only [Act.put, p1, p2, p3]
          refine tk 1 rfl hH ?_ (by intro w h; have c0 := h.at 0 rfl; clear h; go_simp; try with_reducible rfl)
          simp only [Act.put, p1, p2, p3]
          refine tk 2 rfl hH ?_
          simp only [Act.put, p1, p2, p3]
          refine tk 3 rfl hH ?_
          simp only [Act.put, p1, p2, p3]
          refine tk 4 rfl hH ?_
          simp only [Act.put, p1, p2, p3]
          refine tk 5 rfl hH ?_
          simp only [Act.put, p1, p2, p3]
          refine tk 6 rfl hH ?_
          simp only [Act.put, p1, p2, p3]
          refine tkN 7 rfl hH ?_
          simp only [Act.put, p1, p2, p3]
          refine tkN 8 rfl hH ?_
          simp only [Act.put, p1, p2, p3]
          refine tkN 9 rfl hH ?_
          simp only [Act.put, p1, p2, p3]
          refine tkN 10 rfl hH ?_
          simp only [Act.put, p1, p2, p3]
          refine tkN 11 rfl hH ?_
          simp only [Act.put, p1, p2, p3]
          refine tkN 12 rfl hH ?_
          simp only [Act.put, p1, p2, p3]
          refine tkN 13 rfl hH ?_
          simp only [Act.put, p1, p2, p3]
          refine tkN 14 rfl hH ?_
          simp only [Act.put, p1, p2, p3]
          refine tkN 15 rfl hH ?_
          simp only [Act.put, p1, p2, p3]
          refine tkN 16 rfl hH ?_
          simp only [Act.put, p1, p2, p3]
          refine tkN 17 rfl hH ?_
          simp only [Act.put, p1, p2, p3]
          refine tkN 18 rfl hH ?_
          simp only [Act.put, p1, p2, p3]
          refine tk 19 rfl hH ?_
          simp only [Act.put, p1, p2, p3]
          refine tk 20 rfl hH ?_
          simp only [Act.put, p1, p2, p3]
          refine wpAnyH_done (by kernel_rfl) ?_ _
          have hM9 : Hid _ := hid (hM.out.born [.int .i64 10, .int .i64 (i : Nat)] 73 rfl)
          go_wp2
          go_ret2
          exact ⟨W.heap.size, rfl, by rw [HSZ.out]; exact hM.out.le, hM9.out.at 0 rfl, hM9.out.below⟩
        · have k1 : (kd == 1) = false := beq_eq_false_iff_ne.2 h1
          have k2 : (kd == 2) = false := beq_eq_false_iff_ne.2 h2
          have k3 : (kd == 3) = false := beq_eq_false_iff_ne.2 h3
          clear h1 h2 h3
          have RA : Hid (W.rangeAt b (off + i * 9) (el kd th o k x cc y wh st)) := hrow
          clear hrow
          obtain ⟨be, hbe⟩ : ∃ q, q = W.heap.size := ⟨_, rfl⟩
          have hOl : Hid (∀ gz, (u4).ownBlock = some gz → gz ≠ be) := fun gz hg => by have := (hO.out.lt gz hg).2; omega
          have HBE : Hid _ := hbe
          clear hbe
          go_wp2_with (first
            | (refine lO rfl RA.out rfl (rwEv kd th o k x cc y wh st) ?_; clear RA)
            | (rw [← HBE.out]
               replace hS := hid (hS.out.new (.cells [.int .i64 0, .int .i64 0, .int .i64 0, .int .i64 0, .int .i64 0, .int .i64 0, .int .i64 0, .int .i64 0, .int .i64 0].toArray 85))
               replace hO := hid (hO.out.new (.cells [.int .i64 0, .int .i64 0, .int .i64 0, .int .i64 0, .int .i64 0, .int .i64 0, .int .i64 0, .int .i64 0, .int .i64 0].toArray 85))
               replace hM := hid (hM.out.born [.int .i64 0, .int .i64 0, .int .i64 0, .int .i64 0, .int .i64 0, .int .i64 0, .int .i64 0, .int .i64 0, .int .i64 0] 85 HBE.out)
               refine sR rfl (hM.out.at 0 rfl) rfl ((rwEv 0 0 0 0 0 0 0 0 0).len (rwEv kd th o k x cc y wh st)) (rwEv kd th o k x cc y wh st) ?_
               replace hS := hid (hS.out.asideL (hM.out.ne 1 0 rfl rfl (by decide)) 0 (el kd th o k x cc y wh st))
               replace hO := hid (hO.out.asideL hOl.out 0 (el kd th o k x cc y wh st))
               replace hM := hid (hM.out.put 0 rfl (el kd th o k x cc y wh st) ((rwEv 0 0 0 0 0 0 0 0 0).len (rwEv kd th o k x cc y wh st)))
               generalize World.setCells _ _ _ _ = W at hM hS hO ⊢
               clear HBE
               have LK : Hid _ := hS.out.miss mapi_desc zero_int HW.out (mfn_none hop)
               have c1 := hM.out.cell 0 0 rfl rfl
               have c2 := hM.out.cell 0 1 rfl rfl)
            | (at_lookup
               refine wpList_look rfl _ _ _ rfl rfl rfl LK.out ?_))
          clear c1 c2
          replace hM := hid (hM.out.drew)
          replace hS := hid (hS.out.drew)
          replace hO := hid (hO.out.drew)
          refine wp_region_held_drew (S := fun w' => Bo w' be (el kd th o k x cc y wh st)) (by kernel_rfl) (hM.out.at 0 rfl) (fun hH => ?_)
          generalize World.drew _ = W at hM hH hS hO ⊢
          refine tk 0 rfl hH ?_
          simp only [Act.put, p1, p2, p3]
          refine tk 1 rfl hH ?_ (by intro w h; have c0 := h.at 0 rfl; clear h; go_simp; try with_reducible rfl)
          simp only [Act.put, p1, p2, p3]
          refine tk 2 rfl hH ?_
          simp only [Act.put, p1, p2, p3]
          refine tk 3 rfl hH ?_
          simp only [Act.put, p1, p2, p3]
          refine tkN 4 rfl hH ?_
          simp only [Act.put, p1, p2, p3]
          refine tk 5 rfl hH ?_
          simp only [Act.put, p1, p2, p3]
          refine tk 6 rfl hH ?_
          simp only [Act.put, p1, p2, p3]
          refine tkN 7 rfl hH ?_
          simp only [Act.put, p1, p2, p3]
          refine tkN 8 rfl hH ?_
          simp only [Act.put, p1, p2, p3]
          refine tkN 9 rfl hH ?_
          simp only [Act.put, p1, p2, p3]
          refine tkN 10 rfl hH ?_
          simp only [Act.put, p1, p2, p3]
          refine tkN 11 rfl hH ?_
          simp only [Act.put, p1, p2, p3]
          refine tkN 12 rfl hH ?_
          simp only [Act.put, p1, p2, p3]
          refine tkN 13 rfl hH ?_
          simp only [Act.put, p1, p2, p3]
          refine tkN 14 rfl hH ?_
          simp only [Act.put, p1, p2, p3]
          refine tkN 15 rfl hH ?_
          simp only [Act.put, p1, p2, p3]
          refine tkN 16 rfl hH ?_
          simp only [Act.put, p1, p2, p3]
          refine tkN 17 rfl hH ?_
          simp only [Act.put, p1, p2, p3]
          refine tkN 18 rfl hH ?_
          simp only [Act.put, p1, p2, p3]
          refine tk 19 rfl hH ?_
          simp only [Act.put, p1, p2, p3]
          refine tk 20 rfl hH ?_
          simp only [Act.put, p1, p2, p3]
          refine wpAnyH_done (by kernel_rfl) ?_ _
          have hM9 : Hid _ := hid (hM.out.born [.int .i64 10, .int .i64 (i : Nat)] 73 rfl)
          go_wp2
          go_ret2
          exact ⟨W.heap.size, rfl, by rw [HSZ.out]; exact hM.out.le, hM9.out.at 0 rfl, hM9.out.below⟩
      · replace hop : opn h cs th = some kk := hop
        by_cases h2 : kd = 2
        · have HOP : Hid _ := hop
          subst kd
          replace hor := hor.resolve_left (fun h => h rfl)
          have heq := hor
          clear hor h3 he hwf hop
          have ha : a < i := (GG.out.lt _ (List.mem_of_getElem? hk)).1
          have hra := (HE.out W hM.out.below a (by omega)).1
          obtain ⟨⟨kd2, th2, o2, k2, x2, cc2, y2, wh2, st2⟩, he2⟩ : ∃ e, h a = e := ⟨_, rfl⟩
          rw [he2] at hra heq
          have EQ := fun w => op_eq o k x o2 k2 x2 false (by simpa [EV.op] using heq) w
          clear heq
          obtain ⟨g, cap, hv, hgB, hcap, hcs⟩ : ∃ g cap, u4 = .slice (some ⟨g, 0, none⟩) cs.length cap ∧ n0 + 1 ≤ g ∧ cs.length ≤ cap ∧ Bo W g (ccs cs) := by
            rcases hO.out.form with ⟨_, rfl⟩ | h
            · simp at hk
            · exact h
          subst hv
          have hkl : kk < cs.length := (List.getElem?_eq_some_iff.1 hk).1
          have CK : Hid _ := ccs_get cs kk _ hk
          have HK : Hid _ := hk
          have HG : Hid (n0 + 1 ≤ g) := hgB
          have hk1 : (kk : Int) < (cs.length : Int) := by omega
          have hk0 : (0 : Int) ≤ (kk : Int) := by omega
          have ha1 : (a : Int) < (n : Int) := by omega
          have ha0 : (0 : Int) ≤ (a : Int) := by omega
          have HA : Hid (∀ W, Below w.heap.size w W → W.rangeAt b (off + a * 9) (el kd2 th2 o2 k2 x2 cc2 y2 wh2 st2)) := fun W hb => by have := (HE.out W hb a (by omega)).1; rw [he2] at this; exact this
          clear hcs hk ha hra he2 hcap hkl hgB
          have RA : Hid (W.rangeAt b (off + i * 9) (el 2 th o k x cc y wh st)) := hrow
          clear hrow
          obtain ⟨be, hbe⟩ : ∃ q, q = W.heap.size := ⟨_, rfl⟩
          have hOl : Hid (∀ gz, (Value.slice (some ⟨g, 0, none⟩) cs.length cap).ownBlock = some gz → gz ≠ be) := fun gz hg => by have := (hO.out.lt gz hg).2; omega
          have HBE : Hid _ := hbe
          clear hbe
          go_wp2_with (first
            | (refine lO rfl RA.out rfl (rwEv 2 th o k x cc y wh st) ?_; clear RA)
            | (rw [← HBE.out]
               replace hS := hid (hS.out.new (.cells [.int .i64 0, .int .i64 0, .int .i64 0, .int .i64 0, .int .i64 0, .int .i64 0, .int .i64 0, .int .i64 0, .int .i64 0].toArray 85))
               replace hO := hid (hO.out.new (.cells [.int .i64 0, .int .i64 0, .int .i64 0, .int .i64 0, .int .i64 0, .int .i64 0, .int .i64 0, .int .i64 0, .int .i64 0].toArray 85))
               replace hM := hid (hM.out.born [.int .i64 0, .int .i64 0, .int .i64 0, .int .i64 0, .int .i64 0, .int .i64 0, .int .i64 0, .int .i64 0, .int .i64 0] 85 HBE.out)
               refine sR rfl (hM.out.at 0 rfl) rfl ((rwEv 0 0 0 0 0 0 0 0 0).len (rwEv 2 th o k x cc y wh st)) (rwEv 2 th o k x cc y wh st) ?_
               replace hS := hid (hS.out.asideL (hM.out.ne 1 0 rfl rfl (by decide)) 0 (el 2 th o k x cc y wh st))
               replace hO := hid (hO.out.asideL hOl.out 0 (el 2 th o k x cc y wh st))
               replace hM := hid (hM.out.put 0 rfl (el 2 th o k x cc y wh st) ((rwEv 0 0 0 0 0 0 0 0 0).len (rwEv 2 th o k x cc y wh st)))
               generalize World.setCells _ _ _ _ = W at hM hS hO ⊢
               clear HBE
               have LK : Hid _ := hS.out.look mapi_desc zero_int HW.out (mfn_some HOP.out)
               have c1 := hM.out.cell 0 0 rfl rfl
               have c2 := hM.out.cell 0 1 rfl rfl)
            | (at_lookup
               refine wpList_look rfl _ _ _ rfl rfl rfl LK.out ?_))
          clear c1 c2
          replace hM := hid (hM.out.drew)
          replace hS := hid (hS.out.drew)
          replace hO := hid (hO.out.drew)
          refine wp_region_held_drew (S := fun w' => Bo w' be (el 2 th o k x cc y wh st) ∧ Bo w' g (ccs cs) ∧ w'.rangeAt b (off + a * 9) (el kd2 th2 o2 k2 x2 cc2 y2 wh2 st2)) (by kernel_rfl) ⟨hM.out.at 0 rfl, hO.out.bo, HA.out _ hM.out.below⟩ (fun hH => ?_)
          generalize World.drew _ = W at hM hH hS hO ⊢
          refine tk 0 rfl hH ?_
          simp only [Act.put, p1, p2, p3]
          refine tk 1 rfl hH ?_ (by intro w h; have c0 := h.1.at 0 rfl; clear h; go_simp; try with_reducible rfl)
          simp only [Act.put, p1, p2, p3]
          refine tk 2 rfl hH ?_
          simp only [Act.put, p1, p2, p3]
          refine tk 3 rfl hH ?_
          simp only [Act.put, p1, p2, p3]
          refine tk 4 rfl hH ?_
          simp only [Act.put, p1, p2, p3]
          refine tk 5 rfl hH ?_
          simp only [Act.put, p1, p2, p3]
          refine tk 6 rfl hH ?_
          simp only [Act.put, p1, p2, p3]
          refine tk 7 rfl hH ?_
          simp only [Act.put, p1, p2, p3]
          refine tk 8 rfl hH ?_ (by intro w h; have c0 := h.1.at 2 rfl; have c1 := h.1.at 3 rfl; have c2 := h.1.at 4 rfl; clear h; go_simp; try with_reducible rfl)
          simp only [Act.put, p1, p2, p3]
          refine tk 9 rfl hH ?_
          simp only [Act.put, p1, p2, p3]
          refine tk 10 rfl hH ?_
          simp only [Act.put, p1, p2, p3]
          refine tk 11 rfl hH ?_
          simp only [Act.put, p1, p2, p3]
          refine tk 12 rfl hH ?_
          simp only [Act.put, p1, p2, p3]
          refine tk 13 rfl hH ?_
          simp only [Act.put, p1, p2, p3]
          refine tk 14 rfl hH ?_ (by intro w h; have c0 := h.2.1.cell (kk * 2) _ CK.out.1; clear h; go_simp; try with_reducible rfl)
          simp only [Act.put, p1, p2, p3]
          refine tk 15 rfl hH ?_
          simp only [Act.put, p1, p2, p3]
          refine tk 16 rfl hH ?_
          simp only [Act.put, p1, p2, p3]
          refine tk 17 rfl hH ?_ (by intro w h; have c0 := h.2.2 2 _ rfl; have c1 := h.2.2 3 _ rfl; have c2 := h.2.2 4 _ rfl; clear h; go_simp; try with_reducible rfl)
          simp only [Act.put, p1, p2, p3]
          refine tk 18 rfl hH ?_
          simp only [Act.put, p1, p2, p3]
          refine tk 19 rfl hH ?_
          simp only [Act.put, p1, p2, p3]
          refine tk 20 rfl hH ?_
          simp only [Act.put, p1, p2, p3]
          refine wpAnyH_done (by kernel_rfl) ?_ _
          have hM9 : Hid _ := hid (hM.out.born [.int .i64 10, .int .i64 (i : Nat)] 73 rfl)
          go_wp2
          go_ret2
          exact ⟨W.heap.size, rfl, by rw [HSZ.out]; exact hM.out.le, hM9.out.at 0 rfl, hM9.out.below⟩
        · clear hor he hwf hk
          by_cases h1 : kd = 1
          · subst kd
            clear h2 h3
            have RA : Hid (W.rangeAt b (off + i * 9) (el 1 th o k x cc y wh st)) := hrow
            clear hrow
            obtain ⟨be, hbe⟩ : ∃ q, q = W.heap.size := ⟨_, rfl⟩
            have hOl : Hid (∀ gz, (u4).ownBlock = some gz → gz ≠ be) := fun gz hg => by have := (hO.out.lt gz hg).2; omega
            have HBE : Hid _ := hbe
            clear hbe
            go_wp2_with (first
              | (refine lO rfl RA.out rfl (rwEv 1 th o k x cc y wh st) ?_; clear RA)
              | (rw [← HBE.out]
                 replace hS := hid (hS.out.new (.cells [.int .i64 0, .int .i64 0, .int .i64 0, .int .i64 0, .int .i64 0, .int .i64 0, .int .i64 0, .int .i64 0, .int .i64 0].toArray 85))
                 replace hO := hid (hO.out.new (.cells [.int .i64 0, .int .i64 0, .int .i64 0, .int .i64 0, .int .i64 0, .int .i64 0, .int .i64 0, .int .i64 0, .int .i64 0].toArray 85))
                 replace hM := hid (hM.out.born [.int .i64 0, .int .i64 0, .int .i64 0, .int .i64 0, .int .i64 0, .int .i64 0, .int .i64 0, .int .i64 0, .int .i64 0] 85 HBE.out)
                 refine sR rfl (hM.out.at 0 rfl) rfl ((rwEv 0 0 0 0 0 0 0 0 0).len (rwEv 1 th o k x cc y wh st)) (rwEv 1 th o k x cc y wh st) ?_
                 replace hS := hid (hS.out.asideL (hM.out.ne 1 0 rfl rfl (by decide)) 0 (el 1 th o k x cc y wh st))
                 replace hO := hid (hO.out.asideL hOl.out 0 (el 1 th o k x cc y wh st))
                 replace hM := hid (hM.out.put 0 rfl (el 1 th o k x cc y wh st) ((rwEv 0 0 0 0 0 0 0 0 0).len (rwEv 1 th o k x cc y wh st)))
                 generalize World.setCells _ _ _ _ = W at hM hS hO ⊢
                 clear HBE
                 have LK : Hid _ := hS.out.look mapi_desc zero_int HW.out (mfn_some hop)
                 have c1 := hM.out.cell 0 0 rfl rfl
                 have c2 := hM.out.cell 0 1 rfl rfl)
              | (at_lookup
                 refine wpList_look rfl _ _ _ rfl rfl rfl LK.out ?_))
            clear c1 c2
            replace hM := hid (hM.out.drew)
            replace hS := hid (hS.out.drew)
            replace hO := hid (hO.out.drew)
            refine wp_region_held_drew (S := fun w' => Bo w' be (el 1 th o k x cc y wh st)) (by kernel_rfl) (hM.out.at 0 rfl) (fun hH => ?_)
            generalize World.drew _ = W at hM hH hS hO ⊢
            refine tk 0 rfl hH ?_
            simp only [Act.put, p1, p2, p3]
            refine tk 1 rfl hH ?_ (by intro w h; have c0 := h.at 0 rfl; clear h; go_simp; try with_reducible rfl)
            simp only [Act.put, p1, p2, p3]
            refine tk 2 rfl hH ?_
            simp only [Act.put, p1, p2, p3]
            refine tk 3 rfl hH ?_
            simp only [Act.put, p1, p2, p3]
            refine tkN 4 rfl hH ?_
            simp only [Act.put, p1, p2, p3]
            refine tk 5 rfl hH ?_
            simp only [Act.put, p1, p2, p3]
            refine tk 6 rfl hH ?_
            simp only [Act.put, p1, p2, p3]
            refine tkN 7 rfl hH ?_
            simp only [Act.put, p1, p2, p3]
            refine tkN 8 rfl hH ?_
            simp only [Act.put, p1, p2, p3]
            refine tkN 9 rfl hH ?_
            simp only [Act.put, p1, p2, p3]
            refine tkN 10 rfl hH ?_
            simp only [Act.put, p1, p2, p3]
            refine tkN 11 rfl hH ?_
            simp only [Act.put, p1, p2, p3]
            refine tkN 12 rfl hH ?_
            simp only [Act.put, p1, p2, p3]
            refine tkN 13 rfl hH ?_
            simp only [Act.put, p1, p2, p3]
            refine tkN 14 rfl hH ?_
            simp only [Act.put, p1, p2, p3]
            refine tkN 15 rfl hH ?_
            simp only [Act.put, p1, p2, p3]
            refine tkN 16 rfl hH ?_
            simp only [Act.put, p1, p2, p3]
            refine tkN 17 rfl hH ?_
            simp only [Act.put, p1, p2, p3]
            refine tkN 18 rfl hH ?_
            simp only [Act.put, p1, p2, p3]
            refine tk 19 rfl hH ?_
            simp only [Act.put, p1, p2, p3]
            refine tk 20 rfl hH ?_
            simp only [Act.put, p1, p2, p3]
            refine wpAnyH_done (by kernel_rfl) ?_ _
            have hM9 : Hid _ := hid (hM.out.born [.int .i64 10, .int .i64 (i : Nat)] 73 rfl)
            go_wp2
            go_ret2
            exact ⟨W.heap.size, rfl, by rw [HSZ.out]; exact hM.out.le, hM9.out.at 0 rfl, hM9.out.below⟩
          · have k1 : (kd == 1) = false := beq_eq_false_iff_ne.2 h1
            have k2 : (kd == 2) = false := beq_eq_false_iff_ne.2 h2
            have k3 : (kd == 3) = false := beq_eq_false_iff_ne.2 h3
            clear h1 h2 h3
            have RA : Hid (W.rangeAt b (off + i * 9) (el kd th o k x cc y wh st)) := hrow
            clear hrow
            obtain ⟨be, hbe⟩ : ∃ q, q = W.heap.size := ⟨_, rfl⟩
            have hOl : Hid (∀ gz, (u4).ownBlock = some gz → gz ≠ be) := fun gz hg => by have := (hO.out.lt gz hg).2; omega
            have HBE : Hid _ := hbe
            clear hbe
            go_wp2_with (first
              | (refine lO rfl RA.out rfl (rwEv kd th o k x cc y wh st) ?_; clear RA)
              | (rw [← HBE.out]
                 replace hS := hid (hS.out.new (.cells [.int .i64 0, .int .i64 0, .int .i64 0, .int .i64 0, .int .i64 0, .int .i64 0, .int .i64 0, .int .i64 0, .int .i64 0].toArray 85))
                 replace hO := hid (hO.out.new (.cells [.int .i64 0, .int .i64 0, .int .i64 0, .int .i64 0, .int .i64 0, .int .i64 0, .int .i64 0, .int .i64 0, .int .i64 0].toArray 85))
                 replace hM := hid (hM.out.born [.int .i64 0, .int .i64 0, .int .i64 0, .int .i64 0, .int .i64 0, .int .i64 0, .int .i64 0, .int .i64 0, .int .i64 0] 85 HBE.out)
                 refine sR rfl (hM.out.at 0 rfl) rfl ((rwEv 0 0 0 0 0 0 0 0 0).len (rwEv kd th o k x cc y wh st)) (rwEv kd th o k x cc y wh st) ?_
                 replace hS := hid (hS.out.asideL (hM.out.ne 1 0 rfl rfl (by decide)) 0 (el kd th o k x cc y wh st))
                 replace hO := hid (hO.out.asideL hOl.out 0 (el kd th o k x cc y wh st))
                 replace hM := hid (hM.out.put 0 rfl (el kd th o k x cc y wh st) ((rwEv 0 0 0 0 0 0 0 0 0).len (rwEv kd th o k x cc y wh st)))
                 generalize World.setCells _ _ _ _ = W at hM hS hO ⊢
                 clear HBE
                 have LK : Hid _ := hS.out.look mapi_desc zero_int HW.out (mfn_some hop)
                 have c1 := hM.out.cell 0 0 rfl rfl
                 have c2 := hM.out.cell 0 1 rfl rfl)
              | (at_lookup
                 refine wpList_look rfl _ _ _ rfl rfl rfl LK.out ?_))
            clear c1 c2
            replace hM := hid (hM.out.drew)
            replace hS := hid (hS.out.drew)
            replace hO := hid (hO.out.drew)
            refine wp_region_held_drew (S := fun w' => Bo w' be (el kd th o k x cc y wh st)) (by kernel_rfl) (hM.out.at 0 rfl) (fun hH => ?_)
            generalize World.drew _ = W at hM hH hS hO ⊢
            refine tk 0 rfl hH ?_
            simp only [Act.put, p1, p2, p3]
            refine tk 1 rfl hH ?_ (by intro w h; have c0 := h.at 0 rfl; clear h; go_simp; try with_reducible rfl)
            simp only [Act.put, p1, p2, p3]
            refine tk 2 rfl hH ?_
            simp only [Act.put, p1, p2, p3]
            refine tk 3 rfl hH ?_
            simp only [Act.put, p1, p2, p3]
            refine tkN 4 rfl hH ?_
            simp only [Act.put, p1, p2, p3]
            refine tk 5 rfl hH ?_
            simp only [Act.put, p1, p2, p3]
            refine tk 6 rfl hH ?_
            simp only [Act.put, p1, p2, p3]
            refine tkN 7 rfl hH ?_
            simp only [Act.put, p1, p2, p3]
            refine tkN 8 rfl hH ?_
            simp only [Act.put, p1, p2, p3]
            refine tkN 9 rfl hH ?_
            simp only [Act.put, p1, p2, p3]
            refine tkN 10 rfl hH ?_
            simp only [Act.put, p1, p2, p3]
            refine tkN 11 rfl hH ?_
            simp only [Act.put, p1, p2, p3]
            refine tkN 12 rfl hH ?_
            simp only [Act.put, p1, p2, p3]
            refine tkN 13 rfl hH ?_
            simp only [Act.put, p1, p2, p3]
            refine tkN 14 rfl hH ?_
            simp only [Act.put, p1, p2, p3]
            refine tkN 15 rfl hH ?_
            simp only [Act.put, p1, p2, p3]
            refine tkN 16 rfl hH ?_
            simp only [Act.put, p1, p2, p3]
            refine tkN 17 rfl hH ?_
            simp only [Act.put, p1, p2, p3]
            refine tkN 18 rfl hH ?_
            simp only [Act.put, p1, p2, p3]
            refine tk 19 rfl hH ?_
            simp only [Act.put, p1, p2, p3]
            refine tk 20 rfl hH ?_
            simp only [Act.put, p1, p2, p3]
            refine wpAnyH_done (by kernel_rfl) ?_ _
            have hM9 : Hid _ := hid (hM.out.born [.int .i64 10, .int .i64 (i : Nat)] 73 rfl)
            go_wp2
            go_ret2
            exact ⟨W.heap.size, rfl, by rw [HSZ.out]; exact hM.out.le, hM9.out.at 0 rfl, hM9.out.below⟩
theorem callsOf_yes {v : Value} {n : Nat} {h : Nat → EV} {fin : List CC} {w : World} (E : Ev w v n h) (hn : n ≤ 1000000) (hO : callsF h n = some fin) :
    Calls Tryd.prog 25 #[v] w (CallsY w fin) := by
  rcases id E with ⟨h0, a, c, hv, ha⟩ | ⟨b, off, c, hv, h0, hc, _, _⟩
  · subst hv h0
    obtain rfl : fin = [] := (Option.some.inj hO).symm
    cases a with
    | none => obtain rfl := ha rfl; exact callsOf_nil w
    | some a => exact callsOf_none a c w
  · subst hv; exact callsOf_some h0 hc hn hO w E
theorem callsOf_not {v : Value} {n m : Nat} {h : Nat → EV} {fin : List CC} {w : World} (E : Ev w v n h) (hn : n ≤ 1000000) (hm : m < n) (hO : callsF h m = some fin) (hB : stepC h m fin = none) :
    Calls Tryd.prog 25 #[v] w (CallsN w m) := by
  rcases id E with ⟨h0, a, c, hv, ha⟩ | ⟨b, off, c, hv, h0, hc, _, _⟩
  · omega
  · subst hv; exact callsOf_bad h0 hc hn hm hO hB w E
end Go.Proofs.YtaipanjigindbaaDoor.Tab
namespace Go.Proofs.YtaipanjigindbaaDoor.Tab
set_option maxRecDepth 20000
open Go.RowKit
set_option linter.unusedVariables false

theorem Ev.form {w : World} {v : Value} {n : Nat} {h : Nat → EV} (E : Ev w v n h) : ∃ a c, v = .slice a n c := by
  rcases E with ⟨h, a, c, e, _⟩ | ⟨b, off, c, e, _⟩
  · exact ⟨a, c, h ▸ e⟩
  · exact ⟨_, c, e⟩
theorem Ev.some {w : World} {a : Option Addr} {c n : Nat} {h : Nat → EV} (E : Ev w (.slice a n c) n h) (hn : 0 < n) : ∃ b off, a = some ⟨b, off, none⟩ ∧ n ≤ c := by
  rcases E with ⟨h, _⟩ | ⟨b, off, c2, hv, _, hc, _⟩
  · omega
  · injection hv with e1 e2 e3
    exact ⟨b, off, e1, e3 ▸ hc⟩
def Ret (w : World) (v : Value) (e : Ending) (w' : World) : Prop := e = .returned v ∧ Below w.heap.size w w'
def errV (c : Int) : Value := .iface 24 (.int .i64 c)
def ordV (b : Bool) : Value := if b then .nilIface else errV 6
set_option maxHeartbeats 2000000 in
theorem fits_order {ve vd : Value} {n k : Nat} {h : Nat → EV} {cs : List CC} {w : World} (E : Ev w ve n h) (hn : n ≤ 1000000) (hk : k < n) (e1 : callsF h k = some cs) (e2 : stepC h k cs = none) :
    Calls Tryd.prog 10 #[ve, vd] w (fun e w' => ∃ b, e = .returned (atV b) ∧ w.heap.size ≤ b ∧ Bo w' b [.int .i64 10, .int .i64 (k : Nat)] ∧ Below w.heap.size w w') := by
  have CO : Hid _ := hid (callsOf_not E hn hk e1 e2)
  clear E hn hk e1 e2
  have hM : Hid _ := (Ms.nil w)
  go_enter Tryd.func10, Tryd.ntmps10
  go_wp2_with fail
  refine (CO.out).mono ?_
  rintro e W ⟨b, rfl, h1, h2, h3⟩
  have H : Hid _ := hid (And.intro h1 (And.intro h2 h3))
  clear h1 h2 h3 hM
  unfold atV
  go_wp2
  go_ret
  exact ⟨b, rfl, H.out.1, H.out.2.1, H.out.2.2⟩
set_option maxHeartbeats 8000000 in
theorem fits_ans {vea vda : Option Addr} {vec vdc n m : Nat} {h : Nat → EV} {q : Nat → DD} {cs : List CC} {c : Int} (h0 : 0 < cs.length) (ea : ansF h q m cs cs.length = .error c) (w : World) (E : Ev w (.slice vea n vec) n h) (D : Dq w (.slice vda m vdc) m q) (hn : n ≤ 1000000) (hm : m ≤ 1000000) (hwt : ∀ i, i < m → (Lit.int .i64 (q i).t).wf = true) (hcs : callsF h n = some cs) :
    Calls Tryd.prog 10 #[.slice vea n vec, .slice vda m vdc] w (Ret w (errV c)) := by
  have CO : Hid _ := hid (callsOf_yes E hn hcs)
  have GG : Hid (GC h n cs) := GC.of hcs
  have HE : Hid _ := hid E
  have HD : Hid _ := hid D
  have HW : Hid _ := hwt
  have HN : Hid (n ≤ 1000000 ∧ m ≤ 1000000) := ⟨hn, hm⟩
  clear E D hwt hcs
  obtain ⟨kb, blb, hk, f1, f2⟩ := ansF_bad ea
  have KB : Hid _ := hid (And.intro hk (And.intro f1 f2))
  clear hk f1 f2 ea
  obtain ⟨eb, eo, rfl, hec⟩ := HE.out.some (by have := GG.out.len; omega)
  have HEC : Hid (n ≤ vec) := hec
  clear hec
  have hM : Hid _ := (Ms.nil w)
  go_enter Tryd.func10, Tryd.ntmps10
  go_wp2_with fail
  refine (CO.out).mono ?_
  rintro e W ⟨vc, rfl, hoc, hb⟩
  obtain ⟨g, cap, rfl, hgB, hcap, hB⟩ : ∃ g cap, vc = .slice (some ⟨g, 0, none⟩) cs.length cap ∧ w.heap.size ≤ g ∧ cs.length ≤ cap ∧ Bo W g (ccs cs) := by
    rcases hoc.form with ⟨_, e⟩ | e
    · rw [e] at h0; cases h0
    · exact e
  replace hM := hid (hM.out.laterB hb hgB hB)
  have HCAP : Hid (cs.length ≤ cap) := hcap
  have H0 : Hid (0 < cs.length) := h0
  clear hoc hb hgB hB hcap h0
  have mk := mkby g m hm
  obtain ⟨bb, hbb⟩ : ∃ q, q = W.heap.size := ⟨_, rfl⟩
  replace hM := hid (hM.out.born (byr g (List.replicate m none)) 115 hbb)
  have HBB : Hid _ := hbb
  clear hbb
  go_wp2_with fail
  clear mk
  rw [← HBB.out]
  generalize World.alloc _ _ = W at hM ⊢
  refine (giveA_bad hM.out (Y := ⟨Or.inr ⟨cap, rfl, HCAP.out, List.mem_singleton.2 rfl⟩, GG.out, HE.out, HD.out, HN.out⟩) (List.mem_singleton.2 rfl) HCAP.out HEC.out KB.out.1 KB.out.2.1 KB.out.2.2).mono ?_
  rintro e W ⟨rfl, bl2, hM⟩
  have hM := hid hM
  go_wp2
  go_ret
  exact ⟨rfl, hM.out.below⟩
set_option maxHeartbeats 8000000 in
theorem fits_open {vea vda : Option Addr} {vec vdc n m : Nat} {h : Nat → EV} {q : Nat → DD} {cs : List CC} {c : Int} {bl : List (Option Nat)} (h0 : 0 < cs.length) (ea : ansF h q m cs cs.length = .ok bl) (eo : opnF h q cs bl m = .error c) (w : World) (E : Ev w (.slice vea n vec) n h) (D : Dq w (.slice vda m vdc) m q) (hn : n ≤ 1000000) (hm : m ≤ 1000000) (hwt : ∀ i, i < m → (Lit.int .i64 (q i).t).wf = true) (hcs : callsF h n = some cs) :
    Calls Tryd.prog 10 #[.slice vea n vec, .slice vda m vdc] w (Ret w (errV c)) := by
  have CO : Hid _ := hid (callsOf_yes E hn hcs)
  have GG : Hid (GC h n cs) := GC.of hcs
  have HE : Hid _ := hid E
  have HD : Hid _ := hid D
  have HW : Hid _ := hwt
  have HN : Hid (n ≤ 1000000 ∧ m ≤ 1000000) := ⟨hn, hm⟩
  clear E D hwt hcs
  obtain ⟨kb, sb, hk, f1, f2⟩ := opnF_bad eo
  have KB : Hid _ := hid (And.intro hk (And.intro f1 f2))
  have hm0 : 0 < m := by omega
  clear hk f1 f2 eo
  have EA : Hid _ := ea
  have HLN : Hid (bl.length = m) := ansF_len ea
  clear ea
  obtain ⟨eb, eof, rfl, hec⟩ := HE.out.some (by have := GG.out.len; omega)
  have HEC : Hid (n ≤ vec) := hec
  clear hec
  obtain ⟨db, dof, rfl, hdc⟩ := HD.out.some hm0
  have HDC : Hid (m ≤ vdc) := hdc
  clear hdc hm0
  have hM : Hid _ := (Ms.nil w)
  go_enter Tryd.func10, Tryd.ntmps10
  go_wp2_with fail
  refine (CO.out).mono ?_
  rintro e W ⟨vc, rfl, hoc, hb⟩
  obtain ⟨g, cap, rfl, hgB, hcap, hB⟩ : ∃ g cap, vc = .slice (some ⟨g, 0, none⟩) cs.length cap ∧ w.heap.size ≤ g ∧ cs.length ≤ cap ∧ Bo W g (ccs cs) := by
    rcases hoc.form with ⟨_, e⟩ | e
    · rw [e] at h0; cases h0
    · exact e
  replace hM := hid (hM.out.laterB hb hgB hB)
  have HCAP : Hid (cs.length ≤ cap) := hcap
  have H0 : Hid (0 < cs.length) := h0
  clear hoc hb hgB hB hcap h0
  have mk := mkby g m hm
  obtain ⟨bb, hbb⟩ : ∃ q, q = W.heap.size := ⟨_, rfl⟩
  replace hM := hid (hM.out.born (byr g (List.replicate m none)) 115 hbb)
  have HBB : Hid _ := hbb
  clear hbb
  go_wp2_with fail
  clear mk
  rw [← HBB.out]
  generalize World.alloc _ _ = W at hM ⊢
  refine (giveA_some hM.out (Y := ⟨Or.inr ⟨cap, rfl, HCAP.out, List.mem_singleton.2 rfl⟩, GG.out, HE.out, HD.out, HN.out⟩) (List.mem_singleton.2 rfl) HCAP.out HEC.out EA.out).mono ?_
  rintro e W ⟨rfl, hM⟩
  have hM := hid hM
  go_wp2_with fail
  refine (giveO_bad hM.out (Y := ⟨Or.inr ⟨cap, rfl, HCAP.out, List.mem_singleton.2 rfl⟩, GG.out, HE.out, HD.out, HN.out⟩) (List.mem_singleton.2 rfl) HCAP.out HEC.out HDC.out HLN.out HW.out KB.out.1 KB.out.2.1 KB.out.2.2).mono ?_
  rintro e W ⟨rfl, bl2, hM⟩
  have hM := hid hM
  go_wp2
  go_ret
  exact ⟨rfl, hM.out.below⟩
set_option maxHeartbeats 8000000 in
theorem fits_end {vea vda : Option Addr} {vec vdc n m : Nat} {h : Nat → EV} {q : Nat → DD} {cs : List CC} {bl : List (Option Nat)} {s : BU} (h0 : 0 < cs.length) (hm0 : 0 < m) (ea : ansF h q m cs cs.length = .ok bl) (eo : opnF h q cs bl m = .ok s) (w : World) (E : Ev w (.slice vea n vec) n h) (D : Dq w (.slice vda m vdc) m q) (hn : n ≤ 1000000) (hm : m ≤ 1000000) (hwt : ∀ i, i < m → (Lit.int .i64 (q i).t).wf = true) (hcs : callsF h n = some cs) :
    Calls Tryd.prog 10 #[.slice vea n vec, .slice vda m vdc] w (Ret w (ordV (ordB cs s.1 m))) := by
  have CO : Hid _ := hid (callsOf_yes E hn hcs)
  have GG : Hid (GC h n cs) := GC.of hcs
  have HE : Hid _ := hid E
  have HD : Hid _ := hid D
  have HW : Hid _ := hwt
  have HN : Hid (n ≤ 1000000 ∧ m ≤ 1000000) := ⟨hn, hm⟩
  clear E D hwt hcs
  have HLN : Hid (bl.length = m) := ansF_len ea
  have hall := opnF_all (by rw [HLN.out]; exact Nat.le_refl _) eo
  have hlt := opnF_lt (ansF_lt (Nat.le_refl _) ea) (by rw [HLN.out]; exact Nat.le_refl _) eo
  have HALL : Hid (∀ j, j < m → ∃ k, s.1[j]? = some (some k)) := hall
  have HU : Hid (∀ j, j < m → uof s.1 j < cs.length) := fun j hj => by obtain ⟨k, hk⟩ := hall j hj; rw [uof_of hk]; exact hlt j k hk
  clear hall hlt
  have EA : Hid _ := ea
  have EO : Hid _ := eo
  clear ea eo
  obtain ⟨eb, eof, rfl, hec⟩ := HE.out.some (by have := GG.out.len; omega)
  have HEC : Hid (n ≤ vec) := hec
  clear hec
  obtain ⟨db, dof, rfl, hdc⟩ := HD.out.some hm0
  have HDC : Hid (m ≤ vdc) := hdc
  clear hdc hm0
  have hM : Hid _ := (Ms.nil w)
  go_enter Tryd.func10, Tryd.ntmps10
  go_wp2_with fail
  refine (CO.out).mono ?_
  rintro e W ⟨vc, rfl, hoc, hb⟩
  obtain ⟨g, cap, rfl, hgB, hcap, hB⟩ : ∃ g cap, vc = .slice (some ⟨g, 0, none⟩) cs.length cap ∧ w.heap.size ≤ g ∧ cs.length ≤ cap ∧ Bo W g (ccs cs) := by
    rcases hoc.form with ⟨_, e⟩ | e
    · rw [e] at h0; cases h0
    · exact e
  replace hM := hid (hM.out.laterB hb hgB hB)
  have HCAP : Hid (cs.length ≤ cap) := hcap
  have H0 : Hid (0 < cs.length) := h0
  clear hoc hb hgB hB hcap h0
  have mk := mkby g m hm
  obtain ⟨bb, hbb⟩ : ∃ q, q = W.heap.size := ⟨_, rfl⟩
  replace hM := hid (hM.out.born (byr g (List.replicate m none)) 115 hbb)
  have HBB : Hid _ := hbb
  clear hbb
  go_wp2_with fail
  clear mk
  rw [← HBB.out]
  generalize World.alloc _ _ = W at hM ⊢
  refine (giveA_some hM.out (Y := ⟨Or.inr ⟨cap, rfl, HCAP.out, List.mem_singleton.2 rfl⟩, GG.out, HE.out, HD.out, HN.out⟩) (List.mem_singleton.2 rfl) HCAP.out HEC.out EA.out).mono ?_
  rintro e W ⟨rfl, hM⟩
  have hM := hid hM
  go_wp2_with fail
  refine (giveO_some hM.out (Y := ⟨Or.inr ⟨cap, rfl, HCAP.out, List.mem_singleton.2 rfl⟩, GG.out, HE.out, HD.out, HN.out⟩) (List.mem_singleton.2 rfl) HCAP.out HEC.out HDC.out HLN.out HW.out EO.out).mono ?_
  rintro e W ⟨rfl, hM⟩
  have hM := hid hM
  go_wp2_with fail
  have hbbl := (hM.out.at 0 rfl).lt
  have IO := inOrder_is (b := bb) (m := m) (cap := m) (g := g) (N := cs.length) (A := fun k => (cg cs k).1) (Z := fun k => zp (cg cs k).2) (u := uof s.1) (w := W) HN.out.2 HU.out hbbl (Or.inl (hM.out.at 1 rfl).lt) (fun j hj => by
    obtain ⟨k, hk⟩ := HALL.out j hj
    rw [uof_of hk]
    exact hM.out.cell 0 j rfl (byr_get hk)) (fun k hk => by
    have hc : cs[k]? = some (cs[k]) := List.getElem?_eq_getElem hk
    rw [show cg cs k = cs[k] from cg_of hc]
    exact ⟨hM.out.cell 1 (k * 2) rfl (ccs_get cs k _ hc).1, hM.out.cell 1 (k * 2 + 1) rfl (ccs_get cs k _ hc).2⟩)
  refine IO.mono ?_
  rintro e W ⟨rfl, hb⟩
  replace hM := hid (hM.out.later hb)
  clear hb IO hbbl
  have hr : Hid ((if (ost (fun k => (cg cs k).1) (fun k => zp (cg cs k).2) (fun x => uof s.1 (m - 1 - x)) (List.range m)).1 then (Value.nilIface) else .iface 24 (.int .i64 6)) = ordV (ordB cs s.1 m)) := rfl
  generalize (if (ost (fun k => (cg cs k).1) (fun k => zp (cg cs k).2) (fun x => uof s.1 (m - 1 - x)) (List.range m)).1 then (Value.nilIface) else .iface 24 (.int .i64 6)) = r at hr ⊢
  go_wp2
  go_ret
  exact ⟨congrArg Ending.returned hr.out, hM.out.below⟩
set_option maxHeartbeats 8000000 in
theorem fits_end0 {vea vda : Option Addr} {vec vdc n m : Nat} {h : Nat → EV} {q : Nat → DD} {cs : List CC} {bl : List (Option Nat)} {s : BU} (h0 : 0 < cs.length) (hm0 : m = 0) (ea : ansF h q m cs cs.length = .ok bl) (eo : opnF h q cs bl m = .ok s) (w : World) (E : Ev w (.slice vea n vec) n h) (D : Dq w (.slice vda m vdc) m q) (hn : n ≤ 1000000) (hm : m ≤ 1000000) (hwt : ∀ i, i < m → (Lit.int .i64 (q i).t).wf = true) (hcs : callsF h n = some cs) :
    Calls Tryd.prog 10 #[.slice vea n vec, .slice vda m vdc] w (Ret w (ordV (ordB cs s.1 m))) := by
  have CO : Hid _ := hid (callsOf_yes E hn hcs)
  have GG : Hid (GC h n cs) := GC.of hcs
  have HE : Hid _ := hid E
  have HD : Hid _ := hid D
  have HW : Hid _ := hwt
  have HN : Hid (n ≤ 1000000 ∧ m ≤ 1000000) := ⟨hn, hm⟩
  clear E D hwt hcs
  have HLN : Hid (bl.length = m) := ansF_len ea
  have hall := opnF_all (by rw [HLN.out]; exact Nat.le_refl _) eo
  have hlt := opnF_lt (ansF_lt (Nat.le_refl _) ea) (by rw [HLN.out]; exact Nat.le_refl _) eo
  have HALL : Hid (∀ j, j < m → ∃ k, s.1[j]? = some (some k)) := hall
  have HU : Hid (∀ j, j < m → uof s.1 j < cs.length) := fun j hj => by obtain ⟨k, hk⟩ := hall j hj; rw [uof_of hk]; exact hlt j k hk
  clear hall hlt
  have EA : Hid _ := ea
  have EO : Hid _ := eo
  clear ea eo
  obtain ⟨eb, eof, rfl, hec⟩ := HE.out.some (by have := GG.out.len; omega)
  have HEC : Hid (n ≤ vec) := hec
  clear hec
  subst hm0
  have hM : Hid _ := (Ms.nil w)
  go_enter Tryd.func10, Tryd.ntmps10
  go_wp2_with fail
  refine (CO.out).mono ?_
  rintro e W ⟨vc, rfl, hoc, hb⟩
  obtain ⟨g, cap, rfl, hgB, hcap, hB⟩ : ∃ g cap, vc = .slice (some ⟨g, 0, none⟩) cs.length cap ∧ w.heap.size ≤ g ∧ cs.length ≤ cap ∧ Bo W g (ccs cs) := by
    rcases hoc.form with ⟨_, e⟩ | e
    · rw [e] at h0; cases h0
    · exact e
  replace hM := hid (hM.out.laterB hb hgB hB)
  have HCAP : Hid (cs.length ≤ cap) := hcap
  have H0 : Hid (0 < cs.length) := h0
  clear hoc hb hgB hB hcap h0
  have mk : ∀ w : World, (Instr.makeSlice 79 (.int .i64 0) (.int .i64 0)).run Tryd.prog w = .ok (.slice (some ⟨w.heap.size, 0, none⟩) 0 0) (w.alloc (.cells (byr g []).toArray 115)) := mkby g 0 (by decide)
  obtain ⟨bb, hbb⟩ : ∃ q, q = W.heap.size := ⟨_, rfl⟩
  replace hM := hid (hM.out.born (byr g []) 115 hbb)
  have HBB : Hid _ := hbb
  clear hbb
  go_wp2_with fail
  clear mk
  rw [← HBB.out]
  generalize World.alloc _ _ = W at hM ⊢
  refine (giveA_some hM.out (Y := ⟨Or.inr ⟨cap, rfl, HCAP.out, List.mem_singleton.2 rfl⟩, GG.out, HE.out, HD.out, HN.out⟩) (List.mem_singleton.2 rfl) HCAP.out HEC.out EA.out).mono ?_
  rintro e W ⟨rfl, hM⟩
  have hM := hid hM
  go_wp2_with fail
  refine (giveO_m0 (fin := s) hM.out (Y := ⟨Or.inr ⟨cap, rfl, HCAP.out, List.mem_singleton.2 rfl⟩, GG.out, HE.out, HD.out, HN.out⟩) (List.mem_singleton.2 rfl) HCAP.out HEC.out).mono ?_
  rintro e W ⟨rfl, hM⟩
  have hM := hid hM
  obtain rfl : s = (bl, []) := by have h := EO.out; injection h with h; exact h.symm
  go_wp2_with fail
  have hbbl := (hM.out.at 0 rfl).lt
  have IO := inOrder_is (b := bb) (m := 0) (cap := 0) (g := g) (N := cs.length) (A := fun k => (cg cs k).1) (Z := fun k => zp (cg cs k).2) (u := uof bl) (w := W) HN.out.2 HU.out hbbl (Or.inl (hM.out.at 1 rfl).lt) (fun j hj => by
    obtain ⟨k, hk⟩ := HALL.out j hj
    rw [uof_of hk]
    exact hM.out.cell 0 j rfl (byr_get hk)) (fun k hk => by
    have hc : cs[k]? = some (cs[k]) := List.getElem?_eq_getElem hk
    rw [show cg cs k = cs[k] from cg_of hc]
    exact ⟨hM.out.cell 1 (k * 2) rfl (ccs_get cs k _ hc).1, hM.out.cell 1 (k * 2 + 1) rfl (ccs_get cs k _ hc).2⟩)
  refine IO.mono ?_
  rintro e W ⟨rfl, hb⟩
  replace hM := hid (hM.out.later hb)
  clear hb IO hbbl
  have hr : Hid ((if (ost (fun k => (cg cs k).1) (fun k => zp (cg cs k).2) (fun x => uof bl (0 - 1 - x)) (List.range 0)).1 then (Value.nilIface) else .iface 24 (.int .i64 6)) = ordV (ordB cs bl 0)) := rfl
  generalize (if (ost (fun k => (cg cs k).1) (fun k => zp (cg cs k).2) (fun x => uof bl (0 - 1 - x)) (List.range 0)).1 then (Value.nilIface) else .iface 24 (.int .i64 6)) = r at hr ⊢
  go_wp2
  go_ret
  exact ⟨congrArg Ending.returned hr.out, hM.out.below⟩
set_option maxHeartbeats 4000000 in
theorem fits_nil0 {vea vda : Option Addr} {vec vdc n : Nat} {h : Nat → EV} {q : Nat → DD} (w : World) (E : Ev w (.slice vea n vec) n h) (D : Dq w (.slice vda 0 vdc) 0 q) (hn : n ≤ 1000000) (hcs : callsF h n = some []) :
    Calls Tryd.prog 10 #[.slice vea n vec, .slice vda 0 vdc] w (Ret w .nilIface) := by
  have CO : Hid _ := hid (callsOf_yes E hn hcs)
  have HD : Hid _ := hid D
  clear E D hcs hn
  have hM : Hid _ := (Ms.nil w)
  go_enter Tryd.func10, Tryd.ntmps10
  go_wp2_with fail
  refine (CO.out).mono ?_
  rintro e W ⟨vc, rfl, hoc, hb⟩
  replace hM := hid (hM.out.later hb)
  obtain ⟨va, vcp, rfl⟩ := hoc.len
  simp only [List.length_nil]
  clear hoc hb
  have mk : ∀ w : World, (Instr.makeSlice 79 (.int .i64 0) (.int .i64 0)).run Tryd.prog w = .ok (.slice (some ⟨w.heap.size, 0, none⟩) 0 0) (w.alloc (.cells (byr 0 []).toArray 115)) := mkby 0 0 (by decide)
  obtain ⟨bb, hbb⟩ : ∃ q, q = W.heap.size := ⟨_, rfl⟩
  replace hM := hid (hM.out.born (byr 0 []) 115 hbb)
  have HBB : Hid _ := hbb
  clear hbb
  go_wp2_with fail
  clear mk
  rw [← HBB.out]
  generalize World.alloc _ _ = W at hM ⊢
  refine (giveA_nil _ _ hM.out).mono ?_
  rintro e W ⟨rfl, hM⟩
  have hM := hid hM
  go_wp2_with fail
  refine (giveO_nn _ hM.out).mono ?_
  rintro e W ⟨rfl, hM⟩
  have hM := hid hM
  go_wp2_with fail
  have hbbl := (hM.out.at 0 rfl).lt
  have IO := inOrder_is (b := bb) (m := 0) (cap := 0) (g := 0) (N := 0) (A := fun _ => 0) (Z := fun _ => 0) (u := fun _ => 0) (w := W) (by decide) (fun j hj => absurd hj (Nat.not_lt_zero _)) hbbl (Or.inr rfl) (fun j hj => absurd hj (Nat.not_lt_zero _)) (fun k hk => absurd hk (Nat.not_lt_zero _))
  refine IO.mono ?_
  rintro e W ⟨rfl, hb⟩
  replace hM := hid (hM.out.later hb)
  clear hb IO hbbl
  go_wp2
  go_ret
  exact ⟨rfl, hM.out.below⟩
set_option maxHeartbeats 4000000 in
theorem fits_nils {vea vda : Option Addr} {vec vdc n m : Nat} {h : Nat → EV} {q : Nat → DD} (w : World) (E : Ev w (.slice vea n vec) n h) (D : Dq w (.slice vda m vdc) m q) (hn : n ≤ 1000000) (hm0 : 0 < m) (hm : m ≤ 1000000) (hwt : ∀ i, i < m → (Lit.int .i64 (q i).t).wf = true) (hcs : callsF h n = some []) :
    Calls Tryd.prog 10 #[.slice vea n vec, .slice vda m vdc] w (Ret w (errV 8)) := by
  have CO : Hid _ := hid (callsOf_yes E hn hcs)
  have HD : Hid _ := hid D
  have HW : Hid _ := hwt
  have HM : Hid (0 < m ∧ m ≤ 1000000) := ⟨hm0, hm⟩
  obtain ⟨db, dof, rfl, hdc⟩ := HD.out.some hm0
  have HDC : Hid (m ≤ vdc) := hdc
  clear hdc hm0 hwt
  clear E D hcs hn
  have hM : Hid _ := (Ms.nil w)
  go_enter Tryd.func10, Tryd.ntmps10
  go_wp2_with fail
  refine (CO.out).mono ?_
  rintro e W ⟨vc, rfl, hoc, hb⟩
  replace hM := hid (hM.out.later hb)
  obtain ⟨va, vcp, rfl⟩ := hoc.len
  simp only [List.length_nil]
  clear hoc hb
  have mk := mkby 0 m hm
  obtain ⟨bb, hbb⟩ : ∃ q, q = W.heap.size := ⟨_, rfl⟩
  replace hM := hid (hM.out.born (byr 0 (List.replicate m none)) 115 hbb)
  have HBB : Hid _ := hbb
  clear hbb
  go_wp2_with fail
  clear mk
  rw [← HBB.out]
  generalize World.alloc _ _ = W at hM ⊢
  refine (giveA_nil _ _ hM.out).mono ?_
  rintro e W ⟨rfl, hM⟩
  have hM := hid hM
  go_wp2_with fail
  refine (giveO_ns _ hM.out HD.out HM.out.1 HM.out.2 HDC.out (by rw [List.getElem?_replicate, if_pos HM.out.1]) (HW.out 0 HM.out.1)).mono ?_
  rintro e W ⟨rfl, bl2, hM⟩
  have hM := hid hM
  go_wp2
  go_ret
  exact ⟨rfl, hM.out.below⟩
end Go.Proofs.YtaipanjigindbaaDoor.Tab
