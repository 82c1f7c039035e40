/- Texts laid together: Bits of numbers, and worlds that only grow: facts of no program; A row's end where the world has only grown; facts of no program; An argument that is an operation, as it lies in the call; An argument that is a list of deeds, as it lies in the call; Package op's within and Right, by their contracts; Tables of eight slots: what stands where, what is put in, what is taken out: facts of no program; A table as it lies in memory; What a function hands back that lies in cells: a table, a table and a small struct; Lists of numbers as they lie in memory; Objects as words: what words are, as what they lie in memory; facts of no program; All that a call has laid in memory, in one fact: the blocks of its own, each with its cells, and the lists that lie beside them; Regions that draw their order, and r. -/
import Derived.WalkKit
import Derived.Laws.BitsAllLaws
import Derived.Laws.MakeOwn
import Derived.ProofKit
import Derived.OpenShut
import Derived.Test.YteogbpaaacmllaaGreatDoorRows
import Derived.Carry
import Derived.Lib.SmallJoins
import Derived.Deep.Slices
import Derived.Deep.MidRow
import Derived.Deep.Draws
import Derived.Tactics
import Derived.Lib.OwnBridge
import Derived.Deep.RegionHeld
import Derived.Deep.LoopGhost
import Derived.Deep.QuietTactic
import Derived.Deep.RegionHeld3
import Derived.BigQuiet
import Derived.Deep.RegionWith
namespace Go.Proofs.YteogbpaaacmllaaGreatDoor
set_option maxRecDepth 20000
open Go.RowKit

/-- w' is w with new blocks, none of them frozen, and draws. -/
structure Gr (w w' : World) : Prop where
  below : Below w.heap.size w w'
  froz : ∀ a, w'.frozen? a = w.frozen? a

theorem Gr.refl (w : World) : Gr w w := ⟨Below.refl _ _, fun _ => rfl⟩
theorem Gr.trans {a b c : World} (h : Gr a b) (k : Gr b c) : Gr a c :=
  ⟨h.below.trans (k.below.mono h.below.size), fun x => (k.froz x).trans (h.froz x)⟩
theorem Gr.alloc {a b : World} (h : Gr a b) (c : Array Value) (t : TypeId) : Gr a (b.alloc (.cells c t)) :=
  ⟨h.below.alloc h.below.size _, fun x => (frozen?_alloc_cells _ _ _ x).trans (h.froz x)⟩
theorem Gr.setCell {a b : World} (h : Gr a b) {p : Addr} (hp : a.heap.size ≤ p.block) (v : Value) : Gr a (b.setCell p v) :=
  ⟨h.below.setCell hp _, fun x => (World.frozen?_setCell _ _ _ _).trans (h.froz x)⟩
theorem Gr.drew {a b : World} (h : Gr a b) : Gr a b.drew := ⟨h.below.drew, h.froz⟩
theorem Gr.grown {a b : World} (h : Gr a b) : Grown a b := ⟨h.below.frame _, h.froz, h.below.size⟩
theorem Gr.cell {a b : World} (h : Gr a b) {n o : Nat} (hb : n < a.heap.size) : b.cell? ⟨n, o, none⟩ = a.cell? ⟨n, o, none⟩ := h.below.cell hb
theorem frozen_past (w : World) {n o : Nat} (h : w.heap.size ≤ n) : w.frozen? ⟨n, o, none⟩ = false := by
  have e : w.heap[n]? = none := by simp [h]
  simp [World.frozen?, e]

/-- Bit i of x. -/
def bt (x i : Nat) : Nat := x / 2 ^ i % 2

theorem bt_lt (x i : Nat) : bt x i < 2 := Nat.mod_lt _ (by decide)

def z64 : Array Value := madeCells #[.int .i64 0] 64

theorem z64_at (i : Nat) (h : i < 64) : z64[i]? = some (.int .i64 0) := by
  have : i % 1 = 0 := by omega
  simp [z64, madeCells, h, this]

/-- The block of 64 digits that is laid behind w's. -/
structure Dg (f : Nat → Nat) (w w' : World) : Prop where
  gr : Gr w w'
  size : w'.heap.size = w.heap.size + 1
  cell : ∀ i, i < 64 → w'.cell? ⟨w.heap.size, i, none⟩ = some (.int .i64 (f i : Nat))

theorem Dg.froz {f : Nat → Nat} {w w' : World} (h : Dg f w w') (i : Nat) : w'.frozen? ⟨w.heap.size, i, none⟩ = false :=
  (h.gr.froz _).trans (frozen_past w (Nat.le_refl _))

theorem Dg.start (w : World) (t : TypeId) : Dg (fun _ => 0) w (w.alloc (.cells z64 t)) where
  gr := (Gr.refl w).alloc _ _
  size := by simp
  cell i h := by rw [World.cell?_alloc_new]; simpa using z64_at i h

theorem Dg.set {f : Nat → Nat} {w w' : World} (h : Dg f w w') (k v : Nat) (hk : k < 64) (g : Nat → Nat) (hg : ∀ i, i < 64 → g i = if i = k then v else f i) :
    Dg g w (w'.setCell ⟨w.heap.size, k, none⟩ (.int .i64 (v : Nat))) where
  gr := h.gr.setCell (Nat.le_refl _) _
  size := by simpa using h.size
  cell i hi := by
    by_cases e : i = k
    · subst e
      rw [World.cell?_setCell_same _ _ _ (h.cell i hi), hg i hi]; simp
    · rw [World.cell?_setCell_other, h.cell i hi, hg i hi]
      · simp [e]
      · intro h; injection h with h1 h2; exact e h2.symm

/-- The number of m digits, from the i-th on, the least one first. -/
def tp (f : Nat → Nat) : Nat → Nat → Nat
  | _, 0 => 0
  | i, m + 1 => f i + 2 * tp f (i + 1) m

theorem tp_lt (f : Nat → Nat) (hf : ∀ i, f i < 2) : ∀ m i, tp f i m < 2 ^ m
  | 0, _ => by simp [tp]
  | m + 1, i => by
    have := tp_lt f hf m (i + 1)
    have := hf i
    rw [tp, Nat.pow_succ]; omega

theorem tp_congr (f g : Nat → Nat) : ∀ m i, (∀ j, i ≤ j → j < i + m → f j = g j) → tp f i m = tp g i m
  | 0, _, _ => rfl
  | m + 1, i, h => by
    rw [tp, tp, h i (Nat.le_refl _) (by omega), tp_congr f g m (i + 1) (fun j h1 h2 => h j (by omega) (by omega))]

theorem tp_bt (x a : Nat) : ∀ m i, tp (fun j => bt x (a + j)) i m = x / 2 ^ (a + i) % 2 ^ m
  | 0, _ => by simp [tp, Nat.mod_one]
  | m + 1, i => by
    rw [tp, tp_bt x a m (i + 1), Nat.pow_succ, Nat.mul_comm (2 ^ m) 2, Nat.mod_mul, bt, ← Nat.add_assoc, Nat.pow_succ, Nat.div_div_eq_div_mul]

theorem tp_all (x : Nat) (hx : x < 18446744073709551616) : tp (bt x) 0 64 = x := by
  have h := tp_bt x 0 64 0
  simp only [Nat.zero_add, Nat.pow_zero, Nat.div_one] at h
  have e : bt x = fun j => bt x j := rfl
  rw [e, h]
  exact Nat.mod_eq_of_lt hx

theorem bt_test (x i : Nat) : bt x i = (x.testBit i).toNat := by
  rw [Nat.testBit_eq_decide_div_mod_eq, bt]
  have : x / 2 ^ i % 2 < 2 := Nat.mod_lt _ (by decide)
  by_cases h : x / 2 ^ i % 2 = 1
  · simp [h]
  · have : x / 2 ^ i % 2 = 0 := by omega
    simp [this]

theorem ret_bool {a b : Bool} (h : a = b) : Ending.returned (.bool a) = .returned (.bool b) := by rw [h]
theorem ret_int {k : IntKind} {a b : Int} (h : a = b) : Ending.returned (.int k a) = .returned (.int k b) := by rw [h]

theorem cast_shr (x k : Nat) : (x : Int) / 2 ^ k = ((x / 2 ^ k : Nat) : Int) := by simp

theorem bit_and (x k : Nat) (hx : x < 18446744073709551616) : bits .and .u64 ((x : Int) / 2 ^ k) 1 = ((x / 2 ^ k % 2 : Nat) : Int) := by
  rw [cast_shr]
  have h1 : x / 2 ^ k < 18446744073709551616 := Nat.lt_of_le_of_lt (Nat.div_le_self _ _) hx
  have h := u64_and_nat (x / 2 ^ k) 1 h1 (by decide)
  rw [nat_mask1] at h
  exact h

theorem bit_test (x k : Nat) (hx : x < 18446744073709551616) : (bits .and .u64 ((x : Int) / 2 ^ k) 1 == 1) = x.testBit k := by
  rw [bit_and x k hx, Nat.testBit_eq_decide_div_mod_eq]
  generalize x / 2 ^ k % 2 = m
  by_cases h : m = 1
  · simp [h]
  · have : ¬ ((m : Int) = 1) := by omega
    simp [h, this]

theorem pow_lt64 (k : Nat) (hk : k < 64) : 2 ^ k < 18446744073709551616 := by
  have : 2 ^ k < 2 ^ 64 := Nat.pow_lt_pow_of_lt (by decide) hk
  simpa using this

theorem wrap_pow (k : Nat) (hk : k < 64) : IntKind.u64.wrap (2 ^ k) = ((2 ^ k : Nat) : Int) := by
  have h := pow_lt64 k hk
  rw [IntKind.wrap_u64, show (2 : Int) ^ k = ((2 ^ k : Nat) : Int) by simp]
  generalize 2 ^ k = m at h
  omega

theorem xor_pow (x k : Nat) (hx : x < 18446744073709551616) (hk : k < 64) : bits .xor .u64 (x : Int) (IntKind.u64.wrap (2 ^ k)) = ((x ^^^ 2 ^ k : Nat) : Int) := by
  rw [wrap_pow k hk]
  exact u64_xor_nat _ _ hx (pow_lt64 k hk)

theorem flip_lt (x k : Nat) (hx : x < 18446744073709551616) (hk : k < 64) : x ^^^ 2 ^ k < 18446744073709551616 :=
  Nat.xor_lt_two_pow (n := 64) hx (pow_lt64 k hk)

theorem bt_flip (x k j : Nat) : bt (x ^^^ 2 ^ k) j = if j = k then 1 - bt x j else bt x j := by
  rw [bt_test, bt_test, Nat.testBit_xor, Nat.testBit_two_pow]
  by_cases h : j = k
  · subst h; cases x.testBit j <;> simp
  · simp [h, Ne.symm h]
end Go.Proofs.YteogbpaaacmllaaGreatDoor
namespace Go.Proofs.YteogbpaaacmllaaGreatDoor
set_option maxRecDepth 20000
open Go.ChangeShapes Go.WideShapes Go.ChangeAt Go.RowKit

theorem post_below {H : Type} {enc : TypeId × Value → H} {P : Program} {f : Func} {s : ChangeSpec} {apart fresh handsOn : Bool} {W W' : World} {args : Array Value} {v : Value} {ds gs : List (DataW H)} {before pa pv : List MemPlace}
    (hW : DataW.Whole enc P f.params.toList s.vars apart W args.toList ds gs before)
    (hres : ∀ (b : Nat) (sp : Nat → Bool) (hd : Bool), DataW.TrodAll enc P W' b sp hd f.resultTypes.toList (v.resultList f.resultTypes.size) (s.fn H (ds ++ gs)).results [])
    (hargs : ∀ sp : Nat → Bool, (∀ p ∈ before, sp p.block = true) → DataW.TrodAll enc P W' 0 sp true f.params.toList args.toList (s.fn H (ds ++ gs)).args pa)
    (hvars : ∀ sp : Nat → Bool, (∀ p ∈ before, sp p.block = true) → DataW.TrodVars enc P W' sp s.vars (s.fn H (ds ++ gs)).vars pv)
    (hps : before = pa ++ pv) (hk : W.keptBut W' (· ∈ before)) : s.post enc P f apart fresh handsOn false W args v W' := by
  have hold : ∀ p ∈ before, (fun b => decide (b < W.heap.size)) p.block = true := fun p hp => by simpa using hW.lt p hp
  refine ⟨ds, gs, before, [], pa, pv, hW, hres _ _ _, hargs _ hold, hvars _ hold, World.keptBut_mono (fun p hp => ⟨hp, ?_⟩) hk, fun h => by cases h⟩
  rw [hps, List.mem_append] at hp
  exact Or.inr hp

/-- A variable's cells, behind whatever grows. -/
theorem Gr.box {w w1 : World} {cs : Array Value} {t : TypeId} (g : Gr (w.alloc (.cells cs t)) w1) (j : Nat) {v : Value} (h : cs[j]? = some v) : w1.cell? ⟨w.heap.size, j, none⟩ = some v := by
  rw [g.cell (by simp), World.cell?_alloc_new]
  simpa using h
theorem Below.box {w w1 : World} {cs : Array Value} {t : TypeId} (g : Below (w.alloc (.cells cs t)).heap.size (w.alloc (.cells cs t)) w1) (j : Nat) {v : Value} (h : cs[j]? = some v) : w1.cell? ⟨w.heap.size, j, none⟩ = some v := by
  rw [g.cell (p := ⟨w.heap.size, j, none⟩) (by simp), World.cell?_alloc_new]
  simpa using h
end Go.Proofs.YteogbpaaacmllaaGreatDoor
namespace Go.Proofs.YteogbpaaacmllaaGreatDoor
set_option maxRecDepth 20000
open Go.ChangeShapes Go.WideShapes Go.ChangeAt Go.RowKit

set_option maxRecDepth 20000 in
theorem op_of_trod {H : Type} {enc : TypeId × Value → H} {W : World} {r : Reach} {b0 : Nat} {v : Value} {d : DataW H} {p : List MemPlace} (hval : Value.okWide Tryz.prog W r b0 44 v)
    (h : DataW.Trod enc Tryz.prog W 0 (fun _ => true) true 44 v d p) :
    ∃ a b c : Int, v = .agg #[.int .i64 a, .int .i64 b, .int .i64 c] ∧ (Lit.int .i64 a).wf = true ∧ (Lit.int .i64 b).wf = true ∧ (Lit.int .i64 c).wf = true := by
  obtain ⟨v0, v1, v2, y0, y1, y2, n, rfl, _, _, h0, h1, h2⟩ := Go.Joins.open_agg3 Tryz.underlying44 (by kernel_rfl) (by kernel_rfl) hval h
  obtain ⟨a, e0, _, w0⟩ := DataW.trod_int Tryz.underlying3 h0
  obtain ⟨b, e1, _, w1⟩ := DataW.trod_int Tryz.underlying3 h1
  obtain ⟨c, e2, _, w2⟩ := DataW.trod_int Tryz.underlying3 h2
  simp only [List.cons.injEq, and_true] at e0 e1 e2
  subst e0 e1 e2
  exact ⟨a, b, c, rfl, w0, w1, w2⟩

theorem laid_out : laidOutB Tryz.prog = true := by kernel_rfl
theorem op_stay {H : Type} {enc : TypeId × Value → H} {W W' : World} {sp : Nat → Bool} {v : Value} {d : DataW H} {p : List MemPlace}
    (h : DataW.Trod enc Tryz.prog W 0 (fun _ => true) true 44 v d p) (hb : Below W.heap.size W W') (hlt : ∀ x ∈ p, x.block < W.heap.size) (hs : ∀ x ∈ p, sp x.block = true) :
    DataW.Trod enc Tryz.prog W' 0 sp true 44 v d p :=
  WideElems.Trod_stays laid_out (by kernel_rfl) (of_decide_eq_true (by kernel_rfl)) h (fun x hx => hb.same (hlt x hx)) hs
end Go.Proofs.YteogbpaaacmllaaGreatDoor
namespace Go.Proofs.YteogbpaaacmllaaGreatDoor
set_option maxRecDepth 20000
open Go.ChangeShapes Go.WideShapes Go.ChangeAt Go.RowKit

def dl (t o k x c y : Int) : List Value := [.int .i64 t, .int .i64 o, .int .i64 k, .int .i64 x, .int .i64 c, .int .i64 y]
/-- n deeds lie in the slice v. -/
def Dds (w : World) (v : Value) (n : Nat) : Prop :=
  (n = 0 ∧ ∃ (a : Option Addr) (c : Nat), v = .slice a 0 c ∧ (a = none → c = 0)) ∨
  ∃ (b off c : Nat), v = .slice (some ⟨b, off, none⟩) n c ∧ 0 < n ∧ n ≤ c ∧ n ≤ 9223372036854775807 ∧
    ∀ i, i < n → ∃ t o k x cc y : Int, w.rangeAt b (off + i * 6) (dl t o k x cc y)
theorem Dds.later {w w' : World} {v : Value} {n : Nat} (h : Dds w v n) (hb : Below w.heap.size w w') : Dds w' v n := by
  rcases h with h | ⟨b, off, c, h1, h2, h3, h4, h5⟩
  · exact Or.inl h
  · refine Or.inr ⟨b, off, c, h1, h2, h3, h4, fun i hi => ?_⟩
    obtain ⟨t, o, k, x, cc, y, hr⟩ := h5 i hi
    exact ⟨t, o, k, x, cc, y, fun j v hv => by
      have := hr j v hv
      rw [hb.cell (World.block_lt_of_cell? w _ this)]; exact this⟩

theorem op_fields' : ∃ f0 f1 f2 : Field, Tryz.prog.underlying 44 = some (.struct #[f0, f1, f2]) ∧
    (f0.type = 3 ∧ f0.offset = 0) ∧ (f1.type = 3 ∧ f1.offset = 1) ∧ (f2.type = 3 ∧ f2.offset = 2) :=
  ⟨_, _, _, Tryz.underlying44, ⟨rfl, rfl⟩, ⟨rfl, rfl⟩, ⟨rfl, rfl⟩⟩
theorem answer_fields : ∃ f0 f1 : Field, Tryz.prog.underlying 58 = some (.struct #[f0, f1]) ∧
    (f0.type = 3 ∧ f0.offset = 0) ∧ (f1.type = 3 ∧ f1.offset = 1) :=
  ⟨_, _, Tryz.underlying58, ⟨rfl, rfl⟩, ⟨rfl, rfl⟩⟩
theorem deed_fields : ∃ f0 f1 f2 : Field, Tryz.prog.underlying 60 = some (.struct #[f0, f1, f2]) ∧
    (f0.type = 3 ∧ f0.offset = 0) ∧ (f1.type = 44 ∧ f1.offset = 1) ∧ (f2.type = 58 ∧ f2.offset = 4) :=
  ⟨_, _, _, Tryz.underlying60, ⟨rfl, rfl⟩, ⟨rfl, rfl⟩, ⟨rfl, rfl⟩⟩

set_option maxRecDepth 20000 in
theorem adeeds_of_trod {H : Type} {enc : TypeId × Value → H} {W : World} {r : Reach} {b0 : Nat} {v : Value} {d : DataW H} {p : List MemPlace} (hval : Value.okWide Tryz.prog W r b0 27 v)
    (h : DataW.Trod enc Tryz.prog W 0 (fun _ => true) true 27 v d p) : ∃ n, Dds W v n := by
  obtain ⟨fuel, hf⟩ := h
  obtain ⟨A, l, c, rfl⟩ := okWide_slice Tryz.underlying27 hval
  have hc6 : Tryz.prog.cellsOf 60 = 6 := by kernel_rfl
  have hc3 : Tryz.prog.cellsOf 44 = 3 := by kernel_rfl
  have hc2 : Tryz.prog.cellsOf 58 = 2 := by kernel_rfl
  have ci : Tryz.prog.cellsOf 3 = 1 := by kernel_rfl
  obtain ⟨f0, f1, f2, hu, ⟨t0, o0⟩, ⟨t1, o1⟩, ⟨t2, o2⟩⟩ := deed_fields
  obtain ⟨g0, g1, g2, hg, ⟨tg0, og0⟩, ⟨tg1, og1⟩, ⟨tg2, og2⟩⟩ := op_fields'
  obtain ⟨e0, e1, he, ⟨te0, oe0⟩, ⟨te1, oe1⟩⟩ := answer_fields
  rcases Deep.open_slice Tryz.underlying27 hf with ⟨hcs, _⟩ | ⟨a, len, cap, m, n, D, Pl, hcs, _, hl, hmx, hm, _, hx⟩
  · simp [Value.cells] at hcs
    obtain ⟨rfl, rfl, rfl⟩ := hcs
    exact ⟨0, Or.inl ⟨rfl, none, 0, rfl, fun _ => rfl⟩⟩
  · simp [Value.cells] at hcs
    obtain ⟨rfl, rfl, rfl⟩ := hcs
    by_cases h0 : l = 0
    · subst h0
      exact ⟨0, Or.inl ⟨rfl, some a, c, rfl, fun h => by cases h⟩⟩
    have hcell : ∀ i, i < l → ∃ t o k x cc y : Int, ∀ j v, (dl t o k x cc y)[j]? = some v → W.cell? ((a.add (i * 6)).add j) = some v := by
      intro i hi
      obtain ⟨cs', h1, h2⟩ := hx i (by rw [hm]; simp; omega)
      rw [hc6] at h1
      obtain ⟨_, hlen, hcell⟩ := World.cells?_some h1
      obtain ⟨xs, k, _, _, _, hxl, hfl⟩ := DataW.trod_struct hu h2
      match cs', hlen, xs, hxl with
      | [v0, v1, v2, v3, v4, v5], _, [y0, y1, y2], _ =>
        have k0 := hfl 0 f0 rfl
        have k1 := hfl 1 f1 rfl
        have k2 := hfl 2 f2 rfl
        rw [t0, o0, ci] at k0
        rw [t1, o1, hc3] at k1
        rw [t2, o2, hc2] at k2
        obtain ⟨n0, q0, _, _⟩ := DataW.trod_int Tryz.underlying3 k0
        obtain ⟨ys, k', _, _, _, hyl, hgl⟩ := DataW.trod_struct hg k1
        obtain ⟨zs, k'', _, _, _, hzl, hel⟩ := DataW.trod_struct he k2
        match ys, hyl, zs, hzl with
        | [z0, z1, z2], _, [u0, u1], _ =>
          have m0 := hgl 0 g0 rfl
          have m1 := hgl 1 g1 rfl
          have m2 := hgl 2 g2 rfl
          have m3 := hel 0 e0 rfl
          have m4 := hel 1 e1 rfl
          rw [tg0, og0, ci] at m0
          rw [tg1, og1, ci] at m1
          rw [tg2, og2, ci] at m2
          rw [te0, oe0, ci] at m3
          rw [te1, oe1, ci] at m4
          obtain ⟨n1, q1, _, _⟩ := DataW.trod_int Tryz.underlying3 m0
          obtain ⟨n2, q2, _, _⟩ := DataW.trod_int Tryz.underlying3 m1
          obtain ⟨n3, q3, _, _⟩ := DataW.trod_int Tryz.underlying3 m2
          obtain ⟨n4, q4, _, _⟩ := DataW.trod_int Tryz.underlying3 m3
          obtain ⟨n5, q5, _, _⟩ := DataW.trod_int Tryz.underlying3 m4
          simp at q0 q1 q2 q3 q4 q5
          subst q0 q1 q2 q3 q4 q5
          refine ⟨n0, n1, n2, n3, n4, n5, fun j v hv => ?_⟩
          have hj : j < 6 := by simpa [dl] using (List.getElem?_eq_some_iff.1 hv).1
          have := hcell j hj
          rw [this]
          simp only [dl] at hv
          exact hv
    obtain ⟨b, off, spot⟩ := a
    have hspot : spot = none := by
      obtain ⟨t, o, k, x, cc, y, h1⟩ := hcell 0 (by omega)
      have := h1 0 _ rfl
      simpa [Addr.add] using World.cell?_spot this
    subst hspot
    refine ⟨l, Or.inr ⟨b, off, c, rfl, by omega, hl, by unfold maxLen at hmx; omega, fun i hi => ?_⟩⟩
    obtain ⟨t, o, k, x, cc, y, h1⟩ := hcell i hi
    refine ⟨t, o, k, x, cc, y, fun j v hv => ?_⟩
    have := h1 j v hv
    rw [Addr.add_mid, Addr.add_mid] at this
    exact this

theorem adeeds_stay {H : Type} {enc : TypeId × Value → H} {W W' : World} {sp : Nat → Bool} {v : Value} {d : DataW H} {p : List MemPlace}
    (h : DataW.Trod enc Tryz.prog W 0 (fun _ => true) true 27 v d p) (hb : Below W.heap.size W W') (hlt : ∀ x ∈ p, x.block < W.heap.size) (hs : ∀ x ∈ p, sp x.block = true) :
    DataW.Trod enc Tryz.prog W' 0 sp true 27 v d p :=
  WideElems.Trod_stays laid_out (by kernel_rfl) (of_decide_eq_true (by kernel_rfl)) h (fun x hx => hb.same (hlt x hx)) hs
end Go.Proofs.YteogbpaaacmllaaGreatDoor
namespace Go.Proofs.YteogbpaaacmllaaGreatDoor
set_option maxRecDepth 20000
open Go.RowKit

/-- An operation that is right: 4.1. -/
structure Rt (w k v : Int) : Prop where
  w1 : 1 ≤ w
  w6 : w ≤ 6
  k0 : 0 ≤ k
  k1 : k ≤ 1000
  v0 : 0 ≤ v
  v1 : v ≤ 4294967295

theorem within_yes (n a b : Int) (w : World) (h1 : a ≤ n) (h2 : n ≤ b) :
    Calls Tryz.prog 44 #[.int .i64 n, .int .i64 a, .int .i64 b] w fun e w' => e = .returned (.bool true) ∧ w' = w := by
  go_enter Tryz.func44, Tryz.ntmps44
  go_wp2
  go_ret
  exact ⟨rfl, rfl⟩

theorem within_no (n a b : Int) (w : World) (h : n < a ∨ b < n) :
    Calls Tryz.prog 44 #[.int .i64 n, .int .i64 a, .int .i64 b] w fun e w' => e = .returned (.bool false) ∧ w' = w := by
  by_cases h1 : a ≤ n
  · have h2 : ¬ n ≤ b := by omega
    clear h
    go_enter Tryz.func44, Tryz.ntmps44
    go_wp2
    go_ret
    exact ⟨rfl, rfl⟩
  · clear h
    go_enter Tryz.func44, Tryz.ntmps44
    go_wp2
    go_ret
    exact ⟨rfl, rfl⟩

theorem opRight_is {o k v : Int} (h : Rt o k v) (w : World) :
    Calls Tryz.prog 15 #[.agg #[.int .i64 o, .int .i64 k, .int .i64 v]] w fun e w' => e = .returned (.bool true) ∧ w' = w.alloc (.cells #[.int .i64 o, .int .i64 k, .int .i64 v] 44) := by
  obtain ⟨h1, h2, h3, h4, h5, h6⟩ := h
  go_enter Tryz.func15, Tryz.ntmps15
  go_wp2_with (go_at_call 44; refine (within_yes _ _ _ _ (by omega) (by omega)).mono ?_; rintro e w' ⟨rfl, rfl⟩)
  go_ret
  exact ⟨rfl, rfl⟩

theorem not_rt {o k v : Int} (h : ¬ Rt o k v) : (o < 1 ∨ 6 < o) ∨ (1 ≤ o ∧ o ≤ 6) ∧ ((k < 0 ∨ 1000 < k) ∨ (0 ≤ k ∧ k ≤ 1000) ∧ (v < 0 ∨ 4294967295 < v)) := by
  have : ¬ (1 ≤ o ∧ o ≤ 6 ∧ 0 ≤ k ∧ k ≤ 1000 ∧ 0 ≤ v ∧ v ≤ 4294967295) := fun ⟨a, b, c, d, e, f⟩ => h ⟨a, b, c, d, e, f⟩
  omega

theorem opRight_isnt {o k v : Int} (h : ¬ Rt o k v) (w : World) :
    Calls Tryz.prog 15 #[.agg #[.int .i64 o, .int .i64 k, .int .i64 v]] w fun e w' => e = .returned (.bool false) ∧ w' = w.alloc (.cells #[.int .i64 o, .int .i64 k, .int .i64 v] 44) := by
  rcases not_rt h with h1 | ⟨⟨h1, h2⟩, h3 | ⟨⟨h3, h4⟩, h5⟩⟩
  · clear h
    go_enter Tryz.func15, Tryz.ntmps15
    go_wp2_with (go_at_call 44; refine (within_no _ _ _ _ (by omega)).mono ?_; rintro e w' ⟨rfl, rfl⟩)
    go_ret
    exact ⟨rfl, rfl⟩
  · clear h
    go_enter Tryz.func15, Tryz.ntmps15
    go_wp2_with fail
    refine (within_yes _ _ _ _ h1 h2).mono ?_
    rintro e w' ⟨rfl, rfl⟩
    go_wp2_with fail
    refine (within_no _ _ _ _ h3).mono ?_
    rintro e w' ⟨rfl, rfl⟩
    go_wp2
    go_ret
    exact ⟨rfl, rfl⟩
  · clear h
    go_enter Tryz.func15, Tryz.ntmps15
    go_wp2_with fail
    refine (within_yes _ _ _ _ h1 h2).mono ?_
    rintro e w' ⟨rfl, rfl⟩
    go_wp2_with fail
    refine (within_yes _ _ _ _ h3 h4).mono ?_
    rintro e w' ⟨rfl, rfl⟩
    go_wp2_with fail
    refine (within_no _ _ _ _ h5).mono ?_
    rintro e w' ⟨rfl, rfl⟩
    go_wp2
    go_ret
    exact ⟨rfl, rfl⟩

theorem opRight_yes {o k v : Int} (h : Rt o k v) (w : World) :
    Calls Tryz.prog 15 #[.agg #[.int .i64 o, .int .i64 k, .int .i64 v]] w fun e w' => e = .returned (.bool true) ∧ Gr w w' :=
  (opRight_is h w).mono fun _ _ ⟨he, hw⟩ => ⟨he, hw ▸ (Gr.refl w).alloc _ _⟩
theorem opRight_no {o k v : Int} (h : ¬ Rt o k v) (w : World) :
    Calls Tryz.prog 15 #[.agg #[.int .i64 o, .int .i64 k, .int .i64 v]] w fun e w' => e = .returned (.bool false) ∧ Gr w w' :=
  (opRight_isnt h w).mono fun _ _ ⟨he, hw⟩ => ⟨he, hw ▸ (Gr.refl w).alloc _ _⟩
end Go.Proofs.YteogbpaaacmllaaGreatDoor
namespace Go.Proofs.YteogbpaaacmllaaGreatDoor.Tab
set_option maxRecDepth 20000

/-- A table: the key and the value of each slot. -/
structure Tb where
  k : Nat → Int
  v : Nat → Int

def Tb.zero : Tb := ⟨fun _ => 0, fun _ => 0⟩
def Tb.set (t : Tb) (p : Nat) (x y : Int) : Tb := ⟨fun i => if i = p then x else t.k i, fun i => if i = p then y else t.v i⟩

theorem Tb.set_k (t : Tb) (p : Nat) (x y : Int) (i : Nat) : (t.set p x y).k i = if i = p then x else t.k i := rfl
theorem Tb.set_v (t : Tb) (p : Nat) (x y : Int) (i : Nat) : (t.set p x y).v i = if i = p then y else t.v i := rfl

/-- Where a key would stand. -/
def home (k : Int) : Nat := (5 * k % 8).toNat
theorem home_lt (k : Int) : home k < 8 := by unfold home; omega
/-- The i-th slot of a key's row. -/
def rowAt (k : Int) (i : Nat) : Nat := (home k + i) % 8
theorem rowAt_lt (k : Int) (i : Nat) : rowAt k i < 8 := Nat.mod_lt _ (by decide)

/-- How far slot p is behind slot h, going round. -/
def ds (h p : Nat) : Nat := (p + 8 - h) % 8
theorem ds_lt (h p : Nat) : ds h p < 8 := Nat.mod_lt _ (by decide)
theorem ds_row (k : Int) (i : Nat) (hi : i < 8) : ds (home k) (rowAt k i) = i := by
  have := home_lt k
  unfold ds rowAt; omega
theorem ds_inj {h p q : Nat} (hh : h < 8) (hp : p < 8) (hq : q < 8) (e : ds h p = ds h q) : p = q := by unfold ds at e; omega
theorem row_ds (k : Int) (p : Nat) (hp : p < 8) : rowAt k (ds (home k) p) = p := by
  have := home_lt k
  unfold ds rowAt; omega

/-- Slot p has the key, or is free. -/
abbrev Hit (t : Tb) (k : Int) (p : Nat) : Prop := t.k p = k ∨ t.k p = 0

def plF (t : Tb) (k : Int) : Nat → Nat → Nat
  | 0, i => rowAt k i
  | n + 1, i => if Hit t k (rowAt k i) then rowAt k i else plF t k n (i + 1)
/-- 9.2's PLACE; the last slot of the row if there is none. -/
def place (t : Tb) (k : Int) : Nat := plF t k 7 0

theorem plF_lt (t : Tb) (k : Int) : ∀ n i, plF t k n i < 8
  | 0, i => rowAt_lt k i
  | n + 1, i => by
    unfold plF; split
    · exact rowAt_lt k i
    · exact plF_lt t k n (i + 1)
theorem place_lt (t : Tb) (k : Int) : place t k < 8 := plF_lt t k 7 0

theorem plF_spec (t : Tb) (k : Int) : ∀ n i, n + i = 7 → (∀ q, q < 8 → ds (home k) q < i → ¬ Hit t k q) →
    (∀ q, q < 8 → ds (home k) q < ds (home k) (plF t k n i) → ¬ Hit t k q) ∧ (Hit t k (plF t k n i) ∨ ∀ q, q < 8 → ¬ Hit t k q)
  | 0, i, h, hb => by
    obtain rfl : i = 7 := by omega
    rw [plF, ds_row k 7 (by decide)]
    refine ⟨hb, ?_⟩
    by_cases hh : Hit t k (rowAt k 7)
    · exact Or.inl hh
    · refine Or.inr fun q hq => ?_
      by_cases h7 : ds (home k) q < 7
      · exact hb q hq h7
      · have e : ds (home k) q = 7 := by have := ds_lt (home k) q; omega
        rw [← row_ds k q hq, e]; exact hh
  | n + 1, i, h, hb => by
    rw [plF]
    split
    · rename_i hh
      rw [ds_row k i (by omega)]
      exact ⟨hb, Or.inl hh⟩
    · rename_i hh
      refine plF_spec t k n (i + 1) (by omega) fun q hq hd => ?_
      by_cases hi : ds (home k) q < i
      · exact hb q hq hi
      · have e : ds (home k) q = i := by omega
        rw [← row_ds k q hq, e]; exact hh

theorem place_ahead (t : Tb) (k : Int) {q : Nat} (hq : q < 8) (h : ds (home k) q < ds (home k) (place t k)) : ¬ Hit t k q :=
  (plF_spec t k 7 0 rfl (fun _ _ h => absurd h (Nat.not_lt_zero _))).1 q hq h
theorem place_hit (t : Tb) (k : Int) {q : Nat} (hq : q < 8) (h : Hit t k q) : Hit t k (place t k) := by
  rcases (plF_spec t k 7 0 rfl (fun _ _ h => absurd h (Nat.not_lt_zero _))).2 with h1 | h1
  · exact h1
  · exact absurd h (h1 q hq)
theorem place_is (t : Tb) (k : Int) {p : Nat} (hp : p < 8) (hh : Hit t k p) (ha : ∀ q, q < 8 → ds (home k) q < ds (home k) p → ¬ Hit t k q) : place t k = p := by
  have h1 := place_hit t k hp hh
  have h2 := place_lt t k
  refine ds_inj (home_lt k) h2 hp ?_
  rcases Nat.lt_trichotomy (ds (home k) (place t k)) (ds (home k) p) with h | h | h
  · exact absurd h1 (ha _ h2 h)
  · exact h
  · exact absurd hh (place_ahead t k hp h)

/-- One, if slot p isn't free. -/
def ind (t : Tb) (p : Nat) : Nat := if t.k p = 0 then 0 else 1
def len (t : Tb) : Nat := ind t 0 + ind t 1 + ind t 2 + ind t 3 + ind t 4 + ind t 5 + ind t 6 + ind t 7
theorem ind_le (t : Tb) (p : Nat) : ind t p ≤ 1 := by unfold ind; split <;> omega
theorem len_le (t : Tb) : len t ≤ 8 := by
  have := ind_le t 0; have := ind_le t 1; have := ind_le t 2; have := ind_le t 3
  have := ind_le t 4; have := ind_le t 5; have := ind_le t 6; have := ind_le t 7
  unfold len; omega
theorem eight {P : Nat → Prop} (h0 : P 0) (h1 : P 1) (h2 : P 2) (h3 : P 3) (h4 : P 4) (h5 : P 5) (h6 : P 6) (h7 : P 7) {p : Nat} (hp : p < 8) : P p := by
  have : p = 0 ∨ p = 1 ∨ p = 2 ∨ p = 3 ∨ p = 4 ∨ p = 5 ∨ p = 6 ∨ p = 7 := by omega
  rcases this with rfl | rfl | rfl | rfl | rfl | rfl | rfl | rfl <;> assumption
theorem ind_set (t : Tb) (p q : Nat) (x y : Int) : ind (t.set p x y) q = if q = p then (if x = 0 then 0 else 1) else ind t q := by
  unfold ind; rw [Tb.set_k]; split <;> rfl
theorem len_set (t : Tb) {p : Nat} (hp : p < 8) (x y : Int) : len (t.set p x y) + ind t p = len t + (if x = 0 then 0 else 1) := by
  have e : p = 0 ∨ p = 1 ∨ p = 2 ∨ p = 3 ∨ p = 4 ∨ p = 5 ∨ p = 6 ∨ p = 7 := by omega
  unfold len
  simp only [ind_set]
  rcases e with rfl | rfl | rfl | rfl | rfl | rfl | rfl | rfl <;> simp <;> omega
theorem free_of_len (t : Tb) (h : len t ≤ 7) : ∃ p, p < 8 ∧ t.k p = 0 := by
  refine Classical.byContradiction fun hn => ?_
  have a : ∀ p, p < 8 → ind t p = 1 := fun p hp => by
    unfold ind; split
    · rename_i e; exact absurd ⟨p, hp, e⟩ hn
    · rfl
  have := a 0 (by decide); have := a 1 (by decide); have := a 2 (by decide); have := a 3 (by decide)
  have := a 4 (by decide); have := a 5 (by decide); have := a 6 (by decide); have := a 7 (by decide)
  unfold len at h; omega

/-- 9.1's Right. -/
structure RT (t : Tb) : Prop where
  keys : ∀ p, p < 8 → 0 ≤ t.k p ∧ t.k p ≤ 1000
  vals : ∀ p, p < 8 → 0 ≤ t.v p ∧ t.v p ≤ 4294967295
  none : ∀ p, p < 8 → t.k p = 0 → t.v p = 0
  row : ∀ p, p < 8 → t.k p ≠ 0 → ∀ q, q < 8 → ds (home (t.k p)) q < ds (home (t.k p)) p → ¬ Hit t (t.k p) q
  room : len t ≤ 6

theorem RT.free {t : Tb} (h : RT t) : ∃ p, p < 8 ∧ t.k p = 0 := free_of_len t (by have := h.room; omega)
theorem RT.hit {t : Tb} (h : RT t) (k : Int) : Hit t k (place t k) := by
  obtain ⟨p, hp, e⟩ := h.free
  exact place_hit t k hp (Or.inr e)
/-- Each key is found where it stands. -/
theorem RT.found {t : Tb} (h : RT t) {p : Nat} (hp : p < 8) (hk : t.k p ≠ 0) : place t (t.k p) = p :=
  place_is t _ hp (Or.inl rfl) (h.row p hp hk)
theorem RT.once {t : Tb} (h : RT t) {p q : Nat} (hp : p < 8) (hq : q < 8) (hk : t.k p ≠ 0) (e : t.k p = t.k q) : p = q := by
  have a := h.found hp hk
  have b := h.found hq (e ▸ hk)
  rw [← e] at b
  exact a.symm.trans b

/-- The program's own test: a slot that isn't free is the place of its key. -/
theorem RT.of_found {t : Tb} (hk : ∀ p, p < 8 → 0 ≤ t.k p ∧ t.k p ≤ 1000) (hv : ∀ p, p < 8 → 0 ≤ t.v p ∧ t.v p ≤ 4294967295) (hn : ∀ p, p < 8 → t.k p = 0 → t.v p = 0)
    (hf : ∀ p, p < 8 → t.k p ≠ 0 → place t (t.k p) = p) (hl : len t ≤ 6) : RT t where
  keys := hk
  vals := hv
  none := hn
  row p hp h0 q hq hd := by
    rw [← hf p hp h0] at hd
    refine place_ahead t (t.k p) hq ?_
    rwa [hf p hp h0] at hd ⊢
  room := hl

/-- Key and value stand somewhere. -/
def In (t : Tb) (k x : Int) : Prop := ∃ p, p < 8 ∧ t.k p = k ∧ t.v p = x

/-- What Peek tells. -/
def look (t : Tb) (k : Int) : Int × Int := if t.k (place t k) = k then (1, t.v (place t k)) else (4, 0)

theorem look_in {t : Tb} (h : RT t) {k x : Int} (hk : k ≠ 0) (hi : In t k x) : look t k = (1, x) := by
  obtain ⟨p, hp, rfl, rfl⟩ := hi
  rw [look, h.found hp hk, if_pos rfl]
theorem look_out {t : Tb} {k : Int} (hi : ∀ x, ¬ In t k x) : look t k = (4, 0) := by
  rw [look, if_neg fun e => hi _ ⟨_, place_lt t k, e, rfl⟩]
theorem in_of_place {t : Tb} {k : Int} (e : t.k (place t k) = k) : In t k (t.v (place t k)) := ⟨_, place_lt t k, e, rfl⟩
theorem out_of_place {t : Tb} (h : RT t) {k : Int} (hk : k ≠ 0) (e : t.k (place t k) ≠ k) (x : Int) : ¬ In t k x := by
  rintro ⟨p, hp, rfl, rfl⟩
  rw [h.found hp hk] at e
  exact e rfl
theorem free_of_place {t : Tb} (h : RT t) {k : Int} (e : t.k (place t k) ≠ k) : t.k (place t k) = 0 := (h.hit k).resolve_left e
theorem look_congr {t u : Tb} (h : RT t) (g : RT u) {k : Int} (hk : k ≠ 0) (hi : ∀ x, In t k x ↔ In u k x) : look t k = look u k := by
  by_cases e : t.k (place t k) = k
  · have a := in_of_place e
    rw [look_in h hk a, look_in g hk ((hi _).1 a)]
  · have o := out_of_place h hk e
    rw [look_out o, look_out fun x hx => o x ((hi x).2 hx)]

/-! Put. -/
theorem put_has {t : Tb} (h : RT t) {p : Nat} (hp : p < 8) (hk : t.k p ≠ 0) {x : Int} (h0 : 0 ≤ x) (h1 : x ≤ 4294967295) : RT (t.set p (t.k p) x) := by
  have ek : (t.set p (t.k p) x).k = t.k := by funext i; rw [Tb.set_k]; split <;> simp_all
  have hh : ∀ k q, Hit (t.set p (t.k p) x) k q ↔ Hit t k q := fun k q => by unfold Hit; rw [ek]
  refine ⟨fun q hq => by rw [ek]; exact h.keys q hq, fun q hq => ?_, fun q hq e => ?_, fun q hq e r hr hd => ?_, ?_⟩
  · rw [Tb.set_v]; split
    · exact ⟨h0, h1⟩
    · exact h.vals q hq
  · rw [ek] at e
    rw [Tb.set_v]; split
    · rename_i e2; subst e2; exact absurd e hk
    · exact h.none q hq e
  · rw [ek] at e hd ⊢
    rw [hh]; exact h.row q hq e r hr hd
  · have := len_set t hp (t.k p) x
    rw [if_neg hk] at this
    have := h.room
    have : ind t p = 1 := by unfold ind; rw [if_neg hk]
    omega

theorem put_new {t : Tb} (h : RT t) {k x : Int} (hk1 : 1 ≤ k) (hk2 : k ≤ 1000) (h0 : 0 ≤ x) (h1 : x ≤ 4294967295) (hn : t.k (place t k) ≠ k) (hl : len t < 6) : RT (t.set (place t k) k x) := by
  have hf := free_of_place h hn
  have hp := place_lt t k
  have ha := fun q hq => place_ahead t k (q := q) hq
  have ho := out_of_place h (by omega : k ≠ 0) hn
  generalize place t k = p at *
  refine ⟨fun q hq => ?_, fun q hq => ?_, fun q hq e => ?_, fun q hq e r hr hd => ?_, ?_⟩
  · rw [Tb.set_k]; split
    · omega
    · exact h.keys q hq
  · rw [Tb.set_v]; split
    · exact ⟨h0, h1⟩
    · exact h.vals q hq
  · rw [Tb.set_k] at e
    rw [Tb.set_v]; split
    · rename_i e2; rw [if_pos e2] at e; omega
    · rename_i e2; rw [if_neg e2] at e; exact h.none q hq e
  · by_cases eq : q = p
    · subst eq
      have ek : (t.set q k x).k q = k := by rw [Tb.set_k, if_pos rfl]
      rw [ek] at hd ⊢
      have hr2 : r ≠ q := fun e => by subst e; omega
      unfold Hit; rw [Tb.set_k, if_neg hr2]
      exact ha r hr hd
    · have ek : (t.set p k x).k q = t.k q := by rw [Tb.set_k, if_neg eq]
      rw [ek] at e hd ⊢
      have := h.row q hq e r hr hd
      by_cases er : r = p
      · subst er; exact absurd (Or.inr hf) this
      · unfold Hit; rw [Tb.set_k, if_neg er]; exact this
  · have := len_set t hp k x
    rw [if_neg (by omega : k ≠ 0)] at this
    omega

theorem in_put_has {t : Tb} {p : Nat} (x : Int) {j y : Int} (hj : j ≠ t.k p) : In (t.set p (t.k p) x) j y ↔ In t j y := by
  constructor
  · rintro ⟨q, hq, e1, e2⟩
    rw [Tb.set_k] at e1; rw [Tb.set_v] at e2
    by_cases e : q = p
    · rw [if_pos e] at e1; exact absurd e1.symm hj
    · rw [if_neg e] at e1 e2; exact ⟨q, hq, e1, e2⟩
  · rintro ⟨q, hq, e1, e2⟩
    have e : q ≠ p := fun e => hj (by rw [← e1, e])
    exact ⟨q, hq, by rw [Tb.set_k, if_neg e, e1], by rw [Tb.set_v, if_neg e, e2]⟩
theorem in_put_new {t : Tb} {p : Nat} (hf : t.k p = 0) (k x : Int) {j y : Int} (hj : j ≠ k) (hj0 : j ≠ 0) : In (t.set p k x) j y ↔ In t j y := by
  constructor
  · rintro ⟨q, hq, e1, e2⟩
    rw [Tb.set_k] at e1; rw [Tb.set_v] at e2
    by_cases e : q = p
    · rw [if_pos e] at e1; exact absurd e1.symm hj
    · rw [if_neg e] at e1 e2; exact ⟨q, hq, e1, e2⟩
  · rintro ⟨q, hq, e1, e2⟩
    have e : q ≠ p := fun e => hj0 (by rw [← e1, e, hf])
    exact ⟨q, hq, by rw [Tb.set_k, if_neg e, e1], by rw [Tb.set_v, if_neg e, e2]⟩
theorem in_put {t : Tb} {p : Nat} (hp : p < 8) (k x : Int) : In (t.set p k x) k x := ⟨p, hp, by rw [Tb.set_k, if_pos rfl], by rw [Tb.set_v, if_pos rfl]⟩

/-! Take. -/
/-- A slot is made free, and what stood in it stands in its key's place. -/
def anew (t : Tb) (q : Nat) : Tb := (t.set q 0 0).set (place (t.set q 0 0) (t.k q)) (t.k q) (t.v q)
def woF : Nat → Tb → Nat → Tb
  | 0, t, _ => t
  | n + 1, t, p => if t.k ((p + 1) % 8) = 0 then t else woF n (anew t ((p + 1) % 8)) ((p + 1) % 8)
def without (t : Tb) (p : Nat) : Tb := woF 7 (t.set p 0 0) p

/-- Between: behind slot p0's m-th, ahead of slot F. -/
def Bt (p0 F m y : Nat) : Prop := m < ds p0 y ∧ ds p0 y < ds p0 F

/-- From p0 on m slots have been put anew; F is the free one where it ends. -/
structure J (t : Tb) (p0 F m : Nat) : Prop where
  keys : ∀ p, p < 8 → 0 ≤ t.k p ∧ t.k p ≤ 1000
  vals : ∀ p, p < 8 → 0 ≤ t.v p ∧ t.v p ≤ 4294967295
  none : ∀ p, p < 8 → t.k p = 0 → t.v p = 0
  room : len t ≤ 6
  p8 : p0 < 8
  F8 : F < 8
  free : t.k F = 0
  mF : m < ds p0 F
  once : ∀ p q, p < 8 → q < 8 → t.k p ≠ 0 → t.k p = t.k q → p = q
  taken : ∀ y, y < 8 → Bt p0 F m y → t.k y ≠ 0
  done : ∀ y, y < 8 → t.k y ≠ 0 → ¬ Bt p0 F m y → ∀ q, q < 8 → ds (home (t.k y)) q < ds (home (t.k y)) y → t.k q ≠ 0
  todo : ∀ y, y < 8 → Bt p0 F m y → ∀ q, q < 8 → ds (home (t.k y)) q < ds (home (t.k y)) y → t.k q = 0 → ds p0 q ≤ m

theorem J.end {t : Tb} {p0 F m : Nat} (h : J t p0 F m) (he : m + 1 = ds p0 F) : RT t where
  keys := h.keys
  vals := h.vals
  none := h.none
  room := h.room
  row p hp hk q hq hd := by
    have hd' := h.done p hp hk (fun hb => by have := hb.1; have := hb.2; omega) q hq hd
    rintro (e | e)
    · have := h.once p q hp hq hk e.symm
      subst this; omega
    · exact hd' e

/-- Who stands behind slot q, but not between it and F, stands behind F. -/
theorem round_F {p0 F m q y hh : Nat} (h0 : p0 < 8) (hF : F < 8) (hq : q < 8) (hy : y < 8) (hh8 : hh < 8) (hm : ds p0 q = m) (hmF : m < ds p0 F)
    (hn : ¬ Bt p0 F m y) (hyq : y ≠ q) (hyF : y ≠ F) (hd : ds hh q < ds hh y) : ds hh F < ds hh y := by
  unfold Bt ds at *
  omega

theorem J.start {t : Tb} (h : RT t) {p0 : Nat} (hp : p0 < 8) (hk : t.k p0 ≠ 0) : ∃ F, J (t.set p0 0 0) p0 F 0 ∧ ∀ q, q < 8 → ds p0 q < ds p0 F → t.k q ≠ 0 := by
  -- the first free slot behind p0
  have ex : ∃ d, d < 8 ∧ t.k ((p0 + d) % 8) = 0 := by
    obtain ⟨f, hf, e⟩ := h.free
    refine ⟨ds p0 f, ds_lt _ _, ?_⟩
    have : (p0 + ds p0 f) % 8 = f := by unfold ds; omega
    rw [this]; exact e
  obtain ⟨d, hd8, hd0, hmin⟩ : ∃ d, d < 8 ∧ t.k ((p0 + d) % 8) = 0 ∧ ∀ e, e < d → t.k ((p0 + e) % 8) ≠ 0 := by
    obtain ⟨d, hd⟩ := ex
    induction d using Nat.strongRecOn with
    | ind d ih =>
      by_cases hm : ∃ e, e < d ∧ t.k ((p0 + e) % 8) = 0
      · obtain ⟨e, he, h0⟩ := hm
        exact ih e he ⟨by omega, h0⟩
      · exact ⟨d, hd.1, hd.2, fun e he h0 => hm ⟨e, he, h0⟩⟩
  obtain ⟨F, hFe⟩ : ∃ F, F = (p0 + d) % 8 := ⟨_, rfl⟩
  have hF : F < 8 := by omega
  have hdF : ds p0 F = d := by unfold ds; omega
  rw [← hFe] at hd0
  have hlow : ∀ q, q < 8 → ds p0 q < ds p0 F → t.k q ≠ 0 := fun q hq hd => by
    have := hmin (ds p0 q) (by omega)
    have e : (p0 + ds p0 q) % 8 = q := by unfold ds; omega
    rwa [e] at this
  have hFp : F ≠ p0 := fun e => by rw [e] at hd0; exact hk hd0
  have hd1 : 0 < ds p0 F := by unfold ds; omega
  refine ⟨F, ⟨fun q hq => ?_, fun q hq => ?_, fun q hq e => ?_, ?_, hp, hF, ?_, hd1, fun a b ha hb hka e => ?_, fun y hy hb => ?_, fun y hy hky hb q hq hd => ?_, fun y hy hb q hq hd e => ?_⟩, hlow⟩
  · rw [Tb.set_k]; split
    · omega
    · exact h.keys q hq
  · rw [Tb.set_v]; split
    · omega
    · exact h.vals q hq
  · rw [Tb.set_k] at e; rw [Tb.set_v]
    split
    · rfl
    · rename_i e2; rw [if_neg e2] at e; exact h.none q hq e
  · have := len_set t hp 0 0
    have := h.room
    simp at *; omega
  · rw [Tb.set_k, if_neg hFp]; exact hd0
  · rw [Tb.set_k] at hka e
    by_cases ea : a = p0
    · rw [if_pos ea] at hka; exact absurd rfl hka
    · rw [if_neg ea] at hka e
      rw [Tb.set_k] at e
      by_cases eb : b = p0
      · rw [if_pos eb] at e; exact absurd e hka
      · rw [if_neg eb] at e; exact h.once ha hb hka e
  · have : y ≠ p0 := fun e => by subst e; have := hb.1; unfold ds at this; omega
    rw [Tb.set_k, if_neg this]
    exact hlow y hy hb.2
  · rw [Tb.set_k] at hky hd
    by_cases ey : y = p0
    · rw [if_pos ey] at hky; exact absurd rfl hky
    · rw [if_neg ey] at hky hd
      have hr := h.row y hy hky q hq hd
      have hq0 : t.k q ≠ 0 := fun e => hr (Or.inr e)
      rw [Tb.set_k]
      by_cases eq : q = p0
      · subst eq
        have hyF : y ≠ F := fun e => by rw [e] at hky; exact hky hd0
        have hm0 : ds q q = 0 := by unfold ds; omega
        have := round_F hp hF hp hy (home_lt (t.k y)) hm0 hd1 hb ey hyF hd
        exact absurd (Or.inr hd0) (h.row y hy hky F hF this)
      · rw [if_neg eq]; exact hq0
  · have ey : y ≠ p0 := fun e => by subst e; have := hb.1; unfold ds at this; omega
    rw [Tb.set_k, if_neg ey] at hd
    have hky := hlow y hy hb.2
    have hr := h.row y hy hky q hq hd
    rw [Tb.set_k] at e
    by_cases eq : q = p0
    · subst eq; unfold ds; omega
    · rw [if_neg eq] at e; exact absurd (Or.inr e) hr

theorem J.q_bt {t : Tb} {p0 F m : Nat} (h : J t p0 F m) (hm : m + 1 < ds p0 F) : ds p0 ((p0 + (m + 1)) % 8) = m + 1 ∧ Bt p0 F m ((p0 + (m + 1)) % 8) := by
  have := h.p8; have := h.F8
  have e : ds p0 ((p0 + (m + 1)) % 8) = m + 1 := by have := ds_lt p0 F; unfold ds; omega
  exact ⟨e, by unfold Bt; omega⟩

theorem anew_k (t : Tb) (q r : Nat) (i : Nat) : ((t.set q 0 0).set r (t.k q) (t.v q)).k i = if i = r then t.k q else if i = q then 0 else t.k i := rfl
theorem anew_v (t : Tb) (q r : Nat) (i : Nat) : ((t.set q 0 0).set r (t.k q) (t.v q)).v i = if i = r then t.v q else if i = q then 0 else t.v i := rfl

/-- Where what is put anew comes to stand: in a free slot, none free ahead of it. -/
theorem J.anew_at {t : Tb} {p0 F m q : Nat} (h : J t p0 F m) (hq : q < 8) (hk : t.k q ≠ 0) : ∃ r, place (t.set q 0 0) (t.k q) = r ∧ r < 8 ∧ (t.k r = 0 ∨ r = q) ∧ ds (home (t.k q)) r ≤ ds (home (t.k q)) q ∧
    ∀ a, a < 8 → ds (home (t.k q)) a < ds (home (t.k q)) r → t.k a ≠ 0 := by
  refine ⟨_, rfl, place_lt _ _, ?_, ?_, fun a ha hd => ?_⟩
  · have hh := place_hit (t.set q 0 0) (t.k q) hq (Or.inr (by rw [Tb.set_k, if_pos rfl]))
    have hl := place_lt (t.set q 0 0) (t.k q)
    generalize place (t.set q 0 0) (t.k q) = r at hh hl
    unfold Hit at hh; rw [Tb.set_k] at hh
    by_cases e : r = q
    · exact Or.inr e
    · rw [if_neg e] at hh
      rcases hh with hh | hh
      · exact absurd (h.once q r hq hl hk hh.symm).symm e
      · exact Or.inl hh
  · refine Nat.le_of_not_lt fun hlt => ?_
    exact place_ahead (t.set q 0 0) (t.k q) hq hlt (Or.inr (by rw [Tb.set_k, if_pos rfl]))
  · have := place_ahead (t.set q 0 0) (t.k q) ha hd
    unfold Hit at this; rw [Tb.set_k] at this
    by_cases e : a = q
    · rw [if_pos e] at this; exact absurd (Or.inr rfl) this
    · rw [if_neg e] at this; exact fun e => this (Or.inr e)

theorem J.in {t : Tb} {p0 F m q : Nat} (h : J t p0 F m) (hq : q < 8) (hk : t.k q ≠ 0) {j x : Int} (hj : j ≠ 0) : In (anew t q) j x ↔ In t j x := by
  obtain ⟨r, hr, hr8, hrf, -, -⟩ := h.anew_at hq hk
  unfold anew; rw [hr]
  constructor
  · rintro ⟨i, hi, e1, e2⟩
    rw [anew_k] at e1; rw [anew_v] at e2
    by_cases e : i = r
    · rw [if_pos e] at e1 e2; exact ⟨q, hq, e1, e2⟩
    · rw [if_neg e] at e1 e2
      by_cases e3 : i = q
      · rw [if_pos e3] at e1; exact absurd e1.symm hj
      · rw [if_neg e3] at e1 e2; exact ⟨i, hi, e1, e2⟩
  · rintro ⟨i, hi, e1, e2⟩
    by_cases e : i = q
    · subst e
      exact ⟨r, hr8, by rw [anew_k, if_pos rfl, e1], by rw [anew_v, if_pos rfl, e2]⟩
    · have e3 : i ≠ r := fun e3 => by
        rcases hrf with hf | hf
        · rw [e3, hf] at e1; exact hj e1.symm
        · exact e (e3.trans hf)
      exact ⟨i, hi, by rw [anew_k, if_neg e3, if_neg e, e1], by rw [anew_v, if_neg e3, if_neg e, e2]⟩

theorem J.lenIs {t : Tb} {p0 F m q : Nat} (h : J t p0 F m) (hq : q < 8) (hk : t.k q ≠ 0) : len (anew t q) = len t := by
  obtain ⟨r, hr, hr8, hrf, -, -⟩ := h.anew_at hq hk
  unfold anew; rw [hr]
  have a := len_set t hq 0 0
  have b := len_set (t.set q 0 0) hr8 (t.k q) (t.v q)
  have c : ind (t.set q 0 0) r = 0 := by
    rw [ind_set]
    by_cases e : r = q
    · rw [if_pos e]; rfl
    · rw [if_neg e]; unfold ind; rw [if_pos (hrf.resolve_right e)]
  have d : ind t q = 1 := by unfold ind; rw [if_neg hk]
  rw [if_neg hk] at b
  simp at a
  omega

theorem J.step {t : Tb} {p0 F m : Nat} (h : J t p0 F m) (hm : m + 1 < ds p0 F) : J (anew t ((p0 + (m + 1)) % 8)) p0 F (m + 1) := by
  obtain ⟨hdq, hbq⟩ := h.q_bt hm
  have hq : (p0 + (m + 1)) % 8 < 8 := Nat.mod_lt _ (by decide)
  generalize (p0 + (m + 1)) % 8 = q at *
  have hk := h.taken q hq hbq
  have hlen := h.lenIs hq hk
  obtain ⟨r, hr, hr8, hrf, hrd, hra⟩ := h.anew_at hq hk
  have hrF : r ≠ F := fun e => by
    subst e
    have hne : r ≠ q := fun e => by subst e; omega
    have : ds (home (t.k q)) r ≠ ds (home (t.k q)) q := fun e => hne (ds_inj (home_lt _) hr8 hq e)
    have := h.todo q hq hbq r hr8 (by omega) h.free
    have := h.mF
    omega
  have hqF : q ≠ F := fun e => by subst e; omega
  have hone : ∀ y, y < 8 → Bt p0 F m y → y ≠ q → Bt p0 F (m + 1) y := fun y hy hb hne => by
    have : ds p0 y ≠ m + 1 := fun e => hne (ds_inj h.p8 hy hq (e.trans hdq.symm))
    exact ⟨by have := hb.1; omega, hb.2⟩
  have hback : ∀ y, Bt p0 F (m + 1) y → Bt p0 F m y ∧ y ≠ q := fun y hb => ⟨⟨by have := hb.1; omega, hb.2⟩, fun e => by subst e; have := hb.1; omega⟩
  unfold anew at hlen ⊢
  rw [hr] at hlen ⊢
  refine ⟨fun i hi => ?_, fun i hi => ?_, fun i hi e => ?_, by rw [hlen]; exact h.room, h.p8, h.F8, ?_, hm, fun a b ha hb hka e => ?_, fun y hy hb => ?_, fun y hy hky hb a ha hd => ?_, fun y hy hb a ha hd e => ?_⟩
  · rw [anew_k]; split
    · exact h.keys q hq
    · split
      · omega
      · exact h.keys i hi
  · rw [anew_v]; split
    · exact h.vals q hq
    · split
      · omega
      · exact h.vals i hi
  · rw [anew_k] at e; rw [anew_v]
    by_cases e1 : i = r
    · rw [if_pos e1] at e; exact absurd e hk
    · rw [if_neg e1] at e ⊢
      by_cases e2 : i = q
      · rw [if_pos e2]
      · rw [if_neg e2] at e ⊢; exact h.none i hi e
  · rw [anew_k, if_neg hrF.symm, if_neg hqF.symm]; exact h.free
  · rw [anew_k] at hka e
    rw [anew_k] at e
    by_cases ea : a = r
    · by_cases eb : b = r
      · exact ea.trans eb.symm
      · rw [if_pos ea, if_neg eb] at e
        by_cases eb2 : b = q
        · rw [if_pos eb2] at e; exact absurd e hk
        · rw [if_neg eb2] at e; exact absurd (h.once q b hq hb hk e).symm eb2
    · rw [if_neg ea] at hka e
      by_cases ea2 : a = q
      · rw [if_pos ea2] at hka; exact absurd rfl hka
      · rw [if_neg ea2] at hka e
        by_cases eb : b = r
        · rw [if_pos eb] at e; exact absurd (h.once a q ha hq hka e) ea2
        · rw [if_neg eb] at e
          by_cases eb2 : b = q
          · rw [if_pos eb2] at e; exact absurd e hka
          · rw [if_neg eb2] at e; exact h.once a b ha hb hka e
  · obtain ⟨hb1, hne⟩ := hback y hb
    rw [anew_k]; split
    · exact hk
    · exact h.taken y hy hb1
  · rw [anew_k] at hky hd
    by_cases ey : y = r
    · subst ey
      rw [if_pos rfl] at hd
      have h1 := hra a ha hd
      have h2 : a ≠ y := fun e => by subst e; omega
      have h3 : a ≠ q := fun e => by subst e; omega
      rw [anew_k, if_neg h2, if_neg h3]; exact h1
    · rw [if_neg ey] at hky hd
      by_cases ey2 : y = q
      · rw [if_pos ey2] at hky; exact absurd rfl hky
      · rw [if_neg ey2] at hky hd
        have hnb : ¬ Bt p0 F m y := fun hb' => hb (hone y hy hb' ey2)
        have h1 := h.done y hy hky hnb a ha hd
        rw [anew_k]; split
        · exact hk
        · by_cases ea : a = q
          · subst ea
            have hyF : y ≠ F := fun e => by rw [e] at hky; exact hky h.free
            have := round_F h.p8 h.F8 hq hy (home_lt (t.k y)) hdq hm hb ey2 hyF hd
            exact absurd h.free (h.done y hy hky hnb F h.F8 this)
          · rw [if_neg ea]; exact h1
  · obtain ⟨hb1, hne⟩ := hback y hb
    have hky := h.taken y hy hb1
    have hyr : y ≠ r := fun e => by
      subst e
      rcases hrf with hf | hf
      · exact hky hf
      · exact hne hf
    rw [anew_k, if_neg hyr, if_neg hne] at hd
    rw [anew_k] at e
    by_cases ea : a = r
    · rw [if_pos ea] at e; exact absurd e hk
    · rw [if_neg ea] at e
      by_cases ea2 : a = q
      · rw [ea2]; omega
      · rw [if_neg ea2] at e
        have := h.todo y hy hb1 a ha hd e
        omega

/-- The next slot: the free one, where it ends, or one that is put anew. -/
theorem J.next {t : Tb} {p0 F m : Nat} (h : J t p0 F m) : (m + 1 = ds p0 F ∧ (p0 + (m + 1)) % 8 = F) ∨ (m + 1 < ds p0 F ∧ t.k ((p0 + (m + 1)) % 8) ≠ 0) := by
  by_cases e : m + 1 = ds p0 F
  · refine Or.inl ⟨e, ?_⟩
    have := h.p8; have := h.F8
    unfold ds at e; omega
  · have hm : m + 1 < ds p0 F := by have := h.mF; omega
    exact Or.inr ⟨hm, h.taken _ (Nat.mod_lt _ (by decide)) (h.q_bt hm).2⟩

theorem J.all : ∀ (n : Nat) {t : Tb} {p0 F m : Nat}, J t p0 F m → n + m = 7 →
    RT (woF n t ((p0 + m) % 8)) ∧ (∀ j x, j ≠ 0 → (In (woF n t ((p0 + m) % 8)) j x ↔ In t j x)) ∧ len (woF n t ((p0 + m) % 8)) = len t
  | 0, t, p0, F, m, h, hm => by have := h.mF; have := ds_lt p0 F; omega
  | n + 1, t, p0, F, m, h, hm => by
    have e : ((p0 + m) % 8 + 1) % 8 = (p0 + (m + 1)) % 8 := by omega
    rw [woF, e]
    rcases h.next with ⟨h1, h2⟩ | ⟨h1, h2⟩
    · rw [h2, if_pos h.free]
      exact ⟨h.end h1, fun _ _ _ => Iff.rfl, rfl⟩
    · rw [if_neg h2]
      have hq : (p0 + (m + 1)) % 8 < 8 := Nat.mod_lt _ (by decide)
      obtain ⟨r1, r2, r3⟩ := J.all n (h.step h1) (by omega)
      exact ⟨r1, fun j x hj => (r2 j x hj).trans (h.in hq h2 hj), r3.trans (h.lenIs hq h2)⟩

theorem in_free {t : Tb} (h : RT t) {p : Nat} (hp : p < 8) (hk : t.k p ≠ 0) {j x : Int} (hj : j ≠ 0) : In (t.set p 0 0) j x ↔ j ≠ t.k p ∧ In t j x := by
  constructor
  · rintro ⟨q, hq, e1, e2⟩
    rw [Tb.set_k] at e1; rw [Tb.set_v] at e2
    by_cases e : q = p
    · rw [if_pos e] at e1; exact absurd e1.symm hj
    · rw [if_neg e] at e1 e2
      refine ⟨fun ej => e ?_, q, hq, e1, e2⟩
      exact (h.once hp hq hk (by rw [e1, ej])).symm
  · rintro ⟨hne, q, hq, e1, e2⟩
    have e : q ≠ p := fun e => hne (by rw [← e1, e])
    exact ⟨q, hq, by rw [Tb.set_k, if_neg e, e1], by rw [Tb.set_v, if_neg e, e2]⟩

theorem without_all {t : Tb} (h : RT t) {p : Nat} (hp : p < 8) (hk : t.k p ≠ 0) :
    RT (without t p) ∧ (∀ j x, j ≠ 0 → (In (without t p) j x ↔ j ≠ t.k p ∧ In t j x)) ∧ len (without t p) + 1 = len t := by
  obtain ⟨F, hJ, -⟩ := J.start h hp hk
  have e : (p + 0) % 8 = p := by omega
  have := J.all 7 hJ rfl
  rw [e] at this
  obtain ⟨a, b, c⟩ := this
  refine ⟨a, fun j x hj => (b j x hj).trans (in_free h hp hk hj), ?_⟩
  have hl := len_set t hp 0 0
  have hi : ind t p = 1 := by unfold ind; rw [if_neg hk]
  show len (woF 7 (t.set p 0 0) p) + 1 = len t
  rw [c]
  simp at hl
  omega

/-! What an operation makes of a table, and its answer: 9.2. -/
abbrev byKey (o k : Int) : Prop := (o = 1 ∨ o = 2 ∨ o = 5) ∧ 1 ≤ k ∧ k ≤ 1000
def tdo (t : Tb) (o k x : Int) : Tb × Int × Int :=
  if o = 6 then (t, 1, (len t : Int))
  else if byKey o k then
    (if o = 1 then (if t.k (place t k) ≠ k ∧ 6 ≤ len t then (t, 3, 0) else (t.set (place t k) k x, 1, 0))
     else if t.k (place t k) ≠ k then (t, 4, 0)
     else if o = 2 then (without t (place t k), 1, t.v (place t k)) else (t, 1, t.v (place t k)))
  else (t, 5, 0)

theorem tdo_count (t : Tb) (k x : Int) : tdo t 6 k x = (t, 1, (len t : Int)) := rfl
theorem tdo_wrong (t : Tb) {o k : Int} (x : Int) (h6 : o ≠ 6) (h : ¬ byKey o k) : tdo t o k x = (t, 5, 0) := by rw [tdo, if_neg h6, if_neg h]
theorem tdo_full {t : Tb} {k : Int} (x : Int) (h1 : 1 ≤ k) (h2 : k ≤ 1000) (hn : t.k (place t k) ≠ k) (hl : 6 ≤ len t) : tdo t 1 k x = (t, 3, 0) := by
  rw [tdo, if_neg (by decide), if_pos ⟨Or.inl rfl, h1, h2⟩, if_pos rfl, if_pos ⟨hn, hl⟩]
theorem tdo_put {t : Tb} {k : Int} (x : Int) (h1 : 1 ≤ k) (h2 : k ≤ 1000) (h : t.k (place t k) = k ∨ len t < 6) : tdo t 1 k x = (t.set (place t k) k x, 1, 0) := by
  rw [tdo, if_neg (by decide), if_pos ⟨Or.inl rfl, h1, h2⟩, if_pos rfl, if_neg]
  rintro ⟨a, b⟩
  rcases h with h | h
  · exact a h
  · omega
theorem tdo_absent {t : Tb} {o k : Int} (x : Int) (ho : o = 2 ∨ o = 5) (h1 : 1 ≤ k) (h2 : k ≤ 1000) (hn : t.k (place t k) ≠ k) : tdo t o k x = (t, 4, 0) := by
  rw [tdo, if_neg (by omega), if_pos ⟨Or.inr ho, h1, h2⟩, if_neg (by omega), if_pos hn]
theorem tdo_take {t : Tb} {k : Int} (x : Int) (h1 : 1 ≤ k) (h2 : k ≤ 1000) (h : t.k (place t k) = k) : tdo t 2 k x = (without t (place t k), 1, t.v (place t k)) := by
  rw [tdo, if_neg (by decide), if_pos ⟨Or.inr (Or.inl rfl), h1, h2⟩, if_neg (by decide), if_neg (fun e => e h), if_pos rfl]
theorem tdo_peek {t : Tb} {k : Int} (x : Int) (h1 : 1 ≤ k) (h2 : k ≤ 1000) : tdo t 5 k x = (t, (look t k).1, (look t k).2) := by
  rw [tdo, if_neg (by decide), if_pos ⟨Or.inr (Or.inr rfl), h1, h2⟩, if_neg (by decide), look]
  by_cases h : t.k (place t k) = k
  · rw [if_neg (fun e => e h), if_neg (by decide), if_pos h]
  · rw [if_pos h, if_neg h]

/-- A table stays one. -/
theorem tdo_stays {t : Tb} (h : RT t) {o k x : Int} (h0 : 0 ≤ x) (h1 : x ≤ 4294967295) : RT (tdo t o k x).1 ∧ len (tdo t o k x).1 ≤ len t + 1 ∧ len t ≤ len (tdo t o k x).1 + 1 ∧ ((tdo t o k x).2.1 = 1 ∨ (tdo t o k x).1 = t) := by
  by_cases h6 : o = 6
  · subst h6; rw [tdo_count]; exact ⟨h, Nat.le_succ _, Nat.le_succ _, Or.inl rfl⟩
  by_cases hb : byKey o k
  · obtain ⟨ho, hk1, hk2⟩ := hb
    have hk0 : k ≠ 0 := by omega
    have hp := place_lt t k
    by_cases hh : t.k (place t k) = k
    · rcases ho with rfl | rfl | rfl
      · rw [tdo_put x hk1 hk2 (Or.inl hh)]
        have hn : t.k (place t k) ≠ 0 := by rw [hh]; exact hk0
        have a := put_has h hp hn h0 h1
        have l := len_set t hp k x
        have hi : ind t (place t k) = 1 := by unfold ind; rw [if_neg hn]
        rw [if_neg hk0] at l
        rw [hh] at a
        exact ⟨a, by show len (t.set _ k x) ≤ _; omega, by show _ ≤ len (t.set _ k x) + 1; omega, Or.inl rfl⟩
      · rw [tdo_take x hk1 hk2 hh]
        have hn : t.k (place t k) ≠ 0 := by rw [hh]; exact hk0
        obtain ⟨a, -, c⟩ := without_all h hp hn
        exact ⟨a, by show len (without _ _) ≤ _; omega, by show _ ≤ len (without _ _) + 1; omega, Or.inl rfl⟩
      · rw [tdo_peek x hk1 hk2]; exact ⟨h, Nat.le_succ _, Nat.le_succ _, Or.inr rfl⟩
    · rcases ho with rfl | rfl | rfl
      · by_cases hl : 6 ≤ len t
        · rw [tdo_full x hk1 hk2 hh hl]; exact ⟨h, Nat.le_succ _, Nat.le_succ _, Or.inr rfl⟩
        · rw [tdo_put x hk1 hk2 (Or.inr (by omega))]
          have a := put_new h hk1 hk2 h0 h1 hh (by omega)
          have l := len_set t hp k x
          have hi := ind_le t (place t k)
          rw [if_neg hk0] at l
          exact ⟨a, by show len (t.set _ k x) ≤ _; omega, by show _ ≤ len (t.set _ k x) + 1; omega, Or.inl rfl⟩
      · rw [tdo_absent x (Or.inl rfl) hk1 hk2 hh]; exact ⟨h, Nat.le_succ _, Nat.le_succ _, Or.inr rfl⟩
      · rw [tdo_absent x (Or.inr rfl) hk1 hk2 hh]; exact ⟨h, Nat.le_succ _, Nat.le_succ _, Or.inr rfl⟩
  · rw [tdo_wrong t x h6 hb]; exact ⟨h, Nat.le_succ _, Nat.le_succ _, Or.inr rfl⟩

theorem RT.zero : RT Tb.zero where
  keys _ _ := by show (0 : Int) ≤ 0 ∧ (0 : Int) ≤ 1000; omega
  vals _ _ := by show (0 : Int) ≤ 0 ∧ (0 : Int) ≤ 4294967295; omega
  none _ _ _ := rfl
  row _ _ h := absurd rfl h
  room := by decide
end Go.Proofs.YteogbpaaacmllaaGreatDoor.Tab
namespace Go.Proofs.YteogbpaaacmllaaGreatDoor.Tab
set_option maxRecDepth 20000
open Go.RowKit

/-- The table's cells, in order: each slot's key, and its value. -/
def Tb.at (t : Tb) (j : Nat) : Value := .int .i64 (if j % 2 = 0 then t.k (j / 2) else t.v (j / 2))
def Tb.all (t : Tb) : List Value := (List.range 16).map t.at
theorem Tb.at_key (t : Tb) (i : Nat) : t.at (i * 2) = .int .i64 (t.k i) := by
  simp [Tb.at]
theorem Tb.at_val (t : Tb) (i : Nat) : t.at (i * 2 + 1) = .int .i64 (t.v i) := by
  have h1 : (i * 2 + 1) % 2 = 1 := by omega
  have h2 : (i * 2 + 1) / 2 = i := by omega
  simp [Tb.at, h1, h2]
theorem Tb.all_length (t : Tb) : t.all.length = 16 := by simp [Tb.all]
theorem Tb.all_at (t : Tb) (j : Nat) (hj : j < 16) : t.all[j]? = some (t.at j) := by simp [Tb.all, hj]
theorem Tb.all_one (t : Tb) : ∀ v ∈ t.all, v.oneCell' = true := by
  intro v hv; simp only [Tb.all, List.mem_map] at hv; obtain ⟨j, _, rfl⟩ := hv; rfl

/-- The table lies in block b, and may be written. -/
structure TAt (w : World) (b : Nat) (t : Tb) : Prop where
  cell : ∀ j, j < 16 → w.cell? ⟨b, j, none⟩ = some (t.at j)
  froz : ∀ j, w.frozen? ⟨b, j, none⟩ = false

theorem TAt.lt {w : World} {b : Nat} {t : Tb} (h : TAt w b t) : b < w.heap.size := World.block_lt_of_cell? w ⟨b, 0, none⟩ (h.cell 0 (by decide))
theorem TAt.key {w : World} {b : Nat} {t : Tb} (h : TAt w b t) {i : Nat} (hi : i < 8) : w.cell? ⟨b, i * 2, none⟩ = some (.int .i64 (t.k i)) := by
  rw [h.cell (i * 2) (by omega), t.at_key]
theorem TAt.val {w : World} {b : Nat} {t : Tb} (h : TAt w b t) {i : Nat} (hi : i < 8) : w.cell? ⟨b, i * 2 + 1, none⟩ = some (.int .i64 (t.v i)) := by
  rw [h.cell (i * 2 + 1) (by omega), t.at_val]
theorem TAt.keep {w w' : World} {b : Nat} {t : Tb} (h : TAt w b t) (hb : w'.heap[b]? = w.heap[b]?) : TAt w' b t :=
  ⟨fun j hj => by rw [World.cell?_of_block (w := w) hb]; exact h.cell j hj, fun j => by rw [World.frozen?_of_block (w := w) hb]; exact h.froz j⟩
theorem TAt.later {w w' : World} {b : Nat} {t : Tb} (h : TAt w b t) (hb : Below w.heap.size w w') : TAt w' b t := h.keep (hb.block b h.lt)
theorem new_below (w : World) (o : Obj) : Below w.heap.size w (w.alloc o) := (Below.refl _ w).alloc (Nat.le_refl _) o
theorem TAt.new {w : World} {b : Nat} {t : Tb} (h : TAt w b t) (o : Obj) : TAt (w.alloc o) b t := h.later (new_below w o)
theorem TAt.drewN {w : World} {b : Nat} {t : Tb} (h : TAt w b t) (q : Nat) : TAt (w.drewN q) b t := ⟨h.cell, h.froz⟩
theorem TAt.drew {w : World} {b : Nat} {t : Tb} (h : TAt w b t) : TAt w.drew b t := ⟨h.cell, h.froz⟩
theorem TAt.aside {w : World} {b : Nat} {t : Tb} (h : TAt w b t) {p : Addr} (hp : b ≠ p.block) (v : Value) : TAt (w.setCell p v) b t :=
  h.keep (Below.heap_setCell _ _ _ _ hp)

theorem TAt.range {w : World} {b : Nat} {t : Tb} (h : TAt w b t) : w.rangeAt b 0 t.all := fun j v hv => by
  have hj : j < 16 := by simpa [Tb.all] using (List.getElem?_eq_some_iff.1 hv).1
  rw [t.all_at j hj] at hv; cases hv
  rw [Nat.zero_add]; exact h.cell j hj
theorem TAt.there {w : World} {b : Nat} {t : Tb} (h : TAt w b t) : w.there b 0 16 := fun j hj =>
  ⟨by rw [h.cell _ (by omega)]; rfl, h.froz _⟩
theorem TAt.thereOf {w : World} {b : Nat} {t : Tb} (h : TAt w b t) (u : Tb) : w.there b 0 u.all.toArray.size := by
  rw [List.size_toArray, u.all_length]; exact h.there
theorem Tb.all_all (t : Tb) : t.all.toArray.all (·.oneCell') = true := all_oneCell_toArray t.all_one
theorem TAt.born (w : World) (t : Tb) (ty : TypeId) : TAt (w.alloc (.cells t.all.toArray ty)) w.heap.size t where
  cell j hj := by rw [World.cell?_alloc_new]; simpa using t.all_at j hj
  froz j := by rw [frozen?_alloc_cells]; exact frozen_past w (Nat.le_refl _)
theorem TAt.bornAt (w : World) (t : Tb) (ty : TypeId) {n : Nat} (hn : n = w.heap.size) : TAt (w.alloc (.cells t.all.toArray ty)) n t := hn ▸ TAt.born w t ty

/-- A slot is written. -/
theorem TAt.setSlot {w : World} {b : Nat} {t : Tb} (h : TAt w b t) {p : Nat} (hp : p < 8) (x y : Int) : TAt ((w.setCell ⟨b, p * 2, none⟩ (.int .i64 x)).setCell ⟨b, p * 2 + 1, none⟩ (.int .i64 y)) b (t.set p x y) where
  cell j hj := by
    have d0 := World.cell?_setCell_same w ⟨b, p * 2, none⟩ (.int .i64 x) (h.key hp)
    have d1 : (w.setCell ⟨b, p * 2, none⟩ (.int .i64 x)).cell? ⟨b, p * 2 + 1, none⟩ = some (.int .i64 (t.v p)) := by
      rw [World.cell?_setCell_other]
      · exact h.val hp
      · simp
    by_cases e0 : j = p * 2
    · subst e0
      rw [World.cell?_setCell_other _ _ _ _ (by simp), d0, Tb.at_key, Tb.set_k, if_pos rfl]
    · by_cases e1 : j = p * 2 + 1
      · subst e1
        rw [World.cell?_setCell_same _ _ _ d1, Tb.at_val, Tb.set_v, if_pos rfl]
      · have n0 : ¬ p * 2 = j := fun e => e0 e.symm
        have n1 : ¬ p * 2 + 1 = j := fun e => e1 e.symm
        rw [World.cell?_setCell_other _ _ _ _ (by intro e; injection e with _ e; exact n1 e), World.cell?_setCell_other _ _ _ _ (by intro e; injection e with _ e; exact n0 e), h.cell j hj]
        have n2 : j / 2 ≠ p := by omega
        simp [Tb.at, Tb.set, n2]
  froz j := by rw [World.frozen?_setCell, World.frozen?_setCell]; exact h.froz j
/-- All of it is written. -/
theorem TAt.setAll {w : World} {b : Nat} {t : Tb} (h : TAt w b t) (u : Tb) : TAt (w.setCells b 0 u.all) b u where
  cell j hj := by
    have hj' : j < u.all.length := by rw [u.all_length]; exact hj
    have := World.cell?_setCells_in b u.all 0 w (fun k hk => by rw [Nat.zero_add, h.cell k (by rw [u.all_length] at hk; exact hk)]; rfl) j hj'
    rw [Nat.zero_add] at this
    rw [this]
    have e := u.all_at j hj
    rw [List.getElem?_eq_getElem hj'] at e
    exact e
  froz j := by rw [World.frozen?_setCells]; exact h.froz j
theorem TAt.asideAll {w : World} {b c : Nat} {t : Tb} (h : TAt w b t) (hc : b ≠ c) (u : Tb) : TAt (w.setCells c 0 u.all) b t where
  cell j hj := by
    rw [World.cell?_setCells_out c u.all 0 w ⟨b, j, none⟩ (fun e _ => absurd e hc)]; exact h.cell j hj
  froz j := by rw [World.frozen?_setCells]; exact h.froz j

/-! What walks carry from world to world: a table (TAt), a small struct in a block of its own (Bo), all that there was (Gd). -/
structure Bo (w : World) (b : Nat) (cs : List Value) : Prop where
  cell : ∀ j v, cs[j]? = some v → w.cell? ⟨b, j, none⟩ = some v
  froz : ∀ j, w.frozen? ⟨b, j, none⟩ = false
  lt : b < w.heap.size
theorem Bo.keep {w w' : World} {b : Nat} {cs : List Value} (h : Bo w b cs) (hb : w'.heap[b]? = w.heap[b]?) (hs : b < w'.heap.size) : Bo w' b cs :=
  ⟨fun j v hv => by rw [World.cell?_of_block (w := w) hb]; exact h.cell j v hv, fun j => by rw [World.frozen?_of_block (w := w) hb]; exact h.froz j, hs⟩
theorem Bo.later {w w' : World} {b : Nat} {cs : List Value} (h : Bo w b cs) (hb : Below w.heap.size w w') : Bo w' b cs := h.keep (hb.block b h.lt) (Nat.lt_of_lt_of_le h.lt hb.size)
theorem Bo.new {w : World} {b : Nat} {cs : List Value} (h : Bo w b cs) (o : Obj) : Bo (w.alloc o) b cs := h.later (new_below w o)
theorem Bo.drew {w : World} {b : Nat} {cs : List Value} (h : Bo w b cs) : Bo w.drew b cs := ⟨h.cell, h.froz, h.lt⟩
theorem Bo.aside {w : World} {b : Nat} {cs : List Value} (h : Bo w b cs) {p : Addr} (hp : b ≠ p.block) (v : Value) : Bo (w.setCell p v) b cs :=
  h.keep (Below.heap_setCell _ _ _ _ hp) (by simpa using h.lt)
theorem heap_setCells {b c : Nat} (hc : b ≠ c) : ∀ (vs : List Value) (o : Nat) (w : World), (w.setCells c o vs).heap[b]? = w.heap[b]?
  | [], _, _ => rfl
  | v :: r, o, w => by
    rw [World.setCells, heap_setCells hc r (o + 1)]
    exact Below.heap_setCell _ _ _ _ hc
theorem size_setCells (c : Nat) : ∀ (vs : List Value) (o : Nat) (w : World), (w.setCells c o vs).heap.size = w.heap.size
  | [], _, _ => rfl
  | v :: r, o, w => by rw [World.setCells, size_setCells c r (o + 1)]; simp [World.setCell]
theorem os_setCells (c : Nat) : ∀ (vs : List Value) (o : Nat) (w : World), (w.setCells c o vs).os = w.os
  | [], _, _ => rfl
  | v :: r, o, w => by rw [World.setCells, os_setCells c r (o + 1)]; rfl
theorem tape_setCells (c : Nat) : ∀ (vs : List Value) (o : Nat) (w : World), (w.setCells c o vs).tape = w.tape
  | [], _, _ => rfl
  | v :: r, o, w => by rw [World.setCells, tape_setCells c r (o + 1)]; rfl
theorem output_setCells (c : Nat) : ∀ (vs : List Value) (o : Nat) (w : World), (w.setCells c o vs).output = w.output
  | [], _, _ => rfl
  | v :: r, o, w => by rw [World.setCells, output_setCells c r (o + 1)]; rfl
theorem Bo.asideAll {w : World} {b c : Nat} {cs : List Value} (h : Bo w b cs) (hc : b ≠ c) (u : Tb) : Bo (w.setCells c 0 u.all) b cs :=
  h.keep (heap_setCells hc _ _ _) (by rw [size_setCells]; exact h.lt)
theorem Bo.at {w : World} {b : Nat} {cs : List Value} (h : Bo w b cs) (j : Nat) {v : Value} (hv : cs[j]? = some v) : w.cell? ⟨b, j, none⟩ = some v := h.cell j v hv
theorem Bo.born (w : World) (cs : List Value) (ty : TypeId) {n : Nat} (hn : n = w.heap.size) : Bo (w.alloc (.cells cs.toArray ty)) n cs := by
  subst hn
  exact ⟨fun j v hv => by rw [World.cell?_alloc_new]; simpa using hv, fun j => by rw [frozen?_alloc_cells]; exact frozen_past w (Nat.le_refl _), by simp⟩
theorem Bo.put2 {w : World} {b : Nat} {x y : Value} (h : Bo w b [x, y]) (x' y' : Value) : Bo ((w.setCell ⟨b, 0, none⟩ x').setCell ⟨b, 1, none⟩ y') b [x', y'] where
  cell j v hv := by
    have d0 := World.cell?_setCell_same w ⟨b, 0, none⟩ x' (h.at 0 rfl)
    have d1 : (w.setCell ⟨b, 0, none⟩ x').cell? ⟨b, 1, none⟩ = some y := by rw [World.cell?_setCell_other]; exact h.at 1 rfl; simp
    match j, hv with
    | 0, hv => cases hv; rw [World.cell?_setCell_other _ _ _ _ (by simp)]; exact d0
    | 1, hv => cases hv; exact World.cell?_setCell_same _ _ _ d1
  froz j := by rw [World.frozen?_setCell, World.frozen?_setCell]; exact h.froz j
  lt := by simpa using h.lt

theorem Bo.asideL {w : World} {b c : Nat} {cs : List Value} (h : Bo w b cs) (hc : b ≠ c) (o : Nat) (vs : List Value) : Bo (w.setCells c o vs) b cs :=
  h.keep (heap_setCells hc _ _ _) (by rw [size_setCells]; exact h.lt)
theorem TAt.asideL {w : World} {b c : Nat} {t : Tb} (h : TAt w b t) (hc : b ≠ c) (o : Nat) (vs : List Value) : TAt (w.setCells c o vs) b t := h.keep (heap_setCells hc _ _ _)
theorem TAt.slot {w : World} {b : Nat} {t : Tb} (h : TAt w b t) {p : Nat} (hp : p < 8) (x y : Int) : TAt (w.setCells b (p * 2) [.int .i64 x, .int .i64 y]) b (t.set p x y) := h.setSlot hp x y
theorem TAt.thereS {w : World} {b : Nat} {t : Tb} (h : TAt w b t) {p : Nat} (hp : p < 8) : w.there b (p * 2) 2 := fun j hj =>
  ⟨by rw [h.cell _ (by omega)]; rfl, h.froz _⟩

theorem Bo.set2 {w : World} {b : Nat} {x y : Value} (h : Bo w b [x, y]) (x' y' : Value) : Bo (w.setCells b 0 [x', y']) b [x', y'] := h.put2 x' y'
theorem Bo.there2 {w : World} {b : Nat} {x y : Value} (h : Bo w b [x, y]) : w.there b 0 2 := fun j hj => by
  refine ⟨?_, h.froz _⟩
  match j, hj with
  | 0, _ => rw [Nat.zero_add, h.at 0 rfl]; rfl
  | 1, _ => rw [Nat.zero_add, h.at 1 rfl]; rfl

/-- W has all that w had, whose n blocks are as they were. -/
def Gd (n : Nat) (w W : World) : Prop := w.heap.size = n ∧ Below w.heap.size w W
theorem Gd.refl (w : World) : Gd w.heap.size w w := ⟨rfl, Below.refl _ _⟩
theorem Gd.later {n : Nat} {w a b : World} (h : Gd n w a) (hb : Below a.heap.size a b) : Gd n w b := ⟨h.1, h.2.trans (hb.mono h.2.size)⟩
theorem Gd.new {n : Nat} {w a : World} (h : Gd n w a) (o : Obj) : Gd n w (a.alloc o) := h.later (new_below a o)
theorem Gd.drew {n : Nat} {w a : World} (h : Gd n w a) : Gd n w a.drew := ⟨h.1, h.2.drew⟩
theorem Gd.aside {n : Nat} {w a : World} (h : Gd n w a) {p : Addr} (hp : n ≤ p.block) (v : Value) : Gd n w (a.setCell p v) := ⟨h.1, h.2.setCell (h.1 ▸ hp) v⟩
theorem Gd.asideAll {n c : Nat} {w a : World} (h : Gd n w a) (hc : n ≤ c) (u : Tb) : Gd n w (a.setCells c 0 u.all) :=
  ⟨h.1, ⟨by rw [← h.2.os]; exact os_setCells c _ _ _, by rw [← h.2.tape]; exact tape_setCells c _ _ _, by rw [← h.2.output]; exact output_setCells c _ _ _, by rw [size_setCells]; exact h.2.size,
    fun k hk => (heap_setCells (by have := h.1; omega) _ _ _).trans (h.2.block k hk)⟩⟩
theorem Gd.asideL {n c : Nat} {w a : World} (h : Gd n w a) (hc : n ≤ c) (o : Nat) (vs : List Value) : Gd n w (a.setCells c o vs) :=
  ⟨h.1, ⟨by rw [← h.2.os]; exact os_setCells c _ _ _, by rw [← h.2.tape]; exact tape_setCells c _ _ _, by rw [← h.2.output]; exact output_setCells c _ _ _, by rw [size_setCells]; exact h.2.size,
    fun k hk => (heap_setCells (by have := h.1; omega) _ _ _).trans (h.2.block k hk)⟩⟩
theorem Gd.low {n : Nat} {w a : World} (h : Gd n w a) : Below n w a := h.1 ▸ h.2
theorem Gd.le {n : Nat} {w a : World} (h : Gd n w a) : n ≤ a.heap.size := h.1 ▸ h.2.size
end Go.Proofs.YteogbpaaacmllaaGreatDoor.Tab
namespace Go.Proofs.YteogbpaaacmllaaGreatDoor.Tab
set_option maxRecDepth 20000
open Go.RowKit

theorem Bo.range {w : World} {b : Nat} {cs : List Value} (h : Bo w b cs) : w.rangeAt b 0 cs := fun j v hv => by rw [Nat.zero_add]; exact h.cell j v hv
theorem results_row {P : Program} {fn : Func} {p : Tmp} {ty : TypeId} (h : fn.results = #[.cell p ty]) (tmps : Array Value) (w : World) (b : Nat) (cs : List Value) (d : TypeDesc) (hp : tmps.getD p undef = .pointer (some ⟨b, 0, none⟩))
    (hc : w.rangeAt b 0 cs) (hu : P.underlying ty = some d) (hd : d.isRow = true) (hi : (P.info? ty).map (·.size) = some cs.length) :
    (results fn tmps).run P w = .ok (.agg cs.toArray) w := by
  have hp' : tmps[p]?.getD undef = .pointer (some ⟨b, 0, none⟩) := by simpa using hp
  simp [results, h, hp', asAddr, run_loadVar_mid w b 0 ty cs d hc hu hd hi]
theorem results_row2 {P : Program} {fn : Func} {p q : Tmp} {ty tz : TypeId} (h : fn.results = #[.cell p ty, .cell q tz]) (tmps : Array Value) (w : World) (b c : Nat) (cs ds : List Value) (d e : TypeDesc) (hp : tmps.getD p undef = .pointer (some ⟨b, 0, none⟩)) (hq : tmps.getD q undef = .pointer (some ⟨c, 0, none⟩))
    (hc : w.rangeAt b 0 cs) (hu : P.underlying ty = some d) (hd : d.isRow = true) (hi : (P.info? ty).map (·.size) = some cs.length)
    (hc2 : w.rangeAt c 0 ds) (hu2 : P.underlying tz = some e) (hd2 : e.isRow = true) (hi2 : (P.info? tz).map (·.size) = some ds.length) :
    (results fn tmps).run P w = .ok (.tuple #[.agg cs.toArray, .agg ds.toArray]) w := by
  have hp' : tmps[p]?.getD undef = .pointer (some ⟨b, 0, none⟩) := by simpa using hp
  have hq' : tmps[q]?.getD undef = .pointer (some ⟨c, 0, none⟩) := by simpa using hq
  simp [results, h, hp', hq', asAddr, run_loadVar_mid w b 0 ty cs d hc hu hd hi, run_loadVar_mid w c 0 tz ds e hc2 hu2 hd2 hi2]
theorem Tb.zero_all : Tb.zero.all.toArray = #[.int .i64 0, .int .i64 0, .int .i64 0, .int .i64 0, .int .i64 0, .int .i64 0, .int .i64 0, .int .i64 0, .int .i64 0, .int .i64 0, .int .i64 0, .int .i64 0, .int .i64 0, .int .i64 0, .int .i64 0, .int .i64 0] := rfl
/-- A table that is born empty. -/
theorem TAt.bornZero (w : World) (ty : TypeId) {n : Nat} (hn : n = w.heap.size) : TAt (w.alloc (.cells #[.int .i64 0, .int .i64 0, .int .i64 0, .int .i64 0, .int .i64 0, .int .i64 0, .int .i64 0, .int .i64 0, .int .i64 0, .int .i64 0, .int .i64 0, .int .i64 0, .int .i64 0, .int .i64 0, .int .i64 0, .int .i64 0] ty)) n Tb.zero := by
  rw [← Tb.zero_all]; exact TAt.bornAt w Tb.zero ty hn
theorem two_one (x y : Int) : (#[.int .i64 x, .int .i64 y] : Array Value).all (·.oneCell') = true := by simp [Value.oneCell']
end Go.Proofs.YteogbpaaacmllaaGreatDoor.Tab
namespace Go.Proofs.YteogbpaaacmllaaGreatDoor
set_option maxRecDepth 20000
open Go.RowKit

/-- The list xs lies in the slice v, in a block from B on, where it may be written if B is not 0 (or it is empty). -/
def IsL (B : Nat) (w : World) (v : Value) (xs : List Int) : Prop :=
  (xs = [] ∧ ∃ (a : Option Addr) (c : Nat), v = .slice a 0 c) ∨
  ∃ (b off c : Nat), v = .slice (some ⟨b, off, none⟩) xs.length c ∧ B ≤ b ∧ 0 < xs.length ∧ xs.length ≤ c ∧ (∀ j, j < xs.length → w.cell? ⟨b, off + j, none⟩ = some (.int .i64 (xs.getD j 0))) ∧ (0 < B → ∀ j, j < xs.length → w.frozen? ⟨b, off + j, none⟩ = false)

/-- The list xs lies in the slice v, which owns it, among the blocks from B on. -/
def Own (B : Nat) (w : World) (v : Value) (xs : List Int) : Prop := w.ownsRow B 3 1 v xs.length (xs.map (Value.int .i64))

theorem IsL.keep {B C : Nat} {w w' : World} {v : Value} {xs : List Int} (h : IsL B w v xs) (hb : Below C w w') (hC : w.heap.size ≤ C) : IsL B w' v xs := by
  rcases h with h | ⟨b, off, c, h1, hB, h2, h3, h4, h5⟩
  · exact Or.inl h
  · have hl := World.block_lt_of_cell? _ _ (h4 0 h2)
    refine Or.inr ⟨b, off, c, h1, hB, h2, h3, fun j hj => ?_, fun h0 j hj => ?_⟩
    · rw [hb.cell (p := ⟨b, off + j, none⟩) (Nat.lt_of_lt_of_le hl hC)]
      exact h4 j hj
    · rw [World.frozen?_of_block (hb.block b (Nat.lt_of_lt_of_le hl hC))]
      exact h5 h0 j hj
theorem IsL.later {B : Nat} {w w' : World} {v : Value} {xs : List Int} (h : IsL B w v xs) (hb : Below w.heap.size w w') : IsL B w' v xs := h.keep hb (Nat.le_refl _)
theorem IsL.nil (B : Nat) (w : World) (a : Option Addr) (c : Nat) : IsL B w (.slice a 0 c) [] := Or.inl ⟨rfl, a, c, rfl⟩
theorem IsL.mono {B B' : Nat} {w : World} {v : Value} {xs : List Int} (h : IsL B w v xs) (hB : B' ≤ B) : IsL B' w v xs := by
  rcases h with h | ⟨b, off, c, h1, hb, h2, h3, h4, h5⟩
  · exact Or.inl h
  · exact Or.inr ⟨b, off, c, h1, Nat.le_trans hB hb, h2, h3, h4, fun h0 => h5 (by omega)⟩
theorem IsL.setCell {B : Nat} {w : World} {v : Value} {xs : List Int} (h : IsL B w v xs) {p : Addr} (hp : p.block < B) (u : Value) : IsL B (w.setCell p u) v xs := by
  rcases h with h | ⟨b, off, c, h1, hB, h2, h3, h4, h5⟩
  · exact Or.inl h
  · refine Or.inr ⟨b, off, c, h1, hB, h2, h3, fun j hj => ?_, fun h0 j hj => by simpa using h5 h0 j hj⟩
    rw [World.cell?_setCell_other, h4 j hj]
    rintro rfl
    simp at hp
    omega
theorem IsL.form {B : Nat} {w : World} {v : Value} {xs : List Int} (h : IsL B w v xs) : ∃ a c, v = .slice a xs.length c := by
  rcases h with ⟨rfl, a, c, rfl⟩ | ⟨b, off, c, rfl, _⟩
  · exact ⟨a, c, rfl⟩
  · exact ⟨_, _, rfl⟩
theorem Own.form {B : Nat} {w : World} {v : Value} {xs : List Int} (h : Own B w v xs) : ∃ a c, v = .slice a xs.length c := by
  rcases h.2 with ⟨rfl, h0⟩ | ⟨g, cap, cur, rfl, _⟩
  · exact ⟨none, 0, by rw [h0]⟩
  · exact ⟨_, _, rfl⟩

theorem Own.isL {B : Nat} {w : World} {v : Value} {xs : List Int} (h : Own B w v xs) : IsL B w v xs := by
  have h' := h
  unfold Own at h'
  rcases h.2 with ⟨rfl, h0⟩ | ⟨g, cap, cur, rfl, hb, hg, hn, hm, hs, ht⟩
  · have : xs = [] := List.eq_nil_of_length_eq_zero h0
    subst this
    exact IsL.nil _ _ _ _
  · by_cases h0 : xs.length = 0
    · have : xs = [] := List.eq_nil_of_length_eq_zero h0
      subst this
      exact IsL.nil _ _ _ _
    · refine Or.inr ⟨g, 0, cap, rfl, hb, by omega, hn, fun j hj => ?_, fun _ j _ => h'.frozenAt _⟩
      rw [Nat.zero_add, h'.cellAt j (by omega)]
      simp [List.getD, List.getElem?_eq_getElem hj]

theorem below_drewN (w : World) (q : Nat) : Below w.heap.size w (w.drewN q) := ⟨rfl, rfl, rfl, Nat.le_refl _, fun _ _ => rfl⟩

theorem getD_eq {xs : List Int} {j : Nat} {x : Int} (h : xs[j]? = some x) : xs.getD j 0 = x := by simp [List.getD, h]
end Go.Proofs.YteogbpaaacmllaaGreatDoor
namespace Go.Proofs.YteogbpaaacmllaaGreatDoor.Tab
set_option maxRecDepth 20000
open Go.RowKit

/-- Seventeen words as they lie. -/
def wl (c : Nat → Nat) : List Value := (List.range 17).map fun j => .int .u64 (c j : Nat)
theorem wl_length (c : Nat → Nat) : (wl c).length = 17 := by simp [wl]
theorem wl_at (c : Nat → Nat) {j : Nat} (h : j < 17) : (wl c)[j]? = some (.int .u64 (c j : Nat)) := by simp [wl, h]
theorem wl_one (c : Nat → Nat) : ∀ v ∈ wl c, v.oneCell' = true := by
  intro v hv; simp only [wl, List.mem_map] at hv; obtain ⟨j, _, rfl⟩ := hv; rfl
theorem wl_all (c : Nat → Nat) : (wl c).toArray.all (·.oneCell') = true := all_oneCell_toArray (wl_one c)
theorem wl_congr {c d : Nat → Nat} (h : ∀ j, j < 17 → c j = d j) : wl c = wl d := by
  unfold wl
  refine List.map_congr_left fun j hj => ?_
  rw [h j (by simpa using hj)]
theorem wl_inj {c d : Nat → Nat} (h : wl c = wl d) : ∀ j, j < 17 → c j = d j := by
  intro j hj
  have h1 := wl_at c hj
  rw [h, wl_at d hj] at h1
  simp at h1
  omega
def wz : Nat → Nat := fun _ => 0
theorem wz_all : (wl wz).toArray = #[.int .u64 0, .int .u64 0, .int .u64 0, .int .u64 0, .int .u64 0, .int .u64 0, .int .u64 0, .int .u64 0, .int .u64 0, .int .u64 0, .int .u64 0, .int .u64 0, .int .u64 0, .int .u64 0, .int .u64 0, .int .u64 0, .int .u64 0] := rfl

/-- A row of cells that is written whole, one cell of it that is written. -/
theorem Bo.setL {w : World} {b : Nat} {cs ds : List Value} (h : Bo w b cs) (hl : ds.length = cs.length) : Bo (w.setCells b 0 ds) b ds where
  cell j v hv := by
    have hj : j < ds.length := (List.getElem?_eq_some_iff.1 hv).1
    have := World.cell?_setCells_in b ds 0 w (fun k hk => by
      have hk' : k < cs.length := hl ▸ hk
      rw [Nat.zero_add, h.cell k _ (List.getElem?_eq_getElem hk')]; rfl) j hj
    rw [Nat.zero_add] at this
    rw [this]
    rw [List.getElem?_eq_getElem hj] at hv
    exact hv
  froz j := by rw [World.frozen?_setCells]; exact h.froz j
  lt := by rw [size_setCells]; exact h.lt
theorem Bo.thereL {w : World} {b : Nat} {cs : List Value} (h : Bo w b cs) {n : Nat} (hn : n = cs.length) : w.there b 0 n := fun j hj =>
  ⟨by rw [Nat.zero_add, h.cell j _ (List.getElem?_eq_getElem (hn ▸ hj))]; rfl, h.froz _⟩
theorem Bo.thereW {w : World} {b : Nat} {c : Nat → Nat} (h : Bo w b (wl c)) (d : Nat → Nat) : w.there b 0 (wl d).toArray.size := by
  rw [List.size_toArray, wl_length]; exact h.thereL (wl_length c).symm
theorem Bo.setW {w : World} {b : Nat} {c : Nat → Nat} (h : Bo w b (wl c)) (d : Nat → Nat) : Bo (w.setCells b 0 (wl d)) b (wl d) := h.setL (by rw [wl_length, wl_length])
theorem Bo.set1 {w : World} {b j : Nat} {cs : List Value} {x : Value} (h : Bo w b cs) (hj : j < cs.length) {ds : List Value} (hd : cs.set j x = ds) : Bo (w.setCell ⟨b, j, none⟩ x) b ds where
  cell k v hv := by
    subst hd
    by_cases e : k = j
    · subst e
      rw [World.cell?_setCell_same _ _ _ (h.cell k _ (List.getElem?_eq_getElem hj))]
      rw [List.getElem?_set_self hj] at hv
      exact hv
    · rw [World.cell?_setCell_other _ _ _ _ (by intro e2; injection e2 with _ e3; exact e e3.symm)]
      rw [List.getElem?_set_ne (fun h => e h.symm)] at hv
      exact h.cell k v hv
  froz k := by rw [World.frozen?_setCell]; exact h.froz k
  lt := by simpa using h.lt
def upw (c : Nat → Nat) (j x : Nat) : Nat → Nat := fun k => if k = j then x else c k
theorem wl_set (c : Nat → Nat) {j : Nat} (x : Nat) (hj : j < 17) : (wl c).set j (.int .u64 (x : Nat)) = wl (upw c j x) := by
  apply List.ext_getElem?
  intro k
  by_cases hk : k < 17
  · rw [wl_at _ hk, List.getElem?_set, wl_length]
    by_cases e : j = k
    · subst e; simp [hj, upw]
    · rw [if_neg e, wl_at _ hk]; simp [upw, show k ≠ j from fun h => e h.symm]
  · rw [List.getElem?_eq_none (by rw [List.length_set, wl_length]; omega), List.getElem?_eq_none (by rw [wl_length]; omega)]
theorem Bo.setw {w : World} {b j : Nat} {c : Nat → Nat} (h : Bo w b (wl c)) (x : Nat) (hj : j < 17) : Bo (w.setCell ⟨b, j, none⟩ (.int .u64 (x : Nat))) b (wl (upw c j x)) :=
  h.set1 (by rw [wl_length]; exact hj) (wl_set c x hj)
theorem Bo.word {w : World} {b j : Nat} {c : Nat → Nat} (h : Bo w b (wl c)) (hj : j < 17) : w.cell? ⟨b, j, none⟩ = some (.int .u64 (c j : Nat)) := h.cell j _ (wl_at c hj)
theorem Bo.drewN {w : World} {b : Nat} {cs : List Value} (h : Bo w b cs) (q : Nat) : Bo (w.drewN q) b cs := ⟨h.cell, h.froz, h.lt⟩

/-- What the words of a list are: 11.1. -/
structure WList (c : Nat → Nat) : Prop where
  len : c 0 ≤ 6
  val : ∀ i, 1 ≤ i → i ≤ c 0 → c i ≤ 4294967295
  rest : ∀ i, c 0 < i → i < 17 → c i = 0
def lst (c : Nat → Nat) : List Int := (List.range (c 0)).map fun i => ((c (i + 1) : Nat) : Int)
def lw (l : List Int) : Nat → Nat := fun j => if j = 0 then l.length else (l.getD (j - 1) 0).toNat
theorem lst_length (c : Nat → Nat) : (lst c).length = c 0 := by simp [lst]
theorem lst_at (c : Nat → Nat) {i : Nat} (h : i < c 0) : (lst c).getD i 0 = (c (i + 1) : Nat) := by simp [lst, List.getD, h]
theorem lst_val {c : Nat → Nat} (h : WList c) : ∀ x ∈ lst c, 0 ≤ x ∧ x ≤ 4294967295 := by
  intro x hx
  simp only [lst, List.mem_map, List.mem_range] at hx
  obtain ⟨i, hi, rfl⟩ := hx
  have := h.val (i + 1) (by omega) (by omega)
  omega
theorem lw_lst {c : Nat → Nat} (h : WList c) : ∀ j, j < 17 → lw (lst c) j = c j := by
  intro j hj
  unfold lw
  by_cases e : j = 0
  · subst e; simp [lst_length]
  · rw [if_neg e]
    by_cases hl : j - 1 < c 0
    · rw [lst_at c hl, show j - 1 + 1 = j by omega]; simp
    · have : (lst c).getD (j - 1) 0 = 0 := by rw [List.getD_eq_getElem?_getD, List.getElem?_eq_none (by rw [lst_length]; omega)]; rfl
      rw [this, h.rest j (by omega) hj]; rfl
theorem lw_in {l : List Int} (hl : l.length ≤ 6) (hv : ∀ x ∈ l, 0 ≤ x ∧ x ≤ 4294967295) : WList (lw l) where
  len := by simpa [lw] using hl
  val i h1 h2 := by
    have h2' : i ≤ l.length := by simpa [lw] using h2
    have e : i ≠ 0 := by omega
    unfold lw; rw [if_neg e]
    have hi : i - 1 < l.length := by omega
    have := hv (l[i - 1]) (List.getElem_mem hi)
    rw [List.getD_eq_getElem?_getD, List.getElem?_eq_getElem hi]
    simp only [Option.getD_some]
    omega
  rest i h1 h2 := by
    have h1' : l.length < i := by simpa [lw] using h1
    unfold lw; rw [if_neg (by omega), List.getD_eq_getElem?_getD, List.getElem?_eq_none (by omega)]; rfl
theorem lst_lw {l : List Int} (hv : ∀ x ∈ l, 0 ≤ x ∧ x ≤ 4294967295) : lst (lw l) = l := by
  have h0 : lw l 0 = l.length := by simp [lw]
  apply List.ext_getElem
  · rw [lst_length, h0]
  · intro i h1 h2
    have := hv (l[i]) (List.getElem_mem h2)
    simp only [lst, List.getElem_map, List.getElem_range]
    unfold lw
    rw [if_neg (by omega), Nat.add_sub_cancel, List.getD_eq_getElem?_getD, List.getElem?_eq_getElem h2]
    simp only [Option.getD_some]
    omega

/-- What the words of a table are: 11.1. -/
def tbl (c : Nat → Nat) : Tb := ⟨fun i => (c (2 * i) : Nat), fun i => (c (2 * i + 1) : Nat)⟩
def tw (t : Tb) : Nat → Nat := fun j => if j < 16 then (if j % 2 = 0 then (t.k (j / 2)).toNat else (t.v (j / 2)).toNat) else 0
def tyw (n : Int) : Nat → Nat := fun j => if j = 0 then n.toNat else 0
end Go.Proofs.YteogbpaaacmllaaGreatDoor.Tab
namespace Go.Proofs.YteogbpaaacmllaaGreatDoor.Tab
set_option maxRecDepth 20000
open Go.RowKit
set_option linter.unusedVariables false

theorem hid {p : Prop} (h : p) : Hid p := h
/-- The list xs lies in the slice v, in a block from B on, in no block of K, and may be written if B is not 0; or it is empty. -/
def Lx (W : World) (K : List Nat) (B : Nat) (v : Value) (xs : List Int) : Prop :=
  (xs = [] ∧ ∃ (a : Option Addr) (c : Nat), v = .slice a 0 c) ∨
  ∃ (b off c : Nat), v = .slice (some ⟨b, off, none⟩) xs.length c ∧ b ∉ K ∧ b < W.heap.size ∧ B ≤ b ∧ 0 < xs.length ∧ xs.length ≤ c ∧ (∀ j, j < xs.length → W.cell? ⟨b, off + j, none⟩ = some (.int .i64 (xs.getD j 0))) ∧ (0 < B → ∀ j, j < xs.length → W.frozen? ⟨b, off + j, none⟩ = false)
theorem Lx.keep {W W' : World} {K K' : List Nat} {B : Nat} {v : Value} {xs : List Int} (h : Lx W K B v xs) (hs : W.heap.size ≤ W'.heap.size) (hK : ∀ b, b ∉ K → b < W.heap.size → b ∉ K') (hb : ∀ b, b ∉ K → b < W.heap.size → W'.heap[b]? = W.heap[b]?) : Lx W' K' B v xs := by
  rcases h with h | ⟨b, off, c, h1, h2, h3, h4, h5, h6, h7, h8⟩
  · exact Or.inl h
  · exact Or.inr ⟨b, off, c, h1, hK b h2 h3, Nat.lt_of_lt_of_le h3 hs, h4, h5, h6, fun j hj => by rw [World.cell?_of_block (w := W) (hb b h2 h3)]; exact h7 j hj, fun h0 j hj => by rw [World.frozen?_of_block (w := W) (hb b h2 h3)]; exact h8 h0 j hj⟩
theorem Lx.isL {W : World} {K : List Nat} {B : Nat} {v : Value} {xs : List Int} (h : Lx W K B v xs) : IsL B W v xs := by
  rcases h with h | ⟨b, off, c, h1, h2, h3, h4, h5, h6, h7, h8⟩
  · exact Or.inl h
  · exact Or.inr ⟨b, off, c, h1, h4, h5, h6, h7, h8⟩
theorem Lx.of {W : World} {K : List Nat} {B : Nat} {v : Value} {xs : List Int} (h : IsL B W v xs) (hK : ∀ b ∈ K, b < B ∨ W.heap.size ≤ b) : Lx W K B v xs := by
  rcases h with h | ⟨b, off, c, h1, h2, h4, h5, h6, h7⟩
  · exact Or.inl h
  · have hl := World.block_lt_of_cell? _ _ (h6 0 h4)
    exact Or.inr ⟨b, off, c, h1, fun hb => by have := hK b hb; have h8 : b < W.heap.size := hl; omega, hl, h2, h4, h5, h6, h7⟩
theorem Lx.old {w W : World} {K : List Nat} {B : Nat} {v : Value} {xs : List Int} (h : IsL B w v xs) (hb : Below w.heap.size w W) (hK : ∀ b ∈ K, w.heap.size ≤ b) : Lx W K B v xs := by
  rcases h with h | ⟨b, off, c, h1, h2, h4, h5, h6, h7⟩
  · exact Or.inl h
  · have hl : b < w.heap.size := World.block_lt_of_cell? _ _ (h6 0 h4)
    exact Or.inr ⟨b, off, c, h1, fun hb => by have := hK b hb; omega, Nat.lt_of_lt_of_le hl hb.size, h2, h4, h5, fun j hj => by rw [hb.cell (p := ⟨b, off + j, none⟩) hl]; exact h6 j hj, fun h0 j hj => by rw [World.frozen?_of_block (hb.block b hl)]; exact h7 h0 j hj⟩

/-- W has come of w, which had n blocks and has them as they were; the blocks of L hold their cells, and may be written; the lists of Q lie beside them. -/
structure Ms (n : Nat) (w W : World) (L : List (Nat × List Value)) (Q : List (Nat × Value × List Int)) : Prop where
  gd : Gd n w W
  bo : ∀ p ∈ L, Bo W p.1 p.2
  ge : ∀ p ∈ L, n ≤ p.1
  nd : (L.map (·.1)).Nodup
  li : ∀ q ∈ Q, Lx W (L.map (·.1)) q.1 q.2.1 q.2.2

theorem Ms.nil (w : World) : Ms w.heap.size w w [] [] where
  gd := Gd.refl w
  bo := by intro p hp; cases hp
  ge := by intro p hp; cases hp
  nd := List.nodup_nil
  li := by intro q hq; cases hq
section
variable {n : Nat} {w W W' : World} {L : List (Nat × List Value)} {Q : List (Nat × Value × List Int)}
theorem Ms.low (h : Ms n w W L Q) : Below n w W := h.gd.low
theorem Ms.le (h : Ms n w W L Q) : n ≤ W.heap.size := h.gd.le
theorem Ms.size (h : Ms n w W L Q) : w.heap.size = n := h.gd.1
theorem Ms.below (h : Ms n w W L Q) : Below w.heap.size w W := h.gd.2
theorem Ms.lt (h : Ms n w W L Q) : ∀ b ∈ L.map (·.1), b < W.heap.size := by
  intro b hb
  obtain ⟨p, hp, rfl⟩ := List.mem_map.1 hb
  exact (h.bo p hp).lt
theorem Ms.at (h : Ms n w W L Q) (i : Nat) {b : Nat} {cs : List Value} (hi : L[i]? = some (b, cs)) : Bo W b cs := h.bo _ (List.mem_of_getElem? hi)
theorem Ms.cell (h : Ms n w W L Q) (i j : Nat) {b : Nat} {cs : List Value} {v : Value} (hi : L[i]? = some (b, cs)) (hj : cs[j]? = some v) : W.cell? ⟨b, j, none⟩ = some v := (h.at i hi).cell j v hj
theorem Ms.froz (h : Ms n w W L Q) (i j : Nat) {b : Nat} {cs : List Value} (hi : L[i]? = some (b, cs)) : W.frozen? ⟨b, j, none⟩ = false := (h.at i hi).froz j
theorem Ms.len (h : Ms n w W L Q) (i : Nat) {b : Nat} {cs : List Value} (hi : L[i]? = some (b, cs)) : b < W.heap.size := (h.at i hi).lt
theorem Ms.lx (h : Ms n w W L Q) (i : Nat) {B : Nat} {v : Value} {xs : List Int} (hi : Q[i]? = some (B, v, xs)) : Lx W (L.map (·.1)) B v xs := h.li _ (List.mem_of_getElem? hi)
theorem Ms.isL (h : Ms n w W L Q) (i : Nat) {B : Nat} {v : Value} {xs : List Int} (hi : Q[i]? = some (B, v, xs)) : IsL B W v xs := (h.lx i hi).isL

theorem Ms.same (h : Ms n w W L Q) (hs : W.heap.size ≤ W'.heap.size) (hg : Gd n w W') (hb : ∀ b, b < W.heap.size → W'.heap[b]? = W.heap[b]?) : Ms n w W' L Q where
  gd := hg
  bo p hp := (h.bo p hp).keep (hb _ (h.bo p hp).lt) (Nat.lt_of_lt_of_le (h.bo p hp).lt hs)
  ge := h.ge
  nd := h.nd
  li q hq := (h.li q hq).keep hs (fun _ h _ => h) (fun b _ hl => hb b hl)
theorem Ms.later (h : Ms n w W L Q) (hb : Below W.heap.size W W') : Ms n w W' L Q := h.same hb.size (h.gd.later hb) fun b hl => hb.block b hl
theorem Ms.new (h : Ms n w W L Q) (o : Obj) : Ms n w (W.alloc o) L Q := h.later (new_below W o)
theorem Ms.drew (h : Ms n w W L Q) : Ms n w W.drew L Q := h.same (Nat.le_refl _) h.gd.drew fun _ _ => rfl
theorem gd_drewN {n : Nat} {w a : World} (h : Gd n w a) (q : Nat) : Gd n w (a.drewN q) := ⟨h.1, ⟨h.2.os, h.2.tape, h.2.output, h.2.size, h.2.block⟩⟩
theorem Ms.drewN (h : Ms n w W L Q) (q : Nat) : Ms n w (W.drewN q) L Q := h.same (Nat.le_refl _) (gd_drewN h.gd q) fun _ _ => rfl
/-- A block more, that lies where there was none. -/
theorem Ms.laterB (h : Ms n w W L Q) (hb : Below W.heap.size W W') {b : Nat} {cs : List Value} (hn : W.heap.size ≤ b) (hB : Bo W' b cs) : Ms n w W' ((b, cs) :: L) Q where
  gd := h.gd.later hb
  bo := by
    intro p hp
    rcases List.mem_cons.1 hp with rfl | hp
    · exact hB
    · exact (h.bo p hp).later hb
  ge := by
    intro p hp
    rcases List.mem_cons.1 hp with rfl | hp
    · exact Nat.le_trans h.le hn
    · exact h.ge p hp
  nd := by
    rw [List.map_cons, List.nodup_cons]
    exact ⟨fun hm => by have := h.lt _ hm; omega, h.nd⟩
  li q hq := (h.li q hq).keep hb.size (fun c hc hl hm => by
    rw [List.map_cons, List.mem_cons] at hm
    rcases hm with e | hm
    · have e : c = b := e; omega
    · exact hc hm) (fun c _ hl => hb.block c hl)
theorem Ms.born (h : Ms n w W L Q) (cs : List Value) (T : TypeId) {b : Nat} (hb : b = W.heap.size) : Ms n w (W.alloc (.cells cs.toArray T)) ((b, cs) :: L) Q :=
  h.laterB (new_below W _) (by omega) (Bo.born W cs T hb)
theorem Ms.bornR (h : Ms n w W L Q) {row : Array Value} {cs : List Value} (hr : row = cs.toArray) (T : TypeId) {b : Nat} (hb : b = W.heap.size) : Ms n w (W.alloc (.cells row T)) ((b, cs) :: L) Q := hr ▸ h.born cs T hb
/-- A list more: one that was there, one that a call has made. -/
theorem Ms.laterL (h : Ms n w W L Q) (hb : Below W.heap.size W W') {B : Nat} {v : Value} {xs : List Int} (hv : IsL B W' v xs) (hB : W.heap.size ≤ B) : Ms n w W' L ((B, v, xs) :: Q) where
  gd := h.gd.later hb
  bo := (h.later hb).bo
  ge := h.ge
  nd := h.nd
  li := by
    intro q hq
    rcases List.mem_cons.1 hq with rfl | hq
    · exact Lx.of hv fun b hb => Or.inl (Nat.lt_of_lt_of_le (h.lt b hb) hB)
    · exact (h.later hb).li q hq
theorem Ms.oldL (h : Ms n w W L Q) {B : Nat} {v : Value} {xs : List Int} (hv : IsL B w v xs) : Ms n w W L ((B, v, xs) :: Q) where
  gd := h.gd
  bo := h.bo
  ge := h.ge
  nd := h.nd
  li := by
    intro q hq
    rcases List.mem_cons.1 hq with rfl | hq
    · refine Lx.old hv h.below fun b hb => ?_
      obtain ⟨p, hp, rfl⟩ := List.mem_map.1 hb
      rw [h.size]; exact h.ge p hp
    · exact h.li q hq
theorem Ms.less (h : Ms n w W L Q) (i : Nat) : Ms n w W L (Q.eraseIdx i) := ⟨h.gd, h.bo, h.ge, h.nd, fun q hq => h.li q (List.mem_of_mem_eraseIdx hq)⟩
theorem Ms.laterM {B : Nat} {v v' : Value} {xs ys : List Int} (h : Ms n w W L ((B, v, xs) :: Q)) (hb : Below W.heap.size W W') (hv : (v' = v ∧ ys = xs) ∨ IsL W.heap.size W' v' ys) : ∃ C, Hid ((v' = v ∧ ys = xs) ∨ W.heap.size ≤ C) ∧ Hid (Ms n w W' L ((C, v', ys) :: Q)) := by
  rcases hv with ⟨rfl, rfl⟩ | hv
  · exact ⟨B, Or.inl ⟨rfl, rfl⟩, h.later hb⟩
  · exact ⟨W.heap.size, Or.inr (Nat.le_refl _), (h.less 0).laterL hb hv (Nat.le_refl _)⟩
/-- A block's cells, others. -/
theorem nodup_inj {l : List Nat} (h : l.Nodup) {i j x : Nat} (hi : l[i]? = some x) (hj : l[j]? = some x) : i = j := by
  obtain ⟨hi1, hi2⟩ := List.getElem?_eq_some_iff.1 hi
  obtain ⟨hj1, hj2⟩ := List.getElem?_eq_some_iff.1 hj
  have hp := List.pairwise_iff_getElem.1 h
  by_cases h1 : i < j
  · exact absurd (hi2.trans hj2.symm) (hp i j hi1 hj1 h1)
  · by_cases h2 : j < i
    · exact absurd (hj2.trans hi2.symm) (hp j i hj1 hi1 h2)
    · omega
theorem keys_set (L : List (Nat × List Value)) (i : Nat) (b : Nat) (cs ds : List Value) (hi : L[i]? = some (b, cs)) : (L.set i (b, ds)).map (·.1) = L.map (·.1) := by
  rw [List.map_set]
  apply List.ext_getElem?
  intro j
  rw [List.getElem?_set]
  by_cases e : i = j
  · subst e
    have hl := (List.getElem?_eq_some_iff.1 hi).1
    rw [if_pos rfl, List.getElem?_map, hi]
    simp [hl]
  · rw [if_neg e]
theorem Ms.upd (h : Ms n w W L Q) (i : Nat) {b : Nat} {cs : List Value} (hi : L[i]? = some (b, cs)) {ds : List Value} (hB : Bo W' b ds) (hs : W'.heap.size = W.heap.size) (hg : Gd n w W') (hk : ∀ k, k ≠ b → W'.heap[k]? = W.heap[k]?) : Ms n w W' (L.set i (b, ds)) Q where
  gd := hg
  bo := by
    intro p hp
    obtain ⟨j, hj⟩ := List.getElem?_of_mem hp
    rw [List.getElem?_set] at hj
    by_cases e : i = j
    · subst e
      have hl := (List.getElem?_eq_some_iff.1 hi).1
      rw [if_pos rfl, if_pos hl] at hj
      cases hj
      exact hB
    · rw [if_neg e] at hj
      have hne : p.1 ≠ b := by
        intro e2
        have h1 : (L.map (·.1))[j]? = some b := by rw [List.getElem?_map, hj, Option.map_some, e2]
        have h2 : (L.map (·.1))[i]? = some b := by rw [List.getElem?_map, hi]; rfl
        exact e (nodup_inj h.nd h2 h1)
      have h0 := h.bo p (List.mem_of_getElem? hj)
      exact h0.keep (hk _ hne) (by rw [hs]; exact h0.lt)
  ge := by
    intro p hp
    rcases List.mem_or_eq_of_mem_set hp with hp | rfl
    · exact h.ge p hp
    · exact (show n ≤ b from h.ge _ (List.mem_of_getElem? hi))
  nd := by rw [keys_set L i b cs ds hi]; exact h.nd
  li q hq := by
    rw [keys_set L i b cs ds hi]
    refine (h.li q hq).keep (Nat.le_of_eq hs.symm) (fun _ h _ => h) fun k hk1 _ => hk k ?_
    intro e
    subst e
    exact hk1 (List.mem_map.2 ⟨_, List.mem_of_getElem? hi, rfl⟩)
theorem Ms.key (h : Ms n w W L Q) (i : Nat) {b : Nat} {cs : List Value} (hi : L[i]? = some (b, cs)) : n ≤ b := h.ge _ (List.mem_of_getElem? hi)
/-- A block more, that lies there. -/
theorem Ms.also (h : Ms n w W L []) {b : Nat} {cs : List Value} (hB : Bo W b cs) (hb : n ≤ b ∧ b ∉ L.map (·.1)) : Ms n w W ((b, cs) :: L) [] where
  gd := h.gd
  bo := by
    intro p hp
    rcases List.mem_cons.1 hp with rfl | hp
    · exact hB
    · exact h.bo p hp
  ge := by
    intro p hp
    rcases List.mem_cons.1 hp with rfl | hp
    · exact hb.1
    · exact h.ge p hp
  nd := by rw [List.map_cons, List.nodup_cons]; exact ⟨hb.2, h.nd⟩
  li := by intro q hq; cases hq
/-- Behind what leaves alone all blocks below B. -/
theorem Ms.laterA (h : Ms n w W L []) {B : Nat} (hb : Below B W W') (hB : n ≤ B ∧ ∀ b ∈ L.map (·.1), b < B) : Ms n w W' L [] where
  gd := ⟨h.gd.1, h.gd.2.trans (hb.mono (h.gd.1 ▸ hB.1))⟩
  bo p hp := (h.bo p hp).keep (hb.block _ (hB.2 _ (List.mem_map.2 ⟨p, hp, rfl⟩))) (Nat.lt_of_lt_of_le (h.bo p hp).lt hb.size)
  ge := h.ge
  nd := h.nd
  li := by intro q hq; cases hq
theorem Ms.step {o : Obj} (h : Ms n w (W.alloc o) L Q) : Below W.heap.size W (W.alloc o) := new_below W o
/-- Some of the blocks, in whatever order. -/
theorem Ms.pick (h : Ms n w W L Q) (is : List Nat) (hn : is.Nodup := by decide) : Ms n w W (is.filterMap fun i => L[i]?) Q := by
  have hm : ∀ p, p ∈ (is.filterMap fun i => L[i]?) → p ∈ L := by
    intro p hp
    obtain ⟨i, _, hi⟩ := List.mem_filterMap.1 hp
    exact List.mem_of_getElem? hi
  refine ⟨h.gd, fun p hp => h.bo p (hm p hp), fun p hp => h.ge p (hm p hp), ?_, fun q hq => (h.li q hq).keep (Nat.le_refl _) (fun b hb _ hc => hb ?_) fun _ _ _ => rfl⟩
  · clear hm
    induction is with
    | nil => exact List.nodup_nil
    | cons i r ih =>
      rw [List.nodup_cons] at hn
      have h1 := ih hn.2
      rcases hi : L[i]? with _ | p
      · rw [List.filterMap_cons_none hi]; exact h1
      · rw [List.filterMap_cons_some hi, List.map_cons, List.nodup_cons]
        refine ⟨fun hmem => ?_, h1⟩
        obtain ⟨q, hq, he⟩ := List.mem_map.1 hmem
        obtain ⟨j, hj, hjq⟩ := List.mem_filterMap.1 hq
        have e1 : (L.map (·.1))[i]? = some p.1 := by rw [List.getElem?_map, hi]; rfl
        have e2 : (L.map (·.1))[j]? = some p.1 := by rw [List.getElem?_map, hjq, Option.map_some, he]
        have := nodup_inj h.nd e1 e2
        subst this
        exact hn.1 hj
  · obtain ⟨q, hq, he⟩ := List.mem_map.1 hc
    exact List.mem_map.2 ⟨q, hm q hq, he⟩
/-- Some of the lists. -/
theorem Ms.pickL (h : Ms n w W L Q) (is : List Nat) : Ms n w W L (is.filterMap fun i => Q[i]?) :=
  ⟨h.gd, h.bo, h.ge, h.nd, fun q hq => by obtain ⟨i, _, hi⟩ := List.mem_filterMap.1 hq; exact h.li q (List.mem_of_getElem? hi)⟩
/-- Written whole. -/
theorem Ms.put (h : Ms n w W L Q) (i : Nat) {b : Nat} {cs : List Value} (hi : L[i]? = some (b, cs)) (ds : List Value) (hl : ds.length = cs.length) : Ms n w (W.setCells b 0 ds) (L.set i (b, ds)) Q :=
  h.upd i hi ((h.at i hi).setL hl) (size_setCells _ _ _ _) (h.gd.asideL (h.key i hi) _ _) fun _ hk => heap_setCells hk _ _ _
/-- One cell written. -/
theorem Ms.put1 (h : Ms n w W L Q) (i j : Nat) {b : Nat} {cs : List Value} (hi : L[i]? = some (b, cs)) (v : Value) (ds : List Value) (hj : j < cs.length) (hd : cs.set j v = ds) : Ms n w (W.setCell ⟨b, j, none⟩ v) (L.set i (b, ds)) Q :=
  h.upd i hi ((h.at i hi).set1 hj hd) (by simp [World.setCell]) (h.gd.aside (h.key i hi) _) fun _ hk => Below.heap_setCell _ _ _ _ hk
/-- Some cells written, from o on. -/
theorem Ms.putAt (h : Ms n w W L Q) (i o : Nat) {b : Nat} {cs : List Value} (hi : L[i]? = some (b, cs)) (vs ds : List Value) (hB : Bo (W.setCells b o vs) b ds) : Ms n w (W.setCells b o vs) (L.set i (b, ds)) Q :=
  h.upd i hi hB (size_setCells _ _ _ _) (h.gd.asideL (h.key i hi) _ _) fun _ hk => heap_setCells hk _ _ _
end
end Go.Proofs.YteogbpaaacmllaaGreatDoor.Tab
namespace Go.Proofs.YteogbpaaacmllaaGreatDoor.Tab
set_option maxRecDepth 20000
open Go.RowKit
set_option linter.unusedVariables false

theorem p1 {α : Type} (l : List α) (i : Nat) (a : α) : l.toArray.setIfInBounds i a = (l.set i a).toArray := List.setIfInBounds_toArray l i a
theorem p2 {α : Type} (x : α) (l : List α) (a : α) : (x :: l).set 0 a = a :: l := rfl
theorem p3 {α : Type} (x : α) (l : List α) (i : Nat) (a : α) : (x :: l).set (i + 1) a = x :: l.set i a := rfl

/-- The cells cs are a value of type T, which lies in a row. -/
structure Rw (P : Program) (T : TypeId) (cs : List Value) : Prop where
  lay : ∃ d, P.underlying T = some d ∧ d.isRow = true
  size : (P.info? T).map (·.size) = some cs.length
  one : ∀ v ∈ cs, v.oneCell' = true
theorem Rw.all {P : Program} {T : TypeId} {cs : List Value} (r : Rw P T cs) : cs.toArray.all (·.oneCell') = true := all_oneCell_toArray r.one
theorem Rw.size' {P : Program} {T : TypeId} {cs : List Value} (r : Rw P T cs) : (P.info? T).map (·.size) = some cs.toArray.size := by rw [List.size_toArray]; exact r.size
theorem Rw.len {P : Program} {T : TypeId} {cs ds : List Value} (r : Rw P T cs) (s : Rw P T ds) : ds.length = cs.length := by
  have := r.size.symm.trans s.size
  injection this with h
  exact h.symm

section
variable {P : Program} {md : Region.Mode} {ops : Array Oper} {Q : Exit → Act → World → Prop} {S : World → Prop} {fuel : Nat} {listed : Array Bool} {a : Act} {w : World}
variable {d : Option Tmp} {op : Op} {ty : TypeId} {pos : String} {af : Array Edge} {g : Option (Nat × Bool)}

/-- Taken first: what yields in every world that meets S. -/
theorem tk (i : Nat) {v : Value} (hi : ops[i]? = some ⟨d, op, ty, pos, af, g⟩) (hS : S w) (h : wpAnyH P md ops Q S fuel (listed.setIfInBounds i true) (a.put d v) w)
    (hy : ∀ w, S w → (execOp a.eval ⟨d, op, ty, pos, af, g⟩).run P w = .ok (.value v) w := by intro w hSw; clear hSw; go_simp; try with_reducible rfl)
    (hw : Region.wanted ⟨d, op, ty, pos, af, g⟩ (yielded ops a.tmps) = true := by rfl)
    (hs : Region.noSelect ops = true := by kernel_rfl) (hf : Region.free md ops listed i = true := by kernel_rfl) (hr : (Region.ready md ops listed).contains i = true := by kernel_rfl)
    (hQ : ∀ c a w, Q (.panic c) (a.put d v) w → Q (.panic c) a w := by exact fun _ _ _ h => h) : wpAnyH P md ops Q S (fuel + 1) listed a w :=
  wpAnyH_take hi hs hf hr hQ (Or.inl ⟨hw, hy⟩) hS h
/-- Taken first: what is not wanted. -/
theorem tkN (i : Nat) (hi : ops[i]? = some ⟨d, op, ty, pos, af, g⟩) (hS : S w) (h : wpAnyH P md ops Q S fuel (listed.setIfInBounds i true) (a.put d undef) w)
    (hw : Region.wanted ⟨d, op, ty, pos, af, g⟩ (yielded ops a.tmps) = false := by rfl)
    (hs : Region.noSelect ops = true := by kernel_rfl) (hf : Region.free md ops listed i = true := by kernel_rfl) (hr : (Region.ready md ops listed).contains i = true := by kernel_rfl)
    (hQ : ∀ c a w, Q (.panic c) (a.put d undef) w → Q (.panic c) a w := by exact fun _ _ _ h => h) : wpAnyH P md ops Q S (fuel + 1) listed a w :=
  wpAnyH_take hi hs hf hr hQ (Or.inr ⟨hw, rfl⟩) hS h
/-- Taken first: a row of cells. -/
theorem tkR (i : Nat) {T : TypeId} {x : Operand} (hi : ops[i]? = some ⟨d, .load T x, ty, pos, af, g⟩) (hS : S w) {b : Nat} {cs : List Value} (hc : ∀ w, S w → Bo w b cs) (r : Rw P T cs) (h : wpAnyH P md ops Q S fuel (listed.setIfInBounds i true) (a.put d (.agg cs.toArray)) w)
    (hx : a.eval x = .pointer (some ⟨b, 0, none⟩) := by rfl) (hw : Region.wanted ⟨d, .load T x, ty, pos, af, g⟩ (yielded ops a.tmps) = true := by rfl)
    (hs : Region.noSelect ops = true := by kernel_rfl) (hf : Region.free md ops listed i = true := by kernel_rfl) (hr : (Region.ready md ops listed).contains i = true := by kernel_rfl)
    (hQ : ∀ c a w, Q (.panic c) (a.put d (.agg cs.toArray)) w → Q (.panic c) a w := by exact fun _ _ _ h => h) : wpAnyH P md ops Q S (fuel + 1) listed a w := by
  obtain ⟨dd, h1, h2⟩ := r.lay
  exact wpAnyH_take hi hs hf hr hQ (yieldsIf_load_mid hw T x rfl b 0 hx cs dd (fun w hw => (hc w hw).range) h1 h2 r.size) hS h
theorem rd1 (i : Nat) (hi : ops[i]? = some ⟨d, op, ty, pos, af, g⟩)
    (h : ∀ K : Act → World → Prop, Shut (∀ a w, S w → (S w → wpAnyH P md ops Q S fuel (listed.setIfInBounds i true) a w) → K a w) → Oper.wp P ⟨d, op, ty, pos, af, g⟩ a w K Q)
    (hr : Region.ready md ops listed = [i] := by kernel_rfl) (hw : Region.wanted ⟨d, op, ty, pos, af, g⟩ (yielded ops a.tmps) = true := by rfl) : wpAnyH P md ops Q S (fuel + 1) listed a w :=
  wpAnyH_ready hr (by simp) (AllReadyH.cons hi (fun K hK => by rw [if_pos hw]; exact h K hK) AllReadyH.nil)
theorem rdn (rs : List Nat) (h : AllReadyH P md ops Q S fuel listed a w rs) (hr : Region.ready md ops listed = rs := by kernel_rfl) (hn : rs ≠ [] := by exact List.cons_ne_nil _ _) : wpAnyH P md ops Q S (fuel + 1) listed a w :=
  wpAnyH_ready hr hn h
theorem rdc {i : Nat} {rs : List Nat} (hi : ops[i]? = some ⟨d, op, ty, pos, af, g⟩)
    (h : ∀ K : Act → World → Prop, Shut (∀ a w, S w → (S w → wpAnyH P md ops Q S fuel (listed.setIfInBounds i true) a w) → K a w) → Oper.wp P ⟨d, op, ty, pos, af, g⟩ a w K Q)
    (hs : AllReadyH P md ops Q S fuel listed a w rs) (hw : Region.wanted ⟨d, op, ty, pos, af, g⟩ (yielded ops a.tmps) = true := by rfl) : AllReadyH P md ops Q S fuel listed a w (i :: rs) :=
  AllReadyH.cons hi (fun K hK => by rw [if_pos hw]; exact h K hK) hs

/-- A row stored, loaded, as a step. -/
theorem stR {o : Oper} {K : Act → World → Prop} {T : TypeId} {x y : Operand} (ho : o.op = .store T x y) {b : Nat} {cs ds : List Value} (hB : Bo w b cs) (hl : ds.length = cs.length) (r : Rw P T ds) (k : K (a.put o.dst undef) (w.setCells b 0 ds))
    (hx : a.eval x = .pointer (some ⟨b, 0, none⟩) := by rfl) (hy : a.eval y = .agg ds.toArray := by rfl) : o.wp P a w K Q :=
  wp_store_mid T x y ho b 0 ds.toArray hx hy (by rw [List.size_toArray]; exact hB.thereL hl) r.size' r.all k
theorem stO {o : Oper} {K : Act → World → Prop} {T : TypeId} {x y : Operand} (ho : o.op = .store T x y) {b q : Nat} {ds : List Value} (hB : w.there b q ds.length) (r : Rw P T ds) (k : K (a.put o.dst undef) (w.setCells b q ds))
    (hx : a.eval x = .pointer (some ⟨b, q, none⟩) := by rfl) (hy : a.eval y = .agg ds.toArray := by rfl) : o.wp P a w K Q :=
  wp_store_mid T x y ho b q ds.toArray hx hy (by rw [List.size_toArray]; exact hB) r.size' r.all k
theorem ldR {o : Oper} {K : Act → World → Prop} {T : TypeId} {x : Operand} (ho : o.op = .load T x) {b : Nat} {cs : List Value} (hB : Bo w b cs) (r : Rw P T cs) (k : K (a.put o.dst (.agg cs.toArray)) w)
    (hx : a.eval x = .pointer (some ⟨b, 0, none⟩) := by rfl) : o.wp P a w K Q := by
  obtain ⟨dd, h1, h2⟩ := r.lay
  exact wp_load_mid T x ho b 0 hx cs dd hB.range h1 h2 r.size k

/-- The same at the head of a plain region: rows, and rows within rows. -/
theorem lR {o : Oper} {rest : List Oper} {T : TypeId} {x : Operand} {b : Nat} {cs : List Value} (ho : o.op = .load T x) (hB : Bo w b cs) (hx : a.eval x = .pointer (some ⟨b, 0, none⟩)) (r : Rw P T cs) (k : wpList P ops Q rest (a.put o.dst (.agg cs.toArray)) w)
    (hgd : o.guard = none := by rfl) : wpList P ops Q (o :: rest) a w := by
  obtain ⟨dd, h1, h2⟩ := r.lay
  exact wpList_load_mid hgd T x ho b 0 hx cs dd hB.range h1 h2 r.size k
theorem lO {o : Oper} {rest : List Oper} {T : TypeId} {x : Operand} {b q : Nat} {cs : List Value} (ho : o.op = .load T x) (hB : w.rangeAt b q cs) (hx : a.eval x = .pointer (some ⟨b, q, none⟩)) (r : Rw P T cs) (k : wpList P ops Q rest (a.put o.dst (.agg cs.toArray)) w)
    (hgd : o.guard = none := by rfl) : wpList P ops Q (o :: rest) a w := by
  obtain ⟨dd, h1, h2⟩ := r.lay
  exact wpList_load_mid hgd T x ho b q hx cs dd hB h1 h2 r.size k
theorem lW {o : Oper} {rest : List Oper} {T : TypeId} {x : Operand} {b : Nat} {cs : List Value} (ho : o.op = .load T x) (hB : Bo w b cs) (hx : a.eval x = .pointer (some ⟨b, 0, none⟩)) (r : Rw P T cs) (k : wpList P ops Q rest (a.put o.dst (.agg cs.toArray)) w)
    (hw : Region.wanted o (yielded ops a.tmps) = true := by rfl) : wpList P ops Q (o :: rest) a w := by
  obtain ⟨dd, h1, h2⟩ := r.lay
  simp only [wpList, hw, if_true]
  exact .inl (wp_load_mid T x ho b 0 hx cs dd hB.range h1 h2 r.size k)
theorem sR {o : Oper} {rest : List Oper} {T : TypeId} {x y : Operand} {b : Nat} {cs ds : List Value} (ho : o.op = .store T x y) (hB : Bo w b cs) (hx : a.eval x = .pointer (some ⟨b, 0, none⟩)) (hl : ds.length = cs.length) (r : Rw P T ds) (k : wpList P ops Q rest (a.put o.dst undef) (w.setCells b 0 ds))
    (hgd : o.guard = none := by rfl) (hy : a.eval y = .agg ds.toArray := by rfl) : wpList P ops Q (o :: rest) a w :=
  wpList_store_mid hgd T x y ho b 0 ds.toArray hx hy (by rw [List.size_toArray]; exact hB.thereL hl) r.size' r.all k
theorem sO {o : Oper} {rest : List Oper} {T : TypeId} {x y : Operand} {b q : Nat} {ds : List Value} (ho : o.op = .store T x y) (hB : w.there b q ds.length) (hx : a.eval x = .pointer (some ⟨b, q, none⟩)) (r : Rw P T ds) (k : wpList P ops Q rest (a.put o.dst undef) (w.setCells b q ds))
    (hgd : o.guard = none := by rfl) (hy : a.eval y = .agg ds.toArray := by rfl) : wpList P ops Q (o :: rest) a w :=
  wpList_store_mid hgd T x y ho b q ds.toArray hx hy (by rw [List.size_toArray]; exact hB) r.size' r.all k
end
theorem cells_one {v : Value} (h : v.oneCell' = true) : v.cells = #[v] := by
  cases v <;> first | rfl | (simp [Value.oneCell'] at h)
theorem run_store1 {P : Program} (w : World) (b o : Nat) (ty : TypeId) (v : Value) {u : Value} (hc : w.cell? ⟨b, o, none⟩ = some u) (hf : w.frozen? ⟨b, o, none⟩ = false) (hi : (P.info? ty).map (·.size) = some 1) (hv : v.oneCell' = true) :
    (storeVar ty ⟨b, o, none⟩ v).run P w = .ok () (w.setCell ⟨b, o, none⟩ v) := by
  have h := run_storeVar_mid (P := P) w b o ty #[v] (fun j hj => by
    have : j = 0 := by simpa using hj
    subst this
    exact ⟨by rw [Nat.add_zero, hc]; rfl, hf⟩) hi (by simp [hv])
  have e : storeVar ty ⟨b, o, none⟩ v = storeVar ty ⟨b, o, none⟩ (.agg #[v]) := by
    unfold storeVar
    rw [cells_one hv]
    rfl
  rw [e, h]
  rfl
section
variable {P : Program} {ops : Array Oper} {Q : Exit → Act → World → Prop} {a : Act} {w : World}
/-- One cell stored. -/
theorem s1 {o : Oper} {rest : List Oper} {T : TypeId} {x y : Operand} {b : Nat} {cs : List Value} (ho : o.op = .store T x y) (hB : Bo w b cs) (j : Nat) (hx : a.eval x = .pointer (some ⟨b, j, none⟩)) (v : Value) (hv : v.oneCell' = true) (hi : (P.info? T).map (·.size) = some 1) (k : wpList P ops Q rest (a.put o.dst undef) (w.setCell ⟨b, j, none⟩ v))
    (hj : j < cs.length) (hgd : o.guard = none := by rfl) (hy : a.eval y = v := by rfl) : wpList P ops Q (o :: rest) a w := by
  refine wpList_plain hgd fun K hK => ?_
  unfold Oper.wp execOp
  simp only [ho, hx, hy, Instr.storeAt, Instr.sureAddr, Sem.run_bind, Sem.run_pure, Result.andThen_ok, run_store1 w b j T v (hB.cell j _ (List.getElem?_eq_getElem hj)) (hB.froz j) hi hv]
  exact hK _ _ k
end
section
variable {P : Program} {fn : Func} {p q r : Tmp} {ty tz : TypeId} {tmps : Array Value} {w : World} {b c : Nat} {cs ds : List Value}
/-- What is handed back out of cells. -/
theorem res1 (h : fn.results = #[.cell p ty]) (hB : Bo w b cs) (r1 : Rw P ty cs) (hp : tmps.getD p undef = .pointer (some ⟨b, 0, none⟩) := by rfl) : (results fn tmps).run P w = .ok (.agg cs.toArray) w := by
  obtain ⟨d, h1, h2⟩ := r1.lay
  exact results_row h tmps w b cs d hp hB.range h1 h2 r1.size
theorem res2 (h : fn.results = #[.cell p ty, .cell q tz]) (hB : Bo w b cs) (r1 : Rw P ty cs) (hC : Bo w c ds) (r2 : Rw P tz ds) (hp : tmps.getD p undef = .pointer (some ⟨b, 0, none⟩) := by rfl) (hq : tmps.getD q undef = .pointer (some ⟨c, 0, none⟩) := by rfl) :
    (results fn tmps).run P w = .ok (.tuple #[.agg cs.toArray, .agg ds.toArray]) w := by
  obtain ⟨d, h1, h2⟩ := r1.lay
  obtain ⟨e, h3, h4⟩ := r2.lay
  exact results_row2 h tmps w b c cs ds d e hp hq hB.range h1 h2 r1.size hC.range h3 h4 r2.size
theorem res1s (h : fn.results = #[.cell p ty, .tmp q]) (hB : Bo w b cs) (r1 : Rw P ty cs) (v : Value) (hp : tmps.getD p undef = .pointer (some ⟨b, 0, none⟩) := by rfl) (hq : tmps.getD q undef = v := by rfl) :
    (results fn tmps).run P w = .ok (.tuple #[.agg cs.toArray, v]) w := by
  obtain ⟨d, h1, h2⟩ := r1.lay
  have hp' : tmps[p]?.getD undef = .pointer (some ⟨b, 0, none⟩) := by simpa using hp
  have hq' : tmps[q]?.getD undef = v := by simpa using hq
  simp [results, h, hp', hq', asAddr, run_loadVar_mid w b 0 ty cs d hB.range h1 h2 r1.size]
theorem res2s (h : fn.results = #[.cell p ty, .cell q tz, .tmp r]) (hB : Bo w b cs) (r1 : Rw P ty cs) (hC : Bo w c ds) (r2 : Rw P tz ds) (v : Value) (hp : tmps.getD p undef = .pointer (some ⟨b, 0, none⟩) := by rfl) (hq : tmps.getD q undef = .pointer (some ⟨c, 0, none⟩) := by rfl) (hr : tmps.getD r undef = v := by rfl) :
    (results fn tmps).run P w = .ok (.tuple #[.agg cs.toArray, .agg ds.toArray, v]) w := by
  obtain ⟨d, h1, h2⟩ := r1.lay
  obtain ⟨e, h3, h4⟩ := r2.lay
  have hp' : tmps[p]?.getD undef = .pointer (some ⟨b, 0, none⟩) := by simpa using hp
  have hq' : tmps[q]?.getD undef = .pointer (some ⟨c, 0, none⟩) := by simpa using hq
  have hr' : tmps[r]?.getD undef = v := by simpa using hr
  simp [results, h, hp', hq', hr', asAddr, run_loadVar_mid w b 0 ty cs d hB.range h1 h2 r1.size, run_loadVar_mid w c 0 tz ds e hC.range h3 h4 r2.size]
theorem ress1 (h : fn.results = #[.tmp q, .cell p ty]) (v : Value) (hB : Bo w b cs) (r1 : Rw P ty cs) (hp : tmps.getD p undef = .pointer (some ⟨b, 0, none⟩) := by rfl) (hq : tmps.getD q undef = v := by rfl) :
    (results fn tmps).run P w = .ok (.tuple #[v, .agg cs.toArray]) w := by
  obtain ⟨d, h1, h2⟩ := r1.lay
  have hp' : tmps[p]?.getD undef = .pointer (some ⟨b, 0, none⟩) := by simpa using hp
  have hq' : tmps[q]?.getD undef = v := by simpa using hq
  simp [results, h, hp', hq', asAddr, run_loadVar_mid w b 0 ty cs d hB.range h1 h2 r1.size]
end
end Go.Proofs.YteogbpaaacmllaaGreatDoor.Tab
namespace Go.Proofs.YteogbpaaacmllaaGreatDoor.Tab
set_option maxRecDepth 20000
open Go.RowKit
theorem Bo.toT {w : World} {b : Nat} {t : Tb} (h : Bo w b t.all) : TAt w b t := ⟨fun j hj => h.cell j _ (Tb.all_at t j hj), h.froz⟩
theorem TAt.toB {w : World} {b : Nat} {t : Tb} (h : TAt w b t) : Bo w b t.all := ⟨fun j v hv => by
  have hj : j < 16 := by have := (List.getElem?_eq_some_iff.1 hv).1; rwa [Tb.all_length] at this
  rw [Tb.all_at t j hj] at hv
  rw [h.cell j hj, ← hv], h.froz, h.lt⟩
theorem Bo.tkey {w : World} {b p : Nat} {t : Tb} (h : Bo w b t.all) (hp : p < 8) : w.cell? ⟨b, p * 2, none⟩ = some (.int .i64 (t.k p)) := h.toT.key hp
theorem Bo.tval {w : World} {b p : Nat} {t : Tb} (h : Bo w b t.all) (hp : p < 8) : w.cell? ⟨b, p * 2 + 1, none⟩ = some (.int .i64 (t.v p)) := h.toT.val hp
theorem Bo.tset {w : World} {b p : Nat} {t : Tb} (h : Bo w b t.all) (hp : p < 8) (x y : Int) : Bo (w.setCells b (p * 2) [.int .i64 x, .int .i64 y]) b (t.set p x y).all := (h.toT.slot hp x y).toB
theorem Bo.tthere {w : World} {b p : Nat} {t : Tb} (h : Bo w b t.all) (hp : p < 8) {l : List Value} (hl : l.length = 2 := by rfl) : w.there b (p * 2) l.length := by rw [hl]; exact h.toT.thereS hp
end Go.Proofs.YteogbpaaacmllaaGreatDoor.Tab
namespace Go.Proofs.YteogbpaaacmllaaGreatDoor.Tab
set_option maxRecDepth 20000
open Go.RowKit

theorem free_is (k v : Int) (w : World) :
    Calls Tryz.prog 116 #[.agg #[.int .i64 k, .int .i64 v]] w fun e w' => e = .returned (.bool (k == 0)) ∧ Below w.heap.size w w' := by
  go_enter Tryz.func116, Tryz.ntmps116
  go_wp2
  go_ret
  exact ⟨rfl, new_below _ _⟩

theorem home_eq (k : Int) : wrap64 ((IntKind.u64.wrap (5 * IntKind.u64.wrap k)).tmod 8) = (home k : Nat) := by
  rw [IntKind.wrap_u64, IntKind.wrap_u64, Int.tmod_eq_emod_of_nonneg (by omega)]
  have e : 5 * (k % 18446744073709551616) % 18446744073709551616 % 8 = 5 * k % 8 := by omega
  rw [e]
  unfold wrap64 home
  omega
theorem home_is (k : Int) (w : World) :
    Calls Tryz.prog 135 #[.int .i64 k] w fun e w' => e = .returned (.int .i64 (home k : Nat)) ∧ w' = w := by
  go_enter Tryz.func135, Tryz.ntmps135
  go_wp2
  go_ret
  exact ⟨congrArg (fun x => Ending.returned (.int .i64 x)) (home_eq k), rfl⟩

/-- What place tells. -/
def Placed (t : Tb) (k : Int) (w : World) (e : Ending) (w' : World) : Prop := e = .returned (.tuple #[.int .i64 (place t k : Nat), .bool (t.k (place t k) == k)]) ∧ Below w.heap.size w w'

set_option maxHeartbeats 1000000 in
theorem place_eq (t : Tb) (k : Int) (w : World) : Calls Tryz.prog 129 #[.agg t.all.toArray, .int .i64 k] w (Placed t k w) := by
  have T0 : Hid (TAt (w.alloc (.cells t.all.toArray 174)) w.heap.size t) := TAt.born w t _
  have B0 : Hid (Below w.heap.size w (w.alloc (.cells t.all.toArray 174))) := new_below w _
  have hh := home_lt k
  have HM := home_is k
  have P : Hid (plF t k 7 0 = place t k) := rfl
  have RA : Hid (∀ i, rowAt k i = (home k + i) % 8) := fun _ => rfl
  generalize home k = h at *
  go_enter Tryz.func129, Tryz.ntmps129
  go_wp2_with fail
  generalize w.alloc (.cells t.all.toArray 174) = W at T0 B0 ⊢
  generalize hb : w.heap.size = b at T0 ⊢
  have HB : Hid (w.heap.size = b) := hb
  clear hb
  go_loopg [4, 7] 8 (fun gg s4 s7 wt => Hid (TAt wt b t) ∧ Hid (Below w.heap.size w wt) ∧ ∃ i : Nat, i ≤ 8 ∧ 8 - i ≤ gg ∧ s7 = .int .i64 i ∧ Hid ((i < 8 ∧ plF t k (7 - i) i = place t k) ∨ (i = 8 ∧ s4 = .int .i64 (place t k : Nat) ∧ ¬ Hit t k (place t k))))
  case atStart => exact ⟨T0, B0, 0, by omega, by omega, rfl, Or.inl ⟨by omega, P.out⟩⟩
  case round =>
    obtain ⟨T, B, i, hi, hgg, rfl, D⟩ := hrel
    by_cases hlt : i < 8
    · clear T0 B0
      go_wp2_with fail
      refine (HM wr).mono ?_
      rintro e w1 ⟨rfl, rfl⟩
      obtain ⟨p, hpe⟩ : ∃ p, p = (h + i) % 8 := ⟨_, rfl⟩
      have ep : ((h : Int) + (i : Int)) % 8 = (p : Int) := by omega
      have hp : p < 8 := by omega
      have hp1 : (p : Int) < 8 := by omega
      have hp0 : (0 : Int) ≤ (p : Int) := by omega
      have EP : Hid (rowAt k i = p) := (RA.out i).trans hpe.symm
      have g0 := T.out.key hp
      have g1 := T.out.val hp
      obtain ⟨x, hx⟩ : ∃ x, t.k p = x := ⟨_, rfl⟩
      have X : Hid (t.k p = x) := hx
      rw [hx] at g0
      generalize t.v p = y at g1
      clear hpe hx
      have D' : Hid (plF t k (7 - i) i = place t k) := by
        rcases D.out with d | d
        · exact d.2
        · exact absurd d.1 (by omega)
      clear D
      by_cases hk : x = k
      · have m1 : (x == k) = true := by simp [hk]
        have PL : Hid (place t k = p ∧ (t.k (place t k) == k) = true) := by
          have : place t k = p := by
            rw [← D'.out, ← EP.out]
            cases hn : 7 - i with
            | zero => rfl
            | succ n => rw [plF, if_pos (show Hit t k (rowAt k i) from Or.inl (by rw [EP.out, X.out, hk]))]
          exact ⟨this, by rw [this, X.out]; exact m1⟩
        clear hk
        go_wp2_with fail
        go_region
        all_goals go_wp2
        refine bodyPost_ret (v := .tuple #[.int .i64 (p : Nat), .bool true]) (by simp [results, Tryz.results129, go_sem, ep]) rfl ⟨?_, B.out.drew⟩
        rw [PL.out.2, PL.out.1]
      · have m1 : (x == k) = false := by simp [hk]
        by_cases h0 : x = 0
        · have m0 : (x == 0) = true := by simp [h0]
          have PL : Hid (place t k = p ∧ (t.k (place t k) == k) = false) := by
            have : place t k = p := by
              rw [← D'.out, ← EP.out]
              cases hn : 7 - i with
              | zero => rfl
              | succ n => rw [plF, if_pos (show Hit t k (rowAt k i) from Or.inr (by rw [EP.out, X.out, h0]))]
            exact ⟨this, by rw [this, X.out]; exact m1⟩
          clear hk h0
          go_wp2_with fail
          refine (free_is x y _).mono ?_
          rintro e w2 ⟨rfl, hb2⟩
          have B2 : Hid (Below w.heap.size w w2) := B.out.trans (hb2.mono B.out.size)
          have T2 : Hid (TAt w2 b t) := T.out.later hb2
          have g2 := T2.out.key hp
          rw [X.out] at g2
          clear hb2 g0 g1 T B
          go_wp2_with fail
          go_region
          all_goals go_wp2
          refine bodyPost_ret (v := .tuple #[.int .i64 (p : Nat), .bool false]) (by simp [results, Tryz.results129, go_sem]) rfl ⟨?_, B2.out.drew⟩
          rw [PL.out.2, PL.out.1]
        · have m0 : (x == 0) = false := by simp [h0]
          have NH : Hid (¬ Hit t k (rowAt k i)) := by
            rw [EP.out]; unfold Hit; rw [X.out]
            rintro (e | e)
            · exact hk e
            · exact h0 e
          clear hk h0
          go_wp2_with fail
          refine (free_is x y _).mono ?_
          rintro e w2 ⟨rfl, hb2⟩
          have B2 : Hid (Below w.heap.size w w2) := B.out.trans (hb2.mono B.out.size)
          have T2 : Hid (TAt w2 b t) := T.out.later hb2
          clear hb2 g0 g1 T B
          go_wp2
          go_roundg (8 - (i + 1))
          case measure => omega
          case rel =>
            refine ⟨T2, B2, i + 1, by omega, by omega, by go_num, ?_⟩
            by_cases h7 : i = 7
            · subst h7
              have hpl : place t k = rowAt k 7 := D'.out.symm
              exact Or.inr ⟨rfl, by rw [hpl, EP.out], by rw [hpl]; exact NH.out⟩
            · refine Or.inl ⟨by omega, ?_⟩
              have e7 : 7 - i = (7 - (i + 1)) + 1 := by omega
              have := D'.out
              rw [e7, plF, if_neg NH.out] at this
              exact this
    · obtain rfl : i = 8 := by omega
      have D' : u4 = .int .i64 (place t k : Nat) ∧ Hid (¬ Hit t k (place t k)) := by
        rcases D.out with d | d
        · exact absurd d.1 (by omega)
        · exact ⟨d.2.1, d.2.2⟩
      obtain ⟨rfl, NH⟩ := D'
      clear D
      go_wp2
      refine bodyPost_ret (v := .tuple #[.int .i64 (place t k : Nat), .bool false]) (by simp [results, Tryz.results129, go_sem]) rfl ⟨?_, B.out⟩
      have : (t.k (place t k) == k) = false := by
        have := NH.out
        unfold Hit at this
        simp only [beq_eq_false_iff_ne]
        exact fun e => this (Or.inl e)
      rw [this]
end Go.Proofs.YteogbpaaacmllaaGreatDoor.Tab
