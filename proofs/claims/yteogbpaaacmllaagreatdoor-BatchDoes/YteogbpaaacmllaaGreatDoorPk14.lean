/- Texts laid together: Records are held against each other; The library's handle of the type error, off the row's condition; Arguments that are arrays of words, as it lies in the call; An argument that is a record, as it lies in the call; Arguments that are an ask, a list of asks, as they lie in the call. -/
import Derived.Test.YteogbpaaacmllaaGreatDoorPk03
import Derived.Deep.DeepCutAuto
import Derived.Deep.RegionHeld3
import Derived.ChangeKeysEq
import Derived.Test.YteogbpaaacmllaaGreatDoorPk12
import Derived.Test.YteogbpaaacmllaaGreatDoorTie
import Derived.ProofKit
import Derived.LaidMore
import Derived.LaidLaws
import Derived.LaidHandle
import Derived.OpenShut
import Derived.Stop.Joined
import Derived.Test.YteogbpaaacmllaaGreatDoorPk00
import Derived.Test.YteogbpaaacmllaaGreatDoorRows
import Derived.Carry
import Derived.Test.YteogbpaaacmllaaGreatDoorPk04
import Derived.Deep.Slices
import Derived.Deep.MidRow
namespace Go.Proofs.YteogbpaaacmllaaGreatDoor.Tab
set_option maxRecDepth 20000
open Go.RowKit
set_option linter.unusedVariables false
theorem rec_desc : Tryz.prog.underlying 24 = some (.array 32 22) := by kernel_rfl
theorem rpart0 (c : Nat → Nat) (w : World) : (part 22 (rl c).toArray 0).run Tryz.prog w = .ok (.int .u64 (c 0 : Nat)) w := by kernel_rfl
theorem rpart1 (c : Nat → Nat) (w : World) : (part 22 (rl c).toArray 1).run Tryz.prog w = .ok (.int .u64 (c 1 : Nat)) w := by kernel_rfl
theorem rpart2 (c : Nat → Nat) (w : World) : (part 22 (rl c).toArray 2).run Tryz.prog w = .ok (.int .u64 (c 2 : Nat)) w := by kernel_rfl
theorem rpart3 (c : Nat → Nat) (w : World) : (part 22 (rl c).toArray 3).run Tryz.prog w = .ok (.int .u64 (c 3 : Nat)) w := by kernel_rfl
theorem rpart4 (c : Nat → Nat) (w : World) : (part 22 (rl c).toArray 4).run Tryz.prog w = .ok (.int .u64 (c 4 : Nat)) w := by kernel_rfl
theorem rpart5 (c : Nat → Nat) (w : World) : (part 22 (rl c).toArray 5).run Tryz.prog w = .ok (.int .u64 (c 5 : Nat)) w := by kernel_rfl
theorem rpart6 (c : Nat → Nat) (w : World) : (part 22 (rl c).toArray 6).run Tryz.prog w = .ok (.int .u64 (c 6 : Nat)) w := by kernel_rfl
theorem rpart7 (c : Nat → Nat) (w : World) : (part 22 (rl c).toArray 7).run Tryz.prog w = .ok (.int .u64 (c 7 : Nat)) w := by kernel_rfl
theorem rpart8 (c : Nat → Nat) (w : World) : (part 22 (rl c).toArray 8).run Tryz.prog w = .ok (.int .u64 (c 8 : Nat)) w := by kernel_rfl
theorem rpart9 (c : Nat → Nat) (w : World) : (part 22 (rl c).toArray 9).run Tryz.prog w = .ok (.int .u64 (c 9 : Nat)) w := by kernel_rfl
theorem rpart10 (c : Nat → Nat) (w : World) : (part 22 (rl c).toArray 10).run Tryz.prog w = .ok (.int .u64 (c 10 : Nat)) w := by kernel_rfl
theorem rpart11 (c : Nat → Nat) (w : World) : (part 22 (rl c).toArray 11).run Tryz.prog w = .ok (.int .u64 (c 11 : Nat)) w := by kernel_rfl
theorem rpart12 (c : Nat → Nat) (w : World) : (part 22 (rl c).toArray 12).run Tryz.prog w = .ok (.int .u64 (c 12 : Nat)) w := by kernel_rfl
theorem rpart13 (c : Nat → Nat) (w : World) : (part 22 (rl c).toArray 13).run Tryz.prog w = .ok (.int .u64 (c 13 : Nat)) w := by kernel_rfl
theorem rpart14 (c : Nat → Nat) (w : World) : (part 22 (rl c).toArray 14).run Tryz.prog w = .ok (.int .u64 (c 14 : Nat)) w := by kernel_rfl
theorem rpart15 (c : Nat → Nat) (w : World) : (part 22 (rl c).toArray 15).run Tryz.prog w = .ok (.int .u64 (c 15 : Nat)) w := by kernel_rfl
theorem rpart16 (c : Nat → Nat) (w : World) : (part 22 (rl c).toArray 16).run Tryz.prog w = .ok (.int .u64 (c 16 : Nat)) w := by kernel_rfl
theorem rpart17 (c : Nat → Nat) (w : World) : (part 22 (rl c).toArray 17).run Tryz.prog w = .ok (.int .u64 (c 17 : Nat)) w := by kernel_rfl
theorem rpart18 (c : Nat → Nat) (w : World) : (part 22 (rl c).toArray 18).run Tryz.prog w = .ok (.int .u64 (c 18 : Nat)) w := by kernel_rfl
theorem rpart19 (c : Nat → Nat) (w : World) : (part 22 (rl c).toArray 19).run Tryz.prog w = .ok (.int .u64 (c 19 : Nat)) w := by kernel_rfl
theorem rpart20 (c : Nat → Nat) (w : World) : (part 22 (rl c).toArray 20).run Tryz.prog w = .ok (.int .u64 (c 20 : Nat)) w := by kernel_rfl
theorem rpart21 (c : Nat → Nat) (w : World) : (part 22 (rl c).toArray 21).run Tryz.prog w = .ok (.int .u64 (c 21 : Nat)) w := by kernel_rfl
theorem rpart22 (c : Nat → Nat) (w : World) : (part 22 (rl c).toArray 22).run Tryz.prog w = .ok (.int .u64 (c 22 : Nat)) w := by kernel_rfl
theorem rpart23 (c : Nat → Nat) (w : World) : (part 22 (rl c).toArray 23).run Tryz.prog w = .ok (.int .u64 (c 23 : Nat)) w := by kernel_rfl
theorem rpart24 (c : Nat → Nat) (w : World) : (part 22 (rl c).toArray 24).run Tryz.prog w = .ok (.int .u64 (c 24 : Nat)) w := by kernel_rfl
theorem rpart25 (c : Nat → Nat) (w : World) : (part 22 (rl c).toArray 25).run Tryz.prog w = .ok (.int .u64 (c 25 : Nat)) w := by kernel_rfl
theorem rpart26 (c : Nat → Nat) (w : World) : (part 22 (rl c).toArray 26).run Tryz.prog w = .ok (.int .u64 (c 26 : Nat)) w := by kernel_rfl
theorem rpart27 (c : Nat → Nat) (w : World) : (part 22 (rl c).toArray 27).run Tryz.prog w = .ok (.int .u64 (c 27 : Nat)) w := by kernel_rfl
theorem rpart28 (c : Nat → Nat) (w : World) : (part 22 (rl c).toArray 28).run Tryz.prog w = .ok (.int .u64 (c 28 : Nat)) w := by kernel_rfl
theorem rpart29 (c : Nat → Nat) (w : World) : (part 22 (rl c).toArray 29).run Tryz.prog w = .ok (.int .u64 (c 29 : Nat)) w := by kernel_rfl
theorem rpart30 (c : Nat → Nat) (w : World) : (part 22 (rl c).toArray 30).run Tryz.prog w = .ok (.int .u64 (c 30 : Nat)) w := by kernel_rfl
theorem rpart31 (c : Nat → Nat) (w : World) : (part 22 (rl c).toArray 31).run Tryz.prog w = .ok (.int .u64 (c 31 : Nat)) w := by kernel_rfl
theorem rword_equal (x : Int) (w : World) : (Op.equalIn 9999 22 (.int .u64 x) (.int .u64 x)).run Tryz.prog w = .ok true w := by
  go_simp
theorem rec_equal (c : Nat → Nat) (w : World) : (Op.equalIn 10000 24 (.agg (rl c).toArray) (.agg (rl c).toArray)).run Tryz.prog w = .ok true w := by
  have hc : Tryz.prog.cellsOf 22 = 1 := by kernel_rfl
  cases hi : Tryz.prog.info? 22 with
  | none => simp [Program.cellsOf, hi] at hc
  | some i =>
    have h := run_equalIn_array (w := w) 9999 (rl c).toArray (rl c).toArray rec_desc hi
    rw [h, hc]
    have hr : List.range 32 = [0, 1, 2, 3, 4, 5, 6, 7, 8, 9, 10, 11, 12, 13, 14, 15, 16, 17, 18, 19, 20, 21, 22, 23, 24, 25, 26, 27, 28, 29, 30, 31] := by decide
    rw [hr]
    simp [Op.eqItems, rpart0 c w, rpart1 c w, rpart2 c w, rpart3 c w, rpart4 c w, rpart5 c w, rpart6 c w, rpart7 c w, rpart8 c w, rpart9 c w, rpart10 c w, rpart11 c w, rpart12 c w, rpart13 c w, rpart14 c w, rpart15 c w, rpart16 c w, rpart17 c w, rpart18 c w, rpart19 c w, rpart20 c w, rpart21 c w, rpart22 c w, rpart23 c w, rpart24 c w, rpart25 c w, rpart26 c w, rpart27 c w, rpart28 c w, rpart29 c w, rpart30 c w, rpart31 c w, rword_equal]
theorem rec_zero (w : World) : (Op.equalIn 10000 24 (.agg (rl wz).toArray) (.agg #[.int .u64 0, .int .u64 0, .int .u64 0, .int .u64 0, .int .u64 0, .int .u64 0, .int .u64 0, .int .u64 0, .int .u64 0, .int .u64 0, .int .u64 0, .int .u64 0, .int .u64 0, .int .u64 0, .int .u64 0, .int .u64 0, .int .u64 0, .int .u64 0, .int .u64 0, .int .u64 0, .int .u64 0, .int .u64 0, .int .u64 0, .int .u64 0, .int .u64 0, .int .u64 0, .int .u64 0, .int .u64 0, .int .u64 0, .int .u64 0, .int .u64 0, .int .u64 0])).run Tryz.prog w = .ok true w := rec_equal wz w
end Go.Proofs.YteogbpaaacmllaaGreatDoor.Tab
namespace Go.Proofs.YteogbpaaacmllaaGreatDoor
set_option maxRecDepth 20000
open Go.ChangeShapes Go.WideShapes Go.ChangeAt Go.RowKit

theorem own : ownKnob Tryz.prog.godebug = none := by kernel_rfl
theorem gHandle : Tryz.prog.globalNamed "errors.errorType" = some 0 := by kernel_rfl
theorem rtHandle : (Tryz.prog.cutTypes.find? (·.1 == "internal/reflectlite.rtype")).map (·.2) = some 177 := by kernel_rfl
theorem oneRow : ((List.range 236).filter fun t => Tryz.prog.rowNamed t [101, 114, 114, 111, 114]) = [34] := by kernel_rfl
theorem typesSize : Tryz.prog.types.size = 236 := by kernel_rfl

abbrev laidHandle {H : Type} : List (String × DataW H) := [("errors.errorType", Rows.laid_errors_errorType)]

theorem door_handle (os : Os) (args : Array Value) : laidMetH Tryz.prog laidHandle ((World.doorLaid Tryz.prog 400 os).forCall (fun _ _ => 0) ⟨#[], args, []⟩).memory :=
  laidMetH_of_parts (laidMet_nil _ _) (by kernel_rfl)

theorem handle_of_laid {W : World} (h : laidMetH Tryz.prog laidHandle W) : HandleAt W := by
  have h' : laidMet Tryz.prog [] W ∧ handlesMet Tryz.prog laidHandle W := h
  obtain ⟨name, u, ty, e1, e2, e3, e4, e5⟩ := h'.2 _ (List.mem_singleton.2 rfl)
  have en : name = [101, 114, 114, 111, 114] := (Option.some.inj e1).symm
  subst en
  obtain rfl := Option.some.inj (rtHandle.symm.trans e2)
  have hm : ty ∈ (List.range 236).filter fun t => Tryz.prog.rowNamed t [101, 114, 114, 111, 114] := List.mem_filter.2 ⟨List.mem_range.2 (by rw [← typesSize]; exact e3), e4⟩
  rw [oneRow] at hm
  obtain rfl := List.mem_singleton.1 hm
  have hh : typeHandle Tryz.prog 34 = .pointer (some ⟨1, 34, none⟩) := by kernel_rfl
  rw [hh] at e5
  have := World.var?_cell gHandle e5 0
  rw [HandleAt, this]
  rfl
end Go.Proofs.YteogbpaaacmllaaGreatDoor
namespace Go.Proofs.YteogbpaaacmllaaGreatDoor
set_option maxRecDepth 20000
open Go.ChangeShapes Go.WideShapes Go.ChangeAt Go.RowKit

theorem okWide_arr {P : Program} {w : World} {r : Reach} {base : Nat} {t e : TypeId} {n : Nat} {v : Value} (ht : P.underlying t = some (.array n e)) (h : Value.okWide P w r base t v) : ∃ cs, v = .agg cs ∧ cs.size = P.cellsOf t := by
  simp only [Value.okWide, ht] at h
  obtain ⟨cs, h1, h2, _⟩ := h
  exact ⟨cs, h1, h2⟩
theorem wf_u64 {x : Int} (h : (Lit.int .u64 x).wf = true) : 0 ≤ x ∧ x < 18446744073709551616 := by
  simp [Lit.wf, IntKind.min, IntKind.max] at h
  exact ⟨of_decide_eq_true h.1, by have := of_decide_eq_true h.2; simp [IntKind.signed, IntKind.bits] at this; omega⟩

theorem warr_of_trod {H : Type} {enc : TypeId × Value → H} {W : World} {r : Reach} {b0 n : Nat} {T : TypeId} {v : Value} {d : DataW H} {p : List MemPlace} (hu : Tryz.prog.underlying T = some (.array n 22)) (cn : Tryz.prog.cellsOf T = n) (hval : Value.okWide Tryz.prog W r b0 T v)
    (h : DataW.Trod enc Tryz.prog W 0 (fun _ => true) true T v d p) : ∃ c : Nat → Nat, v = .agg ((List.range n).map fun j => Value.int .u64 (c j : Nat)).toArray ∧ ∀ j, j < n → c j < 18446744073709551616 := by
  have ci : Tryz.prog.cellsOf 22 = 1 := by kernel_rfl
  obtain ⟨cs, rfl, hsz⟩ := okWide_arr hu hval
  rw [cn] at hsz
  obtain ⟨fuel, hf⟩ := h
  obtain ⟨xs, m, _, _, _, hxl, hx⟩ := DataW.trod_array hu hf
  rw [ci] at hx
  have key : ∀ i, i < n → ∃ k : Nat, cs[i]? = some (.int .u64 (k : Nat)) ∧ k < 18446744073709551616 := by
    intro i hi
    have h2 := hx i hi
    rw [List.getElem?_eq_getElem (by omega)] at h2
    obtain ⟨n0, e0, _, hw⟩ := DataW.trod_int Tryz.underlying22 h2
    obtain ⟨b1, b2⟩ := wf_u64 hw
    refine ⟨n0.toNat, ?_, by omega⟩
    have g : (Value.agg cs).cells.toList = cs.toList := rfl
    rw [g] at e0
    have := congrArg (·[0]?) e0
    simp [List.getElem?_drop] at this
    rw [this]; congr 2; omega
  obtain ⟨c, hc⟩ : ∃ c : Nat → Nat, ∀ i, i < n → cs[i]? = some (.int .u64 (c i : Nat)) ∧ c i < 18446744073709551616 := by
    refine ⟨fun i => if h : i < n then Classical.choose (key i h) else 0, fun i hi => ?_⟩
    simp only [hi, dif_pos]
    exact Classical.choose_spec (key i hi)
  refine ⟨c, ?_, fun j hj => (hc j hj).2⟩
  congr 1
  apply Array.ext'
  apply List.ext_getElem?
  intro j
  by_cases hj : j < n
  · have := (hc j hj).1
    simp [hj]
    simpa using this
  · rw [List.getElem?_eq_none (by simpa using (by omega : cs.size ≤ j)), List.getElem?_eq_none (by simpa using hj)]
theorem laid_outc : laidOutB Tryz.prog = true := by kernel_rfl
end Go.Proofs.YteogbpaaacmllaaGreatDoor
namespace Go.Proofs.YteogbpaaacmllaaGreatDoor
set_option maxRecDepth 20000
open Go.ChangeShapes Go.WideShapes Go.ChangeAt Go.RowKit

theorem record_of_trod {H : Type} {enc : TypeId × Value → H} {W : World} {r : Reach} {b0 : Nat} {v : Value} {d : DataW H} {p : List MemPlace} (hval : Value.okWide Tryz.prog W r b0 24 v)
    (h : DataW.Trod enc Tryz.prog W 0 (fun _ => true) true 24 v d p) : ∃ c : Nat → Nat, v = .agg (Tab.rl c).toArray ∧ ∀ j, j < 32 → c j < 18446744073709551616 :=
  warr_of_trod (n := 32) (by kernel_rfl) (by kernel_rfl) hval h
theorem record_stay {H : Type} {enc : TypeId × Value → H} {W W' : World} {sp : Nat → Bool} {v : Value} {d : DataW H} {p : List MemPlace}
    (h : DataW.Trod enc Tryz.prog W 0 (fun _ => true) true 24 v d p) (hb : Below W.heap.size W W') (hlt : ∀ x ∈ p, x.block < W.heap.size) (hs : ∀ x ∈ p, sp x.block = true) :
    DataW.Trod enc Tryz.prog W' 0 sp true 24 v d p :=
  WideElems.Trod_stays laid_outc (by kernel_rfl) (of_decide_eq_true (by kernel_rfl)) h (fun x hx => hb.same (hlt x hx)) hs
end Go.Proofs.YteogbpaaacmllaaGreatDoor
namespace Go.Proofs.YteogbpaaacmllaaGreatDoor
set_option maxRecDepth 20000
open Go.ChangeShapes Go.WideShapes Go.ChangeAt Go.RowKit

theorem ask_fields : ∃ f0 f1 f2 : Field, Tryz.prog.underlying 81 = some (.struct #[f0, f1, f2]) ∧
    (f0.type = 3 ∧ f0.offset = 0) ∧ (f1.type = 3 ∧ f1.offset = 1) ∧ (f2.type = 44 ∧ f2.offset = 2) :=
  ⟨_, _, _, Tryz.underlying81, ⟨rfl, rfl⟩, ⟨rfl, rfl⟩, ⟨rfl, rfl⟩⟩
theorem ask_op_fields : ∃ f0 f1 f2 : Field, Tryz.prog.underlying 44 = some (.struct #[f0, f1, f2]) ∧
    (f0.type = 3 ∧ f0.offset = 0) ∧ (f1.type = 3 ∧ f1.offset = 1) ∧ (f2.type = 3 ∧ f2.offset = 2) :=
  ⟨_, _, _, Tryz.underlying44, ⟨rfl, rfl⟩, ⟨rfl, rfl⟩, ⟨rfl, rfl⟩⟩

set_option maxRecDepth 20000 in
theorem ask_cells {H : Type} {enc : TypeId × Value → H} {W : World} {fuel : Nat} {cs : List Value} {y : DataW H × List MemPlace} (hl : cs.length = 5)
    (h2 : DataW.trod enc Tryz.prog W 0 (fun _ => true) true fuel 81 cs = some y) : ∃ t g o k x : Int, cs = [.int .i64 t, .int .i64 g, .int .i64 o, .int .i64 k, .int .i64 x] := by
  have hc3 : Tryz.prog.cellsOf 44 = 3 := by kernel_rfl
  have ci : Tryz.prog.cellsOf 3 = 1 := by kernel_rfl
  obtain ⟨f0, f1, f2, hu, ⟨t0, o0⟩, ⟨t1, o1⟩, ⟨t2, o2⟩⟩ := ask_fields
  obtain ⟨g0, g1, g2, hg, ⟨tg0, og0⟩, ⟨tg1, og1⟩, ⟨tg2, og2⟩⟩ := ask_op_fields
  obtain ⟨xs, k, _, _, _, hxl, hfl⟩ := DataW.trod_struct hu h2
  match cs, hl, xs, hxl with
  | [v0, v1, v2, v3, v4], _, [y0, y1, y2], _ =>
    have k0 := hfl 0 f0 rfl
    have k1 := hfl 1 f1 rfl
    have k2 := hfl 2 f2 rfl
    rw [t0, o0, ci] at k0
    rw [t1, o1, ci] at k1
    rw [t2, o2, hc3] at k2
    obtain ⟨n0, q0, _, _⟩ := DataW.trod_int Tryz.underlying3 k0
    obtain ⟨n1, q1, _, _⟩ := DataW.trod_int Tryz.underlying3 k1
    obtain ⟨ys, k', _, _, _, hyl, hgl⟩ := DataW.trod_struct hg k2
    match ys, hyl with
    | [z0, z1, z2], _ =>
      have m0 := hgl 0 g0 rfl
      have m1 := hgl 1 g1 rfl
      have m2 := hgl 2 g2 rfl
      rw [tg0, og0, ci] at m0
      rw [tg1, og1, ci] at m1
      rw [tg2, og2, ci] at m2
      obtain ⟨n2, q2, _, _⟩ := DataW.trod_int Tryz.underlying3 m0
      obtain ⟨n3, q3, _, _⟩ := DataW.trod_int Tryz.underlying3 m1
      obtain ⟨n4, q4, _, _⟩ := DataW.trod_int Tryz.underlying3 m2
      simp at q0 q1 q2 q3 q4
      subst q0 q1 q2 q3 q4
      exact ⟨n0, n1, n2, n3, n4, rfl⟩

theorem ask_of_trod {H : Type} {enc : TypeId × Value → H} {W : World} {r : Reach} {b0 : Nat} {v : Value} {d : DataW H} {p : List MemPlace} (hval : Value.okWide Tryz.prog W r b0 81 v)
    (h : DataW.Trod enc Tryz.prog W 0 (fun _ => true) true 81 v d p) : ∃ t g o k x : Int, v = .agg #[.int .i64 t, .int .i64 g, .int .i64 o, .int .i64 k, .int .i64 x] := by
  have hc5 : Tryz.prog.cellsOf 81 = 5 := by kernel_rfl
  obtain ⟨f0, f1, f2, hu, _⟩ := ask_fields
  obtain ⟨cs, rfl, hsz⟩ := okWide_struct hu hval
  obtain ⟨fuel, hf⟩ := h
  obtain ⟨t, g, o, k, x, he⟩ := ask_cells (by rw [← hc5, ← hsz]; simp [Value.cells]) hf
  refine ⟨t, g, o, k, x, ?_⟩
  have : cs.toList = [.int .i64 t, .int .i64 g, .int .i64 o, .int .i64 k, .int .i64 x] := he
  rw [← Array.toArray_toList (xs := cs), this]
theorem ask_stay {H : Type} {enc : TypeId × Value → H} {W W' : World} {sp : Nat → Bool} {v : Value} {d : DataW H} {p : List MemPlace}
    (h : DataW.Trod enc Tryz.prog W 0 (fun _ => true) true 81 v d p) (hb : Below W.heap.size W W') (hlt : ∀ x ∈ p, x.block < W.heap.size) (hs : ∀ x ∈ p, sp x.block = true) :
    DataW.Trod enc Tryz.prog W' 0 sp true 81 v d p :=
  WideElems.Trod_stays laid_out (by kernel_rfl) (of_decide_eq_true (by kernel_rfl)) h (fun x hx => hb.same (hlt x hx)) hs

set_option maxRecDepth 20000 in
theorem asks_of_trod {H : Type} {enc : TypeId × Value → H} {W : World} {r : Reach} {b0 : Nat} {v : Value} {d : DataW H} {p : List MemPlace} (hval : Value.okWide Tryz.prog W r b0 25 v)
    (h : DataW.Trod enc Tryz.prog W 0 (fun _ => true) true 25 v d p) : ∃ n q, Tab.Aq W v n q := by
  obtain ⟨fuel, hf⟩ := h
  obtain ⟨A, l, c, rfl⟩ := okWide_slice Tryz.underlying25 hval
  have hc5 : Tryz.prog.cellsOf 81 = 5 := by kernel_rfl
  rcases Deep.open_slice Tryz.underlying25 hf with ⟨hcs, _⟩ | ⟨a, len, cap, m, n, D, Pl, hcs, _, hl, hmx, hm, _, hx⟩
  · simp [Value.cells] at hcs
    obtain ⟨rfl, rfl, rfl⟩ := hcs
    exact ⟨0, fun _ => ⟨0, 0, 0, 0, 0⟩, Or.inl ⟨rfl, none, 0, rfl, fun _ => rfl⟩⟩
  · simp [Value.cells] at hcs
    obtain ⟨rfl, rfl, rfl⟩ := hcs
    by_cases h0 : l = 0
    · subst h0
      exact ⟨0, fun _ => ⟨0, 0, 0, 0, 0⟩, Or.inl ⟨rfl, some a, c, rfl, fun h => by cases h⟩⟩
    have hcell : ∀ i, i < l → ∃ q : Tab.AK, ∀ j v, q.row[j]? = some v → W.cell? ((a.add (i * 5)).add j) = some v := by
      intro i hi
      obtain ⟨cs', h1, h2⟩ := hx i (by rw [hm]; simp; omega)
      rw [hc5] at h1
      obtain ⟨_, hlen, hcell⟩ := World.cells?_some h1
      obtain ⟨t, g, o, k, x, rfl⟩ := ask_cells hlen h2
      refine ⟨⟨t, g, o, k, x⟩, fun j v hv => ?_⟩
      have hj : j < 5 := by simpa [Tab.AK.row] using (List.getElem?_eq_some_iff.1 hv).1
      have := hcell j hj
      rw [this]
      exact hv
    obtain ⟨b, off, spot⟩ := a
    have hspot : spot = none := by
      obtain ⟨q, h1⟩ := hcell 0 (by omega)
      have := h1 0 _ rfl
      simpa [Addr.add] using World.cell?_spot this
    subst hspot
    have hq : ∀ i, ∃ q : Tab.AK, i < l → W.rangeAt b (off + i * 5) q.row := fun i => by
      by_cases hi : i < l
      · obtain ⟨q, h1⟩ := hcell i hi
        refine ⟨q, fun _ j v hv => ?_⟩
        have := h1 j v hv
        rw [Addr.add_mid, Addr.add_mid] at this
        exact this
      · exact ⟨⟨0, 0, 0, 0, 0⟩, fun h => absurd h hi⟩
    exact ⟨l, fun i => Classical.choose (hq i), Or.inr ⟨b, off, c, rfl, by omega, hl, by unfold maxLen at hmx; omega, fun i hi => Classical.choose_spec (hq i) hi⟩⟩
theorem asks_stay {H : Type} {enc : TypeId × Value → H} {W W' : World} {sp : Nat → Bool} {v : Value} {d : DataW H} {p : List MemPlace}
    (h : DataW.Trod enc Tryz.prog W 0 (fun _ => true) true 25 v d p) (hb : Below W.heap.size W W') (hlt : ∀ x ∈ p, x.block < W.heap.size) (hs : ∀ x ∈ p, sp x.block = true) :
    DataW.Trod enc Tryz.prog W' 0 sp true 25 v d p :=
  WideElems.Trod_stays laid_out (by kernel_rfl) (of_decide_eq_true (by kernel_rfl)) h (fun x hx => hb.same (hlt x hx)) hs
end Go.Proofs.YteogbpaaacmllaaGreatDoor
