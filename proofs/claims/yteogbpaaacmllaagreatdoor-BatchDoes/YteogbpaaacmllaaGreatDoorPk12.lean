/- Texts laid together: errors.As at a target of type Errno, by its contracts (after the guide's worked text for a pointer target); An error taken apart: api.Tell, plain.Place, bare, at nil and at an Errno, by their contracts; An error at a place (api.At), taken apart: errors.As at a target of type Errno, api.Tell, plain.Place, by their contracts; The library's handle, behind all that a call lays; Package batch: Do, by its contracts. -/
import Derived.Test.YteogbpaaacmllaaGreatDoorPk00
import Derived.Test.YteogbpaaacmllaaGreatDoorRows
import Derived.WalkKit
import Derived.LaidEql
import Derived.Stop.Asserts
import Derived.RowKitTokens
import Derived.Test.YteogbpaaacmllaaGreatDoorPk07
import Derived.Test.YteogbpaaacmllaaGreatDoorPk04
import Derived.Deep.DeepCutAuto
import Derived.Deep.RegionHeld3
namespace Go.Proofs.YteogbpaaacmllaaGreatDoor
set_option maxRecDepth 20000
open Go.RowKit Go.Extern.Stop Go.Stop Go.Extern

theorem As.valueOfP (t : Addr) (w : World) : (ReflectliteValue.unpack (.iface 122 (.pointer (some t)))).run Tryz.prog w
    = .ok (.agg #[.pointer (some ⟨1, 122, none⟩), .pointer (some ⟨w.heap.size, 0, none⟩), .int .u64 150]) (w.alloc (.cells #[.pointer (some t)] 122)) := by kernel_rfl
theorem As.typeP (a : Addr) (w : World) : (ReflectliteValue.methodAny (ReflectliteValue.valueError "reflectlite.Value.Type" 0) (fun t _ _ _ => ReflectliteType.toType t) #[.agg #[.pointer (some ⟨1, 122, none⟩), .pointer (some a), .int .u64 150]]).run Tryz.prog w
    = .ok (.iface 177 (.agg #[.pointer (some ⟨1, 122, none⟩)])) w := by kernel_rfl
theorem As.methodKind (h : Value) (w : World) : (Go.method 336 177 (.agg #[h]) "Kind").run Tryz.prog w = .ok (152, h) w := by kernel_rfl
theorem As.kindP (w : World) : ((ReflectliteType.abiMethod fun t => (fun a : Nat => Value.int IntKind.u8 (a : Int)) <$> Rtype.kind t) #[.pointer (some ⟨1, 122, none⟩)]).run Tryz.prog w = .ok (.int .u8 22) w := by kernel_rfl
theorem As.kindE (w : World) : ((ReflectliteType.abiMethod fun t => (fun a : Nat => Value.int IntKind.u8 (a : Int)) <$> Rtype.kind t) #[.pointer (some ⟨1, 28, none⟩)]).run Tryz.prog w = .ok (.int .u8 2) w := by kernel_rfl

theorem As.partsP (a : Addr) (w : World) : (ReflectliteValue.parts (.agg #[.pointer (some ⟨1, 122, none⟩), .pointer (some a), .int .u64 150])).run Tryz.prog w = .ok (some (122, a, 150)) w := by kernel_rfl
theorem As.isNilP (a p : Addr) (W : World) (ha : W.cell? a = some (.pointer (some p))) :
    (ReflectliteValue.method (ReflectliteValue.valueError "reflectlite.Value.IsNil" 0) ReflectliteValue.isNil #[.agg #[.pointer (some ⟨1, 122, none⟩), .pointer (some a), .int .u64 150]]).run Tryz.prog W = .ok (.bool false) W := by
  delta ReflectliteValue.method ReflectliteValue.method.match_2
  simp [Array.getLit, As.partsP, ReflectliteValue.isNil, loadVar, isAgg, underlying, Tryz.underlying122, ha, Result.andThen]

theorem As.methodElem (h : Value) (w : World) : (Go.method 336 177 (.agg #[h]) "Elem").run Tryz.prog w = .ok (165, .agg #[h]) w := by kernel_rfl
theorem As.methodImplements (h : Value) (w : World) : (Go.method 336 177 (.agg #[h]) "Implements").run Tryz.prog w = .ok (166, .agg #[h]) w := by kernel_rfl
theorem As.methodAssignableTo (h : Value) (w : World) : (Go.method 336 177 (.agg #[h]) "AssignableTo").run Tryz.prog w = .ok (163, .agg #[h]) w := by kernel_rfl
theorem As.elemP (w : World) : (ReflectliteType.method ReflectliteType.elem #[.agg #[.pointer (some ⟨1, 122, none⟩)]]).run Tryz.prog w = .ok (.iface 177 (.agg #[.pointer (some ⟨1, 28, none⟩)])) w := by kernel_rfl
theorem As.implementsE (w : World) : (ReflectliteType.relation "Implements" ReflectliteType.implements_ #[.agg #[.pointer (some ⟨1, 28, none⟩)], .iface 177 (.agg #[.pointer (some ⟨1, 34, none⟩)])]).run Tryz.prog w = .ok (.bool true) w := by kernel_rfl
theorem As.typeOfE (v : Value) (w : World) : (ReflectliteType.typeOf #[.iface 28 v]).run Tryz.prog w = .ok (.iface 177 (.agg #[.pointer (some ⟨1, 28, none⟩)])) w := by kernel_rfl
theorem As.assignableE (w : World) : (ReflectliteType.relation "AssignableTo" ReflectliteType.assignableTo #[.agg #[.pointer (some ⟨1, 28, none⟩)], .iface 177 (.agg #[.pointer (some ⟨1, 28, none⟩)])]).run Tryz.prog w = .ok (.bool true) w := by kernel_rfl
theorem As.valueOfE (n : Int) (w : World) : (ReflectliteValue.unpack (.iface 28 (.int .i64 n))).run Tryz.prog w
    = .ok (.agg #[.pointer (some ⟨1, 28, none⟩), .pointer (some ⟨w.heap.size, 0, none⟩), .int .u64 130]) (w.alloc (.cells #[.int .i64 n] 28)) := by kernel_rfl
theorem As.elemOfP (w : World) : (Rtype.elem? 122).run Tryz.prog w = .ok (some 28) w := by kernel_rfl
theorem As.mkE (p : Addr) (w : World) : (ReflectliteValue.mk 28 p ReflectliteValue.flagAddr).run Tryz.prog w = .ok (.agg #[.pointer (some ⟨1, 28, none⟩), .pointer (some p), .int .u64 386]) w := by kernel_rfl
theorem As.elemVP (a p : Addr) (W : World) (ha : W.cell? a = some (.pointer (some p))) :
    (ReflectliteValue.method (ReflectliteValue.valueError "reflectlite.Value.Elem" 0) ReflectliteValue.elem #[.agg #[.pointer (some ⟨1, 122, none⟩), .pointer (some a), .int .u64 150]]).run Tryz.prog W
      = .ok (.agg #[.pointer (some ⟨1, 28, none⟩), .pointer (some p), .int .u64 386]) W := by
  delta ReflectliteValue.method ReflectliteValue.method.match_2
  simp [Array.getLit, As.partsP, ReflectliteValue.elem, loadVar, isAgg, underlying, Tryz.underlying122, ha, Result.andThen, As.elemOfP, As.mkE]
theorem As.partsEa (a : Addr) (w : World) : (ReflectliteValue.parts (.agg #[.pointer (some ⟨1, 28, none⟩), .pointer (some a), .int .u64 386])).run Tryz.prog w = .ok (some (28, a, 386)) w := by kernel_rfl
theorem As.partsE (a : Addr) (w : World) : (ReflectliteValue.parts (.agg #[.pointer (some ⟨1, 28, none⟩), .pointer (some a), .int .u64 130])).run Tryz.prog w = .ok (some (28, a, 130)) w := by kernel_rfl
theorem As.directE (w : World) : (Rtype.directlyAssignable 28 28).run Tryz.prog w = .ok true w := by kernel_rfl
theorem As.setE (ta b : Addr) (n : Int) (old : Value) (W : World) (hb : W.cell? b = some (.int .i64 n)) (ht : W.cell? ta = some old) (hf : W.frozen? ta = false) :
    (ReflectliteValue.set #[.agg #[.pointer (some ⟨1, 28, none⟩), .pointer (some ta), .int .u64 386], .agg #[.pointer (some ⟨1, 28, none⟩), .pointer (some b), .int .u64 130]]).run Tryz.prog W
      = .ok (.tuple #[]) (W.setCell ta (.int .i64 n)) := by
  delta ReflectliteValue.set ReflectliteValue.set.match_3
  simp [Array.getLit, As.partsEa, As.partsE, ReflectliteValue.flagAddr, loadVar, isAgg, underlying, Tryz.underlying28, hb, Result.andThen, As.directE, storeVar, Value.cells, storeCells, Addr.add]
  rw [run_store Tryz.prog W ta _ _ (by rfl)]
  simp [ht, hf]

set_option maxHeartbeats 4000000 in
theorem as_errno (n : Int) (t : Addr) (old : Value) (w : World) (hg : w.cell? ⟨0, 0, none⟩ = some (.iface 177 (.agg #[.pointer (some ⟨1, 34, none⟩)]))) (ht0 : w.cell? t = some old) (hf0 : w.frozen? t = false) :
    Calls Tryz.prog 64 #[.iface 28 (.int .i64 n), .iface 122 (.pointer (some t))] w fun ev w' => ev = .returned (.bool true) ∧ w' = ((((w.alloc (.cells #[.pointer (some t)] 122)).alloc (.cells #[.pointer (some ⟨1, 122, none⟩), .pointer (some ⟨w.heap.size, 0, none⟩), .int .u64 150] 150)).alloc (.cells #[.pointer (some ⟨1, 122, none⟩), .pointer (some ⟨w.heap.size, 0, none⟩), .int .u64 150] 150)).alloc (.cells #[.int .i64 n] 28)).setCell t (.int .i64 n) := by
  have hF0 := @run_callFunc_extern Tryz.prog 88 _ (fun args => ReflectliteValue.unpack (args.getD 0 (.tuple #[]))) Tryz.func88 (by kernel_rfl) (by kernel_rfl) (by kernel_rfl) (by kernel_rfl)
  have hF1 := @run_callFunc_extern Tryz.prog 89 _ (ReflectliteValue.methodAny (ReflectliteValue.valueError "reflectlite.Value.Type" 0) (fun t _ _ _ => ReflectliteType.toType t)) Tryz.func89 (by kernel_rfl) (by kernel_rfl) (by kernel_rfl) (by kernel_rfl)
  have hF2 := @run_callFunc_extern Tryz.prog 90 _ (ReflectliteValue.method (ReflectliteValue.valueError "reflectlite.Value.IsNil" 0) ReflectliteValue.isNil) Tryz.func90 (by kernel_rfl) (by kernel_rfl) (by kernel_rfl) (by kernel_rfl)
  have hF3 := @run_callFunc_extern Tryz.prog 152 _ (ReflectliteType.abiMethod fun t => do pure (.int .u8 (← Rtype.kind t))) Tryz.func152 (by kernel_rfl) (by kernel_rfl) (by kernel_rfl) (by kernel_rfl)
  have hF4 := @run_callFunc_extern Tryz.prog 165 _ (ReflectliteType.method ReflectliteType.elem) Tryz.func165 (by kernel_rfl) (by kernel_rfl) (by kernel_rfl) (by kernel_rfl)
  have hF5 := @run_callFunc_extern Tryz.prog 166 _ (ReflectliteType.relation "Implements" ReflectliteType.implements_) Tryz.func166 (by kernel_rfl) (by kernel_rfl) (by kernel_rfl) (by kernel_rfl)
  have hF6 := @run_callFunc_extern Tryz.prog 104 _ ReflectliteType.typeOf Tryz.func104 (by kernel_rfl) (by kernel_rfl) (by kernel_rfl) (by kernel_rfl)
  have hF7 := @run_callFunc_extern Tryz.prog 163 _ (ReflectliteType.relation "AssignableTo" ReflectliteType.assignableTo) Tryz.func163 (by kernel_rfl) (by kernel_rfl) (by kernel_rfl) (by kernel_rfl)
  have hF8 := @run_callFunc_extern Tryz.prog 105 _ (ReflectliteValue.method (ReflectliteValue.valueError "reflectlite.Value.Elem" 0) ReflectliteValue.elem) Tryz.func105 (by kernel_rfl) (by kernel_rfl) (by kernel_rfl) (by kernel_rfl)
  have hF9 := @run_callFunc_extern Tryz.prog 106 _ ReflectliteValue.set Tryz.func106 (by kernel_rfl) (by kernel_rfl) (by kernel_rfl) (by kernel_rfl)
  have tO := As.typeOfE
  have mA := As.methodAssignableTo
  have aE := As.assignableE
  have vE := As.valueOfE
  have vP := As.valueOfP
  have tP := As.typeP
  have mK := As.methodKind
  have mE := As.methodElem
  have mI := As.methodImplements
  have kP := As.kindP
  have kE := As.kindE
  have eP := As.elemP
  have iE := As.implementsE
  have n8 := As.isNilP ⟨w.heap.size, 0, none⟩ t ((w.alloc (.cells #[.pointer (some t)] 122)).alloc (.cells #[.pointer (some ⟨1, 122, none⟩), .pointer (some ⟨w.heap.size, 0, none⟩), .int .u64 150] 150)) (by simp)
  have hlt : 0 < w.heap.size := by
    rcases Nat.lt_or_ge 0 w.heap.size with h | h
    · exact h
    · simp [World.cell?, Array.getElem?_eq_none h] at hg
  have hg2 : ((w.alloc (.cells #[.pointer (some t)] 122)).alloc (.cells #[.pointer (some ⟨1, 122, none⟩), .pointer (some ⟨w.heap.size, 0, none⟩), .int .u64 150] 150)).cell? ⟨0, 0, none⟩ = some (.iface 177 (.agg #[.pointer (some ⟨1, 34, none⟩)])) := by
    rw [World.cell?_alloc_lt _ _ ⟨0, 0, none⟩ (by simp <;> omega), World.cell?_alloc_lt _ _ ⟨0, 0, none⟩ hlt]; exact hg
  have htl : t.block < w.heap.size := by
    rcases Nat.lt_or_ge t.block w.heap.size with h | h
    · exact h
    · simp [World.cell?, Array.getElem?_eq_none h] at ht0
  have el := As.elemVP ⟨w.heap.size, 0, none⟩ t (((w.alloc (.cells #[.pointer (some t)] 122)).alloc (.cells #[.pointer (some ⟨1, 122, none⟩), .pointer (some ⟨w.heap.size, 0, none⟩), .int .u64 150] 150)).alloc (.cells #[.pointer (some ⟨1, 122, none⟩), .pointer (some ⟨w.heap.size, 0, none⟩), .int .u64 150] 150)) (by rw [World.cell?_alloc_lt _ _ ⟨w.heap.size, 0, none⟩ (by simp; omega)]; simp)
  have st := As.setE t ⟨w.heap.size + 1 + 1 + 1, 0, none⟩ n old ((((w.alloc (.cells #[.pointer (some t)] 122)).alloc (.cells #[.pointer (some ⟨1, 122, none⟩), .pointer (some ⟨w.heap.size, 0, none⟩), .int .u64 150] 150)).alloc (.cells #[.pointer (some ⟨1, 122, none⟩), .pointer (some ⟨w.heap.size, 0, none⟩), .int .u64 150] 150)).alloc (.cells #[.int .i64 n] 28))
    (by rw [World.cell?_alloc_at _ _ _ _ (by simp)]; rfl)
    (by rw [World.cell?_alloc_lt _ _ t (by simp; omega), World.cell?_alloc_lt _ _ t (by simp; omega), World.cell?_alloc_lt _ _ t (by simp; omega), World.cell?_alloc_lt _ _ t htl]; exact ht0)
    (by rw [World.frozen?_alloc_old _ _ t (by simp; omega), World.frozen?_alloc_old _ _ t (by simp; omega), World.frozen?_alloc_old _ _ t (by simp; omega), World.frozen?_alloc_old _ _ t (Nat.ne_of_lt htl)]; exact hf0)
  go_enter Tryz.func64, Tryz.ntmps64
  go_wp2
  refine wp_loop_rounds 1 ?_
  rw [rounds_succ]
  go_wp2
  go_ret
  exact ⟨rfl, rfl⟩
end Go.Proofs.YteogbpaaacmllaaGreatDoor
namespace Go.Proofs.YteogbpaaacmllaaGreatDoor
set_option maxRecDepth 20000
open Go.RowKit

/-- The library's handle of the type error in its variable. -/
def HandleAt (w : World) : Prop := w.cell? ⟨0, 0, none⟩ = some (.iface 177 (.agg #[.pointer (some ⟨1, 34, none⟩)]))

theorem size_of_cell' {w : World} {b o : Nat} {v : Value} (h : w.cell? ⟨b, o, none⟩ = some v) : b < w.heap.size := by
  by_cases hb : b < w.heap.size
  · exact hb
  · have e : w.heap[b]? = none := by simp; omega
    simp [World.cell?, e] at h

theorem HandleAt.later {w w' : World} (h : HandleAt w) (g : Gr w w') : HandleAt w' := (g.cell (size_of_cell' h)).trans h

theorem tell_nil (w : World) : Calls Tryz.prog 38 #[.nilIface] w fun e w' => e = .returned (.int .i64 0) ∧ w' = w := by
  go_enter Tryz.func38, Tryz.ntmps38
  go_wp2
  go_ret
  exact ⟨rfl, rfl⟩

theorem as_errno' (n : Int) (t : Addr) (old : Value) (w : World) (hg : HandleAt w) (ht0 : w.cell? t = some old) (hf0 : w.frozen? t = false) :
    Calls Tryz.prog 64 #[.iface 28 (.int .i64 n), .iface 122 (.pointer (some t))] w fun e w' => e = .returned (.bool true) ∧ ∃ W, Gr w W ∧ w' = W.setCell t (.int .i64 n) :=
  (as_errno n t old w hg ht0 hf0).mono fun _ _ ⟨he, hw⟩ => ⟨he, _, ((((Gr.refl w).alloc _ _).alloc _ _).alloc _ _).alloc _ _, hw⟩

theorem tell_errno (n : Int) (w : World) (hH : HandleAt w) :
    Calls Tryz.prog 38 #[.iface 28 (.int .i64 n)] w fun e w' => e = .returned (.int .i64 n) ∧ Gr w w' := by
  have H1 : Hid (HandleAt (w.alloc (.cells #[.int .i64 0] 28))) := hH.later ((Gr.refl w).alloc _ _)
  clear hH
  go_enter Tryz.func38, Tryz.ntmps38
  go_wp2_with fail
  refine (as_errno' n ⟨w.heap.size, 0, none⟩ (.int .i64 0) _ H1.out (by simp) ((frozen?_alloc_cells _ _ _ _).trans (frozen_past w (Nat.le_refl _)))).mono ?_
  rintro e w' ⟨rfl, W, hW, rfl⟩
  have hc : (W.setCell ⟨w.heap.size, 0, none⟩ (.int .i64 n)).cell? ⟨w.heap.size, 0, none⟩ = some (.int .i64 n) := by
    refine World.cell?_setCell_same _ _ _ (u := .int .i64 0) ?_
    rw [hW.cell (by simp)]
    simp
  have hG : Gr w (W.setCell ⟨w.heap.size, 0, none⟩ (.int .i64 n)) := (((Gr.refl w).alloc _ _).trans hW).setCell (Nat.le_refl _) _
  generalize W.setCell ⟨w.heap.size, 0, none⟩ (.int .i64 n) = W2 at hc hG
  clear hW H1
  go_wp2
  go_ret
  exact ⟨rfl, hG⟩

theorem place_nil (w : World) : Calls Tryz.prog 39 #[.nilIface] w fun e w' => e = .returned (.tuple #[.int .i64 0, .int .i64 (-1)]) ∧ w' = w := by
  go_enter Tryz.func39, Tryz.ntmps39
  go_wp2_with fail
  refine (tell_nil _).mono ?_
  rintro e w' ⟨rfl, rfl⟩
  go_wp2_with fail
  refine wp_loop_rounds 1 ?_
  rw [rounds_succ]
  go_wp2
  go_ret2
  exact ⟨rfl, rfl⟩

theorem noAt (n : Int) (w : World) : (Instr.typeAssert (.iface 28 (.int .i64 n)) 34 87 true).run Tryz.prog w = .ok (.tuple #[.pointer none, .bool false]) w := by kernel_rfl
theorem noUnwrap (n : Int) (w : World) : (Instr.typeAssert (.iface 28 (.int .i64 n)) 34 124 true).run Tryz.prog w = .ok (.tuple #[.nilIface, .bool false]) w :=
  run_typeAssert_lacksB Tryz.underlying124 (by kernel_rfl) (by kernel_rfl) _ _ w

theorem place_errno (n : Int) (w : World) (hH : HandleAt w) :
    Calls Tryz.prog 39 #[.iface 28 (.int .i64 n)] w fun e w' => e = .returned (.tuple #[.int .i64 n, .int .i64 (-1)]) ∧ Gr w w' := by
  have h1 := noAt n
  have h2 := noUnwrap n
  go_enter Tryz.func39, Tryz.ntmps39
  go_wp2_with fail
  refine (tell_errno n _ hH).mono ?_
  rintro e w' ⟨rfl, hG⟩
  clear hH
  go_wp2_with fail
  refine wp_loop_rounds 1 ?_
  rw [rounds_succ]
  go_wp2
  go_ret2
  exact ⟨rfl, hG⟩

end Go.Proofs.YteogbpaaacmllaaGreatDoor
namespace Go.Proofs.YteogbpaaacmllaaGreatDoor
set_option maxRecDepth 20000
open Go.RowKit Go.Extern.Stop Go.Stop Go.Extern

/-- An error at a place. -/
def atV (b : Nat) : Value := .iface 87 (.pointer (some ⟨b, 0, none⟩))
theorem At.typeOf (v : Value) (w : World) : (ReflectliteType.typeOf #[.iface 87 v]).run Tryz.prog w = .ok (.iface 177 (.agg #[.pointer (some ⟨1, 87, none⟩)])) w := by kernel_rfl
theorem At.assignable (w : World) : (ReflectliteType.relation "AssignableTo" ReflectliteType.assignableTo #[.agg #[.pointer (some ⟨1, 87, none⟩)], .iface 177 (.agg #[.pointer (some ⟨1, 28, none⟩)])]).run Tryz.prog w = .ok (.bool false) w := by kernel_rfl
theorem At.unwraps (v : Value) (w : World) : (Instr.typeAssert (.iface 87 v) 34 124 true).run Tryz.prog w = .ok (.tuple #[.iface 87 v, .bool true]) w :=
  run_typeAssert_hasB Tryz.underlying124 (by kernel_rfl) v _ w
theorem At.lacksAs (v : Value) (w : World) : (Instr.typeAssert (.iface 87 v) 34 182 true).run Tryz.prog w = .ok (.tuple #[.nilIface, .bool false]) w :=
  run_typeAssert_lacksB Tryz.underlying182 (by kernel_rfl) (by kernel_rfl) _ _ w
theorem At.methodUnwrap (h : Value) (w : World) : (Go.method 336 87 h "Unwrap").run Tryz.prog w = .ok (158, h) w := by kernel_rfl
theorem At.isAt (v : Value) (w : World) : (Instr.typeAssert (.iface 87 v) 34 87 true).run Tryz.prog w = .ok (.tuple #[v, .bool true]) w := by kernel_rfl
theorem At.unwrap (n : Int) (b : Nat) (w : World) (hc : w.cell? ⟨b, 0, none⟩ = some (.int .i64 n)) :
    Calls Tryz.prog 158 #[.pointer (some ⟨b, 0, none⟩)] w fun e w' => e = .returned (.iface 28 (.int .i64 n)) ∧ w' = w := by
  go_enter Tryz.func158, Tryz.ntmps158
  go_wp2
  go_ret
  exact ⟨rfl, rfl⟩
end Go.Proofs.YteogbpaaacmllaaGreatDoor
namespace Go.Proofs.YteogbpaaacmllaaGreatDoor
set_option maxRecDepth 20000
open Go.RowKit
theorem HandleAt.below {w a : World} (h : HandleAt w) (g : Below w.heap.size w a) : HandleAt a := by
  have h' : w.cell? ⟨0, 0, none⟩ = _ := h
  exact (g.cell (p := ⟨0, 0, none⟩) (size_of_cell' h')).trans h'
end Go.Proofs.YteogbpaaacmllaaGreatDoor
namespace Go.Proofs.YteogbpaaacmllaaGreatDoor.Tab
set_option maxRecDepth 20000
open Go.RowKit
set_option linter.unusedVariables false

/-- one, of an ask that is answered. -/
theorem one_ok {r : Nat → Nat} (U : ∀ j, j < 32 → r j < 18446744073709551616) {a : AK} (h : Oka r a) (w : World) :
    Calls Tryz.prog 37 #[.agg (rl r).toArray, .agg #[.int .i64 a.t, .int .i64 a.g, .int .i64 a.o, .int .i64 a.k, .int .i64 a.x]] w (fun e w' => ∃ u, e = .returned (.tuple #[.agg (rl (nx r a)).toArray, u, .nilIface]) ∧ Dn w' u (nd' r a) ∧ Below w.heap.size w w') := by
  obtain ⟨t, g, o, k, x⟩ := a
  obtain ⟨⟨⟨t0, t4⟩, hg⟩, h⟩ := h
  dsimp only at t0 t4 hg h ⊢
  obtain ⟨n, rfl⟩ : ∃ n : Nat, t = n := ⟨t.toNat, by omega⟩
  have hn : n < 4 := by omega
  rw [show ((n : Nat) : Int).toNat = n from rfl] at h
  by_cases hs : g = (bt r n : Nat)
  · rw [nx_shut (a := ⟨(n : Nat), g, o, k, x⟩) hs, nd_shut (a := ⟨(n : Nat), g, o, k, x⟩) hs]
    exact (one_shut U hn hg o k x hs w).mono fun e w' ⟨he, hb⟩ => ⟨_, he, Or.inl ⟨rfl, rfl⟩, hb⟩
  · rw [nx_open (a := ⟨(n : Nat), g, o, k, x⟩) hs, nd_open (a := ⟨(n : Nat), g, o, k, x⟩) hs]
    obtain ⟨hr, hR⟩ := h.resolve_left hs
    exact (one_yes U hn hg hs hr hR w).mono fun e w' ⟨b, he, _, hB, hb⟩ => ⟨_, he, Or.inr ⟨b, _, rfl, rfl, hB⟩, hb⟩
/-- one, of an ask that is not. -/
theorem one_err {r : Nat → Nat} (U : ∀ j, j < 32 → r j < 18446744073709551616) {a : AK} {ev : Int} (h : Bad r a ev) : ∃ s, ∀ w : World,
    Calls Tryz.prog 37 #[.agg (rl r).toArray, .agg #[.int .i64 a.t, .int .i64 a.g, .int .i64 a.o, .int .i64 a.k, .int .i64 a.x]] w (fun e w' => e = .returned (.tuple #[.agg (rl s).toArray, .slice none 0 0, .iface 28 (.int .i64 ev)]) ∧ Below w.heap.size w w') := by
  obtain ⟨t, g, o, k, x⟩ := a
  rcases h with ⟨ht, rfl⟩ | ⟨⟨t0, t4⟩, hg, rfl⟩ | ⟨⟨⟨t0, t4⟩, hg⟩, hs, hn, rfl⟩
  · exact ⟨r, fun w => one_bad (fun w => open_range r ht g o k x w) w⟩
  · exact ⟨r, fun w => one_bad (fun w => open_arg r t0 t4 hg o k x w) w⟩
  · dsimp only at t0 t4 hg hs hn ⊢
    obtain ⟨n, rfl⟩ : ∃ n : Nat, t = n := ⟨t.toNat, by omega⟩
    exact ⟨wz, fun w => one_not U (by omega) hg hs hn w⟩
theorem st_u64 {r : Nat → Nat} (hr : isRec r) {q : Nat → AK} : ∀ {i}, (∀ j, j < i → Oka (st r q j) (q j)) → ∀ j, j < 32 → st r q i j < 18446744073709551616
  | 0, _ => hr.u64
  | i + 1, h => by
    have ho := h i (Nat.lt_succ_self i)
    have ih := st_u64 hr (i := i) fun j hj => h j (Nat.lt_succ_of_lt hj)
    show ∀ j, j < 32 → nx (st r q i) (q i) j < 18446744073709551616
    by_cases hs : (q i).g = (bt (st r q i) (q i).t.toNat : Nat)
    · rw [nx_shut hs]; exact ih
    · rw [nx_open hs]
      obtain ⟨h1, h2⟩ := ho.2.resolve_left hs
      exact rdo_u h1 h2 (by have := ho.1.1; omega)
theorem st_27 {r : Nat → Nat} (hr : isRec r) {q : Nat → AK} : ∀ {i}, (∀ j, j < i → Oka (st r q j) (q j)) → st r q i 27 < 18446744073709551615
  | 0, _ => by have := hr.2.2.2.2.2.1; show r 27 < _; omega
  | i + 1, h => by
    have ho := h i (Nat.lt_succ_self i)
    have ih := st_27 hr (i := i) fun j hj => h j (Nat.lt_succ_of_lt hj)
    show nx (st r q i) (q i) 27 < 18446744073709551615
    by_cases hs : (q i).g = (bt (st r q i) (q i).t.toNat : Nat)
    · rw [nx_shut hs]; exact ih
    · rw [nx_open hs, rdo_27 (by have := ho.1.1; omega)]; exact ih
set_option maxHeartbeats 2000000 in
theorem do_not {r : Nat → Nat} (U : ∀ j, j < 32 → r j < 18446744073709551616) (h : ¬ isRec r) (a : Option Addr) (m c : Nat) (w : World) :
    Calls Tryz.prog 8 #[.agg (rl r).toArray, .slice a m c] w (fun e w' => e = .returned (.tuple #[.agg (rl wz).toArray, .slice none 0 0, .iface 28 (.int .i64 1)]) ∧ Below w.heap.size w w') := by
  have RI : Hid (∀ w : World, _) := recRight_is U (v := false) ⟨fun e => (by cases e), fun e => absurd e h⟩
  clear h U
  have hM : Hid _ := (((Ms.nil w).born (rl r) 24 (b := w.heap.size) rfl).bornR rl_zero.symm 24 (b := w.heap.size + 1) (by simp))
  go_enter Tryz.func8, Tryz.ntmps8
  go_wp2_with (first
    | (refine lR rfl (hM.out.at 1 rfl) rfl (rwR r) ?_))
  generalize World.alloc _ _ = W at hM ⊢
  generalize hsz : w.heap.size = n at hM ⊢
  clear hsz
  refine (RI.out _).mono ?_
  rintro e W ⟨rfl, hb⟩
  replace hM := hid (hM.out.later hb)
  clear hb
  go_wp2_with (first
    | (refine sR rfl (hM.out.at 0 rfl) rfl ((rwR wz).len (rwR wz)) (rwR wz) ?_
       replace hM := hid (hM.out.put 0 rfl (rl wz) ((rwR wz).len (rwR wz)))
       generalize World.setCells _ _ _ _ = W at hM ⊢))
  exact bodyPost_ret (res1ss Tryz.results8 (hM.out.at 0 rfl) (rwR wz) (.slice none 0 0) (.iface 28 (.int .i64 1))) rfl ⟨rfl, hM.out.below⟩
set_option maxHeartbeats 4000000 in
theorem do_nil {r : Nat → Nat} (hr : isRec r) (w : World) :
    Calls Tryz.prog 8 #[.agg (rl r).toArray, .slice none 0 0] w (fun e w' => e = .returned (.tuple #[.agg (rl (bump r)).toArray, .slice none 0 0, .nilIface]) ∧ Below w.heap.size w w') := by
  have V27 : Hid (r 27 < 18446744073709551615) := hid (by have := hr.2.2.2.2.2.1; omega)
  have RI : Hid (∀ w : World, _) := recRight_is hr.u64 (v := true) ⟨fun _ => hr, fun _ => rfl⟩
  have hM : Hid _ := (((Ms.nil w).born (rl r) 24 (b := w.heap.size) rfl).bornR rl_zero.symm 24 (b := w.heap.size + 1) (by simp))
  go_enter Tryz.func8, Tryz.ntmps8
  go_wp2_with (first
    | (refine lR rfl (hM.out.at 1 rfl) rfl (rwR r) ?_))
  generalize World.alloc _ _ = W at hM ⊢
  generalize hsz : w.heap.size = n0 at hM ⊢
  have HSZ : Hid _ := hsz
  clear hsz
  refine (RI.out _).mono ?_
  rintro e W ⟨rfl, hb⟩
  replace hM := hid (hM.out.later hb)
  clear hb
  go_wp2_with fail
  clear hr
  go_loopg [7, 20] 0 (fun gg s7 s20 wt => wt = W ∧ s7 = .slice none 0 0 ∧ s20 = .int .i64 0)
  case atStart => exact ⟨rfl, rfl, rfl⟩
  case round =>
    obtain ⟨hw, rfl, rfl⟩ := hrel
    rw [hw]; clear hw wr
    obtain ⟨vn, hvn⟩ : ∃ v, v = r 27 := ⟨_, rfl⟩
    have w27 : IntKind.u64.wrap ((vn : Int) + 1) = ((vn + 1 : Nat) : Int) := by rw [IntKind.wrap_u64]; have := V27.out; omega
    obtain ⟨v1, hv1⟩ : ∃ v, v = vn + 1 := ⟨_, rfl⟩
    rw [← hv1] at w27
    have HB : Hid (rl (upw r 27 v1) = rl (bump r)) := by rw [hv1, hvn]; rfl
    have x1 := (hM.out.at 1 rfl).rwordx (show 27 < 32 by decide) hvn.symm
    clear hvn hv1
    go_wp2_with (first
      | (refine s1 rfl (hM.out.at 1 rfl) 27 rfl (.int .u64 (v1 : Nat)) rfl sz_u ?_ (by rw [rl_length]; decide)
         replace hM := hid (hM.out.put1 1 27 rfl (.int .u64 (v1 : Nat)) (rl (upw r 27 v1)) (by rw [rl_length]; decide) (rl_set _ _ (by decide)))
         generalize World.setCell _ _ _ = W at hM ⊢
         clear x1)
      | (refine lR rfl (hM.out.at 1 rfl) rfl (rwR (upw r 27 v1)) ?_)
      | (refine sR rfl (hM.out.at 0 rfl) rfl ((rwR wz).len (rwR (upw r 27 v1))) (rwR (upw r 27 v1)) ?_
         replace hM := hid (hM.out.put 0 rfl (rl (upw r 27 v1)) ((rwR wz).len (rwR (upw r 27 v1))))
         generalize World.setCells _ _ _ _ = W at hM ⊢))
    exact bodyPost_ret (res1ss Tryz.results8 (hM.out.at 0 rfl) (rwR (upw r 27 v1)) (.slice none 0 0) (.nilIface)) rfl ⟨by rw [HB.out], hM.out.below⟩
set_option maxHeartbeats 4000000 in
theorem do_none {r : Nat → Nat} (hr : isRec r) (a : Addr) (c : Nat) (w : World) :
    Calls Tryz.prog 8 #[.agg (rl r).toArray, .slice (some a) 0 c] w (fun e w' => e = .returned (.tuple #[.agg (rl (bump r)).toArray, .slice none 0 0, .nilIface]) ∧ Below w.heap.size w w') := by
  have V27 : Hid (r 27 < 18446744073709551615) := hid (by have := hr.2.2.2.2.2.1; omega)
  have RI : Hid (∀ w : World, _) := recRight_is hr.u64 (v := true) ⟨fun _ => hr, fun _ => rfl⟩
  have hM : Hid _ := (((Ms.nil w).born (rl r) 24 (b := w.heap.size) rfl).bornR rl_zero.symm 24 (b := w.heap.size + 1) (by simp))
  go_enter Tryz.func8, Tryz.ntmps8
  go_wp2_with (first
    | (refine lR rfl (hM.out.at 1 rfl) rfl (rwR r) ?_))
  generalize World.alloc _ _ = W at hM ⊢
  generalize hsz : w.heap.size = n0 at hM ⊢
  have HSZ : Hid _ := hsz
  clear hsz
  refine (RI.out _).mono ?_
  rintro e W ⟨rfl, hb⟩
  replace hM := hid (hM.out.later hb)
  clear hb
  go_wp2_with fail
  clear hr
  go_loopg [7, 20] 0 (fun gg s7 s20 wt => wt = W ∧ s7 = .slice none 0 0 ∧ s20 = .int .i64 0)
  case atStart => exact ⟨rfl, rfl, rfl⟩
  case round =>
    obtain ⟨hw, rfl, rfl⟩ := hrel
    rw [hw]; clear hw wr
    obtain ⟨vn, hvn⟩ : ∃ v, v = r 27 := ⟨_, rfl⟩
    have w27 : IntKind.u64.wrap ((vn : Int) + 1) = ((vn + 1 : Nat) : Int) := by rw [IntKind.wrap_u64]; have := V27.out; omega
    obtain ⟨v1, hv1⟩ : ∃ v, v = vn + 1 := ⟨_, rfl⟩
    rw [← hv1] at w27
    have HB : Hid (rl (upw r 27 v1) = rl (bump r)) := by rw [hv1, hvn]; rfl
    have x1 := (hM.out.at 1 rfl).rwordx (show 27 < 32 by decide) hvn.symm
    clear hvn hv1
    go_wp2_with (first
      | (refine s1 rfl (hM.out.at 1 rfl) 27 rfl (.int .u64 (v1 : Nat)) rfl sz_u ?_ (by rw [rl_length]; decide)
         replace hM := hid (hM.out.put1 1 27 rfl (.int .u64 (v1 : Nat)) (rl (upw r 27 v1)) (by rw [rl_length]; decide) (rl_set _ _ (by decide)))
         generalize World.setCell _ _ _ = W at hM ⊢
         clear x1)
      | (refine lR rfl (hM.out.at 1 rfl) rfl (rwR (upw r 27 v1)) ?_)
      | (refine sR rfl (hM.out.at 0 rfl) rfl ((rwR wz).len (rwR (upw r 27 v1))) (rwR (upw r 27 v1)) ?_
         replace hM := hid (hM.out.put 0 rfl (rl (upw r 27 v1)) ((rwR wz).len (rwR (upw r 27 v1))))
         generalize World.setCells _ _ _ _ = W at hM ⊢))
    exact bodyPost_ret (res1ss Tryz.results8 (hM.out.at 0 rfl) (rwR (upw r 27 v1)) (.slice none 0 0) (.nilIface)) rfl ⟨by rw [HB.out], hM.out.below⟩
set_option maxHeartbeats 16000000 in
theorem do_some {r : Nat → Nat} (hr : isRec r) {b off c n m : Nat} {q : Nat → AK} (h0 : 0 < n) (hc : n ≤ c) (hn : n ≤ 1000000) (hm : m = n) (hO : ∀ j, j < m → Oka (st r q j) (q j)) (w : World) (D : Aq w (.slice (some ⟨b, off, none⟩) n c) n q) :
    Calls Tryz.prog 8 #[.agg (rl r).toArray, .slice (some ⟨b, off, none⟩) n c] w (fun e w' => ∃ B v', w.heap.size ≤ B ∧ e = .returned (.tuple #[.agg (rl (bump (st r q m))).toArray, v', .nilIface]) ∧ Odd B w' v' (dn r q m) ∧ Below w.heap.size w w') := by
  have HE : Hid _ := hid D.all
  clear D
  have HU : Hid (∀ i, i ≤ m → ∀ j, j < 32 → st r q i j < 18446744073709551616) := fun i hi => st_u64 hr fun j hj => hO j (by omega)
  have HO : Hid _ := hO
  have HC : Hid (n ≤ c ∧ n ≤ 1000000 ∧ m ≤ n) := ⟨hc, hn, by omega⟩
  have V27 : Hid (st r q m 27 < 18446744073709551615) := hid (st_27 hr hO)
  have HM : Hid (m = n) := hm
  clear hO
  have RI : Hid (∀ w : World, _) := recRight_is hr.u64 (v := true) ⟨fun _ => hr, fun _ => rfl⟩
  have hM : Hid _ := (((Ms.nil w).born (rl r) 24 (b := w.heap.size) rfl).bornR rl_zero.symm 24 (b := w.heap.size + 1) (by simp))
  go_enter Tryz.func8, Tryz.ntmps8
  go_wp2_with (first
    | (refine lR rfl (hM.out.at 1 rfl) rfl (rwR r) ?_))
  generalize World.alloc _ _ = W at hM ⊢
  generalize hsz : w.heap.size = n0 at hM ⊢
  have HSZ : Hid _ := hsz
  clear hsz
  refine (RI.out _).mono ?_
  rintro e W ⟨rfl, hb⟩
  replace hM := hid (hM.out.later hb)
  clear hb
  go_wp2_with fail
  clear hr hc h0 hn hm
  go_loopg [7, 20] m (fun gg s7 s20 wt => ∃ i : Nat, i ≤ m ∧ m - i ≤ gg ∧ s20 = .int .i64 i ∧ Hid (Odd (n0 + 2) wt s7 (dn r q i)) ∧ Hid (Ms n0 w wt [(n0, rl (st r q i)), (n0 + 1, rl wz)] []))
  case atStart => exact ⟨0, by omega, by omega, rfl, Odd.nil _ _, hM.out.pick [1, 0]⟩
  case round =>
    clear hM
    obtain ⟨i, hi, hgg, rfl, hO, hM⟩ := hrel
    obtain ⟨W, rfl⟩ : ∃ q, q = wr := ⟨_, rfl⟩
    by_cases hlt : i < m
    · have hi1 : (i : Int) < (n : Int) := by have := HC.out; omega
      have hi0 : (0 : Int) ≤ (i : Int) := by omega
      obtain ⟨t, g, o, k, x, hq, hr⟩ := HE.out W hM.out.below i (by have := HC.out; omega)
      have RA : Hid _ := hr
      clear hr
      have ONE := one_ok (HU.out i (by omega)) (HO.out i hlt)
      rw [hq] at ONE
      have e1 : st r q (i + 1) = nx (st r q i) ⟨t, g, o, k, x⟩ := by show nx (st r q i) (q i) = _; rw [hq]
      have e2 : dn r q (i + 1) = dn r q i ++ nd' (st r q i) ⟨t, g, o, k, x⟩ := by show dn r q i ++ nd' (st r q i) (q i) = _; rw [hq]
      have HL : Hid ((dn r q i).length ≤ 1000000) := hid (by have := dn_length r q i; have := HC.out; omega)
      obtain ⟨si, hsi⟩ : ∃ c, c = st r q i := ⟨_, rfl⟩
      obtain ⟨li, hli⟩ : ∃ c, c = dn r q i := ⟨_, rfl⟩
      obtain ⟨sn, hsn⟩ : ∃ c, c = st r q (i + 1) := ⟨_, rfl⟩
      obtain ⟨mi, hmi⟩ : ∃ c, c = nd' (st r q i) ⟨t, g, o, k, x⟩ := ⟨_, rfl⟩
      rw [← hsn] at e1
      rw [← hmi, ← hli] at e2
      rw [← e1, ← hmi, ← hsi] at ONE
      rw [← hsi] at hM
      rw [← hli] at hO HL
      have HSN : Hid _ := hsn
      have HE2 : Hid _ := e2
      have ON : Hid _ := ONE
      clear ONE e1 e2 hsi hli hsn hmi hq
      have hOl : Hid (∀ g, u7.ownBlock = some g → g < W.heap.size) := fun g hg => (hO.out.lt g hg).2
      replace hO := hid (hO.out.new (.cells #[.int .i64 0, .int .i64 0, .int .i64 0, .int .i64 0, .int .i64 0] 52))
      obtain ⟨ba, hba⟩ : ∃ q, q = W.heap.size := ⟨_, rfl⟩
      have HBA : Hid _ := hba
      clear hba
      go_wp2_with (first
        | (refine lO rfl RA.out rfl (rwAk t g o k x) ?_)
        | (rw [← HBA.out]
           replace hM := hid (hM.out.born [.int .i64 0, .int .i64 0, .int .i64 0, .int .i64 0, .int .i64 0] 52 HBA.out)
           refine sR rfl (hM.out.at 0 rfl) rfl ((rwAk 0 0 0 0 0).len (rwAk t g o k x)) (rwAk t g o k x) ?_
           replace hO := hid (hO.out.asideL (c := ba) (fun g hg => by have := hOl.out g hg; have := HBA.out; omega) 0 [.int .i64 t, .int .i64 g, .int .i64 o, .int .i64 k, .int .i64 x])
           replace hM := hid (hM.out.put 0 rfl [.int .i64 t, .int .i64 g, .int .i64 o, .int .i64 k, .int .i64 x] ((rwAk 0 0 0 0 0).len (rwAk t g o k x)))
           generalize World.setCells _ _ _ _ = W at hM hO ⊢)
        | (refine lR rfl (hM.out.at 1 rfl) rfl (rwR si) ?_)
        | (refine lR rfl (hM.out.at 0 rfl) rfl (rwAk t g o k x) ?_))
      refine (ON.out _).mono ?_
      rintro e W ⟨u, rfl, hD, hb⟩
      replace hO := hid (hO.out.later hb)
      replace hD := hid hD
      replace hM := hid (hM.out.later hb)
      clear hb
      have hOl : Hid (∀ g, u7.ownBlock = some g → g < W.heap.size) := fun g hg => (hO.out.lt g hg).2
      have hDl : Hid (∀ g, u.ownBlock = some g → g < W.heap.size) := fun g hg => hD.out.lt g hg
      replace hO := hid (hO.out.new (.cells #[.int .u64 0, .int .u64 0, .int .u64 0, .int .u64 0, .int .u64 0, .int .u64 0, .int .u64 0, .int .u64 0, .int .u64 0, .int .u64 0, .int .u64 0, .int .u64 0, .int .u64 0, .int .u64 0, .int .u64 0, .int .u64 0, .int .u64 0, .int .u64 0, .int .u64 0, .int .u64 0, .int .u64 0, .int .u64 0, .int .u64 0, .int .u64 0, .int .u64 0, .int .u64 0, .int .u64 0, .int .u64 0, .int .u64 0, .int .u64 0, .int .u64 0, .int .u64 0] 24))
      replace hD := hid (hD.out.new (.cells #[.int .u64 0, .int .u64 0, .int .u64 0, .int .u64 0, .int .u64 0, .int .u64 0, .int .u64 0, .int .u64 0, .int .u64 0, .int .u64 0, .int .u64 0, .int .u64 0, .int .u64 0, .int .u64 0, .int .u64 0, .int .u64 0, .int .u64 0, .int .u64 0, .int .u64 0, .int .u64 0, .int .u64 0, .int .u64 0, .int .u64 0, .int .u64 0, .int .u64 0, .int .u64 0, .int .u64 0, .int .u64 0, .int .u64 0, .int .u64 0, .int .u64 0, .int .u64 0] 24))
      obtain ⟨bx1, hbx1⟩ : ∃ q, q = W.heap.size := ⟨_, rfl⟩
      replace hM := hid (hM.out.bornR rl_zero.symm 24 (b := bx1) hbx1)
      have Hbx1 : Hid _ := hbx1
      clear hbx1
      go_wp2_with (first
        | (rw [← Hbx1.out]; refine sR rfl (hM.out.at 0 rfl) rfl ((rwR wz).len (rwR sn)) (rwR sn) ?_
           replace hO := hid (hO.out.asideL (c := bx1) (fun g hg => by have := hOl.out g hg; have := Hbx1.out; omega) 0 (rl sn))
           replace hD := hid (hD.out.asideL (c := bx1) (fun g hg => by have := hDl.out g hg; have := Hbx1.out; omega) 0 (rl sn))
           replace hM := hid (hM.out.put 0 rfl (rl sn) ((rwR wz).len (rwR sn)))
           generalize World.setCells _ _ _ _ = W at hM hO hD ⊢))
      have HXO : Hid (∀ g, u7.ownBlock = some g → g < bx1) := fun g hg => by have := hOl.out g hg; have := Hbx1.out; omega
      clear hOl hDl
      replace hM := hid (hM.out.drew)
      replace hO := hid (hO.out.drew)
      replace hD := hid (hD.out.drew)
      refine wp_region_held_drew (S := fun w' => Bo w' bx1 (rl sn)) (by kernel_rfl) (hM.out.at 0 rfl) (fun hH => ?_)
      generalize World.drew _ = W at hM hH hO hD ⊢
      refine tkR 0 rfl hH (fun _ h => h) (rwR sn) ?_
      simp only [Act.put, p1, p2, p3]
      refine tk 1 rfl hH ?_
      simp only [Act.put, p1, p2, p3]
      refine tk 2 rfl hH ?_
      simp only [Act.put, p1, p2, p3]
      refine rd1 3 rfl (fun K hK => ?_)
      obtain ⟨v9, w9, hr9, hO9, hg9⟩ := hO.out.app (Nat.le_trans (Nat.succ_le_of_lt (hM.out.len 3 rfl)) (Nat.le_refl _)) hD.out HL.out 27
      refine apK rfl hr9 ?_
      replace hM := hid ((hM.out.pick [0, 2, 3]).grown hg9 (fun g hg => ⟨Nat.le_trans (by omega) (hO.out.lt g hg).1, by have h1 := (hO.out.lt g hg).1; have h2 := HXO.out g hg; intro hmem; simp at hmem; rcases hmem with rfl | rfl | rfl <;> omega⟩))
      replace hO := hid hO9
      clear hr9 hO9 hg9 hD
      refine hK.out _ _ (hM.out.at 0 rfl) (fun hH => ?_)
      clear hK K
      generalize w9 = W at hM hH hO ⊢
      try simp only [Act.put, p1, p2, p3]
      refine rd1 4 rfl (fun K hK => ?_)
      refine stR rfl (hM.out.at 1 rfl) ((rwR si).len (rwR sn)) (rwR sn) ?_
      simp only [Act.put]
      replace hO := hid (hO.out.aside (show n0 < n0 + 2 by omega) 0 (rl sn))
      replace hM := hid (hM.out.put 1 rfl (rl sn) ((rwR si).len (rwR sn)))
      refine hK.out _ _ (hM.out.at 0 rfl) (fun hH => ?_)
      clear hK K
      generalize World.setCells _ _ _ _ = W at hM hH hO ⊢
      try simp only [Act.put, p1, p2, p3]
      refine tk 5 rfl hH ?_
      simp only [Act.put, p1, p2, p3]
      refine wpAnyH_done (by kernel_rfl) ?_ _
      go_wp2_with fail
      go_roundg (m - (i + 1))
      case measure => omega
      case rel => exact ⟨i + 1, by omega, by omega, by have := HC.out; have hw : wrap64 ((i : Int) + 1) = ((i + 1 : Nat) : Int) := (by unfold wrap64; omega); rw [hw], by rw [HE2.out]; exact hO, by rw [← HSN.out]; exact hM.out.pick [1, 2]⟩
    · obtain rfl : i = m := by omega
      have hi1 : ¬ (i : Int) < (n : Int) := by have := HM.out; omega
      obtain ⟨si, hsi⟩ : ∃ c, c = st r q i := ⟨_, rfl⟩
      rw [← hsi] at hM V27
      have HSI : Hid _ := hsi
      clear hsi
      obtain ⟨vn, hvn⟩ : ∃ v, v = si 27 := ⟨_, rfl⟩
      have w27 : IntKind.u64.wrap ((vn : Int) + 1) = ((vn + 1 : Nat) : Int) := by rw [IntKind.wrap_u64]; have := V27.out; omega
      obtain ⟨v1, hv1⟩ : ∃ v, v = vn + 1 := ⟨_, rfl⟩
      rw [← hv1] at w27
      have HB : Hid (rl (upw si 27 v1) = rl (bump si)) := by rw [hv1, hvn]; rfl
      have x1 := (hM.out.at 0 rfl).rwordx (show 27 < 32 by decide) hvn.symm
      clear hvn hv1
      go_wp2_with (first
        | (refine s1 rfl (hM.out.at 0 rfl) 27 rfl (.int .u64 (v1 : Nat)) rfl sz_u ?_ (by rw [rl_length]; decide)
           replace hM := hid (hM.out.put1 0 27 rfl (.int .u64 (v1 : Nat)) (rl (upw si 27 v1)) (by rw [rl_length]; decide) (rl_set _ _ (by decide)))
           replace hO := hid (hO.out.aside1 (show n0 < n0 + 2 by omega) 27 (.int .u64 (v1 : Nat)))
           generalize World.setCell _ _ _ = W at hM hO ⊢
           clear x1)
        | (refine lR rfl (hM.out.at 0 rfl) rfl (rwR (upw si 27 v1)) ?_)
        | (refine sR rfl (hM.out.at 1 rfl) rfl ((rwR wz).len (rwR (upw si 27 v1))) (rwR (upw si 27 v1)) ?_
           replace hM := hid (hM.out.put 1 rfl (rl (upw si 27 v1)) ((rwR wz).len (rwR (upw si 27 v1))))
           replace hO := hid (hO.out.aside (show n0 + 1 < n0 + 2 by omega) 0 (rl (upw si 27 v1)))
           generalize World.setCells _ _ _ _ = W at hM hO ⊢))
      exact bodyPost_ret (res1ss Tryz.results8 (hM.out.at 1 rfl) (rwR (upw si 27 v1)) u7 (.nilIface)) rfl ⟨n0 + 2, by rw [HSZ.out]; omega, u7, by rw [HB.out, HSI.out], hO.out, hM.out.below⟩
set_option maxHeartbeats 16000000 in
theorem do_bad {r : Nat → Nat} (hr : isRec r) {b off c n m : Nat} {q : Nat → AK} (h0 : 0 < n) (hc : n ≤ c) (hn : n ≤ 1000000) {ev : Int} (hm : m < n) (hO : ∀ j, j < m → Oka (st r q j) (q j)) (hB : Bad (st r q m) (q m) ev) (w : World) (D : Aq w (.slice (some ⟨b, off, none⟩) n c) n q) (hT : HandleAt w) :
    Calls Tryz.prog 8 #[.agg (rl r).toArray, .slice (some ⟨b, off, none⟩) n c] w (fun e w' => ∃ b, e = .returned (.tuple #[.agg (rl wz).toArray, .slice none 0 0, atV b]) ∧ w.heap.size ≤ b ∧ Bo w' b [.int .i64 ev, .int .i64 (m : Nat)] ∧ Below w.heap.size w w') := by
  have HE : Hid _ := hid D.all
  clear D
  have HU : Hid (∀ i, i ≤ m → ∀ j, j < 32 → st r q i j < 18446744073709551616) := fun i hi => st_u64 hr fun j hj => hO j (by omega)
  have HO : Hid _ := hO
  have HC : Hid (n ≤ c ∧ n ≤ 1000000 ∧ m ≤ n) := ⟨hc, hn, by omega⟩
  have HT : Hid (HandleAt w) := hT
  have HB : Hid _ := hB
  clear hT hB
  clear hO
  have RI : Hid (∀ w : World, _) := recRight_is hr.u64 (v := true) ⟨fun _ => hr, fun _ => rfl⟩
  have hM : Hid _ := (((Ms.nil w).born (rl r) 24 (b := w.heap.size) rfl).bornR rl_zero.symm 24 (b := w.heap.size + 1) (by simp))
  go_enter Tryz.func8, Tryz.ntmps8
  go_wp2_with (first
    | (refine lR rfl (hM.out.at 1 rfl) rfl (rwR r) ?_))
  generalize World.alloc _ _ = W at hM ⊢
  generalize hsz : w.heap.size = n0 at hM ⊢
  have HSZ : Hid _ := hsz
  clear hsz
  refine (RI.out _).mono ?_
  rintro e W ⟨rfl, hb⟩
  replace hM := hid (hM.out.later hb)
  clear hb
  go_wp2_with fail
  clear hr hc h0 hn
  go_loopg [7, 20] m (fun gg s7 s20 wt => ∃ i : Nat, i ≤ m ∧ m - i ≤ gg ∧ s20 = .int .i64 i ∧ Hid (Odd (n0 + 2) wt s7 (dn r q i)) ∧ Hid (Ms n0 w wt [(n0, rl (st r q i)), (n0 + 1, rl wz)] []))
  case atStart => exact ⟨0, by omega, by omega, rfl, Odd.nil _ _, hM.out.pick [1, 0]⟩
  case round =>
    clear hM
    obtain ⟨i, hi, hgg, rfl, hO, hM⟩ := hrel
    obtain ⟨W, rfl⟩ : ∃ q, q = wr := ⟨_, rfl⟩
    by_cases hlt : i < m
    · have hi1 : (i : Int) < (n : Int) := by have := HC.out; omega
      have hi0 : (0 : Int) ≤ (i : Int) := by omega
      obtain ⟨t, g, o, k, x, hq, hr⟩ := HE.out W hM.out.below i (by have := HC.out; omega)
      have RA : Hid _ := hr
      clear hr
      have ONE := one_ok (HU.out i (by omega)) (HO.out i hlt)
      rw [hq] at ONE
      have e1 : st r q (i + 1) = nx (st r q i) ⟨t, g, o, k, x⟩ := by show nx (st r q i) (q i) = _; rw [hq]
      have e2 : dn r q (i + 1) = dn r q i ++ nd' (st r q i) ⟨t, g, o, k, x⟩ := by show dn r q i ++ nd' (st r q i) (q i) = _; rw [hq]
      have HL : Hid ((dn r q i).length ≤ 1000000) := hid (by have := dn_length r q i; have := HC.out; omega)
      obtain ⟨si, hsi⟩ : ∃ c, c = st r q i := ⟨_, rfl⟩
      obtain ⟨li, hli⟩ : ∃ c, c = dn r q i := ⟨_, rfl⟩
      obtain ⟨sn, hsn⟩ : ∃ c, c = st r q (i + 1) := ⟨_, rfl⟩
      obtain ⟨mi, hmi⟩ : ∃ c, c = nd' (st r q i) ⟨t, g, o, k, x⟩ := ⟨_, rfl⟩
      rw [← hsn] at e1
      rw [← hmi, ← hli] at e2
      rw [← e1, ← hmi, ← hsi] at ONE
      rw [← hsi] at hM
      rw [← hli] at hO HL
      have HSN : Hid _ := hsn
      have HE2 : Hid _ := e2
      have ON : Hid _ := ONE
      clear ONE e1 e2 hsi hli hsn hmi hq
      have hOl : Hid (∀ g, u7.ownBlock = some g → g < W.heap.size) := fun g hg => (hO.out.lt g hg).2
      replace hO := hid (hO.out.new (.cells #[.int .i64 0, .int .i64 0, .int .i64 0, .int .i64 0, .int .i64 0] 52))
      obtain ⟨ba, hba⟩ : ∃ q, q = W.heap.size := ⟨_, rfl⟩
      have HBA : Hid _ := hba
      clear hba
      go_wp2_with (first
        | (refine lO rfl RA.out rfl (rwAk t g o k x) ?_)
        | (rw [← HBA.out]
           replace hM := hid (hM.out.born [.int .i64 0, .int .i64 0, .int .i64 0, .int .i64 0, .int .i64 0] 52 HBA.out)
           refine sR rfl (hM.out.at 0 rfl) rfl ((rwAk 0 0 0 0 0).len (rwAk t g o k x)) (rwAk t g o k x) ?_
           replace hO := hid (hO.out.asideL (c := ba) (fun g hg => by have := hOl.out g hg; have := HBA.out; omega) 0 [.int .i64 t, .int .i64 g, .int .i64 o, .int .i64 k, .int .i64 x])
           replace hM := hid (hM.out.put 0 rfl [.int .i64 t, .int .i64 g, .int .i64 o, .int .i64 k, .int .i64 x] ((rwAk 0 0 0 0 0).len (rwAk t g o k x)))
           generalize World.setCells _ _ _ _ = W at hM hO ⊢)
        | (refine lR rfl (hM.out.at 1 rfl) rfl (rwR si) ?_)
        | (refine lR rfl (hM.out.at 0 rfl) rfl (rwAk t g o k x) ?_))
      refine (ON.out _).mono ?_
      rintro e W ⟨u, rfl, hD, hb⟩
      replace hO := hid (hO.out.later hb)
      replace hD := hid hD
      replace hM := hid (hM.out.later hb)
      clear hb
      have hOl : Hid (∀ g, u7.ownBlock = some g → g < W.heap.size) := fun g hg => (hO.out.lt g hg).2
      have hDl : Hid (∀ g, u.ownBlock = some g → g < W.heap.size) := fun g hg => hD.out.lt g hg
      replace hO := hid (hO.out.new (.cells #[.int .u64 0, .int .u64 0, .int .u64 0, .int .u64 0, .int .u64 0, .int .u64 0, .int .u64 0, .int .u64 0, .int .u64 0, .int .u64 0, .int .u64 0, .int .u64 0, .int .u64 0, .int .u64 0, .int .u64 0, .int .u64 0, .int .u64 0, .int .u64 0, .int .u64 0, .int .u64 0, .int .u64 0, .int .u64 0, .int .u64 0, .int .u64 0, .int .u64 0, .int .u64 0, .int .u64 0, .int .u64 0, .int .u64 0, .int .u64 0, .int .u64 0, .int .u64 0] 24))
      replace hD := hid (hD.out.new (.cells #[.int .u64 0, .int .u64 0, .int .u64 0, .int .u64 0, .int .u64 0, .int .u64 0, .int .u64 0, .int .u64 0, .int .u64 0, .int .u64 0, .int .u64 0, .int .u64 0, .int .u64 0, .int .u64 0, .int .u64 0, .int .u64 0, .int .u64 0, .int .u64 0, .int .u64 0, .int .u64 0, .int .u64 0, .int .u64 0, .int .u64 0, .int .u64 0, .int .u64 0, .int .u64 0, .int .u64 0, .int .u64 0, .int .u64 0, .int .u64 0, .int .u64 0, .int .u64 0] 24))
      obtain ⟨bx1, hbx1⟩ : ∃ q, q = W.heap.size := ⟨_, rfl⟩
      replace hM := hid (hM.out.bornR rl_zero.symm 24 (b := bx1) hbx1)
      have Hbx1 : Hid _ := hbx1
      clear hbx1
      go_wp2_with (first
        | (rw [← Hbx1.out]; refine sR rfl (hM.out.at 0 rfl) rfl ((rwR wz).len (rwR sn)) (rwR sn) ?_
           replace hO := hid (hO.out.asideL (c := bx1) (fun g hg => by have := hOl.out g hg; have := Hbx1.out; omega) 0 (rl sn))
           replace hD := hid (hD.out.asideL (c := bx1) (fun g hg => by have := hDl.out g hg; have := Hbx1.out; omega) 0 (rl sn))
           replace hM := hid (hM.out.put 0 rfl (rl sn) ((rwR wz).len (rwR sn)))
           generalize World.setCells _ _ _ _ = W at hM hO hD ⊢))
      have HXO : Hid (∀ g, u7.ownBlock = some g → g < bx1) := fun g hg => by have := hOl.out g hg; have := Hbx1.out; omega
      clear hOl hDl
      replace hM := hid (hM.out.drew)
      replace hO := hid (hO.out.drew)
      replace hD := hid (hD.out.drew)
      refine wp_region_held_drew (S := fun w' => Bo w' bx1 (rl sn)) (by kernel_rfl) (hM.out.at 0 rfl) (fun hH => ?_)
      generalize World.drew _ = W at hM hH hO hD ⊢
      refine tkR 0 rfl hH (fun _ h => h) (rwR sn) ?_
      simp only [Act.put, p1, p2, p3]
      refine tk 1 rfl hH ?_
      simp only [Act.put, p1, p2, p3]
      refine tk 2 rfl hH ?_
      simp only [Act.put, p1, p2, p3]
      refine rd1 3 rfl (fun K hK => ?_)
      obtain ⟨v9, w9, hr9, hO9, hg9⟩ := hO.out.app (Nat.le_trans (Nat.succ_le_of_lt (hM.out.len 3 rfl)) (Nat.le_refl _)) hD.out HL.out 27
      refine apK rfl hr9 ?_
      replace hM := hid ((hM.out.pick [0, 2, 3]).grown hg9 (fun g hg => ⟨Nat.le_trans (by omega) (hO.out.lt g hg).1, by have h1 := (hO.out.lt g hg).1; have h2 := HXO.out g hg; intro hmem; simp at hmem; rcases hmem with rfl | rfl | rfl <;> omega⟩))
      replace hO := hid hO9
      clear hr9 hO9 hg9 hD
      refine hK.out _ _ (hM.out.at 0 rfl) (fun hH => ?_)
      clear hK K
      generalize w9 = W at hM hH hO ⊢
      try simp only [Act.put, p1, p2, p3]
      refine rd1 4 rfl (fun K hK => ?_)
      refine stR rfl (hM.out.at 1 rfl) ((rwR si).len (rwR sn)) (rwR sn) ?_
      simp only [Act.put]
      replace hO := hid (hO.out.aside (show n0 < n0 + 2 by omega) 0 (rl sn))
      replace hM := hid (hM.out.put 1 rfl (rl sn) ((rwR si).len (rwR sn)))
      refine hK.out _ _ (hM.out.at 0 rfl) (fun hH => ?_)
      clear hK K
      generalize World.setCells _ _ _ _ = W at hM hH hO ⊢
      try simp only [Act.put, p1, p2, p3]
      refine tk 5 rfl hH ?_
      simp only [Act.put, p1, p2, p3]
      refine wpAnyH_done (by kernel_rfl) ?_ _
      go_wp2_with fail
      go_roundg (m - (i + 1))
      case measure => omega
      case rel => exact ⟨i + 1, by omega, by omega, by have := HC.out; have hw : wrap64 ((i : Int) + 1) = ((i + 1 : Nat) : Int) := (by unfold wrap64; omega); rw [hw], by rw [HE2.out]; exact hO, by rw [← HSN.out]; exact hM.out.pick [1, 2]⟩
    · obtain rfl : i = m := by omega
      have hi1 : (i : Int) < (n : Int) := by omega
      have hi0 : (0 : Int) ≤ (i : Int) := by omega
      obtain ⟨t, g, o, k, x, hq, hr⟩ := HE.out W hM.out.below i (by omega)
      have RA : Hid _ := hr
      clear hr
      obtain ⟨se, ONE⟩ := one_err (HU.out i (by omega)) HB.out
      rw [hq] at ONE
      obtain ⟨si, hsi⟩ : ∃ c, c = st r q i := ⟨_, rfl⟩
      rw [← hsi] at hM ONE
      have ON : Hid _ := ONE
      clear ONE hsi hq
      have hOl : Hid (∀ g, u7.ownBlock = some g → g < W.heap.size) := fun g hg => (hO.out.lt g hg).2
      replace hO := hid (hO.out.new (.cells #[.int .i64 0, .int .i64 0, .int .i64 0, .int .i64 0, .int .i64 0] 52))
      obtain ⟨ba, hba⟩ : ∃ q, q = W.heap.size := ⟨_, rfl⟩
      have HBA : Hid _ := hba
      clear hba
      go_wp2_with (first
        | (refine lO rfl RA.out rfl (rwAk t g o k x) ?_)
        | (rw [← HBA.out]
           replace hM := hid (hM.out.born [.int .i64 0, .int .i64 0, .int .i64 0, .int .i64 0, .int .i64 0] 52 HBA.out)
           refine sR rfl (hM.out.at 0 rfl) rfl ((rwAk 0 0 0 0 0).len (rwAk t g o k x)) (rwAk t g o k x) ?_
           replace hO := hid (hO.out.asideL (c := ba) (fun g hg => by have := hOl.out g hg; have := HBA.out; omega) 0 [.int .i64 t, .int .i64 g, .int .i64 o, .int .i64 k, .int .i64 x])
           replace hM := hid (hM.out.put 0 rfl [.int .i64 t, .int .i64 g, .int .i64 o, .int .i64 k, .int .i64 x] ((rwAk 0 0 0 0 0).len (rwAk t g o k x)))
           generalize World.setCells _ _ _ _ = W at hM hO ⊢)
        | (refine lR rfl (hM.out.at 1 rfl) rfl (rwR si) ?_)
        | (refine lR rfl (hM.out.at 0 rfl) rfl (rwAk t g o k x) ?_))
      clear hO hOl
      refine (ON.out _).mono ?_
      rintro e W ⟨rfl, hb⟩
      replace hM := hid (hM.out.later hb)
      clear hb
      obtain ⟨bx1, hbx1⟩ : ∃ q, q = W.heap.size := ⟨_, rfl⟩
      replace hM := hid (hM.out.bornR rl_zero.symm 24 (b := bx1) hbx1)
      have Hbx1 : Hid _ := hbx1
      clear hbx1
      go_wp2_with (first
        | (rw [← Hbx1.out]; refine sR rfl (hM.out.at 0 rfl) rfl ((rwR wz).len (rwR se)) (rwR se) ?_
           replace hM := hid (hM.out.put 0 rfl (rl se) ((rwR wz).len (rwR se)))
           generalize World.setCells _ _ _ _ = W at hM ⊢))
      refine (tell_errno ev _ (HT.out.below hM.out.below)).mono ?_
      rintro e W ⟨rfl, hg⟩
      have hb := hg.below
      replace hM := hid (hM.out.later hb)
      clear hb hg
      obtain ⟨bt0, hbt⟩ : ∃ q, q = W.heap.size := ⟨_, rfl⟩
      have HBT : Hid _ := hbt
      clear hbt
      go_wp2_with (first
        | (rw [← HBT.out]
           replace hM := hid (hM.out.born [.int .i64 ev, .int .i64 (i : Nat)] 90 HBT.out)
           refine sR rfl (hM.out.at 4 rfl) rfl ((rwR wz).len (rwR wz)) (rwR wz) ?_
           replace hM := hid (hM.out.put 4 rfl (rl wz) ((rwR wz).len (rwR wz)))
           generalize World.setCells _ _ _ _ = W at hM ⊢))
      exact bodyPost_ret (res1ss Tryz.results8 (hM.out.at 4 rfl) (rwR wz) (.slice none 0 0) (atV bt0)) rfl ⟨bt0, rfl, by rw [HSZ.out]; exact hM.out.key 0 rfl, (hM.out.at 0 rfl), hM.out.below⟩
/-- Do, of a record, and asks that are all answered. -/
theorem do_yes {r : Nat → Nat} (hr : isRec r) {v : Value} {n : Nat} {q : Nat → AK} {w : World} (D : Aq w v n q) (hn : n ≤ 1000000) (hO : ∀ j, j < n → Oka (st r q j) (q j)) :
    Calls Tryz.prog 8 #[.agg (rl r).toArray, v] w (fun e w' => ∃ B v', w.heap.size ≤ B ∧ e = .returned (.tuple #[.agg (rl (bump (st r q n))).toArray, v', .nilIface]) ∧ Odd B w' v' (dn r q n) ∧ Below w.heap.size w w') := by
  rcases id D with ⟨h0, a, c, hv, ha⟩ | ⟨b, off, c, hv, h0, hc, hm, _⟩
  · subst hv h0
    cases a with
    | none => obtain rfl := ha rfl; exact (do_nil hr w).mono fun e w' ⟨he, hb⟩ => ⟨_, _, Nat.le_refl _, he, Odd.nil _ _, hb⟩
    | some a => exact (do_none hr a c w).mono fun e w' ⟨he, hb⟩ => ⟨_, _, Nat.le_refl _, he, Odd.nil _ _, hb⟩
  · subst hv; exact do_some hr h0 hc hn rfl hO w D
end Go.Proofs.YteogbpaaacmllaaGreatDoor.Tab
