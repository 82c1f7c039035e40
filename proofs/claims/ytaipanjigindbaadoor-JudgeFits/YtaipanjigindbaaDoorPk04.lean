/- Texts laid together: errors.As at a target of type Errno, by its contracts (after the guide's worked text for a pointer target); An error taken apart: api.Tell, plain.Place, bare, at nil and at an Errno, by their contracts; An error at a place (api.At), taken apart: errors.As at a target of type Errno, api.Tell, plain.Place, by their contracts; errors.As at an error at a place, by its contract; The library's handle, behind all that a call lays; An error taken apart, at a place; the law placed, by its contracts; Histories as functions from numbers; their calls, and what of them is open (no program); An argument that is a list of events, or of deeds with their threads' numbers, as it lies in the call; A map whose keys are ints, and a row of calls of the call's own, as they lie; Which call has which deed: those t. -/
import Derived.Test.YtaipanjigindbaaDoorPk00
import Derived.Test.YtaipanjigindbaaDoorRows
import Derived.WalkKit
import Derived.LaidEql
import Derived.Stop.Asserts
import Derived.RowKitTokens
import Derived.Test.YtaipanjigindbaaDoorPk03
import Derived.Deep.DeepCutAuto
import Derived.Deep.RegionHeld3
import Derived.Test.YtaipanjigindbaaDoorPk02
import Derived.Maps.Own
import Derived.Maps.OwnSet
import Derived.Maps.Views
import Derived.Maps.OwnOps
namespace Go.Proofs.YtaipanjigindbaaDoor
set_option maxRecDepth 20000
open Go.RowKit Go.Extern.Stop Go.Stop Go.Extern

theorem As.valueOfP (t : Addr) (w : World) : (ReflectliteValue.unpack (.iface 122 (.pointer (some t)))).run Tryd.prog w
    = .ok (.agg #[.pointer (some ⟨1, 122, none⟩), .pointer (some ⟨w.heap.size, 0, none⟩), .int .u64 150]) (w.alloc (.cells #[.pointer (some t)] 122)) := by kernel_rfl
theorem As.typeP (a : Addr) (w : World) : (ReflectliteValue.methodAny (ReflectliteValue.valueError "reflectlite.Value.Type" 0) (fun t _ _ _ => ReflectliteType.toType t) #[.agg #[.pointer (some ⟨1, 122, none⟩), .pointer (some a), .int .u64 150]]).run Tryd.prog w
    = .ok (.iface 159 (.agg #[.pointer (some ⟨1, 122, none⟩)])) w := by kernel_rfl
theorem As.methodKind (h : Value) (w : World) : (Go.method 310 159 (.agg #[h]) "Kind").run Tryd.prog w = .ok (113, h) w := by kernel_rfl
theorem As.kindP (w : World) : ((ReflectliteType.abiMethod fun t => (fun a : Nat => Value.int IntKind.u8 (a : Int)) <$> Rtype.kind t) #[.pointer (some ⟨1, 122, none⟩)]).run Tryd.prog w = .ok (.int .u8 22) w := by kernel_rfl
theorem As.kindE (w : World) : ((ReflectliteType.abiMethod fun t => (fun a : Nat => Value.int IntKind.u8 (a : Int)) <$> Rtype.kind t) #[.pointer (some ⟨1, 24, none⟩)]).run Tryd.prog w = .ok (.int .u8 2) w := by kernel_rfl

theorem As.partsP (a : Addr) (w : World) : (ReflectliteValue.parts (.agg #[.pointer (some ⟨1, 122, none⟩), .pointer (some a), .int .u64 150])).run Tryd.prog w = .ok (some (122, a, 150)) w := by kernel_rfl
theorem As.isNilP (a p : Addr) (W : World) (ha : W.cell? a = some (.pointer (some p))) :
    (ReflectliteValue.method (ReflectliteValue.valueError "reflectlite.Value.IsNil" 0) ReflectliteValue.isNil #[.agg #[.pointer (some ⟨1, 122, none⟩), .pointer (some a), .int .u64 150]]).run Tryd.prog W = .ok (.bool false) W := by
  delta ReflectliteValue.method ReflectliteValue.method.match_2
  simp [Array.getLit, As.partsP, ReflectliteValue.isNil, loadVar, isAgg, underlying, Tryd.underlying122, ha, Result.andThen]

theorem As.methodElem (h : Value) (w : World) : (Go.method 310 159 (.agg #[h]) "Elem").run Tryd.prog w = .ok (126, .agg #[h]) w := by kernel_rfl
theorem As.methodImplements (h : Value) (w : World) : (Go.method 310 159 (.agg #[h]) "Implements").run Tryd.prog w = .ok (127, .agg #[h]) w := by kernel_rfl
theorem As.methodAssignableTo (h : Value) (w : World) : (Go.method 310 159 (.agg #[h]) "AssignableTo").run Tryd.prog w = .ok (124, .agg #[h]) w := by kernel_rfl
theorem As.elemP (w : World) : (ReflectliteType.method ReflectliteType.elem #[.agg #[.pointer (some ⟨1, 122, none⟩)]]).run Tryd.prog w = .ok (.iface 159 (.agg #[.pointer (some ⟨1, 24, none⟩)])) w := by kernel_rfl
theorem As.implementsE (w : World) : (ReflectliteType.relation "Implements" ReflectliteType.implements_ #[.agg #[.pointer (some ⟨1, 24, none⟩)], .iface 159 (.agg #[.pointer (some ⟨1, 33, none⟩)])]).run Tryd.prog w = .ok (.bool true) w := by kernel_rfl
theorem As.typeOfE (v : Value) (w : World) : (ReflectliteType.typeOf #[.iface 24 v]).run Tryd.prog w = .ok (.iface 159 (.agg #[.pointer (some ⟨1, 24, none⟩)])) w := by kernel_rfl
theorem As.assignableE (w : World) : (ReflectliteType.relation "AssignableTo" ReflectliteType.assignableTo #[.agg #[.pointer (some ⟨1, 24, none⟩)], .iface 159 (.agg #[.pointer (some ⟨1, 24, none⟩)])]).run Tryd.prog w = .ok (.bool true) w := by kernel_rfl
theorem As.valueOfE (n : Int) (w : World) : (ReflectliteValue.unpack (.iface 24 (.int .i64 n))).run Tryd.prog w
    = .ok (.agg #[.pointer (some ⟨1, 24, none⟩), .pointer (some ⟨w.heap.size, 0, none⟩), .int .u64 130]) (w.alloc (.cells #[.int .i64 n] 24)) := by kernel_rfl
theorem As.elemOfP (w : World) : (Rtype.elem? 122).run Tryd.prog w = .ok (some 24) w := by kernel_rfl
theorem As.mkE (p : Addr) (w : World) : (ReflectliteValue.mk 24 p ReflectliteValue.flagAddr).run Tryd.prog w = .ok (.agg #[.pointer (some ⟨1, 24, none⟩), .pointer (some p), .int .u64 386]) w := by kernel_rfl
theorem As.elemVP (a p : Addr) (W : World) (ha : W.cell? a = some (.pointer (some p))) :
    (ReflectliteValue.method (ReflectliteValue.valueError "reflectlite.Value.Elem" 0) ReflectliteValue.elem #[.agg #[.pointer (some ⟨1, 122, none⟩), .pointer (some a), .int .u64 150]]).run Tryd.prog W
      = .ok (.agg #[.pointer (some ⟨1, 24, none⟩), .pointer (some p), .int .u64 386]) W := by
  delta ReflectliteValue.method ReflectliteValue.method.match_2
  simp [Array.getLit, As.partsP, ReflectliteValue.elem, loadVar, isAgg, underlying, Tryd.underlying122, ha, Result.andThen, As.elemOfP, As.mkE]
theorem As.partsEa (a : Addr) (w : World) : (ReflectliteValue.parts (.agg #[.pointer (some ⟨1, 24, none⟩), .pointer (some a), .int .u64 386])).run Tryd.prog w = .ok (some (24, a, 386)) w := by kernel_rfl
theorem As.partsE (a : Addr) (w : World) : (ReflectliteValue.parts (.agg #[.pointer (some ⟨1, 24, none⟩), .pointer (some a), .int .u64 130])).run Tryd.prog w = .ok (some (24, a, 130)) w := by kernel_rfl
theorem As.directE (w : World) : (Rtype.directlyAssignable 24 24).run Tryd.prog w = .ok true w := by kernel_rfl
theorem As.setE (ta b : Addr) (n : Int) (old : Value) (W : World) (hb : W.cell? b = some (.int .i64 n)) (ht : W.cell? ta = some old) (hf : W.frozen? ta = false) :
    (ReflectliteValue.set #[.agg #[.pointer (some ⟨1, 24, none⟩), .pointer (some ta), .int .u64 386], .agg #[.pointer (some ⟨1, 24, none⟩), .pointer (some b), .int .u64 130]]).run Tryd.prog W
      = .ok (.tuple #[]) (W.setCell ta (.int .i64 n)) := by
  delta ReflectliteValue.set ReflectliteValue.set.match_3
  simp [Array.getLit, As.partsEa, As.partsE, ReflectliteValue.flagAddr, loadVar, isAgg, underlying, Tryd.underlying24, hb, Result.andThen, As.directE, storeVar, Value.cells, storeCells, Addr.add]
  rw [run_store Tryd.prog W ta _ _ (by rfl)]
  simp [ht, hf]

set_option maxHeartbeats 4000000 in
theorem as_errno (n : Int) (t : Addr) (old : Value) (w : World) (hg : w.cell? ⟨0, 0, none⟩ = some (.iface 159 (.agg #[.pointer (some ⟨1, 33, none⟩)]))) (ht0 : w.cell? t = some old) (hf0 : w.frozen? t = false) :
    Calls Tryd.prog 44 #[.iface 24 (.int .i64 n), .iface 122 (.pointer (some t))] w fun ev w' => ev = .returned (.bool true) ∧ w' = ((((w.alloc (.cells #[.pointer (some t)] 122)).alloc (.cells #[.pointer (some ⟨1, 122, none⟩), .pointer (some ⟨w.heap.size, 0, none⟩), .int .u64 150] 135)).alloc (.cells #[.pointer (some ⟨1, 122, none⟩), .pointer (some ⟨w.heap.size, 0, none⟩), .int .u64 150] 135)).alloc (.cells #[.int .i64 n] 24)).setCell t (.int .i64 n) := by
  have hF0 := @run_callFunc_extern Tryd.prog 63 _ (fun args => ReflectliteValue.unpack (args.getD 0 (.tuple #[]))) Tryd.func63 (by kernel_rfl) (by kernel_rfl) (by kernel_rfl) (by kernel_rfl)
  have hF1 := @run_callFunc_extern Tryd.prog 64 _ (ReflectliteValue.methodAny (ReflectliteValue.valueError "reflectlite.Value.Type" 0) (fun t _ _ _ => ReflectliteType.toType t)) Tryd.func64 (by kernel_rfl) (by kernel_rfl) (by kernel_rfl) (by kernel_rfl)
  have hF2 := @run_callFunc_extern Tryd.prog 65 _ (ReflectliteValue.method (ReflectliteValue.valueError "reflectlite.Value.IsNil" 0) ReflectliteValue.isNil) Tryd.func65 (by kernel_rfl) (by kernel_rfl) (by kernel_rfl) (by kernel_rfl)
  have hF3 := @run_callFunc_extern Tryd.prog 113 _ (ReflectliteType.abiMethod fun t => do pure (.int .u8 (← Rtype.kind t))) Tryd.func113 (by kernel_rfl) (by kernel_rfl) (by kernel_rfl) (by kernel_rfl)
  have hF4 := @run_callFunc_extern Tryd.prog 126 _ (ReflectliteType.method ReflectliteType.elem) Tryd.func126 (by kernel_rfl) (by kernel_rfl) (by kernel_rfl) (by kernel_rfl)
  have hF5 := @run_callFunc_extern Tryd.prog 127 _ (ReflectliteType.relation "Implements" ReflectliteType.implements_) Tryd.func127 (by kernel_rfl) (by kernel_rfl) (by kernel_rfl) (by kernel_rfl)
  have hF6 := @run_callFunc_extern Tryd.prog 83 _ ReflectliteType.typeOf Tryd.func83 (by kernel_rfl) (by kernel_rfl) (by kernel_rfl) (by kernel_rfl)
  have hF7 := @run_callFunc_extern Tryd.prog 124 _ (ReflectliteType.relation "AssignableTo" ReflectliteType.assignableTo) Tryd.func124 (by kernel_rfl) (by kernel_rfl) (by kernel_rfl) (by kernel_rfl)
  have hF8 := @run_callFunc_extern Tryd.prog 84 _ (ReflectliteValue.method (ReflectliteValue.valueError "reflectlite.Value.Elem" 0) ReflectliteValue.elem) Tryd.func84 (by kernel_rfl) (by kernel_rfl) (by kernel_rfl) (by kernel_rfl)
  have hF9 := @run_callFunc_extern Tryd.prog 85 _ ReflectliteValue.set Tryd.func85 (by kernel_rfl) (by kernel_rfl) (by kernel_rfl) (by kernel_rfl)
  have tO := As.typeOfE
  have mA := As.methodAssignableTo
  have aE := As.assignableE
  have vE := As.valueOfE
  have vP := As.valueOfP
  have tP := As.typeP
  have mK := As.methodKind
  have mE := As.methodElem
  have mI := As.methodImplements
  have kP := As.kindP
  have kE := As.kindE
  have eP := As.elemP
  have iE := As.implementsE
  have n8 := As.isNilP ⟨w.heap.size, 0, none⟩ t ((w.alloc (.cells #[.pointer (some t)] 122)).alloc (.cells #[.pointer (some ⟨1, 122, none⟩), .pointer (some ⟨w.heap.size, 0, none⟩), .int .u64 150] 135)) (by simp)
  have hlt : 0 < w.heap.size := by
    rcases Nat.lt_or_ge 0 w.heap.size with h | h
    · exact h
    · simp [World.cell?, Array.getElem?_eq_none h] at hg
  have hg2 : ((w.alloc (.cells #[.pointer (some t)] 122)).alloc (.cells #[.pointer (some ⟨1, 122, none⟩), .pointer (some ⟨w.heap.size, 0, none⟩), .int .u64 150] 135)).cell? ⟨0, 0, none⟩ = some (.iface 159 (.agg #[.pointer (some ⟨1, 33, none⟩)])) := by
    rw [World.cell?_alloc_lt _ _ ⟨0, 0, none⟩ (by simp <;> omega), World.cell?_alloc_lt _ _ ⟨0, 0, none⟩ hlt]; exact hg
  have htl : t.block < w.heap.size := by
    rcases Nat.lt_or_ge t.block w.heap.size with h | h
    · exact h
    · simp [World.cell?, Array.getElem?_eq_none h] at ht0
  have el := As.elemVP ⟨w.heap.size, 0, none⟩ t (((w.alloc (.cells #[.pointer (some t)] 122)).alloc (.cells #[.pointer (some ⟨1, 122, none⟩), .pointer (some ⟨w.heap.size, 0, none⟩), .int .u64 150] 135)).alloc (.cells #[.pointer (some ⟨1, 122, none⟩), .pointer (some ⟨w.heap.size, 0, none⟩), .int .u64 150] 135)) (by rw [World.cell?_alloc_lt _ _ ⟨w.heap.size, 0, none⟩ (by simp; omega)]; simp)
  have st := As.setE t ⟨w.heap.size + 1 + 1 + 1, 0, none⟩ n old ((((w.alloc (.cells #[.pointer (some t)] 122)).alloc (.cells #[.pointer (some ⟨1, 122, none⟩), .pointer (some ⟨w.heap.size, 0, none⟩), .int .u64 150] 135)).alloc (.cells #[.pointer (some ⟨1, 122, none⟩), .pointer (some ⟨w.heap.size, 0, none⟩), .int .u64 150] 135)).alloc (.cells #[.int .i64 n] 24))
    (by rw [World.cell?_alloc_at _ _ _ _ (by simp)]; rfl)
    (by rw [World.cell?_alloc_lt _ _ t (by simp; omega), World.cell?_alloc_lt _ _ t (by simp; omega), World.cell?_alloc_lt _ _ t (by simp; omega), World.cell?_alloc_lt _ _ t htl]; exact ht0)
    (by rw [World.frozen?_alloc_old _ _ t (by simp; omega), World.frozen?_alloc_old _ _ t (by simp; omega), World.frozen?_alloc_old _ _ t (by simp; omega), World.frozen?_alloc_old _ _ t (Nat.ne_of_lt htl)]; exact hf0)
  go_enter Tryd.func44, Tryd.ntmps44
  go_wp2
  refine wp_loop_rounds 1 ?_
  rw [rounds_succ]
  go_wp2
  go_ret
  exact ⟨rfl, rfl⟩
end Go.Proofs.YtaipanjigindbaaDoor
namespace Go.Proofs.YtaipanjigindbaaDoor
set_option maxRecDepth 20000
open Go.RowKit

/-- The library's handle of the type error in its variable. -/
def HandleAt (w : World) : Prop := w.cell? ⟨0, 0, none⟩ = some (.iface 159 (.agg #[.pointer (some ⟨1, 33, none⟩)]))

theorem size_of_cell' {w : World} {b o : Nat} {v : Value} (h : w.cell? ⟨b, o, none⟩ = some v) : b < w.heap.size := by
  by_cases hb : b < w.heap.size
  · exact hb
  · have e : w.heap[b]? = none := by simp; omega
    simp [World.cell?, e] at h

theorem HandleAt.later {w w' : World} (h : HandleAt w) (g : Gr w w') : HandleAt w' := (g.cell (size_of_cell' h)).trans h

theorem tell_nil (w : World) : Calls Tryd.prog 32 #[.nilIface] w fun e w' => e = .returned (.int .i64 0) ∧ w' = w := by
  go_enter Tryd.func32, Tryd.ntmps32
  go_wp2
  go_ret
  exact ⟨rfl, rfl⟩

theorem as_errno' (n : Int) (t : Addr) (old : Value) (w : World) (hg : HandleAt w) (ht0 : w.cell? t = some old) (hf0 : w.frozen? t = false) :
    Calls Tryd.prog 44 #[.iface 24 (.int .i64 n), .iface 122 (.pointer (some t))] w fun e w' => e = .returned (.bool true) ∧ ∃ W, Gr w W ∧ w' = W.setCell t (.int .i64 n) :=
  (as_errno n t old w hg ht0 hf0).mono fun _ _ ⟨he, hw⟩ => ⟨he, _, ((((Gr.refl w).alloc _ _).alloc _ _).alloc _ _).alloc _ _, hw⟩

theorem tell_errno (n : Int) (w : World) (hH : HandleAt w) :
    Calls Tryd.prog 32 #[.iface 24 (.int .i64 n)] w fun e w' => e = .returned (.int .i64 n) ∧ Gr w w' := by
  have H1 : Hid (HandleAt (w.alloc (.cells #[.int .i64 0] 24))) := hH.later ((Gr.refl w).alloc _ _)
  clear hH
  go_enter Tryd.func32, Tryd.ntmps32
  go_wp2_with fail
  refine (as_errno' n ⟨w.heap.size, 0, none⟩ (.int .i64 0) _ H1.out (by simp) ((frozen?_alloc_cells _ _ _ _).trans (frozen_past w (Nat.le_refl _)))).mono ?_
  rintro e w' ⟨rfl, W, hW, rfl⟩
  have hc : (W.setCell ⟨w.heap.size, 0, none⟩ (.int .i64 n)).cell? ⟨w.heap.size, 0, none⟩ = some (.int .i64 n) := by
    refine World.cell?_setCell_same _ _ _ (u := .int .i64 0) ?_
    rw [hW.cell (by simp)]
    simp
  have hG : Gr w (W.setCell ⟨w.heap.size, 0, none⟩ (.int .i64 n)) := (((Gr.refl w).alloc _ _).trans hW).setCell (Nat.le_refl _) _
  generalize W.setCell ⟨w.heap.size, 0, none⟩ (.int .i64 n) = W2 at hc hG
  clear hW H1
  go_wp2
  go_ret
  exact ⟨rfl, hG⟩

theorem place_nil (w : World) : Calls Tryd.prog 24 #[.nilIface] w fun e w' => e = .returned (.tuple #[.int .i64 0, .int .i64 (-1)]) ∧ w' = w := by
  go_enter Tryd.func24, Tryd.ntmps24
  go_wp2_with fail
  refine (tell_nil _).mono ?_
  rintro e w' ⟨rfl, rfl⟩
  go_wp2_with fail
  refine wp_loop_rounds 1 ?_
  rw [rounds_succ]
  go_wp2
  go_ret2
  exact ⟨rfl, rfl⟩

theorem noAt (n : Int) (w : World) : (Instr.typeAssert (.iface 24 (.int .i64 n)) 33 71 true).run Tryd.prog w = .ok (.tuple #[.pointer none, .bool false]) w := by kernel_rfl
theorem noUnwrap (n : Int) (w : World) : (Instr.typeAssert (.iface 24 (.int .i64 n)) 33 108 true).run Tryd.prog w = .ok (.tuple #[.nilIface, .bool false]) w :=
  run_typeAssert_lacksB Tryd.underlying108 (by kernel_rfl) (by kernel_rfl) _ _ w

theorem place_errno (n : Int) (w : World) (hH : HandleAt w) :
    Calls Tryd.prog 24 #[.iface 24 (.int .i64 n)] w fun e w' => e = .returned (.tuple #[.int .i64 n, .int .i64 (-1)]) ∧ Gr w w' := by
  have h1 := noAt n
  have h2 := noUnwrap n
  go_enter Tryd.func24, Tryd.ntmps24
  go_wp2_with fail
  refine (tell_errno n _ hH).mono ?_
  rintro e w' ⟨rfl, hG⟩
  clear hH
  go_wp2_with fail
  refine wp_loop_rounds 1 ?_
  rw [rounds_succ]
  go_wp2
  go_ret2
  exact ⟨rfl, hG⟩

end Go.Proofs.YtaipanjigindbaaDoor
namespace Go.Proofs.YtaipanjigindbaaDoor
set_option maxRecDepth 20000
open Go.RowKit Go.Extern.Stop Go.Stop Go.Extern

/-- An error at a place. -/
def atV (b : Nat) : Value := .iface 71 (.pointer (some ⟨b, 0, none⟩))
theorem At.typeOf (v : Value) (w : World) : (ReflectliteType.typeOf #[.iface 71 v]).run Tryd.prog w = .ok (.iface 159 (.agg #[.pointer (some ⟨1, 71, none⟩)])) w := by kernel_rfl
theorem At.assignable (w : World) : (ReflectliteType.relation "AssignableTo" ReflectliteType.assignableTo #[.agg #[.pointer (some ⟨1, 71, none⟩)], .iface 159 (.agg #[.pointer (some ⟨1, 24, none⟩)])]).run Tryd.prog w = .ok (.bool false) w := by kernel_rfl
theorem At.unwraps (v : Value) (w : World) : (Instr.typeAssert (.iface 71 v) 33 108 true).run Tryd.prog w = .ok (.tuple #[.iface 71 v, .bool true]) w :=
  run_typeAssert_hasB Tryd.underlying108 (by kernel_rfl) v _ w
theorem At.lacksAs (v : Value) (w : World) : (Instr.typeAssert (.iface 71 v) 33 164 true).run Tryd.prog w = .ok (.tuple #[.nilIface, .bool false]) w :=
  run_typeAssert_lacksB Tryd.underlying164 (by kernel_rfl) (by kernel_rfl) _ _ w
theorem At.methodUnwrap (h : Value) (w : World) : (Go.method 310 71 h "Unwrap").run Tryd.prog w = .ok (119, h) w := by kernel_rfl
theorem At.isAt (v : Value) (w : World) : (Instr.typeAssert (.iface 71 v) 33 71 true).run Tryd.prog w = .ok (.tuple #[v, .bool true]) w := by kernel_rfl
theorem At.unwrap (n : Int) (b : Nat) (w : World) (hc : w.cell? ⟨b, 0, none⟩ = some (.int .i64 n)) :
    Calls Tryd.prog 119 #[.pointer (some ⟨b, 0, none⟩)] w fun e w' => e = .returned (.iface 24 (.int .i64 n)) ∧ w' = w := by
  go_enter Tryd.func119, Tryd.ntmps119
  go_wp2
  go_ret
  exact ⟨rfl, rfl⟩
end Go.Proofs.YtaipanjigindbaaDoor
namespace Go.Proofs.YtaipanjigindbaaDoor
set_option maxRecDepth 20000
open Go.RowKit Go.Extern.Stop Go.Stop Go.Extern

set_option maxHeartbeats 4000000 in
theorem as_at (n : Int) (b : Nat) (t : Addr) (old : Value) (w : World) (hg : w.cell? ⟨0, 0, none⟩ = some (.iface 159 (.agg #[.pointer (some ⟨1, 33, none⟩)]))) (ht0 : w.cell? t = some old) (hf0 : w.frozen? t = false) (hb0 : w.cell? ⟨b, 0, none⟩ = some (.int .i64 n)) :
    Calls Tryd.prog 44 #[atV b, .iface 122 (.pointer (some t))] w fun ev w' => ev = .returned (.bool true) ∧ w' = ((((w.alloc (.cells #[.pointer (some t)] 122)).alloc (.cells #[.pointer (some ⟨1, 122, none⟩), .pointer (some ⟨w.heap.size, 0, none⟩), .int .u64 150] 135)).alloc (.cells #[.pointer (some ⟨1, 122, none⟩), .pointer (some ⟨w.heap.size, 0, none⟩), .int .u64 150] 135)).alloc (.cells #[.int .i64 n] 24)).setCell t (.int .i64 n) := by
  have hF0 := @run_callFunc_extern Tryd.prog 63 _ (fun args => ReflectliteValue.unpack (args.getD 0 (.tuple #[]))) Tryd.func63 (by kernel_rfl) (by kernel_rfl) (by kernel_rfl) (by kernel_rfl)
  have hF1 := @run_callFunc_extern Tryd.prog 64 _ (ReflectliteValue.methodAny (ReflectliteValue.valueError "reflectlite.Value.Type" 0) (fun t _ _ _ => ReflectliteType.toType t)) Tryd.func64 (by kernel_rfl) (by kernel_rfl) (by kernel_rfl) (by kernel_rfl)
  have hF2 := @run_callFunc_extern Tryd.prog 65 _ (ReflectliteValue.method (ReflectliteValue.valueError "reflectlite.Value.IsNil" 0) ReflectliteValue.isNil) Tryd.func65 (by kernel_rfl) (by kernel_rfl) (by kernel_rfl) (by kernel_rfl)
  have hF3 := @run_callFunc_extern Tryd.prog 113 _ (ReflectliteType.abiMethod fun t => do pure (.int .u8 (← Rtype.kind t))) Tryd.func113 (by kernel_rfl) (by kernel_rfl) (by kernel_rfl) (by kernel_rfl)
  have hF4 := @run_callFunc_extern Tryd.prog 126 _ (ReflectliteType.method ReflectliteType.elem) Tryd.func126 (by kernel_rfl) (by kernel_rfl) (by kernel_rfl) (by kernel_rfl)
  have hF5 := @run_callFunc_extern Tryd.prog 127 _ (ReflectliteType.relation "Implements" ReflectliteType.implements_) Tryd.func127 (by kernel_rfl) (by kernel_rfl) (by kernel_rfl) (by kernel_rfl)
  have hF6 := @run_callFunc_extern Tryd.prog 83 _ ReflectliteType.typeOf Tryd.func83 (by kernel_rfl) (by kernel_rfl) (by kernel_rfl) (by kernel_rfl)
  have hF7 := @run_callFunc_extern Tryd.prog 124 _ (ReflectliteType.relation "AssignableTo" ReflectliteType.assignableTo) Tryd.func124 (by kernel_rfl) (by kernel_rfl) (by kernel_rfl) (by kernel_rfl)
  have hF8 := @run_callFunc_extern Tryd.prog 84 _ (ReflectliteValue.method (ReflectliteValue.valueError "reflectlite.Value.Elem" 0) ReflectliteValue.elem) Tryd.func84 (by kernel_rfl) (by kernel_rfl) (by kernel_rfl) (by kernel_rfl)
  have hF9 := @run_callFunc_extern Tryd.prog 85 _ ReflectliteValue.set Tryd.func85 (by kernel_rfl) (by kernel_rfl) (by kernel_rfl) (by kernel_rfl)
  have tO := As.typeOfE
  have tA := At.typeOf
  have aA := At.assignable
  have uA := At.unwraps
  have lA := At.lacksAs
  have mU := At.methodUnwrap
  have mA := As.methodAssignableTo
  have aE := As.assignableE
  have vE := As.valueOfE
  have vP := As.valueOfP
  have tP := As.typeP
  have mK := As.methodKind
  have mE := As.methodElem
  have mI := As.methodImplements
  have kP := As.kindP
  have kE := As.kindE
  have eP := As.elemP
  have iE := As.implementsE
  have n8 := As.isNilP ⟨w.heap.size, 0, none⟩ t ((w.alloc (.cells #[.pointer (some t)] 122)).alloc (.cells #[.pointer (some ⟨1, 122, none⟩), .pointer (some ⟨w.heap.size, 0, none⟩), .int .u64 150] 135)) (by simp)
  have hlt : 0 < w.heap.size := by
    rcases Nat.lt_or_ge 0 w.heap.size with h | h
    · exact h
    · simp [World.cell?, Array.getElem?_eq_none h] at hg
  have hg2 : ((w.alloc (.cells #[.pointer (some t)] 122)).alloc (.cells #[.pointer (some ⟨1, 122, none⟩), .pointer (some ⟨w.heap.size, 0, none⟩), .int .u64 150] 135)).cell? ⟨0, 0, none⟩ = some (.iface 159 (.agg #[.pointer (some ⟨1, 33, none⟩)])) := by
    rw [World.cell?_alloc_lt _ _ ⟨0, 0, none⟩ (by simp <;> omega), World.cell?_alloc_lt _ _ ⟨0, 0, none⟩ hlt]; exact hg
  have htl : t.block < w.heap.size := by
    rcases Nat.lt_or_ge t.block w.heap.size with h | h
    · exact h
    · simp [World.cell?, Array.getElem?_eq_none h] at ht0
  have el := As.elemVP ⟨w.heap.size, 0, none⟩ t (((w.alloc (.cells #[.pointer (some t)] 122)).alloc (.cells #[.pointer (some ⟨1, 122, none⟩), .pointer (some ⟨w.heap.size, 0, none⟩), .int .u64 150] 135)).alloc (.cells #[.pointer (some ⟨1, 122, none⟩), .pointer (some ⟨w.heap.size, 0, none⟩), .int .u64 150] 135)) (by rw [World.cell?_alloc_lt _ _ ⟨w.heap.size, 0, none⟩ (by simp; omega)]; simp)
  have st := As.setE t ⟨w.heap.size + 1 + 1 + 1, 0, none⟩ n old ((((w.alloc (.cells #[.pointer (some t)] 122)).alloc (.cells #[.pointer (some ⟨1, 122, none⟩), .pointer (some ⟨w.heap.size, 0, none⟩), .int .u64 150] 135)).alloc (.cells #[.pointer (some ⟨1, 122, none⟩), .pointer (some ⟨w.heap.size, 0, none⟩), .int .u64 150] 135)).alloc (.cells #[.int .i64 n] 24))
    (by rw [World.cell?_alloc_at _ _ _ _ (by simp)]; rfl)
    (by rw [World.cell?_alloc_lt _ _ t (by simp; omega), World.cell?_alloc_lt _ _ t (by simp; omega), World.cell?_alloc_lt _ _ t (by simp; omega), World.cell?_alloc_lt _ _ t htl]; exact ht0)
    (by rw [World.frozen?_alloc_old _ _ t (by simp; omega), World.frozen?_alloc_old _ _ t (by simp; omega), World.frozen?_alloc_old _ _ t (by simp; omega), World.frozen?_alloc_old _ _ t (Nat.ne_of_lt htl)]; exact hf0)
  have hbl : b < w.heap.size := by
    rcases Nat.lt_or_ge b w.heap.size with h | h
    · exact h
    · simp [World.cell?, Array.getElem?_eq_none h] at hb0
  have UW := At.unwrap n b (((w.alloc (.cells #[.pointer (some t)] 122)).alloc (.cells #[.pointer (some ⟨1, 122, none⟩), .pointer (some ⟨w.heap.size, 0, none⟩), .int .u64 150] 135)).alloc (.cells #[.pointer (some ⟨1, 122, none⟩), .pointer (some ⟨w.heap.size, 0, none⟩), .int .u64 150] 135))
    (by rw [World.cell?_alloc_lt _ _ ⟨b, 0, none⟩ (by simp; omega), World.cell?_alloc_lt _ _ ⟨b, 0, none⟩ (by simp; omega), World.cell?_alloc_lt _ _ ⟨b, 0, none⟩ hbl]; exact hb0)
  unfold atV
  go_enter Tryd.func44, Tryd.ntmps44
  go_wp2
  refine wp_loop_rounds 2 ?_
  rw [rounds_succ]
  go_wp2_with fail
  refine UW.mono ?_
  rintro e w' ⟨rfl, rfl⟩
  go_wp2_with fail
  rw [rounds_succ]
  go_wp2
  go_ret
  exact ⟨rfl, rfl⟩
end Go.Proofs.YtaipanjigindbaaDoor
namespace Go.Proofs.YtaipanjigindbaaDoor
set_option maxRecDepth 20000
open Go.RowKit
theorem HandleAt.below {w a : World} (h : HandleAt w) (g : Below w.heap.size w a) : HandleAt a := by
  have h' : w.cell? ⟨0, 0, none⟩ = _ := h
  exact (g.cell (p := ⟨0, 0, none⟩) (size_of_cell' h')).trans h'
end Go.Proofs.YtaipanjigindbaaDoor
namespace Go.Proofs.YtaipanjigindbaaDoor.Tab
set_option maxRecDepth 20000
open Go.RowKit
set_option linter.unusedVariables false

theorem as_at' (n : Int) (b : Nat) (t : Addr) (old : Value) (w : World) (hg : HandleAt w) (ht0 : w.cell? t = some old) (hf0 : w.frozen? t = false) (hb0 : w.cell? ⟨b, 0, none⟩ = some (.int .i64 n)) :
    Calls Tryd.prog 44 #[atV b, .iface 122 (.pointer (some t))] w fun e w' => e = .returned (.bool true) ∧ ∃ W, Gr w W ∧ w' = W.setCell t (.int .i64 n) :=
  (as_at n b t old w hg ht0 hf0 hb0).mono fun _ _ ⟨he, hw⟩ => ⟨he, _, ((((Gr.refl w).alloc _ _).alloc _ _).alloc _ _).alloc _ _, hw⟩

theorem tell_at (n : Int) (b : Nat) (w : World) (hH : HandleAt w) (hb0 : w.cell? ⟨b, 0, none⟩ = some (.int .i64 n)) :
    Calls Tryd.prog 32 #[atV b] w fun e w' => e = .returned (.int .i64 n) ∧ Gr w w' := by
  have H1 : Hid (HandleAt (w.alloc (.cells #[.int .i64 0] 24))) := hH.later ((Gr.refl w).alloc _ _)
  have C1 : Hid ((w.alloc (.cells #[.int .i64 0] 24)).cell? ⟨b, 0, none⟩ = some (.int .i64 n)) := by
    rw [World.cell?_alloc_lt _ _ ⟨b, 0, none⟩ (size_of_cell' hb0)]; exact hb0
  clear hH hb0
  unfold atV
  go_enter Tryd.func32, Tryd.ntmps32
  go_wp2_with fail
  refine (as_at' n b ⟨w.heap.size, 0, none⟩ (.int .i64 0) _ H1.out (by simp) ((frozen?_alloc_cells _ _ _ _).trans (frozen_past w (Nat.le_refl _))) C1.out).mono ?_
  rintro e w' ⟨rfl, W, hW, rfl⟩
  have hc : (W.setCell ⟨w.heap.size, 0, none⟩ (.int .i64 n)).cell? ⟨w.heap.size, 0, none⟩ = some (.int .i64 n) := by
    refine World.cell?_setCell_same _ _ _ (u := .int .i64 0) ?_
    rw [hW.cell (by simp)]
    simp
  have hG : Gr w (W.setCell ⟨w.heap.size, 0, none⟩ (.int .i64 n)) := (((Gr.refl w).alloc _ _).trans hW).setCell (Nat.le_refl _) _
  generalize W.setCell ⟨w.heap.size, 0, none⟩ (.int .i64 n) = W2 at hc hG
  clear hW H1 C1
  go_wp2
  go_ret
  exact ⟨rfl, hG⟩

set_option maxHeartbeats 2000000 in
theorem place_at (ev p : Int) (b : Nat) (w : World) (hH : HandleAt w) (hB : Bo w b [.int .i64 ev, .int .i64 p]) :
    Calls Tryd.prog 24 #[atV b] w (fun e w' => e = .returned (.tuple #[.int .i64 ev, .int .i64 p]) ∧ Below w.heap.size w w') := by
  have AT : Hid _ := hid hB
  have TL : Hid _ := hid (tell_at ev b w hH (hB.at 0 rfl))
  clear hB hH
  have tA := At.isAt
  unfold atV at *
  have hM : Hid _ := (Ms.nil w)
  go_enter Tryd.func24, Tryd.ntmps24
  go_wp2_with fail
  refine TL.out.mono ?_
  rintro e W ⟨rfl, hg⟩
  have hb := hg.below
  clear hg TL
  replace hM := hid (hM.out.later hb)
  clear hb
  generalize hsz : w.heap.size = n at hM ⊢
  clear hsz
  go_wp2_with fail
  refine wp_loop_rounds 1 ?_
  rw [rounds_succ]
  go_wp2_with fail
  replace hM := hid (hM.out.drew)
  refine wp_region_held_drew (S := fun w' => Bo w' b [.int .i64 ev, .int .i64 p]) (by kernel_rfl) (AT.out.later hM.out.below) (fun hH => ?_)
  generalize World.drew _ = W at hM hH  ⊢
  refine tk 0 rfl hH ?_
  simp only [Act.put, p1, p2, p3]
  refine tk 1 rfl hH ?_
  simp only [Act.put, p1, p2, p3]
  refine tk 2 rfl hH ?_
  simp only [Act.put, p1, p2, p3]
  refine tk 3 rfl hH ?_
  simp only [Act.put, p1, p2, p3]
  refine tk 4 rfl hH ?_ (by intro w h; have c0 := h.at 1 rfl; clear h; go_simp; try with_reducible rfl)
  simp only [Act.put, p1, p2, p3]
  refine tk 5 rfl hH ?_
  simp only [Act.put, p1, p2, p3]
  refine tk 6 rfl hH ?_
  simp only [Act.put, p1, p2, p3]
  refine wpAnyH_done (by kernel_rfl) ?_ _
  go_wp2
  go_ret2
  exact ⟨rfl, hM.out.below⟩
set_option maxHeartbeats 2000000 in
theorem placed_nil  (w : World) :
    Calls Tryd.prog 8 #[.nilIface, .agg #[.int .i64 0, .int .i64 (-1)]] w (fun e w' => e = .returned (.bool true) ∧ Below w.heap.size w w') := by
  have PL : Hid (∀ w : World, _) := place_nil
  have hM : Hid _ := ((Ms.nil w).born [.int .i64 0, .int .i64 (-1)] 26 (b := w.heap.size) rfl)
  go_enter Tryd.func8, Tryd.ntmps8
  go_wp2_with fail
  refine (PL.out _).mono ?_
  rintro e ux ⟨rfl, hw⟩
  rw [hw]; clear hw ux
  have c1 := hM.out.cell 0 0 rfl rfl
  have c2 := hM.out.cell 0 1 rfl rfl
  go_wp2
  go_ret
  exact ⟨rfl, hM.out.below⟩
set_option maxHeartbeats 2000000 in
theorem placed_errno  (ev : Int) (w : World) (hH : HandleAt w) :
    Calls Tryd.prog 8 #[.iface 24 (.int .i64 ev), .agg #[.int .i64 ev, .int .i64 (-1)]] w (fun e w' => e = .returned (.bool true) ∧ Below w.heap.size w w') := by
  have HH : Hid _ := hid hH
  clear hH
  have PL : Hid (∀ w : World, HandleAt w → _) := place_errno ev
  have hM : Hid _ := ((Ms.nil w).born [.int .i64 ev, .int .i64 (-1)] 26 (b := w.heap.size) rfl)
  go_enter Tryd.func8, Tryd.ntmps8
  go_wp2_with fail
  refine (PL.out _ (HH.out.below hM.out.below)).mono ?_
  rintro e W ⟨rfl, hg⟩
  have hb := hg.below
  clear hg
  replace hM := hid (hM.out.later hb)
  clear hb
  have c1 := hM.out.cell 0 0 rfl rfl
  have c2 := hM.out.cell 0 1 rfl rfl
  go_wp2
  go_ret
  exact ⟨rfl, hM.out.below⟩
set_option maxHeartbeats 2000000 in
theorem placed_at  (ev p : Int) (b : Nat) (w : World) (hH : HandleAt w) (hB : Bo w b [.int .i64 ev, .int .i64 p]) :
    Calls Tryd.prog 8 #[atV b, .agg #[.int .i64 ev, .int .i64 p]] w (fun e w' => e = .returned (.bool true) ∧ Below w.heap.size w w') := by
  have HH : Hid _ := hid hH
  clear hH
  have AT : Hid _ := hid hB
  clear hB
  have PL : Hid (∀ w : World, HandleAt w → _) := place_at ev p b
  have hM : Hid _ := ((Ms.nil w).born [.int .i64 ev, .int .i64 p] 26 (b := w.heap.size) rfl)
  go_enter Tryd.func8, Tryd.ntmps8
  go_wp2_with fail
  refine (PL.out _ (HH.out.below hM.out.below) (AT.out.later hM.out.below)).mono ?_
  rintro e W ⟨rfl, hb⟩
  replace hM := hid (hM.out.later hb)
  clear hb
  have c1 := hM.out.cell 0 0 rfl rfl
  have c2 := hM.out.cell 0 1 rfl rfl
  go_wp2
  go_ret
  exact ⟨rfl, hM.out.below⟩
end Go.Proofs.YtaipanjigindbaaDoor.Tab
namespace Go.Proofs.YtaipanjigindbaaDoor.Tab
set_option maxRecDepth 20000
open Go.RowKit
set_option linter.unusedVariables false

/-- An event. -/
structure EV where
  kd : Int
  th : Int
  o : Int
  k : Int
  x : Int
  c : Int
  y : Int
  wh : Int
  st : Int
def el (kd th o k x c y wh st : Int) : List Value := [.int .i64 kd, .int .i64 th, .int .i64 o, .int .i64 k, .int .i64 x, .int .i64 c, .int .i64 y, .int .i64 wh, .int .i64 st]
def EV.row (e : EV) : List Value := el e.kd e.th e.o e.k e.x e.c e.y e.wh e.st
def EV.op (e : EV) : Int × Int × Int := (e.o, e.k, e.x)
def DD.op (d : DD) : Int × Int × Int := (d.o, d.k, d.x)

/-- A call: the number of the event that asked, and that of the event that answered, if any. -/
abbrev CC := Nat × Option Nat
/-- The first open call of a thread. -/
def opn (h : Nat → EV) (cs : List CC) (t : Int) : Option Nat := cs.findIdx? fun c => decide ((h c.1).th = t) && c.2.isNone
def cg (cs : List CC) (k : Nat) : CC := cs.getD k (0, none)
/-- One event more. -/
def stepC (h : Nat → EV) (i : Nat) (cs : List CC) : Option (List CC) :=
  if (h i).kd = 3 then some cs
  else match opn h cs (h i).th with
    | none => if (h i).kd = 1 then some (cs ++ [(i, none)]) else none
    | some k => if (h i).kd = 2 ∧ (h i).op = (h (cg cs k).1).op then some (cs.set k ((cg cs k).1, some i)) else none
def callsF (h : Nat → EV) : Nat → Option (List CC)
  | 0 => some []
  | i + 1 => (callsF h i).bind (stepC h i)
theorem calls_first (h : Nat → EV) : ∀ n, (∃ cs, callsF h n = some cs) ∨ ∃ m cs, m < n ∧ callsF h m = some cs ∧ stepC h m cs = none
  | 0 => Or.inl ⟨[], rfl⟩
  | n + 1 => by
    rcases calls_first h n with ⟨cs, e⟩ | ⟨m, cs, hm, e⟩
    · cases e2 : stepC h n cs with
      | none => exact Or.inr ⟨n, cs, Nat.lt_succ_self _, e, e2⟩
      | some ds => exact Or.inl ⟨ds, by show (callsF h n).bind _ = _; rw [e]; exact e2⟩
    · exact Or.inr ⟨m, cs, Nat.lt_succ_of_lt hm, e⟩
theorem callsF_le {h : Nat → EV} {n : Nat} {cs : List CC} (e : callsF h n = some cs) : ∀ m, m ≤ n → ∃ ds, callsF h m = some ds := by
  induction n generalizing cs with
  | zero => intro m hm; obtain rfl : m = 0 := (by omega); exact ⟨_, e⟩
  | succ n ih =>
    intro m hm
    by_cases hm2 : m = n + 1
    · subst hm2; exact ⟨_, e⟩
    · cases e2 : callsF h n with
      | none => have : (callsF h n).bind (stepC h n) = some cs := e; rw [e2] at this; cases this
      | some ds => exact ih e2 m (by omega)

/-- What is so of a history's calls. -/
structure GC (h : Nat → EV) (n : Nat) (cs : List CC) : Prop where
  lt : ∀ c ∈ cs, c.1 < n ∧ ∀ z, c.2 = some z → z < n
  un : ∀ (j j' : Nat) (c c' : CC), cs[j]? = some c → cs[j']? = some c' → c.2 = none → c'.2 = none → (h c.1).th = (h c'.1).th → j = j'
  len : cs.length ≤ n
theorem opn_hit {h : Nat → EV} {cs : List CC} {t : Int} {k : Nat} (e : opn h cs t = some k) : ∃ a, cs[k]? = some (a, none) ∧ (h a).th = t := by
  unfold opn at e
  rw [List.findIdx?_eq_some_iff_getElem] at e
  obtain ⟨hk, hp, _⟩ := e
  obtain ⟨⟨a, z⟩, hc⟩ : ∃ c, cs[k] = c := ⟨_, rfl⟩
  rw [hc] at hp
  simp only [Bool.and_eq_true, decide_eq_true_eq, Option.isNone_iff_eq_none] at hp
  obtain ⟨h1, rfl⟩ := hp
  exact ⟨a, by rw [List.getElem?_eq_getElem hk, hc], h1⟩
theorem opn_none {h : Nat → EV} {cs : List CC} {t : Int} (e : opn h cs t = none) : ∀ (j a : Nat), cs[j]? = some (a, none) → (h a).th ≠ t := by
  unfold opn at e
  rw [List.findIdx?_eq_none_iff] at e
  intro j a hj ht
  have := e _ (List.mem_of_getElem? hj)
  simp [ht] at this
theorem opn_of {h : Nat → EV} {n : Nat} {cs : List CC} (g : GC h n cs) {t : Int} {k a : Nat} (hk : cs[k]? = some (a, none)) (ht : (h a).th = t) : opn h cs t = some k := by
  cases e : opn h cs t with
  | none => exact absurd ht (opn_none e k a hk)
  | some j =>
    obtain ⟨b, hj, hb⟩ := opn_hit e
    rw [g.un j k _ _ hj hk rfl rfl (by show (h b).th = (h a).th; rw [hb, ht])]
theorem cg_of {cs : List CC} {k : Nat} {c : CC} (h : cs[k]? = some c) : cg cs k = c := by unfold cg; rw [List.getD_eq_getElem?_getD, h]; rfl
theorem GC.nil (h : Nat → EV) : GC h 0 [] := ⟨fun c hc => (by cases hc), fun j j' c c' hj => (by simp at hj), Nat.le_refl _⟩
theorem GC.more {h : Nat → EV} {n : Nat} {cs : List CC} (g : GC h n cs) : GC h (n + 1) cs :=
  ⟨fun c hc => ⟨Nat.lt_succ_of_lt (g.lt c hc).1, fun z hz => Nat.lt_succ_of_lt ((g.lt c hc).2 z hz)⟩, g.un, Nat.le_succ_of_le g.len⟩
theorem GC.ask {h : Nat → EV} {n : Nat} {cs : List CC} (g : GC h n cs) (e : opn h cs (h n).th = none) : GC h (n + 1) (cs ++ [(n, none)]) := by
  refine ⟨fun c hc => ?_, fun j j' c c' hj hj' hz hz' ht => ?_, by rw [List.length_append]; have := g.len; simp; omega⟩
  · rcases List.mem_append.1 hc with hc | hc
    · exact (g.more).lt c hc
    · rw [List.mem_singleton] at hc; subst hc; exact ⟨Nat.lt_succ_self _, fun z hz => by cases hz⟩
  · have cut : ∀ {j : Nat} {c : CC}, (cs ++ [(n, none)])[j]? = some c → cs[j]? = some c ∨ (j = cs.length ∧ c = (n, none)) := by
      intro j c hj
      rcases Nat.lt_trichotomy j cs.length with hl | hl | hl
      · rw [List.getElem?_append_left hl] at hj; exact Or.inl hj
      · subst hl; simp at hj; exact Or.inr ⟨rfl, hj.symm⟩
      · rw [List.getElem?_eq_none (by simp; omega)] at hj; cases hj
    rcases cut hj with h1 | ⟨h1, rfl⟩
    · rcases cut hj' with h2 | ⟨h2, rfl⟩
      · exact g.un j j' c c' h1 h2 hz hz' ht
      · obtain ⟨a, z⟩ := c
        simp only at hz; subst hz
        exact absurd ht (opn_none e j a h1)
    · rcases cut hj' with h2 | ⟨h2, rfl⟩
      · obtain ⟨a, z⟩ := c'
        simp only at hz'; subst hz'
        exact absurd ht.symm (opn_none e j' a h2)
      · omega
theorem GC.answer {h : Nat → EV} {n : Nat} {cs : List CC} (g : GC h n cs) {k : Nat} (e : opn h cs (h n).th = some k) : GC h (n + 1) (cs.set k ((cg cs k).1, some n)) := by
  obtain ⟨a, hk, ha⟩ := opn_hit e
  rw [cg_of hk]
  refine ⟨fun c hc => ?_, fun j j' c c' hj hj' hz hz' ht => ?_, by rw [List.length_set]; have := g.len; omega⟩
  · obtain ⟨j, hj⟩ := List.getElem?_of_mem hc
    rw [List.getElem?_set] at hj
    split at hj
    · split at hj
      · injection hj with hj; subst hj
        exact ⟨Nat.lt_succ_of_lt (g.lt _ (List.mem_of_getElem? hk)).1, fun z hz => by injection hz with hz; omega⟩
      · cases hj
    · exact (g.more).lt c (List.mem_of_getElem? hj)
  · rw [List.getElem?_set] at hj hj'
    split at hj
    · split at hj
      · injection hj with hj; subst hj; cases hz
      · cases hj
    · split at hj'
      · split at hj'
        · injection hj' with hj'; subst hj'; cases hz'
        · cases hj'
      · exact g.un j j' c c' hj hj' hz hz' ht
theorem GC.step {h : Nat → EV} {n : Nat} {cs ds : List CC} (g : GC h n cs) (e : stepC h n cs = some ds) : GC h (n + 1) ds := by
  unfold stepC at e
  split at e
  · injection e with e; subst e; exact g.more
  · split at e
    · rename_i e2
      split at e
      · injection e with e; subst e; exact g.ask e2
      · cases e
    · rename_i k e2
      split at e
      · injection e with e; subst e; exact g.answer e2
      · cases e
theorem GC.of {h : Nat → EV} : ∀ {n : Nat} {cs : List CC}, callsF h n = some cs → GC h n cs
  | 0, cs, e => by injection e with e; subst e; exact GC.nil h
  | n + 1, cs, e => by
    have e' : (callsF h n).bind (stepC h n) = some cs := e
    cases e2 : callsF h n with
    | none => rw [e2] at e'; cases e'
    | some ds => rw [e2] at e'; exact (GC.of e2).step e'
/-- Who is open behind a call. -/
theorem opn_ask {h : Nat → EV} {n : Nat} {cs : List CC} (g : GC h n cs) (e : opn h cs (h n).th = none) (t : Int) :
    opn h (cs ++ [(n, none)]) t = if t = (h n).th then some cs.length else opn h cs t := by
  have g' := g.ask e
  by_cases ht : t = (h n).th
  · rw [if_pos ht]; exact opn_of g' (by simp) ht.symm
  · rw [if_neg ht]
    cases e2 : opn h cs t with
    | some k =>
      obtain ⟨a, hk, ha⟩ := opn_hit e2
      exact opn_of g' (by rw [List.getElem?_append_left (List.getElem?_eq_some_iff.1 hk).1]; exact hk) ha
    | none =>
      cases e3 : opn h (cs ++ [(n, none)]) t with
      | none => rfl
      | some k =>
        obtain ⟨a, hk, ha⟩ := opn_hit e3
        rcases Nat.lt_trichotomy k cs.length with hl | hl | hl
        · rw [List.getElem?_append_left hl] at hk; exact absurd ha (opn_none e2 k a hk)
        · subst hl; simp at hk; subst hk; exact absurd ha.symm ht
        · rw [List.getElem?_eq_none (by simp; omega)] at hk; cases hk
/-- Who is open behind an answer. -/
theorem opn_answer {h : Nat → EV} {n : Nat} {cs : List CC} (g : GC h n cs) {k : Nat} (e : opn h cs (h n).th = some k) (t : Int) :
    opn h (cs.set k ((cg cs k).1, some n)) t = if t = (h n).th then none else opn h cs t := by
  have g' := g.answer e
  obtain ⟨a, hk, ha⟩ := opn_hit e
  rw [cg_of hk] at g' ⊢
  have off : ∀ {j : Nat} {b : Nat}, (cs.set k (a, some n))[j]? = some (b, none) → j ≠ k ∧ cs[j]? = some (b, none) := by
    intro j b hj
    rw [List.getElem?_set] at hj
    split at hj
    · split at hj
      · injection hj with hj; injection hj with _ hj; cases hj
      · cases hj
    · rename_i hne; exact ⟨fun h => hne h.symm, hj⟩
  by_cases ht : t = (h n).th
  · rw [if_pos ht]
    cases e3 : opn h (cs.set k (a, some n)) t with
    | none => rfl
    | some j =>
      obtain ⟨b, hj, hb⟩ := opn_hit e3
      obtain ⟨h1, h2⟩ := off hj
      exact absurd (g.un j k _ _ h2 hk rfl rfl (by show (h b).th = (h a).th; rw [hb, ha, ht])) h1
  · rw [if_neg ht]
    cases e2 : opn h cs t with
    | some j =>
      obtain ⟨b, hj, hb⟩ := opn_hit e2
      have hne : k ≠ j := fun h => by subst h; rw [hk] at hj; injection hj with hj; injection hj with hj _; subst hj; exact ht (hb.symm.trans ha)
      exact opn_of g' (by rw [List.getElem?_set_ne hne]; exact hj) hb
    | none =>
      cases e3 : opn h (cs.set k (a, some n)) t with
      | none => rfl
      | some j =>
        obtain ⟨b, hj, hb⟩ := opn_hit e3
        exact absurd hb (opn_none e2 j b (off hj).2)
/-- What a step is. -/
theorem stepC_some {h : Nat → EV} {i : Nat} {cs ds : List CC} (e : stepC h i cs = some ds) :
    ((h i).kd = 3 ∧ ds = cs) ∨ ((h i).kd = 1 ∧ opn h cs (h i).th = none ∧ ds = cs ++ [(i, none)]) ∨
    ∃ k a, (h i).kd = 2 ∧ opn h cs (h i).th = some k ∧ cs[k]? = some (a, none) ∧ (h i).op = (h a).op ∧ ds = cs.set k (a, some i) := by
  unfold stepC at e
  split at e
  · rename_i h3; injection e with e; exact Or.inl ⟨h3, e.symm⟩
  · split at e
    · rename_i e2
      split at e
      · rename_i h1; injection e with e; exact Or.inr (Or.inl ⟨h1, e2, e.symm⟩)
      · cases e
    · rename_i k e2
      split at e
      · rename_i h2
        injection e with e
        obtain ⟨a, hk, _⟩ := opn_hit e2
        have hc := cg_of hk
        rw [hc] at e h2
        exact Or.inr (Or.inr ⟨k, a, h2.1, e2, hk, h2.2, e.symm⟩)
      · cases e
/-- What no step is. -/
theorem stepC_none {h : Nat → EV} {i : Nat} {cs : List CC} (e : stepC h i cs = none) :
    (h i).kd ≠ 3 ∧ ((opn h cs (h i).th = none ∧ (h i).kd ≠ 1) ∨ ∃ k a, opn h cs (h i).th = some k ∧ cs[k]? = some (a, none) ∧ ((h i).kd ≠ 2 ∨ (h i).op ≠ (h a).op)) := by
  unfold stepC at e
  split at e
  · cases e
  · rename_i h3
    refine ⟨h3, ?_⟩
    split at e
    · rename_i e2
      split at e
      · cases e
      · rename_i h1; exact Or.inl ⟨e2, h1⟩
    · rename_i k e2
      split at e
      · cases e
      · rename_i h2
        obtain ⟨a, hk, _⟩ := opn_hit e2
        rw [cg_of hk] at h2
        refine Or.inr ⟨k, a, e2, hk, ?_⟩
        by_cases h4 : (h i).kd = 2
        · exact Or.inr fun h5 => h2 ⟨h4, h5⟩
        · exact Or.inl h4
theorem callsF_next {h : Nat → EV} {n i : Nat} {cs fin : List CC} (e : callsF h n = some fin) (hi : i < n) (ei : callsF h i = some cs) : ∃ ds, stepC h i cs = some ds ∧ callsF h (i + 1) = some ds := by
  obtain ⟨ds, hd⟩ := callsF_le e (i + 1) hi
  have : (callsF h i).bind (stepC h i) = some ds := hd
  rw [ei] at this
  exact ⟨ds, this, hd⟩
/-- n events lie in the slice v. -/
def Ev (w : World) (v : Value) (n : Nat) (h : Nat → EV) : Prop :=
  (n = 0 ∧ ∃ (a : Option Addr) (c : Nat), v = .slice a 0 c ∧ (a = none → c = 0)) ∨
  ∃ (b off c : Nat), v = .slice (some ⟨b, off, none⟩) n c ∧ 0 < n ∧ n ≤ c ∧ n ≤ 9223372036854775807 ∧ ∀ i, i < n → w.rangeAt b (off + i * 9) (h i).row ∧ (Lit.int .i64 (h i).th).wf = true
theorem Ev.later {w w' : World} {v : Value} {n : Nat} {h : Nat → EV} (E : Ev w v n h) (hb : Below w.heap.size w w') : Ev w' v n h := by
  rcases E with E | ⟨b, off, c, h1, h2, h3, h4, h5⟩
  · exact Or.inl E
  · exact Or.inr ⟨b, off, c, h1, h2, h3, h4, fun i hi => ⟨fun j v hv => by
      have := (h5 i hi).1 j v hv
      rw [hb.cell (World.block_lt_of_cell? w _ this)]; exact this, (h5 i hi).2⟩⟩
theorem Ev.all {w : World} {b off c n : Nat} {h : Nat → EV} (E : Ev w (.slice (some ⟨b, off, none⟩) n c) n h) : ∀ w', Below w.heap.size w w' → ∀ i, i < n → w'.rangeAt b (off + i * 9) (h i).row ∧ (Lit.int .i64 (h i).th).wf = true := by
  intro w' hb i hi
  rcases E.later hb with ⟨h, _⟩ | ⟨b2, off2, c2, hv2, _, _, _, hh⟩
  · omega
  · injection hv2 with e1 _ _
    injection e1 with e1
    injection e1 with e1 e2
    subst e1 e2
    exact hh i hi
end Go.Proofs.YtaipanjigindbaaDoor.Tab
namespace Go.Proofs.YtaipanjigindbaaDoor
set_option maxRecDepth 20000
open Go.ChangeShapes Go.WideShapes Go.ChangeAt Go.RowKit

/-- n events lie in the slice v. -/
def Evs (w : World) (v : Value) (n : Nat) : Prop := ∃ h : Nat → Tab.EV, Tab.Ev w v n h
/-- n deeds lie in the slice v; their threads are ints. -/
def Ddw (w : World) (v : Value) (n : Nat) : Prop := ∃ q : Nat → Tab.DD, Tab.Dq w v n q ∧ ∀ i, i < n → (Lit.int .i64 (q i).t).wf = true
theorem event_fields : ∃ f0 f1 f2 f3 f4 f5 : Field, Tryd.prog.underlying 85 = some (.struct #[f0, f1, f2, f3, f4, f5]) ∧
    (f0.type = 3 ∧ f0.offset = 0) ∧ (f1.type = 3 ∧ f1.offset = 1) ∧ (f2.type = 47 ∧ f2.offset = 2) ∧ (f3.type = 49 ∧ f3.offset = 5) ∧ (f4.type = 3 ∧ f4.offset = 7) ∧ (f5.type = 3 ∧ f5.offset = 8) :=
  ⟨_, _, _, _, _, _, Tryd.underlying85, ⟨rfl, rfl⟩, ⟨rfl, rfl⟩, ⟨rfl, rfl⟩, ⟨rfl, rfl⟩, ⟨rfl, rfl⟩, ⟨rfl, rfl⟩⟩

set_option maxRecDepth 20000 in
set_option maxHeartbeats 1000000 in
theorem events_of_trod {H : Type} {enc : TypeId × Value → H} {W : World} {r : Reach} {b0 : Nat} {v : Value} {d : DataW H} {p : List MemPlace} (hval : Value.okWide Tryd.prog W r b0 39 v)
    (h : DataW.Trod enc Tryd.prog W 0 (fun _ => true) true 39 v d p) : ∃ n, Evs W v n := by
  obtain ⟨fuel, hf⟩ := h
  obtain ⟨A, l, c, rfl⟩ := okWide_slice Tryd.underlying39 hval
  have hc9 : Tryd.prog.cellsOf 85 = 9 := by kernel_rfl
  have hc3 : Tryd.prog.cellsOf 47 = 3 := by kernel_rfl
  have hc2 : Tryd.prog.cellsOf 49 = 2 := by kernel_rfl
  have ci : Tryd.prog.cellsOf 3 = 1 := by kernel_rfl
  obtain ⟨f0, f1, f2, f3, f4, f5, hu, ⟨t0, o0⟩, ⟨t1, o1⟩, ⟨t2, o2⟩, ⟨t3, o3⟩, ⟨t4, o4⟩, ⟨t5, o5⟩⟩ := event_fields
  obtain ⟨g0, g1, g2, hg, ⟨tg0, og0⟩, ⟨tg1, og1⟩, ⟨tg2, og2⟩⟩ := op_fields'
  obtain ⟨e0, e1, he, ⟨te0, oe0⟩, ⟨te1, oe1⟩⟩ := answer_fields
  have none : ∀ (a : Option Addr) (k : Nat), (a = Option.none → k = 0) → ∃ n, Evs W (.slice a 0 k) n := fun a k hk => ⟨0, fun _ => ⟨0, 0, 0, 0, 0, 0, 0, 0, 0⟩, Or.inl ⟨rfl, a, k, rfl, hk⟩⟩
  rcases Deep.open_slice Tryd.underlying39 hf with ⟨hcs, _⟩ | ⟨a, len, cap, m, n, D, Pl, hcs, _, hl, hmx, hm, _, hx⟩
  · simp [Value.cells] at hcs
    obtain ⟨rfl, rfl, rfl⟩ := hcs
    exact none _ _ fun _ => rfl
  · simp [Value.cells] at hcs
    obtain ⟨rfl, rfl, rfl⟩ := hcs
    by_cases h0 : l = 0
    · subst h0
      exact none _ _ fun h => by cases h
    have hcell : ∀ i, i < l → ∃ ev : Tab.EV, (∀ j v, ev.row[j]? = some v → W.cell? ((a.add (i * 9)).add j) = some v) ∧ (Lit.int .i64 ev.th).wf = true := by
      intro i hi
      obtain ⟨cs', h1, h2⟩ := hx i (by rw [hm]; simp; omega)
      rw [hc9] at h1
      obtain ⟨_, hlen, hcell⟩ := World.cells?_some h1
      obtain ⟨xs, k, _, _, _, hxl, hfl⟩ := DataW.trod_struct hu h2
      match cs', hlen, xs, hxl with
      | [v0, v1, v2, v3, v4, v5, v6, v7, v8], _, [y0, y1, y2, y3, y4, y5], _ =>
        have k0 := hfl 0 f0 rfl
        have k1 := hfl 1 f1 rfl
        have k2 := hfl 2 f2 rfl
        have k3 := hfl 3 f3 rfl
        have k4 := hfl 4 f4 rfl
        have k5 := hfl 5 f5 rfl
        rw [t0, o0, ci] at k0
        rw [t1, o1, ci] at k1
        rw [t2, o2, hc3] at k2
        rw [t3, o3, hc2] at k3
        rw [t4, o4, ci] at k4
        rw [t5, o5, ci] at k5
        obtain ⟨n0, q0, _, _⟩ := DataW.trod_int Tryd.underlying3 k0
        obtain ⟨n1, q1, _, w1⟩ := DataW.trod_int Tryd.underlying3 k1
        obtain ⟨n7, q7, _, _⟩ := DataW.trod_int Tryd.underlying3 k4
        obtain ⟨n8, q8, _, _⟩ := DataW.trod_int Tryd.underlying3 k5
        obtain ⟨ys, k', _, _, _, hyl, hgl⟩ := DataW.trod_struct hg k2
        obtain ⟨zs, k'', _, _, _, hzl, hel⟩ := DataW.trod_struct he k3
        match ys, hyl, zs, hzl with
        | [z0, z1, z2], _, [u0, u1], _ =>
          have m0 := hgl 0 g0 rfl
          have m1 := hgl 1 g1 rfl
          have m2 := hgl 2 g2 rfl
          have m3 := hel 0 e0 rfl
          have m4 := hel 1 e1 rfl
          rw [tg0, og0, ci] at m0
          rw [tg1, og1, ci] at m1
          rw [tg2, og2, ci] at m2
          rw [te0, oe0, ci] at m3
          rw [te1, oe1, ci] at m4
          obtain ⟨n2, q2, _, _⟩ := DataW.trod_int Tryd.underlying3 m0
          obtain ⟨n3, q3, _, _⟩ := DataW.trod_int Tryd.underlying3 m1
          obtain ⟨n4, q4, _, _⟩ := DataW.trod_int Tryd.underlying3 m2
          obtain ⟨n5, q5, _, _⟩ := DataW.trod_int Tryd.underlying3 m3
          obtain ⟨n6, q6, _, _⟩ := DataW.trod_int Tryd.underlying3 m4
          simp at q0 q1 q2 q3 q4 q5 q6 q7 q8
          subst q0 q1 q2 q3 q4 q5 q6 q7 q8
          refine ⟨⟨n0, n1, n2, n3, n4, n5, n6, n7, n8⟩, fun j v hv => ?_, w1⟩
          have hj : j < 9 := by simpa [Tab.EV.row, Tab.el] using (List.getElem?_eq_some_iff.1 hv).1
          have := hcell j hj
          rw [this]
          simp only [Tab.EV.row, Tab.el] at hv
          exact hv
    obtain ⟨b, off, spot⟩ := a
    have hspot : spot = Option.none := by
      obtain ⟨ev, h1, _⟩ := hcell 0 (by omega)
      have := h1 0 _ rfl
      simpa [Addr.add] using World.cell?_spot this
    subst hspot
    have hev : ∀ i, ∃ ev : Tab.EV, i < l → (W.rangeAt b (off + i * 9) ev.row ∧ (Lit.int .i64 ev.th).wf = true) := fun i => by
      by_cases hi : i < l
      · obtain ⟨ev, h1, h2⟩ := hcell i hi
        refine ⟨ev, fun _ => ⟨fun j v hv => ?_, h2⟩⟩
        have := h1 j v hv
        rw [Addr.add_mid, Addr.add_mid] at this
        exact this
      · exact ⟨⟨0, 0, 0, 0, 0, 0, 0, 0, 0⟩, fun h => absurd h hi⟩
    exact ⟨l, fun i => Classical.choose (hev i), Or.inr ⟨b, off, c, rfl, by omega, hl, by unfold maxLen at hmx; omega, fun i hi => Classical.choose_spec (hev i) hi⟩⟩
theorem events_stay {H : Type} {enc : TypeId × Value → H} {W W' : World} {sp : Nat → Bool} {v : Value} {d : DataW H} {p : List MemPlace}
    (h : DataW.Trod enc Tryd.prog W 0 (fun _ => true) true 39 v d p) (hb : Below W.heap.size W W') (hlt : ∀ x ∈ p, x.block < W.heap.size) (hs : ∀ x ∈ p, sp x.block = true) :
    DataW.Trod enc Tryd.prog W' 0 sp true 39 v d p :=
  WideElems.Trod_stays laid_out (by kernel_rfl) (of_decide_eq_true (by kernel_rfl)) h (fun x hx => hb.same (hlt x hx)) hs
set_option maxRecDepth 20000 in
theorem wdeeds_of_trod {H : Type} {enc : TypeId × Value → H} {W : World} {r : Reach} {b0 : Nat} {v : Value} {d : DataW H} {p : List MemPlace} (hval : Value.okWide Tryd.prog W r b0 22 v)
    (h : DataW.Trod enc Tryd.prog W 0 (fun _ => true) true 22 v d p) : ∃ n, Ddw W v n := by
  obtain ⟨fuel, hf⟩ := h
  obtain ⟨A, l, c, rfl⟩ := okWide_slice Tryd.underlying22 hval
  have hc6 : Tryd.prog.cellsOf 53 = 6 := by kernel_rfl
  have hc3 : Tryd.prog.cellsOf 47 = 3 := by kernel_rfl
  have hc2 : Tryd.prog.cellsOf 49 = 2 := by kernel_rfl
  have ci : Tryd.prog.cellsOf 3 = 1 := by kernel_rfl
  obtain ⟨f0, f1, f2, hu, ⟨t0, o0⟩, ⟨t1, o1⟩, ⟨t2, o2⟩⟩ := deed_fields
  obtain ⟨g0, g1, g2, hg, ⟨tg0, og0⟩, ⟨tg1, og1⟩, ⟨tg2, og2⟩⟩ := op_fields'
  obtain ⟨e0, e1, he, ⟨te0, oe0⟩, ⟨te1, oe1⟩⟩ := answer_fields
  rcases Deep.open_slice Tryd.underlying22 hf with ⟨hcs, _⟩ | ⟨a, len, cap, m, n, D, Pl, hcs, _, hl, hmx, hm, _, hx⟩
  · simp [Value.cells] at hcs
    obtain ⟨rfl, rfl, rfl⟩ := hcs
    exact ⟨0, fun _ => ⟨0, 0, 0, 0, 0, 0⟩, Or.inl ⟨rfl, none, 0, rfl, fun _ => rfl⟩, fun i hi => absurd hi (Nat.not_lt_zero _)⟩
  · simp [Value.cells] at hcs
    obtain ⟨rfl, rfl, rfl⟩ := hcs
    by_cases h0 : l = 0
    · subst h0
      exact ⟨0, fun _ => ⟨0, 0, 0, 0, 0, 0⟩, Or.inl ⟨rfl, some a, c, rfl, fun h => by cases h⟩, fun i hi => absurd hi (Nat.not_lt_zero _)⟩
    have hcell : ∀ i, i < l → ∃ t o k x cc y : Int, (∀ j v, (dl t o k x cc y)[j]? = some v → W.cell? ((a.add (i * 6)).add j) = some v) ∧ (Lit.int .i64 t).wf = true := by
      intro i hi
      obtain ⟨cs', h1, h2⟩ := hx i (by rw [hm]; simp; omega)
      rw [hc6] at h1
      obtain ⟨_, hlen, hcell⟩ := World.cells?_some h1
      obtain ⟨xs, k, _, _, _, hxl, hfl⟩ := DataW.trod_struct hu h2
      match cs', hlen, xs, hxl with
      | [v0, v1, v2, v3, v4, v5], _, [y0, y1, y2], _ =>
        have k0 := hfl 0 f0 rfl
        have k1 := hfl 1 f1 rfl
        have k2 := hfl 2 f2 rfl
        rw [t0, o0, ci] at k0
        rw [t1, o1, hc3] at k1
        rw [t2, o2, hc2] at k2
        obtain ⟨n0, q0, _, w0⟩ := DataW.trod_int Tryd.underlying3 k0
        obtain ⟨ys, k', _, _, _, hyl, hgl⟩ := DataW.trod_struct hg k1
        obtain ⟨zs, k'', _, _, _, hzl, hel⟩ := DataW.trod_struct he k2
        match ys, hyl, zs, hzl with
        | [z0, z1, z2], _, [u0, u1], _ =>
          have m0 := hgl 0 g0 rfl
          have m1 := hgl 1 g1 rfl
          have m2 := hgl 2 g2 rfl
          have m3 := hel 0 e0 rfl
          have m4 := hel 1 e1 rfl
          rw [tg0, og0, ci] at m0
          rw [tg1, og1, ci] at m1
          rw [tg2, og2, ci] at m2
          rw [te0, oe0, ci] at m3
          rw [te1, oe1, ci] at m4
          obtain ⟨n1, q1, _, _⟩ := DataW.trod_int Tryd.underlying3 m0
          obtain ⟨n2, q2, _, _⟩ := DataW.trod_int Tryd.underlying3 m1
          obtain ⟨n3, q3, _, _⟩ := DataW.trod_int Tryd.underlying3 m2
          obtain ⟨n4, q4, _, _⟩ := DataW.trod_int Tryd.underlying3 m3
          obtain ⟨n5, q5, _, _⟩ := DataW.trod_int Tryd.underlying3 m4
          simp at q0 q1 q2 q3 q4 q5
          subst q0 q1 q2 q3 q4 q5
          refine ⟨n0, n1, n2, n3, n4, n5, fun j v hv => ?_, w0⟩
          have hj : j < 6 := by simpa [dl] using (List.getElem?_eq_some_iff.1 hv).1
          have := hcell j hj
          rw [this]
          simp only [dl] at hv
          exact hv
    obtain ⟨b, off, spot⟩ := a
    have hspot : spot = none := by
      obtain ⟨t, o, k, x, cc, y, h1, _⟩ := hcell 0 (by omega)
      have := h1 0 _ rfl
      simpa [Addr.add] using World.cell?_spot this
    subst hspot
    have hev : ∀ i, ∃ d : Tab.DD, i < l → (W.rangeAt b (off + i * 6) d.row ∧ (Lit.int .i64 d.t).wf = true) := fun i => by
      by_cases hi : i < l
      · obtain ⟨t, o, k, x, cc, y, h1, h2⟩ := hcell i hi
        refine ⟨⟨t, o, k, x, cc, y⟩, fun _ => ⟨fun j v hv => ?_, h2⟩⟩
        have := h1 j v hv
        rw [Addr.add_mid, Addr.add_mid] at this
        exact this
      · exact ⟨⟨0, 0, 0, 0, 0, 0⟩, fun h => absurd h hi⟩
    exact ⟨l, fun i => Classical.choose (hev i), Or.inr ⟨b, off, c, rfl, by omega, hl, by unfold maxLen at hmx; omega, fun i hi => (Classical.choose_spec (hev i) hi).1⟩, fun i hi => (Classical.choose_spec (hev i) hi).2⟩

theorem wdeeds_stay {H : Type} {enc : TypeId × Value → H} {W W' : World} {sp : Nat → Bool} {v : Value} {d : DataW H} {p : List MemPlace}
    (h : DataW.Trod enc Tryd.prog W 0 (fun _ => true) true 22 v d p) (hb : Below W.heap.size W W') (hlt : ∀ x ∈ p, x.block < W.heap.size) (hs : ∀ x ∈ p, sp x.block = true) :
    DataW.Trod enc Tryd.prog W' 0 sp true 22 v d p :=
  WideElems.Trod_stays laid_out (by kernel_rfl) (of_decide_eq_true (by kernel_rfl)) h (fun x hx => hb.same (hlt x hx)) hs
end Go.Proofs.YtaipanjigindbaaDoor
namespace Go.Proofs.YtaipanjigindbaaDoor.Tab
set_option maxRecDepth 20000
open Go.RowKit Go.Maps
set_option linter.unusedVariables false

def Hv (v : Value) : Option (DataW Value × List MemPlace) := some (.held v, [])
/-- The map m holds what f tells, of up to n stores. -/
def Imp (W : World) (m n : Nat) (f : Int → Option Value) : Prop :=
  ∃ D : DataW Value, W.ownsMap Tryd.prog 3 Hv m n D ∧ (∀ t, Maps.has D (.int .i64 t) = (f t).isSome) ∧ ∀ t v z, f t = some v → D.atKey (.int .i64 t) z = .held v
theorem int_desc' : Tryd.prog.underlying 3 = some (.int .i64) := by kernel_rfl
section
variable {W W' : World} {m n : Nat} {f : Int → Option Value}
theorem Imp.made (w : World) : Imp (w.alloc (.map #[] 0)) w.heap.size 0 (fun _ => none) := ⟨.map [], World.ownsMap_made _ _ _ _, fun _ => rfl, fun _ _ _ h => (by cases h)⟩
theorem Imp.keep (h : Imp W m n f) (hb : W'.heap[m]? = W.heap[m]?) : Imp W' m n f := by
  obtain ⟨D, ⟨es, clk, h1, h2⟩, h3⟩ := h
  exact ⟨D, ⟨es, clk, by rw [hb]; exact h1, h2⟩, h3⟩
theorem Imp.lt (h : Imp W m n f) : m < W.heap.size := by obtain ⟨D, h1, _⟩ := h; exact World.ownsMap.lt h1
theorem Imp.later (h : Imp W m n f) (hb : Below W.heap.size W W') : Imp W' m n f := h.keep (hb.block m h.lt)
theorem Imp.laterA (h : Imp W m n f) {B : Nat} (hb : Below B W W') (hm : m < B) : Imp W' m n f := h.keep (hb.block m hm)
theorem Imp.new (h : Imp W m n f) (o : Obj) : Imp (W.alloc o) m n f := h.later (new_below W o)
theorem Imp.drew (h : Imp W m n f) : Imp W.drew m n f := h
theorem Imp.aside1 (h : Imp W m n f) {c j : Nat} (hc : m ≠ c) (v : Value) : Imp (W.setCell ⟨c, j, none⟩ v) m n f := h.keep (Below.heap_setCell _ _ _ _ hc)
theorem Imp.asideL (h : Imp W m n f) {c : Nat} (hc : m ≠ c) (o : Nat) (vs : List Value) : Imp (W.setCells c o vs) m n f := h.keep (heap_setCells hc _ _ _)
theorem Imp.congr {g : Int → Option Value} (h : Imp W m n f) (e : ∀ t, g t = f t) : Imp W m n g := by
  have : g = f := funext e
  rw [this]; exact h
theorem Imp.look {T E : TypeId} (hT : Tryd.prog.underlying T = some (.map 3 E)) {z : Value} (hz : ∀ W, (zeroValue E).run Tryd.prog W = .ok z W) (h : Imp W m n f) {t : Int} (ht : (Lit.int .i64 t).wf = true) {v : Value} (hv : f t = some v) :
    (Instr.lookup T (.map (some m)) (.int .i64 t) true).run Tryd.prog W = .ok (.tuple #[v, .bool true]) W := by
  obtain ⟨D, h1, h2, h3⟩ := h
  obtain ⟨u, ps, r1, r2⟩ := World.ownsMap.look_ok h1 (int_keyed int_desc') hT (hz W) (zd := .held z) (zp := []) rfl (keyOf_int_mk int_desc' ht)
  rw [h2, hv] at r1
  rw [h3 t v _ hv] at r2
  unfold Hv at r2
  injection r2 with r2
  injection r2 with r2 _
  injection r2 with r2
  rw [r1, r2]; rfl
theorem Imp.miss {T E : TypeId} (hT : Tryd.prog.underlying T = some (.map 3 E)) {z : Value} (hz : ∀ W, (zeroValue E).run Tryd.prog W = .ok z W) (h : Imp W m n f) {t : Int} (ht : (Lit.int .i64 t).wf = true) (hv : f t = none) :
    (Instr.lookup T (.map (some m)) (.int .i64 t) true).run Tryd.prog W = .ok (.tuple #[z, .bool false]) W := by
  obtain ⟨D, h1, h2, h3⟩ := h
  obtain ⟨u, ps, r1, r2⟩ := World.ownsMap.look_ok h1 (int_keyed int_desc') hT (hz W) (zd := .held z) (zp := []) rfl (keyOf_int_mk int_desc' ht)
  rw [h2, hv] at r1
  rw [atKey_of_not_has (by rw [h2, hv]; rfl)] at r2
  unfold Hv at r2
  injection r2 with r2
  injection r2 with r2 _
  injection r2 with r2
  rw [r1, r2]; rfl
theorem Imp.add {T E : TypeId} (hT : Tryd.prog.underlying T = some (.map 3 E)) (h : Imp W m n f) (hn : n < maxLen) {t : Int} (ht : (Lit.int .i64 t).wf = true) (v : Value) :
    ∃ W', (Instr.mapUpdate T (.map (some m)) (.int .i64 t) v).run Tryd.prog W = .ok () W' ∧ Imp W' m (n + 1) (fun s => if s = t then some v else f s) ∧ W.mapTurned W' m := by
  obtain ⟨D, h1, h2, h3⟩ := h
  obtain ⟨W', r1, r2, r3⟩ := World.ownsMap.store h1 (int_keyed int_desc') hT hn (keyOf_int_mk int_desc' ht) (val := v) (d := .held v) (ps := []) rfl
  refine ⟨W', r1, ⟨_, r2, fun s => ?_, fun s u z hs => ?_⟩, r3⟩
  · show _ = (if s = t then some v else f s).isSome
    by_cases e : s = t
    · subst e; rw [if_pos rfl, has_put_same (k := .int .i64 s) h1.isMap (show True from trivial)]; rfl
    · rw [if_neg e, has_put_other (by intro h; injection h with _ h; exact e h), h2]
  · replace hs : (if s = t then some v else f s) = some u := hs
    by_cases e : s = t
    · subst e; rw [if_pos rfl] at hs; injection hs with hs; subst hs; exact atKey_put_same (k := .int .i64 s) h1.isMap (show True from trivial) _ _
    · rw [if_neg e] at hs; rw [atKey_put_other (by intro h; injection h with _ h; exact e h)]; exact h3 s u z hs
theorem Imp.del {T E : TypeId} (hT : Tryd.prog.underlying T = some (.map 3 E)) (h : Imp W m n f) {t : Int} (ht : (Lit.int .i64 t).wf = true) (ty : TypeId) :
    ∃ W', (Builtin.delete_ #[T, 3] ty #[.map (some m), .int .i64 t]).run Tryd.prog W = .ok (.tuple #[]) W' ∧ Imp W' m n (fun s => if s = t then none else f s) ∧ W.mapTurned W' m := by
  obtain ⟨D, h1, h2, h3⟩ := h
  obtain ⟨W', r1, r2, r3⟩ := World.ownsMap.drop h1 (int_keyed int_desc') hT (keyOf_int_mk int_desc' ht) ty
  refine ⟨W', r1, ⟨_, r2, fun s => ?_, fun s u z hs => ?_⟩, r3⟩
  · show _ = (if s = t then none else f s).isSome
    by_cases e : s = t
    · subst e; rw [if_pos rfl, has_del_same]; rfl
    · rw [if_neg e, has_del_other (by intro h; injection h with _ h; exact e h), h2]
  · replace hs : (if s = t then none else f s) = some u := hs
    by_cases e : s = t
    · subst e; rw [if_pos rfl] at hs; cases hs
    · rw [if_neg e] at hs; rw [atKey_del_other (by intro h; injection h with _ h; exact e h)]; exact h3 s u z hs
theorem Imp.froz (h : Imp W m n f) (j : Nat) : W.frozen? ⟨m, j, none⟩ = false := by
  obtain ⟨D, ⟨es, clk, h1, h2⟩, _⟩ := h
  simp [World.frozen?, h1]
end

/-- The place of an answer, as the program has it. -/
def zp : Option Nat → Int
  | none => 9223372036854775807
  | some z => (z : Nat)
def ccs (cs : List CC) : List Value := cs.flatMap fun c => [.int .i64 (c.1 : Nat), .int .i64 (zp c.2)]
theorem ccs_length (cs : List CC) : (ccs cs).length = cs.length * 2 := by
  induction cs with
  | nil => rfl
  | cons c cs ih => show ([_, _] ++ ccs cs).length = _; rw [List.length_append, ih]; simp; omega
theorem ccs_get : ∀ (cs : List CC) (k : Nat) (c : CC), cs[k]? = some c → (ccs cs)[k * 2]? = some (.int .i64 (c.1 : Nat)) ∧ (ccs cs)[k * 2 + 1]? = some (.int .i64 (zp c.2))
  | [], k, c, h => by simp at h
  | d :: cs, 0, c, h => by simp at h; subst h; exact ⟨rfl, rfl⟩
  | d :: cs, k + 1, c, h => by
    have := ccs_get cs k c (by simpa using h)
    rw [show (k + 1) * 2 = k * 2 + 2 by omega, show k * 2 + 2 + 1 = k * 2 + 1 + 2 by omega]
    exact this
theorem ccs_app (cs : List CC) (c : CC) : ccs (cs ++ [c]) = ccs cs ++ [.int .i64 (c.1 : Nat), .int .i64 (zp c.2)] := by simp [ccs]
theorem ccs_set : ∀ (cs : List CC) (k a : Nat) (y z : Option Nat), cs[k]? = some (a, y) → (ccs cs).set (k * 2 + 1) (.int .i64 (zp z)) = ccs (cs.set k (a, z))
  | [], k, a, y, z, h => by simp at h
  | d :: cs, 0, a, y, z, h => by simp at h; subst h; rfl
  | d :: cs, k + 1, a, y, z, h => by
    have := ccs_set cs k a y z (by simpa using h)
    rw [show (k + 1) * 2 + 1 = k * 2 + 1 + 2 by omega]
    show _ :: _ :: (ccs cs).set (k * 2 + 1) _ = _ :: _ :: ccs (cs.set k (a, z))
    rw [this]
/-- A row of calls of the call's own. -/
def Oc (B : Nat) (W : World) (v : Value) (cs : List CC) : Prop := W.ownsRow B 114 2 v cs.length (ccs cs)
section
variable {B : Nat} {W W' : World} {v : Value} {cs : List CC}
theorem Oc.nil (B : Nat) (W : World) : Oc B W (.slice none 0 0) [] := World.ownsRow_nil _ _ _ _
theorem Oc.keep (h : Oc B W v cs) (hb : ∀ g, v.ownBlock = some g → W'.heap[g]? = W.heap[g]?) : Oc B W' v cs := by
  refine ⟨h.1, ?_⟩
  rcases h.2 with e | ⟨g, cap, cur, hv, h1, h2, h3⟩
  · exact .inl e
  · exact .inr ⟨g, cap, cur, hv, h1, by rw [hb g (by rw [hv]; rfl)]; exact h2, h3⟩
theorem Oc.lt (h : Oc B W v cs) : ∀ g, v.ownBlock = some g → B ≤ g ∧ g < W.heap.size := World.ownsRow.lt h
theorem Oc.later (h : Oc B W v cs) (hb : Below W.heap.size W W') : Oc B W' v cs := h.keep fun g hg => hb.block g (h.lt g hg).2
theorem Oc.new (h : Oc B W v cs) (o : Obj) : Oc B (W.alloc o) v cs := h.later (new_below W o)
theorem Oc.drew (h : Oc B W v cs) : Oc B W.drew v cs := h
theorem Oc.asideL (h : Oc B W v cs) {c : Nat} (hc : ∀ g, v.ownBlock = some g → g ≠ c) (o : Nat) (vs : List Value) : Oc B (W.setCells c o vs) v cs := h.keep fun g hg => heap_setCells (hc g hg) _ _ _
theorem Oc.aside1 (h : Oc B W v cs) {c j : Nat} (hc : ∀ g, v.ownBlock = some g → g ≠ c) (u : Value) : Oc B (W.setCell ⟨c, j, none⟩ u) v cs := h.keep fun g hg => Below.heap_setCell _ _ _ _ (hc g hg)
theorem Oc.turned {m : Nat} (h : Oc B W v cs) (hm : m < B) (ht : W.mapTurned W' m) : Oc B W' v cs := h.keep fun g hg => ht.grown.block g (h.lt g hg).2 (fun e => by have := (h.lt g hg).1; injection e with e; omega)
theorem Oc.form (h : Oc B W v cs) : (v = .slice none 0 0 ∧ cs = []) ∨ ∃ g cap, v = .slice (some ⟨g, 0, none⟩) cs.length cap ∧ B ≤ g ∧ cs.length ≤ cap ∧ Bo W g (ccs cs) := by
  rcases h.2 with ⟨e, e2⟩ | ⟨g, cap, cur, hv, h1, h2, h3, h4, h5, h6⟩
  · exact .inl ⟨e, List.length_eq_zero_iff.1 e2⟩
  · have h' : W.ownsRow B 114 2 (.slice (some ⟨g, 0, none⟩) cs.length cap) cs.length (ccs cs) := hv ▸ h
    refine .inr ⟨g, cap, hv, h1, h3, ⟨fun j u hu => ?_, fun j => World.ownsRow.frozenAt h' j, (h.lt g (by rw [hv]; rfl)).2⟩⟩
    have hj : j < cs.length * 2 := by rw [← ccs_length]; exact (List.getElem?_eq_some_iff.1 hu).1
    rw [World.ownsRow.cellAt h' j hj]; exact hu
theorem Oc.len (h : Oc B W v cs) : ∃ (a : Option Addr) (cap : Nat), v = .slice a cs.length cap := by
  rcases h.form with ⟨e, rfl⟩ | ⟨g, cap, e, _⟩
  · exact ⟨none, 0, e⟩
  · exact ⟨_, cap, e⟩
theorem Oc.bo {g cap m : Nat} (h : Oc B W (.slice (some ⟨g, 0, none⟩) m cap) cs) : Bo W g (ccs cs) := by
  rcases h.form with ⟨e, _⟩ | ⟨g2, cap2, e, _, _, hb⟩
  · cases e
  · injection e with e _ _
    injection e with e
    injection e with e
    subst e; exact hb
theorem Oc.set {g cap k a : Nat} {y : Option Nat} (h : Oc B W (.slice (some ⟨g, 0, none⟩) cs.length cap) cs) (hk : cs[k]? = some (a, y)) (z : Option Nat) :
    Oc B (W.setCell ⟨g, k * 2 + 1, none⟩ (.int .i64 (zp z))) (.slice (some ⟨g, 0, none⟩) cs.length cap) (cs.set k (a, z)) := by
  have := World.ownsRow.stored (w := W) (base := B) (e := 114) (size := 2) (g := g) (n := cs.length) (cap := cap) (xs := ccs cs) h (k * 2 + 1) (.int .i64 (zp z))
  replace this := this.1
  rw [ccs_set cs k a y z hk] at this
  unfold Oc
  rw [List.length_set]
  exact this
theorem infoCall : (Tryd.prog.info? 114).map (fun i => (i.zero, i.size, i.bytes)) = some (some (.agg #[.int .i64 0, .int .i64 0]), 2, 16) := by kernel_rfl
theorem calls_desc : Tryd.prog.underlying 76 = some (.slice 114) := by kernel_rfl
theorem Oc.push (h : Oc B W v cs) (hB : B ≤ W.heap.size) {nb i : Nat} (c0 : W.cell? ⟨nb, 0, none⟩ = some (.int .i64 (i : Nat))) (c1 : W.cell? ⟨nb, 1, none⟩ = some (.int .i64 9223372036854775807)) (hn : cs.length ≤ 1000000) (ty : TypeId) :
    ∃ v' W', (Builtin.append_ #[76, 76] ty #[v, .slice (some ⟨nb, 0, none⟩) 1 1]).run Tryd.prog W = .ok v' W' ∧ Oc B W' v' (cs ++ [(i, none)]) ∧ Below B W W' := by
  obtain ⟨i0, hi, hz0, hz1, hz2⟩ := info_parts infoCall
  obtain ⟨v', w', hr, ho, hg, _⟩ := run_append_own (P := Tryd.prog) (w := W) B 76 ty 114 i0 (.agg #[.int .i64 0, .int .i64 0]) 2 16 calls_desc hi hz0 hz1 hz2 rfl (by decide) v cs.length (ccs cs) h ⟨nb, 0, none⟩ 1 1 [.int .i64 (i : Nat), .int .i64 9223372036854775807] rfl
    (fun j u hu => by
      rw [Addr.add_lit]
      match j, hu with
      | 0, hu => simp at hu; subst hu; simpa using c0
      | 1, hu => simp at hu; subst hu; simpa using c1
      | j + 2, hu => simp at hu)
    (fun u hu => by simp at hu; rcases hu with rfl | rfl <;> rfl) (by unfold maxLen; omega) (by omega) hB
  refine ⟨v', w', hr, ?_, (Below.refl _ W).grown hg hB (fun j hj => (h.lt j hj).1)⟩
  unfold Oc
  rw [ccs_app, List.length_append]
  exact ho
end
section
variable {P : Program} {ops : Array Oper} {rest : List Oper} {o : Oper} {a : Act} {w : World} {Q : Exit → Act → World → Prop}
theorem wpList_look (hg : o.guard = none) (m x : Operand) (t : TypeId) (hop : o.op = .lookup t m x true) {b : Nat} {th : Int} {r : Value} (hm : a.eval m = .map (some b)) (hx : a.eval x = .int .i64 th)
    (hr : (Instr.lookup t (.map (some b)) (.int .i64 th) true).run P w = .ok r w) (hK : wpList P ops Q rest (a.put o.dst r) w) : wpList P ops Q (o :: rest) a w := by
  refine wpList_plain hg fun K' hK' => ?_
  unfold Oper.wp
  simp [execOp, hop, hm, hx, hr, Result.andThen]
  exact hK' _ _ hK
theorem wpList_mapUp (hg : o.guard = none) (m x v : Operand) (t : TypeId) (hop : o.op = .mapUpdate t m x v) {b : Nat} {th : Int} {u : Value} {w' : World} (hm : a.eval m = .map (some b)) (hx : a.eval x = .int .i64 th) (hv : a.eval v = u)
    (hr : (Instr.mapUpdate t (.map (some b)) (.int .i64 th) u).run P w = .ok () w') (hK : wpList P ops Q rest (a.put o.dst undef) w') : wpList P ops Q (o :: rest) a w := by
  refine wpList_plain hg fun K' hK' => ?_
  unfold Oper.wp
  simp [execOp, hop, hm, hx, hv, hr, Result.andThen]
  exact hK' _ _ hK
theorem wpList_del (hg : o.guard = none) (m x : Operand) (t k : TypeId) (hop : o.op = .call { callee := .builtin .delete, args := #[m, x], argTypes := #[t, k] }) {b : Nat} {th : Int} {w' : World} (hm : a.eval m = .map (some b)) (hx : a.eval x = .int .i64 th)
    (hr : (Builtin.delete_ #[t, k] o.type #[.map (some b), .int .i64 th]).run P w = .ok (.tuple #[]) w') (hK : wpList P ops Q rest (a.put o.dst (.tuple #[])) w') : wpList P ops Q (o :: rest) a w := by
  refine wpList_plain hg fun K' hK' => ?_
  unfold Oper.wp
  simp [execOp, hop, resolve, invoke, builtin, hm, hx, hr, Result.andThen]
  exact hK' _ _ hK
theorem wpList_push (hP : P = Tryd.prog) (hgd : o.guard = none) (s x : Operand) (ho : o.op = .call { callee := .builtin .append, args := #[s, x], argTypes := #[76, 76] })
    {B : Nat} {v : Value} {cs : List CC} {nb i : Nat} (hs : a.eval s = v) (hx : a.eval x = .slice (some ⟨nb, 0, none⟩) 1 1) (hB : B ≤ w.heap.size) (h : Oc B w v cs) (c0 : w.cell? ⟨nb, 0, none⟩ = some (.int .i64 (i : Nat))) (c1 : w.cell? ⟨nb, 1, none⟩ = some (.int .i64 9223372036854775807)) (hn : cs.length ≤ 1000000)
    (hk : ∀ v' w', Oc B w' v' (cs ++ [(i, none)]) → Below B w w' → wpList P ops Q rest (a.put o.dst v') w') : wpList P ops Q (o :: rest) a w := by
  subst hP
  refine wpList_plain hgd fun K hK => ?_
  obtain ⟨v', w', hr, h2, h3⟩ := h.push hB c0 c1 hn o.type
  unfold Oper.wp execOp
  simp only [ho, resolve, invoke, builtin, Sem.run_bind, Sem.run_pure, Result.andThen_ok, List.map_toArray, List.map_cons, List.map_nil, hs, hx, hr]
  exact hK _ _ (hk v' w' h2 h3)
end
section
variable {W W' : World} {m : Nat}
/-- Blocks behind what turns the map alone. -/
theorem Ms.turned {n : Nat} {w : World} {L : List (Nat × List Value)} {Q : List (Nat × Value × List Int)} (h : Ms n w W L Q) (k : Nat) (hk : L[k]? = some (m, [])) (hg : W.grownBy W' (some m)) (hf : ∀ j, W'.frozen? ⟨m, j, none⟩ = false) : Ms n w W' L Q where
  gd := ⟨h.gd.1, h.gd.2.grown hg h.gd.2.size (fun c hc => by injection hc with hc; have := h.key k hk; have := h.gd.1; omega)⟩
  bo p hp := by
    by_cases e : p.1 = m
    · have hn : p = (m, []) := by
        obtain ⟨j, hj⟩ := List.getElem?_of_mem hp
        have h1 : (L.map (·.1))[j]? = some m := by rw [List.getElem?_map, hj, Option.map_some, e]
        have h2 : (L.map (·.1))[k]? = some m := by rw [List.getElem?_map, hk]; rfl
        have := nodup_inj h.nd h1 h2
        subst this
        rw [hj] at hk; injection hk
      have hB := h.bo p hp
      rw [hn] at hB ⊢
      exact ⟨fun j v hv => by simp at hv, fun j => hf j, Nat.lt_of_lt_of_le hB.lt hg.size⟩
    · exact (h.bo p hp).keep (hg.block _ (h.bo p hp).lt (fun c => e (by injection c))) (Nat.lt_of_lt_of_le (h.bo p hp).lt hg.size)
  ge := h.ge
  nd := h.nd
  li q hq := (h.li q hq).keep hg.size (fun b h _ => h) (fun b hb hl => hg.block b hl (fun c => by
    injection c with c
    subst c
    exact hb (List.mem_map.2 ⟨_, List.mem_of_getElem? hk, rfl⟩)))
theorem Ms.ne {n : Nat} {w : World} {L : List (Nat × List Value)} {Q : List (Nat × Value × List Int)} (h : Ms n w W L Q) (i j : Nat) {b c : Nat} {cs ds : List Value} (hi : L[i]? = some (b, cs)) (hj : L[j]? = some (c, ds)) (hij : i ≠ j) : b ≠ c := fun e => by
  have h1 : (L.map (·.1))[i]? = some b := by rw [List.getElem?_map, hi]; rfl
  have h2 : (L.map (·.1))[j]? = some b := by rw [List.getElem?_map, hj, e]; rfl
  exact hij (nodup_inj h.nd h1 h2)
end
theorem Ms.bornM {n : Nat} {w W : World} {L : List (Nat × List Value)} {Q : List (Nat × Value × List Int)} (h : Ms n w W L Q) {b : Nat} (hb : b = W.heap.size) : Ms n w (W.alloc (.map #[] 0)) ((b, []) :: L) Q := by
  subst hb
  exact h.laterB (new_below W _) (Nat.le_refl _) ⟨fun j v hv => by simp at hv, fun j => Imp.froz (Imp.made W) j, by simp⟩
theorem Imp.mono {W : World} {m n n' : Nat} {f : Int → Option Value} (h : Imp W m n f) (hn : n ≤ n') : Imp W m n' f := by
  obtain ⟨D, h1, h2⟩ := h
  exact ⟨D, World.ownsMap.mono h1 hn, h2⟩
theorem Ms.sz1 {n : Nat} {w W : World} {L : List (Nat × List Value)} {Q : List (Nat × Value × List Int)} {b m : Nat} {r : List Value} (h : Ms n w W ((b, r) :: (m, []) :: L) Q) : m + 1 ≤ W.heap.size := by
  have := h.len 1 rfl; omega
theorem Oc.mono_ {B C : Nat} {W : World} {v : Value} {cs : List CC} (h : Oc B W v cs) (hb : C ≤ B) : Oc C W v cs := by
  refine ⟨h.1, ?_⟩
  rcases h.2 with e | ⟨g, cap, cur, hv, h1, h2⟩
  · exact .inl e
  · exact .inr ⟨g, cap, cur, hv, Nat.le_trans hb h1, h2⟩
theorem op_eq (o k x o' k' x' : Int) (b : Bool) (hb : b = true ↔ (o, k, x) = (o', k', x')) (w : World) : (Op.equalIn 10000 47 (.agg #[.int .i64 o, .int .i64 k, .int .i64 x]) (.agg #[.int .i64 o', .int .i64 k', .int .i64 x'])).run Tryd.prog w = .ok b w := by
  have he : b = ((o == o') && ((k == k') && (x == x'))) := by
    rw [Bool.eq_iff_iff, hb]; simp
  rw [he]
  cases h1 : (o == o') <;> cases h2 : (k == k') <;> cases h3 : (x == x') <;> go_simp <;> simp [h1, h2, h3]
theorem rwEv (kd th o k x c y wh st : Int) : Rw Tryd.prog 85 (el kd th o k x c y wh st) := ⟨⟨_, Tryd.underlying85, rfl⟩, by kernel_rfl, by intro v hv; simp [el] at hv; rcases hv with rfl | rfl | rfl | rfl | rfl | rfl | rfl | rfl | rfl <;> rfl⟩
end Go.Proofs.YtaipanjigindbaaDoor.Tab
namespace Go.Proofs.YtaipanjigindbaaDoor.Tab
set_option maxRecDepth 20000
open Go.RowKit
set_option linter.unusedVariables false

/-- A deed is what an event says. -/
def Sm (d : DD) (e : EV) : Prop := d.t = e.th ∧ d.op = e.op ∧ d.c = e.c ∧ d.y = e.y
instance (d : DD) (e : EV) : Decidable (Sm d e) := by unfold Sm; infer_instance
/-- One call more. -/
def stepA (h : Nat → EV) (q : Nat → DD) (m k : Nat) (c : CC) (bl : List (Option Nat)) : Except Int (List (Option Nat)) :=
  match c.2 with
  | none => .ok bl
  | some z => if (h z).wh < 1 ∨ (m : Int) < (h z).wh then .error 7
    else if ¬ Sm (q ((h z).wh.toNat - 1)) (h z) then .error 13
    else if (bl.getD ((h z).wh.toNat - 1) none).isSome then .error 9
    else .ok (bl.set ((h z).wh.toNat - 1) (some k))
def ansF (h : Nat → EV) (q : Nat → DD) (m : Nat) (cs : List CC) : Nat → Except Int (List (Option Nat))
  | 0 => .ok (List.replicate m none)
  | k + 1 => match ansF h q m cs k with
    | .error e => .error e
    | .ok bl => stepA h q m k (cg cs k) bl
theorem ansF_ok {h : Nat → EV} {q : Nat → DD} {m : Nat} {cs : List CC} : ∀ {k : Nat} {bl : List (Option Nat)}, ansF h q m cs k = .ok bl → ∀ j, j ≤ k → ∃ b2, ansF h q m cs j = .ok b2
  | 0, bl, e, j, hj => by obtain rfl : j = 0 := (by omega); exact ⟨_, e⟩
  | k + 1, bl, e, j, hj => by
    by_cases hk : j = k + 1
    · subst hk; exact ⟨_, e⟩
    · unfold ansF at e
      cases e2 : ansF h q m cs k with
      | error c => rw [e2] at e; cases e
      | ok b2 => exact ansF_ok e2 j (by omega)
theorem ansF_step {h : Nat → EV} {q : Nat → DD} {m : Nat} {cs : List CC} {k : Nat} {bl : List (Option Nat)} (e : ansF h q m cs k = .ok bl) : ansF h q m cs (k + 1) = stepA h q m k (cg cs k) bl := by
  show (match ansF h q m cs k with | .error e => _ | .ok bl => _) = _
  rw [e]
theorem ansF_next {h : Nat → EV} {q : Nat → DD} {m : Nat} {cs : List CC} {n k : Nat} {bl fin : List (Option Nat)} (e : ansF h q m cs n = .ok fin) (hk : k < n) (e2 : ansF h q m cs k = .ok bl) : ∃ b2, stepA h q m k (cg cs k) bl = .ok b2 ∧ ansF h q m cs (k + 1) = .ok b2 := by
  obtain ⟨b2, h2⟩ := ansF_ok e (k + 1) hk
  exact ⟨b2, by rw [← ansF_step e2]; exact h2, h2⟩
theorem ansF_bad {h : Nat → EV} {q : Nat → DD} {m : Nat} {cs : List CC} {c : Int} : ∀ {n : Nat}, ansF h q m cs n = .error c → ∃ k bl, k < n ∧ ansF h q m cs k = .ok bl ∧ stepA h q m k (cg cs k) bl = .error c
  | 0, e => by cases e
  | n + 1, e => by
    cases e2 : ansF h q m cs n with
    | error c2 =>
      have e' := e
      unfold ansF at e'
      rw [e2] at e'
      injection e' with e'
      subst e'
      obtain ⟨k, bl, hk, h1, h2⟩ := ansF_bad e2
      exact ⟨k, bl, by omega, h1, h2⟩
    | ok bl => exact ⟨n, bl, by omega, e2, by rw [← ansF_step e2]; exact e⟩
theorem stepA_len {h : Nat → EV} {q : Nat → DD} {m k : Nat} {c : CC} {bl b2 : List (Option Nat)} (e : stepA h q m k c bl = .ok b2) : b2.length = bl.length := by
  unfold stepA at e
  split at e
  · injection e with e; rw [e]
  · split at e
    · cases e
    · split at e
      · cases e
      · split at e
        · cases e
        · injection e with e; rw [← e, List.length_set]
theorem ansF_len {h : Nat → EV} {q : Nat → DD} {m : Nat} {cs : List CC} : ∀ {k : Nat} {bl : List (Option Nat)}, ansF h q m cs k = .ok bl → bl.length = m
  | 0, bl, e => by injection e with e; rw [← e, List.length_replicate]
  | k + 1, bl, e => by
    cases e2 : ansF h q m cs k with
    | error c => unfold ansF at e; rw [e2] at e; cases e
    | ok b2 => rw [ansF_step e2] at e; rw [stepA_len e, ansF_len e2]
theorem place_of {wh : Int} {m : Nat} (h : ¬ (wh < 1 ∨ (m : Int) < wh)) : ∃ p, wh = (p : Nat) + 1 ∧ p < m ∧ wh.toNat - 1 = p := ⟨wh.toNat - 1, by omega, by omega, rfl⟩
theorem stepA_some {h : Nat → EV} {q : Nat → DD} {m k : Nat} {c : CC} {bl b2 : List (Option Nat)} (hl : bl.length = m) (e : stepA h q m k c bl = .ok b2) :
    (c.2 = none ∧ b2 = bl) ∨ ∃ z p, c.2 = some z ∧ (h z).wh = (p : Nat) + 1 ∧ p < m ∧ Sm (q p) (h z) ∧ bl[p]? = some none ∧ b2 = bl.set p (some k) := by
  unfold stepA at e
  split at e
  · rename_i h1; injection e with e; exact Or.inl ⟨h1, e.symm⟩
  · rename_i z h1
    split at e
    · cases e
    · rename_i h2
      obtain ⟨p, hp, hm, ht⟩ := place_of h2
      rw [ht] at e
      split at e
      · cases e
      · rename_i h3
        split at e
        · cases e
        · rename_i h4
          injection e with e
          refine Or.inr ⟨z, p, h1, hp, hm, Classical.not_not.1 h3, ?_, e.symm⟩
          rw [List.getD_eq_getElem?_getD, List.getElem?_eq_getElem (by omega), Option.getD_some] at h4
          rw [List.getElem?_eq_getElem (by omega)]
          cases hb : bl[p]'(by omega) with
          | none => rfl
          | some x => rw [hb] at h4; simp at h4
theorem stepA_err {h : Nat → EV} {q : Nat → DD} {m k : Nat} {c : CC} {bl : List (Option Nat)} {er : Int} (hl : bl.length = m) (e : stepA h q m k c bl = .error er) :
    ∃ z, c.2 = some z ∧ (((h z).wh < 1 ∧ er = 7) ∨ (¬ (h z).wh < 1 ∧ (m : Int) < (h z).wh ∧ er = 7) ∨ ∃ p, (h z).wh = (p : Nat) + 1 ∧ p < m ∧ ((¬ Sm (q p) (h z) ∧ er = 13) ∨ (Sm (q p) (h z) ∧ (∃ x, bl[p]? = some (some x)) ∧ er = 9))) := by
  unfold stepA at e
  split at e
  · cases e
  · rename_i z h1
    refine ⟨z, h1, ?_⟩
    split at e
    · rename_i h2
      injection e with e
      by_cases h3 : (h z).wh < 1
      · exact Or.inl ⟨h3, e.symm⟩
      · exact Or.inr (Or.inl ⟨h3, by omega, e.symm⟩)
    · rename_i h2
      obtain ⟨p, hp, hm, ht⟩ := place_of h2
      rw [ht] at e
      refine Or.inr (Or.inr ⟨p, hp, hm, ?_⟩)
      split at e
      · rename_i h3; injection e with e; exact Or.inl ⟨h3, e.symm⟩
      · rename_i h3
        split at e
        · rename_i h4
          injection e with e
          refine Or.inr ⟨Classical.not_not.1 h3, ?_, e.symm⟩
          rw [List.getD_eq_getElem?_getD, List.getElem?_eq_getElem (by omega), Option.getD_some] at h4
          rw [List.getElem?_eq_getElem (by omega)]
          cases hb : bl[p]'(by omega) with
          | none => rw [hb] at h4; simp at h4
          | some x => exact ⟨x, rfl⟩
        · cases e

/-- The pointer at a call. -/
def bp (g : Nat) : Option Nat → Value
  | none => .pointer none
  | some k => .pointer (some ⟨g, k * 2, none⟩)
def byr (g : Nat) (bl : List (Option Nat)) : List Value := bl.map (bp g)
theorem byr_length (g : Nat) (bl : List (Option Nat)) : (byr g bl).length = bl.length := by simp [byr]
theorem byr_get {g : Nat} {bl : List (Option Nat)} {p : Nat} {x : Option Nat} (h : bl[p]? = some x) : (byr g bl)[p]? = some (bp g x) := by simp [byr, h]
theorem byr_set (g : Nat) (bl : List (Option Nat)) (p k : Nat) : (byr g bl).set p (.pointer (some ⟨g, k * 2, none⟩)) = byr g (bl.set p (some k)) := by
  unfold byr; rw [List.map_set]; rfl
set_option maxHeartbeats 8000000 in
theorem deed_eq (t o k x c y t' o' k' x' c' y' : Int) (b : Bool) (hb : b = true ↔ t = t' ∧ (o, k, x) = (o', k', x') ∧ c = c' ∧ y = y') (w : World) :
    (Op.equalIn 10000 53 (.agg #[.int .i64 t, .int .i64 o, .int .i64 k, .int .i64 x, .int .i64 c, .int .i64 y]) (.agg #[.int .i64 t', .int .i64 o', .int .i64 k', .int .i64 x', .int .i64 c', .int .i64 y'])).run Tryd.prog w = .ok b w := by
  have he : b = ((t == t') && (((o == o') && ((k == k') && (x == x'))) && ((c == c') && (y == y')))) := by
    rw [Bool.eq_iff_iff, hb]; simp [and_assoc]
  rw [he]
  cases h1 : (t == t') <;> cases h2 : (o == o') <;> cases h3 : (k == k') <;> cases h4 : (x == x') <;> cases h5 : (c == c') <;> cases h6 : (y == y') <;> go_simp <;> simp [h1, h2, h3, h4, h5, h6]
theorem Ms.tail {n : Nat} {w W : World} {L : List (Nat × List Value)} {Q : List (Nat × Value × List Int)} {p : Nat × List Value} (h : Ms n w W (p :: L) Q) : Ms n w W L Q where
  gd := h.gd
  bo x hx := h.bo x (List.mem_cons_of_mem _ hx)
  ge x hx := h.ge x (List.mem_cons_of_mem _ hx)
  nd := (List.nodup_cons.1 h.nd).2
  li q hq := (h.li q hq).keep (Nat.le_refl _) (fun b hb _ hc => hb (List.mem_cons_of_mem _ hc)) (fun _ _ _ => rfl)
end Go.Proofs.YtaipanjigindbaaDoor.Tab
namespace Go.Proofs.YtaipanjigindbaaDoor.Tab
set_option maxRecDepth 20000
open Go.RowKit Go.Maps
set_option linter.unusedVariables false

/-- Who is open among the first calls. -/
theorem opn_take {h : Nat → EV} {n : Nat} {cs : List CC} (g : GC h n cs) {i a : Nat} {z : Option Nat} (hi : cs[i]? = some (a, z)) (t : Int) :
    opn h (cs.take (i + 1)) t = if z = none ∧ (h a).th = t then some i else opn h (cs.take i) t := by
  have hl : i < cs.length := (List.getElem?_eq_some_iff.1 hi).1
  have gt : ∀ k, GC h n (cs.take k) := fun k => ⟨fun c hc => g.lt c (List.mem_of_mem_take hc), fun j j' c c' hj hj' => by
    have cut : ∀ {j : Nat} {c : CC}, (cs.take k)[j]? = some c → cs[j]? = some c := fun {j c} hj => by
      rw [List.getElem?_take] at hj
      split at hj
      · exact hj
      · cases hj
    exact g.un j j' c c' (cut hj) (cut hj'), by have := g.len; rw [List.length_take]; omega⟩
  have at_ : ∀ {k j : Nat} {c : CC}, j < k → cs[j]? = some c → (cs.take k)[j]? = some c := fun {k j c} hj hc => by rw [List.getElem?_take, if_pos hj]; exact hc
  have of_ : ∀ {k j : Nat} {c : CC}, (cs.take k)[j]? = some c → j < k ∧ cs[j]? = some c := fun {k j c} hj => by
    rw [List.getElem?_take] at hj
    split at hj
    · rename_i h1; exact ⟨h1, hj⟩
    · cases hj
  by_cases hz : z = none ∧ (h a).th = t
  · rw [if_pos hz]
    obtain ⟨rfl, ht⟩ := hz
    exact opn_of (gt (i + 1)) (at_ (Nat.lt_succ_self _) hi) ht
  · rw [if_neg hz]
    cases e : opn h (cs.take i) t with
    | some j =>
      obtain ⟨b, hj, hb⟩ := opn_hit e
      obtain ⟨h1, h2⟩ := of_ hj
      exact opn_of (gt (i + 1)) (at_ (Nat.lt_succ_of_lt h1) h2) hb
    | none =>
      cases e2 : opn h (cs.take (i + 1)) t with
      | none => rfl
      | some j =>
        obtain ⟨b, hj, hb⟩ := opn_hit e2
        obtain ⟨h1, h2⟩ := of_ hj
        by_cases hji : j = i
        · subst hji; rw [hi] at h2; injection h2 with h2; injection h2 with h2 h3; subst h2 h3; exact absurd ⟨rfl, hb⟩ hz
        · exact absurd hb (opn_none e j b (at_ (by omega) h2))
/-- One deed more. -/
def opu (h : Nat → EV) (cs : List CC) (us : List Int) (t : Int) : Option Nat := if t ∈ us then none else opn h cs t
abbrev BU := List (Option Nat) × List Int
def stepO (h : Nat → EV) (q : Nat → DD) (cs : List CC) (i : Nat) (s : BU) : Except Int BU :=
  if (s.1.getD i none).isSome then .ok s
  else match opu h cs s.2 (q i).t with
    | none => .error 8
    | some k => if (h (cg cs k).1).op = (q i).op then .ok (s.1.set i (some k), (q i).t :: s.2) else .error 8
def opnF (h : Nat → EV) (q : Nat → DD) (cs : List CC) (bl : List (Option Nat)) : Nat → Except Int BU
  | 0 => .ok (bl, [])
  | i + 1 => match opnF h q cs bl i with
    | .error e => .error e
    | .ok s => stepO h q cs i s
theorem opnF_step {h : Nat → EV} {q : Nat → DD} {cs : List CC} {bl : List (Option Nat)} {k : Nat} {s : BU} (e : opnF h q cs bl k = .ok s) : opnF h q cs bl (k + 1) = stepO h q cs k s := by
  show (match opnF h q cs bl k with | .error e => _ | .ok bl => _) = _
  rw [e]
theorem opnF_ok {h : Nat → EV} {q : Nat → DD} {cs : List CC} {bl : List (Option Nat)} : ∀ {k : Nat} {s : BU}, opnF h q cs bl k = .ok s → ∀ j, j ≤ k → ∃ s2, opnF h q cs bl j = .ok s2
  | 0, s, e, j, hj => by obtain rfl : j = 0 := (by omega); exact ⟨_, e⟩
  | k + 1, s, e, j, hj => by
    by_cases hk : j = k + 1
    · subst hk; exact ⟨_, e⟩
    · unfold opnF at e
      cases e2 : opnF h q cs bl k with
      | error c => rw [e2] at e; cases e
      | ok b2 => exact opnF_ok e2 j (by omega)
theorem opnF_next {h : Nat → EV} {q : Nat → DD} {cs : List CC} {bl : List (Option Nat)} {n k : Nat} {s fin : BU} (e : opnF h q cs bl n = .ok fin) (hk : k < n) (e2 : opnF h q cs bl k = .ok s) : ∃ s2, stepO h q cs k s = .ok s2 ∧ opnF h q cs bl (k + 1) = .ok s2 := by
  obtain ⟨b2, h2⟩ := opnF_ok e (k + 1) hk
  exact ⟨b2, by rw [← opnF_step e2]; exact h2, h2⟩
theorem opnF_bad {h : Nat → EV} {q : Nat → DD} {cs : List CC} {bl : List (Option Nat)} {c : Int} : ∀ {n : Nat}, opnF h q cs bl n = .error c → ∃ k s, k < n ∧ opnF h q cs bl k = .ok s ∧ stepO h q cs k s = .error c
  | 0, e => by cases e
  | n + 1, e => by
    cases e2 : opnF h q cs bl n with
    | error c2 =>
      have e' := e
      unfold opnF at e'
      rw [e2] at e'
      injection e' with e'
      subst e'
      obtain ⟨k, s, hk, h1, h2⟩ := opnF_bad e2
      exact ⟨k, s, by omega, h1, h2⟩
    | ok s => exact ⟨n, s, by omega, e2, by rw [← opnF_step e2]; exact e⟩
theorem stepO_len {h : Nat → EV} {q : Nat → DD} {cs : List CC} {i : Nat} {s s2 : BU} (e : stepO h q cs i s = .ok s2) : s2.1.length = s.1.length := by
  unfold stepO at e
  split at e
  · injection e with e; rw [e]
  · split at e
    · cases e
    · split at e
      · injection e with e; rw [← e, List.length_set]
      · cases e
theorem opnF_len {h : Nat → EV} {q : Nat → DD} {cs : List CC} {bl : List (Option Nat)} : ∀ {k : Nat} {s : BU}, opnF h q cs bl k = .ok s → s.1.length = bl.length
  | 0, s, e => by injection e with e; rw [← e]
  | k + 1, s, e => by
    cases e2 : opnF h q cs bl k with
    | error c => unfold opnF at e; rw [e2] at e; cases e
    | ok b2 => rw [opnF_step e2] at e; rw [stepO_len e, opnF_len e2]
theorem opu_hit {h : Nat → EV} {cs : List CC} {us : List Int} {t : Int} {k : Nat} (e : opu h cs us t = some k) : t ∉ us ∧ opn h cs t = some k := by
  unfold opu at e
  split at e
  · cases e
  · rename_i h1; exact ⟨h1, e⟩
theorem stepO_some {h : Nat → EV} {q : Nat → DD} {cs : List CC} {i : Nat} {s s2 : BU} (hl : i < s.1.length) (e : stepO h q cs i s = .ok s2) :
    (∃ x, s.1[i]? = some (some x) ∧ s2 = s) ∨ ∃ k a, s.1[i]? = some none ∧ opu h cs s.2 (q i).t = some k ∧ cs[k]? = some (a, none) ∧ (h a).op = (q i).op ∧ s2 = (s.1.set i (some k), (q i).t :: s.2) := by
  unfold stepO at e
  rw [List.getD_eq_getElem?_getD, List.getElem?_eq_getElem hl, Option.getD_some] at e
  rw [List.getElem?_eq_getElem hl]
  split at e
  · rename_i h1
    injection e with e
    cases hb : s.1[i]'hl with
    | none => rw [hb] at h1; cases h1
    | some x => exact Or.inl ⟨x, rfl, e.symm⟩
  · rename_i h1
    have hn : s.1[i]'hl = none := by
      cases hb : s.1[i]'hl with
      | none => rfl
      | some x => rw [hb] at h1; exact absurd rfl h1
    split at e
    · cases e
    · rename_i k e2
      split at e
      · rename_i h3
        injection e with e
        obtain ⟨a, hk, _⟩ := opn_hit (opu_hit e2).2
        rw [cg_of hk] at h3
        exact Or.inr ⟨k, a, by rw [hn], e2, hk, h3, e.symm⟩
      · cases e
theorem stepO_err {h : Nat → EV} {q : Nat → DD} {cs : List CC} {i : Nat} {s : BU} {er : Int} (hl : i < s.1.length) (e : stepO h q cs i s = .error er) :
    er = 8 ∧ s.1[i]? = some none ∧ (opu h cs s.2 (q i).t = none ∨ ∃ k a, opu h cs s.2 (q i).t = some k ∧ cs[k]? = some (a, none) ∧ (h a).op ≠ (q i).op) := by
  unfold stepO at e
  rw [List.getD_eq_getElem?_getD, List.getElem?_eq_getElem hl, Option.getD_some] at e
  rw [List.getElem?_eq_getElem hl]
  split at e
  · cases e
  · rename_i h1
    have hn : s.1[i]'hl = none := by
      cases hb : s.1[i]'hl with
      | none => rfl
      | some x => rw [hb] at h1; exact absurd rfl h1
    split at e
    · rename_i e2
      injection e with e
      exact ⟨e.symm, by rw [hn], Or.inl e2⟩
    · rename_i k e2
      split at e
      · cases e
      · rename_i h3
        injection e with e
        obtain ⟨a, hk, _⟩ := opn_hit (opu_hit e2).2
        rw [cg_of hk] at h3
        exact ⟨e.symm, by rw [hn], Or.inr ⟨k, a, e2, hk, h3⟩⟩
/-- The map from a thread to its open call. -/
def mpf (g : Nat) (f : Int → Option Nat) (t : Int) : Option Value := (f t).map fun k => .pointer (some ⟨g, k * 2, none⟩)
theorem mpf_some {g : Nat} {f : Int → Option Nat} {t : Int} {k : Nat} (e : f t = some k) : mpf g f t = some (.pointer (some ⟨g, k * 2, none⟩)) := by unfold mpf; rw [e]; rfl
theorem mpf_none {g : Nat} {f : Int → Option Nat} {t : Int} (e : f t = none) : mpf g f t = none := by unfold mpf; rw [e]; rfl
theorem mapp_desc : Tryd.prog.underlying 116 = some (.map 3 115) := by kernel_rfl
theorem zero_ptr (w : World) : (zeroValue 115).run Tryd.prog w = .ok (.pointer none) w := by kernel_rfl
/-- A map's store, as a step. -/
theorem mpR {P : Program} {o : Oper} {a : Act} {w w' : World} {K : Act → World → Prop} {Q : Exit → Act → World → Prop} (m x v : Operand) (t : TypeId) (ho : o.op = .mapUpdate t m x v) {b : Nat} {th : Int} {u : Value} (hm : a.eval m = .map (some b)) (hx : a.eval x = .int .i64 th) (hv : a.eval v = u)
    (hr : (Instr.mapUpdate t (.map (some b)) (.int .i64 th) u).run P w = .ok () w') (k : K (a.put o.dst undef) w') : o.wp P a w K Q := by
  unfold Oper.wp
  simp [execOp, ho, hm, hx, hv, hr, Result.andThen]
  exact k
end Go.Proofs.YtaipanjigindbaaDoor.Tab
