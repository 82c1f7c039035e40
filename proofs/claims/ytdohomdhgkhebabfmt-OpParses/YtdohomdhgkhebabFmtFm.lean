/- fmt.Sprint of a mark and a number, told; facts for a walk over it. -/
import Derived.Test.YtdohomdhgkhebabFmtRows
import Derived.Test.YtdohomdhgkhebabFmtPart
import Derived.WalkSpells
import Derived.Stop.CallBack
import Derived.Stop.IfaceNil
import Derived.Stop.Told
import Derived.Stop.Texts
import Derived.Stop.FmtTextLaws
import Derived.Stop.FmtTextKit
import Derived.Stop.FmtTextVerbs
namespace Go.Proofs.YtdohomdhgkhebabFmt
open Go.RowKit Go.Kit Go.Extern.Stop Go.Stop Go.Extern

def shapeI : List UInt8 := [5, 3, 0, 0, 0, 0, 0, 0, 0, 105, 110, 116]
def shapeS : List UInt8 := [12, 6, 0, 0, 0, 0, 0, 0, 0, 115, 116, 114, 105, 110, 103]

theorem spr_call (args : Array Value) (w : World) : (callFunc 22 args).run Tryf.prog w = ((FmtStop.sprint "fmt.Sprint" #[173] #[9] args).run Tryf.prog w).andThen fun v w' => .ok (.value v) w' :=
  run_callFunc_extern Tryf.func22 (by kernel_rfl) (by kernel_rfl) (by kernel_rfl) (by kernel_rfl) args w
theorem spr_guard (name : String) (w : World) : (FmtStop.guard name).run Tryf.prog w = .ok () w := by kernel_rfl
theorem spr_int (name : String) (x : Int) (w : World) : (FmtStop.operand name false 118 false (.iface 3 (.int .i64 x))).run Tryf.prog w = .ok (shapeI, digits 8 (x % 2 ^ 64).toNat) w := by kernel_rfl
theorem spr_str (name : String) (x : ByteArray) (w : World) : (FmtStop.operand name false 118 false (.iface 9 (.string x))).run Tryf.prog w = .ok (shapeS, FmtStop.pack x.data.toList) w := by kernel_rfl

/-- What fmt is asked. -/
def rd (m : UInt8) (k : Int) : List (List UInt8) := [shapeS, FmtStop.pack [m], shapeI, digits 8 (k % 18446744073709551616).toNat]

theorem spr_text (m : UInt8) (k : Int) (hw : (Lit.int .i64 k).wf = true) : FmtText.text "fmt.Sprint" (rd m k) = some (m :: Lib.itoa k) := by
  have hs := FmtText.operand_str_at (sh := shapeS) rfl rfl [m] (by simp)
  have hi := FmtText.operand_int_at (sh := shapeI) (k := .i64) rfl rfl k hw
  rw [rd, FmtText.text_sprint (FmtText.operands_cons hs (FmtText.operands_cons hi FmtText.operands_nil))]
  simp [FmtText.doPrint, FmtText.printArg_v_str, FmtText.printArg_v _ _ hw, FmtText.isString]

theorem ba_of' {s : ByteArray} {l : List UInt8} (h : s.data.toList = l) : s = ⟨l.toArray⟩ := by
  cases s; simp at h; simp [← h]

theorem spr_told (F : Interp) (m : UInt8) (k : Int) (h0 : 0 < k) (h1 : k ≤ 4294967295) : FmtStop.textOf (F.told "fmt.Sprint" (rd m k) 0) = ⟨(prt m k).toArray⟩ := by
  have hw : (Lit.int .i64 k).wf = true := by
    have e1 : IntKind.i64.min = -9223372036854775808 := rfl
    have e2 : IntKind.i64.max = 9223372036854775807 := rfl
    simp [Lit.wf, e1, e2]; omega
  have hp : prt m k = m :: Lib.itoa k := by rw [prt, if_neg (by omega)]
  have hl := prt_len m k (by omega) h1
  have ht := told_string F (spr_text m k hw) (by rw [← hp]; omega)
  apply ba_of'
  rw [textOf_list, hp]
  exact ht
end Go.Proofs.YtdohomdhgkhebabFmt
