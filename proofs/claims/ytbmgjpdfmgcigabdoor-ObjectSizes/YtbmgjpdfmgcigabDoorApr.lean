/- The builtin append onto a row of the call's own, in a region that draws its order. -/
import Derived.Test.YtbmgjpdfmgcigabDoorAp
import Derived.Deep.RegionHeld
namespace Go.Proofs.YtbmgjpdfmgcigabDoor
set_option maxRecDepth 20000
open Go.RowKit

theorem step_onto {ops : Array Oper} {o : Oper} {a : Act} {w : World} {K : Act → World → Prop} {Q : Exit → Act → World → Prop} {E : Prop}
    (hg : o.guard = none) (s x : Operand) (hop : o.op = Op.call { callee := Callee.builtin Builtin.append, args := #[s, x], argTypes := #[27, 27] })
    {B C : Nat} {v u : Value} {xs ys : List Int} (hs : a.eval s = v) (hx : a.eval x = u) (hB : B ≤ w.heap.size) (h : Own B w v xs) (k : IsL C w u ys) (hn : xs.length + ys.length ≤ 1000000)
    (hK : ∀ v' w', Own B w' v' (xs ++ ys) → Below B w w' → K (a.put o.dst v') w') :
    if Region.wanted o (yielded ops a.tmps) = true then Oper.wp Tryd.prog o a w K Q else E := by
  have hw : Region.wanted o (yielded ops a.tmps) = true := by simp [Region.wanted, hg]
  rw [if_pos hw]
  obtain ⟨v', w', hr, h1, h2⟩ := run_onto o.type hB h k hn
  unfold Oper.wp
  simp [execOp, hop, resolve, invoke, builtin, hs, hx, hr, Result.andThen]
  exact hK v' w' h1 h2
end Go.Proofs.YtbmgjpdfmgcigabDoor
