/- What the program's variables hold, behind whatever grows: the library's table of powers, its two errors of numbers. -/
import Derived.Test.YtdohomdhgkhebabFmtRows
import Derived.Test.YtdohomdhgkhebabFmtBase
import Derived.Test.YtdohomdhgkhebabFmtTxt
import Derived.WalkSmall
import Derived.Lib.LaidTab
import Derived.Lib.ItoaNum
import Derived.Sort.Grow
import Derived.Lib.AtoiErrMem
namespace Go.Proofs.YtdohomdhgkhebabFmt
open Go.RowKit

theorem var_lt {w : World} {n : String} {cs : Array Value} {g : Nat} (hg : Tryf.prog.globalNamed n = some g) (h : w.var? Tryf.prog n = some cs) : g < w.heap.size := by
  unfold World.var? at h
  rw [hg] at h
  by_cases hb : g < w.heap.size
  · exact hb
  · have e : w.heap[g]? = none := by simp; omega
    simp [e] at h

/-- The table of powers of ten. -/
def Pw (w : World) : Prop := Lib.TabIs Tryf.prog w "internal/strconv.uint64pow10" .u64 Lib.pow10Tab
theorem Pw.later {w w' : World} (h : Pw w) (hb : Below w.heap.size w w') : Pw w' := by
  have hg : Tryf.prog.globalNamed "internal/strconv.uint64pow10" = some 8 := by kernel_rfl
  exact var?_below hb hg (var_lt hg h) h

theorem below_grow (w : World) (k : Nat) (os : Array Obj) : Below w.heap.size w (Sort.grow (w.drewN k) os) :=
  ⟨rfl, rfl, rfl, by simp [Sort.grow, World.drewN], fun b hb => by
    simp only [Sort.grow, Array.getElem?_append]
    exact if_pos hb⟩

theorem str_app (a b : List UInt8) : (⟨a.toArray⟩ : ByteArray) ++ ⟨b.toArray⟩ = ⟨(a ++ b).toArray⟩ := by
  apply ByteArray.ext
  simp [ByteArray.data_append]
end Go.Proofs.YtdohomdhgkhebabFmt
