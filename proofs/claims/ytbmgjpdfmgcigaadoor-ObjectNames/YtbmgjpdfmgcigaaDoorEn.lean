/- The names of the kinds, and the library's table of blanks, in their variables. -/
import Derived.Test.YtbmgjpdfmgcigaaDoorRows
import Derived.Test.YtbmgjpdfmgcigaaDoorBase
import Derived.Test.YtbmgjpdfmgcigaaDoorFrm
import Derived.WalkSmall
import Derived.Lib.LaidTab
import Derived.Lib.Space
namespace Go.Proofs.YtbmgjpdfmgcigaaDoor
open Go.RowKit

theorem var_lt {w : World} {n : String} {cs : Array Value} {g : Nat} (hg : Tryd.prog.globalNamed n = some g) (h : w.var? Tryd.prog n = some cs) : g < w.heap.size := by
  unfold World.var? at h
  rw [hg] at h
  by_cases hb : g < w.heap.size
  · exact hb
  · have e : w.heap[g]? = none := by simp; omega
    simp [e] at h
def As (w : World) : Prop := Lib.TabIs Tryd.prog w "strings.asciiSpace" .u8 Lib.asciiSpaceTab
theorem As.later {w w' : World} (h : As w) (hb : Below w.heap.size w w') : As w' := by
  have hg : Tryd.prog.globalNamed "strings.asciiSpace" = some 1 := by kernel_rfl
  exact var?_below hb hg (var_lt hg h) h

/-- The kinds' names. -/
def knm : Nat → List UInt8
  | 1 => [113, 117, 101, 117, 101]
  | 2 => [115, 116, 97, 99, 107]
  | 3 => [100, 101, 113, 117, 101]
  | 4 => [104, 101, 97, 112]
  | 5 => [116, 97, 98, 108, 101]
  | 6 => [116, 97, 108, 108, 121]
  | _ => []
def Kn (w : World) : Prop := ∀ o : Nat, o ≤ 6 → w.cell? ⟨0, o, none⟩ = some (.string ⟨(knm o).toArray⟩)
theorem Kn.later {w w' : World} (h : Kn w) (hb : Below w.heap.size w w') : Kn w' := fun o ho => by
  have := h o ho
  rw [hb.cell (p := ⟨0, o, none⟩) (World.block_lt_of_cell? w _ this)]
  exact this
structure En (w : World) : Prop where
  kn : Kn w
  asc : As w
theorem En.later {w w' : World} (h : En w) (hb : Below w.heap.size w w') : En w' := ⟨h.kn.later hb, h.asc.later hb⟩
end Go.Proofs.YtbmgjpdfmgcigaaDoor
