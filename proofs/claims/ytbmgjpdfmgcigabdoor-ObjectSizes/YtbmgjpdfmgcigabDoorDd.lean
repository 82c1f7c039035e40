/- What is done, by kinds, from world to world. -/
import Derived.Test.YtbmgjpdfmgcigabDoorObF
namespace Go.Proofs.YtbmgjpdfmgcigabDoor.Tab
set_option maxRecDepth 20000
open Go.RowKit
theorem Deeds.later {w w' : World} {m b1 b2 b3 b4 : Nat} (h : Deeds w m b1 b2 b3 b4) (hb : Below w.heap.size w w') : Deeds w' m b1 b2 b3 b4 :=
  ⟨h.mp.later hb, h.q.later hb, h.s.later hb, h.d.later hb, h.h.later hb⟩
theorem Deeds.new {w : World} {m b1 b2 b3 b4 : Nat} (h : Deeds w m b1 b2 b3 b4) (o : Obj) : Deeds (w.alloc o) m b1 b2 b3 b4 := h.later (new_below w o)
end Go.Proofs.YtbmgjpdfmgcigabDoor.Tab
