/- Things whose lists lie ahead of a bound of blocks: so that what is laid later leaves them alone. -/
import Derived.Test.YtbmgjpdfmgcigabDoorTdo
import Derived.Test.YtbmgjpdfmgcigabDoorLi
import Derived.Test.YtbmgjpdfmgcigabDoorErrs
namespace Go.Proofs.YtbmgjpdfmgcigabDoor.Tab
set_option maxRecDepth 20000
open Go.RowKit
set_option linter.unusedVariables false

structure Tk (E : Nat) (w : World) (kind : Int) (c : Nat → Nat) (v : Value) (t : Tb) (x : Int) : Prop where
  list : kind ≤ 4 → Li 0 E w v (lst c) ∧ t = Tb.zero ∧ x = 0
  table : kind = 5 → v = .slice none 0 0 ∧ t.all = (tbl c).all ∧ x = 0
  tally : kind = 6 → v = .slice none 0 0 ∧ t = Tb.zero ∧ x = (c 0 : Nat)
theorem Th.tk {B : Nat} {w : World} {kind : Int} {c : Nat → Nat} {v : Value} {t : Tb} {x : Int} (h : Th B w kind c v t x) : Tk w.heap.size w kind c v t x :=
  ⟨fun hk => ⟨Li.of ((h.list hk).1.mono (Nat.zero_le _)), (h.list hk).2⟩, h.table, h.tally⟩
theorem Tk.th {E : Nat} {w : World} {kind : Int} {c : Nat → Nat} {v : Value} {t : Tb} {x : Int} (h : Tk E w kind c v t x) : Th 0 w kind c v t x :=
  ⟨fun hk => ⟨(h.list hk).1.isL, (h.list hk).2⟩, h.table, h.tally⟩
theorem Tk.later {E : Nat} {w w' : World} {kind : Int} {c : Nat → Nat} {v : Value} {t : Tb} {x : Int} (h : Tk E w kind c v t x) (hb : Below w.heap.size w w') : Tk E w' kind c v t x :=
  ⟨fun hk => ⟨(h.list hk).1.later hb, (h.list hk).2⟩, h.table, h.tally⟩
theorem Tk.new {E : Nat} {w : World} {kind : Int} {c : Nat → Nat} {v : Value} {t : Tb} {x : Int} (h : Tk E w kind c v t x) (o : Obj) : Tk E (w.alloc o) kind c v t x :=
  ⟨fun hk => ⟨(h.list hk).1.new o, (h.list hk).2⟩, h.table, h.tally⟩
theorem Tk.drew {E : Nat} {w : World} {kind : Int} {c : Nat → Nat} {v : Value} {t : Tb} {x : Int} (h : Tk E w kind c v t x) : Tk E w.drew kind c v t x :=
  ⟨fun hk => ⟨(h.list hk).1.drew, (h.list hk).2⟩, h.table, h.tally⟩
theorem Tk.asideL {E k : Nat} {w : World} {kind : Int} {c : Nat → Nat} {v : Value} {t : Tb} {x : Int} (h : Tk E w kind c v t x) (hk : E ≤ k) (o : Nat) (vs : List Value) : Tk E (w.setCells k o vs) kind c v t x :=
  ⟨fun h4 => ⟨(h.list h4).1.asideL (Or.inr hk) o vs, (h.list h4).2⟩, h.table, h.tally⟩
theorem Tk.one {E : Nat} {w : World} {kind : Int} {c : Nat → Nat} {v : Value} {t : Tb} {x : Int} (h : Tk E w kind c v t x) (hk : kind ≤ 6) : v.oneCell' = true := h.th.one hk
end Go.Proofs.YtbmgjpdfmgcigabDoor.Tab
namespace Go.Proofs.YtbmgjpdfmgcigabDoor
set_option maxRecDepth 20000
open Go.RowKit
theorem HandleAt.gd {n : Nat} {w a : World} (h : HandleAt w) (g : Tab.Gd n w a) : HandleAt a := by
  have h' : w.cell? ⟨0, 0, none⟩ = _ := h
  exact (g.2.cell (p := ⟨0, 0, none⟩) (size_of_cell' h')).trans h'
end Go.Proofs.YtbmgjpdfmgcigabDoor
