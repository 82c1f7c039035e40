/- A ram and the words that it should have, side by side. -/
import Derived.Test.YtfmgdjnmaphhjaaDoorRm1
import Derived.Test.YtfmgdjnmaphhjaaDoorActs
namespace Go.Proofs.YtfmgdjnmaphhjaaDoor
open Go.RowKit

theorem bare_range (w : World) (hH : HandleAt w) : Calls Tryd.prog 4 #[rangeErr, .int .i64 2] w fun e w' => e = .returned (.bool true) ∧ Gr w w' := bare_errno 2 2 w hH

theorem Gr.drewN {a b : World} (h : Gr a b) (q : Nat) : Gr a (b.drewN q) := ⟨⟨h.below.os, h.below.tape, h.below.output, h.below.size, h.below.block⟩, h.froz⟩

structure Both (w0 : World) (b c : Nat) (f : Nat → Int) (W : World) : Prop where
  gr : Gr w0 W
  rb : RowAt W b 16 f
  rc : RowAt W c 16 f
  ne : b ≠ c
  lb : w0.heap.size ≤ b
  lc : w0.heap.size ≤ c
theorem Both.ltb {w0 W : World} {b c : Nat} {f : Nat → Int} (h : Both w0 b c f W) : b < W.heap.size := h.rb.lt (by decide)
theorem Both.ltc {w0 W : World} {b c : Nat} {f : Nat → Int} (h : Both w0 b c f W) : c < W.heap.size := h.rc.lt (by decide)
theorem Both.grow {w0 W W' : World} {b c : Nat} {f : Nat → Int} (h : Both w0 b c f W) (g : Gr W W') : Both w0 b c f W' :=
  ⟨h.gr.trans g, h.rb.gr h.ltb g, h.rc.gr h.ltc g, h.ne, h.lb, h.lc⟩
theorem Both.drew {w0 W : World} {b c : Nat} {f : Nat → Int} (h : Both w0 b c f W) : Both w0 b c f W.drew :=
  ⟨h.gr.drew, h.rb.drew, h.rc.drew, h.ne, h.lb, h.lc⟩
theorem Both.drewN {w0 W : World} {b c : Nat} {f : Nat → Int} (h : Both w0 b c f W) (q : Nat) : Both w0 b c f (W.drewN q) :=
  ⟨h.gr.drewN q, h.rb.drewN q, h.rc.drewN q, h.ne, h.lb, h.lc⟩
/-- The ram's step, then the words'. -/
theorem Both.step {w0 W W' W'' : World} {b c : Nat} {f g : Nat → Int} (h : Both w0 b c f W) (rb : RowAt W' b 16 g) (o : Only b W W') (rc : RowAt W'' c 16 g) (p : Only c W' W'') : Both w0 b c g W'' :=
  ⟨(h.gr.only h.lb o).only h.lc p, rb.only (rb.lt (by decide)) h.ne p, rc, h.ne, h.lb, h.lc⟩
theorem Both.born {w0 W : World} {b : Nat} (g : Gr w0 W) (hb : RowAt W b 16 (fun _ => 0)) (lb : w0.heap.size ≤ b) (v : Array Value) (hv : ∀ j, j < 16 → v[j]? = some (.int .u64 0)) (t : TypeId) : Both w0 b W.heap.size (fun _ => 0) (W.alloc (.cells v t)) :=
  ⟨g.alloc _ _, hb.gr (hb.lt (by decide)) ((Gr.refl W).alloc _ _), RowAt.born W v 16 _ hv t, Nat.ne_of_lt (hb.lt (by decide)), lb, g.below.size⟩
theorem row_info : (Tryd.prog.info? 25).map (·.size) = some (List.replicate 16 (Value.int .u64 0)).toArray.size := by
  have h : (Tryd.prog.info? 25).map (·.size) = some 16 := by kernel_rfl
  exact h
theorem row_ones : (List.replicate 16 (Value.int .u64 0)).toArray.all (·.oneCell') = true := all_oneCell_toArray (by intro v hv; rw [List.eq_of_mem_replicate hv]; rfl)
theorem z16 (j : Nat) (hj : j < 16) : (#[.int .u64 0, .int .u64 0, .int .u64 0, .int .u64 0, .int .u64 0, .int .u64 0, .int .u64 0, .int .u64 0, .int .u64 0, .int .u64 0, .int .u64 0, .int .u64 0, .int .u64 0, .int .u64 0, .int .u64 0, .int .u64 0] : Array Value)[j]? = some (.int .u64 0) := by
  have e : (#[.int .u64 0, .int .u64 0, .int .u64 0, .int .u64 0, .int .u64 0, .int .u64 0, .int .u64 0, .int .u64 0, .int .u64 0, .int .u64 0, .int .u64 0, .int .u64 0, .int .u64 0, .int .u64 0, .int .u64 0, .int .u64 0] : Array Value) = (List.replicate 16 (Value.int .u64 0)).toArray := rfl
  rw [e, List.getElem?_toArray, List.getElem?_replicate, if_pos hj]
theorem ram_new (w : World) : RowAt (w.alloc (.cells #[.int .u64 0, .int .u64 0, .int .u64 0, .int .u64 0, .int .u64 0, .int .u64 0, .int .u64 0, .int .u64 0, .int .u64 0, .int .u64 0, .int .u64 0, .int .u64 0, .int .u64 0, .int .u64 0, .int .u64 0, .int .u64 0] 27)) w.heap.size 16 (fun _ => 0) :=
  RowAt.born w _ 16 (fun _ => 0) z16 _
end Go.Proofs.YtfmgdjnmaphhjaaDoor
