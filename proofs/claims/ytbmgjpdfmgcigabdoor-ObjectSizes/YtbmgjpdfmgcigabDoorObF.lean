/- Package object: what is done, by kinds: a map of functions. -/
import Derived.Test.YtbmgjpdfmgcigabDoorObA
import Derived.Maps.Own
namespace Go.Proofs.YtbmgjpdfmgcigabDoor.Tab
set_option maxRecDepth 20000
open Go.RowKit Go.Maps

def clos (b : Nat) : Value := .func (.func 50) #[] #[.pointer (some ⟨b, 0, none⟩)]
def fv (k : Nat) : Value := .func (.func k) #[] #[]
theorem withList_is (k : Nat) (w : World) : Calls Tryd.prog 35 #[fv k] w fun e w' => e = .returned (clos w.heap.size) ∧ Bo w' w.heap.size [fv k] ∧ Below w.heap.size w w' := by
  unfold fv clos
  go_enter Tryd.func35, Tryd.ntmps35
  go_wp2
  go_ret
  exact ⟨rfl, Bo.born w [.func (.func k) #[] #[]] _ rfl, new_below w _⟩

/-- The map in block m, its elements as they are. -/
def Rv (v : Value) : Option (DataW Value × List MemPlace) := some (.held v, [])
def Mp (w : World) (m n : Nat) (D : DataW Value) : Prop := w.ownsMap Tryd.prog 3 Rv m n D
theorem Mp.later {w w' : World} {m n : Nat} {D : DataW Value} (h : Mp w m n D) (hb : Below w.heap.size w w') : Mp w' m n D := by
  obtain ⟨es, clk, h1, h2⟩ := h
  exact ⟨es, clk, by rw [hb.block m (Array.getElem?_eq_some_iff.1 h1).1]; exact h1, h2⟩
theorem map_desc : Tryd.prog.underlying 61 = some (.map 3 60) := by kernel_rfl
theorem int_desc : Tryd.prog.underlying 3 = some (.int .i64) := by kernel_rfl
theorem zero_deed (w : World) : (zeroValue 60).run Tryd.prog w = .ok .nilFunc w := by kernel_rfl
theorem Mp.add {w : World} {m n : Nat} {D : DataW Value} (h : Mp w m n D) (hn : n ≤ 10) (k : Int) (h0 : 0 ≤ k) (hk : k ≤ 10) (v : Value) :
    ∃ w', (Instr.mapUpdate 61 (.map (some m)) (.int .i64 k) v).run Tryd.prog w = .ok () w' ∧ Mp w' m (n + 1) (D.put (.int .i64 k) (.held v)) ∧ w.grownBy w' (some m) :=
  World.ownsMap.update h (int_keyed int_desc) map_desc (by unfold maxLen; omega) (keyOf_int_mk int_desc (a := k) (WalkArith.wf_i64 (by omega))) rfl
theorem Mp.look {w : World} {m n : Nat} {D : DataW Value} (h : Mp w m n D) (k : Int) (h0 : 0 ≤ k) (hk : k ≤ 10) {v : Value} (hv : D.atKey (.int .i64 k) (.held .nilFunc) = .held v) :
    (Instr.lookup 61 (.map (some m)) (.int .i64 k) false).run Tryd.prog w = .ok v w := by
  obtain ⟨u, ps, h1, h2⟩ := World.ownsMap.lookup h (int_keyed int_desc) map_desc (zero_deed w) (zd := .held .nilFunc) (zp := []) rfl (keyOf_int_mk int_desc (a := k) (WalkArith.wf_i64 (by omega)))
  unfold Rv at h2
  rw [hv] at h2
  injection h2 with h2
  injection h2 with h2 _
  injection h2 with h2
  rw [h1, h2]
theorem Bo.grown {w w' : World} {b : Nat} {cs : List Value} {m : Nat} (h : Bo w b cs) (hg : w.grownBy w' (some m)) (hne : b ≠ m) : Bo w' b cs :=
  h.keep (hg.block b h.lt (fun e => hne (by injection e))) (Nat.lt_of_lt_of_le h.lt hg.size)
theorem Gd.grown {n : Nat} {w a b : World} {m : Nat} (h : Gd n w a) (hg : a.grownBy b (some m)) (hm : n ≤ m) : Gd n w b :=
  ⟨h.1, h.2.grown hg h.2.size (fun k hk => by injection hk with hk; have := h.1; omega)⟩

/-- All deeds, by kinds: each list's function lies in a block of its own. -/
def deedsD (b1 b2 b3 b4 : Nat) : DataW Value :=
  ((((((DataW.map []).put (.int .i64 1) (.held (clos b1))).put (.int .i64 2) (.held (clos b2))).put (.int .i64 3) (.held (clos b3))).put (.int .i64 4) (.held (clos b4))).put (.int .i64 5) (.held (fv 40))).put (.int .i64 6) (.held (fv 41))
theorem deeds_1 (b1 b2 b3 b4 : Nat) : (deedsD b1 b2 b3 b4).atKey (.int .i64 1) (.held .nilFunc) = .held (clos b1) := rfl
theorem deeds_2 (b1 b2 b3 b4 : Nat) : (deedsD b1 b2 b3 b4).atKey (.int .i64 2) (.held .nilFunc) = .held (clos b2) := rfl
theorem deeds_3 (b1 b2 b3 b4 : Nat) : (deedsD b1 b2 b3 b4).atKey (.int .i64 3) (.held .nilFunc) = .held (clos b3) := rfl
theorem deeds_4 (b1 b2 b3 b4 : Nat) : (deedsD b1 b2 b3 b4).atKey (.int .i64 4) (.held .nilFunc) = .held (clos b4) := rfl
theorem deeds_5 (b1 b2 b3 b4 : Nat) : (deedsD b1 b2 b3 b4).atKey (.int .i64 5) (.held .nilFunc) = .held (fv 40) := rfl
theorem deeds_6 (b1 b2 b3 b4 : Nat) : (deedsD b1 b2 b3 b4).atKey (.int .i64 6) (.held .nilFunc) = .held (fv 41) := rfl
structure Deeds (w : World) (m b1 b2 b3 b4 : Nat) : Prop where
  mp : Mp w m 6 (deedsD b1 b2 b3 b4)
  q : Bo w b1 [fv 36]
  s : Bo w b2 [fv 37]
  d : Bo w b3 [fv 38]
  h : Bo w b4 [fv 39]

set_option maxHeartbeats 2000000 in
theorem deeds_is (w : World) : Calls Tryd.prog 19 #[] w fun e w' => e = .returned (.map (some w.heap.size)) ∧ (∃ b1 b2 b3 b4, Deeds w' w.heap.size b1 b2 b3 b4) ∧ Below w.heap.size w w' := by
  have hmm := @run_makeMap Tryd.prog
  have M : Hid (Mp (w.alloc (.map #[] 0)) w.heap.size 0 (.map [])) := World.ownsMap_made _ _ _ _
  have G : Hid (Gd w.heap.size w (w.alloc (.map #[] 0))) := (Gd.refl w).new _
  have l0 : w.heap.size < (w.alloc (.map #[] 0)).heap.size := by simp
  go_enter Tryd.func19, Tryd.ntmps19
  go_wp2_with fail
  generalize w.alloc (.map #[] 0) = W at M G l0 ⊢
  generalize hsz : w.heap.size = n at M G l0 ⊢
  have HSZ : Hid (w.heap.size = n) := hsz
  clear hsz
  refine (withList_is 36 W).mono ?_
  rintro e w1 ⟨rfl, q1, hb⟩
  have q1 : Hid _ := q1
  have G1 : Hid (Gd n w w1) := G.out.later hb
  have l1 : n < w1.heap.size := Nat.lt_of_lt_of_le l0 hb.size
  generalize W.heap.size = b1 at q1 l0 ⊢
  obtain ⟨w2, r1, m2, g2⟩ := Mp.add (Mp.later M.out hb) (by decide) 1 (by decide) (by decide) (clos b1)
  have Q : Hid (Bo w2 b1 [fv 36]) := q1.out.grown g2 (by omega)
  have G2 : Hid (Gd n w w2) := G1.out.grown g2 (Nat.le_refl _)
  have M2 : Hid _ := m2
  have l2 : n < w2.heap.size := Nat.lt_of_lt_of_le l1 g2.size
  have e1 : b1 ≠ n := by omega
  clear hb g2 m2 M G G1 q1 l0 l1
  go_wp2_with fail
  clear r1
  refine (withList_is 37 w2).mono ?_
  rintro e w3 ⟨rfl, q1, hb⟩
  have q1 : Hid _ := q1
  have G1 : Hid (Gd n w w3) := G2.out.later hb
  have Q1 : Hid (Bo w3 b1 [fv 36]) := Q.out.later hb
  have l1 : n < w3.heap.size := Nat.lt_of_lt_of_le l2 hb.size
  have M1 : Hid _ := Mp.later M2.out hb
  generalize w2.heap.size = b2 at q1 l2 ⊢
  obtain ⟨w4, r1, m2, g2⟩ := Mp.add M1.out (by decide) 2 (by decide) (by decide) (clos b2)
  have e2 : b2 ≠ n := by omega
  have S : Hid (Bo w4 b2 [fv 37]) := q1.out.grown g2 e2
  have Q4 : Hid (Bo w4 b1 [fv 36]) := Q1.out.grown g2 e1
  have G4 : Hid (Gd n w w4) := G1.out.grown g2 (Nat.le_refl _)
  have M4 : Hid _ := m2
  have l4 : n < w4.heap.size := Nat.lt_of_lt_of_le l1 g2.size
  clear hb g2 m2 M2 M1 G1 G2 q1 Q Q1 l1 l2
  go_wp2_with fail
  clear r1
  refine (withList_is 38 w4).mono ?_
  rintro e w5 ⟨rfl, q1, hb⟩
  have q1 : Hid _ := q1
  have G1 : Hid (Gd n w w5) := G4.out.later hb
  have Q1 : Hid (Bo w5 b1 [fv 36]) := Q4.out.later hb
  have S1 : Hid (Bo w5 b2 [fv 37]) := S.out.later hb
  have l1 : n < w5.heap.size := Nat.lt_of_lt_of_le l4 hb.size
  have M1 : Hid _ := Mp.later M4.out hb
  generalize w4.heap.size = b3 at q1 l4 ⊢
  obtain ⟨w6, r1, m2, g2⟩ := Mp.add M1.out (by decide) 3 (by decide) (by decide) (clos b3)
  have e3 : b3 ≠ n := by omega
  have D : Hid (Bo w6 b3 [fv 38]) := q1.out.grown g2 e3
  have Q6 : Hid (Bo w6 b1 [fv 36]) := Q1.out.grown g2 e1
  have S6 : Hid (Bo w6 b2 [fv 37]) := S1.out.grown g2 e2
  have G6 : Hid (Gd n w w6) := G1.out.grown g2 (Nat.le_refl _)
  have M6 : Hid _ := m2
  have l6 : n < w6.heap.size := Nat.lt_of_lt_of_le l1 g2.size
  clear hb g2 m2 M4 M1 G1 G4 q1 Q4 Q1 S S1 l1 l4
  go_wp2_with fail
  clear r1
  refine (withList_is 39 w6).mono ?_
  rintro e w7 ⟨rfl, q1, hb⟩
  have q1 : Hid _ := q1
  have G1 : Hid (Gd n w w7) := G6.out.later hb
  have Q1 : Hid (Bo w7 b1 [fv 36]) := Q6.out.later hb
  have S1 : Hid (Bo w7 b2 [fv 37]) := S6.out.later hb
  have D1 : Hid (Bo w7 b3 [fv 38]) := D.out.later hb
  have M1 : Hid _ := Mp.later M6.out hb
  generalize w6.heap.size = b4 at q1 l6 ⊢
  obtain ⟨w8, r1, m2, g2⟩ := Mp.add M1.out (by decide) 4 (by decide) (by decide) (clos b4)
  have e4 : b4 ≠ n := by omega
  have H8 : Hid (Bo w8 b4 [fv 39]) := q1.out.grown g2 e4
  have D8 : Hid (Bo w8 b3 [fv 38]) := D1.out.grown g2 e3
  have Q8 : Hid (Bo w8 b1 [fv 36]) := Q1.out.grown g2 e1
  have S8 : Hid (Bo w8 b2 [fv 37]) := S1.out.grown g2 e2
  have G8 : Hid (Gd n w w8) := G1.out.grown g2 (Nat.le_refl _)
  have M8 : Hid _ := m2
  clear hb g2 m2 M6 M1 G1 G6 q1 Q6 Q1 S6 S1 D D1 l6
  obtain ⟨w9, r2, m9, g9⟩ := Mp.add M8.out (by decide) 5 (by decide) (by decide) (fv 40)
  obtain ⟨wx, r3, mx, gx⟩ := Mp.add m9 (by decide) 6 (by decide) (by decide) (fv 41)
  have FIN : Hid (Deeds wx n b1 b2 b3 b4 ∧ Gd n w wx) := ⟨⟨mx, (Q8.out.grown g9 e1).grown gx e1, (S8.out.grown g9 e2).grown gx e2, (D8.out.grown g9 e3).grown gx e3, (H8.out.grown g9 e4).grown gx e4⟩, (G8.out.grown g9 (Nat.le_refl _)).grown gx (Nat.le_refl _)⟩
  clear m9 g9 mx gx M8 G8 Q8 S8 D8 H8
  unfold fv at r2 r3
  go_wp2
  go_ret
  exact ⟨by rw [HSZ.out]; rfl, by rw [HSZ.out]; exact ⟨b1, b2, b3, b4, FIN.out.1⟩, FIN.out.2.2⟩
end Go.Proofs.YtbmgjpdfmgcigabDoor.Tab
