/- Package op's Parse, by its contract: from the contracts of what it calls. -/
import Derived.Test.YtdohomdhgkhebabFmtPrint
import Derived.Test.YtdohomdhgkhebabFmtNum
import Derived.Test.YtdohomdhgkhebabFmtWhat
namespace Go.Proofs.YtdohomdhgkhebabFmt
open Go.RowKit

/-- What the variables hold. -/
structure En (w : World) : Prop where
  pw : Pw w
  wh : Wh w
  sy : Sy w
  rg : Rg w
theorem En.later {w w' : World} (h : En w) (hb : Below w.heap.size w w') : En w' := ⟨h.pw.later hb, h.wh.later hb, h.sy.later hb, h.rg.later hb⟩

theorem below_drewN (w : World) (n : Nat) : Below w.heap.size w (w.drewN n) := ⟨rfl, rfl, rfl, Nat.le_refl _, fun _ _ => rfl⟩

theorem Below.froz {w w1 : World} {cs : Array Value} {t : TypeId} (g : Below (w.alloc (.cells cs t)).heap.size (w.alloc (.cells cs t)) w1) (j : Nat) : w1.frozen? ⟨w.heap.size, j, none⟩ = false := by
  rw [g.frozen (p := ⟨w.heap.size, j, none⟩) (by simp), frozen?_alloc_cells]
  exact frozen_past w (Nat.le_refl _)
theorem Below.bx {w w1 : World} {cs : Array Value} {t : TypeId} (g : Below (w.alloc (.cells cs t)).heap.size (w.alloc (.cells cs t)) w1) (j : Nat) {v : Value} (h : cs[j]? = some v) : w1.cell? ⟨w.heap.size, j, none⟩ = some v := by
  rw [g.cell (p := ⟨w.heap.size, j, none⟩) (by simp), World.cell?_alloc_new]
  simpa using h

/-- The contracts of what Parse calls, at the pieces of one text. -/
structure Ks (s A B C D t : ByteArray) (f1 f2 : Bool) (a b c : Int) (er : Value) : Prop where
  k1 : ∀ W : World, Calls Tryf.prog 14 #[.string s, .string ⟨#[61]⟩] W fun e w' => e = .returned (.tuple #[.string A, .string B, .bool f1]) ∧ Below W.heap.size W w'
  k2 : ∀ W : World, Calls Tryf.prog 14 #[.string A, .string ⟨#[58]⟩] W fun e w' => e = .returned (.tuple #[.string C, .string D, .bool f2]) ∧ Below W.heap.size W w'
  k3 : ∀ W : World, En W → Calls Tryf.prog 15 #[.string C] W fun e w' => e = .returned (.int .i64 a) ∧ w' = W
  k4 : ∀ W : World, En W → Calls Tryf.prog 16 #[.string D] W fun e w' => e = .returned (.int .i64 b) ∧ Below W.heap.size W w'
  k5 : ∀ W : World, En W → Calls Tryf.prog 16 #[.string B] W fun e w' => e = .returned (.int .i64 c) ∧ Below W.heap.size W w'
  k6 : ∀ W : World, En W → Calls Tryf.prog 17 #[.agg #[.int .i64 a, .int .i64 b, .int .i64 c]] W fun e w' => e = .returned (.tuple #[.string t, er]) ∧ Below W.heap.size W w'

set_option maxHeartbeats 2000000 in
theorem parse_yes {s A B C D : ByteArray} {f1 f2 : Bool} {a b c : Int} (K : Ks s A B C D s f1 f2 a b c .nilIface) (w : World) (hE : En w) :
    Calls Tryf.prog 6 #[.string s] w fun e w' => e = .returned (.tuple #[.agg #[.int .i64 a, .int .i64 b, .int .i64 c], .nilIface]) ∧ Below w.heap.size w w' := by
  have HE : Hid _ := hE
  have b0 : Hid _ := (Below.refl w.heap.size w).alloc (Nat.le_refl _) (.cells #[.int .i64 0, .int .i64 0, .int .i64 0] 23)
  clear hE
  go_enter Tryf.func6, Tryf.ntmps6
  go_wp2_with fail
  refine (K.k1 _).mono ?_
  rintro e w1 ⟨rfl, hb1⟩
  have B1 : Hid _ := hb1
  clear hb1
  go_wp2_with fail
  refine (K.k2 _).mono ?_
  rintro e w2 ⟨rfl, hb2⟩
  have B2 : Hid _ := B1.out.trans (hb2.mono B1.out.size)
  clear hb2 B1
  have E2 : Hid _ := HE.out.later (b0.out.trans (B2.out.mono b0.out.size))
  go_wp2_with fail
  refine (K.k3 _ E2.out).mono ?_
  rintro e w3 ⟨rfl, rfl⟩
  go_wp2_with fail
  refine (K.k4 _ E2.out).mono ?_
  rintro e w4 ⟨rfl, hb4⟩
  have B4 : Hid _ := B2.out.trans (hb4.mono B2.out.size)
  have E4 : Hid _ := E2.out.later hb4
  clear hb4 B2 E2
  go_wp2_with fail
  refine (K.k5 _ E4.out).mono ?_
  rintro e w5 ⟨rfl, hb5⟩
  have B5 : Hid _ := B4.out.trans (hb5.mono B4.out.size)
  have E5 : Hid _ := (E4.out.later hb5).later ((Below.refl w5.heap.size w5).alloc (Nat.le_refl _) (.cells #[.int .i64 a, .int .i64 b, .int .i64 c] 23))
  clear hb5 B4 E4
  go_wp2_with fail
  refine (K.k6 _ E5.out).mono ?_
  rintro e w6 ⟨rfl, hb6⟩
  have hs : w.heap.size < w5.heap.size := by have := B5.out.size; simp at this; omega
  have B6 : Hid _ := (B5.out.alloc (B5.out.size) (.cells #[.int .i64 a, .int .i64 b, .int .i64 c] 23)).trans (hb6.mono (by have := B5.out.size; simp at this ⊢; omega))
  have x0 := Below.bx hb6 0 rfl
  have x1 := Below.bx hb6 1 rfl
  have x2 := Below.bx hb6 2 rfl
  have z0 := Below.bx B6.out 0 rfl
  have z1 := Below.bx B6.out 1 rfl
  have z2 := Below.bx B6.out 2 rfl
  have y0 := Below.froz B6.out 0
  have y1 := Below.froz B6.out 1
  have y2 := Below.froz B6.out 2
  clear hb6 E5 B5
  have hne : w.heap.size ≠ w5.heap.size := by omega
  go_wp2
  exact bodyPost_ret (v := .tuple #[.agg #[.int .i64 a, .int .i64 b, .int .i64 c], .nilIface]) (by simp [results, Tryf.results6, go_sem, z0, z1, z2]) rfl ⟨rfl, by
    have := b0.out.trans (B6.out.mono b0.out.size)
    exact ((this.setCell (Nat.le_refl _) _).setCell (Nat.le_refl _) _).setCell (Nat.le_refl _) _⟩

set_option maxHeartbeats 2000000 in
theorem parse_no2 {s A B C D t : ByteArray} {f1 f2 : Bool} {a b c : Int} (K : Ks s A B C D t f1 f2 a b c (.iface 24 (.int .i64 1))) (w : World) (hE : En w) :
    Calls Tryf.prog 6 #[.string s] w fun e w' => e = .returned (.tuple #[.agg #[.int .i64 0, .int .i64 0, .int .i64 0], .iface 24 (.int .i64 3)]) ∧ Below w.heap.size w w' := by
  have HE : Hid _ := hE
  have b0 : Hid _ := (Below.refl w.heap.size w).alloc (Nat.le_refl _) (.cells #[.int .i64 0, .int .i64 0, .int .i64 0] 23)
  clear hE
  go_enter Tryf.func6, Tryf.ntmps6
  go_wp2_with fail
  refine (K.k1 _).mono ?_
  rintro e w1 ⟨rfl, hb1⟩
  have B1 : Hid _ := hb1
  clear hb1
  go_wp2_with fail
  refine (K.k2 _).mono ?_
  rintro e w2 ⟨rfl, hb2⟩
  have B2 : Hid _ := B1.out.trans (hb2.mono B1.out.size)
  clear hb2 B1
  have E2 : Hid _ := HE.out.later (b0.out.trans (B2.out.mono b0.out.size))
  go_wp2_with fail
  refine (K.k3 _ E2.out).mono ?_
  rintro e w3 ⟨rfl, rfl⟩
  go_wp2_with fail
  refine (K.k4 _ E2.out).mono ?_
  rintro e w4 ⟨rfl, hb4⟩
  have B4 : Hid _ := B2.out.trans (hb4.mono B2.out.size)
  have E4 : Hid _ := E2.out.later hb4
  clear hb4 B2 E2
  go_wp2_with fail
  refine (K.k5 _ E4.out).mono ?_
  rintro e w5 ⟨rfl, hb5⟩
  have B5 : Hid _ := B4.out.trans (hb5.mono B4.out.size)
  have E5 : Hid _ := (E4.out.later hb5).later ((Below.refl w5.heap.size w5).alloc (Nat.le_refl _) (.cells #[.int .i64 a, .int .i64 b, .int .i64 c] 23))
  clear hb5 B4 E4
  go_wp2_with fail
  refine (K.k6 _ E5.out).mono ?_
  rintro e w6 ⟨rfl, hb6⟩
  have hs : w.heap.size < w5.heap.size := by have := B5.out.size; simp at this; omega
  have B6 : Hid _ := (B5.out.alloc (B5.out.size) (.cells #[.int .i64 a, .int .i64 b, .int .i64 c] 23)).trans (hb6.mono (by have := B5.out.size; simp at this ⊢; omega))
  have x0 := Below.bx hb6 0 rfl
  have x1 := Below.bx hb6 1 rfl
  have x2 := Below.bx hb6 2 rfl
  have z0 := Below.bx B6.out 0 rfl
  have z1 := Below.bx B6.out 1 rfl
  have z2 := Below.bx B6.out 2 rfl
  have y0 := Below.froz B6.out 0
  have y1 := Below.froz B6.out 1
  have y2 := Below.froz B6.out 2
  clear hb6 E5 B5
  have hne : w.heap.size ≠ w5.heap.size := by omega
  go_wp2
  exact bodyPost_ret (v := .tuple #[.agg #[.int .i64 0, .int .i64 0, .int .i64 0], .iface 24 (.int .i64 3)]) (by simp [results, Tryf.results6, go_sem, z0, z1, z2]) rfl ⟨rfl, by
    have := b0.out.trans (B6.out.mono b0.out.size)
    exact ((this.setCell (Nat.le_refl _) _).setCell (Nat.le_refl _) _).setCell (Nat.le_refl _) _⟩

set_option maxHeartbeats 2000000 in
theorem parse_no1 {s A B C D t : ByteArray} {f1 f2 : Bool} {a b c : Int} (hne : ¬ t.data.toList = s.data.toList) (K : Ks s A B C D t f1 f2 a b c .nilIface) (w : World) (hE : En w) :
    Calls Tryf.prog 6 #[.string s] w fun e w' => e = .returned (.tuple #[.agg #[.int .i64 0, .int .i64 0, .int .i64 0], .iface 24 (.int .i64 3)]) ∧ Below w.heap.size w w' := by
  have HE : Hid _ := hE
  have b0 : Hid _ := (Below.refl w.heap.size w).alloc (Nat.le_refl _) (.cells #[.int .i64 0, .int .i64 0, .int .i64 0] 23)
  clear hE
  have hq : (t.toList == s.toList) = false := by rw [Lib.toList_data, Lib.toList_data]; exact beq_eq_false_iff_ne.2 hne
  clear hne
  go_enter Tryf.func6, Tryf.ntmps6
  go_wp2_with fail
  refine (K.k1 _).mono ?_
  rintro e w1 ⟨rfl, hb1⟩
  have B1 : Hid _ := hb1
  clear hb1
  go_wp2_with fail
  refine (K.k2 _).mono ?_
  rintro e w2 ⟨rfl, hb2⟩
  have B2 : Hid _ := B1.out.trans (hb2.mono B1.out.size)
  clear hb2 B1
  have E2 : Hid _ := HE.out.later (b0.out.trans (B2.out.mono b0.out.size))
  go_wp2_with fail
  refine (K.k3 _ E2.out).mono ?_
  rintro e w3 ⟨rfl, rfl⟩
  go_wp2_with fail
  refine (K.k4 _ E2.out).mono ?_
  rintro e w4 ⟨rfl, hb4⟩
  have B4 : Hid _ := B2.out.trans (hb4.mono B2.out.size)
  have E4 : Hid _ := E2.out.later hb4
  clear hb4 B2 E2
  go_wp2_with fail
  refine (K.k5 _ E4.out).mono ?_
  rintro e w5 ⟨rfl, hb5⟩
  have B5 : Hid _ := B4.out.trans (hb5.mono B4.out.size)
  have E5 : Hid _ := (E4.out.later hb5).later ((Below.refl w5.heap.size w5).alloc (Nat.le_refl _) (.cells #[.int .i64 a, .int .i64 b, .int .i64 c] 23))
  clear hb5 B4 E4
  go_wp2_with fail
  refine (K.k6 _ E5.out).mono ?_
  rintro e w6 ⟨rfl, hb6⟩
  have hs : w.heap.size < w5.heap.size := by have := B5.out.size; simp at this; omega
  have B6 : Hid _ := (B5.out.alloc (B5.out.size) (.cells #[.int .i64 a, .int .i64 b, .int .i64 c] 23)).trans (hb6.mono (by have := B5.out.size; simp at this ⊢; omega))
  have x0 := Below.bx hb6 0 rfl
  have x1 := Below.bx hb6 1 rfl
  have x2 := Below.bx hb6 2 rfl
  have z0 := Below.bx B6.out 0 rfl
  have z1 := Below.bx B6.out 1 rfl
  have z2 := Below.bx B6.out 2 rfl
  have y0 := Below.froz B6.out 0
  have y1 := Below.froz B6.out 1
  have y2 := Below.froz B6.out 2
  clear hb6 E5 B5
  have hne : w.heap.size ≠ w5.heap.size := by omega
  go_wp2
  exact bodyPost_ret (v := .tuple #[.agg #[.int .i64 0, .int .i64 0, .int .i64 0], .iface 24 (.int .i64 3)]) (by simp [results, Tryf.results6, go_sem, z0, z1, z2]) rfl ⟨rfl, by
    have := b0.out.trans (B6.out.mono b0.out.size)
    exact ((this.setCell (Nat.le_refl _) _).setCell (Nat.le_refl _) _).setCell (Nat.le_refl _) _⟩
end Go.Proofs.YtdohomdhgkhebabFmt
