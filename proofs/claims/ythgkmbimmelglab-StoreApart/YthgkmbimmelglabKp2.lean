/- The keepers' done, by its contract: a store behind whatever deeds. -/
import Derived.Test.YthgkmbimmelglabKp1
import Derived.Deep.Slices
import Derived.Deep.QuietTactic
namespace Go.Proofs.Ythgkmbimmelglab
open Go.RowKit

/-- A deed, as it was told. -/
structure Dd where
  what : Int
  addr : Int
  thread : Int
  line : Int
  word : Nat

def Dd.cells (d : Dd) : List Value := [.int .i64 d.what, .int .i64 d.addr, .int .i64 d.thread, .int .i64 d.line, .int .u64 (d.word : Nat)]

/-- n deeds lie in a slice. -/
def Deeds (w : World) (sl : Value) (n : Nat) : Prop :=
  (sl = .slice none 0 0 ∧ n = 0) ∨ ∃ (a : Addr) (cap : Nat), sl = .slice (some a) n cap ∧
    ∀ i, i < n → ∃ d : Dd, d.word < 18446744073709551616 ∧ ∀ j v, d.cells[j]? = some v → w.cell? ((a.add (i * 5)).add j) = some v

theorem Deeds.gr {w w' : World} {sl : Value} {n : Nat} (h : Deeds w sl n) (g : Gr w w') : Deeds w' sl n := by
  rcases h with h | ⟨a, cap, h1, h3⟩
  · exact Or.inl h
  · refine Or.inr ⟨a, cap, h1, fun i hi => ?_⟩
    obtain ⟨d, hd, hc⟩ := h3 i hi
    exact ⟨d, hd, fun j v hv => by rw [g.below.cell (World.block_lt_of_cell? w _ (hc j v hv))]; exact hc j v hv⟩

/-- A struct or an array is read from wherever it lies. -/
theorem wpList_load_at {P : Program} {ops : Array Oper} {rest : List Oper} {op : Oper} {a : Act} {w : World} {Q : Exit → Act → World → Prop} (hgd : op.guard = none) (ty : TypeId) (x : Operand) (ho : op.op = .load ty x)
    (p : Addr) (hx : a.eval x = .pointer (some p)) (cs : List Value) (hc : ∀ j v, cs[j]? = some v → w.cell? (p.add j) = some v)
    (hag : (isAgg ty).run P w = .ok true w) (hi : (sizeOf ty).run P w = .ok cs.length w)
    (h : wpList P ops Q rest (a.put op.dst (.agg cs.toArray)) w) : wpList P ops Q (op :: rest) a w := by
  have hl := run_loadCells_list (P := P) w p cs hc
  refine wpList_plain hgd fun _ hK => ?_
  unfold Oper.wp execOp
  simp only [ho, hx, Instr.loadAt, Instr.sureAddr, Sem.run_bind, Sem.run_pure, Result.andThen_ok, loadVar, hag, if_true, hi, hl]
  exact hK _ _ h

/-- In W a store lies in block b, a deed in block n; of w0 nothing has turned. -/
structure Lap (w0 : World) (b : Nat) (d : Dd) (W : World) (n : Nat) : Prop where
  gr : Gr w0 W
  st : ∃ s, StAt W b s
  ne : n ≠ b
  le : w0.heap.size ≤ b
  lt : n < W.heap.size
  c0 : W.cell? ⟨n, 0, none⟩ = some (.int .i64 d.what)
  c1 : W.cell? ⟨n, 1, none⟩ = some (.int .i64 d.addr)
  c2 : W.cell? ⟨n, 2, none⟩ = some (.int .i64 d.thread)
  c3 : W.cell? ⟨n, 3, none⟩ = some (.int .i64 d.line)
  c4 : W.cell? ⟨n, 4, none⟩ = some (.int .u64 (d.word : Nat))

theorem Lap.born {w0 wr : World} {b : Nat} {s : St} (g : Gr w0 wr) (hs : StAt wr b s) (hb : w0.heap.size ≤ b) (d : Dd) (c : Array Value) (hc : c.size = 5) (t : TypeId) :
    Lap w0 b d ((wr.alloc (.cells c t)).setCells wr.heap.size 0 d.cells) wr.heap.size := by
  have hN : w0.heap.size ≤ wr.heap.size := g.below.size
  have g2 : Gr w0 ((wr.alloc (.cells c t)).setCells wr.heap.size 0 d.cells) := Gr.setCells hN _ _ (g.alloc _ _)
  have hne : wr.heap.size ≠ b := by have := hs.lt; omega
  have g3 : Gr wr ((wr.alloc (.cells c t)).setCells wr.heap.size 0 d.cells) := Gr.setCells (Nat.le_refl _) _ _ ((Gr.refl wr).alloc _ _)
  have th : (wr.alloc (.cells c t)).there wr.heap.size 0 d.cells.length := there_new _ _ _ _ (by rw [hc]; rfl)
  have r := World.rangeAt_setCells_same _ _ _ _ th
  have hl := World.block_lt_of_cell? _ ⟨wr.heap.size, 0, none⟩ (r 0 _ rfl)
  exact ⟨g2, ⟨s, hs.gr g3⟩, hne, hb, hl, r 0 _ rfl, r 1 _ rfl, r 2 _ rfl, r 3 _ rfl, r 4 _ rfl⟩

theorem Lap.next {w0 W W' : World} {b n : Nat} {d : Dd} {s' : St} (h : Lap w0 b d W n) (hs : StAt W' b s') (o : Only b W W') : Lap w0 b d W' n := by
  have e : W'.heap[n]? = W.heap[n]? := o.block n h.lt h.ne
  refine ⟨h.gr.only h.le o, ⟨s', hs⟩, h.ne, h.le, Nat.lt_of_lt_of_le h.lt o.size, ?_, ?_, ?_, ?_, ?_⟩
  · rw [World.cell?_of_block (w := W) e]; exact h.c0
  · rw [World.cell?_of_block (w := W) e]; exact h.c1
  · rw [World.cell?_of_block (w := W) e]; exact h.c2
  · rw [World.cell?_of_block (w := W) e]; exact h.c3
  · rw [World.cell?_of_block (w := W) e]; exact h.c4
theorem Lap.drew {w0 W : World} {b n : Nat} {d : Dd} (h : Lap w0 b d W n) : Lap w0 b d W.drew n :=
  ⟨h.gr.drew, h.st.imp fun _ k => k.drew, h.ne, h.le, h.lt, h.c0, h.c1, h.c2, h.c3, h.c4⟩

theorem deed_agg (w : World) : (isAgg 48).run Try.prog w = .ok true w := by simp
theorem deed_size (w : World) (d : Dd) : (sizeOf 48).run Try.prog w = .ok d.cells.length w := by simp [Dd.cells]
theorem deed_info (d : Dd) : (Try.prog.info? 48).map (·.size) = some d.cells.toArray.size := by
  have h : (Try.prog.info? 48).map (·.size) = some 5 := by kernel_rfl
  exact h
theorem deed_one (d : Dd) : d.cells.toArray.all (·.oneCell') = true := all_oneCell_toArray (by simp [Dd.cells, Value.oneCell'])

theorem done_many (sl : Value) (n : Nat) (w : World) (hn : 60 < n) (hd : Deeds w sl n) :
    Calls Try.prog 10 #[sl] w fun e w' => e = .returned (.pointer none) ∧ Gr w w' := by
  rcases hd with ⟨_, h0⟩ | ⟨a, cap, rfl, _⟩
  · omega
  go_enter Try.func10, Try.ntmps10
  go_wp2_with fail
  refine (New_any _).mono ?_
  rintro e w1 ⟨rfl, h1, g1⟩
  have hn' : (60 : Int) < (n : Int) := by omega
  go_wp2_with fail
  go_ret
  exact ⟨rfl, g1⟩

set_option maxHeartbeats 2000000 in
theorem done_any (sl : Value) (n : Nat) (w : World) (hn : n ≤ 60) (hd : Deeds w sl n) :
    Calls Try.prog 10 #[sl] w fun e w' => e = .returned (.pointer (some ⟨w.heap.size, 0, none⟩)) ∧ (∃ s, StAt w' w.heap.size s) ∧ Gr w w' := by
  obtain ⟨A, cap, rfl, HE⟩ : ∃ (A : Option Addr) (cap : Nat), sl = .slice A n cap ∧ Hid (∀ w', Gr w w' → ∀ i, i < n → ∃ (a : Addr) (d : Dd), A = some a ∧ d.word < 18446744073709551616 ∧ ∀ j v, d.cells[j]? = some v → w'.cell? ((a.add (i * 5)).add j) = some v) := by
    rcases hd with ⟨rfl, rfl⟩ | ⟨a, cap, rfl, h3⟩
    · exact ⟨none, 0, rfl, fun _ _ i hi => absurd hi (Nat.not_lt_zero _)⟩
    · refine ⟨some a, cap, rfl, fun w' g i hi => ?_⟩
      obtain ⟨d, hd, hc⟩ := h3 i hi
      exact ⟨a, d, rfl, hd, fun j v hv => by rw [g.below.cell (World.block_lt_of_cell? w _ (hc j v hv))]; exact hc j v hv⟩
  clear hd
  go_enter Try.func10, Try.ntmps10
  go_wp2_with fail
  refine (New_any _).mono ?_
  rintro e w1 ⟨rfl, h1, g1⟩
  have hn' : ¬ (60 : Int) < (n : Int) := by omega
  go_wp2_with fail
  generalize hb : w.heap.size = b at *
  have HB : Hid _ := hb
  clear hb
  go_loopw [16] (fun i wr => ∃ k : Nat, k ≤ n ∧ i = .int .i64 k ∧ (∃ s, StAt wr b s) ∧ Gr w wr)
    (fun i _ => n - (intOf i).toNat)
  case atStart => exact ⟨0, by omega, rfl, ⟨_, h1⟩, g1⟩
  case round =>
    obtain ⟨k, hk, rfl, ⟨s, hs⟩, g⟩ := hrel
    by_cases hlt : k < n
    · obtain ⟨a, d, rfl, hw, hc⟩ := HE.out wr g k hlt
      have LB : Hid (Lap w b d ((wr.alloc (.cells #[.int .i64 0, .int .i64 0, .int .i64 0, .int .i64 0, .int .u64 0] 48)).setCells wr.heap.size 0 d.cells) wr.heap.size) := Lap.born g hs (Nat.le_of_eq HB.out) d _ rfl _
      have HC : Hid _ := hc
      clear hc
      by_cases q0 : d.what = 0
      · obtain ⟨r, hr, hp⟩ := pick_fun d.addr 72 (by decide) (by decide)
        have P : Hid _ := hp
        clear hp
        go_wp2_with (first
          | (refine wpList_load_at rfl 48 _ rfl _ rfl d.cells HC.out (deed_agg _) (deed_size _ _) ?_)
          | (refine wpList_store_mid rfl 48 _ _ rfl wr.heap.size _ d.cells.toArray rfl rfl (there_row _ _ _ _ rfl) (deed_info d) (deed_one d) ?_
             have L := LB.out
             generalize (wr.alloc (.cells #[.int .i64 0, .int .i64 0, .int .i64 0, .int .i64 0, .int .u64 0] 48)).setCells wr.heap.size 0 d.cells = W at L ⊢
             have c0 := L.c0
             obtain ⟨s2, hs2⟩ := L.st
             rw [q0] at c0))
        have c1 := L.c1
        have c4 := L.c4
        go_region_held3 (fun w' => w'.cell? ⟨wr.heap.size, 1, none⟩ = some (.int .i64 d.addr) ∧ w'.cell? ⟨wr.heap.size, 4, none⟩ = some (.int .u64 (d.word : Nat))) (go_keep)
          (first
          | (go_at_call 11; refine (P.out _).mono ?_; rintro e w3 ⟨rfl, hw⟩; rw [hw]; clear hw)
            | (go_at_call 17; refine (Save_yes r b _ s2 _ hr hs2.drew).mono ?_; rintro e w4 ⟨rfl, h4, o4⟩; have L4 := L.drew.next h4 o4; have k1 := L4.c1; have k4 := L4.c4))
        go_wp2
        go_roundw
        case rel => exact ⟨k + 1, by omega, by go_num, L4.st, L4.gr⟩
        case measure => simp [intOf]; omega
      by_cases q1 : d.what = 1
      · obtain ⟨r, hr, hp⟩ := pick_fun d.thread 4 (by decide) (by decide)
        obtain ⟨r', hr', hp'⟩ := pick_fun d.line 9 (by decide) (by decide)
        have P : Hid _ := hp
        have P' : Hid _ := hp'
        clear hp hp'
        go_wp2_with (first
          | (refine wpList_load_at rfl 48 _ rfl _ rfl d.cells HC.out (deed_agg _) (deed_size _ _) ?_)
          | (refine wpList_store_mid rfl 48 _ _ rfl wr.heap.size _ d.cells.toArray rfl rfl (there_row _ _ _ _ rfl) (deed_info d) (deed_one d) ?_
             have L := LB.out
             generalize (wr.alloc (.cells #[.int .i64 0, .int .i64 0, .int .i64 0, .int .i64 0, .int .u64 0] 48)).setCells wr.heap.size 0 d.cells = W at L ⊢
             have c0 := L.c0
             obtain ⟨s2, hs2⟩ := L.st
             rw [q1] at c0))
        have c2 := L.c2
        have c3 := L.c3
        go_region_held3 (fun w' => w'.cell? ⟨wr.heap.size, 2, none⟩ = some (.int .i64 d.thread) ∧ w'.cell? ⟨wr.heap.size, 3, none⟩ = some (.int .i64 d.line)) (go_keep)
          (first
          | (go_at_call_of 11 d.thread; refine (P.out _).mono ?_; rintro e w3 ⟨rfl, hw⟩; rw [hw]; clear hw)
          | (go_at_call_of 11 d.line; refine (P'.out _).mono ?_; rintro e w3 ⟨rfl, hw⟩; rw [hw]; clear hw)
            | (go_at_call 18; refine (Flush_yes r r' b s2 _ hr hr' hs2.drew).mono ?_; rintro e w4 ⟨rfl, h4, o4⟩; have L4 := L.drew.next h4 o4; have k2 := L4.c2; have k3 := L4.c3))
        go_wp2
        go_roundw
        case rel => exact ⟨k + 1, by omega, by go_num, L4.st, L4.gr⟩
        case measure => simp [intOf]; omega
      by_cases q2 : d.what = 2
      · obtain ⟨r, hr, hp⟩ := pick_fun d.thread 4 (by decide) (by decide)
        have P : Hid _ := hp
        clear hp
        go_wp2_with (first
          | (refine wpList_load_at rfl 48 _ rfl _ rfl d.cells HC.out (deed_agg _) (deed_size _ _) ?_)
          | (refine wpList_store_mid rfl 48 _ _ rfl wr.heap.size _ d.cells.toArray rfl rfl (there_row _ _ _ _ rfl) (deed_info d) (deed_one d) ?_
             have L := LB.out
             generalize (wr.alloc (.cells #[.int .i64 0, .int .i64 0, .int .i64 0, .int .i64 0, .int .u64 0] 48)).setCells wr.heap.size 0 d.cells = W at L ⊢
             have c0 := L.c0
             obtain ⟨s2, hs2⟩ := L.st
             rw [q2] at c0
             have c2 := L.c2)
          | (go_at_call 11; refine (P.out _).mono ?_; rintro e w3 ⟨rfl, hw⟩; rw [hw]; clear hw)
          | (go_at_call 19; refine (Fence_yes r b s2 _ hr hs2).mono ?_; rintro e w4 ⟨rfl, h4, o4⟩; have L4 := L.next h4 o4))
        go_roundw
        case rel => exact ⟨k + 1, by omega, by go_num, L4.st, L4.gr⟩
        case measure => simp [intOf]; omega
      by_cases q3 : d.what = 3
      · obtain ⟨r, hr, hp⟩ := pick_fun d.line 9 (by decide) (by decide)
        have P : Hid _ := hp
        clear hp
        go_wp2_with (first
          | (refine wpList_load_at rfl 48 _ rfl _ rfl d.cells HC.out (deed_agg _) (deed_size _ _) ?_)
          | (refine wpList_store_mid rfl 48 _ _ rfl wr.heap.size _ d.cells.toArray rfl rfl (there_row _ _ _ _ rfl) (deed_info d) (deed_one d) ?_
             have L := LB.out
             generalize (wr.alloc (.cells #[.int .i64 0, .int .i64 0, .int .i64 0, .int .i64 0, .int .u64 0] 48)).setCells wr.heap.size 0 d.cells = W at L ⊢
             have c0 := L.c0
             obtain ⟨s2, hs2⟩ := L.st
             rw [q3] at c0
             have c3 := L.c3)
          | (go_at_call 11; refine (P.out _).mono ?_; rintro e w3 ⟨rfl, hw⟩; rw [hw]; clear hw)
          | (go_at_call 22; refine (Evict_yes r b s2 _ hr hs2).mono ?_; rintro e w4 ⟨rfl, h4, o4⟩; have L4 := L.next h4 o4))
        go_roundw
        case rel => exact ⟨k + 1, by omega, by go_num, L4.st, L4.gr⟩
        case measure => simp [intOf]; omega
      by_cases q4 : d.what = 4
      · go_wp2_with (first
          | (refine wpList_load_at rfl 48 _ rfl _ rfl d.cells HC.out (deed_agg _) (deed_size _ _) ?_)
          | (refine wpList_store_mid rfl 48 _ _ rfl wr.heap.size _ d.cells.toArray rfl rfl (there_row _ _ _ _ rfl) (deed_info d) (deed_one d) ?_
             have L := LB.out
             generalize (wr.alloc (.cells #[.int .i64 0, .int .i64 0, .int .i64 0, .int .i64 0, .int .u64 0] 48)).setCells wr.heap.size 0 d.cells = W at L ⊢
             have c0 := L.c0
             obtain ⟨s2, hs2⟩ := L.st
             rw [q4] at c0
             have c4 := L.c4)
          | (go_at_call 16; refine (Crash_any d.word b s2 _ hw hs2).mono ?_; rintro e w4 ⟨rfl, h4, o4⟩; have L4 := L.next h4 o4))
        go_roundw
        case rel => exact ⟨k + 1, by omega, by go_num, L4.st, L4.gr⟩
        case measure => simp [intOf]; omega
      · go_wp2_with (first
          | (refine wpList_load_at rfl 48 _ rfl _ rfl d.cells HC.out (deed_agg _) (deed_size _ _) ?_)
          | (refine wpList_store_mid rfl 48 _ _ rfl wr.heap.size _ d.cells.toArray rfl rfl (there_row _ _ _ _ rfl) (deed_info d) (deed_one d) ?_
             have L := LB.out
             generalize (wr.alloc (.cells #[.int .i64 0, .int .i64 0, .int .i64 0, .int .i64 0, .int .u64 0] 48)).setCells wr.heap.size 0 d.cells = W at L ⊢
             have c0 := L.c0
             obtain ⟨s2, hs2⟩ := L.st))
        go_roundw
        case rel => exact ⟨k + 1, by omega, by go_num, L.st, L.gr⟩
        case measure => simp [intOf]; omega
    · go_wp2
      go_ret
      have e := HB.out
      exact ⟨by rw [e]; rfl, ⟨s, by rw [e]; exact hs⟩, g⟩
end Go.Proofs.Ythgkmbimmelglab
