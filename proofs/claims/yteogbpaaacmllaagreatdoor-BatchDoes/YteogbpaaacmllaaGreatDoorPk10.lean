/- Texts laid together: The reference's ends, by its contracts; The reference's Queue and Stack, and sameInts, by their contracts; What a deque does, by its plain function; The reference's Deque, and sameInts, by their contracts; The reference's Heap, and sameInts, by their contracts; The reference's Heap, where something is put in; The reference's HeapRight: the text that has it here; The reference's Heap, where something is taken out; The reference's Heap, as one; The reference's Thing.Do and Thing.Cells, by their contracts: of whatever object; What is true of a record behind any asks; a thing that lies as words say; facts on memory; The reference's within, Good and Bare, by their contracts; rows of asks and faults; The reference same, by its contract. -/
import Derived.Test.YteogbpaaacmllaaGreatDoorPk09
import Derived.Deep.RegionLaw
import Derived.Test.YteogbpaaacmllaaGreatDoorPk08
import Derived.Test.YteogbpaaacmllaaGreatDoorPk02
import Derived.Test.YteogbpaaacmllaaGreatDoorPk03
import Derived.Test.YteogbpaaacmllaaGreatDoorPk07
import Derived.Test.YteogbpaaacmllaaGreatDoorPk00
import Derived.Test.YteogbpaaacmllaaGreatDoorPk04
import Derived.Maps.AppendAt
import Derived.Deep.DeepCutAuto
import Derived.Deep.RegionHeld3
namespace Go.Proofs.YteogbpaaacmllaaGreatDoor
set_option maxRecDepth 20000
open Go.RowKit

/-- What the last line passes through: the operation, the answer to be, the list that came in at one place, the copy. -/
structure Rg (w W : World) (o k x : Int) (b off : Nat) (z : Int) (kv : Value) (xs : List Int) : Prop where
  fr : Fr w W o k x
  cl : W.cell? ⟨b, off, none⟩ = some (.int .i64 z)
  kp : IsL (w.heap.size + 2) W kv xs
theorem Own.lit {B : Nat} (w : World) (x : Int) (hB : B ≤ w.heap.size) : Own B (w.alloc (.cells #[.int .i64 x] 3)) (.slice (some ⟨w.heap.size, 0, none⟩) 1 1) [x] :=
  ⟨rfl, .inr ⟨w.heap.size, 1, #[.int .i64 x], rfl, hB, heap_alloc_new w _, Nat.le_refl _, by decide, rfl, rfl⟩⟩
theorem Rg.later {w W W' : World} {o k x : Int} {b off : Nat} {z : Int} {kv : Value} {xs : List Int} (h : Rg w W o k x b off z kv xs) (hb : Below W.heap.size W W') : Rg w W' o k x b off z kv xs where
  fr := h.fr.later (hb.mono h.fr.sz)
  cl := by rw [hb.cell (p := ⟨b, off, none⟩) (World.block_lt_of_cell? _ _ h.cl)]; exact h.cl
  kp := h.kp.later hb

set_option maxHeartbeats 2000000 in
theorem ends_count {B : Nat} {v : Value} {xs : List Int} {w : World} (k x : Int) (ou : Int) (h : IsL B w v xs) (hx : xs.length ≤ 60) :
    Calls Tryz.prog 98 #[v, .agg #[.int .i64 6, .int .i64 k, .int .i64 x], .bool false, .int .i64 ou] w (Made w xs 1 xs.length) := by
  have F0 : Hid (Fr w (two w 6 k x) 6 k x) := Fr.start w 6 k x
  have X : Hid (IsL B (two w 6 k x) v xs) := h.later F0.out.gr
  have HX : Hid (xs.length ≤ 1000000) := Nat.le_trans hx (by decide)
  obtain ⟨a, c, rfl⟩ := h.form
  clear h
  go_enter Tryz.func98, Tryz.ntmps98
  go_wp2_with (at_builtin; refine wpList_copy rfl rfl (.const (.slice none 0 0)) (.tmp 11) rfl rfl rfl X.out HX.out ?_)
  intro v1 w1 hown hb
  have hown' : Own (w.heap.size + 2) w1 v1 xs := hown
  have hb' : Below (w.heap.size + 2) (two w 6 k x) w1 := hb
  have F1 : Hid (Fr w w1 6 k x) := F0.out.later hb'
  have O1 : Hid (Own (w.heap.size + 2) w1 v1 xs) := hown'
  clear hown hb hown' hb' F0
  have o0 := F1.out.o0
  have o2 := F1.out.o2
  have r0 := F1.out.r0
  have r1 := F1.out.r1
  have f0 := F1.out.f0
  have f1 := F1.out.f1
  go_wp2_with fail
  refine (said_is _ _ _).mono ?_
  rintro e w2 ⟨rfl, hb⟩
  have F2 : Hid (Fr w w2 6 k x) := F1.out.later (hb.mono F1.out.sz)
  have I2 : Hid (IsL (w.heap.size + 2) w2 v1 xs) := O1.out.isL.later hb
  clear hb o0 o2 r0 r1 f0 f1 F1
  have o0 := F2.out.o0
  have o2 := F2.out.o2
  have r0 := F2.out.r0
  have r1 := F2.out.r1
  have f0 := F2.out.f0
  have f1 := F2.out.f1
  go_wp2
  refine bodyPost_ret (v := .tuple #[v1, .agg #[.int .i64 1, .int .i64 xs.length]]) ?_ rfl (F2.out.made 1 xs.length I2.out)
  have E := F2.out.ends 1 xs.length
  unfold wr at E
  simp [results, Tryz.results98, go_sem, E.1, E.2.1]

set_option maxHeartbeats 2000000 in
theorem ends_full {B : Nat} {v : Value} {xs : List Int} {w : World} (k x : Int) (ou : Int) (h6 : 6 ≤ xs.length) (h : IsL B w v xs) (hx : xs.length ≤ 60) :
    Calls Tryz.prog 98 #[v, .agg #[.int .i64 1, .int .i64 k, .int .i64 x], .bool false, .int .i64 ou] w (Made w xs 3 0) := by
  have F0 : Hid (Fr w (two w 1 k x) 1 k x) := Fr.start w 1 k x
  have X : Hid (IsL B (two w 1 k x) v xs) := h.later F0.out.gr
  have HX : Hid (xs.length ≤ 1000000) := Nat.le_trans hx (by decide)
  obtain ⟨a, c, rfl⟩ := h.form
  have h6i : (6 : Int) ≤ (xs.length : Int) := by omega
  clear h
  go_enter Tryz.func98, Tryz.ntmps98
  go_wp2_with (at_builtin; refine wpList_copy rfl rfl (.const (.slice none 0 0)) (.tmp 11) rfl rfl rfl X.out HX.out ?_)
  intro v1 w1 hown hb
  have hown' : Own (w.heap.size + 2) w1 v1 xs := hown
  have hb' : Below (w.heap.size + 2) (two w 1 k x) w1 := hb
  have F1 : Hid (Fr w w1 1 k x) := F0.out.later hb'
  have O1 : Hid (Own (w.heap.size + 2) w1 v1 xs) := hown'
  clear hown hb hown' hb' F0
  have o0 := F1.out.o0
  have o2 := F1.out.o2
  have r0 := F1.out.r0
  have r1 := F1.out.r1
  have f0 := F1.out.f0
  have f1 := F1.out.f1
  go_wp2_with fail
  refine (said_is _ _ _).mono ?_
  rintro e w2 ⟨rfl, hb⟩
  have F2 : Hid (Fr w w2 1 k x) := F1.out.later (hb.mono F1.out.sz)
  have I2 : Hid (IsL (w.heap.size + 2) w2 v1 xs) := O1.out.isL.later hb
  clear hb o0 o2 r0 r1 f0 f1 F1
  have o0 := F2.out.o0
  have o2 := F2.out.o2
  have r0 := F2.out.r0
  have r1 := F2.out.r1
  have f0 := F2.out.f0
  have f1 := F2.out.f1
  go_wp2
  refine bodyPost_ret (v := .tuple #[v1, .agg #[.int .i64 3, .int .i64 0]]) ?_ rfl (F2.out.made 3 0 I2.out)
  have E := F2.out.ends 3 0
  unfold wr at E
  simp [results, Tryz.results98, go_sem, E.1, E.2.1]

set_option maxHeartbeats 2000000 in
theorem ends_none {B : Nat} {v : Value}  {w : World} (k x : Int) (o ou : Int) (n1 : o ≠ 1) (n3 : o ≠ 3) (n6 : o ≠ 6) (h : IsL B w v ([] : List Int)) (hx : ([] : List Int).length ≤ 60) :
    Calls Tryz.prog 98 #[v, .agg #[.int .i64 o, .int .i64 k, .int .i64 x], .bool false, .int .i64 ou] w (Made w [] 2 0) := by
  have F0 : Hid (Fr w (two w o k x) o k x) := Fr.start w o k x
  have X : Hid (IsL B (two w o k x) v ([] : List Int)) := h.later F0.out.gr
  have HX : Hid (([] : List Int).length ≤ 1000000) := Nat.le_trans hx (by decide)
  obtain ⟨a, c, rfl⟩ := h.form
  have n1' : (o == 1) = false := by simp [n1]
  have n3' : (o == 3) = false := by simp [n3]
  have n6' : (o == 6) = false := by simp [n6]
  clear h
  go_enter Tryz.func98, Tryz.ntmps98
  go_wp2_with (at_builtin; refine wpList_copy rfl rfl (.const (.slice none 0 0)) (.tmp 11) rfl rfl rfl X.out HX.out ?_)
  intro v1 w1 hown hb
  have hown' : Own (w.heap.size + 2) w1 v1 ([] : List Int) := hown
  have hb' : Below (w.heap.size + 2) (two w o k x) w1 := hb
  have F1 : Hid (Fr w w1 o k x) := F0.out.later hb'
  have O1 : Hid (Own (w.heap.size + 2) w1 v1 ([] : List Int)) := hown'
  clear hown hb hown' hb' F0
  have o0 := F1.out.o0
  have o2 := F1.out.o2
  have r0 := F1.out.r0
  have r1 := F1.out.r1
  have f0 := F1.out.f0
  have f1 := F1.out.f1
  go_wp2_with fail
  refine (said_is _ _ _).mono ?_
  rintro e w2 ⟨rfl, hb⟩
  have F2 : Hid (Fr w w2 o k x) := F1.out.later (hb.mono F1.out.sz)
  have I2 : Hid (IsL (w.heap.size + 2) w2 v1 []) := O1.out.isL.later hb
  clear hb o0 o2 r0 r1 f0 f1 F1
  have o0 := F2.out.o0
  have o2 := F2.out.o2
  have r0 := F2.out.r0
  have r1 := F2.out.r1
  have f0 := F2.out.f0
  have f1 := F2.out.f1
  go_wp2
  refine bodyPost_ret (v := .tuple #[v1, .agg #[.int .i64 2, .int .i64 0]]) ?_ rfl (F2.out.made 2 0 I2.out)
  have E := F2.out.ends 2 0
  unfold wr at E
  simp [results, Tryz.results98, go_sem, E.1, E.2.1]

set_option maxHeartbeats 2000000 in
theorem ends_put {B : Nat} {v : Value} {xs : List Int} {w : World} (k x : Int) (ou : Int) (h6 : xs.length < 6) (h : IsL B w v xs) (hx : xs.length ≤ 60) :
    Calls Tryz.prog 98 #[v, .agg #[.int .i64 1, .int .i64 k, .int .i64 x], .bool false, .int .i64 ou] w (Made w (xs ++ [x]) 1 0) := by
  have F0 : Hid (Fr w (two w 1 k x) 1 k x) := Fr.start w 1 k x
  have X : Hid (IsL B (two w 1 k x) v xs) := h.later F0.out.gr
  have HX : Hid (xs.length ≤ 1000000) := Nat.le_trans hx (by decide)
  obtain ⟨a, c, rfl⟩ := h.form
  have h6i : (xs.length : Int) < 6 := by omega
  clear h
  go_enter Tryz.func98, Tryz.ntmps98
  go_wp2_with (at_builtin; refine wpList_copy rfl rfl (.const (.slice none 0 0)) (.tmp 11) rfl rfl rfl X.out HX.out ?_)
  intro v1 w1 hown hb
  have hown' : Own (w.heap.size + 2) w1 v1 xs := hown
  have hb' : Below (w.heap.size + 2) (two w 1 k x) w1 := hb
  have F1 : Hid (Fr w w1 1 k x) := F0.out.later hb'
  have O1 : Hid (Own (w.heap.size + 2) w1 v1 xs) := hown'
  clear hown hb hown' hb' F0
  have o0 := F1.out.o0
  have o2 := F1.out.o2
  have r0 := F1.out.r0
  have r1 := F1.out.r1
  have f0 := F1.out.f0
  have f1 := F1.out.f1
  obtain ⟨i0, hi, hz0, hz1, hz2⟩ := info_parts info_int
  have hlt : Hid (∀ j, v1.ownBlock = some j → w.heap.size + 2 ≤ j ∧ j < w1.heap.size) := O1.out.lt
  have hsz := F1.out.sz
  go_wp2_with (at_builtin; refine wpList_append_own _ rfl (.tmp 42) (.tmp 45) 66 rfl (w.heap.size + 2) 3 i0 (.int .i64 0) 1 8 Tryz.underlying66 hi hz0 hz1 hz2 rfl (by decide) _ _ _ rfl (O1.out.alloc _) ⟨w1.heap.size, 0, none⟩ 1 1 [.int .i64 x] rfl rfl (cell_one_new _ _ _) (by intro u hu; simp at hu; subst hu; rfl) (by unfold maxLen; omega) (by omega) (by simp; omega) ?_)
  intro v3 w3 hown hgrow _
  have F3 : Hid (Fr w w3 1 k x) := F1.out.later (((Below.refl (w.heap.size + 2) w1).alloc hsz _).grown hgrow (by simp; omega) (fun j hj => (hlt.out j hj).1))
  have O3 : Hid (Own (w.heap.size + 2) w3 v3 (xs ++ [x])) := by
    show w3.ownsRow _ _ 1 v3 _ _
    simpa using hown
  clear hown hgrow hlt hsz o0 o2 r0 r1 f0 f1 F1 O1
  have o0 := F3.out.o0
  have o2 := F3.out.o2
  have r0 := F3.out.r0
  have r1 := F3.out.r1
  have f0 := F3.out.f0
  have f1 := F3.out.f1
  go_wp2_with fail
  refine (said_is _ _ _).mono ?_
  rintro e w2 ⟨rfl, hb⟩
  have F2 : Hid (Fr w w2 1 k x) := F3.out.later (hb.mono F3.out.sz)
  have I2 : Hid (IsL (w.heap.size + 2) w2 v3 (xs ++ [x])) := O3.out.isL.later hb
  clear hb o0 o2 r0 r1 f0 f1 F3
  have o0 := F2.out.o0
  have o2 := F2.out.o2
  have r0 := F2.out.r0
  have r1 := F2.out.r1
  have f0 := F2.out.f0
  have f1 := F2.out.f1
  go_wp2
  refine bodyPost_ret (v := .tuple #[v3, .agg #[.int .i64 1, .int .i64 0]]) ?_ rfl (F2.out.made 1 0 I2.out)
  have E := F2.out.ends 1 0
  unfold wr at E
  simp [results, Tryz.results98, go_sem, E.1, E.2.1]

set_option maxHeartbeats 2000000 in
theorem ends_ffull {B : Nat} {v : Value} {xs : List Int} {w : World} (k x : Int) (ou : Int) (h6 : 6 ≤ xs.length) (h : IsL B w v xs) (hx : xs.length ≤ 60) :
    Calls Tryz.prog 98 #[v, .agg #[.int .i64 3, .int .i64 k, .int .i64 x], .bool true, .int .i64 ou] w (Made w xs 3 0) := by
  have F0 : Hid (Fr w (two w 3 k x) 3 k x) := Fr.start w 3 k x
  have X : Hid (IsL B (two w 3 k x) v xs) := h.later F0.out.gr
  have HX : Hid (xs.length ≤ 1000000) := Nat.le_trans hx (by decide)
  obtain ⟨a, c, rfl⟩ := h.form
  have h6i : (6 : Int) ≤ (xs.length : Int) := by omega
  clear h
  go_enter Tryz.func98, Tryz.ntmps98
  go_wp2_with (at_builtin; refine wpList_copy rfl rfl (.const (.slice none 0 0)) (.tmp 11) rfl rfl rfl X.out HX.out ?_)
  intro v1 w1 hown hb
  have hown' : Own (w.heap.size + 2) w1 v1 xs := hown
  have hb' : Below (w.heap.size + 2) (two w 3 k x) w1 := hb
  have F1 : Hid (Fr w w1 3 k x) := F0.out.later hb'
  have O1 : Hid (Own (w.heap.size + 2) w1 v1 xs) := hown'
  clear hown hb hown' hb' F0
  have o0 := F1.out.o0
  have o2 := F1.out.o2
  have r0 := F1.out.r0
  have r1 := F1.out.r1
  have f0 := F1.out.f0
  have f1 := F1.out.f1
  go_wp2_with fail
  refine (said_is _ _ _).mono ?_
  rintro e w2 ⟨rfl, hb⟩
  have F2 : Hid (Fr w w2 3 k x) := F1.out.later (hb.mono F1.out.sz)
  have I2 : Hid (IsL (w.heap.size + 2) w2 v1 xs) := O1.out.isL.later hb
  clear hb o0 o2 r0 r1 f0 f1 F1
  have o0 := F2.out.o0
  have o2 := F2.out.o2
  have r0 := F2.out.r0
  have r1 := F2.out.r1
  have f0 := F2.out.f0
  have f1 := F2.out.f1
  go_wp2
  refine bodyPost_ret (v := .tuple #[v1, .agg #[.int .i64 3, .int .i64 0]]) ?_ rfl (F2.out.made 3 0 I2.out)
  have E := F2.out.ends 3 0
  unfold wr at E
  simp [results, Tryz.results98, go_sem, E.1, E.2.1]

set_option maxHeartbeats 2000000 in
theorem ends_front {B : Nat} {v : Value} {xs : List Int} {w : World} (k x : Int) (ou : Int) (h6 : xs.length < 6) (h : IsL B w v xs) (hx : xs.length ≤ 60) :
    Calls Tryz.prog 98 #[v, .agg #[.int .i64 3, .int .i64 k, .int .i64 x], .bool true, .int .i64 ou] w (Made w (x :: xs) 1 0) := by
  have F0 : Hid (Fr w (two w 3 k x) 3 k x) := Fr.start w 3 k x
  have X : Hid (IsL B (two w 3 k x) v xs) := h.later F0.out.gr
  have HX : Hid (xs.length ≤ 1000000) := Nat.le_trans hx (by decide)
  obtain ⟨a, c, rfl⟩ := h.form
  have h6i : (xs.length : Int) < 6 := by omega
  clear h
  go_enter Tryz.func98, Tryz.ntmps98
  go_wp2_with (at_builtin; refine wpList_copy rfl rfl (.const (.slice none 0 0)) (.tmp 11) rfl rfl rfl X.out HX.out ?_)
  intro v1 w1 hown hb
  have hown' : Own (w.heap.size + 2) w1 v1 xs := hown
  have hb' : Below (w.heap.size + 2) (two w 3 k x) w1 := hb
  have F1 : Hid (Fr w w1 3 k x) := F0.out.later hb'
  have O1 : Hid (Own (w.heap.size + 2) w1 v1 xs) := hown'
  clear hown hb hown' hb' F0
  have o0 := F1.out.o0
  have o2 := F1.out.o2
  have r0 := F1.out.r0
  have r1 := F1.out.r1
  have f0 := F1.out.f0
  have f1 := F1.out.f1
  have hsz := F1.out.sz
  have OL : Hid (Own (w.heap.size + 2) (w1.alloc (.cells #[.int .i64 x] 3)) (.slice (some ⟨w1.heap.size, 0, none⟩) 1 1) [x]) := Own.lit w1 x hsz
  have KL : Hid (IsL (w.heap.size + 2) (w1.alloc (.cells #[.int .i64 x] 3)) v1 xs) := O1.out.isL.new _
  have hlen : Hid ([x].length + xs.length ≤ 1000000) := show _ ≤ _ by simp; omega
  go_wp2_with (at_builtin; refine wpList_onto rfl rfl (.tmp 38) (.tmp 39) rfl rfl rfl (Nat.le_trans hsz (by simp)) OL.out KL.out hlen.out ?_)
  intro v3 w3 hown hgrow
  have F3 : Hid (Fr w w3 3 k x) := F1.out.later (((Below.refl (w.heap.size + 2) w1).alloc hsz _).trans hgrow)
  have O3 : Hid (Own (w.heap.size + 2) w3 v3 (x :: xs)) := hown
  clear hown hgrow hsz OL KL hlen o0 o2 r0 r1 f0 f1 F1 O1
  have o0 := F3.out.o0
  have o2 := F3.out.o2
  have r0 := F3.out.r0
  have r1 := F3.out.r1
  have f0 := F3.out.f0
  have f1 := F3.out.f1
  go_wp2_with fail
  refine (said_is _ _ _).mono ?_
  rintro e w2 ⟨rfl, hb⟩
  have F2 : Hid (Fr w w2 3 k x) := F3.out.later (hb.mono F3.out.sz)
  have I2 : Hid (IsL (w.heap.size + 2) w2 v3 (x :: xs)) := O3.out.isL.later hb
  clear hb o0 o2 r0 r1 f0 f1 F3
  have o0 := F2.out.o0
  have o2 := F2.out.o2
  have r0 := F2.out.r0
  have r1 := F2.out.r1
  have f0 := F2.out.f0
  have f1 := F2.out.f1
  go_wp2
  refine bodyPost_ret (v := .tuple #[v3, .agg #[.int .i64 1, .int .i64 0]]) ?_ rfl (F2.out.made 1 0 I2.out)
  have E := F2.out.ends 1 0
  unfold wr at E
  simp [results, Tryz.results98, go_sem, E.1, E.2.1]

set_option maxHeartbeats 2000000 in
theorem ends_peek {B : Nat} {v : Value} {xs : List Int} {ou : Nat} {z : Int} {w : World} (k x : Int) (ho : ou < xs.length) (hzz : xs.getD ou 0 = z) (h : IsL B w v xs) (hx : xs.length ≤ 60) :
    Calls Tryz.prog 98 #[v, .agg #[.int .i64 5, .int .i64 k, .int .i64 x], .bool false, .int .i64 (ou : Nat)] w (Made w xs 1 z) := by
  have F0 : Hid (Fr w (two w 5 k x) 5 k x) := Fr.start w 5 k x
  have X : Hid (IsL B (two w 5 k x) v xs) := h.later F0.out.gr
  have HX : Hid (xs.length ≤ 1000000) := Nat.le_trans hx (by decide)
  rcases h with ⟨rfl, _⟩ | ⟨b, off, c, rfl, hB, h0, hc, hcell, _⟩
  · simp at ho
  have hz : w.cell? ⟨b, off + ou, none⟩ = some (.int .i64 z) := by rw [hcell ou ho, hzz]
  have Z : Hid (w.cell? ⟨b, off + ou, none⟩ = some (.int .i64 z)) := hz
  have hbl : b < w.heap.size := World.block_lt_of_cell? _ _ hz
  have hne : ((xs.length : Int) == 0) = false := by rw [beq_eq_false_iff_ne]; omega
  have ho1 : (ou : Int) < (xs.length : Int) := by omega
  have ho0 : (0 : Int) ≤ (ou : Int) := by omega
  have HZ : Hid (xs.getD ou 0 = z) := hzz
  clear hz hcell hzz
  go_enter Tryz.func98, Tryz.ntmps98
  go_wp2_with (at_builtin; refine wpList_copy rfl rfl (.const (.slice none 0 0)) (.tmp 11) rfl rfl rfl X.out HX.out ?_)
  intro v1 w1 hown hb
  have hown' : Own (w.heap.size + 2) w1 v1 xs := hown
  have hb' : Below (w.heap.size + 2) (two w 5 k x) w1 := hb
  have F1 : Hid (Fr w w1 5 k x) := F0.out.later hb'
  have O1 : Hid (Own (w.heap.size + 2) w1 v1 xs) := hown'
  clear hown hb hown' hb' F0
  have o0 := F1.out.o0
  have o2 := F1.out.o2
  have r0 := F1.out.r0
  have r1 := F1.out.r1
  have f0 := F1.out.f0
  have f1 := F1.out.f1
  have hz1 : w1.cell? ⟨b, off + ou, none⟩ = some (.int .i64 z) := by rw [F1.out.gr.cell (p := ⟨b, off + ou, none⟩) hbl]; exact Z.out
  go_wp2_with fail
  refine (said_is _ _ _).mono ?_
  rintro e w2 ⟨rfl, hb⟩
  have F2 : Hid (Fr w w2 5 k x) := F1.out.later (hb.mono F1.out.sz)
  have I2 : Hid (IsL (w.heap.size + 2) w2 v1 xs) := O1.out.isL.later hb
  clear hb o0 o2 r0 r1 f0 f1 F1
  have o0 := F2.out.o0
  have o2 := F2.out.o2
  have r0 := F2.out.r0
  have r1 := F2.out.r1
  have f0 := F2.out.f0
  have f1 := F2.out.f1
  go_wp2
  refine bodyPost_ret (v := .tuple #[v1, .agg #[.int .i64 1, .int .i64 z]]) ?_ rfl (F2.out.made 1 z I2.out)
  have E := F2.out.ends 1 z
  unfold wr at E
  simp [results, Tryz.results98, go_sem, E.1, E.2.1]

set_option maxHeartbeats 2000000 in
theorem ends_take {B : Nat} {v : Value} {xs : List Int} {ou : Nat} {z : Int} {w : World} (k x : Int) (o : Int) (n1 : o ≠ 1) (n3 : o ≠ 3) (n5 : o ≠ 5) (n6 : o ≠ 6) (ho : ou < xs.length) (hzz : xs.getD ou 0 = z) (h : IsL B w v xs) (hx : xs.length ≤ 60) :
    Calls Tryz.prog 98 #[v, .agg #[.int .i64 o, .int .i64 k, .int .i64 x], .bool false, .int .i64 (ou : Nat)] w (Made w (xs.take ou ++ xs.drop (ou + 1)) 1 z) := by
  have F0 : Hid (Fr w (two w o k x) o k x) := Fr.start w o k x
  have X : Hid (IsL B (two w o k x) v xs) := h.later F0.out.gr
  have HX : Hid (xs.length ≤ 1000000) := Nat.le_trans hx (by decide)
  rcases h with ⟨rfl, _⟩ | ⟨b, off, c, rfl, hB, h0, hc, hcell, _⟩
  · simp at ho
  have hz : w.cell? ⟨b, off + ou, none⟩ = some (.int .i64 z) := by rw [hcell ou ho, hzz]
  have Z : Hid (w.cell? ⟨b, off + ou, none⟩ = some (.int .i64 z)) := hz
  have hbl : b < w.heap.size := World.block_lt_of_cell? _ _ hz
  have hne : ((xs.length : Int) == 0) = false := by rw [beq_eq_false_iff_ne]; omega
  have ho1 : (ou : Int) < (xs.length : Int) := by omega
  have ho0 : (0 : Int) ≤ (ou : Int) := by omega
  have HZ : Hid (xs.getD ou 0 = z) := hzz
  clear hz hcell hzz
  have hx60 : xs.length ≤ 60 := hx
  have n1' : (o == 1) = false := by simp [n1]
  have n3' : (o == 3) = false := by simp [n3]
  have n5' : (o == 5) = false := by simp [n5]
  have n6' : (o == 6) = false := by simp [n6]
  go_enter Tryz.func98, Tryz.ntmps98
  go_wp2_with (at_builtin; refine wpList_copy rfl rfl (.const (.slice none 0 0)) (.tmp 11) rfl rfl rfl X.out HX.out ?_)
  intro v1 w1 hown hb
  have hown' : Own (w.heap.size + 2) w1 v1 xs := hown
  have hb' : Below (w.heap.size + 2) (two w o k x) w1 := hb
  have F1 : Hid (Fr w w1 o k x) := F0.out.later hb'
  have O1 : Hid (Own (w.heap.size + 2) w1 v1 xs) := hown'
  clear hown hb hown' hb' F0
  have o0 := F1.out.o0
  have o2 := F1.out.o2
  have r0 := F1.out.r0
  have r1 := F1.out.r1
  have f0 := F1.out.f0
  have f1 := F1.out.f1
  have hz1 : w1.cell? ⟨b, off + ou, none⟩ = some (.int .i64 z) := by rw [F1.out.gr.cell (p := ⟨b, off + ou, none⟩) hbl]; exact Z.out
  obtain ⟨g, cap, rfl, hg⟩ := O1.out.formp h0
  have hcap : xs.length ≤ cap := by
    rcases O1.out.2 with ⟨h, _⟩ | ⟨_, _, _, h, _, _, h2, _⟩
    · cases h
    · injection h with _ _ h; subst h; exact h2
  have hrow : Hid (∀ j, j < xs.length → w1.cell? ⟨g, 0 + j, none⟩ = some (.int .i64 (xs.getD j 0))) := fun j hj => O1.out.isL.at hj
  have R0 : Hid (Rg w w1.drew o k x b (off + ou) z (.slice (some ⟨g, 0, none⟩) xs.length cap) xs) := ⟨F1.out.later (Below.refl _ _).drew, hz1, O1.out.isL.later (Below.refl _ _).drew⟩
  obtain ⟨A, hA, hnews⟩ : ∃ A : Addr, (if cap = ou + 1 then some (⟨g, 0, none⟩ : Addr) else some ⟨g, ou + 1, none⟩) = some A ∧ Hid (∀ W kvv, IsL (w.heap.size + 2) W (.slice (some ⟨g, 0, none⟩) xs.length kvv) xs → ∀ j u, ((xs.drop (ou + 1)).map (Value.int .i64))[j]? = some u → W.cell? (A.add j) = some u) := by
    by_cases hcc : cap = ou + 1
    · refine ⟨⟨g, 0, none⟩, by simp [hcc], fun W kvv hI j u hu => ?_⟩
      have : xs.drop (ou + 1) = [] := List.drop_eq_nil_of_le (by omega)
      rw [this] at hu
      simp at hu
    · refine ⟨⟨g, ou + 1, none⟩, by simp [hcc], fun W kvv hI => ints_at fun j hj => ?_⟩
      have hj' : ou + 1 + j < xs.length := by simp at hj; omega
      have := hI.at hj'
      rw [Nat.zero_add] at this
      rw [this]
      simp [List.getD]
  have hoc : (ou : Int) ≤ (cap : Int) := by omega
  have hwr : IntKind.i64.wrap ((ou : Int) + 1) = (ou : Int) + 1 := by rw [IntKind.wrap_i64]; omega
  have hp0 : (0 : Int) ≤ (ou : Int) + 1 := by omega
  have hp1 : (ou : Int) + 1 ≤ (xs.length : Int) := by omega
  have hp2 : ((ou : Int) + 1).toNat = ou + 1 := by omega
  have hl1 : Hid (ou = (xs.take ou).length) := show ou = (xs.take ou).length by rw [List.length_take]; omega
  have hl2 : Hid (xs.length - (ou + 1) = (xs.drop (ou + 1)).length) := show _ = _ by rw [List.length_drop]
  have hl3 : Hid ((xs.take ou).length + (xs.drop (ou + 1)).length ≤ 1000000) := show (xs.take ou).length + (xs.drop (ou + 1)).length ≤ 1000000 by rw [List.length_take, List.length_drop]; omega
  have hpre : Hid (∀ W, IsL (w.heap.size + 2) W (.slice (some ⟨g, 0, none⟩) xs.length cap) xs → IsL (w.heap.size + 2) W (.slice (some ⟨g, 0, none⟩) (xs.take ou).length (xs.take ou).length) (xs.take ou)) := by
    intro W hI
    by_cases h00 : ou = 0
    · subst h00; exact IsL.nil _ _ _ _
    · refine Or.inr ⟨g, 0, _, rfl, hg, by rw [List.length_take]; omega, Nat.le_refl _, fun j hj => ?_, fun hq j hj => hI.frz hq (by rw [List.length_take] at hj; omega)⟩
      rw [List.length_take] at hj
      rw [hI.at (by omega)]
      simp [List.getD, show j < ou by omega]
  clear hcap hrow F1 O1
  go_wp2_with fail
  go_region_law (first
    | (refine step_join (B := w.heap.size + 2) (c := cap - (ou + 1)) rfl (.tmp 67) (.tmp 71) rfl (by simp [Act.eval, Act.put]) (by simp [Act.eval, Act.put]) hl1.out hl2.out R0.out.fr.sz (hpre.out _ R0.out.kp) (hnews.out _ _ R0.out.kp) hl3.out ?_; intro v3 w3 hI hb3; have R3 : Hid (Rg w w3 o k x b (off + ou) z (.slice (some ⟨g, 0, none⟩) xs.length cap) xs) := R0.out.later hb3; have I3 : Hid (IsL (w.heap.size + 2) w3 v3 (xs.take ou ++ xs.drop (ou + 1))) := hI; have q3 := R3.out.cl; clear hI hb3)
    | (rw [if_pos (by rfl)]; go_simp; go_at_call 97; refine (said_is _ _ _).mono ?_; rintro e w4 ⟨rfl, hb4⟩; have R4 : Hid (Rg w w4 o k x b (off + ou) z (.slice (some ⟨g, 0, none⟩) xs.length cap) xs) := R3.out.later hb4; have I4 : Hid (IsL (w.heap.size + 2) w4 v3 (xs.take ou ++ xs.drop (ou + 1))) := I3.out.later hb4; have q4 := R4.out.cl; have s0 := R4.out.fr.r0; have s1 := R4.out.fr.r1; have s2 := R4.out.fr.f0; have s3 := R4.out.fr.f1; clear hb4; try dsimp only))
  all_goals go_wp2
  all_goals
    refine bodyPost_ret (v := .tuple #[v3, .agg #[.int .i64 1, .int .i64 z]]) ?_ rfl (R4.out.fr.made 1 z I4.out)
    have E := R4.out.fr.ends 1 z
    unfold wr at E
    simp [results, Tryz.results98, go_sem, E.1, E.2.1]

end Go.Proofs.YteogbpaaacmllaaGreatDoor
namespace Go.Proofs.YteogbpaaacmllaaGreatDoor
set_option maxRecDepth 20000
open Go.RowKit

set_option maxHeartbeats 1000000 in
theorem RQueue_out {B : Nat} {v : Value} {xs : List Int} {w : World} (k x : Int) (o : Int) (ho : ¬ (1 ≤ o ∧ o ≤ 6)) (h : IsL B w v xs) :
    Calls Tryz.prog 76 #[v, .agg #[.int .i64 o, .int .i64 k, .int .i64 x]] w (MadeR w v xs xs 5 0) := by
  have F0 : Hid (Fr w (two w o k x) o k x) := Fr.start w o k x
  have X : Hid (IsL B w v xs) := h
  clear h
  go_enter Tryz.func76, Tryz.ntmps76
  go_wp2_with fail
  refine (within_is _ _ _ _).mono ?_
  rintro e W ⟨rfl, hW⟩
  rw [hW]; clear hW W
  have hd : decide (1 ≤ o ∧ o ≤ 6) = false := decide_eq_false ho
  go_wp2_with fail
  refine (said_is _ _ _).mono ?_
  rintro e w2 ⟨rfl, hb⟩
  have hb' : Below (w.heap.size + 2) (two w o k x) w2 := by rw [← two_size w o k x]; exact hb
  have F2 : Hid (Fr w w2 o k x) := F0.out.later hb'
  clear hb hb' F0
  have r0 := F2.out.r0
  have r1 := F2.out.r1
  have f0 := F2.out.f0
  have f1 := F2.out.f1
  go_wp2
  have E := F2.out.ends 5 0
  refine bodyPost_ret (v := .tuple #[v, .agg #[.int .i64 5, .int .i64 0]]) ?_ rfl ⟨v, rfl, Or.inl ⟨rfl, rfl⟩, E.2.2⟩
  unfold wr at E
  simp [results, Tryz.results76, go_sem, E.1, E.2.1]

set_option maxHeartbeats 1000000 in
theorem RQueue_three {B : Nat} {v : Value} {xs : List Int} {w : World} (k x : Int) (h : IsL B w v xs) :
    Calls Tryz.prog 76 #[v, .agg #[.int .i64 3, .int .i64 k, .int .i64 x]] w (MadeR w v xs xs 5 0) := by
  have F0 : Hid (Fr w (two w 3 k x) 3 k x) := Fr.start w 3 k x
  have X : Hid (IsL B w v xs) := h
  clear h
  go_enter Tryz.func76, Tryz.ntmps76
  go_wp2_with fail
  refine (within_is _ _ _ _).mono ?_
  rintro e W ⟨rfl, hW⟩
  rw [hW]; clear hW W
  go_wp2_with fail
  refine (said_is _ _ _).mono ?_
  rintro e w2 ⟨rfl, hb⟩
  have hb' : Below (w.heap.size + 2) (two w 3 k x) w2 := by rw [← two_size w 3 k x]; exact hb
  have F2 : Hid (Fr w w2 3 k x) := F0.out.later hb'
  clear hb hb' F0
  have r0 := F2.out.r0
  have r1 := F2.out.r1
  have f0 := F2.out.f0
  have f1 := F2.out.f1
  go_wp2
  have E := F2.out.ends 5 0
  refine bodyPost_ret (v := .tuple #[v, .agg #[.int .i64 5, .int .i64 0]]) ?_ rfl ⟨v, rfl, Or.inl ⟨rfl, rfl⟩, E.2.2⟩
  unfold wr at E
  simp [results, Tryz.results76, go_sem, E.1, E.2.1]

set_option maxHeartbeats 1000000 in
theorem RQueue_four {B : Nat} {v : Value} {xs : List Int} {w : World} (k x : Int) (h : IsL B w v xs) :
    Calls Tryz.prog 76 #[v, .agg #[.int .i64 4, .int .i64 k, .int .i64 x]] w (MadeR w v xs xs 5 0) := by
  have F0 : Hid (Fr w (two w 4 k x) 4 k x) := Fr.start w 4 k x
  have X : Hid (IsL B w v xs) := h
  clear h
  go_enter Tryz.func76, Tryz.ntmps76
  go_wp2_with fail
  refine (within_is _ _ _ _).mono ?_
  rintro e W ⟨rfl, hW⟩
  rw [hW]; clear hW W
  go_wp2_with fail
  refine (said_is _ _ _).mono ?_
  rintro e w2 ⟨rfl, hb⟩
  have hb' : Below (w.heap.size + 2) (two w 4 k x) w2 := by rw [← two_size w 4 k x]; exact hb
  have F2 : Hid (Fr w w2 4 k x) := F0.out.later hb'
  clear hb hb' F0
  have r0 := F2.out.r0
  have r1 := F2.out.r1
  have f0 := F2.out.f0
  have f1 := F2.out.f1
  go_wp2
  have E := F2.out.ends 5 0
  refine bodyPost_ret (v := .tuple #[v, .agg #[.int .i64 5, .int .i64 0]]) ?_ rfl ⟨v, rfl, Or.inl ⟨rfl, rfl⟩, E.2.2⟩
  unfold wr at E
  simp [results, Tryz.results76, go_sem, E.1, E.2.1]

set_option maxHeartbeats 1000000 in
theorem RQueue_go {B : Nat} {v : Value} {xs ys : List Int} {w : World} {c y : Int} (o k x : Int) (h1 : 1 ≤ o) (h2 : o ≤ 6) (n3 : o ≠ 3) (n4 : o ≠ 4) (h : IsL B w v xs)
    (hE : ∀ W, IsL B W v xs → Calls Tryz.prog 98 #[v, .agg #[.int .i64 o, .int .i64 k, .int .i64 x], .bool false, .int .i64 0] W (Made W ys c y)) :
    Calls Tryz.prog 76 #[v, .agg #[.int .i64 o, .int .i64 k, .int .i64 x]] w (MadeR w v xs ys c y) := by
  have F0 : Hid (Fr w (two w o k x) o k x) := Fr.start w o k x
  have X : Hid (IsL B (two w o k x) v xs) := h.later F0.out.gr
  have HE : Hid (Calls Tryz.prog 98 #[v, .agg #[.int .i64 o, .int .i64 k, .int .i64 x], .bool false, .int .i64 0] (two w o k x) (Made (two w o k x) ys c y)) := hE _ X.out
  have hd : decide (1 ≤ o ∧ o ≤ 6) = true := decide_eq_true ⟨h1, h2⟩
  have n3' : (o == 3) = false := by simp [n3]
  have n4' : (o == 4) = false := by simp [n4]
  clear h hE
  go_enter Tryz.func76, Tryz.ntmps76
  go_wp2_with fail
  refine (within_is _ _ _ _).mono ?_
  rintro e W ⟨rfl, hW⟩
  rw [hW, hd]; clear hW W
  go_wp2_with fail
  refine HE.out.mono ?_
  rintro e w2 ⟨v2, rfl, hi, hb⟩
  rw [two_size] at hi hb
  have F2 : Hid (Fr w w2 o k x) := F0.out.later hb
  have I2 : Hid (IsL (w.heap.size + 2) w2 v2 ys) := hi
  clear hi hb F0 HE X hd
  have r0 := F2.out.r0
  have r1 := F2.out.r1
  have f0 := F2.out.f0
  have f1 := F2.out.f1
  go_wp2
  have E := F2.out.ends c y
  refine bodyPost_ret (v := .tuple #[v2, .agg #[.int .i64 c, .int .i64 y]]) ?_ rfl ⟨v2, rfl, Or.inr ((I2.out.wr c y).mono (by omega)), E.2.2⟩
  unfold wr at E
  simp [results, Tryz.results76, go_sem, E.1, E.2.1]

set_option maxHeartbeats 1000000 in
theorem RStack_out {B : Nat} {v : Value} {xs : List Int} {w : World} (k x : Int) (o : Int) (ho : ¬ (1 ≤ o ∧ o ≤ 6)) (h : IsL B w v xs) :
    Calls Tryz.prog 77 #[v, .agg #[.int .i64 o, .int .i64 k, .int .i64 x]] w (MadeR w v xs xs 5 0) := by
  have F0 : Hid (Fr w (two w o k x) o k x) := Fr.start w o k x
  have X : Hid (IsL B w v xs) := h
  clear h
  go_enter Tryz.func77, Tryz.ntmps77
  go_wp2_with fail
  refine (within_is _ _ _ _).mono ?_
  rintro e W ⟨rfl, hW⟩
  rw [hW]; clear hW W
  have hd : decide (1 ≤ o ∧ o ≤ 6) = false := decide_eq_false ho
  go_wp2_with fail
  refine (said_is _ _ _).mono ?_
  rintro e w2 ⟨rfl, hb⟩
  have hb' : Below (w.heap.size + 2) (two w o k x) w2 := by rw [← two_size w o k x]; exact hb
  have F2 : Hid (Fr w w2 o k x) := F0.out.later hb'
  clear hb hb' F0
  have r0 := F2.out.r0
  have r1 := F2.out.r1
  have f0 := F2.out.f0
  have f1 := F2.out.f1
  go_wp2
  have E := F2.out.ends 5 0
  refine bodyPost_ret (v := .tuple #[v, .agg #[.int .i64 5, .int .i64 0]]) ?_ rfl ⟨v, rfl, Or.inl ⟨rfl, rfl⟩, E.2.2⟩
  unfold wr at E
  simp [results, Tryz.results77, go_sem, E.1, E.2.1]

set_option maxHeartbeats 1000000 in
theorem RStack_three {B : Nat} {v : Value} {xs : List Int} {w : World} (k x : Int) (h : IsL B w v xs) :
    Calls Tryz.prog 77 #[v, .agg #[.int .i64 3, .int .i64 k, .int .i64 x]] w (MadeR w v xs xs 5 0) := by
  have F0 : Hid (Fr w (two w 3 k x) 3 k x) := Fr.start w 3 k x
  have X : Hid (IsL B w v xs) := h
  clear h
  go_enter Tryz.func77, Tryz.ntmps77
  go_wp2_with fail
  refine (within_is _ _ _ _).mono ?_
  rintro e W ⟨rfl, hW⟩
  rw [hW]; clear hW W
  go_wp2_with fail
  refine (said_is _ _ _).mono ?_
  rintro e w2 ⟨rfl, hb⟩
  have hb' : Below (w.heap.size + 2) (two w 3 k x) w2 := by rw [← two_size w 3 k x]; exact hb
  have F2 : Hid (Fr w w2 3 k x) := F0.out.later hb'
  clear hb hb' F0
  have r0 := F2.out.r0
  have r1 := F2.out.r1
  have f0 := F2.out.f0
  have f1 := F2.out.f1
  go_wp2
  have E := F2.out.ends 5 0
  refine bodyPost_ret (v := .tuple #[v, .agg #[.int .i64 5, .int .i64 0]]) ?_ rfl ⟨v, rfl, Or.inl ⟨rfl, rfl⟩, E.2.2⟩
  unfold wr at E
  simp [results, Tryz.results77, go_sem, E.1, E.2.1]

set_option maxHeartbeats 1000000 in
theorem RStack_four {B : Nat} {v : Value} {xs : List Int} {w : World} (k x : Int) (h : IsL B w v xs) :
    Calls Tryz.prog 77 #[v, .agg #[.int .i64 4, .int .i64 k, .int .i64 x]] w (MadeR w v xs xs 5 0) := by
  have F0 : Hid (Fr w (two w 4 k x) 4 k x) := Fr.start w 4 k x
  have X : Hid (IsL B w v xs) := h
  clear h
  go_enter Tryz.func77, Tryz.ntmps77
  go_wp2_with fail
  refine (within_is _ _ _ _).mono ?_
  rintro e W ⟨rfl, hW⟩
  rw [hW]; clear hW W
  go_wp2_with fail
  refine (said_is _ _ _).mono ?_
  rintro e w2 ⟨rfl, hb⟩
  have hb' : Below (w.heap.size + 2) (two w 4 k x) w2 := by rw [← two_size w 4 k x]; exact hb
  have F2 : Hid (Fr w w2 4 k x) := F0.out.later hb'
  clear hb hb' F0
  have r0 := F2.out.r0
  have r1 := F2.out.r1
  have f0 := F2.out.f0
  have f1 := F2.out.f1
  go_wp2
  have E := F2.out.ends 5 0
  refine bodyPost_ret (v := .tuple #[v, .agg #[.int .i64 5, .int .i64 0]]) ?_ rfl ⟨v, rfl, Or.inl ⟨rfl, rfl⟩, E.2.2⟩
  unfold wr at E
  simp [results, Tryz.results77, go_sem, E.1, E.2.1]

set_option maxHeartbeats 1000000 in
theorem RStack_go {B : Nat} {v : Value} {xs ys : List Int} {w : World} {c y : Int} (o k x ou : Int) (h1 : 1 ≤ o) (h2 : o ≤ 6) (n3 : o ≠ 3) (n4 : o ≠ 4) (hou : (xs.length : Int) - 1 = ou) (hx : xs.length ≤ 60) (h : IsL B w v xs)
    (hE : ∀ W, IsL B W v xs → Calls Tryz.prog 98 #[v, .agg #[.int .i64 o, .int .i64 k, .int .i64 x], .bool false, .int .i64 ou] W (Made W ys c y)) :
    Calls Tryz.prog 77 #[v, .agg #[.int .i64 o, .int .i64 k, .int .i64 x]] w (MadeR w v xs ys c y) := by
  have F0 : Hid (Fr w (two w o k x) o k x) := Fr.start w o k x
  have X : Hid (IsL B (two w o k x) v xs) := h.later F0.out.gr
  obtain ⟨a, cp, rfl⟩ := h.form
  have hl60 : xs.length ≤ 60 := hx
  have HE : Hid (Calls Tryz.prog 98 #[(.slice a xs.length cp), .agg #[.int .i64 o, .int .i64 k, .int .i64 x], .bool false, .int .i64 ou] (two w o k x) (Made (two w o k x) ys c y)) := hE _ X.out
  have hd : decide (1 ≤ o ∧ o ≤ 6) = true := decide_eq_true ⟨h1, h2⟩
  have n3' : (o == 3) = false := by simp [n3]
  have n4' : (o == 4) = false := by simp [n4]
  clear h hE
  go_enter Tryz.func77, Tryz.ntmps77
  go_wp2_with fail
  refine (within_is _ _ _ _).mono ?_
  rintro e W ⟨rfl, hW⟩
  rw [hW, hd]; clear hW W
  go_wp2_with fail
  refine HE.out.mono ?_
  rintro e w2 ⟨v2, rfl, hi, hb⟩
  rw [two_size] at hi hb
  have F2 : Hid (Fr w w2 o k x) := F0.out.later hb
  have I2 : Hid (IsL (w.heap.size + 2) w2 v2 ys) := hi
  clear hi hb F0 HE X hd
  have r0 := F2.out.r0
  have r1 := F2.out.r1
  have f0 := F2.out.f0
  have f1 := F2.out.f1
  go_wp2
  have E := F2.out.ends c y
  refine bodyPost_ret (v := .tuple #[v2, .agg #[.int .i64 c, .int .i64 y]]) ?_ rfl ⟨v2, rfl, Or.inr ((I2.out.wr c y).mono (by omega)), E.2.2⟩
  unfold wr at E
  simp [results, Tryz.results77, go_sem, E.1, E.2.1]

theorem RQueue_eq {B : Nat} {v : Value} {xs ys : List Int} {w : World} {o x c y : Int} (k : Int) (h : IsL B w v xs) (hx : xs.length ≤ 60) (hq : qdo xs o x = (ys, c, y)) :
    Calls Tryz.prog 76 #[v, .agg #[.int .i64 o, .int .i64 k, .int .i64 x]] w (MadeR w v xs ys c y) := by
  by_cases hr : 1 ≤ o ∧ o ≤ 6
  · by_cases n3 : o = 3
    · subst n3
      simp [qdo] at hq
      obtain ⟨rfl, rfl, rfl⟩ := hq
      exact RQueue_three k x h
    by_cases n4 : o = 4
    · subst n4
      simp [qdo] at hq
      obtain ⟨rfl, rfl, rfl⟩ := hq
      exact RQueue_four k x h
    refine RQueue_go o k x hr.1 hr.2 n3 n4 h fun W hW => ?_
    by_cases n1 : o = 1
    · subst n1
      by_cases h6 : 6 ≤ xs.length
      · simp [qdo, h6] at hq
        obtain ⟨rfl, rfl, rfl⟩ := hq
        exact ends_full k x 0 h6 hW hx
      · simp [qdo, h6] at hq
        obtain ⟨rfl, rfl, rfl⟩ := hq
        exact ends_put k x 0 (by omega) hW hx
    by_cases n6 : o = 6
    · subst n6
      simp [qdo] at hq
      obtain ⟨rfl, rfl, rfl⟩ := hq
      exact ends_count k x 0 hW hx
    cases xs with
    | nil =>
      have : o = 2 ∨ o = 5 := by omega
      rcases this with rfl | rfl
      · simp [qdo] at hq; obtain ⟨rfl, rfl, rfl⟩ := hq; exact ends_none k x 2 0 (by decide) (by decide) (by decide) hW hx
      · simp [qdo] at hq; obtain ⟨rfl, rfl, rfl⟩ := hq; exact ends_none k x 5 0 (by decide) (by decide) (by decide) hW hx
    | cons z r =>
      have : o = 2 ∨ o = 5 := by omega
      rcases this with rfl | rfl
      · simp [qdo] at hq
        obtain ⟨rfl, rfl, rfl⟩ := hq
        exact ends_take (xs := z :: r) (ou := 0) (z := z) k x 2 (by decide) (by decide) (by decide) (by decide) (by simp) rfl hW hx
      · simp [qdo] at hq
        obtain ⟨rfl, rfl, rfl⟩ := hq
        exact ends_peek (xs := z :: r) (ou := 0) (z := z) k x (by simp) rfl hW hx
  · have e : qdo xs o x = (xs, 5, 0) := by simp [qdo, show o ≠ 1 by omega, show o ≠ 2 by omega, show o ≠ 5 by omega, show o ≠ 6 by omega]
    rw [e] at hq
    simp only [Prod.mk.injEq] at hq
    obtain ⟨rfl, rfl, rfl⟩ := hq
    exact RQueue_out k x o hr h

theorem RStack_eq {B : Nat} {v : Value} {xs ys : List Int} {w : World} {o x c y : Int} (k : Int) (h : IsL B w v xs) (hx : xs.length ≤ 60) (hq : sdo xs o x = (ys, c, y)) :
    Calls Tryz.prog 77 #[v, .agg #[.int .i64 o, .int .i64 k, .int .i64 x]] w (MadeR w v xs ys c y) := by
  by_cases hr : 1 ≤ o ∧ o ≤ 6
  · by_cases n3 : o = 3
    · subst n3
      simp [sdo, qdo] at hq
      obtain ⟨rfl, rfl, rfl⟩ := hq
      exact RStack_three k x h
    by_cases n4 : o = 4
    · subst n4
      simp [sdo, qdo] at hq
      obtain ⟨rfl, rfl, rfl⟩ := hq
      exact RStack_four k x h
    refine RStack_go o k x ((xs.length : Int) - 1) hr.1 hr.2 n3 n4 rfl hx h fun W hW => ?_
    by_cases n1 : o = 1
    · subst n1
      by_cases h6 : 6 ≤ xs.length
      · simp [sdo, qdo, h6] at hq
        obtain ⟨rfl, rfl, rfl⟩ := hq
        exact ends_full k x _ h6 hW hx
      · simp [sdo, qdo, h6] at hq
        obtain ⟨rfl, rfl, rfl⟩ := hq
        exact ends_put k x _ (by omega) hW hx
    by_cases n6 : o = 6
    · subst n6
      simp [sdo, qdo] at hq
      obtain ⟨rfl, rfl, rfl⟩ := hq
      exact ends_count k x _ hW hx
    rcases List.eq_nil_or_concat xs with rfl | ⟨r, z, rfl⟩
    · have : o = 2 ∨ o = 5 := by omega
      rcases this with rfl | rfl
      · simp [sdo, qdo] at hq; obtain ⟨rfl, rfl, rfl⟩ := hq; exact ends_none k x 2 _ (by decide) (by decide) (by decide) hW hx
      · simp [sdo, qdo] at hq; obtain ⟨rfl, rfl, rfl⟩ := hq; exact ends_none k x 5 _ (by decide) (by decide) (by decide) hW hx
    · rw [List.concat_eq_append] at hq hW hx ⊢
      have e : (((r ++ [z]).length : Nat) : Int) - 1 = (r.length : Nat) := by simp
      have hz : (r ++ [z]).getD r.length 0 = z := by simp [List.getD]
      have hlt : r.length < (r ++ [z]).length := by simp
      rw [e]
      have : o = 2 ∨ o = 5 := by omega
      rcases this with rfl | rfl
      · rw [sdo_take] at hq
        simp only [Prod.mk.injEq] at hq
        obtain ⟨rfl, rfl, rfl⟩ := hq
        have t := ends_take (ou := r.length) (z := z) k x 2 (by decide) (by decide) (by decide) (by decide) hlt hz hW hx
        have e2 : (r ++ [z]).take r.length ++ (r ++ [z]).drop (r.length + 1) = r := by simp
        rw [e2] at t
        exact t
      · rw [sdo_peek] at hq
        simp only [Prod.mk.injEq] at hq
        obtain ⟨rfl, rfl, rfl⟩ := hq
        exact ends_peek (ou := r.length) (z := z) k x hlt hz hW hx
  · have e : sdo xs o x = (xs, 5, 0) := by simp [sdo, qdo, show o ≠ 1 by omega, show o ≠ 2 by omega, show o ≠ 5 by omega, show o ≠ 6 by omega]
    rw [e] at hq
    simp only [Prod.mk.injEq] at hq
    obtain ⟨rfl, rfl, rfl⟩ := hq
    exact RStack_out k x o hr h

end Go.Proofs.YteogbpaaacmllaaGreatDoor
namespace Go.Proofs.YteogbpaaacmllaaGreatDoor
set_option maxRecDepth 20000

theorem ddo_else (xs : List Int) (o x : Int) (h3 : o ≠ 3) (h4 : o ≠ 4) : ddo xs o x = qdo xs o x := by simp [ddo, h3, h4]
theorem ddo_back (xs : List Int) (x : Int) : ddo xs 4 x = sdo xs 2 0 := by simp [ddo]
theorem ddo_full {ys : List Int} (x : Int) (h : 6 ≤ ys.length) : ddo ys 1 x = (ys, 3, 0) := by simp [ddo, qdo, h]
theorem ddo_put {ys : List Int} (x : Int) (h : ys.length < 6) : ddo ys 1 x = (ys ++ [x], 1, 0) := by simp [ddo, qdo, show ¬ 6 ≤ ys.length by omega]
theorem ddo_ffull {ys : List Int} (x : Int) (h : 6 ≤ ys.length) : ddo ys 3 x = (ys, 3, 0) := by simp [ddo, h]
theorem ddo_front {ys : List Int} (x : Int) (h : ys.length < 6) : ddo ys 3 x = (x :: ys, 1, 0) := by simp [ddo, show ¬ 6 ≤ ys.length by omega]
end Go.Proofs.YteogbpaaacmllaaGreatDoor
namespace Go.Proofs.YteogbpaaacmllaaGreatDoor
set_option maxRecDepth 20000
open Go.RowKit

set_option maxHeartbeats 1000000 in
theorem RDeque_out {B : Nat} {v : Value} {xs : List Int} {w : World} (k x : Int) (o : Int) (ho : ¬ (1 ≤ o ∧ o ≤ 6)) (h : IsL B w v xs) :
    Calls Tryz.prog 78 #[v, .agg #[.int .i64 o, .int .i64 k, .int .i64 x]] w (MadeR w v xs xs 5 0) := by
  have F0 : Hid (Fr w (two w o k x) o k x) := Fr.start w o k x
  have X : Hid (IsL B w v xs) := h
  clear h
  go_enter Tryz.func78, Tryz.ntmps78
  go_wp2_with fail
  refine (within_is _ _ _ _).mono ?_
  rintro e W ⟨rfl, hW⟩
  rw [hW]; clear hW W
  have hd : decide (1 ≤ o ∧ o ≤ 6) = false := decide_eq_false ho
  go_wp2_with fail
  refine (said_is _ _ _).mono ?_
  rintro e w2 ⟨rfl, hb⟩
  have hb' : Below (w.heap.size + 2) (two w o k x) w2 := by rw [← two_size w o k x]; exact hb
  have F2 : Hid (Fr w w2 o k x) := F0.out.later hb'
  clear hb hb' F0
  have r0 := F2.out.r0
  have r1 := F2.out.r1
  have f0 := F2.out.f0
  have f1 := F2.out.f1
  go_wp2
  have E := F2.out.ends 5 0
  refine bodyPost_ret (v := .tuple #[v, .agg #[.int .i64 5, .int .i64 0]]) ?_ rfl ⟨v, rfl, Or.inl ⟨rfl, rfl⟩, E.2.2⟩
  unfold wr at E
  simp [results, Tryz.results78, go_sem, E.1, E.2.1]

set_option maxHeartbeats 1000000 in
theorem RDeque_back {B : Nat} {v : Value} {xs ys : List Int} {w : World} {c y : Int} (k x ou : Int) (hou : (xs.length : Int) - 1 = ou) (hx : xs.length ≤ 60) (h : IsL B w v xs)
    (hE : ∀ W, IsL B W v xs → Calls Tryz.prog 98 #[v, .agg #[.int .i64 4, .int .i64 k, .int .i64 x], .bool false, .int .i64 ou] W (Made W ys c y)) :
    Calls Tryz.prog 78 #[v, .agg #[.int .i64 4, .int .i64 k, .int .i64 x]] w (MadeR w v xs ys c y) := by
  have F0 : Hid (Fr w (two w 4 k x) 4 k x) := Fr.start w 4 k x
  have X : Hid (IsL B (two w 4 k x) v xs) := h.later F0.out.gr
  obtain ⟨a, cp, rfl⟩ := h.form
  have hl60 : xs.length ≤ 60 := hx
  have HE : Hid (Calls Tryz.prog 98 #[(.slice a xs.length cp), .agg #[.int .i64 4, .int .i64 k, .int .i64 x], .bool false, .int .i64 ou] (two w 4 k x) (Made (two w 4 k x) ys c y)) := hE _ X.out
  have hd : decide ((1 : Int) ≤ 4 ∧ (4 : Int) ≤ 6) = true := decide_eq_true (by decide)
  clear h hE
  go_enter Tryz.func78, Tryz.ntmps78
  go_wp2_with fail
  refine (within_is _ _ _ _).mono ?_
  rintro e W ⟨rfl, hW⟩
  rw [hW, hd]; clear hW W
  go_wp2_with fail
  refine HE.out.mono ?_
  rintro e w2 ⟨v2, rfl, hi, hb⟩
  rw [two_size] at hi hb
  have F2 : Hid (Fr w w2 4 k x) := F0.out.later hb
  have I2 : Hid (IsL (w.heap.size + 2) w2 v2 ys) := hi
  clear hi hb F0 HE X hd
  have r0 := F2.out.r0
  have r1 := F2.out.r1
  have f0 := F2.out.f0
  have f1 := F2.out.f1
  go_wp2
  have E := F2.out.ends c y
  refine bodyPost_ret (v := .tuple #[v2, .agg #[.int .i64 c, .int .i64 y]]) ?_ rfl ⟨v2, rfl, Or.inr ((I2.out.wr c y).mono (by omega)), E.2.2⟩
  unfold wr at E
  simp [results, Tryz.results78, go_sem, E.1, E.2.1]

set_option maxHeartbeats 1000000 in
theorem RDeque_front {B : Nat} {v : Value} {xs ys : List Int} {w : World} {c y : Int} (k x : Int) (h : IsL B w v xs)
    (hE : ∀ W, IsL B W v xs → Calls Tryz.prog 98 #[v, .agg #[.int .i64 3, .int .i64 k, .int .i64 x], .bool true, .int .i64 0] W (Made W ys c y)) :
    Calls Tryz.prog 78 #[v, .agg #[.int .i64 3, .int .i64 k, .int .i64 x]] w (MadeR w v xs ys c y) := by
  have F0 : Hid (Fr w (two w 3 k x) 3 k x) := Fr.start w 3 k x
  have X : Hid (IsL B (two w 3 k x) v xs) := h.later F0.out.gr
  have HE : Hid (Calls Tryz.prog 98 #[v, .agg #[.int .i64 3, .int .i64 k, .int .i64 x], .bool true, .int .i64 0] (two w 3 k x) (Made (two w 3 k x) ys c y)) := hE _ X.out
  have hd : decide ((1 : Int) ≤ 3 ∧ (3 : Int) ≤ 6) = true := decide_eq_true (by decide)
  clear h hE
  go_enter Tryz.func78, Tryz.ntmps78
  go_wp2_with fail
  refine (within_is _ _ _ _).mono ?_
  rintro e W ⟨rfl, hW⟩
  rw [hW, hd]; clear hW W
  go_wp2_with fail
  refine HE.out.mono ?_
  rintro e w2 ⟨v2, rfl, hi, hb⟩
  rw [two_size] at hi hb
  have F2 : Hid (Fr w w2 3 k x) := F0.out.later hb
  have I2 : Hid (IsL (w.heap.size + 2) w2 v2 ys) := hi
  clear hi hb F0 HE X hd
  have r0 := F2.out.r0
  have r1 := F2.out.r1
  have f0 := F2.out.f0
  have f1 := F2.out.f1
  go_wp2
  have E := F2.out.ends c y
  refine bodyPost_ret (v := .tuple #[v2, .agg #[.int .i64 c, .int .i64 y]]) ?_ rfl ⟨v2, rfl, Or.inr ((I2.out.wr c y).mono (by omega)), E.2.2⟩
  unfold wr at E
  simp [results, Tryz.results78, go_sem, E.1, E.2.1]

set_option maxHeartbeats 1000000 in
theorem RDeque_else {B : Nat} {v : Value} {xs ys : List Int} {w : World} {c y : Int} (o k x : Int) (h1 : 1 ≤ o) (h2 : o ≤ 6) (n3 : o ≠ 3) (n4 : o ≠ 4) (h : IsL B w v xs)
    (hE : ∀ W, IsL B W v xs → Calls Tryz.prog 98 #[v, .agg #[.int .i64 o, .int .i64 k, .int .i64 x], .bool false, .int .i64 0] W (Made W ys c y)) :
    Calls Tryz.prog 78 #[v, .agg #[.int .i64 o, .int .i64 k, .int .i64 x]] w (MadeR w v xs ys c y) := by
  have F0 : Hid (Fr w (two w o k x) o k x) := Fr.start w o k x
  have X : Hid (IsL B (two w o k x) v xs) := h.later F0.out.gr
  have HE : Hid (Calls Tryz.prog 98 #[v, .agg #[.int .i64 o, .int .i64 k, .int .i64 x], .bool false, .int .i64 0] (two w o k x) (Made (two w o k x) ys c y)) := hE _ X.out
  have hd : decide ((1 : Int) ≤ o ∧ (o : Int) ≤ 6) = true := decide_eq_true ⟨h1, h2⟩
  have n3' : (o == 3) = false := by simp [n3]
  have n4' : (o == 4) = false := by simp [n4]
  clear h hE
  go_enter Tryz.func78, Tryz.ntmps78
  go_wp2_with fail
  refine (within_is _ _ _ _).mono ?_
  rintro e W ⟨rfl, hW⟩
  rw [hW, hd]; clear hW W
  go_wp2_with fail
  refine HE.out.mono ?_
  rintro e w2 ⟨v2, rfl, hi, hb⟩
  rw [two_size] at hi hb
  have F2 : Hid (Fr w w2 o k x) := F0.out.later hb
  have I2 : Hid (IsL (w.heap.size + 2) w2 v2 ys) := hi
  clear hi hb F0 HE X hd
  have r0 := F2.out.r0
  have r1 := F2.out.r1
  have f0 := F2.out.f0
  have f1 := F2.out.f1
  go_wp2
  have E := F2.out.ends c y
  refine bodyPost_ret (v := .tuple #[v2, .agg #[.int .i64 c, .int .i64 y]]) ?_ rfl ⟨v2, rfl, Or.inr ((I2.out.wr c y).mono (by omega)), E.2.2⟩
  unfold wr at E
  simp [results, Tryz.results78, go_sem, E.1, E.2.1]

theorem RDeque_eq {B : Nat} {v : Value} {xs ys : List Int} {w : World} {o x c y : Int} (k : Int) (h : IsL B w v xs) (hx : xs.length ≤ 60) (hq : ddo xs o x = (ys, c, y)) :
    Calls Tryz.prog 78 #[v, .agg #[.int .i64 o, .int .i64 k, .int .i64 x]] w (MadeR w v xs ys c y) := by
  by_cases hr : 1 ≤ o ∧ o ≤ 6
  · by_cases n3 : o = 3
    · subst n3
      refine RDeque_front k x h fun W hW => ?_
      by_cases h6 : 6 ≤ xs.length
      · rw [ddo_ffull x h6] at hq
        simp only [Prod.mk.injEq] at hq
        obtain ⟨rfl, rfl, rfl⟩ := hq
        exact ends_ffull k x 0 h6 hW hx
      · rw [ddo_front x (by omega)] at hq
        simp only [Prod.mk.injEq] at hq
        obtain ⟨rfl, rfl, rfl⟩ := hq
        exact ends_front k x 0 (by omega) hW hx
    by_cases n4 : o = 4
    · subst n4
      rw [ddo_back] at hq
      rcases List.eq_nil_or_concat xs with rfl | ⟨r, z, rfl⟩
      · refine RDeque_back k x (-1) (by simp) hx h fun W hW => ?_
        simp [sdo, qdo] at hq
        obtain ⟨rfl, rfl, rfl⟩ := hq
        exact ends_none k x 4 (-1) (by decide) (by decide) (by decide) hW hx
      · rw [List.concat_eq_append] at h hx hq ⊢
        rw [sdo_take] at hq
        simp only [Prod.mk.injEq] at hq
        obtain ⟨rfl, rfl, rfl⟩ := hq
        refine RDeque_back k x (r.length : Nat) (by simp) hx h fun W hW => ?_
        have e := ends_take (xs := r ++ [z]) (ou := r.length) (z := z) k x 4 (by decide) (by decide) (by decide) (by decide) (by simp) (by simp [List.getD]) hW hx
        rwa [List.take_left, List.drop_eq_nil_of_le (by simp), List.append_nil] at e
    rw [ddo_else xs o x n3 n4] at hq
    refine RDeque_else o k x hr.1 hr.2 n3 n4 h fun W hW => ?_
    by_cases n1 : o = 1
    · subst n1
      by_cases h6 : 6 ≤ xs.length
      · simp [qdo, h6] at hq
        obtain ⟨rfl, rfl, rfl⟩ := hq
        exact ends_full k x 0 h6 hW hx
      · simp [qdo, h6] at hq
        obtain ⟨rfl, rfl, rfl⟩ := hq
        exact ends_put k x 0 (by omega) hW hx
    by_cases n6 : o = 6
    · subst n6
      simp [qdo] at hq
      obtain ⟨rfl, rfl, rfl⟩ := hq
      exact ends_count k x 0 hW hx
    cases xs with
    | nil =>
      have : o = 2 ∨ o = 5 := by omega
      rcases this with rfl | rfl
      · simp [qdo] at hq; obtain ⟨rfl, rfl, rfl⟩ := hq; exact ends_none k x 2 0 (by decide) (by decide) (by decide) hW hx
      · simp [qdo] at hq; obtain ⟨rfl, rfl, rfl⟩ := hq; exact ends_none k x 5 0 (by decide) (by decide) (by decide) hW hx
    | cons z r =>
      have : o = 2 ∨ o = 5 := by omega
      rcases this with rfl | rfl
      · simp [qdo] at hq
        obtain ⟨rfl, rfl, rfl⟩ := hq
        exact ends_take (xs := z :: r) (ou := 0) (z := z) k x 2 (by decide) (by decide) (by decide) (by decide) (by simp) rfl hW hx
      · simp [qdo] at hq
        obtain ⟨rfl, rfl, rfl⟩ := hq
        exact ends_peek (xs := z :: r) (ou := 0) (z := z) k x (by simp) rfl hW hx
  · have e : ddo xs o x = (xs, 5, 0) := by simp [ddo, qdo, show o ≠ 1 by omega, show o ≠ 2 by omega, show o ≠ 3 by omega, show o ≠ 4 by omega, show o ≠ 5 by omega, show o ≠ 6 by omega]
    rw [e] at hq
    simp only [Prod.mk.injEq] at hq
    obtain ⟨rfl, rfl, rfl⟩ := hq
    exact RDeque_out k x o hr h

end Go.Proofs.YteogbpaaacmllaaGreatDoor
namespace Go.Proofs.YteogbpaaacmllaaGreatDoor
set_option maxRecDepth 20000
open Go.RowKit

set_option maxRecDepth 20000 in
set_option maxHeartbeats 2000000 in
theorem RHeap_out {B : Nat} {v : Value} {xs : List Int} {w : World} (k x : Int) (o : Int) (ho : ¬ (1 ≤ o ∧ o ≤ 6)) (h : IsL B w v xs) (hx : xs.length ≤ 60) :
    Calls Tryz.prog 79 #[v, .agg #[.int .i64 o, .int .i64 k, .int .i64 x]] w (MadeN w xs 5 0) := by
  have F0 : Hid (Fr w (two w o k x) o k x) := Fr.start w o k x
  have X : Hid (IsL B (two w o k x) v xs) := h.later F0.out.gr
  have HX : Hid (xs.length ≤ 1000000) := Nat.le_trans hx (by decide)
  obtain ⟨av, cv, rfl⟩ := h.form
  clear h
  have hd : decide (1 ≤ o ∧ o ≤ 6) = false := decide_eq_false ho
  go_enter Tryz.func79, Tryz.ntmps79
  go_wp2_with (at_builtin; refine wpList_copy rfl rfl (.const (.slice none 0 0)) (.tmp 14) rfl rfl rfl X.out HX.out ?_)
  intro v1 w1 hown hb
  have hown' : Own (w.heap.size + 2) w1 v1 xs := hown
  have hb' : Below (w.heap.size + 2) (two w o k x) w1 := hb
  have F1 : Hid (Fr w w1 o k x) := F0.out.later hb'
  have O1 : Hid (Own (w.heap.size + 2) w1 v1 xs) := hown'
  clear hown hb hown' hb' F0 X
  have o0 := F1.out.o0
  have o1 := F1.out.o1
  have o2 := F1.out.o2
  have r0 := F1.out.r0
  have r1 := F1.out.r1
  have f0 := F1.out.f0
  have f1 := F1.out.f1
  go_wp2_with fail
  refine (within_is _ _ _ _).mono ?_
  rintro e W ⟨rfl, hW⟩
  rw [hW, hd]; clear hW W
  go_wp2_with fail
  refine (said_is _ _ _).mono ?_
  rintro e w2 ⟨rfl, hb⟩
  have F2 : Hid (Fr w w2 o k x) := F1.out.later (hb.mono F1.out.sz)
  have I2 : Hid (IsL (w.heap.size + 2) w2 v1 xs) := O1.out.isL.later hb
  clear hb F1 O1 o0 o1 o2 r0 r1 f0 f1
  have r0 := F2.out.r0
  have r1 := F2.out.r1
  have f0 := F2.out.f0
  have f1 := F2.out.f1
  go_wp2
  have E := F2.out.ends 5 0
  refine bodyPost_ret (v := .tuple #[v1, .agg #[.int .i64 5, .int .i64 0]]) ?_ rfl ⟨v1, rfl, (I2.out.wr 5 0).mono (by omega), E.2.2⟩
  unfold wr at E
  simp [results, Tryz.results79, go_sem, E.1, E.2.1]

set_option maxRecDepth 20000 in
set_option maxHeartbeats 2000000 in
theorem RHeap_three {B : Nat} {v : Value} {xs : List Int} {w : World} (k x : Int) (h : IsL B w v xs) (hx : xs.length ≤ 60) :
    Calls Tryz.prog 79 #[v, .agg #[.int .i64 3, .int .i64 k, .int .i64 x]] w (MadeN w xs 5 0) := by
  have F0 : Hid (Fr w (two w 3 k x) 3 k x) := Fr.start w 3 k x
  have X : Hid (IsL B (two w 3 k x) v xs) := h.later F0.out.gr
  have HX : Hid (xs.length ≤ 1000000) := Nat.le_trans hx (by decide)
  obtain ⟨av, cv, rfl⟩ := h.form
  clear h
  go_enter Tryz.func79, Tryz.ntmps79
  go_wp2_with (at_builtin; refine wpList_copy rfl rfl (.const (.slice none 0 0)) (.tmp 14) rfl rfl rfl X.out HX.out ?_)
  intro v1 w1 hown hb
  have hown' : Own (w.heap.size + 2) w1 v1 xs := hown
  have hb' : Below (w.heap.size + 2) (two w 3 k x) w1 := hb
  have F1 : Hid (Fr w w1 3 k x) := F0.out.later hb'
  have O1 : Hid (Own (w.heap.size + 2) w1 v1 xs) := hown'
  clear hown hb hown' hb' F0 X
  have o0 := F1.out.o0
  have o1 := F1.out.o1
  have o2 := F1.out.o2
  have r0 := F1.out.r0
  have r1 := F1.out.r1
  have f0 := F1.out.f0
  have f1 := F1.out.f1
  go_wp2_with fail
  refine (within_is _ _ _ _).mono ?_
  rintro e W ⟨rfl, hW⟩
  rw [hW]; clear hW W
  go_wp2_with fail
  refine (said_is _ _ _).mono ?_
  rintro e w2 ⟨rfl, hb⟩
  have F2 : Hid (Fr w w2 3 k x) := F1.out.later (hb.mono F1.out.sz)
  have I2 : Hid (IsL (w.heap.size + 2) w2 v1 xs) := O1.out.isL.later hb
  clear hb F1 O1 o0 o1 o2 r0 r1 f0 f1
  have r0 := F2.out.r0
  have r1 := F2.out.r1
  have f0 := F2.out.f0
  have f1 := F2.out.f1
  go_wp2
  have E := F2.out.ends 5 0
  refine bodyPost_ret (v := .tuple #[v1, .agg #[.int .i64 5, .int .i64 0]]) ?_ rfl ⟨v1, rfl, (I2.out.wr 5 0).mono (by omega), E.2.2⟩
  unfold wr at E
  simp [results, Tryz.results79, go_sem, E.1, E.2.1]

set_option maxRecDepth 20000 in
set_option maxHeartbeats 2000000 in
theorem RHeap_four {B : Nat} {v : Value} {xs : List Int} {w : World} (k x : Int) (h : IsL B w v xs) (hx : xs.length ≤ 60) :
    Calls Tryz.prog 79 #[v, .agg #[.int .i64 4, .int .i64 k, .int .i64 x]] w (MadeN w xs 5 0) := by
  have F0 : Hid (Fr w (two w 4 k x) 4 k x) := Fr.start w 4 k x
  have X : Hid (IsL B (two w 4 k x) v xs) := h.later F0.out.gr
  have HX : Hid (xs.length ≤ 1000000) := Nat.le_trans hx (by decide)
  obtain ⟨av, cv, rfl⟩ := h.form
  clear h
  go_enter Tryz.func79, Tryz.ntmps79
  go_wp2_with (at_builtin; refine wpList_copy rfl rfl (.const (.slice none 0 0)) (.tmp 14) rfl rfl rfl X.out HX.out ?_)
  intro v1 w1 hown hb
  have hown' : Own (w.heap.size + 2) w1 v1 xs := hown
  have hb' : Below (w.heap.size + 2) (two w 4 k x) w1 := hb
  have F1 : Hid (Fr w w1 4 k x) := F0.out.later hb'
  have O1 : Hid (Own (w.heap.size + 2) w1 v1 xs) := hown'
  clear hown hb hown' hb' F0 X
  have o0 := F1.out.o0
  have o1 := F1.out.o1
  have o2 := F1.out.o2
  have r0 := F1.out.r0
  have r1 := F1.out.r1
  have f0 := F1.out.f0
  have f1 := F1.out.f1
  go_wp2_with fail
  refine (within_is _ _ _ _).mono ?_
  rintro e W ⟨rfl, hW⟩
  rw [hW]; clear hW W
  go_wp2_with fail
  refine (said_is _ _ _).mono ?_
  rintro e w2 ⟨rfl, hb⟩
  have F2 : Hid (Fr w w2 4 k x) := F1.out.later (hb.mono F1.out.sz)
  have I2 : Hid (IsL (w.heap.size + 2) w2 v1 xs) := O1.out.isL.later hb
  clear hb F1 O1 o0 o1 o2 r0 r1 f0 f1
  have r0 := F2.out.r0
  have r1 := F2.out.r1
  have f0 := F2.out.f0
  have f1 := F2.out.f1
  go_wp2
  have E := F2.out.ends 5 0
  refine bodyPost_ret (v := .tuple #[v1, .agg #[.int .i64 5, .int .i64 0]]) ?_ rfl ⟨v1, rfl, (I2.out.wr 5 0).mono (by omega), E.2.2⟩
  unfold wr at E
  simp [results, Tryz.results79, go_sem, E.1, E.2.1]

set_option maxRecDepth 20000 in
set_option maxHeartbeats 2000000 in
theorem RHeap_else {B : Nat} {v : Value} {xs ys : List Int} {w : World} {c y : Int} (o k x : Int) (h1 : 1 ≤ o) (h2 : o ≤ 6) (n3 : o ≠ 3) (n4 : o ≠ 4) (np : o = 1 → 6 ≤ xs.length) (nt : o = 2 → xs.length = 0) (h : IsL B w v xs) (hx : xs.length ≤ 60)
    (hE : ∀ W u, IsL (w.heap.size + 2) W u xs → Calls Tryz.prog 98 #[u, .agg #[.int .i64 o, .int .i64 k, .int .i64 x], .bool false, .int .i64 0] W (Made W ys c y)) :
    Calls Tryz.prog 79 #[v, .agg #[.int .i64 o, .int .i64 k, .int .i64 x]] w (MadeN w ys c y) := by
  have n3' : (o == 3) = false := by simp [n3]
  have n4' : (o == 4) = false := by simp [n4]
  have hd : decide (1 ≤ o ∧ o ≤ 6) = true := decide_eq_true ⟨h1, h2⟩
  have HE : Hid (∀ W u, IsL (w.heap.size + 2) W u xs → Calls Tryz.prog 98 #[u, .agg #[.int .i64 o, .int .i64 k, .int .i64 x], .bool false, .int .i64 0] W (Made W ys c y)) := hE
  clear hE
  have F0 : Hid (Fr w (two w o k x) o k x) := Fr.start w o k x
  have X : Hid (IsL B (two w o k x) v xs) := h.later F0.out.gr
  have HX : Hid (xs.length ≤ 1000000) := Nat.le_trans hx (by decide)
  obtain ⟨av, cv, rfl⟩ := h.form
  clear h
  go_enter Tryz.func79, Tryz.ntmps79
  go_wp2_with (at_builtin; refine wpList_copy rfl rfl (.const (.slice none 0 0)) (.tmp 14) rfl rfl rfl X.out HX.out ?_)
  intro v1 w1 hown hb
  have hown' : Own (w.heap.size + 2) w1 v1 xs := hown
  have hb' : Below (w.heap.size + 2) (two w o k x) w1 := hb
  have F1 : Hid (Fr w w1 o k x) := F0.out.later hb'
  have O1 : Hid (Own (w.heap.size + 2) w1 v1 xs) := hown'
  clear hown hb hown' hb' F0 X
  have o0 := F1.out.o0
  have o1 := F1.out.o1
  have o2 := F1.out.o2
  have r0 := F1.out.r0
  have r1 := F1.out.r1
  have f0 := F1.out.f0
  have f1 := F1.out.f1
  go_wp2_with fail
  refine (within_is _ _ _ _).mono ?_
  rintro e W ⟨rfl, hW⟩
  rw [hW, hd]; clear hW W
  obtain ⟨a, cp, rfl⟩ := O1.out.form
  clear hd
  by_cases n1 : o = 1
  · have hl6 : ¬ ((xs.length : Int) < 6) := by have := np n1; omega
    subst n1
    clear np nt
    go_wp2_with fail
    refine (HE.out _ _ O1.out.isL).mono ?_
    rintro e w2 ⟨v2, rfl, hi, hb⟩
    have F2 : Hid (Fr w w2 1 k x) := F1.out.later (hb.mono F1.out.sz)
    have I2 : Hid (IsL (w.heap.size + 2) w2 v2 ys) := hi.mono F1.out.sz
    clear hi hb F1 O1 o0 o1 o2 r0 r1 f0 f1 HE
    have r0 := F2.out.r0
    have r1 := F2.out.r1
    have f0 := F2.out.f0
    have f1 := F2.out.f1
    go_wp2
    have E := F2.out.ends c y
    refine bodyPost_ret (v := .tuple #[v2, .agg #[.int .i64 c, .int .i64 y]]) ?_ rfl ⟨v2, rfl, (I2.out.wr c y).mono (by omega), E.2.2⟩
    unfold wr at E
    simp [results, Tryz.results79, go_sem, E.1, E.2.1]
  by_cases n2 : o = 2
  · have hl0 : ¬ (0 < (xs.length : Int)) := by have := nt n2; omega
    subst n2
    clear np nt
    go_wp2_with fail
    refine (HE.out _ _ O1.out.isL).mono ?_
    rintro e w2 ⟨v2, rfl, hi, hb⟩
    have F2 : Hid (Fr w w2 2 k x) := F1.out.later (hb.mono F1.out.sz)
    have I2 : Hid (IsL (w.heap.size + 2) w2 v2 ys) := hi.mono F1.out.sz
    clear hi hb F1 O1 o0 o1 o2 r0 r1 f0 f1 HE
    have r0 := F2.out.r0
    have r1 := F2.out.r1
    have f0 := F2.out.f0
    have f1 := F2.out.f1
    go_wp2
    have E := F2.out.ends c y
    refine bodyPost_ret (v := .tuple #[v2, .agg #[.int .i64 c, .int .i64 y]]) ?_ rfl ⟨v2, rfl, (I2.out.wr c y).mono (by omega), E.2.2⟩
    unfold wr at E
    simp [results, Tryz.results79, go_sem, E.1, E.2.1]
  · have m1 : (o == 1) = false := by simp [n1]
    have m2 : (o == 2) = false := by simp [n2]
    clear np nt n1 n2 n3 n4
    go_wp2_with fail
    refine (HE.out _ _ O1.out.isL).mono ?_
    rintro e w2 ⟨v2, rfl, hi, hb⟩
    have F2 : Hid (Fr w w2 o k x) := F1.out.later (hb.mono F1.out.sz)
    have I2 : Hid (IsL (w.heap.size + 2) w2 v2 ys) := hi.mono F1.out.sz
    clear hi hb F1 O1 o0 o1 o2 r0 r1 f0 f1 HE
    have r0 := F2.out.r0
    have r1 := F2.out.r1
    have f0 := F2.out.f0
    have f1 := F2.out.f1
    go_wp2
    have E := F2.out.ends c y
    refine bodyPost_ret (v := .tuple #[v2, .agg #[.int .i64 c, .int .i64 y]]) ?_ rfl ⟨v2, rfl, (I2.out.wr c y).mono (by omega), E.2.2⟩
    unfold wr at E
    simp [results, Tryz.results79, go_sem, E.1, E.2.1]

end Go.Proofs.YteogbpaaacmllaaGreatDoor
namespace Go.Proofs.YteogbpaaacmllaaGreatDoor
set_option maxRecDepth 20000
open Go.RowKit

theorem swp_comm (l : List Int) {i j : Nat} (h : i ≠ j) : swp l i j = swp l j i := by
  unfold swp
  exact List.set_comm _ _ h
theorem Fr.set {w W : World} {o k x : Int} (h : Fr w W o k x) {b : Nat} (hb : w.heap.size + 2 ≤ b) (j : Nat) (v : Value) : Fr w (W.setCell ⟨b, j, none⟩ v) o k x := h.later ((Below.refl _ W).setCell hb v)
theorem Fr.drewN {w W : World} {o k x : Int} (h : Fr w W o k x) (q : Nat) : Fr w (W.drewN q) o k x := h.later ((below_drewN W q).mono h.sz)
theorem Fr.drew {w W : World} {o k x : Int} (h : Fr w W o k x) : Fr w W.drew o k x := h.later ((Below.refl _ W).drew)

set_option maxRecDepth 20000 in
set_option maxHeartbeats 4000000 in
theorem RHeap_put {B : Nat} {v : Value} {xs : List Int} {w : World} (k x : Int) (h : IsL B w v xs) (h6 : xs.length < 6) :
    Calls Tryz.prog 79 #[v, .agg #[.int .i64 1, .int .i64 k, .int .i64 x]] w (MadeN w (rise (xs ++ [x])) 1 0) := by
  have hx : xs.length ≤ 60 := by omega
  have F0 : Hid (Fr w (two w 1 k x) 1 k x) := Fr.start w 1 k x
  have X : Hid (IsL B (two w 1 k x) v xs) := h.later F0.out.gr
  have HX : Hid (xs.length ≤ 1000000) := Nat.le_trans hx (by decide)
  obtain ⟨av, cv, rfl⟩ := h.form
  clear h
  go_enter Tryz.func79, Tryz.ntmps79
  go_wp2_with (at_builtin; refine wpList_copy rfl rfl (.const (.slice none 0 0)) (.tmp 14) rfl rfl rfl X.out HX.out ?_)
  intro v1 w1 hown hb
  have hown' : Own (w.heap.size + 2) w1 v1 xs := hown
  have hb' : Below (w.heap.size + 2) (two w 1 k x) w1 := hb
  have F1 : Hid (Fr w w1 1 k x) := F0.out.later hb'
  have O1 : Hid (Own (w.heap.size + 2) w1 v1 xs) := hown'
  clear hown hb hown' hb' F0 X
  have o0 := F1.out.o0
  have o1 := F1.out.o1
  have o2 := F1.out.o2
  have r0 := F1.out.r0
  have r1 := F1.out.r1
  have f0 := F1.out.f0
  have f1 := F1.out.f1
  go_wp2_with fail
  refine (within_is _ _ _ _).mono ?_
  rintro e W ⟨rfl, hW⟩
  rw [hW]; clear hW W
  obtain ⟨a, cp, rfl⟩ := O1.out.form
  have hl6 : (xs.length : Int) < 6 := by omega
  have n1 : Hid (w.heap.size + 2 ≤ (w1.alloc (.cells #[.int .i64 x] 3)).heap.size) := Nat.le_trans F1.out.sz (by simp)
  have n2 : Hid (Own (w.heap.size + 2) (w1.alloc (.cells #[.int .i64 x] 3)) (.slice a xs.length cp) xs) := O1.out.alloc _
  have n3 : Hid (IsL 0 (w1.alloc (.cells #[.int .i64 x] 3)) (.slice (some ⟨w1.heap.size, 0, none⟩) 1 1) [x]) := IsL.lit w1 [x] (Nat.succ_pos _)
  have n4 : Hid (xs.length + [x].length ≤ 1000000) := (show xs.length + [x].length ≤ 1000000 by simp; omega)
  go_wp2_with (at_builtin; refine wpList_onto rfl rfl (.tmp 43) (.tmp 46) rfl rfl rfl n1.out n2.out n3.out n4.out ?_)
  intro v2 w2 hO hb
  obtain ⟨b, off, c, rfl, hB, hbl, hc, hR⟩ := hO.isL.row (by omega) (by simp)
  have F2 : Hid (Fr w w2 1 k x) := (F1.out.alloc _).later hb
  obtain ⟨l, hl⟩ : ∃ l, l = xs ++ [x] := ⟨_, rfl⟩
  have L : Hid (l = xs ++ [x]) := hl
  have R2 : Hid (Row b off l w2) := by rw [hl]; exact hR
  have HC : Hid (l.length ≤ c) := by rw [hl]; exact hc
  have en : (xs ++ [x]).length = xs.length + 1 := by simp
  have N : Hid (l.length = xs.length + 1) := by rw [hl]; exact en
  rw [en]
  clear hO hb hR hl hc en n1 n2 n3 n4 F1 O1 o0 o1 o2 r0 r1 f0 f1
  go_wp2_with fail
  go_loopg [6] (xs.length + 1) (fun gg s6 wt => ∃ (i : Nat) (l' : List Int), s6 = .int .i64 i ∧ i < xs.length + 1 ∧ i ≤ gg ∧ Hid (l'.length = xs.length + 1) ∧ Hid (Row b off l' wt) ∧ Hid (Fr w wt 1 k x) ∧ Hid (riseF gg l' i = rise (xs ++ [x])))
  case atStart =>
    refine ⟨xs.length, l, rfl, by omega, by omega, N, R2, F2, ?_⟩
    show riseF (xs.length + 1) l xs.length = rise (xs ++ [x])
    rw [← L.out]; unfold rise; rw [N.out, Nat.add_sub_cancel]
  case round =>
    obtain ⟨i, l', rfl, hi, hgg, N', R', G, E⟩ := hrel
    clear R2 F2
    obtain ⟨wq, rfl⟩ : ∃ wq, wq = wr := ⟨_, rfl⟩
    by_cases hi0 : i = 0
    · subst hi0
      have r0 := G.out.r0
      have r1 := G.out.r1
      have f0 := G.out.f0
      have f1 := G.out.f1
      have I' : Hid (IsL (w.heap.size + 2) wq (.slice (some ⟨b, off, none⟩) (xs.length + 1) c) (rise (xs ++ [x]))) := by
        rw [← E.out, riseF_stop (by omega), ← N'.out]
        exact R'.out.isL hB (by rw [N'.out]; omega) (by rw [N'.out, ← N.out]; exact HC.out)
      go_wp2_with fail
      refine (said_is _ _ _).mono ?_
      rintro e w3 ⟨rfl, hb⟩
      have F2 : Hid (Fr w w3 1 k x) := G.out.later (hb.mono G.out.sz)
      have I2 : Hid (IsL (w.heap.size + 2) w3 (.slice (some ⟨b, off, none⟩) (xs.length + 1) c) (rise (xs ++ [x]))) := I'.out.later hb
      clear hb r0 r1 f0 f1 G R' I'
      have r0 := F2.out.r0
      have r1 := F2.out.r1
      have f0 := F2.out.f0
      have f1 := F2.out.f1
      go_wp2
      have E := F2.out.ends 1 0
      refine bodyPost_ret (v := .tuple #[(.slice (some ⟨b, off, none⟩) (xs.length + 1) c), .agg #[.int .i64 1, .int .i64 0]]) ?_ rfl ⟨(.slice (some ⟨b, off, none⟩) (xs.length + 1) c), rfl, (I2.out.wr 1 0).mono (by omega), E.2.2⟩
      unfold wr at E
      simp [results, Tryz.results79, go_sem, E.1, E.2.1]
    · obtain ⟨p, hp⟩ : ∃ p, p = (i - 1) / 2 := ⟨_, rfl⟩
      obtain ⟨x1, hx1⟩ : ∃ x, gt l' i = x := ⟨_, rfl⟩
      obtain ⟨y1, hy1⟩ : ∃ y, gt l' p = y := ⟨_, rfl⟩
      have hpn : p < xs.length + 1 := by omega
      have hpi : p < i := by omega
      have g1 : wq.cell? ⟨b, off + i, none⟩ = some (.int .i64 x1) := by rw [← hx1]; exact R'.out.cell i (by rw [N'.out]; exact hi)
      have g2 : wq.cell? ⟨b, off + p, none⟩ = some (.int .i64 y1) := by rw [← hy1]; exact R'.out.cell p (by rw [N'.out]; exact hpn)
      have z1 : wq.frozen? ⟨b, off + i, none⟩ = false := R'.out.froz i (by rw [N'.out]; exact hi)
      have z2 : wq.frozen? ⟨b, off + p, none⟩ = false := R'.out.froz p (by rw [N'.out]; exact hpn)
      have X : Hid (p = (i - 1) / 2 ∧ gt l' i = x1 ∧ gt l' p = y1) := ⟨hp, hx1, hy1⟩
      have ep : ((i : Int) - 1) / 2 = (p : Int) := by omega
      have hi0' : (0 : Int) < (i : Int) := by omega
      clear hp hx1 hy1
      have hi1 : (i : Int) < (xs.length : Int) + 1 := by omega
      have hi2 : (0 : Int) ≤ (i : Int) := by omega
      have hp1 : (p : Int) < (xs.length : Int) + 1 := by omega
      have hp2 : (0 : Int) ≤ (p : Int) := by omega
      have r0 := G.out.r0
      have r1 := G.out.r1
      have f0 := G.out.f0
      have f1 := G.out.f1
      by_cases hxy : y1 ≤ x1
      · have I' : Hid (IsL (w.heap.size + 2) wq (.slice (some ⟨b, off, none⟩) (xs.length + 1) c) (rise (xs ++ [x]))) := by
          rw [← E.out, riseF_stop (by rw [← X.out.1, X.out.2.1, X.out.2.2]; omega), ← N'.out]
          exact R'.out.isL hB (by rw [N'.out]; omega) (by rw [N'.out, ← N.out]; exact HC.out)
        go_wp2_with fail
        try rw [ep]
        go_quiet (fail)
        go_wp2_with fail
        refine (said_is _ _ _).mono ?_
        rintro e w3 ⟨rfl, hb⟩
        have F2 : Hid (Fr w w3 1 k x) := (G.out.drewN _).later (hb.mono (G.out.drewN _).sz)
        have I2 : Hid (IsL (w.heap.size + 2) w3 (.slice (some ⟨b, off, none⟩) (xs.length + 1) c) (rise (xs ++ [x]))) := (I'.out.later (below_drewN _ _)).later hb
        clear hb r0 r1 f0 f1 g1 g2 z1 z2 G R' I'
        have r0 := F2.out.r0
        have r1 := F2.out.r1
        have f0 := F2.out.f0
        have f1 := F2.out.f1
        go_wp2
        have E := F2.out.ends 1 0
        refine bodyPost_ret (v := .tuple #[(.slice (some ⟨b, off, none⟩) (xs.length + 1) c), .agg #[.int .i64 1, .int .i64 0]]) ?_ rfl ⟨(.slice (some ⟨b, off, none⟩) (xs.length + 1) c), rfl, (I2.out.wr 1 0).mono (by omega), E.2.2⟩
        unfold wr at E
        simp [results, Tryz.results79, go_sem, E.1, E.2.1]
      · have hd2 : decide (y1 ≤ x1) = false := by simpa using hxy
        go_wp2_with fail
        try rw [ep]
        go_quiet (fail)
        go_wp2_with fail
        generalize hwq : wq.drewN _ = wz
        have q1 : wz.cell? ⟨b, off + i, none⟩ = some (.int .i64 x1) := by rw [← hwq]; exact g1
        have q2 : wz.cell? ⟨b, off + p, none⟩ = some (.int .i64 y1) := by rw [← hwq]; exact g2
        have k1 : wz.frozen? ⟨b, off + i, none⟩ = false := by rw [← hwq]; exact z1
        have k2 : wz.frozen? ⟨b, off + p, none⟩ = false := by rw [← hwq]; exact z2
        have R2 : Hid (Row b off l' wz) := by rw [← hwq]; exact R'.out.drewN _
        have G2 : Hid (Fr w wz 1 k x) := by rw [← hwq]; exact G.out.drewN _
        clear hwq g1 g2 z1 z2 r0 r1 f0 f1 R' G
        go_region
        all_goals
          go_wp2
          go_roundg (gk - 1)
          case measure => omega
          case rel =>
            have ei := X.out.1
            refine ⟨p, swp l' i p, rfl, hpn, by omega, (swp_len _ _ _).trans N'.out, ?_, (((G2.out.set hB _ _).set hB _ _).drew), ?_⟩
            · rw [swp_comm l' (show i ≠ p by omega)]
              exact (R2.out.swap p i y1 x1 (by rw [N'.out]; exact hpn) (by rw [N'.out]; exact hi) X.out.2.2 X.out.2.1).drew
            · have e := riseF_go (n := gk) (l := l') (i := i) (by omega) (by omega) (by rw [← ei, X.out.2.1, X.out.2.2]; omega)
              rw [← ei] at e
              exact e.symm.trans E.out
end Go.Proofs.YteogbpaaacmllaaGreatDoor
namespace Go.Proofs.YteogbpaaacmllaaGreatDoor
set_option maxRecDepth 20000
open Go.RowKit

/-- The place below place i that the reference has found behind j looks: -1: none. -/
def kap (l : List Int) (i : Nat) : Nat → Int
  | 0 => -1
  | 1 => if 2 * i + 1 < l.length then ((2 * i + 1 : Nat) : Int) else -1
  | _ => if blw l i < l.length then (blw l i : Nat) else -1
theorem blw_set (l : List Int) (i : Nat) (t : Int) (hi : i < l.length) : blw (l.set i t) i = blw l i := by
  have e1 : gt (l.set i t) (2 * i + 1) = gt l (2 * i + 1) := by rw [gt_set l i _ t hi, if_neg (show 2 * i + 1 ≠ i by omega)]
  have e2 : gt (l.set i t) (2 * i + 2) = gt l (2 * i + 2) := by rw [gt_set l i _ t hi, if_neg (show 2 * i + 2 ≠ i by omega)]
  unfold blw
  rw [List.length_set, e1, e2]

set_option maxRecDepth 20000 in
set_option maxHeartbeats 2000000 in
theorem RHeap_one {B : Nat} {v : Value} {z : Int} {w : World} (k x : Int) (h : IsL B w v [z]) :
    Calls Tryz.prog 79 #[v, .agg #[.int .i64 2, .int .i64 k, .int .i64 x]] w (MadeN w [] 1 z) := by
  have hx : [z].length ≤ 60 := by simp
  have F0 : Hid (Fr w (two w 2 k x) 2 k x) := Fr.start w 2 k x
  have X : Hid (IsL B (two w 2 k x) v [z]) := h.later F0.out.gr
  have HX : Hid ([z].length ≤ 1000000) := Nat.le_trans hx (by decide)
  obtain ⟨av, cv, rfl⟩ := h.form
  clear h
  go_enter Tryz.func79, Tryz.ntmps79
  go_wp2_with (at_builtin; refine wpList_copy rfl rfl (.const (.slice none 0 0)) (.tmp 14) rfl rfl rfl X.out HX.out ?_)
  intro v1 w1 hown hb
  have hown' : Own (w.heap.size + 2) w1 v1 [z] := hown
  have hb' : Below (w.heap.size + 2) (two w 2 k x) w1 := hb
  have F1 : Hid (Fr w w1 2 k x) := F0.out.later hb'
  have O1 : Hid (Own (w.heap.size + 2) w1 v1 [z]) := hown'
  clear hown hb hown' hb' F0 X
  have o0 := F1.out.o0
  have o1 := F1.out.o1
  have o2 := F1.out.o2
  have r0 := F1.out.r0
  have r1 := F1.out.r1
  have f0 := F1.out.f0
  have f1 := F1.out.f1
  go_wp2_with fail
  refine (within_is _ _ _ _).mono ?_
  rintro e W ⟨rfl, hW⟩
  rw [hW]; clear hW W
  obtain ⟨b, off, c, rfl, hB, hbl, hc, hR⟩ := O1.out.isL.row (by omega) (by simp)
  have R1 : Hid (Row b off [z] w1) := hR
  have g0 : w1.cell? ⟨b, off, none⟩ = some (.int .i64 z) := R1.out.cell 0 (Nat.succ_pos _)
  have hc1 : 1 ≤ c := hc
  have en : [z].length = 1 := rfl
  rw [en]
  clear hR en hc
  go_wp2_with fail
  go_quiet (fail)
  go_wp2_with fail
  refine (said_is _ _ _).mono ?_
  rintro e w3 ⟨rfl, hb⟩
  have F2 : Hid (Fr w w3 2 k x) := (F1.out.drewN _).later (hb.mono (F1.out.drewN _).sz)
  clear hb r0 r1 f0 f1 o0 o1 o2 g0 F1 O1 R1
  have r0 := F2.out.r0
  have r1 := F2.out.r1
  have f0 := F2.out.f0
  have f1 := F2.out.f1
  go_wp2
  have E := F2.out.ends 1 z
  refine bodyPost_ret (v := .tuple #[.slice (some ⟨b, off, none⟩) 0 c, .agg #[.int .i64 1, .int .i64 z]]) ?_ rfl ⟨_, rfl, IsL.nil _ _ _ _, E.2.2⟩
  unfold wr at E
  simp [results, Tryz.results79, go_sem, E.1, E.2.1]

theorem kap_one_yes {l : List Int} {i : Nat} (h : 2 * i + 1 < l.length) : kap l i 1 = ((2 * i + 1 : Nat) : Int) := by simp [kap, h]
theorem kap_one_no {l : List Int} {i : Nat} (h : ¬ 2 * i + 1 < l.length) : kap l i 1 = -1 := by simp [kap, h]
theorem kap_two_yes {l : List Int} {i : Nat} (h : 2 * i + 2 < l.length) (hg : gt l (2 * i + 2) < gt l (2 * i + 1)) : kap l i 2 = ((2 * i + 2 : Nat) : Int) := by
  have e : blw l i = 2 * i + 2 := by unfold blw; rw [if_pos ⟨h, hg⟩]
  show (if blw l i < l.length then ((blw l i : Nat) : Int) else -1) = _
  rw [e, if_pos h]
theorem kap_two_no {l : List Int} {i : Nat} (h : ¬ (2 * i + 2 < l.length ∧ gt l (2 * i + 2) < gt l (2 * i + 1))) : kap l i 2 = kap l i 1 := by
  have e : blw l i = 2 * i + 1 := by unfold blw; rw [if_neg h]
  show (if blw l i < l.length then ((blw l i : Nat) : Int) else -1) = _
  rw [e]; rfl
theorem kap_end (l : List Int) (i : Nat) : kap l i 2 = if blw l i < l.length then ((blw l i : Nat) : Int) else -1 := rfl

set_option maxRecDepth 20000 in
set_option maxHeartbeats 8000000 in
theorem RHeap_more {B : Nat} {v : Value} {r : List Int} {z t : Int} {w : World} (k x : Int) (h : IsL B w v (z :: (r ++ [t]))) (hr : r.length ≤ 4) :
    Calls Tryz.prog 79 #[v, .agg #[.int .i64 2, .int .i64 k, .int .i64 x]] w (MadeN w (sink (t :: r)) 1 z) := by
  obtain ⟨xs, hxs⟩ : ∃ xs, xs = z :: (r ++ [t]) := ⟨_, rfl⟩
  rw [← hxs] at h
  have XS : Hid (xs = z :: (r ++ [t])) := hxs
  obtain ⟨m, hm⟩ : ∃ m, m = r.length + 1 := ⟨_, rfl⟩
  have hxl : xs.length = m + 1 := by rw [hxs, hm]; simp
  have hx : xs.length ≤ 60 := by omega
  have M : Hid (m = r.length + 1) := hm
  have hm0 : 0 < m := by omega
  have hm5 : m ≤ 5 := by omega
  clear hxs hm hr
  have F0 : Hid (Fr w (two w 2 k x) 2 k x) := Fr.start w 2 k x
  have X : Hid (IsL B (two w 2 k x) v xs) := h.later F0.out.gr
  have HX : Hid (xs.length ≤ 1000000) := Nat.le_trans hx (by decide)
  obtain ⟨av, cv, rfl⟩ := h.form
  clear h
  go_enter Tryz.func79, Tryz.ntmps79
  go_wp2_with (at_builtin; refine wpList_copy rfl rfl (.const (.slice none 0 0)) (.tmp 14) rfl rfl rfl X.out HX.out ?_)
  intro v1 w1 hown hb
  have hown' : Own (w.heap.size + 2) w1 v1 xs := hown
  have hb' : Below (w.heap.size + 2) (two w 2 k x) w1 := hb
  have F1 : Hid (Fr w w1 2 k x) := F0.out.later hb'
  have O1 : Hid (Own (w.heap.size + 2) w1 v1 xs) := hown'
  clear hown hb hown' hb' F0 X
  have o0 := F1.out.o0
  have o1 := F1.out.o1
  have o2 := F1.out.o2
  have r0 := F1.out.r0
  have r1 := F1.out.r1
  have f0 := F1.out.f0
  have f1 := F1.out.f1
  go_wp2_with fail
  refine (within_is _ _ _ _).mono ?_
  rintro e W ⟨rfl, hW⟩
  rw [hW]; clear hW W
  obtain ⟨b, off, c, rfl, hB, hbl, hc, hR⟩ := O1.out.isL.row (by omega) (by omega)
  have g0 : w1.cell? ⟨b, off, none⟩ = some (.int .i64 z) := by have := hR.cell 0 (by omega); rw [XS.out] at this; exact this
  have gm : w1.cell? ⟨b, off + m, none⟩ = some (.int .i64 t) := by
    have e := hR.cell m (by omega)
    rw [e, XS.out, M.out]
    simp [gt, List.getD]
  have hcut : Row b off (z :: r) w1 := by
    have hl : (z :: r).length = m := by rw [M.out]; rfl
    refine ⟨fun j hj => ?_, fun j hj => hR.froz j (by omega)⟩
    rw [hR.cell j (by omega), XS.out]
    have : (z :: (r ++ [t])) = (z :: r) ++ [t] := rfl
    rw [this]
    simp only [gt, List.getD, List.getElem?_append_left hj]
  have R1 : Hid (Row b off (z :: r) w1) := hcut
  rw [hxl] at hc ⊢
  have hcm : m ≤ c := by omega
  have hci : (m : Int) ≤ (c : Int) := by omega
  have em : ((m : Int) + 1 - 1) = (m : Int) := by omega
  have hp1 : (0 : Int) < (m : Int) + 1 := by omega
  have hp2 : (m : Int) < (m : Int) + 1 := by omega
  have hp3 : ((m : Int) == 0) = false := by rw [beq_eq_false_iff_ne]; omega
  clear hR hcut hc O1
  go_wp2_with fail
  go_quiet (fail)
  go_wp2_with fail
  generalize hW : w1.drewN _ = W1
  have R2 : Hid (Row b off (z :: r) W1) := by rw [← hW]; exact R1.out.drewN _
  have F2 : Hid (Fr w W1 2 k x) := by rw [← hW]; exact F1.out.drewN _
  clear hW R1 F1 o0 o1 o2 r0 r1 f0 f1 g0 gm
  go_loopg [10] m (fun gg s10 wt => ∃ (i : Nat) (l' : List Int), s10 = .int .i64 i ∧ i < m ∧ m ≤ gg + i ∧ Hid (l'.length = m) ∧ Hid (Row b off l' wt) ∧ Hid (Fr w wt 2 k x) ∧ Hid (sinkF gg (l'.set i t) i = sink (t :: r)))
  case atStart =>
    refine ⟨0, z :: r, rfl, hm0, by omega, M.out.symm, R2, F2, ?_⟩
    show sinkF m ((z :: r).set 0 t) 0 = sink (t :: r)
    unfold sink; rw [M.out]; rfl
  case round =>
    obtain ⟨i, l', rfl, hi, hgg, N', R', G, E⟩ := hrel
    clear R2 F2
    obtain ⟨gk0, rfl⟩ : ∃ gk0, gk0 = gk := ⟨_, rfl⟩
    obtain ⟨wq, rfl⟩ : ∃ wq, wq = wr := ⟨_, rfl⟩
    have LB : Hid (Below wq.heap.size wq (wq.alloc (.cells #[.int .i64 (2 * (i : Int) + 1), .int .i64 (2 * (i : Int) + 2)] 3))) := (Below.refl _ _).alloc (Nat.le_refl _) _
    have LC : Hid ((wq.alloc (.cells #[.int .i64 (2 * (i : Int) + 1), .int .i64 (2 * (i : Int) + 2)] 3)).cell? ⟨wq.heap.size, 0, none⟩ = some (.int .i64 (2 * (i : Int) + 1)) ∧ (wq.alloc (.cells #[.int .i64 (2 * (i : Int) + 1), .int .i64 (2 * (i : Int) + 2)] 3)).cell? ⟨wq.heap.size, 1, none⟩ = some (.int .i64 (2 * (i : Int) + 2))) := lit_two _ _ _ _
    have hbq : b < wq.heap.size := World.block_lt_of_cell? _ _ (R'.out.cell i (by rw [N'.out]; exact hi))
    have R3 : Hid (Row b off l' (wq.alloc (.cells #[.int .i64 (2 * (i : Int) + 1), .int .i64 (2 * (i : Int) + 2)] 3))) := R'.out.keep LB.out hbq
    have G3 : Hid (Fr w (wq.alloc (.cells #[.int .i64 (2 * (i : Int) + 1), .int .i64 (2 * (i : Int) + 2)] 3)) 2 k x) := G.out.alloc _
    go_wp2_with fail
    generalize wq.alloc (.cells #[.int .i64 (2 * (i : Int) + 1), .int .i64 (2 * (i : Int) + 2)] 3) = W at LB LC R3 G3 ⊢
    clear R' G LB
    go_loopg [116, 11] 2 (fun gg s116 s11 wt => ∃ j : Nat, j ≤ 2 ∧ 2 - j ≤ gg ∧ s116 = .int .i64 j ∧ s11 = .int .i64 (kap l' i j) ∧ Hid (wt.cell? ⟨wq.heap.size, 0, none⟩ = some (.int .i64 (2 * (i : Int) + 1)) ∧ wt.cell? ⟨wq.heap.size, 1, none⟩ = some (.int .i64 (2 * (i : Int) + 2))) ∧ Hid (Row b off l' wt) ∧ Hid (Fr w wt 2 k x))
    case atStart => exact ⟨0, Nat.zero_le _, by omega, rfl, rfl, LC, R3, G3⟩
    case round =>
      clear LC R3 G3
      obtain ⟨j, hj, hgj, rfl, hu, LC, R3, G3⟩ := hrel
      have p1 : (0 : Int) ≤ 2 * (i : Int) + 1 := by omega
      have p2 : (0 : Int) ≤ 2 * (i : Int) + 2 := by omega
      have e1 : (2 * (i : Int) + 1).toNat = 2 * i + 1 := by omega
      have e2 : (2 * (i : Int) + 2).toNat = 2 * i + 2 := by omega
      have hcase : j = 0 ∨ j = 1 ∨ j = 2 := by omega
      rcases hcase with rfl | rfl | rfl
      · have hu0 : u11 = .int .i64 (-1) := hu
        clear hu
        subst hu0
        have cj := LC.out.1
        by_cases hk : 2 * i + 1 < m
        · have hk1 : 2 * (i : Int) + 1 < (m : Int) := by omega
          go_wp2_with fail
          go_quiet (fail)
          go_wp2
          go_roundg 1
          case measure => omega
          case rel => exact ⟨1, by omega, by omega, rfl, by rw [kap_one_yes (by rw [N'.out]; exact hk)]; exact congrArg _ (by omega), LC, R3.out.drewN _, G3.out.drewN _⟩
        · have hk1 : decide (2 * (i : Int) + 1 < (m : Int)) = false := by simp; omega
          go_wp2_with fail
          go_quiet (fail)
          go_wp2
          go_roundg 1
          case measure => omega
          case rel => exact ⟨1, by omega, by omega, rfl, by rw [kap_one_no (by rw [N'.out]; exact hk)], LC, R3.out.drewN _, G3.out.drewN _⟩
      · have cj := LC.out.2
        by_cases hk : 2 * i + 2 < m
        · have hu0 : u11 = .int .i64 (2 * (i : Int) + 1) := by rw [hu, kap_one_yes (by rw [N'.out]; omega)]; exact congrArg _ (by omega)
          clear hu
          subst hu0
          have hk2 : 2 * (i : Int) + 2 < (m : Int) := by omega
          have hk1 : 2 * (i : Int) + 1 < (m : Int) := by omega
          have hkn : decide (2 * (i : Int) + 1 < 0) = false := by simp; omega
          obtain ⟨x1, hx1⟩ : ∃ x, gt l' (2 * i + 2) = x := ⟨_, rfl⟩
          obtain ⟨y1, hy1⟩ : ∃ y, gt l' (2 * i + 1) = y := ⟨_, rfl⟩
          have g2 : wr.cell? ⟨b, off + (2 * i + 2), none⟩ = some (.int .i64 x1) := by rw [← hx1]; exact R3.out.cell _ (by rw [N'.out]; exact hk)
          have g1 : wr.cell? ⟨b, off + (2 * i + 1), none⟩ = some (.int .i64 y1) := by rw [← hy1]; exact R3.out.cell _ (by rw [N'.out]; omega)
          have X : Hid (gt l' (2 * i + 2) = x1 ∧ gt l' (2 * i + 1) = y1) := ⟨hx1, hy1⟩
          clear hx1 hy1
          by_cases hxy : x1 < y1
          · go_wp2_with fail
            go_quiet (fail)
            go_wp2
            go_roundg 0
            case measure => omega
            case rel => exact ⟨2, by omega, by omega, rfl, by rw [kap_two_yes (by rw [N'.out]; exact hk) (by rw [X.out.1, X.out.2]; exact hxy)]; exact congrArg _ (by omega), LC, R3.out.drewN _, G3.out.drewN _⟩
          · have hd2 : decide (x1 < y1) = false := by simpa using hxy
            go_wp2_with fail
            go_quiet (fail)
            go_wp2
            go_roundg 0
            case measure => omega
            case rel => exact ⟨2, by omega, by omega, rfl, by rw [kap_two_no (by rw [X.out.1, X.out.2]; omega), kap_one_yes (by rw [N'.out]; omega)]; exact congrArg _ (by omega), LC, R3.out.drewN _, G3.out.drewN _⟩
        · have hk2 : decide (2 * (i : Int) + 2 < (m : Int)) = false := by simp; omega
          obtain ⟨kp, hkp⟩ : ∃ kp, kp = kap l' i 1 := ⟨_, rfl⟩
          rw [← hkp] at hu
          have KP : Hid (kap l' i 2 = kp) := by rw [hkp]; exact kap_two_no (by rw [N'.out]; omega)
          clear hkp
          subst hu
          go_wp2_with fail
          go_quiet (fail)
          go_wp2
          go_roundg 0
          case measure => omega
          case rel => exact ⟨2, by omega, by omega, rfl, by rw [KP.out], LC, R3.out.drewN _, G3.out.drewN _⟩
      · by_cases hbm : blw l' i < m
        · obtain ⟨c0, hc0⟩ : ∃ c0, c0 = blw l' i := ⟨_, rfl⟩
          have hu0 : u11 = .int .i64 (c0 : Nat) := by rw [hu, kap_end, N'.out, if_pos hbm, hc0]
          have C0 : Hid (c0 = blw l' i) := hc0
          have hic : i < c0 := by rw [hc0]; exact blw_gt l' i
          rw [← hc0] at hbm
          clear hu hc0
          subst hu0
          have hc1 : (c0 : Int) < (m : Int) := by omega
          have hc2 : (0 : Int) ≤ (c0 : Int) := by omega
          have hc3 : decide ((c0 : Int) < 0) = false := by simp
          have hi1 : (i : Int) < (m : Int) := by omega
          obtain ⟨y1, hy1⟩ : ∃ y, gt l' c0 = y := ⟨_, rfl⟩
          have g1 : wr.cell? ⟨b, off + c0, none⟩ = some (.int .i64 y1) := by rw [← hy1]; exact R3.out.cell _ (by rw [N'.out]; exact hbm)
          have X : Hid (gt l' c0 = y1) := hy1
          clear hy1
          by_cases hyt : t ≤ y1
          · have hyt' : y1 ≥ t := hyt
            have fi : wr.frozen? ⟨b, off + i, none⟩ = false := R3.out.froz i (by rw [N'.out]; exact hi)
            have ci : ∃ u, wr.cell? ⟨b, off + i, none⟩ = some u := ⟨_, R3.out.cell i (by rw [N'.out]; exact hi)⟩
            obtain ⟨u0, ci⟩ := ci
            have R4 : Hid (Row b off (sink (t :: r)) (wr.setCell ⟨b, off + i, none⟩ (.int .i64 t))) := by rw [← E.out, sinkF_stop (by rw [blw_set _ _ _ (by rw [N'.out]; exact hi), ← C0.out, gt_set _ _ _ _ (by rw [N'.out]; exact hi), gt_set _ _ _ _ (by rw [N'.out]; exact hi), if_neg (show c0 ≠ i by omega), if_pos rfl, X.out]; omega)]; exact R3.out.set i t (by rw [N'.out]; exact hi)
            have G4 : Hid (Fr w (wr.setCell ⟨b, off + i, none⟩ (.int .i64 t)) 2 k x) := G3.out.set hB _ _
            go_wp2_with fail
            generalize wr.setCell ⟨b, off + i, none⟩ (.int .i64 t) = w5 at R4 G4 ⊢
            refine (said_is _ _ _).mono ?_
            rintro e w6 ⟨rfl, hb⟩
            have F2 : Hid (Fr w w6 2 k x) := G4.out.later (hb.mono G4.out.sz)
            have I2 : Hid (IsL (w.heap.size + 2) w6 (.slice (some ⟨b, off, none⟩) m c) (sink (t :: r))) := by
              have e := (sink_perm (t :: r)).length_eq
              have e2 : (sink (t :: r)).length = m := by rw [e, M.out]; rfl
              have := (R4.out.isL (B := w.heap.size + 2) (c := c) hB (by omega) (by omega)).later hb
              rwa [e2] at this
            have r0 := F2.out.r0
            have r1 := F2.out.r1
            have f0 := F2.out.f0
            have f1 := F2.out.f1
            clear hb R4 G4 R3 G3 ci fi
            go_wp2
            have E := F2.out.ends 1 z
            refine bodyPost_ret (v := .tuple #[(.slice (some ⟨b, off, none⟩) m c), .agg #[.int .i64 1, .int .i64 z]]) ?_ rfl ⟨(.slice (some ⟨b, off, none⟩) m c), rfl, (I2.out.wr 1 z).mono (by omega), E.2.2⟩
            unfold Go.Proofs.YteogbpaaacmllaaGreatDoor.wr at E
            simp [results, Tryz.results79, go_sem, E.1, E.2.1]
          · have hyt' : ¬ y1 ≥ t := hyt
            have hyd : decide (y1 ≥ t) = false := by simpa using hyt
            have fi : wr.frozen? ⟨b, off + i, none⟩ = false := R3.out.froz i (by rw [N'.out]; exact hi)
            have ci : ∃ u, wr.cell? ⟨b, off + i, none⟩ = some u := ⟨_, R3.out.cell i (by rw [N'.out]; exact hi)⟩
            obtain ⟨u0, ci⟩ := ci
            go_wp2
            go_roundg (gk0 - 1)
            case measure => omega
            case rel =>
              refine ⟨c0, l'.set i y1, rfl, hbm, by omega, by rw [List.length_set]; exact N'.out, R3.out.set i y1 (by rw [N'.out]; exact hi), G3.out.set hB _ _, ?_⟩
              have hil : i < l'.length := by rw [N'.out]; exact hi
              have eb : blw (l'.set i t) i = c0 := by rw [blw_set _ _ _ hil]; exact C0.out.symm
              have g2 : gt (l'.set i t) c0 = y1 := by rw [gt_set _ _ _ _ hil, if_neg (show c0 ≠ i by omega)]; exact X.out
              have g3 : gt (l'.set i t) i = t := by rw [gt_set _ _ _ _ hil, if_pos rfl]
              have e := sinkF_go (n := gk0) (l := l'.set i t) (i := i) (by omega) (by rw [eb, List.length_set, N'.out, g2, g3]; exact ⟨hbm, by omega⟩)
              rw [eb] at e
              have es : swp (l'.set i t) i c0 = (l'.set i y1).set c0 t := by unfold swp; rw [g2, g3, List.set_set]
              rw [es] at e
              exact e.symm.trans E.out
        · have hu0 : u11 = .int .i64 (-1) := by rw [hu, kap_end, N'.out, if_neg hbm]
          clear hu
          subst hu0
          have hi1 : (i : Int) < (m : Int) := by omega
          have fi : wr.frozen? ⟨b, off + i, none⟩ = false := R3.out.froz i (by rw [N'.out]; exact hi)
          have ci : ∃ u, wr.cell? ⟨b, off + i, none⟩ = some u := ⟨_, R3.out.cell i (by rw [N'.out]; exact hi)⟩
          obtain ⟨u0, ci⟩ := ci
          have R4 : Hid (Row b off (sink (t :: r)) (wr.setCell ⟨b, off + i, none⟩ (.int .i64 t))) := by rw [← E.out, sinkF_stop (by rw [blw_set _ _ _ (by rw [N'.out]; exact hi), List.length_set, N'.out]; omega)]; exact R3.out.set i t (by rw [N'.out]; exact hi)
          have G4 : Hid (Fr w (wr.setCell ⟨b, off + i, none⟩ (.int .i64 t)) 2 k x) := G3.out.set hB _ _
          go_wp2_with fail
          generalize wr.setCell ⟨b, off + i, none⟩ (.int .i64 t) = w5 at R4 G4 ⊢
          refine (said_is _ _ _).mono ?_
          rintro e w6 ⟨rfl, hb⟩
          have F2 : Hid (Fr w w6 2 k x) := G4.out.later (hb.mono G4.out.sz)
          have I2 : Hid (IsL (w.heap.size + 2) w6 (.slice (some ⟨b, off, none⟩) m c) (sink (t :: r))) := by
            have e := (sink_perm (t :: r)).length_eq
            have e2 : (sink (t :: r)).length = m := by rw [e, M.out]; rfl
            have := (R4.out.isL (B := w.heap.size + 2) (c := c) hB (by omega) (by omega)).later hb
            rwa [e2] at this
          have r0 := F2.out.r0
          have r1 := F2.out.r1
          have f0 := F2.out.f0
          have f1 := F2.out.f1
          clear hb R4 G4 R3 G3 ci fi
          go_wp2
          have E := F2.out.ends 1 z
          refine bodyPost_ret (v := .tuple #[(.slice (some ⟨b, off, none⟩) m c), .agg #[.int .i64 1, .int .i64 z]]) ?_ rfl ⟨(.slice (some ⟨b, off, none⟩) m c), rfl, (I2.out.wr 1 z).mono (by omega), E.2.2⟩
          unfold Go.Proofs.YteogbpaaacmllaaGreatDoor.wr at E
          simp [results, Tryz.results79, go_sem, E.1, E.2.1]
end Go.Proofs.YteogbpaaacmllaaGreatDoor
namespace Go.Proofs.YteogbpaaacmllaaGreatDoor
set_option maxRecDepth 20000
open Go.RowKit

theorem hdo_len {xs ys : List Int} {o x c y : Int} (h : hdo xs o x = (ys, c, y)) : ys.length ≤ xs.length + 1 := by
  by_cases n1 : o = 1
  · subst n1
    by_cases h6 : 6 ≤ xs.length
    · rw [hdo_full x h6] at h
      simp only [Prod.mk.injEq] at h
      rw [← h.1]; omega
    · rw [hdo_put x (by omega)] at h
      simp only [Prod.mk.injEq] at h
      rw [← h.1, (rise_perm _).length_eq]; simp
  by_cases n2 : o = 2
  · subst n2
    cases xs with
    | nil => rw [hdo_none] at h; simp only [Prod.mk.injEq] at h; rw [← h.1]; simp
    | cons z r =>
      rcases List.eq_nil_or_concat r with rfl | ⟨r', t, rfl⟩
      · rw [hdo_one] at h; simp only [Prod.mk.injEq] at h; rw [← h.1]; simp
      · rw [List.concat_eq_append, hdo_more] at h
        simp only [Prod.mk.injEq] at h
        rw [← h.1, (sink_perm _).length_eq]; simp
  · obtain ⟨c', y', e⟩ := hdo_keeps xs o x n1 n2
    rw [e] at h
    simp only [Prod.mk.injEq] at h
    rw [← h.1]; omega

theorem RHeap_eq {B : Nat} {v : Value} {xs ys : List Int} {w : World} {o x c y : Int} (k : Int) (h : IsL B w v xs) (hx : xs.length ≤ 6) (hq : hdo xs o x = (ys, c, y)) :
    Calls Tryz.prog 79 #[v, .agg #[.int .i64 o, .int .i64 k, .int .i64 x]] w (MadeN w ys c y) := by
  have hx' : xs.length ≤ 60 := by omega
  by_cases hr : 1 ≤ o ∧ o ≤ 6
  · by_cases n3 : o = 3
    · subst n3
      rw [hdo_else xs 3 x (by decide) (by decide)] at hq
      simp [qdo] at hq
      obtain ⟨rfl, rfl, rfl⟩ := hq
      exact RHeap_three k x h hx'
    by_cases n4 : o = 4
    · subst n4
      rw [hdo_else xs 4 x (by decide) (by decide)] at hq
      simp [qdo] at hq
      obtain ⟨rfl, rfl, rfl⟩ := hq
      exact RHeap_four k x h hx'
    by_cases n1 : o = 1
    · subst n1
      by_cases h6 : 6 ≤ xs.length
      · rw [hdo_full x h6] at hq
        simp only [Prod.mk.injEq] at hq
        obtain ⟨rfl, rfl, rfl⟩ := hq
        exact RHeap_else 1 k x (by decide) (by decide) (by decide) (by decide) (fun _ => h6) (fun e => by simp at e) h hx' fun W u hW => ends_full k x 0 h6 hW hx'
      · rw [hdo_put x (by omega)] at hq
        simp only [Prod.mk.injEq] at hq
        obtain ⟨rfl, rfl, rfl⟩ := hq
        exact RHeap_put k x h (by omega)
    by_cases n2 : o = 2
    · subst n2
      cases xs with
      | nil =>
        rw [hdo_none] at hq
        simp only [Prod.mk.injEq] at hq
        obtain ⟨rfl, rfl, rfl⟩ := hq
        exact RHeap_else 2 k x (by decide) (by decide) (by decide) (by decide) (fun e => by simp at e) (fun _ => rfl) h hx' fun W u hW => ends_none k x 2 0 (by decide) (by decide) (by decide) hW hx'
      | cons z r =>
        rcases List.eq_nil_or_concat r with rfl | ⟨r', t, rfl⟩
        · rw [hdo_one] at hq
          simp only [Prod.mk.injEq] at hq
          obtain ⟨rfl, rfl, rfl⟩ := hq
          exact RHeap_one k x h
        · rw [List.concat_eq_append] at h hx hq
          rw [hdo_more] at hq
          simp only [Prod.mk.injEq] at hq
          obtain ⟨rfl, rfl, rfl⟩ := hq
          exact RHeap_more k x h (by simp at hx; omega)
    rw [hdo_else xs o x n1 n2] at hq
    have : o = 5 ∨ o = 6 := by omega
    refine RHeap_else o k x hr.1 hr.2 n3 n4 (fun e => absurd e n1) (fun e => absurd e n2) h hx' fun W u hW => ?_
    rcases this with rfl | rfl
    · cases xs with
      | nil => simp [qdo] at hq; obtain ⟨rfl, rfl, rfl⟩ := hq; exact ends_none k x 5 0 (by decide) (by decide) (by decide) hW hx'
      | cons z r =>
        simp [qdo] at hq
        obtain ⟨rfl, rfl, rfl⟩ := hq
        exact ends_peek (xs := z :: r) (ou := 0) (z := z) k x (by simp) rfl hW hx'
    · simp [qdo] at hq
      obtain ⟨rfl, rfl, rfl⟩ := hq
      exact ends_count k x 0 hW hx'
  · have e : hdo xs o x = (xs, 5, 0) := by
      rw [hdo_else xs o x (by omega) (by omega)]
      simp [qdo, show o ≠ 1 by omega, show o ≠ 2 by omega, show o ≠ 5 by omega, show o ≠ 6 by omega]
    rw [e] at hq
    simp only [Prod.mk.injEq] at hq
    obtain ⟨rfl, rfl, rfl⟩ := hq
    exact RHeap_out k x o hr h hx'
end Go.Proofs.YteogbpaaacmllaaGreatDoor
namespace Go.Proofs.YteogbpaaacmllaaGreatDoor.Tab
set_option maxRecDepth 20000
open Go.RowKit
set_option linter.unusedVariables false

/-- A thing's list, of whatever kind it is. -/
def tl (kind : Int) (c : Nat → Nat) : List Int := if kind ≤ 4 then lst c else []
/-- What a thing is beside its list. -/
structure Tq (kind : Int) (c : Nat → Nat) (v : Value) (t : Tb) (x : Int) : Prop where
  list : kind ≤ 4 → t = Tb.zero ∧ x = 0
  table : kind = 5 → v = .slice none 0 0 ∧ t.all = (tbl c).all ∧ x = 0
  tally : kind = 6 → v = .slice none 0 0 ∧ t = Tb.zero ∧ x = (c 0 : Nat)
theorem Th.isl {B : Nat} {w : World} {kind : Int} {c : Nat → Nat} {v : Value} {t : Tb} {x : Int} (h : Th B w kind c v t x) (hk : kind ≤ 6) : IsL B w v (tl kind c) := by
  unfold tl
  by_cases h4 : kind ≤ 4
  · rw [if_pos h4]; exact (h.list h4).1
  · rw [if_neg h4]
    by_cases h5 : kind = 5
    · rw [(h.table h5).1]; exact IsL.nil _ _ _ _
    · rw [(h.tally (by omega)).1]; exact IsL.nil _ _ _ _
theorem Th.tq {B : Nat} {w : World} {kind : Int} {c : Nat → Nat} {v : Value} {t : Tb} {x : Int} (h : Th B w kind c v t x) : Tq kind c v t x := ⟨fun hk => (h.list hk).2, h.table, h.tally⟩
theorem Tq.th {B : Nat} {w : World} {kind : Int} {c : Nat → Nat} {v : Value} {t : Tb} {x : Int} (h : Tq kind c v t x) (hl : IsL B w v (tl kind c)) : Th B w kind c v t x :=
  ⟨fun hk => ⟨by have := hl; unfold tl at this; rwa [if_pos hk] at this, h.list hk⟩, h.table, h.tally⟩
theorem Th.later {B : Nat} {w w' : World} {kind : Int} {c : Nat → Nat} {v : Value} {t : Tb} {n : Int} (h : Th B w kind c v t n) (hb : Below w.heap.size w w') : Th B w' kind c v t n :=
  ⟨fun hk => ⟨(h.list hk).1.later hb, (h.list hk).2⟩, h.table, h.tally⟩
theorem Th.any {B : Nat} {w : World} {kind : Int} {c : Nat → Nat} {v : Value} {t : Tb} {n : Int} (h : Th B w kind c v t n) : Th 0 w kind c v t n :=
  ⟨fun hk => ⟨(h.list hk).1.mono (Nat.zero_le _), (h.list hk).2⟩, h.table, h.tally⟩
theorem Th.one {B : Nat} {w : World} {kind : Int} {c : Nat → Nat} {v : Value} {t : Tb} {n : Int} (h : Th B w kind c v t n) (hk : kind ≤ 6) : v.oneCell' = true := by
  by_cases h4 : kind ≤ 4
  · obtain ⟨a, k, rfl⟩ := (h.list h4).1.form; rfl
  · by_cases h5 : kind = 5
    · rw [(h.table h5).1]; rfl
    · rw [(h.tally (by omega)).1]; rfl

/-- What the reference's Do makes of a thing that words are: its list is what it was, or a new one. -/
def DoesTh (w : World) (kind : Int) (v : Value) (c : Nat → Nat) (r : (Nat → Nat) × Int × Int) (e : Ending) (w' : World) : Prop :=
  ∃ v' t n, e = .returned (.tuple #[.agg (tg kind v' t n).toArray, .agg #[.int .i64 r.2.1, .int .i64 r.2.2]]) ∧ Tq kind r.1 v' t n ∧ v'.oneCell' = true ∧ ((v' = v ∧ tl kind r.1 = tl kind c) ∨ IsL w.heap.size w' v' (tl kind r.1)) ∧ Below w.heap.size w w'

theorem TDo_list {B : Nat} {kind o k x : Int} {c : Nat → Nat} {v : Value} {t : Tb} {n : Int} {w : World} (h1 : 1 ≤ kind) (h4 : kind ≤ 4) (hW : WList c) (hp : kind = 4 → Hp (lst c)) (hR : Rt o k x) (h : Th B w kind c v t n) :
    Calls Tryz.prog 54 #[.agg (tg kind v t n).toArray, .agg #[.int .i64 o, .int .i64 k, .int .i64 x]] w (DoesTh w kind v c (odo kind c o k x)) := by
  have hL := (h.list h4).1
  have h6 : (lst c).length ≤ 6 := by rw [lst_length]; exact hW.len
  have hF := (ldo_facts (kind := kind) (k := k) h1 h4 h6 (lst_val hW) hp hR.w1 hR.w6 hR.v0 hR.v1).1
  have e : odo kind c o k x = (lw (ldo kind (lst c) o x).1, (ldo kind (lst c) o x).2) := by unfold odo; rw [if_neg (by omega), if_neg (by omega)]
  rw [e]
  have et : tl kind c = lst c := if_pos h4
  have eu : tl kind (lw (ldo kind (lst c) o x).1) = (ldo kind (lst c) o x).1 := by unfold tl; rw [if_pos h4, lst_lw hF.val]
  have fin : ∀ {e w'} {v' : Value}, e = .returned (.tuple #[.agg (tg kind v' t n).toArray, .agg #[.int .i64 (ldo kind (lst c) o x).2.1, .int .i64 (ldo kind (lst c) o x).2.2]]) → ((v' = v ∧ (ldo kind (lst c) o x).1 = lst c) ∨ IsL w.heap.size w' v' (ldo kind (lst c) o x).1) → Below w.heap.size w w' → DoesTh w kind v c (lw (ldo kind (lst c) o x).1, (ldo kind (lst c) o x).2) e w' := by
    intro e w' v' he hi hb
    refine ⟨v', t, n, he, ⟨fun _ => (h.list h4).2, fun h => by omega, fun h => by omega⟩, ?_, ?_, hb⟩
    · rcases hi with ⟨rfl, _⟩ | hi
      · obtain ⟨a, k, rfl⟩ := hL.form; rfl
      · obtain ⟨a, k, rfl⟩ := hi.form; rfl
    · show (v' = v ∧ tl kind (lw _) = tl kind c) ∨ IsL _ w' v' (tl kind (lw _))
      rw [eu, et]; exact hi
  have : kind = 1 ∨ kind = 2 ∨ kind = 3 ∨ kind = 4 := by omega
  rcases this with rfl | rfl | rfl | rfl
  · exact (TDo_1 t n hL fun W hW => RQueue_eq k hW (by omega) (show qdo (lst c) o x = (_, _, _) from rfl)).mono fun _ _ ⟨v', a, b, d⟩ => fin a b d
  · exact (TDo_2 t n hL fun W hW => RStack_eq k hW (by omega) (show sdo (lst c) o x = (_, _, _) from rfl)).mono fun _ _ ⟨v', a, b, d⟩ => fin a b d
  · exact (TDo_3 t n hL fun W hW => RDeque_eq k hW (by omega) (show ddo (lst c) o x = (_, _, _) from rfl)).mono fun _ _ ⟨v', a, b, d⟩ => fin a b d
  · exact (TDo_4 t n hL fun W hW => (RHeap_eq k hW h6 (show hdo (lst c) o x = (_, _, _) from rfl)).mono fun e w' ⟨v', h1, h2, h3⟩ => (⟨v', h1, Or.inr h2, h3⟩ : MadeR W v (lst c) (hdo (lst c) o x).1 (hdo (lst c) o x).2.1 (hdo (lst c) o x).2.2 e w')).mono fun _ _ ⟨v', a, b, d⟩ => fin a b d

theorem TDo_is {B : Nat} {kind o k x : Int} {c : Nat → Nat} (hO : isTh kind c) (hR : Rt o k x) {v : Value} {t : Tb} {n : Int} {w : World} (h : Th B w kind c v t n) :
    Calls Tryz.prog 54 #[.agg (tg kind v t n).toArray, .agg #[.int .i64 o, .int .i64 k, .int .i64 x]] w (DoesTh w kind v c (odo kind c o k x)) := by
  have hk := hO.kind
  by_cases h4 : kind ≤ 4
  · refine TDo_list hk.1 h4 ?_ ?_ hR h
    · rcases hO with ⟨_, h⟩ | ⟨_, h, _⟩ | ⟨h, _⟩ | ⟨h, _⟩
      · exact h
      · exact h
      · omega
      · omega
    · intro e
      rcases hO with ⟨h, _⟩ | ⟨_, _, h⟩ | ⟨h, _⟩ | ⟨h, _⟩
      · omega
      · exact h
      · omega
      · omega
  · have hn : ∀ d, tl kind d = [] := fun d => if_neg h4
    by_cases h5 : kind = 5
    · subst h5
      obtain ⟨hv, ht, hn0⟩ := h.table rfl
      have hr : RT (tbl c) := by
        rcases hO with ⟨h, _⟩ | ⟨h, _⟩ | ⟨_, h⟩ | ⟨h, _⟩
        · omega
        · omega
        · exact h.2.2
        · omega
      have hF := tdo_facts hr (o := o) (k := k) (x := x) hR.w1 hR.w6 hR.k0 hR.k1 hR.v0 hR.v1
      rw [tg_same ht]
      refine (TDo_5 (u := (tdo (tbl c) o k x).1) (cc := (tdo (tbl c) o k x).2.1) (y := (tdo (tbl c) o k x).2.2) (by rw [hv]; rfl) n hr rfl).mono fun e w' ⟨a, b⟩ => ⟨v, _, n, a, ⟨fun h => by omega, fun _ => ⟨hv, ?_, hn0⟩, fun h => by omega⟩, by rw [hv]; rfl, Or.inl ⟨rfl, by rw [hn, hn]⟩, b⟩
      show (tdo (tbl c) o k x).1.all = (tbl (tw (tdo (tbl c) o k x).1)).all
      exact tw_all (fun i hi => (hF.rt.keys i hi).1) (fun i hi => (hF.rt.vals i hi).1)
    · obtain rfl : kind = 6 := by omega
      obtain ⟨hv, ht, hn0⟩ := h.tally rfl
      have hw : WN c := by
        rcases hO with ⟨h, _⟩ | ⟨h, _⟩ | ⟨h, _⟩ | ⟨_, h⟩
        · omega
        · omega
        · omega
        · exact h
      have hc := hw.1
      have hF := ado_facts (n := ((c 0 : Nat) : Int)) (o := o) (x := x) (by omega) (by omega) hR.w1 hR.w6 hR.v0 hR.v1
      subst hn0
      refine (TDo_6 (m := (ado (c 0 : Nat) o x).1) (cc := (ado (c 0 : Nat) o x).2.1) (y := (ado (c 0 : Nat) o x).2.2) (k := k) (by rw [hv]; rfl) t (by omega) (by omega) hR.v0 hR.v1 rfl).mono fun e w' ⟨a, b⟩ => ⟨v, t, _, a, ⟨fun h => by omega, fun h => by omega, fun _ => ⟨hv, ht, ?_⟩⟩, by rw [hv]; rfl, Or.inl ⟨rfl, by rw [hn, hn]⟩, b⟩
      show _ = ((tyw (ado (c 0 : Nat) o x).1 0 : Nat) : Int)
      have := hF.rt
      unfold tyw
      rw [if_pos rfl]; omega

/-- The words of a thing that words are. -/
theorem TCells_is {B : Nat} {kind : Int} {c : Nat → Nat} (hO : isTh kind c) {v : Value} {t : Tb} {n : Int} {w : World} (h : Th B w kind c v t n) :
    Calls Tryz.prog 55 #[.agg (tg kind v t n).toArray] w fun e w' => Wd w.heap.size e w' c ∧ Below w.heap.size w w' := by
  have cg : ∀ {d : Nat → Nat}, (∀ j, j < 17 → d j = c j) → ∀ e w', Wd w.heap.size e w' d ∧ Below w.heap.size w w' → Wd w.heap.size e w' c ∧ Below w.heap.size w w' := fun hd e w' ⟨⟨b, h1, h2, h3⟩, h4⟩ => ⟨⟨b, h1, h2, wl_congr hd ▸ h3⟩, h4⟩
  rcases hO with ⟨hk, hw⟩ | ⟨hk, hw, _⟩ | ⟨hk, hw⟩ | ⟨hk, hw⟩
  · exact (Cells_list (by omega) (by omega) t n (h.list (by omega)).1 (by rw [lst_length]; exact hw.len) (lst_val hw)).mono (cg (lw_lst hw))
  · exact (Cells_list (by omega) (by omega) t n (h.list (by omega)).1 (by rw [lst_length]; exact hw.len) (lst_val hw)).mono (cg (lw_lst hw))
  · subst hk
    rw [tg_same (h.table rfl).2.1]
    refine (Cells_5 v (tbl c) n (fun i hi => ?_) (fun i hi => ?_) w).mono (cg (tw_iff.2 hw.2.1))
    · have := hw.1 (2 * i) (by omega); simp only [tbl]; omega
    · have := hw.1 (2 * i + 1) (by omega); simp only [tbl]; omega
  · subst hk
    rw [(h.tally rfl).2.2]
    exact (Cells_6 v t (c 0) hw.1 w).mono (cg (tyw_iff.2 hw.2))
end Go.Proofs.YteogbpaaacmllaaGreatDoor.Tab
namespace Go.Proofs.YteogbpaaacmllaaGreatDoor.Tab
set_option maxRecDepth 20000
open Go.RowKit
set_option linter.unusedVariables false

/-- A record, but for one deed too many. -/
def Irec (s : Nat → Nat) : Prop := isOb (s 0 : Nat) (ob s) ∧ aR s ∧ nR s ∧ zR s ∧ s 26 < 16 ∧ s 27 ≤ 1099511627776 ∧ s 28 ≤ 1099511627777
theorem isRec.irec {s : Nat → Nat} (h : isRec s) : Irec s := ⟨h.1, h.2.1, h.2.2.1, h.2.2.2.1, h.2.2.2.2.1, h.2.2.2.2.2.1, by have := h.2.2.2.2.2.2; omega⟩
theorem Irec.rec {s : Nat → Nat} (h : Irec s) (h28 : s 28 ≤ 1099511627776) : isRec s := ⟨h.1, h.2.1, h.2.2.1, h.2.2.2.1, h.2.2.2.2.1, h.2.2.2.2.2.1, h28⟩
theorem rdo_irec {r : Nat → Nat} {t : Nat} {o k x : Int} (h : isRec r) (hR : Rt o k x) (ht : t < 4) : Irec (rdo r t o k x) := by
  obtain ⟨hO, hA, hN, hZ, hT⟩ := h
  have f := odo_facts hO hR.w1 hR.w6 hR.k0 hR.k1 hR.v0 hR.v1
  have ft := odo_ft hO hR
  refine ⟨?_, fun s hs => ?_, fun s hs => ?_, fun j hj => ?_, ?_, ?_, ?_⟩
  · rw [rdo_0 ht]; exact isOb_congr (rdo_ob ht) f.ob
  · by_cases e : s = t
    · subst e
      unfold aR1
      rw [rdo_a hs, rdo_w hs]
      exact ⟨⟨fun h => absurd h (ansN_pos ft), fun h => by omega⟩, Or.inr (aw_ans ft)⟩
    · unfold aR1
      rw [rdo_a' hs ht e, rdo_w' hs ht e]; exact hA s hs
  · unfold nR1
    rw [rdo_28]
    by_cases e : s = t
    · subst e
      rw [rdo_w hs]
      refine ⟨Nat.le_refl _, fun o2 ho => Or.inr ?_⟩
      rw [rdo_w' (by omega) ht (by omega)]
      have := (hN o2 (by omega)).1
      omega
    · rw [rdo_w' hs ht e]
      have hs1 := hN s hs
      refine ⟨by omega, fun o2 ho => ?_⟩
      by_cases e2 : o2 = t
      · subst e2
        rw [rdo_w (by omega)]; omega
      · rw [rdo_w' (by omega) ht e2]; exact hs1.2 o2 ho
  · rw [rdo_z ht hj]; exact hZ j hj
  · rw [rdo_26]; exact xor_four hT.1 ht
  · rw [rdo_27 ht]; exact hT.2.1
  · rw [rdo_28]; have := hT.2.2; omega
theorem st_irec {r : Nat → Nat} (hr : isRec r) {q : Nat → AK} : ∀ {i}, (∀ j, j < i → Oka (st r q j) (q j)) → Irec (st r q i)
  | 0, _ => hr.irec
  | i + 1, h => by
    have ho := h i (Nat.lt_succ_self i)
    have ih := st_irec hr (i := i) fun j hj => h j (Nat.lt_succ_of_lt hj)
    show Irec (nx (st r q i) (q i))
    by_cases hs : (q i).g = (bt (st r q i) (q i).t.toNat : Nat)
    · rw [nx_shut hs]; exact ih
    · rw [nx_open hs]
      obtain ⟨h1, h2⟩ := ho.2.resolve_left hs
      exact rdo_irec h1 h2 (by have := ho.1.1; omega)
theorem st_0 {r : Nat → Nat} {q : Nat → AK} : ∀ {i}, (∀ j, j < i → Oka (st r q j) (q j)) → st r q i 0 = r 0
  | 0, _ => rfl
  | i + 1, h => by
    have ho := h i (Nat.lt_succ_self i)
    have ih := st_0 (r := r) (i := i) fun j hj => h j (Nat.lt_succ_of_lt hj)
    show nx (st r q i) (q i) 0 = r 0
    by_cases hs : (q i).g = (bt (st r q i) (q i).t.toNat : Nat)
    · rw [nx_shut hs]; exact ih
    · rw [nx_open hs, rdo_0 (by have := ho.1.1; omega)]; exact ih
theorem irec_nw {s : Nat → Nat} (h : Irec s) : rl (nw (bump s)) = rl (bump s) := rl_congr fun j hj => by
  unfold nw bump
  by_cases e : j = 26
  · subst e
    rw [if_pos rfl, upw_ne (by decide)]
    exact Nat.mod_eq_of_lt h.2.2.2.2.1
  · rw [if_neg e]
    by_cases e2 : j < 29
    · rw [if_pos e2]
    · rw [if_neg e2, upw_ne (by omega)]
      obtain ⟨z, hz, rfl⟩ : ∃ z, z < 3 ∧ j = 29 + z := ⟨j - 29, by omega, by omega⟩
      rw [h.2.2.2.1 z hz]
theorem rf_bump (th : List Value) (s : Nat → Nat) : rv (upv (rf th s 4) 35 (.int .u64 ((s 27 + 1 : Nat) : Int))) = rv (rf th (bump s) 4) := rv_congr fun j hj => by
  unfold upv
  by_cases e : j = 35
  · subst e; rw [if_pos rfl, rf_ver]; unfold bump; rw [upw_eq]
  · rw [if_neg e]
    unfold rf bump
    have u1 : upw s 27 (s 27 + 1) (18 + (j - 19) / 2) = if 18 + (j - 19) / 2 = 27 then s 27 + 1 else s (18 + (j - 19) / 2) := rfl
    have u2 : upw s 27 (s 27 + 1) (j - 5) = if j - 5 = 27 then s 27 + 1 else s (j - 5) := rfl
    have u3 : upw s 27 (s 27 + 1) 26 = s 26 := upw_ne (by decide)
    have u4 : upw s 27 (s 27 + 1) 28 = s 28 := upw_ne (by decide)
    by_cases h1 : j < 19
    · simp only [if_pos h1]
    by_cases h2 : j < 27
    · rw [if_neg (by omega)] at u1
      simp only [if_neg h1, if_pos h2, u1]
    by_cases h3 : j < 31
    · rw [if_neg (by omega)] at u2
      simp only [if_neg h1, if_neg h2, if_pos h3, u2]
    · simp only [if_neg h1, if_neg h2, if_neg h3, u3, u4, if_neg e]
theorem isTh.lst {k : Int} {c : Nat → Nat} (h : isTh k c) (h4 : k ≤ 4) : WList c := by
  rcases h with ⟨_, h⟩ | ⟨_, h, _⟩ | ⟨h, _⟩ | ⟨h, _⟩
  · exact h
  · exact h
  · omega
  · omega
theorem tl_congr {k : Int} {c d : Nat → Nat} (h : isTh k c) (e : ∀ j, j < 17 → c j = d j) : tl k d = tl k c := by
  unfold tl
  by_cases h4 : k ≤ 4
  · rw [if_pos h4, if_pos h4]; exact lst_congr (h.lst h4) fun j hj => (e j hj).symm
  · rw [if_neg h4, if_neg h4]
theorem Tq.congr {k : Int} {c d : Nat → Nat} {v : Value} {t : Tb} {x : Int} (h : Tq k c v t x) (e : ∀ j, j < 17 → c j = d j) : Tq k d v t x :=
  ⟨h.list, fun hk => ⟨(h.table hk).1, by
    rw [(h.table hk).2.1]
    unfold Tb.all
    refine List.map_congr_left fun j hj => ?_
    have hj' : j < 16 := by simpa using hj
    unfold Tb.at tbl
    dsimp only
    rw [e (2 * (j / 2)) (by omega), e (2 * (j / 2) + 1) (by omega)], (h.table hk).2.2⟩, fun hk => ⟨(h.tally hk).1, (h.tally hk).2.1, by rw [(h.tally hk).2.2, e 0 (by decide)]⟩⟩
/-- Behind what grew a row of its own that is none of the lists. -/
theorem Ms.grownQ {n : Nat} {w W W' : World} {L : List (Nat × List Value)} {Q : List (Nat × Value × List Int)} {o : Option Nat} (h : Ms n w W L Q) (hg : W.grownBy W' o) (hn : ∀ g, o = some g → n ≤ g ∧ g ∉ L.map (·.1)) (hq : ∀ g, o = some g → ∀ p ∈ Q, p.2.2 ≠ [] → p.2.1.ownBlock ≠ some g) : Ms n w W' L Q where
  gd := ⟨h.gd.1, h.gd.2.grown hg (h.gd.1 ▸ h.le) fun k hk => by have := (hn k hk).1; rw [h.gd.1]; exact this⟩
  bo p hp := (h.bo p hp).keep (hg.block _ (h.bo p hp).lt (fun e => (hn _ e.symm).2 (List.mem_map.2 ⟨p, hp, rfl⟩))) (Nat.lt_of_lt_of_le (h.bo p hp).lt hg.size)
  ge := h.ge
  nd := h.nd
  li := by
    intro p hp
    rcases h.li p hp with h1 | ⟨b, off, c, h1, h2, h3, h4, h5, h6, h7, h8⟩
    · exact Or.inl h1
    · have hb : W'.heap[b]? = W.heap[b]? := hg.block b h3 fun e => hq b e.symm p hp (by intro e2; rw [e2] at h5; simp at h5) (by rw [h1]; rfl)
      exact Or.inr ⟨b, off, c, h1, h2, Nat.lt_of_lt_of_le h3 hg.size, h4, h5, h6, fun j hj => by rw [World.cell?_of_block (w := W) hb]; exact h7 j hj, fun h0 j hj => by rw [World.frozen?_of_block (w := W) hb]; exact h8 h0 j hj⟩
theorem Odd.app2 {B : Nat} {W : World} {v : Value} {l : List DD} (h : Odd B W v l) (hB : B ≤ W.heap.size) {g : Nat} {d : DD} (hG : Bo W g d.row) (hn : l.length ≤ 1000000) (ty : TypeId) :
    ∃ v' W', (Builtin.append_ #[27, 27] ty #[v, .slice (some ⟨g, 0, none⟩) 1 1]).run Tryz.prog W = .ok v' W' ∧ Odd B W' v' (l ++ [d]) ∧ W.grownBy W' v.ownBlock ∧ (v'.ownBlock = v.ownBlock ∨ v'.ownBlock = some W.heap.size) := by
  obtain ⟨i0, hi, hz0, hz1, hz2⟩ := info_parts infoDeed
  obtain ⟨v', w', hr, ho, hg, _, h5⟩ := run_append_own_at (P := Tryz.prog) (w := W) B 27 ty 60 i0 (.agg #[.int .i64 0, .int .i64 0, .int .i64 0, .int .i64 0, .int .i64 0, .int .i64 0]) 6 48 deeds_desc hi hz0 hz1 hz2 rfl (by decide) v l.length (dds l) h ⟨g, 0, none⟩ 1 1 d.row rfl
    (fun j u hu => by rw [Addr.add_lit, Nat.zero_add]; exact hG.cell j u hu)
    (fun u hu => by simp [DD.row, dl] at hu; rcases hu with rfl | rfl | rfl | rfl | rfl | rfl <;> rfl) (by unfold maxLen; omega) (by omega) hB
  refine ⟨v', w', hr, ?_, hg, h5⟩
  unfold Odd
  rw [dds_app, List.length_append]
  exact ho
end Go.Proofs.YteogbpaaacmllaaGreatDoor.Tab
namespace Go.Proofs.YteogbpaaacmllaaGreatDoor.Tab
set_option maxRecDepth 20000
open Go.RowKit
set_option linter.unusedVariables false

theorem rwF (x y : Int) : Rw Tryz.prog 30 [.int .i64 x, .int .i64 y] := ⟨⟨_, Tryz.underlying30, rfl⟩, by kernel_rfl, by intro v hv; simp at hv; rcases hv with rfl | rfl <;> rfl⟩
theorem rwRa (t g o k x : Int) : Rw Tryz.prog 81 [.int .i64 t, .int .i64 g, .int .i64 o, .int .i64 k, .int .i64 x] := ⟨⟨_, Tryz.underlying81, rfl⟩, by kernel_rfl, by intro v hv; simp at hv; rcases hv with rfl | rfl | rfl | rfl | rfl <;> rfl⟩
theorem resss1 {P : Program} {fn : Func} {p q r : Tmp} {ty : TypeId} {tmps : Array Value} {w : World} {b : Nat} {cs : List Value} (h : fn.results = #[.tmp q, .tmp r, .cell p ty]) (v u : Value) (hB : Bo w b cs) (r1 : Rw P ty cs) (hp : tmps.getD p undef = .pointer (some ⟨b, 0, none⟩) := by rfl) (hq : tmps.getD q undef = v := by rfl) (hr : tmps.getD r undef = u := by rfl) :
    (results fn tmps).run P w = .ok (.tuple #[v, u, .agg cs.toArray]) w := by
  obtain ⟨d, h1, h2⟩ := r1.lay
  have hp' : tmps[p]?.getD undef = .pointer (some ⟨b, 0, none⟩) := by simpa using hp
  have hq' : tmps[q]?.getD undef = v := by simpa using hq
  have hr' : tmps[r]?.getD undef = u := by simpa using hr
  simp [results, h, hp', hq', hr', asAddr, run_loadVar_mid w b 0 ty cs d hB.range h1 h2 r1.size]
theorem rwit_yes (a b c : Int) (w : World) (h1 : b ≤ a) (h2 : a ≤ c) :
    Calls Tryz.prog 31 #[.int .i64 a, .int .i64 b, .int .i64 c] w fun e w' => e = .returned (.bool true) ∧ w' = w := by
  go_enter Tryz.func31, Tryz.ntmps31
  go_wp2
  go_ret
  exact ⟨rfl, rfl⟩
theorem rwit_no (a b c : Int) (w : World) (h : a < b ∨ c < a) :
    Calls Tryz.prog 31 #[.int .i64 a, .int .i64 b, .int .i64 c] w fun e w' => e = .returned (.bool false) ∧ w' = w := by
  by_cases h1 : b ≤ a
  · have h2 : ¬ a ≤ c := by omega
    clear h
    go_enter Tryz.func31, Tryz.ntmps31
    go_wp2
    go_ret
    exact ⟨rfl, rfl⟩
  · clear h
    go_enter Tryz.func31, Tryz.ntmps31
    go_wp2
    go_ret
    exact ⟨rfl, rfl⟩
theorem rgood_is (w : World) : Calls Tryz.prog 35 #[] w fun e w' => e = .returned (.agg #[.int .i64 0, .int .i64 (-1)]) ∧ Below w.heap.size w w' := by
  go_enter Tryz.func35, Tryz.ntmps35
  go_wp2
  exact bodyPost_ret (v := .agg #[.int .i64 0, .int .i64 (-1)]) (by simp [results, Tryz.results35, go_sem]) rfl ⟨rfl, (Below.refl _ w).alloc (Nat.le_refl _) _⟩
theorem rbare_is (x : Int) (w : World) : Calls Tryz.prog 30 #[.int .i64 x] w fun e w' => e = .returned (.agg #[.int .i64 x, .int .i64 (-1)]) ∧ Below w.heap.size w w' := by
  go_enter Tryz.func30, Tryz.ntmps30
  go_wp2
  exact bodyPost_ret (v := .agg #[.int .i64 x, .int .i64 (-1)]) (by simp [results, Tryz.results30, go_sem]) rfl ⟨rfl, (Below.refl _ w).alloc (Nat.le_refl _) _⟩
end Go.Proofs.YteogbpaaacmllaaGreatDoor.Tab
namespace Go.Proofs.YteogbpaaacmllaaGreatDoor.Tab
set_option maxRecDepth 20000
open Go.RowKit
set_option linter.unusedVariables false

set_option maxHeartbeats 4000000 in
theorem same_is {α β : Nat → Nat} {v : Bool} (hv : v = true ↔ ∀ j, j < 32 → α j = β j) {ba bb ka kb : Nat} (w : World) (hA : Bo w ba (rl α)) (hB : Bo w bb (rl β)) :
    Calls Tryz.prog 53 #[.slice (some ⟨ba, 0, none⟩) 32 ka, .slice (some ⟨bb, 0, none⟩) 32 kb] w (fun e w' => e = .returned (.bool v) ∧ Below w.heap.size w w') := by
  have HV : Hid _ := hv
  have HA : Hid _ := hA
  have HB : Hid _ := hB
  clear hv hA hB
  have hM : Hid _ := (Ms.nil w)
  go_enter Tryz.func53, Tryz.ntmps53
  go_wp2_with fail
  generalize hsz : w.heap.size = n at hM ⊢
  clear hsz
  go_loopg [8] 32 (fun gg s8 wt => ∃ i : Nat, i ≤ 32 ∧ 32 - i ≤ gg ∧ s8 = .int .i64 i ∧ Hid (Ms n w wt [] []) ∧ Hid (∀ j, j < i → α j = β j))
  case atStart => exact ⟨0, by omega, by omega, rfl, hM, fun t ht => absurd ht (by omega)⟩
  case round =>
    clear hM
    obtain ⟨i, hi, hgg, rfl, hM, A⟩ := hrel
    obtain ⟨W, rfl⟩ : ∃ q, q = wr := ⟨_, rfl⟩
    by_cases hlt : i < 32
    · have hi1 : (i : Int) < 32 := by omega
      have hi0 : (0 : Int) ≤ (i : Int) := by omega
      have hi2 : ¬ (32 : Int) ≤ (i : Int) := by omega
      have hi3 : decide ((32 : Int) ≤ (i : Int)) = false := by simp; omega
      obtain ⟨x, hx⟩ : ∃ x, α i = x := ⟨_, rfl⟩
      obtain ⟨y, hy⟩ : ∃ y, β i = y := ⟨_, rfl⟩
      have HX : Hid _ := hx
      have HY : Hid _ := hy
      clear hx hy
      by_cases hxy : x = y
      · have ex : (((x : Nat) : Int) == ((y : Nat) : Int)) = true := by simp [hxy]
        have ne : ((x : Nat) : Int) = ((y : Nat) : Int) := by omega
        have A1 : Hid (α i = β i) := HX.out.trans (hxy.trans HY.out.symm)
        clear hxy ne
        go_wp2_with fail
        replace hM := hid (hM.out.drew)
        refine wp_region_held_drew (S := fun w' => Bo w' ba (rl α) ∧ Bo w' bb (rl β)) (by kernel_rfl) ⟨HA.out.later hM.out.below, HB.out.later hM.out.below⟩ (fun hH => ?_)
        generalize World.drew _ = W at hM hH  ⊢
        refine tk 0 rfl hH ?_
        simp only [Act.put, p1, p2, p3]
        refine tk 1 rfl hH ?_
        simp only [Act.put, p1, p2, p3]
        refine tk 2 rfl hH ?_
        simp only [Act.put, p1, p2, p3]
        refine tk 3 rfl hH ?_
        simp only [Act.put, p1, p2, p3]
        refine tk 4 rfl hH ?_
        simp only [Act.put, p1, p2, p3]
        refine tk 5 rfl hH ?_
        simp only [Act.put, p1, p2, p3]
        refine tk 6 rfl hH ?_
        simp only [Act.put, p1, p2, p3]
        refine tk 7 rfl hH ?_
        simp only [Act.put, p1, p2, p3]
        refine tk 8 rfl hH ?_ (by intro w h; have c0 := h.1.rwordx hlt HX.out; clear h; go_simp; try with_reducible rfl)
        simp only [Act.put, p1, p2, p3]
        refine tk 9 rfl hH ?_
        simp only [Act.put, p1, p2, p3]
        refine tk 10 rfl hH ?_
        simp only [Act.put, p1, p2, p3]
        refine tk 11 rfl hH ?_
        simp only [Act.put, p1, p2, p3]
        refine tk 12 rfl hH ?_ (by intro w h; have c0 := h.2.rwordx hlt HY.out; clear h; go_simp; try with_reducible rfl)
        simp only [Act.put, p1, p2, p3]
        refine tk 13 rfl hH ?_
        simp only [Act.put, p1, p2, p3]
        refine tk 14 rfl hH ?_
        simp only [Act.put, p1, p2, p3]
        refine wpAnyH_done (by kernel_rfl) ?_ _
        go_wp2
        go_roundg (32 - (i + 1))
        case measure => omega
        case rel => exact ⟨i + 1, by omega, by omega, by go_num, hM, fun t ht => by by_cases e : t = i; (subst e; exact A1.out); exact A.out t (by omega)⟩
      · have ex : (((x : Nat) : Int) == ((y : Nat) : Int)) = false := by simp; omega
        have E : Hid (v = false) := by cases v with | false => rfl | true => exact absurd (HV.out.1 rfl i hlt) (by rw [HX.out, HY.out]; exact hxy)
        clear hxy
        go_wp2_with fail
        replace hM := hid (hM.out.drew)
        refine wp_region_held_drew (S := fun w' => Bo w' ba (rl α) ∧ Bo w' bb (rl β)) (by kernel_rfl) ⟨HA.out.later hM.out.below, HB.out.later hM.out.below⟩ (fun hH => ?_)
        generalize World.drew _ = W at hM hH  ⊢
        refine tk 0 rfl hH ?_
        simp only [Act.put, p1, p2, p3]
        refine tk 1 rfl hH ?_
        simp only [Act.put, p1, p2, p3]
        refine tk 2 rfl hH ?_
        simp only [Act.put, p1, p2, p3]
        refine tk 3 rfl hH ?_
        simp only [Act.put, p1, p2, p3]
        refine tk 4 rfl hH ?_
        simp only [Act.put, p1, p2, p3]
        refine tk 5 rfl hH ?_
        simp only [Act.put, p1, p2, p3]
        refine tk 6 rfl hH ?_
        simp only [Act.put, p1, p2, p3]
        refine tk 7 rfl hH ?_
        simp only [Act.put, p1, p2, p3]
        refine tk 8 rfl hH ?_ (by intro w h; have c0 := h.1.rwordx hlt HX.out; clear h; go_simp; try with_reducible rfl)
        simp only [Act.put, p1, p2, p3]
        refine tk 9 rfl hH ?_
        simp only [Act.put, p1, p2, p3]
        refine tk 10 rfl hH ?_
        simp only [Act.put, p1, p2, p3]
        refine tk 11 rfl hH ?_
        simp only [Act.put, p1, p2, p3]
        refine tk 12 rfl hH ?_ (by intro w h; have c0 := h.2.rwordx hlt HY.out; clear h; go_simp; try with_reducible rfl)
        simp only [Act.put, p1, p2, p3]
        refine tk 13 rfl hH ?_
        simp only [Act.put, p1, p2, p3]
        refine tk 14 rfl hH ?_
        simp only [Act.put, p1, p2, p3]
        refine wpAnyH_done (by kernel_rfl) ?_ _
        go_wp2
        go_ret
        exact ⟨ret_bool E.out.symm, hM.out.below⟩
    · obtain rfl : i = 32 := by omega
      have E : Hid (v = true) := HV.out.2 A.out
      go_wp2
      go_ret
      exact ⟨ret_bool E.out.symm, hM.out.below⟩
end Go.Proofs.YteogbpaaacmllaaGreatDoor.Tab
