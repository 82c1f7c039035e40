/- The reference's ends, by its contracts: where nothing is put in or taken out. -/
import Derived.Test.YtenkjkfnampkiaaRf
import Derived.Deep.RegionLaw
namespace Go.Proofs.Ytenkjkfnampkiaa
open Go.RowKit

/-- What the last line passes through: the operation, the answer to be, the list that came in at one place, the copy. -/
structure Rg (w W : World) (o k x : Int) (b off : Nat) (z : Int) (kv : Value) (xs : List Int) : Prop where
  fr : Fr w W o k x
  cl : W.cell? ⟨b, off, none⟩ = some (.int .i64 z)
  kp : IsL (w.heap.size + 2) W kv xs
theorem Rg.later {w W W' : World} {o k x : Int} {b off : Nat} {z : Int} {kv : Value} {xs : List Int} (h : Rg w W o k x b off z kv xs) (hb : Below W.heap.size W W') : Rg w W' o k x b off z kv xs where
  fr := h.fr.later (hb.mono h.fr.sz)
  cl := by rw [hb.cell (p := ⟨b, off, none⟩) (World.block_lt_of_cell? _ _ h.cl)]; exact h.cl
  kp := h.kp.later hb

set_option maxHeartbeats 2000000 in
theorem ends_count {B : Nat} {v : Value} {xs : List Int} {w : World} (k x : Int) (ou : Int) (h : IsL B w v xs) (hx : xs.length ≤ 60) :
    Calls Try.prog 27 #[v, .agg #[.int .i64 6, .int .i64 k, .int .i64 x], .bool false, .int .i64 ou] w (Made w xs 1 xs.length) := by
  have F0 : Hid (Fr w (two w 6 k x) 6 k x) := Fr.start w 6 k x
  have X : Hid (IsL B (two w 6 k x) v xs) := h.later F0.out.gr
  have HX : Hid (xs.length ≤ 1000000) := Nat.le_trans hx (by decide)
  obtain ⟨a, c, rfl⟩ := h.form
  clear h
  go_enter Try.func27, Try.ntmps27
  go_wp2_with (at_builtin; refine wpList_copy rfl rfl (.const (.slice none 0 0)) (.tmp 11) rfl rfl rfl X.out HX.out ?_)
  intro v1 w1 hown hb
  have hown' : Own (w.heap.size + 2) w1 v1 xs := hown
  have hb' : Below (w.heap.size + 2) (two w 6 k x) w1 := hb
  have F1 : Hid (Fr w w1 6 k x) := F0.out.later hb'
  have O1 : Hid (Own (w.heap.size + 2) w1 v1 xs) := hown'
  clear hown hb hown' hb' F0
  have o0 := F1.out.o0
  have o2 := F1.out.o2
  have r0 := F1.out.r0
  have r1 := F1.out.r1
  have f0 := F1.out.f0
  have f1 := F1.out.f1
  go_wp2_with fail
  refine (said_is _ _ _).mono ?_
  rintro e w2 ⟨rfl, hb⟩
  have F2 : Hid (Fr w w2 6 k x) := F1.out.later (hb.mono F1.out.sz)
  have I2 : Hid (IsL (w.heap.size + 2) w2 v1 xs) := O1.out.isL.later hb
  clear hb o0 o2 r0 r1 f0 f1 F1
  have o0 := F2.out.o0
  have o2 := F2.out.o2
  have r0 := F2.out.r0
  have r1 := F2.out.r1
  have f0 := F2.out.f0
  have f1 := F2.out.f1
  go_wp2
  refine bodyPost_ret (v := .tuple #[v1, .agg #[.int .i64 1, .int .i64 xs.length]]) ?_ rfl (F2.out.made 1 xs.length I2.out)
  have E := F2.out.ends 1 xs.length
  unfold wr at E
  simp [results, Try.results27, go_sem, E.1, E.2.1]

set_option maxHeartbeats 2000000 in
theorem ends_full {B : Nat} {v : Value} {xs : List Int} {w : World} (k x : Int) (ou : Int) (h6 : 6 ≤ xs.length) (h : IsL B w v xs) (hx : xs.length ≤ 60) :
    Calls Try.prog 27 #[v, .agg #[.int .i64 1, .int .i64 k, .int .i64 x], .bool false, .int .i64 ou] w (Made w xs 3 0) := by
  have F0 : Hid (Fr w (two w 1 k x) 1 k x) := Fr.start w 1 k x
  have X : Hid (IsL B (two w 1 k x) v xs) := h.later F0.out.gr
  have HX : Hid (xs.length ≤ 1000000) := Nat.le_trans hx (by decide)
  obtain ⟨a, c, rfl⟩ := h.form
  have h6i : (6 : Int) ≤ (xs.length : Int) := by omega
  clear h
  go_enter Try.func27, Try.ntmps27
  go_wp2_with (at_builtin; refine wpList_copy rfl rfl (.const (.slice none 0 0)) (.tmp 11) rfl rfl rfl X.out HX.out ?_)
  intro v1 w1 hown hb
  have hown' : Own (w.heap.size + 2) w1 v1 xs := hown
  have hb' : Below (w.heap.size + 2) (two w 1 k x) w1 := hb
  have F1 : Hid (Fr w w1 1 k x) := F0.out.later hb'
  have O1 : Hid (Own (w.heap.size + 2) w1 v1 xs) := hown'
  clear hown hb hown' hb' F0
  have o0 := F1.out.o0
  have o2 := F1.out.o2
  have r0 := F1.out.r0
  have r1 := F1.out.r1
  have f0 := F1.out.f0
  have f1 := F1.out.f1
  go_wp2_with fail
  refine (said_is _ _ _).mono ?_
  rintro e w2 ⟨rfl, hb⟩
  have F2 : Hid (Fr w w2 1 k x) := F1.out.later (hb.mono F1.out.sz)
  have I2 : Hid (IsL (w.heap.size + 2) w2 v1 xs) := O1.out.isL.later hb
  clear hb o0 o2 r0 r1 f0 f1 F1
  have o0 := F2.out.o0
  have o2 := F2.out.o2
  have r0 := F2.out.r0
  have r1 := F2.out.r1
  have f0 := F2.out.f0
  have f1 := F2.out.f1
  go_wp2
  refine bodyPost_ret (v := .tuple #[v1, .agg #[.int .i64 3, .int .i64 0]]) ?_ rfl (F2.out.made 3 0 I2.out)
  have E := F2.out.ends 3 0
  unfold wr at E
  simp [results, Try.results27, go_sem, E.1, E.2.1]

set_option maxHeartbeats 2000000 in
theorem ends_none {B : Nat} {v : Value}  {w : World} (k x : Int) (o ou : Int) (n1 : o ≠ 1) (n3 : o ≠ 3) (n6 : o ≠ 6) (h : IsL B w v ([] : List Int)) (hx : ([] : List Int).length ≤ 60) :
    Calls Try.prog 27 #[v, .agg #[.int .i64 o, .int .i64 k, .int .i64 x], .bool false, .int .i64 ou] w (Made w [] 2 0) := by
  have F0 : Hid (Fr w (two w o k x) o k x) := Fr.start w o k x
  have X : Hid (IsL B (two w o k x) v ([] : List Int)) := h.later F0.out.gr
  have HX : Hid (([] : List Int).length ≤ 1000000) := Nat.le_trans hx (by decide)
  obtain ⟨a, c, rfl⟩ := h.form
  have n1' : (o == 1) = false := by simp [n1]
  have n3' : (o == 3) = false := by simp [n3]
  have n6' : (o == 6) = false := by simp [n6]
  clear h
  go_enter Try.func27, Try.ntmps27
  go_wp2_with (at_builtin; refine wpList_copy rfl rfl (.const (.slice none 0 0)) (.tmp 11) rfl rfl rfl X.out HX.out ?_)
  intro v1 w1 hown hb
  have hown' : Own (w.heap.size + 2) w1 v1 ([] : List Int) := hown
  have hb' : Below (w.heap.size + 2) (two w o k x) w1 := hb
  have F1 : Hid (Fr w w1 o k x) := F0.out.later hb'
  have O1 : Hid (Own (w.heap.size + 2) w1 v1 ([] : List Int)) := hown'
  clear hown hb hown' hb' F0
  have o0 := F1.out.o0
  have o2 := F1.out.o2
  have r0 := F1.out.r0
  have r1 := F1.out.r1
  have f0 := F1.out.f0
  have f1 := F1.out.f1
  go_wp2_with fail
  refine (said_is _ _ _).mono ?_
  rintro e w2 ⟨rfl, hb⟩
  have F2 : Hid (Fr w w2 o k x) := F1.out.later (hb.mono F1.out.sz)
  have I2 : Hid (IsL (w.heap.size + 2) w2 v1 []) := O1.out.isL.later hb
  clear hb o0 o2 r0 r1 f0 f1 F1
  have o0 := F2.out.o0
  have o2 := F2.out.o2
  have r0 := F2.out.r0
  have r1 := F2.out.r1
  have f0 := F2.out.f0
  have f1 := F2.out.f1
  go_wp2
  refine bodyPost_ret (v := .tuple #[v1, .agg #[.int .i64 2, .int .i64 0]]) ?_ rfl (F2.out.made 2 0 I2.out)
  have E := F2.out.ends 2 0
  unfold wr at E
  simp [results, Try.results27, go_sem, E.1, E.2.1]

set_option maxHeartbeats 2000000 in
theorem ends_peek {B : Nat} {v : Value} {xs : List Int} {ou : Nat} {z : Int} {w : World} (k x : Int) (ho : ou < xs.length) (hzz : xs.getD ou 0 = z) (h : IsL B w v xs) (hx : xs.length ≤ 60) :
    Calls Try.prog 27 #[v, .agg #[.int .i64 5, .int .i64 k, .int .i64 x], .bool false, .int .i64 (ou : Nat)] w (Made w xs 1 z) := by
  have F0 : Hid (Fr w (two w 5 k x) 5 k x) := Fr.start w 5 k x
  have X : Hid (IsL B (two w 5 k x) v xs) := h.later F0.out.gr
  have HX : Hid (xs.length ≤ 1000000) := Nat.le_trans hx (by decide)
  rcases h with ⟨rfl, _⟩ | ⟨b, off, c, rfl, hB, h0, hc, hcell, _⟩
  · simp at ho
  have hz : w.cell? ⟨b, off + ou, none⟩ = some (.int .i64 z) := by rw [hcell ou ho, hzz]
  have Z : Hid (w.cell? ⟨b, off + ou, none⟩ = some (.int .i64 z)) := hz
  have hbl : b < w.heap.size := World.block_lt_of_cell? _ _ hz
  have hne : ((xs.length : Int) == 0) = false := by rw [beq_eq_false_iff_ne]; omega
  have ho1 : (ou : Int) < (xs.length : Int) := by omega
  have ho0 : (0 : Int) ≤ (ou : Int) := by omega
  have HZ : Hid (xs.getD ou 0 = z) := hzz
  clear hz hcell hzz
  go_enter Try.func27, Try.ntmps27
  go_wp2_with (at_builtin; refine wpList_copy rfl rfl (.const (.slice none 0 0)) (.tmp 11) rfl rfl rfl X.out HX.out ?_)
  intro v1 w1 hown hb
  have hown' : Own (w.heap.size + 2) w1 v1 xs := hown
  have hb' : Below (w.heap.size + 2) (two w 5 k x) w1 := hb
  have F1 : Hid (Fr w w1 5 k x) := F0.out.later hb'
  have O1 : Hid (Own (w.heap.size + 2) w1 v1 xs) := hown'
  clear hown hb hown' hb' F0
  have o0 := F1.out.o0
  have o2 := F1.out.o2
  have r0 := F1.out.r0
  have r1 := F1.out.r1
  have f0 := F1.out.f0
  have f1 := F1.out.f1
  have hz1 : w1.cell? ⟨b, off + ou, none⟩ = some (.int .i64 z) := by rw [F1.out.gr.cell (p := ⟨b, off + ou, none⟩) hbl]; exact Z.out
  go_wp2_with fail
  refine (said_is _ _ _).mono ?_
  rintro e w2 ⟨rfl, hb⟩
  have F2 : Hid (Fr w w2 5 k x) := F1.out.later (hb.mono F1.out.sz)
  have I2 : Hid (IsL (w.heap.size + 2) w2 v1 xs) := O1.out.isL.later hb
  clear hb o0 o2 r0 r1 f0 f1 F1
  have o0 := F2.out.o0
  have o2 := F2.out.o2
  have r0 := F2.out.r0
  have r1 := F2.out.r1
  have f0 := F2.out.f0
  have f1 := F2.out.f1
  go_wp2
  refine bodyPost_ret (v := .tuple #[v1, .agg #[.int .i64 1, .int .i64 z]]) ?_ rfl (F2.out.made 1 z I2.out)
  have E := F2.out.ends 1 z
  unfold wr at E
  simp [results, Try.results27, go_sem, E.1, E.2.1]

end Go.Proofs.Ytenkjkfnampkiaa
