/- The reference's ends, by its contracts. -/
import Derived.Test.YtbmgjpdfmgcigabDoorRf
import Derived.Deep.RegionLaw
namespace Go.Proofs.YtbmgjpdfmgcigabDoor
set_option maxRecDepth 20000
open Go.RowKit

/-- What the last line passes through: the operation, the answer to be, the list that came in at one place, the copy. -/
structure Rg (w W : World) (o k x : Int) (b off : Nat) (z : Int) (kv : Value) (xs : List Int) : Prop where
  fr : Fr w W o k x
  cl : W.cell? ⟨b, off, none⟩ = some (.int .i64 z)
  kp : IsL (w.heap.size + 2) W kv xs
theorem Own.lit {B : Nat} (w : World) (x : Int) (hB : B ≤ w.heap.size) : Own B (w.alloc (.cells #[.int .i64 x] 3)) (.slice (some ⟨w.heap.size, 0, none⟩) 1 1) [x] :=
  ⟨rfl, .inr ⟨w.heap.size, 1, #[.int .i64 x], rfl, hB, heap_alloc_new w _, Nat.le_refl _, by decide, rfl, rfl⟩⟩
theorem Rg.later {w W W' : World} {o k x : Int} {b off : Nat} {z : Int} {kv : Value} {xs : List Int} (h : Rg w W o k x b off z kv xs) (hb : Below W.heap.size W W') : Rg w W' o k x b off z kv xs where
  fr := h.fr.later (hb.mono h.fr.sz)
  cl := by rw [hb.cell (p := ⟨b, off, none⟩) (World.block_lt_of_cell? _ _ h.cl)]; exact h.cl
  kp := h.kp.later hb

set_option maxHeartbeats 2000000 in
theorem ends_count {B : Nat} {v : Value} {xs : List Int} {w : World} (k x : Int) (ou : Int) (h : IsL B w v xs) (hx : xs.length ≤ 60) :
    Calls Tryd.prog 44 #[v, .agg #[.int .i64 6, .int .i64 k, .int .i64 x], .bool false, .int .i64 ou] w (Made w xs 1 xs.length) := by
  have F0 : Hid (Fr w (two w 6 k x) 6 k x) := Fr.start w 6 k x
  have X : Hid (IsL B (two w 6 k x) v xs) := h.later F0.out.gr
  have HX : Hid (xs.length ≤ 1000000) := Nat.le_trans hx (by decide)
  obtain ⟨a, c, rfl⟩ := h.form
  clear h
  go_enter Tryd.func44, Tryd.ntmps44
  go_wp2_with (at_builtin; refine wpList_copy rfl rfl (.const (.slice none 0 0)) (.tmp 11) rfl rfl rfl X.out HX.out ?_)
  intro v1 w1 hown hb
  have hown' : Own (w.heap.size + 2) w1 v1 xs := hown
  have hb' : Below (w.heap.size + 2) (two w 6 k x) w1 := hb
  have F1 : Hid (Fr w w1 6 k x) := F0.out.later hb'
  have O1 : Hid (Own (w.heap.size + 2) w1 v1 xs) := hown'
  clear hown hb hown' hb' F0
  have o0 := F1.out.o0
  have o2 := F1.out.o2
  have r0 := F1.out.r0
  have r1 := F1.out.r1
  have f0 := F1.out.f0
  have f1 := F1.out.f1
  go_wp2_with fail
  refine (said_is _ _ _).mono ?_
  rintro e w2 ⟨rfl, hb⟩
  have F2 : Hid (Fr w w2 6 k x) := F1.out.later (hb.mono F1.out.sz)
  have I2 : Hid (IsL (w.heap.size + 2) w2 v1 xs) := O1.out.isL.later hb
  clear hb o0 o2 r0 r1 f0 f1 F1
  have o0 := F2.out.o0
  have o2 := F2.out.o2
  have r0 := F2.out.r0
  have r1 := F2.out.r1
  have f0 := F2.out.f0
  have f1 := F2.out.f1
  go_wp2
  refine bodyPost_ret (v := .tuple #[v1, .agg #[.int .i64 1, .int .i64 xs.length]]) ?_ rfl (F2.out.made 1 xs.length I2.out)
  have E := F2.out.ends 1 xs.length
  unfold wr at E
  simp [results, Tryd.results44, go_sem, E.1, E.2.1]

set_option maxHeartbeats 2000000 in
theorem ends_full {B : Nat} {v : Value} {xs : List Int} {w : World} (k x : Int) (ou : Int) (h6 : 6 ≤ xs.length) (h : IsL B w v xs) (hx : xs.length ≤ 60) :
    Calls Tryd.prog 44 #[v, .agg #[.int .i64 1, .int .i64 k, .int .i64 x], .bool false, .int .i64 ou] w (Made w xs 3 0) := by
  have F0 : Hid (Fr w (two w 1 k x) 1 k x) := Fr.start w 1 k x
  have X : Hid (IsL B (two w 1 k x) v xs) := h.later F0.out.gr
  have HX : Hid (xs.length ≤ 1000000) := Nat.le_trans hx (by decide)
  obtain ⟨a, c, rfl⟩ := h.form
  have h6i : (6 : Int) ≤ (xs.length : Int) := by omega
  clear h
  go_enter Tryd.func44, Tryd.ntmps44
  go_wp2_with (at_builtin; refine wpList_copy rfl rfl (.const (.slice none 0 0)) (.tmp 11) rfl rfl rfl X.out HX.out ?_)
  intro v1 w1 hown hb
  have hown' : Own (w.heap.size + 2) w1 v1 xs := hown
  have hb' : Below (w.heap.size + 2) (two w 1 k x) w1 := hb
  have F1 : Hid (Fr w w1 1 k x) := F0.out.later hb'
  have O1 : Hid (Own (w.heap.size + 2) w1 v1 xs) := hown'
  clear hown hb hown' hb' F0
  have o0 := F1.out.o0
  have o2 := F1.out.o2
  have r0 := F1.out.r0
  have r1 := F1.out.r1
  have f0 := F1.out.f0
  have f1 := F1.out.f1
  go_wp2_with fail
  refine (said_is _ _ _).mono ?_
  rintro e w2 ⟨rfl, hb⟩
  have F2 : Hid (Fr w w2 1 k x) := F1.out.later (hb.mono F1.out.sz)
  have I2 : Hid (IsL (w.heap.size + 2) w2 v1 xs) := O1.out.isL.later hb
  clear hb o0 o2 r0 r1 f0 f1 F1
  have o0 := F2.out.o0
  have o2 := F2.out.o2
  have r0 := F2.out.r0
  have r1 := F2.out.r1
  have f0 := F2.out.f0
  have f1 := F2.out.f1
  go_wp2
  refine bodyPost_ret (v := .tuple #[v1, .agg #[.int .i64 3, .int .i64 0]]) ?_ rfl (F2.out.made 3 0 I2.out)
  have E := F2.out.ends 3 0
  unfold wr at E
  simp [results, Tryd.results44, go_sem, E.1, E.2.1]

set_option maxHeartbeats 2000000 in
theorem ends_none {B : Nat} {v : Value}  {w : World} (k x : Int) (o ou : Int) (n1 : o ≠ 1) (n3 : o ≠ 3) (n6 : o ≠ 6) (h : IsL B w v ([] : List Int)) (hx : ([] : List Int).length ≤ 60) :
    Calls Tryd.prog 44 #[v, .agg #[.int .i64 o, .int .i64 k, .int .i64 x], .bool false, .int .i64 ou] w (Made w [] 2 0) := by
  have F0 : Hid (Fr w (two w o k x) o k x) := Fr.start w o k x
  have X : Hid (IsL B (two w o k x) v ([] : List Int)) := h.later F0.out.gr
  have HX : Hid (([] : List Int).length ≤ 1000000) := Nat.le_trans hx (by decide)
  obtain ⟨a, c, rfl⟩ := h.form
  have n1' : (o == 1) = false := by simp [n1]
  have n3' : (o == 3) = false := by simp [n3]
  have n6' : (o == 6) = false := by simp [n6]
  clear h
  go_enter Tryd.func44, Tryd.ntmps44
  go_wp2_with (at_builtin; refine wpList_copy rfl rfl (.const (.slice none 0 0)) (.tmp 11) rfl rfl rfl X.out HX.out ?_)
  intro v1 w1 hown hb
  have hown' : Own (w.heap.size + 2) w1 v1 ([] : List Int) := hown
  have hb' : Below (w.heap.size + 2) (two w o k x) w1 := hb
  have F1 : Hid (Fr w w1 o k x) := F0.out.later hb'
  have O1 : Hid (Own (w.heap.size + 2) w1 v1 ([] : List Int)) := hown'
  clear hown hb hown' hb' F0
  have o0 := F1.out.o0
  have o2 := F1.out.o2
  have r0 := F1.out.r0
  have r1 := F1.out.r1
  have f0 := F1.out.f0
  have f1 := F1.out.f1
  go_wp2_with fail
  refine (said_is _ _ _).mono ?_
  rintro e w2 ⟨rfl, hb⟩
  have F2 : Hid (Fr w w2 o k x) := F1.out.later (hb.mono F1.out.sz)
  have I2 : Hid (IsL (w.heap.size + 2) w2 v1 []) := O1.out.isL.later hb
  clear hb o0 o2 r0 r1 f0 f1 F1
  have o0 := F2.out.o0
  have o2 := F2.out.o2
  have r0 := F2.out.r0
  have r1 := F2.out.r1
  have f0 := F2.out.f0
  have f1 := F2.out.f1
  go_wp2
  refine bodyPost_ret (v := .tuple #[v1, .agg #[.int .i64 2, .int .i64 0]]) ?_ rfl (F2.out.made 2 0 I2.out)
  have E := F2.out.ends 2 0
  unfold wr at E
  simp [results, Tryd.results44, go_sem, E.1, E.2.1]

set_option maxHeartbeats 2000000 in
theorem ends_put {B : Nat} {v : Value} {xs : List Int} {w : World} (k x : Int) (ou : Int) (h6 : xs.length < 6) (h : IsL B w v xs) (hx : xs.length ≤ 60) :
    Calls Tryd.prog 44 #[v, .agg #[.int .i64 1, .int .i64 k, .int .i64 x], .bool false, .int .i64 ou] w (Made w (xs ++ [x]) 1 0) := by
  have F0 : Hid (Fr w (two w 1 k x) 1 k x) := Fr.start w 1 k x
  have X : Hid (IsL B (two w 1 k x) v xs) := h.later F0.out.gr
  have HX : Hid (xs.length ≤ 1000000) := Nat.le_trans hx (by decide)
  obtain ⟨a, c, rfl⟩ := h.form
  have h6i : (xs.length : Int) < 6 := by omega
  clear h
  go_enter Tryd.func44, Tryd.ntmps44
  go_wp2_with (at_builtin; refine wpList_copy rfl rfl (.const (.slice none 0 0)) (.tmp 11) rfl rfl rfl X.out HX.out ?_)
  intro v1 w1 hown hb
  have hown' : Own (w.heap.size + 2) w1 v1 xs := hown
  have hb' : Below (w.heap.size + 2) (two w 1 k x) w1 := hb
  have F1 : Hid (Fr w w1 1 k x) := F0.out.later hb'
  have O1 : Hid (Own (w.heap.size + 2) w1 v1 xs) := hown'
  clear hown hb hown' hb' F0
  have o0 := F1.out.o0
  have o2 := F1.out.o2
  have r0 := F1.out.r0
  have r1 := F1.out.r1
  have f0 := F1.out.f0
  have f1 := F1.out.f1
  obtain ⟨i0, hi, hz0, hz1, hz2⟩ := info_parts info_int
  have hlt : Hid (∀ j, v1.ownBlock = some j → w.heap.size + 2 ≤ j ∧ j < w1.heap.size) := O1.out.lt
  have hsz := F1.out.sz
  go_wp2_with (at_builtin; refine wpList_append_own _ rfl (.tmp 42) (.tmp 45) 27 rfl (w.heap.size + 2) 3 i0 (.int .i64 0) 1 8 Tryd.underlying27 hi hz0 hz1 hz2 rfl (by decide) _ _ _ rfl (O1.out.alloc _) ⟨w1.heap.size, 0, none⟩ 1 1 [.int .i64 x] rfl rfl (cell_one_new _ _ _) (by intro u hu; simp at hu; subst hu; rfl) (by unfold maxLen; omega) (by omega) (by simp; omega) ?_)
  intro v3 w3 hown hgrow _
  have F3 : Hid (Fr w w3 1 k x) := F1.out.later (((Below.refl (w.heap.size + 2) w1).alloc hsz _).grown hgrow (by simp; omega) (fun j hj => (hlt.out j hj).1))
  have O3 : Hid (Own (w.heap.size + 2) w3 v3 (xs ++ [x])) := by
    show w3.ownsRow _ _ 1 v3 _ _
    simpa using hown
  clear hown hgrow hlt hsz o0 o2 r0 r1 f0 f1 F1 O1
  have o0 := F3.out.o0
  have o2 := F3.out.o2
  have r0 := F3.out.r0
  have r1 := F3.out.r1
  have f0 := F3.out.f0
  have f1 := F3.out.f1
  go_wp2_with fail
  refine (said_is _ _ _).mono ?_
  rintro e w2 ⟨rfl, hb⟩
  have F2 : Hid (Fr w w2 1 k x) := F3.out.later (hb.mono F3.out.sz)
  have I2 : Hid (IsL (w.heap.size + 2) w2 v3 (xs ++ [x])) := O3.out.isL.later hb
  clear hb o0 o2 r0 r1 f0 f1 F3
  have o0 := F2.out.o0
  have o2 := F2.out.o2
  have r0 := F2.out.r0
  have r1 := F2.out.r1
  have f0 := F2.out.f0
  have f1 := F2.out.f1
  go_wp2
  refine bodyPost_ret (v := .tuple #[v3, .agg #[.int .i64 1, .int .i64 0]]) ?_ rfl (F2.out.made 1 0 I2.out)
  have E := F2.out.ends 1 0
  unfold wr at E
  simp [results, Tryd.results44, go_sem, E.1, E.2.1]

set_option maxHeartbeats 2000000 in
theorem ends_ffull {B : Nat} {v : Value} {xs : List Int} {w : World} (k x : Int) (ou : Int) (h6 : 6 ≤ xs.length) (h : IsL B w v xs) (hx : xs.length ≤ 60) :
    Calls Tryd.prog 44 #[v, .agg #[.int .i64 3, .int .i64 k, .int .i64 x], .bool true, .int .i64 ou] w (Made w xs 3 0) := by
  have F0 : Hid (Fr w (two w 3 k x) 3 k x) := Fr.start w 3 k x
  have X : Hid (IsL B (two w 3 k x) v xs) := h.later F0.out.gr
  have HX : Hid (xs.length ≤ 1000000) := Nat.le_trans hx (by decide)
  obtain ⟨a, c, rfl⟩ := h.form
  have h6i : (6 : Int) ≤ (xs.length : Int) := by omega
  clear h
  go_enter Tryd.func44, Tryd.ntmps44
  go_wp2_with (at_builtin; refine wpList_copy rfl rfl (.const (.slice none 0 0)) (.tmp 11) rfl rfl rfl X.out HX.out ?_)
  intro v1 w1 hown hb
  have hown' : Own (w.heap.size + 2) w1 v1 xs := hown
  have hb' : Below (w.heap.size + 2) (two w 3 k x) w1 := hb
  have F1 : Hid (Fr w w1 3 k x) := F0.out.later hb'
  have O1 : Hid (Own (w.heap.size + 2) w1 v1 xs) := hown'
  clear hown hb hown' hb' F0
  have o0 := F1.out.o0
  have o2 := F1.out.o2
  have r0 := F1.out.r0
  have r1 := F1.out.r1
  have f0 := F1.out.f0
  have f1 := F1.out.f1
  go_wp2_with fail
  refine (said_is _ _ _).mono ?_
  rintro e w2 ⟨rfl, hb⟩
  have F2 : Hid (Fr w w2 3 k x) := F1.out.later (hb.mono F1.out.sz)
  have I2 : Hid (IsL (w.heap.size + 2) w2 v1 xs) := O1.out.isL.later hb
  clear hb o0 o2 r0 r1 f0 f1 F1
  have o0 := F2.out.o0
  have o2 := F2.out.o2
  have r0 := F2.out.r0
  have r1 := F2.out.r1
  have f0 := F2.out.f0
  have f1 := F2.out.f1
  go_wp2
  refine bodyPost_ret (v := .tuple #[v1, .agg #[.int .i64 3, .int .i64 0]]) ?_ rfl (F2.out.made 3 0 I2.out)
  have E := F2.out.ends 3 0
  unfold wr at E
  simp [results, Tryd.results44, go_sem, E.1, E.2.1]

set_option maxHeartbeats 2000000 in
theorem ends_front {B : Nat} {v : Value} {xs : List Int} {w : World} (k x : Int) (ou : Int) (h6 : xs.length < 6) (h : IsL B w v xs) (hx : xs.length ≤ 60) :
    Calls Tryd.prog 44 #[v, .agg #[.int .i64 3, .int .i64 k, .int .i64 x], .bool true, .int .i64 ou] w (Made w (x :: xs) 1 0) := by
  have F0 : Hid (Fr w (two w 3 k x) 3 k x) := Fr.start w 3 k x
  have X : Hid (IsL B (two w 3 k x) v xs) := h.later F0.out.gr
  have HX : Hid (xs.length ≤ 1000000) := Nat.le_trans hx (by decide)
  obtain ⟨a, c, rfl⟩ := h.form
  have h6i : (xs.length : Int) < 6 := by omega
  clear h
  go_enter Tryd.func44, Tryd.ntmps44
  go_wp2_with (at_builtin; refine wpList_copy rfl rfl (.const (.slice none 0 0)) (.tmp 11) rfl rfl rfl X.out HX.out ?_)
  intro v1 w1 hown hb
  have hown' : Own (w.heap.size + 2) w1 v1 xs := hown
  have hb' : Below (w.heap.size + 2) (two w 3 k x) w1 := hb
  have F1 : Hid (Fr w w1 3 k x) := F0.out.later hb'
  have O1 : Hid (Own (w.heap.size + 2) w1 v1 xs) := hown'
  clear hown hb hown' hb' F0
  have o0 := F1.out.o0
  have o2 := F1.out.o2
  have r0 := F1.out.r0
  have r1 := F1.out.r1
  have f0 := F1.out.f0
  have f1 := F1.out.f1
  have hsz := F1.out.sz
  have OL : Hid (Own (w.heap.size + 2) (w1.alloc (.cells #[.int .i64 x] 3)) (.slice (some ⟨w1.heap.size, 0, none⟩) 1 1) [x]) := Own.lit w1 x hsz
  have KL : Hid (IsL (w.heap.size + 2) (w1.alloc (.cells #[.int .i64 x] 3)) v1 xs) := O1.out.isL.new _
  have hlen : Hid ([x].length + xs.length ≤ 1000000) := show _ ≤ _ by simp; omega
  go_wp2_with (at_builtin; refine wpList_onto rfl rfl (.tmp 38) (.tmp 39) rfl rfl rfl (Nat.le_trans hsz (by simp)) OL.out KL.out hlen.out ?_)
  intro v3 w3 hown hgrow
  have F3 : Hid (Fr w w3 3 k x) := F1.out.later (((Below.refl (w.heap.size + 2) w1).alloc hsz _).trans hgrow)
  have O3 : Hid (Own (w.heap.size + 2) w3 v3 (x :: xs)) := hown
  clear hown hgrow hsz OL KL hlen o0 o2 r0 r1 f0 f1 F1 O1
  have o0 := F3.out.o0
  have o2 := F3.out.o2
  have r0 := F3.out.r0
  have r1 := F3.out.r1
  have f0 := F3.out.f0
  have f1 := F3.out.f1
  go_wp2_with fail
  refine (said_is _ _ _).mono ?_
  rintro e w2 ⟨rfl, hb⟩
  have F2 : Hid (Fr w w2 3 k x) := F3.out.later (hb.mono F3.out.sz)
  have I2 : Hid (IsL (w.heap.size + 2) w2 v3 (x :: xs)) := O3.out.isL.later hb
  clear hb o0 o2 r0 r1 f0 f1 F3
  have o0 := F2.out.o0
  have o2 := F2.out.o2
  have r0 := F2.out.r0
  have r1 := F2.out.r1
  have f0 := F2.out.f0
  have f1 := F2.out.f1
  go_wp2
  refine bodyPost_ret (v := .tuple #[v3, .agg #[.int .i64 1, .int .i64 0]]) ?_ rfl (F2.out.made 1 0 I2.out)
  have E := F2.out.ends 1 0
  unfold wr at E
  simp [results, Tryd.results44, go_sem, E.1, E.2.1]

set_option maxHeartbeats 2000000 in
theorem ends_peek {B : Nat} {v : Value} {xs : List Int} {ou : Nat} {z : Int} {w : World} (k x : Int) (ho : ou < xs.length) (hzz : xs.getD ou 0 = z) (h : IsL B w v xs) (hx : xs.length ≤ 60) :
    Calls Tryd.prog 44 #[v, .agg #[.int .i64 5, .int .i64 k, .int .i64 x], .bool false, .int .i64 (ou : Nat)] w (Made w xs 1 z) := by
  have F0 : Hid (Fr w (two w 5 k x) 5 k x) := Fr.start w 5 k x
  have X : Hid (IsL B (two w 5 k x) v xs) := h.later F0.out.gr
  have HX : Hid (xs.length ≤ 1000000) := Nat.le_trans hx (by decide)
  rcases h with ⟨rfl, _⟩ | ⟨b, off, c, rfl, hB, h0, hc, hcell, _⟩
  · simp at ho
  have hz : w.cell? ⟨b, off + ou, none⟩ = some (.int .i64 z) := by rw [hcell ou ho, hzz]
  have Z : Hid (w.cell? ⟨b, off + ou, none⟩ = some (.int .i64 z)) := hz
  have hbl : b < w.heap.size := World.block_lt_of_cell? _ _ hz
  have hne : ((xs.length : Int) == 0) = false := by rw [beq_eq_false_iff_ne]; omega
  have ho1 : (ou : Int) < (xs.length : Int) := by omega
  have ho0 : (0 : Int) ≤ (ou : Int) := by omega
  have HZ : Hid (xs.getD ou 0 = z) := hzz
  clear hz hcell hzz
  go_enter Tryd.func44, Tryd.ntmps44
  go_wp2_with (at_builtin; refine wpList_copy rfl rfl (.const (.slice none 0 0)) (.tmp 11) rfl rfl rfl X.out HX.out ?_)
  intro v1 w1 hown hb
  have hown' : Own (w.heap.size + 2) w1 v1 xs := hown
  have hb' : Below (w.heap.size + 2) (two w 5 k x) w1 := hb
  have F1 : Hid (Fr w w1 5 k x) := F0.out.later hb'
  have O1 : Hid (Own (w.heap.size + 2) w1 v1 xs) := hown'
  clear hown hb hown' hb' F0
  have o0 := F1.out.o0
  have o2 := F1.out.o2
  have r0 := F1.out.r0
  have r1 := F1.out.r1
  have f0 := F1.out.f0
  have f1 := F1.out.f1
  have hz1 : w1.cell? ⟨b, off + ou, none⟩ = some (.int .i64 z) := by rw [F1.out.gr.cell (p := ⟨b, off + ou, none⟩) hbl]; exact Z.out
  go_wp2_with fail
  refine (said_is _ _ _).mono ?_
  rintro e w2 ⟨rfl, hb⟩
  have F2 : Hid (Fr w w2 5 k x) := F1.out.later (hb.mono F1.out.sz)
  have I2 : Hid (IsL (w.heap.size + 2) w2 v1 xs) := O1.out.isL.later hb
  clear hb o0 o2 r0 r1 f0 f1 F1
  have o0 := F2.out.o0
  have o2 := F2.out.o2
  have r0 := F2.out.r0
  have r1 := F2.out.r1
  have f0 := F2.out.f0
  have f1 := F2.out.f1
  go_wp2
  refine bodyPost_ret (v := .tuple #[v1, .agg #[.int .i64 1, .int .i64 z]]) ?_ rfl (F2.out.made 1 z I2.out)
  have E := F2.out.ends 1 z
  unfold wr at E
  simp [results, Tryd.results44, go_sem, E.1, E.2.1]

set_option maxHeartbeats 2000000 in
theorem ends_take {B : Nat} {v : Value} {xs : List Int} {ou : Nat} {z : Int} {w : World} (k x : Int) (o : Int) (n1 : o ≠ 1) (n3 : o ≠ 3) (n5 : o ≠ 5) (n6 : o ≠ 6) (ho : ou < xs.length) (hzz : xs.getD ou 0 = z) (h : IsL B w v xs) (hx : xs.length ≤ 60) :
    Calls Tryd.prog 44 #[v, .agg #[.int .i64 o, .int .i64 k, .int .i64 x], .bool false, .int .i64 (ou : Nat)] w (Made w (xs.take ou ++ xs.drop (ou + 1)) 1 z) := by
  have F0 : Hid (Fr w (two w o k x) o k x) := Fr.start w o k x
  have X : Hid (IsL B (two w o k x) v xs) := h.later F0.out.gr
  have HX : Hid (xs.length ≤ 1000000) := Nat.le_trans hx (by decide)
  rcases h with ⟨rfl, _⟩ | ⟨b, off, c, rfl, hB, h0, hc, hcell, _⟩
  · simp at ho
  have hz : w.cell? ⟨b, off + ou, none⟩ = some (.int .i64 z) := by rw [hcell ou ho, hzz]
  have Z : Hid (w.cell? ⟨b, off + ou, none⟩ = some (.int .i64 z)) := hz
  have hbl : b < w.heap.size := World.block_lt_of_cell? _ _ hz
  have hne : ((xs.length : Int) == 0) = false := by rw [beq_eq_false_iff_ne]; omega
  have ho1 : (ou : Int) < (xs.length : Int) := by omega
  have ho0 : (0 : Int) ≤ (ou : Int) := by omega
  have HZ : Hid (xs.getD ou 0 = z) := hzz
  clear hz hcell hzz
  have hx60 : xs.length ≤ 60 := hx
  have n1' : (o == 1) = false := by simp [n1]
  have n3' : (o == 3) = false := by simp [n3]
  have n5' : (o == 5) = false := by simp [n5]
  have n6' : (o == 6) = false := by simp [n6]
  go_enter Tryd.func44, Tryd.ntmps44
  go_wp2_with (at_builtin; refine wpList_copy rfl rfl (.const (.slice none 0 0)) (.tmp 11) rfl rfl rfl X.out HX.out ?_)
  intro v1 w1 hown hb
  have hown' : Own (w.heap.size + 2) w1 v1 xs := hown
  have hb' : Below (w.heap.size + 2) (two w o k x) w1 := hb
  have F1 : Hid (Fr w w1 o k x) := F0.out.later hb'
  have O1 : Hid (Own (w.heap.size + 2) w1 v1 xs) := hown'
  clear hown hb hown' hb' F0
  have o0 := F1.out.o0
  have o2 := F1.out.o2
  have r0 := F1.out.r0
  have r1 := F1.out.r1
  have f0 := F1.out.f0
  have f1 := F1.out.f1
  have hz1 : w1.cell? ⟨b, off + ou, none⟩ = some (.int .i64 z) := by rw [F1.out.gr.cell (p := ⟨b, off + ou, none⟩) hbl]; exact Z.out
  obtain ⟨g, cap, rfl, hg⟩ := O1.out.formp h0
  have hcap : xs.length ≤ cap := by
    rcases O1.out.2 with ⟨h, _⟩ | ⟨_, _, _, h, _, _, h2, _⟩
    · cases h
    · injection h with _ _ h; subst h; exact h2
  have hrow : Hid (∀ j, j < xs.length → w1.cell? ⟨g, 0 + j, none⟩ = some (.int .i64 (xs.getD j 0))) := fun j hj => O1.out.isL.at hj
  have R0 : Hid (Rg w w1.drew o k x b (off + ou) z (.slice (some ⟨g, 0, none⟩) xs.length cap) xs) := ⟨F1.out.later (Below.refl _ _).drew, hz1, O1.out.isL.later (Below.refl _ _).drew⟩
  obtain ⟨A, hA, hnews⟩ : ∃ A : Addr, (if cap = ou + 1 then some (⟨g, 0, none⟩ : Addr) else some ⟨g, ou + 1, none⟩) = some A ∧ Hid (∀ W kvv, IsL (w.heap.size + 2) W (.slice (some ⟨g, 0, none⟩) xs.length kvv) xs → ∀ j u, ((xs.drop (ou + 1)).map (Value.int .i64))[j]? = some u → W.cell? (A.add j) = some u) := by
    by_cases hcc : cap = ou + 1
    · refine ⟨⟨g, 0, none⟩, by simp [hcc], fun W kvv hI j u hu => ?_⟩
      have : xs.drop (ou + 1) = [] := List.drop_eq_nil_of_le (by omega)
      rw [this] at hu
      simp at hu
    · refine ⟨⟨g, ou + 1, none⟩, by simp [hcc], fun W kvv hI => ints_at fun j hj => ?_⟩
      have hj' : ou + 1 + j < xs.length := by simp at hj; omega
      have := hI.at hj'
      rw [Nat.zero_add] at this
      rw [this]
      simp [List.getD]
  have hoc : (ou : Int) ≤ (cap : Int) := by omega
  have hwr : IntKind.i64.wrap ((ou : Int) + 1) = (ou : Int) + 1 := by rw [IntKind.wrap_i64]; omega
  have hp0 : (0 : Int) ≤ (ou : Int) + 1 := by omega
  have hp1 : (ou : Int) + 1 ≤ (xs.length : Int) := by omega
  have hp2 : ((ou : Int) + 1).toNat = ou + 1 := by omega
  have hl1 : Hid (ou = (xs.take ou).length) := show ou = (xs.take ou).length by rw [List.length_take]; omega
  have hl2 : Hid (xs.length - (ou + 1) = (xs.drop (ou + 1)).length) := show _ = _ by rw [List.length_drop]
  have hl3 : Hid ((xs.take ou).length + (xs.drop (ou + 1)).length ≤ 1000000) := show (xs.take ou).length + (xs.drop (ou + 1)).length ≤ 1000000 by rw [List.length_take, List.length_drop]; omega
  have hpre : Hid (∀ W, IsL (w.heap.size + 2) W (.slice (some ⟨g, 0, none⟩) xs.length cap) xs → IsL (w.heap.size + 2) W (.slice (some ⟨g, 0, none⟩) (xs.take ou).length (xs.take ou).length) (xs.take ou)) := by
    intro W hI
    by_cases h00 : ou = 0
    · subst h00; exact IsL.nil _ _ _ _
    · refine Or.inr ⟨g, 0, _, rfl, hg, by rw [List.length_take]; omega, Nat.le_refl _, fun j hj => ?_, fun hq j hj => hI.frz hq (by rw [List.length_take] at hj; omega)⟩
      rw [List.length_take] at hj
      rw [hI.at (by omega)]
      simp [List.getD, show j < ou by omega]
  clear hcap hrow F1 O1
  go_wp2_with fail
  go_region_law (first
    | (refine step_join (B := w.heap.size + 2) (c := cap - (ou + 1)) rfl (.tmp 67) (.tmp 71) rfl (by simp [Act.eval, Act.put]) (by simp [Act.eval, Act.put]) hl1.out hl2.out R0.out.fr.sz (hpre.out _ R0.out.kp) (hnews.out _ _ R0.out.kp) hl3.out ?_; intro v3 w3 hI hb3; have R3 : Hid (Rg w w3 o k x b (off + ou) z (.slice (some ⟨g, 0, none⟩) xs.length cap) xs) := R0.out.later hb3; have I3 : Hid (IsL (w.heap.size + 2) w3 v3 (xs.take ou ++ xs.drop (ou + 1))) := hI; have q3 := R3.out.cl; clear hI hb3)
    | (rw [if_pos (by rfl)]; go_simp; go_at_call 43; refine (said_is _ _ _).mono ?_; rintro e w4 ⟨rfl, hb4⟩; have R4 : Hid (Rg w w4 o k x b (off + ou) z (.slice (some ⟨g, 0, none⟩) xs.length cap) xs) := R3.out.later hb4; have I4 : Hid (IsL (w.heap.size + 2) w4 v3 (xs.take ou ++ xs.drop (ou + 1))) := I3.out.later hb4; have q4 := R4.out.cl; have s0 := R4.out.fr.r0; have s1 := R4.out.fr.r1; have s2 := R4.out.fr.f0; have s3 := R4.out.fr.f1; clear hb4; try dsimp only))
  all_goals go_wp2
  all_goals
    refine bodyPost_ret (v := .tuple #[v3, .agg #[.int .i64 1, .int .i64 z]]) ?_ rfl (R4.out.fr.made 1 z I4.out)
    have E := R4.out.fr.ends 1 z
    unfold wr at E
    simp [results, Tryd.results44, go_sem, E.1, E.2.1]

end Go.Proofs.YtbmgjpdfmgcigabDoor
