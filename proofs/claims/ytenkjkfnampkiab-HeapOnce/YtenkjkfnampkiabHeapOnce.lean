/- HeapOnce is proved: for every list and number the call returns true (0 that is put into a heap of things of 1 or more comes out, and leaves what there was; a list that is no heap, is full, or has a thing less than 1 is let be, by the law's own words). -/
import Derived.Test.YtenkjkfnampkiabRows
import Derived.Test.YtenkjkfnampkiabArgL
import Derived.Test.YtenkjkfnampkiabKh
import Derived.Test.YtenkjkfnampkiabLx
import Derived.Test.YtenkjkfnampkiabCf
import Derived.ChangeAlike

namespace Go.Proofs.Ytenkjkfnampkiab.heapOnce
open Go.ChangeShapes Go.WideShapes Go.ChangeAt Go.RowKit
set_option linter.unusedVariables false

theorem own : ownKnob Try.prog.godebug = none := by kernel_rfl

theorem once_pure {xs : List Int} (h : Hp xs) (h6 : xs.length < 6) (ha : ∀ j, j < xs.length → 1 ≤ gt xs j) : ∃ ms ns, hdo xs 1 0 = (ms, 1, 0) ∧ hdo ms 2 0 = (ns, 1, 0) ∧ ns.Perm xs ∧ ms.length ≤ 60 := by
  obtain ⟨ms, e1, p1, h1⟩ := hdo_puts 0 h h6
  obtain ⟨r, rfl, p2⟩ := h1.first p1 (fun y hy => by obtain ⟨i, hi, e⟩ := gt_mem _ _ hy; have := ha i hi; omega)
  obtain ⟨ns, e2, p3, _⟩ := hdo_takes 0 h1
  refine ⟨0 :: r, ns, e1, e2, p3.trans p2, ?_⟩
  rw [p1.length_eq]; simp; omega
theorem IsL.aside2 {B C : Nat} {v : Value} {xs zs : List Int} {u w w' : World} {row : Option Nat} (h : IsL B w v xs) (k : IsL C u v zs) (hg : w.grownBy w' row) (hn : ∀ n, row = some n → u.heap.size ≤ n) : IsL B w' v xs := by
  rcases h with h | ⟨b, off, c, rfl, hb, h0, hc, hcell, hfz⟩
  · exact Or.inl h
  · have hbu : b < u.heap.size := by
      rcases k with ⟨_, a, c', e⟩ | ⟨b', off', c', e, _, h0', _, hcell', _⟩
      · injection e with _ e2 _
        omega
      · injection e with e1 _ _
        injection e1 with e1
        injection e1 with e1 _
        subst e1
        exact World.block_lt_of_cell? _ _ (hcell' 0 h0')
    have hl := World.block_lt_of_cell? _ _ (hcell 0 h0)
    have hk := hg.block b hl (fun e => by have := hn b e.symm; omega)
    refine Or.inr ⟨b, off, c, rfl, hb, h0, hc, fun j hj => ?_, fun hB j hj => ?_⟩
    · rw [World.cell?_of_block hk]; exact hcell j hj
    · rw [World.frozen?_of_block hk]; exact hfz hB j hj
set_option maxHeartbeats 4000000 in
theorem walk (v : Value) (xs : List Int) (x : Int) (_w0 : (Lit.int .i64 x).wf = true) (w : World) (D : In w v xs) :
    Calls Try.prog 3 #[v, .int .i64 x] w fun e w' => e = .returned (.bool true) ∧ Below w.heap.size w w' := by
  obtain ⟨a, c, rfl⟩ := D.1.form
  have h1 : Hid (IsL 0 w (.slice a xs.length c) xs) := D.1
  have h2 : Hid (Gd w w) := Gd.refl w
  clear D
  by_cases hr : xs.length ≤ 6 ∧ Hp xs
  · obtain ⟨s6, hp⟩ := hr
    have HR : Hid (Hp xs) := hp
    clear hp
    by_cases s5 : 6 ≤ xs.length
    · have s5i : (6 : Int) ≤ (xs.length : Int) := by omega
      go_enter Try.func3, Try.ntmps3
      go_wp2_with fail
      refine (heaped_is _).mono ?_
      rintro e u1 ⟨rfl, hb⟩
      have h3 : Hid (IsL 0 u1 (.slice a xs.length c) xs) := h1.out.later hb
      have h4 : Hid (Gd w u1) := h2.out.later hb
      clear h1 h2
      clear hb
      go_wp2_with fail
      refine (hRight_yes h3.out s6 HR.out).mono ?_
      rintro e u2 ⟨rfl, hb⟩
      have h5 : Hid (IsL 0 u2 (.slice a xs.length c) xs) := h3.out.later hb
      have h6 : Hid (Gd w u2) := h4.out.later hb
      clear h3 h4
      clear hb
      go_wp2
      go_ret
      exact ⟨rfl, h6.out⟩
    · have s5i : ¬ (6 : Int) ≤ (xs.length : Int) := by omega
      have s5d : decide ((xs.length : Int) ≥ 6) = false := by simp; omega
      by_cases ha : ∃ j, j < xs.length ∧ gt xs j < 1
      · have HA : Hid (∃ j, j < xs.length ∧ gt xs j < 1) := ha
        clear ha
        go_enter Try.func3, Try.ntmps3
        go_wp2_with fail
        refine (heaped_is _).mono ?_
        rintro e u1 ⟨rfl, hb⟩
        have h3 : Hid (IsL 0 u1 (.slice a xs.length c) xs) := h1.out.later hb
        have h4 : Hid (Gd w u1) := h2.out.later hb
        clear h1 h2
        clear hb
        go_wp2_with fail
        refine (hRight_yes h3.out s6 HR.out).mono ?_
        rintro e u2 ⟨rfl, hb⟩
        have h5 : Hid (IsL 0 u2 (.slice a xs.length c) xs) := h3.out.later hb
        have h6 : Hid (Gd w u2) := h4.out.later hb
        clear h3 h4
        clear hb
        go_wp2_with fail
        refine (Has_yes h5.out s6 HA.out).mono ?_
        rintro e W ⟨rfl, hW⟩
        rw [hW]; clear hW W
        go_wp2
        go_ret
        exact ⟨rfl, h6.out⟩
      · have HA : Hid (∀ j, j < xs.length → 1 ≤ gt xs j) := fun j hj => Int.not_lt.1 fun hx => ha ⟨j, hj, hx⟩
        clear ha
        obtain ⟨ms, ns, e1, e2, e3, hm7⟩ := once_pure HR.out (by omega) HA.out
        have E1 : Hid (hdo xs 1 0 = (ms, 1, 0)) := e1
        have E2 : Hid (hdo ms 2 0 = (ns, 1, 0)) := e2
        have PE : Hid (srt xs = srt ns) := srt_eq e3.symm
        have LN : Hid (ns.length ≤ 1000000) := by rw [e3.length_eq]; exact Nat.le_trans s6 (by decide)
        have LM : Hid (ms.length ≤ 60) := hm7
        clear e1 e2 e3 hm7
        go_enter Try.func3, Try.ntmps3
        go_wp2_with fail
        refine (heaped_is _).mono ?_
        rintro e u1 ⟨rfl, hb⟩
        have h3 : Hid (IsL 0 u1 (.slice a xs.length c) xs) := h1.out.later hb
        have h4 : Hid (Gd w u1) := h2.out.later hb
        clear h1 h2
        clear hb
        go_wp2_with fail
        refine (hRight_yes h3.out s6 HR.out).mono ?_
        rintro e u2 ⟨rfl, hb⟩
        have h5 : Hid (IsL 0 u2 (.slice a xs.length c) xs) := h3.out.later hb
        have h6 : Hid (Gd w u2) := h4.out.later hb
        clear h3 h4
        clear hb
        go_wp2_with fail
        refine (Has_no h5.out s6 HA.out).mono ?_
        rintro e W ⟨rfl, hW⟩
        rw [hW]; clear hW W
        go_wp2_with fail
        refine (put_is _ _).mono ?_
        rintro e u3 ⟨rfl, hb⟩
        have h7 : Hid (IsL 0 u3 (.slice a xs.length c) xs) := h5.out.later hb
        have h8 : Hid (Gd w u3) := h6.out.later hb
        clear h5 h6
        clear hb
        go_wp2_with fail
        refine (hDo_eq 0 h7.out (by omega) E1.out).mono ?_
        rintro e u4 ⟨q1, rfl, hi, hb⟩
        have h9 : Hid (IsL 0 u4 (.slice a xs.length c) xs) := h7.out.later hb
        have h10 : Hid (Gd w u4) := h8.out.later hb
        clear h7 h8
        have h11 : Hid (IsL 0 u4 q1 ms) := hi.any
        clear hb hi
        have h12 : Hid (IsL 0 (u4.alloc (.cells #[.int .i64 1, .int .i64 0] 28)) (.slice a xs.length c) xs) := h9.out.new (.cells #[.int .i64 1, .int .i64 0] 28)
        have h13 : Hid (Gd w (u4.alloc (.cells #[.int .i64 1, .int .i64 0] 28))) := h10.out.new (.cells #[.int .i64 1, .int .i64 0] 28)
        have h14 : Hid (IsL 0 (u4.alloc (.cells #[.int .i64 1, .int .i64 0] 28)) q1 ms) := h11.out.new (.cells #[.int .i64 1, .int .i64 0] 28)
        clear h9 h10 h11
        have h15 : Hid (Bx (u4.heap.size) 1 0 (u4.alloc (.cells #[.int .i64 1, .int .i64 0] 28))) := Bx.bornAt u4 1 0 28 (by simp)
        go_wp2_with fail
        refine (hDo_eq 0 h14.out LM.out E2.out).mono ?_
        rintro e u5 ⟨q2, rfl, hi, hb⟩
        have h16 : Hid (IsL 0 u5 (.slice a xs.length c) xs) := h12.out.later hb
        have h17 : Hid (Gd w u5) := h13.out.later hb
        have h18 : Hid (IsL 0 u5 q1 ms) := h14.out.later hb
        have h19 : Hid (Bx (u4.heap.size) 1 0 u5) := h15.out.later hb
        clear h12 h13 h14 h15
        have h20 : Hid (IsL 0 u5 q2 ns) := hi.any
        clear hb hi
        have h21 : Hid (IsL 0 (u5.alloc (.cells #[.int .i64 1, .int .i64 0] 28)) (.slice a xs.length c) xs) := h16.out.new (.cells #[.int .i64 1, .int .i64 0] 28)
        have h22 : Hid (Gd w (u5.alloc (.cells #[.int .i64 1, .int .i64 0] 28))) := h17.out.new (.cells #[.int .i64 1, .int .i64 0] 28)
        have h23 : Hid (IsL 0 (u5.alloc (.cells #[.int .i64 1, .int .i64 0] 28)) q1 ms) := h18.out.new (.cells #[.int .i64 1, .int .i64 0] 28)
        have h24 : Hid (Bx (u4.heap.size) 1 0 (u5.alloc (.cells #[.int .i64 1, .int .i64 0] 28))) := h19.out.new (.cells #[.int .i64 1, .int .i64 0] 28)
        have h25 : Hid (IsL 0 (u5.alloc (.cells #[.int .i64 1, .int .i64 0] 28)) q2 ns) := h20.out.new (.cells #[.int .i64 1, .int .i64 0] 28)
        clear h16 h17 h18 h19 h20
        have h26 : Hid (Bx (u5.heap.size) 1 0 (u5.alloc (.cells #[.int .i64 1, .int .i64 0] 28))) := Bx.bornAt u5 1 0 28 (by simp)
        clear h23
        go_wp2_with fail
        have z1 : Hid (0 < (u5.alloc (.cells #[.int .i64 1, .int .i64 0] 28)).heap.size) := (by simp : 0 < (u5.alloc (.cells #[.int .i64 1, .int .i64 0] 28)).heap.size)
        generalize (u5.alloc (.cells #[.int .i64 1, .int .i64 0] 28)) = W1 at z1 h21 h22 h24 h26 h25 ⊢
        refine (Clone_is h21.out (by omega)).mono ?_
        rintro e W2 ⟨xv, rfl, ho, hb⟩
        have T2 : Hid (IsL W1.heap.size W2 xv xs) := ho.isL
        have B2 : Hid (Below W1.heap.size W1 W2) := hb
        have N2 : Hid (IsL 0 W2 q2 ns) := h25.out.later hb
        clear ho hb
        go_wp2_with fail
        refine (Clone_is N2.out LN.out).mono ?_
        rintro e W3 ⟨yv, rfl, ho, hb⟩
        have S3 : Hid (IsL W2.heap.size W3 yv ns) := ho.isL
        have B3 : Hid (Below W2.heap.size W2 W3) := hb
        clear ho hb
        go_wp2_with fail
        refine (Sort_is T2.out (T2.out.later B3.out) z1.out (by omega)).mono ?_
        rintro e W4 ⟨rfl, hi, row, hrow, hg⟩
        have T4 : Hid (IsL W1.heap.size W4 xv (srt xs)) := hi
        have S4 : Hid (IsL W2.heap.size W4 yv ns) := S3.out.aside hg (fun n hn => (hrow n hn).2)
        have B4 : Hid (Below W1.heap.size W1 W4) := Below.grown (B2.out.trans (B3.out.mono B2.out.size)) hg (Nat.le_trans B2.out.size B3.out.size) (fun n hn => (hrow n hn).1)
        have Z4 : Hid (W2.heap.size ≤ W4.heap.size) := Nat.le_trans B3.out.size hg.size
        clear hi hrow hg row
        go_wp2_with fail
        refine (Sort_is S4.out S4.out (Nat.lt_of_lt_of_le z1.out B2.out.size) LN.out).mono ?_
        rintro e W5 ⟨rfl, hi, row, hrow, hg⟩
        have S5 : Hid (IsL W2.heap.size W5 yv (srt xs)) := by rw [PE.out]; exact hi
        have T5 : Hid (IsL W1.heap.size W5 xv (srt xs)) := IsL.aside2 T4.out T2.out hg (fun n hn => (hrow n hn).1)
        have B5 : Hid (Below W1.heap.size W1 W5) := Below.grown B4.out hg B4.out.size (fun n hn => Nat.le_trans B2.out.size (hrow n hn).1)
        clear hi hrow hg row
        have P5 : Hid (Bx (u4.heap.size) 1 0 W5) := h24.out.later B5.out
        have Q5 : Hid (Bx (u5.heap.size) 1 0 W5) := h26.out.later B5.out
        have p0 := P5.out.c0
        have p1 := P5.out.c1
        have q0 := Q5.out.c0
        have q1 := Q5.out.c1
        have G5 : Hid (Gd w W5) := h22.out.later B5.out
        go_wp2_with fail
        refine (Equal_same T5.out S5.out (by rw [srt_len]; omega)).mono ?_
        rintro e W6 ⟨rfl, hb⟩
        have G6 : Hid (Gd w W6) := G5.out.later hb
        clear hb
        go_wp2
        go_ret
        exact ⟨rfl, G6.out⟩
  · have HR : Hid (¬ (xs.length ≤ 6 ∧ Hp xs)) := hr
    clear hr
    go_enter Try.func3, Try.ntmps3
    go_wp2_with fail
    refine (heaped_is _).mono ?_
    rintro e u1 ⟨rfl, hb⟩
    have h3 : Hid (IsL 0 u1 (.slice a xs.length c) xs) := h1.out.later hb
    have h4 : Hid (Gd w u1) := h2.out.later hb
    clear h1 h2
    clear hb
    go_wp2_with fail
    refine (hRight_isnt h3.out HR.out).mono ?_
    rintro e u2 ⟨rfl, hb⟩
    have h5 : Hid (IsL 0 u2 (.slice a xs.length c) xs) := h3.out.later hb
    have h6 : Hid (Gd w u2) := h4.out.later hb
    clear h3 h4
    clear hb
    go_wp2
    go_ret
    exact ⟨rfl, h6.out⟩


set_option maxRecDepth 100000 in
theorem lifted (os : Os) (started : os.Started) (H : Type) (enc : TypeId × Value → H) :
    ReturnsInHanded {} Try.checked os 3 .any (Rows.heapOnceSpec.pre6 enc Try.prog Try.f3 Rows.heapOnceRow.domain false) (Rows.heapOnceSpec.post enc Try.prog Try.f3 false true false false) := by
  refine returnsInHanded_of_change (C := Try.checked) own started (by kernel_rfl) Try.func3
    (ChangeSpec.witness6 (enc := enc) (C := Try.checked) false ⟨#[], #[.slice none 0 0, .int .i64 0], []⟩ 8 (by kernel_rfl) (by kernel_rfl) (by kernel_rfl) (by kernel_rfl)) ?_
  intro W base args ds gs before hval0 hW hcnd _
  have hval : ∀ (j : Nat) t v, Try.f3.params[j]? = some t → args[j]? = some v → Value.okWide Try.prog W .any base t v := hval0
  have hW' := hW
  obtain ⟨p, q, hA0, hV, rfl, hfz, hnd⟩ := hW
  have hA : DataW.TrodAll enc Try.prog W 0 (fun _ => true) true Try.f3.params.toList args.toList ds p := hA0
  rw [Try.params3] at hA hval
  obtain ⟨v0, vs0, d0, ds0, p0, q0, hargs, rfl, rfl, h0, r0⟩ := trodAll_cons hA
  obtain ⟨v1, vs1, d1, ds1, p1, q1, rfl, rfl, rfl, h1, r1⟩ := trodAll_cons r0
  obtain ⟨rfl, rfl, rfl⟩ := trodAll_nil r1
  obtain rfl : args = #[v0, v1] := by cases args; simp_all
  obtain ⟨rfl, rfl⟩ := trodVars_none hV
  obtain ⟨n0, D0⟩ := ints_of_trod (hval 0 22 v0 rfl rfl) h0
  obtain ⟨a1, rfl, rfl, rfl, w1⟩ := open_int Try.underlying3 (hval 1 3 v1 rfl rfl) h1
  have hlt := hW'.lt
  clear hA0 hval0
  refine (walk v0 n0 a1 w1 W  D0).mono fun e W' ⟨he, hg⟩ => ?_
  subst he
  exact ⟨_, rfl, post_below (pv := []) hW' (fun _ _ _ => (trodAll_cons_mk (shut_bool Try.underlying4 _) trodAll_mk0)) (fun sp hsp => (trodAll_cons_mk (ints_stay h0 hg (fun x hx => hlt x (by simp [hx])) (fun x hx => hsp x (by simp [hx]))) (trodAll_cons_mk (shut_int Try.underlying3 w1) trodAll_mk0))) (fun _ _ => rfl) (by simp) (hg.frame _)⟩

theorem over : Rows.heapOnceRow.holds Try.pinned (OpenSpec.ofChange Rows.heapOnceSpec) :=
  OpenClaim.holds_of_wide 3 Try.f3 rfl rfl rfl rfl rfl rfl rfl ⟨rfl, rfl, rfl, rfl, rfl⟩ rfl rfl rfl rfl rfl (by kernel_rfl) Try.func3 (by kernel_rfl)
    (of_decide_eq_true (by kernel_rfl)) (by unfold Func.isWrapper; first | (rw [if_pos (by decide +kernel)]; kernel_rfl) | (rw [if_neg (by decide +kernel)]; exact ⟨rfl, rfl⟩))
    (fun os started H enc _ => lifted os started H enc)

theorem proved : Rows.HeapOnceSaid :=
  over
#print axioms proved
end Go.Proofs.Ytenkjkfnampkiab.heapOnce
