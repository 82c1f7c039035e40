/- HeapSorts is proved: for every list the call returns true (what is put into a heap in any order comes out rising, and then there is nothing). -/
import Derived.Test.YtenkjkfnampkiaaRows
import Derived.Test.YtenkjkfnampkiaaArgL
import Derived.Test.YtenkjkfnampkiaaKh
import Derived.Test.YtenkjkfnampkiaaLx
import Derived.ChangeAlike

namespace Go.Proofs.Ytenkjkfnampkiaa.heapSorts
open Go.ChangeShapes Go.WideShapes Go.ChangeAt Go.RowKit
set_option linter.unusedVariables false

theorem own : ownKnob Try.prog.godebug = none := by kernel_rfl

/-- A heap that has just the things of a list. -/
structure Of (hs l : List Int) : Prop where
  hp : Hp hs
  pm : hs.Perm l
theorem Of.put {hs l : List Int} (h : Of hs l) (x : Int) (hl : l.length < 6) : ∃ ys, hdo hs 1 x = (ys, 1, 0) ∧ Of ys (l ++ [x]) := by
  obtain ⟨ys, e, p, q⟩ := hdo_puts x h.hp (by rw [h.pm.length_eq]; exact hl)
  exact ⟨ys, e, q, p.trans (h.pm.append_right [x])⟩
theorem Of.take {hs l : List Int} {z : Int} (h : Of hs (z :: l)) (hz : (z :: l).Pairwise (· ≤ ·)) : ∃ ys, hdo hs 2 0 = (ys, 1, z) ∧ Of ys l := by
  obtain ⟨m, rfl, hm⟩ := h.hp.rises h.pm hz
  obtain ⟨ys, e, p, q⟩ := hdo_takes 0 h.hp
  exact ⟨ys, e, q, p.trans hm⟩
theorem Of.none {hs : List Int} (h : Of hs []) : hs = [] := h.pm.eq_nil

set_option maxHeartbeats 4000000 in
theorem walk (v : Value) (xs : List Int) (w : World) (D : In w v xs) :
    Calls Try.prog 7 #[v] w fun e w' => e = .returned (.bool true) ∧ Below w.heap.size w w' := by
  obtain ⟨ys, hys⟩ : ∃ ys, ys = fw xs := ⟨_, rfl⟩
  have hl6 : ys.length ≤ 6 := by rw [hys]; exact fw_le _
  have HY : Hid (ys = fw xs) := hys
  clear hys
  have hlx : Hid (xs.length ≤ 9223372036854775807) := D.2
  have h1 : Hid (IsL 0 w v xs) := D.1
  clear D
  go_enter Try.func7, Try.ntmps7
  go_wp2_with fail
  refine (heaped_big _).mono ?_
  rintro e m1 ⟨rfl, hb, hm⟩
  have g1 : Hid (Gd w m1) := hb
  have h2 : Hid (IsL 0 m1 v xs) := h1.out.later hb
  have HM : Hid (0 < m1.heap.size) := hm
  clear hb h1 hm
  go_wp2_with fail
  refine (few_is h2.out hlx.out).mono ?_
  rintro e m2 ⟨l, rfl, hi, hb⟩
  rw [← HY.out] at hi
  have g2 : Hid (Gd w m2) := g1.out.later hb
  have I2 : Hid (IsL m1.heap.size m2 l ys) := hi
  have b12 : Hid (m1.heap.size ≤ m2.heap.size) := hb.size
  have GW : Hid (w.heap.size ≤ m1.heap.size) := Below.size g1.out
  clear hi hb h2 g1
  by_cases h0 : ys.length = 0
  · have hnil : ys = [] := List.eq_nil_of_length_eq_zero h0
    subst hnil
    obtain ⟨a, c, rfl⟩ := I2.out.form
    go_wp2_with fail
    go_loopg [15, 3] 0 (fun _ s15 s3 wt => s15 = .int .i64 0 ∧ s3 = .slice none 0 0 ∧ wt = m2)
    case atStart => exact ⟨rfl, rfl, rfl⟩
    case round =>
      obtain ⟨rfl, rfl, rfl⟩ := hrel
      go_wp2_with fail
      refine (sh_slices_Sort_int_none a c _).mono ?_
      rintro e m3 ⟨rfl, hw⟩
      have g3 : Hid (Gd w m3) := by rw [hw]; exact g2
      clear hw
      go_wp2_with fail
      go_loopg [31, 3] 0 (fun _ s31 s3 wt => s31 = .int .i64 0 ∧ s3 = .slice none 0 0 ∧ Hid (Gd w wt))
      case atStart => exact ⟨rfl, rfl, g3⟩
      case round =>
        clear g2 g3
        obtain ⟨rfl, rfl, G2⟩ := hrel
        go_wp2
        go_ret
        exact ⟨rfl, G2.out⟩
  · have hpos : 0 < ys.length := by omega
    obtain ⟨b, off, c, rfl⟩ := I2.out.formp hpos
    clear h0
    go_wp2_with fail
    go_loopg [15, 3] ys.length (fun gg s15 s3 wt => ∃ (i : Nat) (hs : List Int), i ≤ ys.length ∧ ys.length - i ≤ gg ∧ s15 = .int .i64 i ∧ Hid (Of hs (ys.take i)) ∧ Hid (IsL m2.heap.size wt s3 hs) ∧ Hid (Below m2.heap.size m2 wt))
    case atStart => exact ⟨0, [], Nat.zero_le _, by omega, rfl, ⟨Hp.nil, .refl _⟩, IsL.nil _ _ _ _, Below.refl _ _⟩
    case round =>
      obtain ⟨i, hs, hi, hgg, rfl, O, Q, G⟩ := hrel
      by_cases hlt : i < ys.length
      · have hcl := (I2.out.later G.out).at hlt
        have hi1 : (i : Int) < (ys.length : Int) := by omega
        generalize hxi : ys.getD i 0 = x at hcl
        have HX : Hid (ys.getD i 0 = x) := hxi
        clear hxi
        have HT : Hid (ys.take i ++ [x] = ys.take (i + 1)) := by have := take_more ys i hlt; rw [HX.out] at this; exact this
        obtain ⟨zs, hz, oz⟩ := O.out.put x (by simp; omega)
        rw [HT.out] at oz
        have E1 : Hid (hdo hs 1 x = (zs, 1, 0)) := hz
        have O1 : Hid (Of zs (ys.take (i + 1))) := oz
        have L1 : Hid (hs.length ≤ 60) := (show hs.length ≤ 60 by rw [O.out.pm.length_eq]; simp; omega)
        clear hz oz
        go_wp2_with fail
        refine (put_is _ _).mono ?_
        rintro e m3 ⟨rfl, hb⟩
        have Q1 : Hid (IsL m2.heap.size m3 u3 hs) := Q.out.later hb
        have G1 : Hid (Below m2.heap.size m2 m3) := G.out.trans (hb.mono G.out.size)
        clear hb Q G
        go_wp2_with fail
        refine (hDo_eq 0 Q1.out L1.out E1.out).mono ?_
        rintro e m4 ⟨v4, rfl, hq, hb⟩
        have G2 : Hid (Below m2.heap.size m2 m4) := G1.out.trans (hb.mono G1.out.size)
        have Q2 : Hid (IsL m2.heap.size m4 v4 zs) := hq.mono G1.out.size
        clear hb hq Q1 G1
        go_wp2
        go_roundg (ys.length - (i + 1))
        case measure => omega
        case rel => exact ⟨i + 1, zs, by omega, by omega, by go_num, O1, Q2, G2⟩
      · obtain rfl : i = ys.length := by omega
        have O1 : Hid (Of hs ((srt ys).drop 0)) := by have := O.out; rw [List.take_length] at this; exact ⟨this.hp, this.pm.trans (srt_perm ys).symm⟩
        have S1 : Hid ((srt ys).Pairwise (· ≤ ·)) := srt_rises ys
        have L1 : Hid ((srt ys).length = ys.length) := srt_len ys
        clear O
        go_wp2_with fail
        refine (Sort_is I2.out (I2.out.later G.out) HM.out (by omega)).mono ?_
        rintro e m5 ⟨rfl, hi5, row, hrow, hg⟩
        have I5 : Hid (IsL m1.heap.size m5 (.slice (some ⟨b, off, none⟩) ys.length c) (srt ys)) := hi5
        have Q5 : Hid (IsL m2.heap.size m5 u3 hs) := Q.out.aside hg (fun n hn => (hrow n hn).2)
        have G5 : Hid (Gd w m5) := Below.grown (g2.out.later G.out) hg (Nat.le_trans (Below.size g2.out) G.out.size) (fun n hn => Nat.le_trans GW.out (hrow n hn).1)
        clear hi5 hrow hg row Q G g2
        go_wp2_with fail
        go_loopg [31, 3] ys.length (fun gg s31 s3 wt => ∃ (i : Nat) (hs : List Int), i ≤ ys.length ∧ ys.length - i ≤ gg ∧ s31 = .int .i64 i ∧ Hid (Of hs ((srt ys).drop i)) ∧ Hid (IsL 0 wt s3 hs) ∧ Hid (IsL 0 wt (.slice (some ⟨b, off, none⟩) (srt ys).length c) (srt ys)) ∧ Hid (Gd w wt))
        case atStart => exact ⟨0, hs, Nat.zero_le _, by omega, rfl, O1, Q5.out.any, by rw [L1.out]; exact I5.out.any, G5⟩
        case round =>
          clear Q5 I5 G5 O1
          obtain ⟨i, ks, hi, hgg, rfl, O, Q, I, G⟩ := hrel
          by_cases hlt : i < ys.length
          · have hcl := I.out.at (i := i) (by rw [L1.out]; exact hlt)
            have hbl : b < wr.heap.size := World.block_lt_of_cell? _ _ hcl
            have hi1 : (i : Int) < (ys.length : Int) := by omega
            have HD : Hid ((srt ys).drop i = (srt ys).getD i 0 :: (srt ys).drop (i + 1)) := drop_one (srt ys) i (by rw [L1.out]; exact hlt)
            generalize hxi : (srt ys).getD i 0 = x at hcl
            have HX : Hid ((srt ys).getD i 0 = x) := hxi
            clear hxi
            rw [HX.out] at HD
            have PW : Hid ((x :: (srt ys).drop (i + 1)).Pairwise (· ≤ ·)) := by rw [← HD.out]; exact S1.out.drop
            obtain ⟨zs, hz, oz⟩ := Of.take (by have := O.out; rw [HD.out] at this; exact this) PW.out
            have E1 : Hid (hdo ks 2 0 = (zs, 1, x)) := hz
            have O1 : Hid (Of zs ((srt ys).drop (i + 1))) := oz
            have L2 : Hid (ks.length ≤ 60) := (show ks.length ≤ 60 by rw [O.out.pm.length_eq, List.length_drop, L1.out]; omega)
            clear hz oz
            have B0 : Hid (Bx wr.heap.size 0 0 (wr.alloc (.cells #[.int .i64 0, .int .i64 0] 27))) := Bx.born wr 0 0 _
            have Q0 : Hid (IsL 0 (wr.alloc (.cells #[.int .i64 0, .int .i64 0] 27)) u3 ks) := Q.out.new (.cells #[.int .i64 0, .int .i64 0] 27)
            have G0 : Hid (Gd wr (wr.alloc (.cells #[.int .i64 0, .int .i64 0] 27))) := (Gd.refl wr).new _
            clear Q HD PW O
            go_wp2_with fail
            refine (hDo_eq 0 Q0.out L2.out E1.out).mono ?_
            rintro e m4 ⟨v4, rfl, hq, hb⟩
            have B2 : Hid (Bx wr.heap.size 0 0 m4) := B0.out.later hb
            have G2 : Hid (Gd wr m4) := G0.out.later hb
            have Q2 : Hid (IsL (wr.alloc (.cells #[.int .i64 0, .int .i64 0] 27)).heap.size m4 v4 zs) := hq
            clear hb hq Q0 G0
            have c0 := B2.out.c0
            have c1 := B2.out.c1
            have f0 := B2.out.f0
            have f1 := B2.out.f1
            go_wp2
            go_roundg (ys.length - (i + 1))
            case measure => omega
            case rel =>
              have P := B2.out.put (c' := 1) (y' := x) (Nat.le_refl _) G2.out
              refine ⟨i + 1, zs, by omega, by omega, by go_num, O1, ((Q2.out.setCell ?_ _).setCell ?_ _).any, I.out.later P.2, G.out.later P.2⟩
              · exact B0.out.lt
              · exact B0.out.lt
          · obtain rfl : i = ys.length := by omega
            have hn : ks = [] := Of.none (by have := O.out; rw [← L1.out, List.drop_length] at this; exact this)
            subst hn
            have G2 : Hid (Gd w wr) := G
            obtain ⟨a', c', rfl⟩ := Q.out.form
            clear Q I O
            go_wp2
            go_ret
            exact ⟨rfl, G2.out⟩


set_option maxRecDepth 100000 in
theorem lifted (os : Os) (started : os.Started) (H : Type) (enc : TypeId × Value → H) :
    ReturnsInHanded {} Try.checked os 7 .any (Rows.heapSortsSpec.pre6 enc Try.prog Try.f7 Rows.heapSortsRow.domain false) (Rows.heapSortsSpec.post enc Try.prog Try.f7 false true false false) := by
  refine returnsInHanded_of_change (C := Try.checked) own started (by kernel_rfl) Try.func7
    (ChangeSpec.witness6 (enc := enc) (C := Try.checked) false ⟨#[], #[.slice none 0 0], []⟩ 8 (by kernel_rfl) (by kernel_rfl) (by kernel_rfl) (by kernel_rfl)) ?_
  intro W base args ds gs before hval0 hW hcnd _
  have hval : ∀ (j : Nat) t v, Try.f7.params[j]? = some t → args[j]? = some v → Value.okWide Try.prog W .any base t v := hval0
  have hW' := hW
  obtain ⟨p, q, hA0, hV, rfl, hfz, hnd⟩ := hW
  have hA : DataW.TrodAll enc Try.prog W 0 (fun _ => true) true Try.f7.params.toList args.toList ds p := hA0
  rw [Try.params7] at hA hval
  obtain ⟨v0, vs0, d0, ds0, p0, q0, hargs, rfl, rfl, h0, r0⟩ := trodAll_cons hA
  obtain ⟨rfl, rfl, rfl⟩ := trodAll_nil r0
  obtain rfl : args = #[v0] := by cases args; simp_all
  obtain ⟨rfl, rfl⟩ := trodVars_none hV
  obtain ⟨n0, D0⟩ := ints_of_trod (hval 0 22 v0 rfl rfl) h0
  have hlt := hW'.lt
  clear hA0 hval0
  refine (walk v0 n0  W  D0).mono fun e W' ⟨he, hg⟩ => ?_
  subst he
  exact ⟨_, rfl, post_below (pv := []) hW' (fun _ _ _ => (trodAll_cons_mk (shut_bool Try.underlying4 _) trodAll_mk0)) (fun sp hsp => (trodAll_cons_mk (ints_stay h0 hg (fun x hx => hlt x (by simp [hx])) (fun x hx => hsp x (by simp [hx]))) trodAll_mk0)) (fun _ _ => rfl) (by simp) (hg.frame _)⟩

theorem over : Rows.heapSortsRow.holds Try.pinned (OpenSpec.ofChange Rows.heapSortsSpec) :=
  OpenClaim.holds_of_wide 7 Try.f7 rfl rfl rfl rfl rfl rfl rfl ⟨rfl, rfl, rfl, rfl, rfl⟩ rfl rfl rfl rfl rfl (by kernel_rfl) Try.func7 (by kernel_rfl)
    (of_decide_eq_true (by kernel_rfl)) (by unfold Func.isWrapper; first | (rw [if_pos (by decide +kernel)]; kernel_rfl) | (rw [if_neg (by decide +kernel)]; exact ⟨rfl, rfl⟩))
    (fun os started H enc _ => lifted os started H enc)

theorem proved : Rows.HeapSortsSaid :=
  over
#print axioms proved
end Go.Proofs.Ytenkjkfnampkiaa.heapSorts
