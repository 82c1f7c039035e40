/- StackOrder is proved: for every list the call returns true (what is put on a stack comes off the other way round). -/
import Derived.Test.YthjfkmalhdfmlabRows
import Derived.Test.YthjfkmalhdfmlabArgL
import Derived.Test.YthjfkmalhdfmlabKs
import Derived.ChangeAlike

namespace Go.Proofs.Ythjfkmalhdfmlab.stackOrder
open Go.ChangeShapes Go.WideShapes Go.ChangeAt Go.RowKit
set_option linter.unusedVariables false

theorem own : ownKnob Try.prog.godebug = none := by kernel_rfl

set_option maxHeartbeats 4000000 in
theorem walk (v : Value) (xs : List Int) (w : World) (D : In w v xs) :
    Calls Try.prog 4 #[v] w fun e w' => e = .returned (.bool true) ∧ Below w.heap.size w w' := by
  obtain ⟨ys, hys⟩ : ∃ ys, ys = fw xs := ⟨_, rfl⟩
  have hl6 : ys.length ≤ 6 := by rw [hys]; exact fw_le _
  have HY : Hid (ys = fw xs) := hys
  clear hys
  have hlx : Hid (xs.length ≤ 9223372036854775807) := D.2
  have h1 : Hid (IsL 0 w v xs) := D.1
  clear D
  go_enter Try.func4, Try.ntmps4
  go_wp2_with fail
  refine (stacked_is _).mono ?_
  rintro e m1 ⟨rfl, hb⟩
  have g1 : Hid (Gd w m1) := hb
  have h2 : Hid (IsL 0 m1 v xs) := h1.out.later hb
  clear hb h1
  go_wp2_with fail
  refine (few_is h2.out hlx.out).mono ?_
  rintro e m2 ⟨l, rfl, hi, hb⟩
  rw [← HY.out] at hi
  have g2 : Hid (Gd w m2) := g1.out.later hb
  have I2 : Hid (IsL 0 m2 l ys) := hi.any
  clear hi hb h2 g1
  by_cases h0 : ys.length = 0
  · have hnil : ys = [] := List.eq_nil_of_length_eq_zero h0
    subst hnil
    obtain ⟨a, c, rfl⟩ := I2.out.form
    go_wp2_with fail
    go_loopg [16, 3] 0 (fun _ s16 s3 wt => s16 = .int .i64 0 ∧ s3 = .slice none 0 0 ∧ wt = m2)
    case atStart => exact ⟨rfl, rfl, rfl⟩
    case round =>
      obtain ⟨rfl, rfl, rfl⟩ := hrel
      go_wp2_with fail
      go_loopg [6, 3] 0 (fun _ s6 s3 wt => s6 = .int .i64 (-1) ∧ s3 = .slice none 0 0 ∧ Hid (Gd w wt))
      case atStart => exact ⟨rfl, rfl, g2⟩
      case round =>
        clear g2
        obtain ⟨rfl, rfl, G2⟩ := hrel
        have Q2 : Hid (IsL 0 wr (.slice none 0 0) []) := IsL.nil _ _ _ _
        go_wp2_with fail
        refine (sDo_eq (xs := []) (ys := []) (o := 2) (x := 0) (c := 2) (y := 0) 0 Q2.out (by simp) (by decide)).mono ?_
        rintro e m7 ⟨v7, rfl, hq, hb⟩
        have G3 : Hid (Gd w (m7.alloc (.cells #[.int .i64 2, .int .i64 0] 27))) := (G2.out.later hb).new _
        clear hq hb
        go_wp2
        go_ret
        exact ⟨rfl, G3.out⟩
  · have hpos : 0 < ys.length := by omega
    obtain ⟨b, off, c, rfl⟩ := I2.out.formp hpos
    clear h0
    go_wp2_with fail
    go_loopg [16, 3] ys.length (fun gg s16 s3 wt => ∃ i : Nat, i ≤ ys.length ∧ ys.length - i ≤ gg ∧ s16 = .int .i64 i ∧ Hid (IsL 0 wt s3 (ys.take i)) ∧ Hid (IsL 0 wt (.slice (some ⟨b, off, none⟩) ys.length c) ys) ∧ Hid (Gd w wt))
    case atStart => exact ⟨0, Nat.zero_le _, by omega, rfl, IsL.nil _ _ _ _, I2, g2⟩
    case round =>
      obtain ⟨i, hi, hgg, rfl, Q, I, G⟩ := hrel
      by_cases hlt : i < ys.length
      · have hcl := I.out.at hlt
        have hbl : b < wr.heap.size := World.block_lt_of_cell? _ _ hcl
        have hi1 : (i : Int) < (ys.length : Int) := by omega
        generalize hxi : ys.getD i 0 = x at hcl
        have HX : Hid (ys.getD i 0 = x) := hxi
        clear hxi
        have HT : Hid (ys.take i ++ [x] = ys.take (i + 1)) := by have := take_more ys i hlt; rw [HX.out] at this; exact this
        go_wp2_with fail
        refine (put_is _ _).mono ?_
        rintro e m3 ⟨rfl, hb⟩
        have Q1 : Hid (IsL 0 m3 u3 (ys.take i)) := Q.out.later hb
        have I1 : Hid (IsL 0 m3 (.slice (some ⟨b, off, none⟩) ys.length c) ys) := I.out.later hb
        have G1 : Hid (Gd w m3) := G.out.later hb
        clear hb Q I G
        go_wp2_with fail
        refine (sDo_eq 0 Q1.out (by simp; omega) (sdo_put x (by simp; omega))).mono ?_
        rintro e m4 ⟨v4, rfl, hq, hb⟩
        rw [HT.out] at hq
        have I3 : Hid (IsL 0 m4 (.slice (some ⟨b, off, none⟩) ys.length c) ys) := I1.out.later hb
        have G3 : Hid (Gd w m4) := G1.out.later hb
        have Q3 : Hid (IsL 0 m4 v4 (ys.take (i + 1))) := hq.any
        clear hb hq Q1 G1 I1 hcl
        go_wp2
        go_roundg (ys.length - (i + 1))
        case measure => omega
        case rel => exact ⟨i + 1, by omega, by omega, by go_num, Q3, I3, G3⟩
      · obtain rfl : i = ys.length := by omega
        go_wp2_with fail
        go_loopg [6, 3] ys.length (fun gg s6 s3 wt => ∃ k : Nat, k ≤ ys.length ∧ k ≤ gg ∧ s6 = .int .i64 ((k : Int) - 1) ∧ Hid (IsL 0 wt s3 (ys.take k)) ∧ Hid (IsL 0 wt (.slice (some ⟨b, off, none⟩) ys.length c) ys) ∧ Hid (Gd w wt))
        case atStart => exact ⟨ys.length, Nat.le_refl _, Nat.le_refl _, rfl, Q, I, G⟩
        case round =>
          clear Q I G
          obtain ⟨k, hk, hgg, hs6, Q, I, G⟩ := hrel
          cases k with
          | succ j =>
            obtain rfl : u6 = .int .i64 (j : Int) := by rw [hs6]; congr 1; omega
            clear hs6
            have hlt : j < ys.length := by omega
            have hcl := I.out.at hlt
            have hbl : b < wr.heap.size := World.block_lt_of_cell? _ _ hcl
            have hi1 : (j : Int) < (ys.length : Int) := by omega
            have hi0 : (0 : Int) ≤ (j : Int) := by omega
            generalize hxi : ys.getD j 0 = x at hcl
            have HX : Hid (ys.getD j 0 = x) := hxi
            clear hxi
            have HT : Hid (ys.take j ++ [x] = ys.take (j + 1)) := by have := take_more ys j hlt; rw [HX.out] at this; exact this
            have B0 : Hid (Bx wr.heap.size 0 0 (wr.alloc (.cells #[.int .i64 0, .int .i64 0] 27))) := Bx.born wr 0 0 _
            have Q0 : Hid (IsL 0 (wr.alloc (.cells #[.int .i64 0, .int .i64 0] 27)) u3 (ys.take j ++ [x])) := by have := Q.out.new (.cells #[.int .i64 0, .int .i64 0] 27); rw [← HT.out] at this; exact this
            have G0 : Hid (Gd wr (wr.alloc (.cells #[.int .i64 0, .int .i64 0] 27))) := (Gd.refl wr).new _
            have L : Hid (wr.cell? ⟨b, off + j, none⟩ = some (.int .i64 x)) := hcl
            clear Q
            go_wp2_with fail
            refine (sDo_eq 0 Q0.out (by simp; omega) (sdo_take (ys.take j) x 0)).mono ?_
            rintro e m4 ⟨v4, rfl, hq, hb⟩
            have B2 : Hid (Bx wr.heap.size 0 0 m4) := B0.out.later hb
            have G2 : Hid (Gd wr m4) := G0.out.later hb
            have Q2 : Hid (IsL (wr.alloc (.cells #[.int .i64 0, .int .i64 0] 27)).heap.size m4 v4 (ys.take j)) := hq
            have hcl4 : m4.cell? ⟨b, off + j, none⟩ = some (.int .i64 x) := by rw [Below.cell (p := ⟨b, off + j, none⟩) G2.out hbl]; exact L.out
            clear hb hq Q0 G0 hcl
            have c0 := B2.out.c0
            have c1 := B2.out.c1
            have f0 := B2.out.f0
            have f1 := B2.out.f1
            have hne : ¬ b = wr.heap.size := by omega
            have hne' : ¬ wr.heap.size = b := by omega
            go_wp2_with fail
            go_region
            all_goals go_wp2
            go_roundg j
            case measure => omega
            case rel =>
              have P := B2.out.put (c' := 1) (y' := x) (Nat.le_refl _) G2.out
              refine ⟨j, by omega, Nat.le_refl _, by go_num, (((Q2.out.setCell ?_ _).setCell ?_ _).later (Below.refl _ _).drew).any, (I.out.later P.2).later (Below.refl _ _).drew, (G.out.later P.2).later (Below.refl _ _).drew⟩
              · exact B0.out.lt
              · exact B0.out.lt
          | zero =>
            obtain rfl : u6 = .int .i64 (-1) := by rw [hs6]; rfl
            have Q2 : Hid (IsL 0 wr u3 []) := Q
            have G2 : Hid (Gd w wr) := G
            clear Q hs6
            obtain ⟨a, c', rfl⟩ := Q2.out.form
            go_wp2_with fail
            refine (sDo_eq (xs := []) (ys := []) (o := 2) (x := 0) (c := 2) (y := 0) 0 Q2.out (by simp) (by decide)).mono ?_
            rintro e m7 ⟨v7, rfl, hq, hb⟩
            have G3 : Hid (Gd w (m7.alloc (.cells #[.int .i64 2, .int .i64 0] 27))) := (G2.out.later hb).new _
            clear hq hb
            go_wp2
            go_ret
            exact ⟨rfl, G3.out⟩


set_option maxRecDepth 100000 in
theorem lifted (os : Os) (started : os.Started) (H : Type) (enc : TypeId × Value → H) :
    ReturnsInHanded {} Try.checked os 4 .any (Rows.stackOrderSpec.pre6 enc Try.prog Try.f4 Rows.stackOrderRow.domain false) (Rows.stackOrderSpec.post enc Try.prog Try.f4 false true false false) := by
  refine returnsInHanded_of_change (C := Try.checked) own started (by kernel_rfl) Try.func4
    (ChangeSpec.witness6 (enc := enc) (C := Try.checked) false ⟨#[], #[.slice none 0 0], []⟩ 8 (by kernel_rfl) (by kernel_rfl) (by kernel_rfl) (by kernel_rfl)) ?_
  intro W base args ds gs before hval0 hW hcnd _
  have hval : ∀ (j : Nat) t v, Try.f4.params[j]? = some t → args[j]? = some v → Value.okWide Try.prog W .any base t v := hval0
  have hW' := hW
  obtain ⟨p, q, hA0, hV, rfl, hfz, hnd⟩ := hW
  have hA : DataW.TrodAll enc Try.prog W 0 (fun _ => true) true Try.f4.params.toList args.toList ds p := hA0
  rw [Try.params4] at hA hval
  obtain ⟨v0, vs0, d0, ds0, p0, q0, hargs, rfl, rfl, h0, r0⟩ := trodAll_cons hA
  obtain ⟨rfl, rfl, rfl⟩ := trodAll_nil r0
  obtain rfl : args = #[v0] := by cases args; simp_all
  obtain ⟨rfl, rfl⟩ := trodVars_none hV
  obtain ⟨n0, D0⟩ := ints_of_trod (hval 0 22 v0 rfl rfl) h0
  have hlt := hW'.lt
  clear hA0 hval0
  refine (walk v0 n0  W  D0).mono fun e W' ⟨he, hg⟩ => ?_
  subst he
  exact ⟨_, rfl, post_below (pv := []) hW' (fun _ _ _ => (trodAll_cons_mk (shut_bool Try.underlying4 _) trodAll_mk0)) (fun sp hsp => (trodAll_cons_mk (ints_stay h0 hg (fun x hx => hlt x (by simp [hx])) (fun x hx => hsp x (by simp [hx]))) trodAll_mk0)) (fun _ _ => rfl) (by simp) (hg.frame _)⟩

theorem over : Rows.stackOrderRow.holds Try.pinned (OpenSpec.ofChange Rows.stackOrderSpec) :=
  OpenClaim.holds_of_wide 4 Try.f4 rfl rfl rfl rfl rfl rfl rfl ⟨rfl, rfl, rfl, rfl, rfl⟩ rfl rfl rfl rfl rfl (by kernel_rfl) Try.func4 (by kernel_rfl)
    (of_decide_eq_true (by kernel_rfl)) (by unfold Func.isWrapper; first | (rw [if_pos (by decide +kernel)]; kernel_rfl) | (rw [if_neg (by decide +kernel)]; exact ⟨rfl, rfl⟩))
    (fun os started H enc _ => lifted os started H enc)

theorem proved : Rows.StackOrderSaid :=
  over
#print axioms proved
end Go.Proofs.Ythjfkmalhdfmlab.stackOrder
