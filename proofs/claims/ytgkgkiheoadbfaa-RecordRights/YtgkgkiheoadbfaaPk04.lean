/- Texts laid together: The reference's ThingOf: lists; The reference's ThingOf, by its contract; Package object: the list that words are; Package object: the slots that words are; Package object: Right, by its contract; What words are an object, said in two ways; The reference's Thing.Cells, by its contract: of whatever object; Package stack's Do, by its contract. -/
import Derived.Test.YtgkgkiheoadbfaaPk03
import Derived.Test.YtgkgkiheoadbfaaPk02
import Derived.Test.YtgkgkiheoadbfaaPk01
namespace Go.Proofs.Ytgkgkiheoadbfaa.Tab
set_option maxRecDepth 20000
open Go.RowKit
set_option linter.unusedVariables false

set_option maxHeartbeats 8000000 in
theorem ThingOf_long {bc oc kc : Nat} {c : Nat → Nat} {w : World} {b : Bool} {kind : Int} (k5 : 1 ≤ kind ∧ kind ≤ 4) (hc : Wf w bc oc c) (hm : ∀ j, j < 17 → c j ≤ 4294967295) (h6 : 6 < c 0) :
    Calls Try.prog 23 #[.int .i64 kind, .slice (some ⟨bc, oc, none⟩) 17 kc] w fun e w' => ∃ v t x, v.oneCell' = true ∧ e = .returned (.tuple #[.agg (tg kind v t x).toArray, .bool false]) ∧ Below w.heap.size w w' := by
  have hk : 1 ≤ kind ∧ kind ≤ 6 := by omega
  have m5 : (kind == 5) = false := by simp; omega
  have m6 : (kind == 6) = false := by simp; omega
  have HK : Hid (kind ≠ 5 ∧ kind ≠ 6) := ⟨by omega, by omega⟩
  have HM : Hid _ := hm
  have H6 : Hid _ := h6
  have hC : Hid _ := hc
  clear k5 hm h6 hc
  have hM : Hid _ := (((Ms.nil w).bornR (tg_zero 0).symm 40 (b := w.heap.size) rfl).bornR (tg_zero 0).symm 40 (b := w.heap.size + 1) (by simp))
  go_enter Try.func23, Try.ntmps23
  go_wp2_with (first
    | (refine sR rfl (hM.out.at 0 rfl) rfl (rwN.len (rwK kind)) (rwK kind) ?_
       replace hM := hid (hM.out.put 0 rfl _ (rwN.len (rwK kind)))
       generalize World.setCells _ _ _ _ = W at hM ⊢
       rw [← tg_nil] at hM))
  generalize hsz : w.heap.size = n at hM ⊢
  clear hsz
  refine (rwithin_yes kind 1 6 _ hk.1 hk.2).mono ?_
  rintro e ux ⟨rfl, hw⟩
  rw [hw]; clear hw ux
  go_wp2_with fail
  go_loopg [19] 17 (fun gg s19 wt => wt = W ∧ ∃ i : Nat, i ≤ 17 ∧ 17 - i ≤ gg ∧ s19 = .int .i64 i ∧ Hid (∀ j, j < i → c j ≤ 4294967295))
  case atStart => exact ⟨rfl, 0, by omega, by omega, rfl, fun j hj => absurd hj (by omega)⟩
  case round =>
    obtain ⟨rfl, i, hi, hgg, rfl, U⟩ := hrel
    by_cases hlt : i < 17
    · have g0 := (hC.out.later hM.out.below).cell i hlt
      have hi1 : (i : Int) < 17 := by omega
      have hi0 : (0 : Int) ≤ (i : Int) := by omega
      by_cases hle : c i ≤ 4294967295
      · have U' : Hid (∀ j, j < i + 1 → c j ≤ 4294967295) := fun j hj => by
          by_cases e : j = i
          · subst e; exact hle
          · exact U.out j (by omega)
        have hd : ¬ 4294967295 < ((c i : Nat) : Int) := by omega
        clear U
        generalize c i = x at g0 hd hle
        clear hle
        go_wp2
        go_roundg (17 - (i + 1))
        case measure => omega
        case rel => exact ⟨rfl, i + 1, by omega, by omega, by go_num, U'⟩
      · exact absurd (HM.out i hlt) hle
    · obtain rfl : i = 17 := by omega
      clear U hlt
      have g0 : wr.cell? ⟨bc, oc, none⟩ = _ := (hC.out.later hM.out.below).cell 0 (by decide)
      have h6 := H6.out
      have hd : decide ((6 : Int) < ((c 0 : Nat) : Int)) = true := by simp; omega
      generalize c 0 = z at g0 hd
      clear h6
      go_wp2_with (first
        | (refine lR rfl (hM.out.at 0 rfl) rfl (rwTh kind rfl _ _) ?_)
        | (refine sR rfl (hM.out.at 1 rfl) rfl (rwN.len (rwTh kind rfl _ _)) (rwTh kind rfl _ _) ?_
           replace hM := hid (hM.out.put 1 rfl (tg kind (.slice none 0 0) Tb.zero 0) (rwN.len (rwTh kind rfl _ _)))
           generalize World.setCells _ _ _ _ = W at hM ⊢))
      exact bodyPost_ret (res1s Try.results23 (hM.out.at 1 rfl) (rwTh kind rfl _ _) (.bool false)) rfl ⟨(.slice none 0 0), Tb.zero, 0, rfl, rfl, hM.out.below⟩
set_option maxHeartbeats 8000000 in
theorem ThingOf_4n {bc oc kc : Nat} {c : Nat → Nat} {w : World} {b : Bool} {kind : Int} (k5 : 1 ≤ kind ∧ kind ≤ 4) (hc : Wf w bc oc c) (hm : ∀ j, j < 17 → c j ≤ 4294967295) (h6 : c 0 ≤ 6) (h4 : kind = 4) (hp : ¬ Hp (lst c)) :
    Calls Try.prog 23 #[.int .i64 kind, .slice (some ⟨bc, oc, none⟩) 17 kc] w fun e w' => ∃ v t x, v.oneCell' = true ∧ e = .returned (.tuple #[.agg (tg kind v t x).toArray, .bool false]) ∧ Below w.heap.size w w' := by
  have hk : 1 ≤ kind ∧ kind ≤ 6 := by omega
  have m5 : (kind == 5) = false := by simp; omega
  have m6 : (kind == 6) = false := by simp; omega
  have HK : Hid (kind ≠ 5 ∧ kind ≠ 6) := ⟨by omega, by omega⟩
  have HM : Hid _ := hm
  have H6 : Hid _ := h6
  have hC : Hid _ := hc
  clear k5 hm h6 hc
  have H4 : Hid _ := h4
  have HP : Hid _ := hp
  clear h4 hp
  have LT : Hid (∀ i, i < c 0 → (lst c).take i ++ [((c (i + 1) : Nat) : Int)] = (lst c).take (i + 1)) := fun i hi => lsq_take c hi
  have LL : Hid (∀ i, i ≤ c 0 → ((lst c).take i).length = i) := fun i hi => by rw [List.length_take, lst_length]; omega
  have LE : Hid ((lst c).take (c 0) = lst c) := List.take_of_length_le (by rw [lst_length]; exact Nat.le_refl _)
  have LX : Hid (∀ x ∈ lst c, 0 ≤ x ∧ x ≤ 4294967295) := lst_le (fun j hj => HM.out j hj) H6.out
  have LL0 : Hid _ := lst_length c
  have hM : Hid _ := (((Ms.nil w).bornR (tg_zero 0).symm 40 (b := w.heap.size) rfl).bornR (tg_zero 0).symm 40 (b := w.heap.size + 1) (by simp))
  go_enter Try.func23, Try.ntmps23
  go_wp2_with (first
    | (refine sR rfl (hM.out.at 0 rfl) rfl (rwN.len (rwK kind)) (rwK kind) ?_
       replace hM := hid (hM.out.put 0 rfl _ (rwN.len (rwK kind)))
       generalize World.setCells _ _ _ _ = W at hM ⊢
       rw [← tg_nil] at hM))
  generalize hsz : w.heap.size = n at hM ⊢
  clear hsz
  refine (rwithin_yes kind 1 6 _ hk.1 hk.2).mono ?_
  rintro e ux ⟨rfl, hw⟩
  rw [hw]; clear hw ux
  go_wp2_with fail
  go_loopg [19] 17 (fun gg s19 wt => wt = W ∧ ∃ i : Nat, i ≤ 17 ∧ 17 - i ≤ gg ∧ s19 = .int .i64 i ∧ Hid (∀ j, j < i → c j ≤ 4294967295))
  case atStart => exact ⟨rfl, 0, by omega, by omega, rfl, fun j hj => absurd hj (by omega)⟩
  case round =>
    obtain ⟨rfl, i, hi, hgg, rfl, U⟩ := hrel
    by_cases hlt : i < 17
    · have g0 := (hC.out.later hM.out.below).cell i hlt
      have hi1 : (i : Int) < 17 := by omega
      have hi0 : (0 : Int) ≤ (i : Int) := by omega
      by_cases hle : c i ≤ 4294967295
      · have U' : Hid (∀ j, j < i + 1 → c j ≤ 4294967295) := fun j hj => by
          by_cases e : j = i
          · subst e; exact hle
          · exact U.out j (by omega)
        have hd : ¬ 4294967295 < ((c i : Nat) : Int) := by omega
        clear U
        generalize c i = x at g0 hd hle
        clear hle
        go_wp2
        go_roundg (17 - (i + 1))
        case measure => omega
        case rel => exact ⟨rfl, i + 1, by omega, by omega, by go_num, U'⟩
      · exact absurd (HM.out i hlt) hle
    · obtain rfl : i = 17 := by omega
      clear U hlt
      have g0 : wr.cell? ⟨bc, oc, none⟩ = _ := (hC.out.later hM.out.below).cell 0 (by decide)
      have h6 := H6.out
      have ez1 : IntKind.i64.wrap ((c 0 : Nat) : Int) = (c 0 : Nat) := by rw [IntKind.wrap_i64]; omega
      have ez2 : wrap64 ((c 0 : Nat) : Int) = (c 0 : Nat) := by unfold wrap64; omega
      have hd : decide ((6 : Int) < ((c 0 : Nat) : Int)) = false := by simp; omega
      have hdn : ¬ (6 : Int) < ((c 0 : Nat) : Int) := by omega
      obtain ⟨z, hz⟩ : ∃ z, c 0 = z := ⟨_, rfl⟩
      rw [hz] at g0 ez1 ez2 hd hdn LT LL LE LL0 h6
      clear hz
      obtain ⟨wq, rfl⟩ : ∃ wq, wq = wr := ⟨_, rfl⟩
      go_wp2_with fail
      clear g0 hd hdn
      have hnw : n + 2 ≤ wq.heap.size := by have := hM.out.len 0 rfl; omega
      go_loopg [37] z (fun gg s37 wt => ∃ i : Nat, i ≤ z ∧ z - i ≤ gg ∧ s37 = .int .i64 i ∧ n + 2 ≤ wt.heap.size ∧ ∃ v, Hid (Own (n + 2) wt v ((lst c).take i)) ∧ Hid (Ms n w wt [(n + 1, tg kind v Tb.zero 0), (n, tg 0 (.slice none 0 0) Tb.zero 0)] []))
      case atStart => exact ⟨0, by omega, by omega, rfl, hnw, (.slice none 0 0), ⟨rfl, Or.inl ⟨rfl, rfl⟩⟩, hM⟩
      case round =>
        clear hM hnw
        obtain ⟨i, hi, hgg, rfl, hnw, v, O, hM⟩ := hrel
        by_cases hlt : i < z
        · have N1 : Hid _ := LT.out i hlt
          have L1 : Hid (((lst c).take i).length + 1 ≤ 1000000) := by have := LL.out i (by omega); show _ + 1 ≤ 1000000; omega
          have x1 := HM.out (i + 1) (by omega)
          have ex1 : IntKind.i64.wrap ((c (i + 1) : Nat) : Int) = (c (i + 1) : Nat) := by rw [IntKind.wrap_i64]; omega
          have ex2 : wrap64 ((c (i + 1) : Nat) : Int) = (c (i + 1) : Nat) := by unfold wrap64; omega
          have i1 : (i : Int) < (z : Int) := by omega
          have j1 : (i : Int) + 1 < 17 := by omega
          have j0 : (0 : Int) ≤ (i : Int) + 1 := by omega
          have j2 : IntKind.i64.wrap ((i : Int) + 1) = (i : Int) + 1 := by rw [IntKind.wrap_i64]; omega
          have j3 : ((i : Int) + 1).toNat = i + 1 := by omega
          generalize (lst c).take i = ys at O N1 L1
          go_wp2_with fail
          generalize wr = W at hM O hnw ⊢
          replace hM := hid (hM.out.drew)
          replace O := hid (Own.drew O.out)
          replace hnw : n + 2 ≤ W.drew.heap.size := hnw
          refine wp_region_held_drew (S := fun w' => Wf w' bc oc c) (by kernel_rfl) (hC.out.later hM.out.below) (fun hH => ?_)
          generalize World.drew _ = W at hM O hnw hH ⊢
          refine tk 0 rfl hH ?_
          simp only [Act.put, p1, p2, p3]
          refine tk 2 rfl hH ?_
          simp only [Act.put, p1, p2, p3]
          refine tk 3 rfl hH ?_
          simp only [Act.put, p1, p2, p3]
          refine tk 4 rfl hH ?_
          simp only [Act.put, p1, p2, p3]
          refine tk 5 rfl hH ?_
          simp only [Act.put, p1, p2, p3]
          refine tk 6 rfl hH ?_ (by intro w h; have c0 := h.cell (i + 1) (by omega); clear h; go_simp; try with_reducible rfl)
          simp only [Act.put, p1, p2, p3]
          refine tk 7 rfl hH ?_
          simp only [Act.put, p1, p2, p3]
          refine rdn [1, 8] ?_
          refine rdc rfl (fun K hK => ?_) ?_
          · have c0 := hM.out.cell 0 1 rfl (tg_1 _ _ _ _)
            go_simp
            clear c0
            refine hK.out _ _ (hC.out.later hM.out.below) (fun hH => ?_)
            clear hK K
            try simp only [Act.put, p1, p2, p3]
            refine rd1 8 rfl (fun K hK => ?_)
            go_simp
            have hI : Hid (IsL 0 (W.alloc (.cells #[.int .i64 (c (i + 1) : Nat)] 3)) (.slice (some ⟨W.heap.size, 0, none⟩) 1 1) [((c (i + 1) : Nat) : Int)]) := IsL.lit W [((c (i + 1) : Nat) : Int)] Nat.zero_lt_one
            replace O := hid (Own.new O.out (.cells #[.int .i64 (c (i + 1) : Nat)] 3))
            replace hM := hid (hM.out.new (.cells #[.int .i64 (c (i + 1) : Nat)] 3))
            replace hnw : n + 2 ≤ (W.alloc (.cells #[.int .i64 (c (i + 1) : Nat)] 3)).heap.size := by simp; omega
            refine hK.out _ _ (hC.out.later hM.out.below) (fun hH => ?_)
            clear hK K
            generalize World.alloc _ _ = W1 at hM hI O hnw hH ⊢
            try simp only [Act.put, p1, p2, p3]
            refine rd1 9 rfl (fun K hK => ?_)
            refine apO (.tmp 41) (.tmp 48) rfl hnw O.out hI.out rfl rfl L1.out ?_
            intro W3 w3 hO3 hb3
            obtain ⟨a3, k3, rfl⟩ := hO3.form
            generalize hl3 : (ys ++ [((c (i + 1) : Nat) : Int)]).length = l3
            rw [hl3] at hO3; clear hl3
            replace hM := hid (hM.out.laterA hb3 (by simp))
            replace hnw : n + 2 ≤ w3.heap.size := Nat.le_trans hnw hb3.size
            clear O hI
            have O : Hid _ := hO3
            clear hO3 hb3
            refine hK.out _ _ (hC.out.later hM.out.below) (fun hH => ?_)
            clear hK K
            try simp only [Act.put, p1, p2, p3]
            refine tk 10 rfl hH ?_
            simp only [Act.put, p1, p2, p3]
            refine rd1 11 rfl (fun K hK => ?_)
            have c0 := hM.out.cell 0 1 rfl (tg_1 _ _ _ _)
            have c1 := hM.out.froz 0 1 rfl
            go_simp
            clear c0 c1
            replace hM := hid (hM.out.put1 0 1 rfl (.slice a3 l3 k3) (tg kind (.slice a3 l3 k3) Tb.zero 0) (by rw [tg_length]; decide) (tg_list _ _ (.slice a3 l3 k3) _ _))
            replace O := hid (Own.aside O.out (p := ⟨n + 1, 1, none⟩) (by simp) (.slice a3 l3 k3))
            refine hK.out _ _ (hC.out.later hM.out.below) (fun hH => ?_)
            clear hK K
            try simp only [p1, p2, p3]
            refine wpAnyH_done (by kernel_rfl) ?_ _
            go_wp2
            go_roundg (z - (i + 1))
            case measure => omega
            case rel => exact ⟨i + 1, by omega, by omega, by go_num, by simpa [World.setCell] using hnw, (.slice a3 l3 k3), by rw [← N1.out]; exact O.out, hM⟩
          refine rdc rfl (fun K hK => ?_) AllReadyH.nil
          go_simp
          have hI : Hid (IsL 0 (W.alloc (.cells #[.int .i64 (c (i + 1) : Nat)] 3)) (.slice (some ⟨W.heap.size, 0, none⟩) 1 1) [((c (i + 1) : Nat) : Int)]) := IsL.lit W [((c (i + 1) : Nat) : Int)] Nat.zero_lt_one
          replace O := hid (Own.new O.out (.cells #[.int .i64 (c (i + 1) : Nat)] 3))
          replace hM := hid (hM.out.new (.cells #[.int .i64 (c (i + 1) : Nat)] 3))
          replace hnw : n + 2 ≤ (W.alloc (.cells #[.int .i64 (c (i + 1) : Nat)] 3)).heap.size := by simp; omega
          refine hK.out _ _ (hC.out.later hM.out.below) (fun hH => ?_)
          clear hK K
          generalize World.alloc _ _ = W1 at hM hI O hnw hH ⊢
          try simp only [Act.put, p1, p2, p3]
          refine rd1 1 rfl (fun K hK => ?_)
          have c0 := hM.out.cell 0 1 rfl (tg_1 _ _ _ _)
          go_simp
          clear c0
          refine hK.out _ _ (hC.out.later hM.out.below) (fun hH => ?_)
          clear hK K
          try simp only [Act.put, p1, p2, p3]
          refine rd1 9 rfl (fun K hK => ?_)
          refine apO (.tmp 41) (.tmp 48) rfl hnw O.out hI.out rfl rfl L1.out ?_
          intro W3 w3 hO3 hb3
          obtain ⟨a3, k3, rfl⟩ := hO3.form
          generalize hl3 : (ys ++ [((c (i + 1) : Nat) : Int)]).length = l3
          rw [hl3] at hO3; clear hl3
          replace hM := hid (hM.out.laterA hb3 (by simp))
          replace hnw : n + 2 ≤ w3.heap.size := Nat.le_trans hnw hb3.size
          clear O hI
          have O : Hid _ := hO3
          clear hO3 hb3
          refine hK.out _ _ (hC.out.later hM.out.below) (fun hH => ?_)
          clear hK K
          try simp only [Act.put, p1, p2, p3]
          refine tk 10 rfl hH ?_
          simp only [Act.put, p1, p2, p3]
          refine rd1 11 rfl (fun K hK => ?_)
          have c0 := hM.out.cell 0 1 rfl (tg_1 _ _ _ _)
          have c1 := hM.out.froz 0 1 rfl
          go_simp
          clear c0 c1
          replace hM := hid (hM.out.put1 0 1 rfl (.slice a3 l3 k3) (tg kind (.slice a3 l3 k3) Tb.zero 0) (by rw [tg_length]; decide) (tg_list _ _ (.slice a3 l3 k3) _ _))
          replace O := hid (Own.aside O.out (p := ⟨n + 1, 1, none⟩) (by simp) (.slice a3 l3 k3))
          refine hK.out _ _ (hC.out.later hM.out.below) (fun hH => ?_)
          clear hK K
          try simp only [p1, p2, p3]
          refine wpAnyH_done (by kernel_rfl) ?_ _
          go_wp2
          go_roundg (z - (i + 1))
          case measure => omega
          case rel => exact ⟨i + 1, by omega, by omega, by go_num, by simpa [World.setCell] using hnw, (.slice a3 l3 k3), by rw [← N1.out]; exact O.out, hM⟩
        · have ei : i = z := by omega
          rw [ei, LE.out] at O
          clear hlt
          have I : Hid (IsL (n + 2) wr v (lst c)) := O.out.isL
          clear O
          have HVO : Hid (v.oneCell' = true) := by obtain ⟨a, k, hv⟩ := I.out.form; rw [hv]; rfl
          have t1 := hM.out.cell 0 1 rfl (tg_1 _ _ _ _)
          have h4 := H4.out
          clear H4
          subst h4
          go_wp2_with fail
          refine (RRight_isnt I.out (by rw [LL0.out]; omega) (fun h => HP.out h.2)).mono ?_
          rintro e W ⟨rfl, hb⟩
          replace I := hid (IsL.later I.out hb)
          replace hM := hid (hM.out.later hb)
          clear hb t1
          go_wp2_with (first
            | (refine lR rfl (hM.out.at 0 rfl) rfl (rwTh 4 HVO.out _ _) ?_)
            | (refine sR rfl (hM.out.at 1 rfl) rfl (rwN.len (rwTh 4 HVO.out _ _)) (rwTh 4 HVO.out _ _) ?_
               replace hM := hid (hM.out.put 1 rfl (tg 4 v Tb.zero 0) (rwN.len (rwTh 4 HVO.out _ _)))
               generalize World.setCells _ _ _ _ = W at hM ⊢))
          exact bodyPost_ret (res1s Try.results23 (hM.out.at 1 rfl) (rwTh 4 HVO.out _ _) (.bool false)) rfl ⟨_, Tb.zero, 0, HVO.out, rfl, hM.out.below⟩
set_option maxHeartbeats 8000000 in
theorem ThingOf_4 {bc oc kc : Nat} {c : Nat → Nat} {w : World} {b : Bool} {kind : Int} (k5 : 1 ≤ kind ∧ kind ≤ 4) (hc : Wf w bc oc c) (hm : ∀ j, j < 17 → c j ≤ 4294967295) (h6 : c 0 ≤ 6) (h4 : kind = 4) (hp : Hp (lst c)) (hv : b = true ↔ ∀ j, j < 17 → lw (lst c) j = c j) :
    Calls Try.prog 23 #[.int .i64 kind, .slice (some ⟨bc, oc, none⟩) 17 kc] w fun e w' => ∃ v, e = .returned (.tuple #[.agg (tg kind v Tb.zero 0).toArray, .bool b]) ∧ IsL w.heap.size w' v (lst c) ∧ Below w.heap.size w w' := by
  have hk : 1 ≤ kind ∧ kind ≤ 6 := by omega
  have m5 : (kind == 5) = false := by simp; omega
  have m6 : (kind == 6) = false := by simp; omega
  have HK : Hid (kind ≠ 5 ∧ kind ≠ 6) := ⟨by omega, by omega⟩
  have HM : Hid _ := hm
  have H6 : Hid _ := h6
  have hC : Hid _ := hc
  clear k5 hm h6 hc
  have H4 : Hid _ := h4
  have HP : Hid _ := hp
  clear h4 hp
  have HV : Hid _ := hv
  clear hv
  have LT : Hid (∀ i, i < c 0 → (lst c).take i ++ [((c (i + 1) : Nat) : Int)] = (lst c).take (i + 1)) := fun i hi => lsq_take c hi
  have LL : Hid (∀ i, i ≤ c 0 → ((lst c).take i).length = i) := fun i hi => by rw [List.length_take, lst_length]; omega
  have LE : Hid ((lst c).take (c 0) = lst c) := List.take_of_length_le (by rw [lst_length]; exact Nat.le_refl _)
  have LX : Hid (∀ x ∈ lst c, 0 ≤ x ∧ x ≤ 4294967295) := lst_le (fun j hj => HM.out j hj) H6.out
  have LL0 : Hid _ := lst_length c
  have hM : Hid _ := (((Ms.nil w).bornR (tg_zero 0).symm 40 (b := w.heap.size) rfl).bornR (tg_zero 0).symm 40 (b := w.heap.size + 1) (by simp))
  go_enter Try.func23, Try.ntmps23
  go_wp2_with (first
    | (refine sR rfl (hM.out.at 0 rfl) rfl (rwN.len (rwK kind)) (rwK kind) ?_
       replace hM := hid (hM.out.put 0 rfl _ (rwN.len (rwK kind)))
       generalize World.setCells _ _ _ _ = W at hM ⊢
       rw [← tg_nil] at hM))
  generalize hsz : w.heap.size = n at hM ⊢
  clear hsz
  refine (rwithin_yes kind 1 6 _ hk.1 hk.2).mono ?_
  rintro e ux ⟨rfl, hw⟩
  rw [hw]; clear hw ux
  go_wp2_with fail
  go_loopg [19] 17 (fun gg s19 wt => wt = W ∧ ∃ i : Nat, i ≤ 17 ∧ 17 - i ≤ gg ∧ s19 = .int .i64 i ∧ Hid (∀ j, j < i → c j ≤ 4294967295))
  case atStart => exact ⟨rfl, 0, by omega, by omega, rfl, fun j hj => absurd hj (by omega)⟩
  case round =>
    obtain ⟨rfl, i, hi, hgg, rfl, U⟩ := hrel
    by_cases hlt : i < 17
    · have g0 := (hC.out.later hM.out.below).cell i hlt
      have hi1 : (i : Int) < 17 := by omega
      have hi0 : (0 : Int) ≤ (i : Int) := by omega
      by_cases hle : c i ≤ 4294967295
      · have U' : Hid (∀ j, j < i + 1 → c j ≤ 4294967295) := fun j hj => by
          by_cases e : j = i
          · subst e; exact hle
          · exact U.out j (by omega)
        have hd : ¬ 4294967295 < ((c i : Nat) : Int) := by omega
        clear U
        generalize c i = x at g0 hd hle
        clear hle
        go_wp2
        go_roundg (17 - (i + 1))
        case measure => omega
        case rel => exact ⟨rfl, i + 1, by omega, by omega, by go_num, U'⟩
      · exact absurd (HM.out i hlt) hle
    · obtain rfl : i = 17 := by omega
      clear U hlt
      have g0 : wr.cell? ⟨bc, oc, none⟩ = _ := (hC.out.later hM.out.below).cell 0 (by decide)
      have h6 := H6.out
      have ez1 : IntKind.i64.wrap ((c 0 : Nat) : Int) = (c 0 : Nat) := by rw [IntKind.wrap_i64]; omega
      have ez2 : wrap64 ((c 0 : Nat) : Int) = (c 0 : Nat) := by unfold wrap64; omega
      have hd : decide ((6 : Int) < ((c 0 : Nat) : Int)) = false := by simp; omega
      have hdn : ¬ (6 : Int) < ((c 0 : Nat) : Int) := by omega
      obtain ⟨z, hz⟩ : ∃ z, c 0 = z := ⟨_, rfl⟩
      rw [hz] at g0 ez1 ez2 hd hdn LT LL LE LL0 h6
      clear hz
      obtain ⟨wq, rfl⟩ : ∃ wq, wq = wr := ⟨_, rfl⟩
      go_wp2_with fail
      clear g0 hd hdn
      have hnw : n + 2 ≤ wq.heap.size := by have := hM.out.len 0 rfl; omega
      go_loopg [37] z (fun gg s37 wt => ∃ i : Nat, i ≤ z ∧ z - i ≤ gg ∧ s37 = .int .i64 i ∧ n + 2 ≤ wt.heap.size ∧ ∃ v, Hid (Own (n + 2) wt v ((lst c).take i)) ∧ Hid (Ms n w wt [(n + 1, tg kind v Tb.zero 0), (n, tg 0 (.slice none 0 0) Tb.zero 0)] []))
      case atStart => exact ⟨0, by omega, by omega, rfl, hnw, (.slice none 0 0), ⟨rfl, Or.inl ⟨rfl, rfl⟩⟩, hM⟩
      case round =>
        clear hM hnw
        obtain ⟨i, hi, hgg, rfl, hnw, v, O, hM⟩ := hrel
        by_cases hlt : i < z
        · have N1 : Hid _ := LT.out i hlt
          have L1 : Hid (((lst c).take i).length + 1 ≤ 1000000) := by have := LL.out i (by omega); show _ + 1 ≤ 1000000; omega
          have x1 := HM.out (i + 1) (by omega)
          have ex1 : IntKind.i64.wrap ((c (i + 1) : Nat) : Int) = (c (i + 1) : Nat) := by rw [IntKind.wrap_i64]; omega
          have ex2 : wrap64 ((c (i + 1) : Nat) : Int) = (c (i + 1) : Nat) := by unfold wrap64; omega
          have i1 : (i : Int) < (z : Int) := by omega
          have j1 : (i : Int) + 1 < 17 := by omega
          have j0 : (0 : Int) ≤ (i : Int) + 1 := by omega
          have j2 : IntKind.i64.wrap ((i : Int) + 1) = (i : Int) + 1 := by rw [IntKind.wrap_i64]; omega
          have j3 : ((i : Int) + 1).toNat = i + 1 := by omega
          generalize (lst c).take i = ys at O N1 L1
          go_wp2_with fail
          generalize wr = W at hM O hnw ⊢
          replace hM := hid (hM.out.drew)
          replace O := hid (Own.drew O.out)
          replace hnw : n + 2 ≤ W.drew.heap.size := hnw
          refine wp_region_held_drew (S := fun w' => Wf w' bc oc c) (by kernel_rfl) (hC.out.later hM.out.below) (fun hH => ?_)
          generalize World.drew _ = W at hM O hnw hH ⊢
          refine tk 0 rfl hH ?_
          simp only [Act.put, p1, p2, p3]
          refine tk 2 rfl hH ?_
          simp only [Act.put, p1, p2, p3]
          refine tk 3 rfl hH ?_
          simp only [Act.put, p1, p2, p3]
          refine tk 4 rfl hH ?_
          simp only [Act.put, p1, p2, p3]
          refine tk 5 rfl hH ?_
          simp only [Act.put, p1, p2, p3]
          refine tk 6 rfl hH ?_ (by intro w h; have c0 := h.cell (i + 1) (by omega); clear h; go_simp; try with_reducible rfl)
          simp only [Act.put, p1, p2, p3]
          refine tk 7 rfl hH ?_
          simp only [Act.put, p1, p2, p3]
          refine rdn [1, 8] ?_
          refine rdc rfl (fun K hK => ?_) ?_
          · have c0 := hM.out.cell 0 1 rfl (tg_1 _ _ _ _)
            go_simp
            clear c0
            refine hK.out _ _ (hC.out.later hM.out.below) (fun hH => ?_)
            clear hK K
            try simp only [Act.put, p1, p2, p3]
            refine rd1 8 rfl (fun K hK => ?_)
            go_simp
            have hI : Hid (IsL 0 (W.alloc (.cells #[.int .i64 (c (i + 1) : Nat)] 3)) (.slice (some ⟨W.heap.size, 0, none⟩) 1 1) [((c (i + 1) : Nat) : Int)]) := IsL.lit W [((c (i + 1) : Nat) : Int)] Nat.zero_lt_one
            replace O := hid (Own.new O.out (.cells #[.int .i64 (c (i + 1) : Nat)] 3))
            replace hM := hid (hM.out.new (.cells #[.int .i64 (c (i + 1) : Nat)] 3))
            replace hnw : n + 2 ≤ (W.alloc (.cells #[.int .i64 (c (i + 1) : Nat)] 3)).heap.size := by simp; omega
            refine hK.out _ _ (hC.out.later hM.out.below) (fun hH => ?_)
            clear hK K
            generalize World.alloc _ _ = W1 at hM hI O hnw hH ⊢
            try simp only [Act.put, p1, p2, p3]
            refine rd1 9 rfl (fun K hK => ?_)
            refine apO (.tmp 41) (.tmp 48) rfl hnw O.out hI.out rfl rfl L1.out ?_
            intro W3 w3 hO3 hb3
            obtain ⟨a3, k3, rfl⟩ := hO3.form
            generalize hl3 : (ys ++ [((c (i + 1) : Nat) : Int)]).length = l3
            rw [hl3] at hO3; clear hl3
            replace hM := hid (hM.out.laterA hb3 (by simp))
            replace hnw : n + 2 ≤ w3.heap.size := Nat.le_trans hnw hb3.size
            clear O hI
            have O : Hid _ := hO3
            clear hO3 hb3
            refine hK.out _ _ (hC.out.later hM.out.below) (fun hH => ?_)
            clear hK K
            try simp only [Act.put, p1, p2, p3]
            refine tk 10 rfl hH ?_
            simp only [Act.put, p1, p2, p3]
            refine rd1 11 rfl (fun K hK => ?_)
            have c0 := hM.out.cell 0 1 rfl (tg_1 _ _ _ _)
            have c1 := hM.out.froz 0 1 rfl
            go_simp
            clear c0 c1
            replace hM := hid (hM.out.put1 0 1 rfl (.slice a3 l3 k3) (tg kind (.slice a3 l3 k3) Tb.zero 0) (by rw [tg_length]; decide) (tg_list _ _ (.slice a3 l3 k3) _ _))
            replace O := hid (Own.aside O.out (p := ⟨n + 1, 1, none⟩) (by simp) (.slice a3 l3 k3))
            refine hK.out _ _ (hC.out.later hM.out.below) (fun hH => ?_)
            clear hK K
            try simp only [p1, p2, p3]
            refine wpAnyH_done (by kernel_rfl) ?_ _
            go_wp2
            go_roundg (z - (i + 1))
            case measure => omega
            case rel => exact ⟨i + 1, by omega, by omega, by go_num, by simpa [World.setCell] using hnw, (.slice a3 l3 k3), by rw [← N1.out]; exact O.out, hM⟩
          refine rdc rfl (fun K hK => ?_) AllReadyH.nil
          go_simp
          have hI : Hid (IsL 0 (W.alloc (.cells #[.int .i64 (c (i + 1) : Nat)] 3)) (.slice (some ⟨W.heap.size, 0, none⟩) 1 1) [((c (i + 1) : Nat) : Int)]) := IsL.lit W [((c (i + 1) : Nat) : Int)] Nat.zero_lt_one
          replace O := hid (Own.new O.out (.cells #[.int .i64 (c (i + 1) : Nat)] 3))
          replace hM := hid (hM.out.new (.cells #[.int .i64 (c (i + 1) : Nat)] 3))
          replace hnw : n + 2 ≤ (W.alloc (.cells #[.int .i64 (c (i + 1) : Nat)] 3)).heap.size := by simp; omega
          refine hK.out _ _ (hC.out.later hM.out.below) (fun hH => ?_)
          clear hK K
          generalize World.alloc _ _ = W1 at hM hI O hnw hH ⊢
          try simp only [Act.put, p1, p2, p3]
          refine rd1 1 rfl (fun K hK => ?_)
          have c0 := hM.out.cell 0 1 rfl (tg_1 _ _ _ _)
          go_simp
          clear c0
          refine hK.out _ _ (hC.out.later hM.out.below) (fun hH => ?_)
          clear hK K
          try simp only [Act.put, p1, p2, p3]
          refine rd1 9 rfl (fun K hK => ?_)
          refine apO (.tmp 41) (.tmp 48) rfl hnw O.out hI.out rfl rfl L1.out ?_
          intro W3 w3 hO3 hb3
          obtain ⟨a3, k3, rfl⟩ := hO3.form
          generalize hl3 : (ys ++ [((c (i + 1) : Nat) : Int)]).length = l3
          rw [hl3] at hO3; clear hl3
          replace hM := hid (hM.out.laterA hb3 (by simp))
          replace hnw : n + 2 ≤ w3.heap.size := Nat.le_trans hnw hb3.size
          clear O hI
          have O : Hid _ := hO3
          clear hO3 hb3
          refine hK.out _ _ (hC.out.later hM.out.below) (fun hH => ?_)
          clear hK K
          try simp only [Act.put, p1, p2, p3]
          refine tk 10 rfl hH ?_
          simp only [Act.put, p1, p2, p3]
          refine rd1 11 rfl (fun K hK => ?_)
          have c0 := hM.out.cell 0 1 rfl (tg_1 _ _ _ _)
          have c1 := hM.out.froz 0 1 rfl
          go_simp
          clear c0 c1
          replace hM := hid (hM.out.put1 0 1 rfl (.slice a3 l3 k3) (tg kind (.slice a3 l3 k3) Tb.zero 0) (by rw [tg_length]; decide) (tg_list _ _ (.slice a3 l3 k3) _ _))
          replace O := hid (Own.aside O.out (p := ⟨n + 1, 1, none⟩) (by simp) (.slice a3 l3 k3))
          refine hK.out _ _ (hC.out.later hM.out.below) (fun hH => ?_)
          clear hK K
          try simp only [p1, p2, p3]
          refine wpAnyH_done (by kernel_rfl) ?_ _
          go_wp2
          go_roundg (z - (i + 1))
          case measure => omega
          case rel => exact ⟨i + 1, by omega, by omega, by go_num, by simpa [World.setCell] using hnw, (.slice a3 l3 k3), by rw [← N1.out]; exact O.out, hM⟩
        · have ei : i = z := by omega
          rw [ei, LE.out] at O
          clear hlt
          have I : Hid (IsL (n + 2) wr v (lst c)) := O.out.isL
          clear O
          have HVO : Hid (v.oneCell' = true) := by obtain ⟨a, k, hv⟩ := I.out.form; rw [hv]; rfl
          have t1 := hM.out.cell 0 1 rfl (tg_1 _ _ _ _)
          have h4 := H4.out
          clear H4
          subst h4
          go_wp2_with fail
          refine (RRight_yes I.out (by rw [LL0.out]; omega) HP.out).mono ?_
          rintro e W ⟨rfl, hb⟩
          replace I := hid (IsL.later I.out hb)
          replace hM := hid (hM.out.later hb)
          clear hb t1
          have CC : Hid (∀ W, IsL (n + 2) W v (lst c) → _) := fun W h => Cells_list (k := 4) (v := v) (l := lst c) (by decide) (by decide) Tb.zero 0 (w := W) h (by rw [LL0.out]; exact h6) LX.out
          go_wp2_with fail
          replace hM := hid (hM.out.drew)
          replace I := hid (IsL.drew I.out )
          refine wp_region_held_drew (S := fun w' => Bo w' (n + 1) (tg 4 v Tb.zero 0)) (by kernel_rfl) (hM.out.at 0 rfl) (fun hH => ?_)
          generalize World.drew _ = W at hM hH I ⊢
          refine tkR 0 rfl hH (fun _ h => h) (rwTh 4 HVO.out _ _) ?_
          simp only [Act.put, p1, p2, p3]
          refine tkR 1 rfl hH (fun _ h => h) (rwTh 4 HVO.out _ _) ?_
          simp only [Act.put, p1, p2, p3]
          refine tk 3 rfl hH ?_
          simp only [Act.put, p1, p2, p3]
          refine rd1 2 rfl (fun K hK => ?_)
          go_simp
          refine (CC.out _ I.out).mono ?_
          rintro e W ⟨⟨bq, rfl, hq, hW⟩, hb⟩
          replace hM := hid (hM.out.laterB hb hq hW)
          replace I := hid (IsL.later I.out hb)
          clear hb
          go_wp2_with fail
          refine hK.out _ _ (hM.out.at 1 rfl) (fun hH => ?_)
          clear hK K
          try simp only [Act.put, p1, p2, p3]
          refine rd1 4 rfl (fun K hK => ?_)
          go_simp
          refine (same_wf (hM.out.at 0 rfl) (hC.out.later hM.out.below) _ HV.out).mono ?_
          rintro e W ⟨rfl, hb⟩
          replace hM := hid (hM.out.later hb)
          replace I := hid (IsL.later I.out hb)
          clear hb
          go_wp2_with fail
          refine hK.out _ _ (hM.out.at 1 rfl) (fun hH => ?_)
          clear hK K
          try simp only [Act.put, p1, p2, p3]
          refine rd1 5 rfl (fun K hK => ?_)
          refine stR rfl (hM.out.at 2 rfl) (rwN.len (rwTh 4 HVO.out _ _)) (rwTh 4 HVO.out _ _) ?_
          simp only [Act.put]
          replace hM := hid (hM.out.put 2 rfl (tg 4 v Tb.zero 0) (rwN.len (rwTh 4 HVO.out _ _)))
          replace I := hid (IsL.asideL I.out (k := n) (by omega) 0 (tg 4 v Tb.zero 0))
          refine hK.out _ _ (hM.out.at 1 rfl) (fun hH => ?_)
          clear hK K
          generalize World.setCells _ _ _ _ = W at hM I hH ⊢
          try simp only [Act.put, p1, p2, p3]
          refine tk 6 rfl hH ?_
          simp only [Act.put, p1, p2, p3]
          refine wpAnyH_done (by kernel_rfl) ?_ _
          go_wp2
          exact bodyPost_ret (res1s Try.results23 (hM.out.at 2 rfl) (rwTh 4 HVO.out _ _) (.bool _)) rfl ⟨v, rfl, IsL.mono I.out (by have := hM.out.size; omega), hM.out.below⟩
set_option maxHeartbeats 8000000 in
theorem ThingOf_l {bc oc kc : Nat} {c : Nat → Nat} {w : World} {b : Bool} {kind : Int} (k5 : 1 ≤ kind ∧ kind ≤ 4) (hc : Wf w bc oc c) (hm : ∀ j, j < 17 → c j ≤ 4294967295) (h6 : c 0 ≤ 6) (h4 : kind ≠ 4) (hv : b = true ↔ ∀ j, j < 17 → lw (lst c) j = c j) :
    Calls Try.prog 23 #[.int .i64 kind, .slice (some ⟨bc, oc, none⟩) 17 kc] w fun e w' => ∃ v, e = .returned (.tuple #[.agg (tg kind v Tb.zero 0).toArray, .bool b]) ∧ IsL w.heap.size w' v (lst c) ∧ Below w.heap.size w w' := by
  have hk : 1 ≤ kind ∧ kind ≤ 6 := by omega
  have m5 : (kind == 5) = false := by simp; omega
  have m6 : (kind == 6) = false := by simp; omega
  have HK : Hid (kind ≠ 5 ∧ kind ≠ 6) := ⟨by omega, by omega⟩
  have HM : Hid _ := hm
  have H6 : Hid _ := h6
  have hC : Hid _ := hc
  clear k5 hm h6 hc
  have m4 : (kind == 4) = false := by simp; exact h4
  clear h4
  have HV : Hid _ := hv
  clear hv
  have LT : Hid (∀ i, i < c 0 → (lst c).take i ++ [((c (i + 1) : Nat) : Int)] = (lst c).take (i + 1)) := fun i hi => lsq_take c hi
  have LL : Hid (∀ i, i ≤ c 0 → ((lst c).take i).length = i) := fun i hi => by rw [List.length_take, lst_length]; omega
  have LE : Hid ((lst c).take (c 0) = lst c) := List.take_of_length_le (by rw [lst_length]; exact Nat.le_refl _)
  have LX : Hid (∀ x ∈ lst c, 0 ≤ x ∧ x ≤ 4294967295) := lst_le (fun j hj => HM.out j hj) H6.out
  have LL0 : Hid _ := lst_length c
  have hM : Hid _ := (((Ms.nil w).bornR (tg_zero 0).symm 40 (b := w.heap.size) rfl).bornR (tg_zero 0).symm 40 (b := w.heap.size + 1) (by simp))
  go_enter Try.func23, Try.ntmps23
  go_wp2_with (first
    | (refine sR rfl (hM.out.at 0 rfl) rfl (rwN.len (rwK kind)) (rwK kind) ?_
       replace hM := hid (hM.out.put 0 rfl _ (rwN.len (rwK kind)))
       generalize World.setCells _ _ _ _ = W at hM ⊢
       rw [← tg_nil] at hM))
  generalize hsz : w.heap.size = n at hM ⊢
  clear hsz
  refine (rwithin_yes kind 1 6 _ hk.1 hk.2).mono ?_
  rintro e ux ⟨rfl, hw⟩
  rw [hw]; clear hw ux
  go_wp2_with fail
  go_loopg [19] 17 (fun gg s19 wt => wt = W ∧ ∃ i : Nat, i ≤ 17 ∧ 17 - i ≤ gg ∧ s19 = .int .i64 i ∧ Hid (∀ j, j < i → c j ≤ 4294967295))
  case atStart => exact ⟨rfl, 0, by omega, by omega, rfl, fun j hj => absurd hj (by omega)⟩
  case round =>
    obtain ⟨rfl, i, hi, hgg, rfl, U⟩ := hrel
    by_cases hlt : i < 17
    · have g0 := (hC.out.later hM.out.below).cell i hlt
      have hi1 : (i : Int) < 17 := by omega
      have hi0 : (0 : Int) ≤ (i : Int) := by omega
      by_cases hle : c i ≤ 4294967295
      · have U' : Hid (∀ j, j < i + 1 → c j ≤ 4294967295) := fun j hj => by
          by_cases e : j = i
          · subst e; exact hle
          · exact U.out j (by omega)
        have hd : ¬ 4294967295 < ((c i : Nat) : Int) := by omega
        clear U
        generalize c i = x at g0 hd hle
        clear hle
        go_wp2
        go_roundg (17 - (i + 1))
        case measure => omega
        case rel => exact ⟨rfl, i + 1, by omega, by omega, by go_num, U'⟩
      · exact absurd (HM.out i hlt) hle
    · obtain rfl : i = 17 := by omega
      clear U hlt
      have g0 : wr.cell? ⟨bc, oc, none⟩ = _ := (hC.out.later hM.out.below).cell 0 (by decide)
      have h6 := H6.out
      have ez1 : IntKind.i64.wrap ((c 0 : Nat) : Int) = (c 0 : Nat) := by rw [IntKind.wrap_i64]; omega
      have ez2 : wrap64 ((c 0 : Nat) : Int) = (c 0 : Nat) := by unfold wrap64; omega
      have hd : decide ((6 : Int) < ((c 0 : Nat) : Int)) = false := by simp; omega
      have hdn : ¬ (6 : Int) < ((c 0 : Nat) : Int) := by omega
      obtain ⟨z, hz⟩ : ∃ z, c 0 = z := ⟨_, rfl⟩
      rw [hz] at g0 ez1 ez2 hd hdn LT LL LE LL0 h6
      clear hz
      obtain ⟨wq, rfl⟩ : ∃ wq, wq = wr := ⟨_, rfl⟩
      go_wp2_with fail
      clear g0 hd hdn
      have hnw : n + 2 ≤ wq.heap.size := by have := hM.out.len 0 rfl; omega
      go_loopg [37] z (fun gg s37 wt => ∃ i : Nat, i ≤ z ∧ z - i ≤ gg ∧ s37 = .int .i64 i ∧ n + 2 ≤ wt.heap.size ∧ ∃ v, Hid (Own (n + 2) wt v ((lst c).take i)) ∧ Hid (Ms n w wt [(n + 1, tg kind v Tb.zero 0), (n, tg 0 (.slice none 0 0) Tb.zero 0)] []))
      case atStart => exact ⟨0, by omega, by omega, rfl, hnw, (.slice none 0 0), ⟨rfl, Or.inl ⟨rfl, rfl⟩⟩, hM⟩
      case round =>
        clear hM hnw
        obtain ⟨i, hi, hgg, rfl, hnw, v, O, hM⟩ := hrel
        by_cases hlt : i < z
        · have N1 : Hid _ := LT.out i hlt
          have L1 : Hid (((lst c).take i).length + 1 ≤ 1000000) := by have := LL.out i (by omega); show _ + 1 ≤ 1000000; omega
          have x1 := HM.out (i + 1) (by omega)
          have ex1 : IntKind.i64.wrap ((c (i + 1) : Nat) : Int) = (c (i + 1) : Nat) := by rw [IntKind.wrap_i64]; omega
          have ex2 : wrap64 ((c (i + 1) : Nat) : Int) = (c (i + 1) : Nat) := by unfold wrap64; omega
          have i1 : (i : Int) < (z : Int) := by omega
          have j1 : (i : Int) + 1 < 17 := by omega
          have j0 : (0 : Int) ≤ (i : Int) + 1 := by omega
          have j2 : IntKind.i64.wrap ((i : Int) + 1) = (i : Int) + 1 := by rw [IntKind.wrap_i64]; omega
          have j3 : ((i : Int) + 1).toNat = i + 1 := by omega
          generalize (lst c).take i = ys at O N1 L1
          go_wp2_with fail
          generalize wr = W at hM O hnw ⊢
          replace hM := hid (hM.out.drew)
          replace O := hid (Own.drew O.out)
          replace hnw : n + 2 ≤ W.drew.heap.size := hnw
          refine wp_region_held_drew (S := fun w' => Wf w' bc oc c) (by kernel_rfl) (hC.out.later hM.out.below) (fun hH => ?_)
          generalize World.drew _ = W at hM O hnw hH ⊢
          refine tk 0 rfl hH ?_
          simp only [Act.put, p1, p2, p3]
          refine tk 2 rfl hH ?_
          simp only [Act.put, p1, p2, p3]
          refine tk 3 rfl hH ?_
          simp only [Act.put, p1, p2, p3]
          refine tk 4 rfl hH ?_
          simp only [Act.put, p1, p2, p3]
          refine tk 5 rfl hH ?_
          simp only [Act.put, p1, p2, p3]
          refine tk 6 rfl hH ?_ (by intro w h; have c0 := h.cell (i + 1) (by omega); clear h; go_simp; try with_reducible rfl)
          simp only [Act.put, p1, p2, p3]
          refine tk 7 rfl hH ?_
          simp only [Act.put, p1, p2, p3]
          refine rdn [1, 8] ?_
          refine rdc rfl (fun K hK => ?_) ?_
          · have c0 := hM.out.cell 0 1 rfl (tg_1 _ _ _ _)
            go_simp
            clear c0
            refine hK.out _ _ (hC.out.later hM.out.below) (fun hH => ?_)
            clear hK K
            try simp only [Act.put, p1, p2, p3]
            refine rd1 8 rfl (fun K hK => ?_)
            go_simp
            have hI : Hid (IsL 0 (W.alloc (.cells #[.int .i64 (c (i + 1) : Nat)] 3)) (.slice (some ⟨W.heap.size, 0, none⟩) 1 1) [((c (i + 1) : Nat) : Int)]) := IsL.lit W [((c (i + 1) : Nat) : Int)] Nat.zero_lt_one
            replace O := hid (Own.new O.out (.cells #[.int .i64 (c (i + 1) : Nat)] 3))
            replace hM := hid (hM.out.new (.cells #[.int .i64 (c (i + 1) : Nat)] 3))
            replace hnw : n + 2 ≤ (W.alloc (.cells #[.int .i64 (c (i + 1) : Nat)] 3)).heap.size := by simp; omega
            refine hK.out _ _ (hC.out.later hM.out.below) (fun hH => ?_)
            clear hK K
            generalize World.alloc _ _ = W1 at hM hI O hnw hH ⊢
            try simp only [Act.put, p1, p2, p3]
            refine rd1 9 rfl (fun K hK => ?_)
            refine apO (.tmp 41) (.tmp 48) rfl hnw O.out hI.out rfl rfl L1.out ?_
            intro W3 w3 hO3 hb3
            obtain ⟨a3, k3, rfl⟩ := hO3.form
            generalize hl3 : (ys ++ [((c (i + 1) : Nat) : Int)]).length = l3
            rw [hl3] at hO3; clear hl3
            replace hM := hid (hM.out.laterA hb3 (by simp))
            replace hnw : n + 2 ≤ w3.heap.size := Nat.le_trans hnw hb3.size
            clear O hI
            have O : Hid _ := hO3
            clear hO3 hb3
            refine hK.out _ _ (hC.out.later hM.out.below) (fun hH => ?_)
            clear hK K
            try simp only [Act.put, p1, p2, p3]
            refine tk 10 rfl hH ?_
            simp only [Act.put, p1, p2, p3]
            refine rd1 11 rfl (fun K hK => ?_)
            have c0 := hM.out.cell 0 1 rfl (tg_1 _ _ _ _)
            have c1 := hM.out.froz 0 1 rfl
            go_simp
            clear c0 c1
            replace hM := hid (hM.out.put1 0 1 rfl (.slice a3 l3 k3) (tg kind (.slice a3 l3 k3) Tb.zero 0) (by rw [tg_length]; decide) (tg_list _ _ (.slice a3 l3 k3) _ _))
            replace O := hid (Own.aside O.out (p := ⟨n + 1, 1, none⟩) (by simp) (.slice a3 l3 k3))
            refine hK.out _ _ (hC.out.later hM.out.below) (fun hH => ?_)
            clear hK K
            try simp only [p1, p2, p3]
            refine wpAnyH_done (by kernel_rfl) ?_ _
            go_wp2
            go_roundg (z - (i + 1))
            case measure => omega
            case rel => exact ⟨i + 1, by omega, by omega, by go_num, by simpa [World.setCell] using hnw, (.slice a3 l3 k3), by rw [← N1.out]; exact O.out, hM⟩
          refine rdc rfl (fun K hK => ?_) AllReadyH.nil
          go_simp
          have hI : Hid (IsL 0 (W.alloc (.cells #[.int .i64 (c (i + 1) : Nat)] 3)) (.slice (some ⟨W.heap.size, 0, none⟩) 1 1) [((c (i + 1) : Nat) : Int)]) := IsL.lit W [((c (i + 1) : Nat) : Int)] Nat.zero_lt_one
          replace O := hid (Own.new O.out (.cells #[.int .i64 (c (i + 1) : Nat)] 3))
          replace hM := hid (hM.out.new (.cells #[.int .i64 (c (i + 1) : Nat)] 3))
          replace hnw : n + 2 ≤ (W.alloc (.cells #[.int .i64 (c (i + 1) : Nat)] 3)).heap.size := by simp; omega
          refine hK.out _ _ (hC.out.later hM.out.below) (fun hH => ?_)
          clear hK K
          generalize World.alloc _ _ = W1 at hM hI O hnw hH ⊢
          try simp only [Act.put, p1, p2, p3]
          refine rd1 1 rfl (fun K hK => ?_)
          have c0 := hM.out.cell 0 1 rfl (tg_1 _ _ _ _)
          go_simp
          clear c0
          refine hK.out _ _ (hC.out.later hM.out.below) (fun hH => ?_)
          clear hK K
          try simp only [Act.put, p1, p2, p3]
          refine rd1 9 rfl (fun K hK => ?_)
          refine apO (.tmp 41) (.tmp 48) rfl hnw O.out hI.out rfl rfl L1.out ?_
          intro W3 w3 hO3 hb3
          obtain ⟨a3, k3, rfl⟩ := hO3.form
          generalize hl3 : (ys ++ [((c (i + 1) : Nat) : Int)]).length = l3
          rw [hl3] at hO3; clear hl3
          replace hM := hid (hM.out.laterA hb3 (by simp))
          replace hnw : n + 2 ≤ w3.heap.size := Nat.le_trans hnw hb3.size
          clear O hI
          have O : Hid _ := hO3
          clear hO3 hb3
          refine hK.out _ _ (hC.out.later hM.out.below) (fun hH => ?_)
          clear hK K
          try simp only [Act.put, p1, p2, p3]
          refine tk 10 rfl hH ?_
          simp only [Act.put, p1, p2, p3]
          refine rd1 11 rfl (fun K hK => ?_)
          have c0 := hM.out.cell 0 1 rfl (tg_1 _ _ _ _)
          have c1 := hM.out.froz 0 1 rfl
          go_simp
          clear c0 c1
          replace hM := hid (hM.out.put1 0 1 rfl (.slice a3 l3 k3) (tg kind (.slice a3 l3 k3) Tb.zero 0) (by rw [tg_length]; decide) (tg_list _ _ (.slice a3 l3 k3) _ _))
          replace O := hid (Own.aside O.out (p := ⟨n + 1, 1, none⟩) (by simp) (.slice a3 l3 k3))
          refine hK.out _ _ (hC.out.later hM.out.below) (fun hH => ?_)
          clear hK K
          try simp only [p1, p2, p3]
          refine wpAnyH_done (by kernel_rfl) ?_ _
          go_wp2
          go_roundg (z - (i + 1))
          case measure => omega
          case rel => exact ⟨i + 1, by omega, by omega, by go_num, by simpa [World.setCell] using hnw, (.slice a3 l3 k3), by rw [← N1.out]; exact O.out, hM⟩
        · have ei : i = z := by omega
          rw [ei, LE.out] at O
          clear hlt
          have I : Hid (IsL (n + 2) wr v (lst c)) := O.out.isL
          clear O
          have HVO : Hid (v.oneCell' = true) := by obtain ⟨a, k, hv⟩ := I.out.form; rw [hv]; rfl
          have t1 := hM.out.cell 0 1 rfl (tg_1 _ _ _ _)
          have CC : Hid (∀ W, IsL (n + 2) W v (lst c) → _) := fun W h => Cells_list (k := kind) (v := v) (l := lst c) HK.out.1 HK.out.2 Tb.zero 0 (w := W) h (by rw [LL0.out]; exact h6) LX.out
          go_wp2_with fail
          replace hM := hid (hM.out.drew)
          replace I := hid (IsL.drew I.out )
          refine wp_region_held_drew (S := fun w' => Bo w' (n + 1) (tg kind v Tb.zero 0)) (by kernel_rfl) (hM.out.at 0 rfl) (fun hH => ?_)
          generalize World.drew _ = W at hM hH I ⊢
          refine tkR 0 rfl hH (fun _ h => h) (rwTh kind HVO.out _ _) ?_
          simp only [Act.put, p1, p2, p3]
          refine tkR 1 rfl hH (fun _ h => h) (rwTh kind HVO.out _ _) ?_
          simp only [Act.put, p1, p2, p3]
          refine tk 3 rfl hH ?_
          simp only [Act.put, p1, p2, p3]
          refine rd1 2 rfl (fun K hK => ?_)
          go_simp
          refine (CC.out _ I.out).mono ?_
          rintro e W ⟨⟨bq, rfl, hq, hW⟩, hb⟩
          replace hM := hid (hM.out.laterB hb hq hW)
          replace I := hid (IsL.later I.out hb)
          clear hb
          go_wp2_with fail
          refine hK.out _ _ (hM.out.at 1 rfl) (fun hH => ?_)
          clear hK K
          try simp only [Act.put, p1, p2, p3]
          refine rd1 4 rfl (fun K hK => ?_)
          go_simp
          refine (same_wf (hM.out.at 0 rfl) (hC.out.later hM.out.below) _ HV.out).mono ?_
          rintro e W ⟨rfl, hb⟩
          replace hM := hid (hM.out.later hb)
          replace I := hid (IsL.later I.out hb)
          clear hb
          go_wp2_with fail
          refine hK.out _ _ (hM.out.at 1 rfl) (fun hH => ?_)
          clear hK K
          try simp only [Act.put, p1, p2, p3]
          refine rd1 5 rfl (fun K hK => ?_)
          refine stR rfl (hM.out.at 2 rfl) (rwN.len (rwTh kind HVO.out _ _)) (rwTh kind HVO.out _ _) ?_
          simp only [Act.put]
          replace hM := hid (hM.out.put 2 rfl (tg kind v Tb.zero 0) (rwN.len (rwTh kind HVO.out _ _)))
          replace I := hid (IsL.asideL I.out (k := n) (by omega) 0 (tg kind v Tb.zero 0))
          refine hK.out _ _ (hM.out.at 1 rfl) (fun hH => ?_)
          clear hK K
          generalize World.setCells _ _ _ _ = W at hM I hH ⊢
          try simp only [Act.put, p1, p2, p3]
          refine tk 6 rfl hH ?_
          simp only [Act.put, p1, p2, p3]
          refine wpAnyH_done (by kernel_rfl) ?_ _
          go_wp2
          exact bodyPost_ret (res1s Try.results23 (hM.out.at 2 rfl) (rwTh kind HVO.out _ _) (.bool _)) rfl ⟨v, rfl, IsL.mono I.out (by have := hM.out.size; omega), hM.out.below⟩
end Go.Proofs.Ytgkgkiheoadbfaa.Tab
namespace Go.Proofs.Ytgkgkiheoadbfaa.Tab
set_option maxRecDepth 20000
open Go.RowKit
set_option linter.unusedVariables false

/-- What a thing that words are is, as it lies. -/
structure Th (B : Nat) (w : World) (kind : Int) (c : Nat → Nat) (v : Value) (t : Tb) (x : Int) : Prop where
  list : kind ≤ 4 → IsL B w v (lst c) ∧ t = Tb.zero ∧ x = 0
  table : kind = 5 → v = .slice none 0 0 ∧ t.all = (tbl c).all ∧ x = 0
  tally : kind = 6 → v = .slice none 0 0 ∧ t = Tb.zero ∧ x = (c 0 : Nat)

theorem lw_iff {c : Nat → Nat} (h6 : c 0 ≤ 6) (hm : ∀ j, j < 17 → c j ≤ 4294967295) : (∀ j, j < 17 → lw (lst c) j = c j) ↔ WList c := by
  constructor
  · intro h
    refine ⟨h6, fun i _ hi => hm i (by omega), fun i h1 h2 => ?_⟩
    rw [← h i h2]
    unfold lw
    rw [if_neg (by omega), List.getD_eq_getElem?_getD, List.getElem?_eq_none (by rw [lst_length]; omega)]; rfl
  · exact lw_lst
theorem tw_iff {c : Nat → Nat} : (∀ j, j < 17 → tw (tbl c) j = c j) ↔ c 16 = 0 := by
  constructor
  · intro h
    rw [← h 16 (by decide)]; rfl
  · intro h j hj
    unfold tw tbl
    by_cases e : j < 16
    · rw [if_pos e]
      by_cases e2 : j % 2 = 0
      · rw [if_pos e2]; simp only [Int.toNat_natCast]; congr 1; omega
      · rw [if_neg e2]; simp only [Int.toNat_natCast]; congr 1; omega
    · rw [if_neg e, show j = 16 by omega, h]
theorem tyw_iff {c : Nat → Nat} : (∀ j, j < 17 → tyw (c 0 : Nat) j = c j) ↔ ∀ j, 1 ≤ j → j < 17 → c j = 0 := by
  constructor
  · intro h j h1 h2
    rw [← h j h2]; unfold tyw; rw [if_neg (by omega)]
  · intro h j hj
    unfold tyw
    by_cases e : j = 0
    · subst e; rw [if_pos rfl]; exact Int.toNat_natCast _
    · rw [if_neg e, h j (by omega) hj]

theorem ThingOf_is {kind : Int} {bc oc kc : Nat} {c : Nat → Nat} {b : Bool} (hb : b = true ↔ isTh kind c) {w : World} (hc : Wf w bc oc c) :
    Calls Try.prog 23 #[.int .i64 kind, .slice (some ⟨bc, oc, none⟩) 17 kc] w fun e w' => ∃ v t x, v.oneCell' = true ∧ e = .returned (.tuple #[.agg (tg kind v t x).toArray, .bool b]) ∧ (b = true → Th w.heap.size w' kind c v t x) ∧ Below w.heap.size w w' := by
  have no : ¬ isTh kind c → (Calls Try.prog 23 #[.int .i64 kind, .slice (some ⟨bc, oc, none⟩) 17 kc] w fun e w' => ∃ v t x, v.oneCell' = true ∧ e = .returned (.tuple #[.agg (tg kind v t x).toArray, .bool false]) ∧ Below w.heap.size w w') →
      Calls Try.prog 23 #[.int .i64 kind, .slice (some ⟨bc, oc, none⟩) 17 kc] w fun e w' => ∃ v t x, v.oneCell' = true ∧ e = .returned (.tuple #[.agg (tg kind v t x).toArray, .bool b]) ∧ (b = true → Th w.heap.size w' kind c v t x) ∧ Below w.heap.size w w' := by
    intro hn h
    have e : b = false := by cases b with
      | false => rfl
      | true => exact absurd (hb.1 rfl) hn
    subst e
    exact h.mono fun _ _ ⟨v, t, x, h1, h2, h3⟩ => ⟨v, t, x, h1, h2, (fun h => absurd h (by decide)), h3⟩
  by_cases hk : 1 ≤ kind ∧ kind ≤ 6
  · by_cases hm : ∀ j, j < 17 → c j ≤ 4294967295
    · have hkk : kind ≤ 4 ∨ kind = 5 ∨ kind = 6 := by omega
      rcases hkk with hk4 | hk5 | hk6
      · by_cases h6 : c 0 ≤ 6
        · have hl := lw_iff h6 hm
          by_cases h4 : kind = 4
          · by_cases hp : Hp (lst c)
            · refine (ThingOf_4 (b := b) ⟨hk.1, hk4⟩ hc hm h6 h4 hp ?_).mono fun e w' ⟨v, h1, h2, h3⟩ => ⟨v, Tb.zero, 0, ?_, h1, fun _ => ⟨fun _ => ⟨h2, rfl, rfl⟩, fun h => by omega, fun h => by omega⟩, h3⟩
              · rw [hb, hl]; unfold isTh; subst h4; simp [hp]
              · obtain ⟨a, k, rfl⟩ := h2.form; rfl
            · exact no (by unfold isTh; subst h4; simp [hp]) (ThingOf_4n (b := b) ⟨hk.1, hk4⟩ hc hm h6 h4 hp)
          · refine (ThingOf_l (b := b) ⟨hk.1, hk4⟩ hc hm h6 h4 ?_).mono fun e w' ⟨v, h1, h2, h3⟩ => ⟨v, Tb.zero, 0, ?_, h1, fun _ => ⟨fun _ => ⟨h2, rfl, rfl⟩, fun h => by omega, fun h => by omega⟩, h3⟩
            · rw [hb, hl]; unfold isTh
              constructor
              · rintro (⟨_, h⟩ | ⟨h, _⟩ | ⟨h, _⟩ | ⟨h, _⟩)
                · exact h
                · omega
                · omega
                · omega
              · intro h; exact Or.inl ⟨by omega, h⟩
            · obtain ⟨a, k, rfl⟩ := h2.form; rfl
        · refine no ?_ (ThingOf_long (b := b) ⟨hk.1, hk4⟩ hc hm (by omega))
          rintro (⟨_, h⟩ | ⟨_, h, _⟩ | ⟨h, _⟩ | ⟨h, _⟩)
          · exact h6 h.len
          · exact h6 h.len
          · omega
          · omega
      · by_cases hr : RT (tbl c)
        · refine (ThingOf_5 (b := b) hc hm hr ?_ hk5).mono fun e w' ⟨h1, h3⟩ => ⟨.slice none 0 0, tbl c, 0, rfl, by rw [h1, hk5], fun _ => ⟨fun h => by omega, fun _ => ⟨rfl, rfl, rfl⟩, fun h => by omega⟩, h3⟩
          rw [hb, tw_iff]; unfold isTh WT; subst hk5; simp [hr]; intro h j hj; exact hm j (by omega)
        · exact no (by unfold isTh WT; subst hk5; simp [hr]) ((ThingOf_5n (b := b) hc hm hr hk5).mono fun e w' ⟨h1, h3⟩ => ⟨.slice none 0 0, tbl c, 0, rfl, by rw [h1, hk5], h3⟩)
      · refine (ThingOf_6 (b := b) hc hm ?_ hk6).mono fun e w' ⟨h1, h3⟩ => ⟨.slice none 0 0, Tb.zero, (c 0 : Nat), rfl, by rw [h1, hk6], fun _ => ⟨fun h => by omega, fun h => by omega, fun _ => ⟨rfl, rfl, rfl⟩⟩, h3⟩
        rw [hb, tyw_iff]; unfold isTh WN; subst hk6; simp; intro h; exact hm 0 (by decide)
    · refine no (fun h => hm h.le) (ThingOf_big hk hc ?_)
      exact Classical.byContradiction fun h => hm fun j hj => by
        by_cases e : c j ≤ 4294967295
        · exact e
        · exact absurd ⟨j, hj, by omega⟩ h
  · exact no (fun h => hk h.kind) (ThingOf_bad (by omega) w)
end Go.Proofs.Ytgkgkiheoadbfaa.Tab
namespace Go.Proofs.Ytgkgkiheoadbfaa.Tab
set_option maxRecDepth 20000
open Go.RowKit

theorem own_nil (B : Nat) (w : World) : Own B w (.slice none 0 0) [] := ⟨rfl, Or.inl ⟨rfl, rfl⟩⟩
theorem lst_take (c : Nat → Nat) {i : Nat} (h : i < c 0) : (lst c).take i ++ [((c (1 + i) : Nat) : Int)] = (lst c).take (i + 1) := by
  have := take_more (lst c) i (by rw [lst_length]; exact h)
  rw [lst_at c h, Nat.add_comm i 1] at this
  rw [Nat.add_comm i 1]; exact this
set_option maxHeartbeats 2000000 in
theorem list_0 (c : Nat → Nat) (h : c 0 = 0) (hv : ∀ i, 1 ≤ i → i ≤ 0 → c i ≤ 4294967295) (w : World) : Calls Try.prog 47 #[.agg (wl c).toArray] w fun e w' => ∃ v, e = .returned v ∧ IsL w.heap.size w' v (lst c) ∧ Below w.heap.size w w' := by
  obtain ⟨i0, hi, hz0, hz1, hz2⟩ := info_parts info_int
  have G : Hid (Gd w.heap.size w (w.alloc (.cells (wl c).toArray 28))) := (Gd.refl w).new _
  have T : Hid (Bo (w.alloc (.cells (wl c).toArray 28)) w.heap.size (wl c)) := Bo.born w (wl c) _ rfl
  have g0 : (w.alloc (.cells (wl c).toArray 28)).cell? ⟨w.heap.size, 0, none⟩ = some (.int .u64 0) := by have := T.out.word (show 0 < 17 by decide); rw [h] at this; exact this
  have LT : Hid (∀ i, i < 0 → (lst c).take i ++ [((c (1 + i) : Nat) : Int)] = (lst c).take (i + 1)) := fun i hi => lst_take c (by omega)
  have LL : Hid (∀ i, i ≤ 0 → ((lst c).take i).length = i) := fun i hi => by rw [List.length_take, lst_length, h]; omega
  have LE : Hid ((lst c).take 0 = lst c) := List.take_of_length_le (by rw [lst_length, h]; omega)
  have HV : Hid _ := hv
  clear h hv
  go_enter Try.func47, Try.ntmps47
  go_wp2_with fail
  generalize w.alloc (.cells (wl c).toArray 28) = W at T G g0 ⊢
  generalize hsz : w.heap.size = n at T G g0 ⊢
  have HSZ : Hid (w.heap.size = n) := hsz
  clear hsz g0
  go_loopg [11, 3] 0 (fun gg s11 s3 wt => ∃ i : Nat, i ≤ 0 ∧ 0 - i ≤ gg ∧ s11 = .int .i64 i ∧ Hid (Own (n + 1) wt s3 ((lst c).take i)) ∧ Hid (Bo wt n (wl c)) ∧ Hid (Gd n w wt))
  case atStart => exact ⟨0, by omega, by omega, rfl, own_nil _ _, T, G⟩
  case round =>
    clear T G
    obtain ⟨i, hi1, hgg, rfl, O, T, G⟩ := hrel
    by_cases hlt : i < 0
    · exact absurd hlt (by omega)
    · have ei : i = 0 := by omega
      subst ei
      go_wp2
      go_ret
      have I : IsL (n + 1) wr u3 (lst c) := by have := O.out.isL; rw [LE.out] at this; exact this
      exact ⟨_, rfl, by rw [HSZ.out]; exact I.mono (by omega), G.out.2⟩
set_option maxHeartbeats 2000000 in
theorem list_1 (c : Nat → Nat) (h : c 0 = 1) (hv : ∀ i, 1 ≤ i → i ≤ 1 → c i ≤ 4294967295) (w : World) : Calls Try.prog 47 #[.agg (wl c).toArray] w fun e w' => ∃ v, e = .returned v ∧ IsL w.heap.size w' v (lst c) ∧ Below w.heap.size w w' := by
  obtain ⟨i0, hi, hz0, hz1, hz2⟩ := info_parts info_int
  have G : Hid (Gd w.heap.size w (w.alloc (.cells (wl c).toArray 28))) := (Gd.refl w).new _
  have T : Hid (Bo (w.alloc (.cells (wl c).toArray 28)) w.heap.size (wl c)) := Bo.born w (wl c) _ rfl
  have g0 : (w.alloc (.cells (wl c).toArray 28)).cell? ⟨w.heap.size, 0, none⟩ = some (.int .u64 1) := by have := T.out.word (show 0 < 17 by decide); rw [h] at this; exact this
  have LT : Hid (∀ i, i < 1 → (lst c).take i ++ [((c (1 + i) : Nat) : Int)] = (lst c).take (i + 1)) := fun i hi => lst_take c (by omega)
  have LL : Hid (∀ i, i ≤ 1 → ((lst c).take i).length = i) := fun i hi => by rw [List.length_take, lst_length, h]; omega
  have LE : Hid ((lst c).take 1 = lst c) := List.take_of_length_le (by rw [lst_length, h]; omega)
  have HV : Hid _ := hv
  clear h hv
  go_enter Try.func47, Try.ntmps47
  go_wp2_with fail
  generalize w.alloc (.cells (wl c).toArray 28) = W at T G g0 ⊢
  generalize hsz : w.heap.size = n at T G g0 ⊢
  have HSZ : Hid (w.heap.size = n) := hsz
  clear hsz g0
  go_loopg [11, 3] 1 (fun gg s11 s3 wt => ∃ i : Nat, i ≤ 1 ∧ 1 - i ≤ gg ∧ s11 = .int .i64 i ∧ Hid (Own (n + 1) wt s3 ((lst c).take i)) ∧ Hid (Bo wt n (wl c)) ∧ Hid (Gd n w wt))
  case atStart => exact ⟨0, by omega, by omega, rfl, own_nil _ _, T, G⟩
  case round =>
    clear T G
    obtain ⟨i, hi1, hgg, rfl, O, T, G⟩ := hrel
    by_cases hlt : i < 1
    · have g0 := T.out.word (show 1 + i < 17 by omega)
      have hx := HV.out (1 + i) (by omega) (by omega)
      have HT : Hid _ := LT.out i hlt
      have hl6 : Hid (((lst c).take i).length ≤ 6) := by have := LL.out i (by omega); show _ ≤ 6; omega
      generalize c (1 + i) = x at g0 hx HT
      generalize (lst c).take i = ys at O HT hl6
      obtain ⟨a, k, rfl⟩ := O.out.form
      have hlt2 : Hid (∀ j, (Value.slice a ys.length k).ownBlock = some j → n + 1 ≤ j ∧ j < wr.heap.size) := O.out.lt
      have hsz1 : n < wr.heap.size := T.out.lt
      have ew1 : IntKind.i64.wrap (x : Int) = x := by rw [IntKind.wrap_i64]; omega
      have ew2 : wrap64 (x : Int) = x := by unfold wrap64; omega
      have i1 : (i : Int) < 1 := by omega
      have i2 : (0 : Int) ≤ (i : Int) := by omega
      go_wp2_with (at_builtin; refine wpList_append_own_at _ rfl _ _ 34 rfl (n + 1) 3 i0 (.int .i64 0) 1 8 Try.underlying34 hi hz0 hz1 hz2 rfl (by decide) _ _ _ rfl (O.out.alloc _) ⟨wr.heap.size, 0, none⟩ 1 1 [.int .i64 x] rfl rfl ?c1 ?c2 ?c3 ?c4 ?c5 ?_)
      case c1 => intro j u hj; exact cell_one_new wr (.int .i64 x) 3 j u hj
      case c2 => intro u hu; simp at hu; subst hu; rfl
      case c3 => have := hl6.out; unfold maxLen; omega
      case c4 => have := hl6.out; omega
      case c5 => simp; omega
      intro v' w1 hown hgrow _ hat
      have O1 : Hid (Own (n + 1) w1 v' ((lst c).take (i + 1))) := by
        rw [← HT.out]
        show w1.ownsRow (n + 1) _ 1 v' _ _
        simpa using hown
      have G0 := G.out.new (.cells #[.int .i64 x] 3)
      have G1 : Hid (Gd n w w1) := ⟨G0.1, G0.2.grown hgrow G0.2.size (fun k hk => by have h1 := (hlt2.out k hk).1; have h2 := G0.1; omega)⟩
      have T1 : Hid (Bo w1 n (wl c)) := (T.out.new (.cells #[.int .i64 x] 3)).keep (hgrow.block n (by simp; omega) (fun e => by have := (hlt2.out n e.symm).1; omega)) (Nat.lt_of_lt_of_le (by simp; omega) hgrow.size)
      clear hown hgrow hat G0 O T G HT hlt2
      go_wp2
      go_roundg (1 - (i + 1))
      case measure => omega
      case rel => exact ⟨i + 1, by omega, by omega, by go_num, O1, T1, G1⟩
    · have ei : i = 1 := by omega
      subst ei
      go_wp2
      go_ret
      have I : IsL (n + 1) wr u3 (lst c) := by have := O.out.isL; rw [LE.out] at this; exact this
      exact ⟨_, rfl, by rw [HSZ.out]; exact I.mono (by omega), G.out.2⟩
set_option maxHeartbeats 2000000 in
theorem list_2 (c : Nat → Nat) (h : c 0 = 2) (hv : ∀ i, 1 ≤ i → i ≤ 2 → c i ≤ 4294967295) (w : World) : Calls Try.prog 47 #[.agg (wl c).toArray] w fun e w' => ∃ v, e = .returned v ∧ IsL w.heap.size w' v (lst c) ∧ Below w.heap.size w w' := by
  obtain ⟨i0, hi, hz0, hz1, hz2⟩ := info_parts info_int
  have G : Hid (Gd w.heap.size w (w.alloc (.cells (wl c).toArray 28))) := (Gd.refl w).new _
  have T : Hid (Bo (w.alloc (.cells (wl c).toArray 28)) w.heap.size (wl c)) := Bo.born w (wl c) _ rfl
  have g0 : (w.alloc (.cells (wl c).toArray 28)).cell? ⟨w.heap.size, 0, none⟩ = some (.int .u64 2) := by have := T.out.word (show 0 < 17 by decide); rw [h] at this; exact this
  have LT : Hid (∀ i, i < 2 → (lst c).take i ++ [((c (1 + i) : Nat) : Int)] = (lst c).take (i + 1)) := fun i hi => lst_take c (by omega)
  have LL : Hid (∀ i, i ≤ 2 → ((lst c).take i).length = i) := fun i hi => by rw [List.length_take, lst_length, h]; omega
  have LE : Hid ((lst c).take 2 = lst c) := List.take_of_length_le (by rw [lst_length, h]; omega)
  have HV : Hid _ := hv
  clear h hv
  go_enter Try.func47, Try.ntmps47
  go_wp2_with fail
  generalize w.alloc (.cells (wl c).toArray 28) = W at T G g0 ⊢
  generalize hsz : w.heap.size = n at T G g0 ⊢
  have HSZ : Hid (w.heap.size = n) := hsz
  clear hsz g0
  go_loopg [11, 3] 2 (fun gg s11 s3 wt => ∃ i : Nat, i ≤ 2 ∧ 2 - i ≤ gg ∧ s11 = .int .i64 i ∧ Hid (Own (n + 1) wt s3 ((lst c).take i)) ∧ Hid (Bo wt n (wl c)) ∧ Hid (Gd n w wt))
  case atStart => exact ⟨0, by omega, by omega, rfl, own_nil _ _, T, G⟩
  case round =>
    clear T G
    obtain ⟨i, hi1, hgg, rfl, O, T, G⟩ := hrel
    by_cases hlt : i < 2
    · have g0 := T.out.word (show 1 + i < 17 by omega)
      have hx := HV.out (1 + i) (by omega) (by omega)
      have HT : Hid _ := LT.out i hlt
      have hl6 : Hid (((lst c).take i).length ≤ 6) := by have := LL.out i (by omega); show _ ≤ 6; omega
      generalize c (1 + i) = x at g0 hx HT
      generalize (lst c).take i = ys at O HT hl6
      obtain ⟨a, k, rfl⟩ := O.out.form
      have hlt2 : Hid (∀ j, (Value.slice a ys.length k).ownBlock = some j → n + 1 ≤ j ∧ j < wr.heap.size) := O.out.lt
      have hsz1 : n < wr.heap.size := T.out.lt
      have ew1 : IntKind.i64.wrap (x : Int) = x := by rw [IntKind.wrap_i64]; omega
      have ew2 : wrap64 (x : Int) = x := by unfold wrap64; omega
      have i1 : (i : Int) < 2 := by omega
      have i2 : (0 : Int) ≤ (i : Int) := by omega
      go_wp2_with (at_builtin; refine wpList_append_own_at _ rfl _ _ 34 rfl (n + 1) 3 i0 (.int .i64 0) 1 8 Try.underlying34 hi hz0 hz1 hz2 rfl (by decide) _ _ _ rfl (O.out.alloc _) ⟨wr.heap.size, 0, none⟩ 1 1 [.int .i64 x] rfl rfl ?c1 ?c2 ?c3 ?c4 ?c5 ?_)
      case c1 => intro j u hj; exact cell_one_new wr (.int .i64 x) 3 j u hj
      case c2 => intro u hu; simp at hu; subst hu; rfl
      case c3 => have := hl6.out; unfold maxLen; omega
      case c4 => have := hl6.out; omega
      case c5 => simp; omega
      intro v' w1 hown hgrow _ hat
      have O1 : Hid (Own (n + 1) w1 v' ((lst c).take (i + 1))) := by
        rw [← HT.out]
        show w1.ownsRow (n + 1) _ 1 v' _ _
        simpa using hown
      have G0 := G.out.new (.cells #[.int .i64 x] 3)
      have G1 : Hid (Gd n w w1) := ⟨G0.1, G0.2.grown hgrow G0.2.size (fun k hk => by have h1 := (hlt2.out k hk).1; have h2 := G0.1; omega)⟩
      have T1 : Hid (Bo w1 n (wl c)) := (T.out.new (.cells #[.int .i64 x] 3)).keep (hgrow.block n (by simp; omega) (fun e => by have := (hlt2.out n e.symm).1; omega)) (Nat.lt_of_lt_of_le (by simp; omega) hgrow.size)
      clear hown hgrow hat G0 O T G HT hlt2
      go_wp2
      go_roundg (2 - (i + 1))
      case measure => omega
      case rel => exact ⟨i + 1, by omega, by omega, by go_num, O1, T1, G1⟩
    · have ei : i = 2 := by omega
      subst ei
      go_wp2
      go_ret
      have I : IsL (n + 1) wr u3 (lst c) := by have := O.out.isL; rw [LE.out] at this; exact this
      exact ⟨_, rfl, by rw [HSZ.out]; exact I.mono (by omega), G.out.2⟩
set_option maxHeartbeats 2000000 in
theorem list_3 (c : Nat → Nat) (h : c 0 = 3) (hv : ∀ i, 1 ≤ i → i ≤ 3 → c i ≤ 4294967295) (w : World) : Calls Try.prog 47 #[.agg (wl c).toArray] w fun e w' => ∃ v, e = .returned v ∧ IsL w.heap.size w' v (lst c) ∧ Below w.heap.size w w' := by
  obtain ⟨i0, hi, hz0, hz1, hz2⟩ := info_parts info_int
  have G : Hid (Gd w.heap.size w (w.alloc (.cells (wl c).toArray 28))) := (Gd.refl w).new _
  have T : Hid (Bo (w.alloc (.cells (wl c).toArray 28)) w.heap.size (wl c)) := Bo.born w (wl c) _ rfl
  have g0 : (w.alloc (.cells (wl c).toArray 28)).cell? ⟨w.heap.size, 0, none⟩ = some (.int .u64 3) := by have := T.out.word (show 0 < 17 by decide); rw [h] at this; exact this
  have LT : Hid (∀ i, i < 3 → (lst c).take i ++ [((c (1 + i) : Nat) : Int)] = (lst c).take (i + 1)) := fun i hi => lst_take c (by omega)
  have LL : Hid (∀ i, i ≤ 3 → ((lst c).take i).length = i) := fun i hi => by rw [List.length_take, lst_length, h]; omega
  have LE : Hid ((lst c).take 3 = lst c) := List.take_of_length_le (by rw [lst_length, h]; omega)
  have HV : Hid _ := hv
  clear h hv
  go_enter Try.func47, Try.ntmps47
  go_wp2_with fail
  generalize w.alloc (.cells (wl c).toArray 28) = W at T G g0 ⊢
  generalize hsz : w.heap.size = n at T G g0 ⊢
  have HSZ : Hid (w.heap.size = n) := hsz
  clear hsz g0
  go_loopg [11, 3] 3 (fun gg s11 s3 wt => ∃ i : Nat, i ≤ 3 ∧ 3 - i ≤ gg ∧ s11 = .int .i64 i ∧ Hid (Own (n + 1) wt s3 ((lst c).take i)) ∧ Hid (Bo wt n (wl c)) ∧ Hid (Gd n w wt))
  case atStart => exact ⟨0, by omega, by omega, rfl, own_nil _ _, T, G⟩
  case round =>
    clear T G
    obtain ⟨i, hi1, hgg, rfl, O, T, G⟩ := hrel
    by_cases hlt : i < 3
    · have g0 := T.out.word (show 1 + i < 17 by omega)
      have hx := HV.out (1 + i) (by omega) (by omega)
      have HT : Hid _ := LT.out i hlt
      have hl6 : Hid (((lst c).take i).length ≤ 6) := by have := LL.out i (by omega); show _ ≤ 6; omega
      generalize c (1 + i) = x at g0 hx HT
      generalize (lst c).take i = ys at O HT hl6
      obtain ⟨a, k, rfl⟩ := O.out.form
      have hlt2 : Hid (∀ j, (Value.slice a ys.length k).ownBlock = some j → n + 1 ≤ j ∧ j < wr.heap.size) := O.out.lt
      have hsz1 : n < wr.heap.size := T.out.lt
      have ew1 : IntKind.i64.wrap (x : Int) = x := by rw [IntKind.wrap_i64]; omega
      have ew2 : wrap64 (x : Int) = x := by unfold wrap64; omega
      have i1 : (i : Int) < 3 := by omega
      have i2 : (0 : Int) ≤ (i : Int) := by omega
      go_wp2_with (at_builtin; refine wpList_append_own_at _ rfl _ _ 34 rfl (n + 1) 3 i0 (.int .i64 0) 1 8 Try.underlying34 hi hz0 hz1 hz2 rfl (by decide) _ _ _ rfl (O.out.alloc _) ⟨wr.heap.size, 0, none⟩ 1 1 [.int .i64 x] rfl rfl ?c1 ?c2 ?c3 ?c4 ?c5 ?_)
      case c1 => intro j u hj; exact cell_one_new wr (.int .i64 x) 3 j u hj
      case c2 => intro u hu; simp at hu; subst hu; rfl
      case c3 => have := hl6.out; unfold maxLen; omega
      case c4 => have := hl6.out; omega
      case c5 => simp; omega
      intro v' w1 hown hgrow _ hat
      have O1 : Hid (Own (n + 1) w1 v' ((lst c).take (i + 1))) := by
        rw [← HT.out]
        show w1.ownsRow (n + 1) _ 1 v' _ _
        simpa using hown
      have G0 := G.out.new (.cells #[.int .i64 x] 3)
      have G1 : Hid (Gd n w w1) := ⟨G0.1, G0.2.grown hgrow G0.2.size (fun k hk => by have h1 := (hlt2.out k hk).1; have h2 := G0.1; omega)⟩
      have T1 : Hid (Bo w1 n (wl c)) := (T.out.new (.cells #[.int .i64 x] 3)).keep (hgrow.block n (by simp; omega) (fun e => by have := (hlt2.out n e.symm).1; omega)) (Nat.lt_of_lt_of_le (by simp; omega) hgrow.size)
      clear hown hgrow hat G0 O T G HT hlt2
      go_wp2
      go_roundg (3 - (i + 1))
      case measure => omega
      case rel => exact ⟨i + 1, by omega, by omega, by go_num, O1, T1, G1⟩
    · have ei : i = 3 := by omega
      subst ei
      go_wp2
      go_ret
      have I : IsL (n + 1) wr u3 (lst c) := by have := O.out.isL; rw [LE.out] at this; exact this
      exact ⟨_, rfl, by rw [HSZ.out]; exact I.mono (by omega), G.out.2⟩
set_option maxHeartbeats 2000000 in
theorem list_4 (c : Nat → Nat) (h : c 0 = 4) (hv : ∀ i, 1 ≤ i → i ≤ 4 → c i ≤ 4294967295) (w : World) : Calls Try.prog 47 #[.agg (wl c).toArray] w fun e w' => ∃ v, e = .returned v ∧ IsL w.heap.size w' v (lst c) ∧ Below w.heap.size w w' := by
  obtain ⟨i0, hi, hz0, hz1, hz2⟩ := info_parts info_int
  have G : Hid (Gd w.heap.size w (w.alloc (.cells (wl c).toArray 28))) := (Gd.refl w).new _
  have T : Hid (Bo (w.alloc (.cells (wl c).toArray 28)) w.heap.size (wl c)) := Bo.born w (wl c) _ rfl
  have g0 : (w.alloc (.cells (wl c).toArray 28)).cell? ⟨w.heap.size, 0, none⟩ = some (.int .u64 4) := by have := T.out.word (show 0 < 17 by decide); rw [h] at this; exact this
  have LT : Hid (∀ i, i < 4 → (lst c).take i ++ [((c (1 + i) : Nat) : Int)] = (lst c).take (i + 1)) := fun i hi => lst_take c (by omega)
  have LL : Hid (∀ i, i ≤ 4 → ((lst c).take i).length = i) := fun i hi => by rw [List.length_take, lst_length, h]; omega
  have LE : Hid ((lst c).take 4 = lst c) := List.take_of_length_le (by rw [lst_length, h]; omega)
  have HV : Hid _ := hv
  clear h hv
  go_enter Try.func47, Try.ntmps47
  go_wp2_with fail
  generalize w.alloc (.cells (wl c).toArray 28) = W at T G g0 ⊢
  generalize hsz : w.heap.size = n at T G g0 ⊢
  have HSZ : Hid (w.heap.size = n) := hsz
  clear hsz g0
  go_loopg [11, 3] 4 (fun gg s11 s3 wt => ∃ i : Nat, i ≤ 4 ∧ 4 - i ≤ gg ∧ s11 = .int .i64 i ∧ Hid (Own (n + 1) wt s3 ((lst c).take i)) ∧ Hid (Bo wt n (wl c)) ∧ Hid (Gd n w wt))
  case atStart => exact ⟨0, by omega, by omega, rfl, own_nil _ _, T, G⟩
  case round =>
    clear T G
    obtain ⟨i, hi1, hgg, rfl, O, T, G⟩ := hrel
    by_cases hlt : i < 4
    · have g0 := T.out.word (show 1 + i < 17 by omega)
      have hx := HV.out (1 + i) (by omega) (by omega)
      have HT : Hid _ := LT.out i hlt
      have hl6 : Hid (((lst c).take i).length ≤ 6) := by have := LL.out i (by omega); show _ ≤ 6; omega
      generalize c (1 + i) = x at g0 hx HT
      generalize (lst c).take i = ys at O HT hl6
      obtain ⟨a, k, rfl⟩ := O.out.form
      have hlt2 : Hid (∀ j, (Value.slice a ys.length k).ownBlock = some j → n + 1 ≤ j ∧ j < wr.heap.size) := O.out.lt
      have hsz1 : n < wr.heap.size := T.out.lt
      have ew1 : IntKind.i64.wrap (x : Int) = x := by rw [IntKind.wrap_i64]; omega
      have ew2 : wrap64 (x : Int) = x := by unfold wrap64; omega
      have i1 : (i : Int) < 4 := by omega
      have i2 : (0 : Int) ≤ (i : Int) := by omega
      go_wp2_with (at_builtin; refine wpList_append_own_at _ rfl _ _ 34 rfl (n + 1) 3 i0 (.int .i64 0) 1 8 Try.underlying34 hi hz0 hz1 hz2 rfl (by decide) _ _ _ rfl (O.out.alloc _) ⟨wr.heap.size, 0, none⟩ 1 1 [.int .i64 x] rfl rfl ?c1 ?c2 ?c3 ?c4 ?c5 ?_)
      case c1 => intro j u hj; exact cell_one_new wr (.int .i64 x) 3 j u hj
      case c2 => intro u hu; simp at hu; subst hu; rfl
      case c3 => have := hl6.out; unfold maxLen; omega
      case c4 => have := hl6.out; omega
      case c5 => simp; omega
      intro v' w1 hown hgrow _ hat
      have O1 : Hid (Own (n + 1) w1 v' ((lst c).take (i + 1))) := by
        rw [← HT.out]
        show w1.ownsRow (n + 1) _ 1 v' _ _
        simpa using hown
      have G0 := G.out.new (.cells #[.int .i64 x] 3)
      have G1 : Hid (Gd n w w1) := ⟨G0.1, G0.2.grown hgrow G0.2.size (fun k hk => by have h1 := (hlt2.out k hk).1; have h2 := G0.1; omega)⟩
      have T1 : Hid (Bo w1 n (wl c)) := (T.out.new (.cells #[.int .i64 x] 3)).keep (hgrow.block n (by simp; omega) (fun e => by have := (hlt2.out n e.symm).1; omega)) (Nat.lt_of_lt_of_le (by simp; omega) hgrow.size)
      clear hown hgrow hat G0 O T G HT hlt2
      go_wp2
      go_roundg (4 - (i + 1))
      case measure => omega
      case rel => exact ⟨i + 1, by omega, by omega, by go_num, O1, T1, G1⟩
    · have ei : i = 4 := by omega
      subst ei
      go_wp2
      go_ret
      have I : IsL (n + 1) wr u3 (lst c) := by have := O.out.isL; rw [LE.out] at this; exact this
      exact ⟨_, rfl, by rw [HSZ.out]; exact I.mono (by omega), G.out.2⟩
set_option maxHeartbeats 2000000 in
theorem list_5 (c : Nat → Nat) (h : c 0 = 5) (hv : ∀ i, 1 ≤ i → i ≤ 5 → c i ≤ 4294967295) (w : World) : Calls Try.prog 47 #[.agg (wl c).toArray] w fun e w' => ∃ v, e = .returned v ∧ IsL w.heap.size w' v (lst c) ∧ Below w.heap.size w w' := by
  obtain ⟨i0, hi, hz0, hz1, hz2⟩ := info_parts info_int
  have G : Hid (Gd w.heap.size w (w.alloc (.cells (wl c).toArray 28))) := (Gd.refl w).new _
  have T : Hid (Bo (w.alloc (.cells (wl c).toArray 28)) w.heap.size (wl c)) := Bo.born w (wl c) _ rfl
  have g0 : (w.alloc (.cells (wl c).toArray 28)).cell? ⟨w.heap.size, 0, none⟩ = some (.int .u64 5) := by have := T.out.word (show 0 < 17 by decide); rw [h] at this; exact this
  have LT : Hid (∀ i, i < 5 → (lst c).take i ++ [((c (1 + i) : Nat) : Int)] = (lst c).take (i + 1)) := fun i hi => lst_take c (by omega)
  have LL : Hid (∀ i, i ≤ 5 → ((lst c).take i).length = i) := fun i hi => by rw [List.length_take, lst_length, h]; omega
  have LE : Hid ((lst c).take 5 = lst c) := List.take_of_length_le (by rw [lst_length, h]; omega)
  have HV : Hid _ := hv
  clear h hv
  go_enter Try.func47, Try.ntmps47
  go_wp2_with fail
  generalize w.alloc (.cells (wl c).toArray 28) = W at T G g0 ⊢
  generalize hsz : w.heap.size = n at T G g0 ⊢
  have HSZ : Hid (w.heap.size = n) := hsz
  clear hsz g0
  go_loopg [11, 3] 5 (fun gg s11 s3 wt => ∃ i : Nat, i ≤ 5 ∧ 5 - i ≤ gg ∧ s11 = .int .i64 i ∧ Hid (Own (n + 1) wt s3 ((lst c).take i)) ∧ Hid (Bo wt n (wl c)) ∧ Hid (Gd n w wt))
  case atStart => exact ⟨0, by omega, by omega, rfl, own_nil _ _, T, G⟩
  case round =>
    clear T G
    obtain ⟨i, hi1, hgg, rfl, O, T, G⟩ := hrel
    by_cases hlt : i < 5
    · have g0 := T.out.word (show 1 + i < 17 by omega)
      have hx := HV.out (1 + i) (by omega) (by omega)
      have HT : Hid _ := LT.out i hlt
      have hl6 : Hid (((lst c).take i).length ≤ 6) := by have := LL.out i (by omega); show _ ≤ 6; omega
      generalize c (1 + i) = x at g0 hx HT
      generalize (lst c).take i = ys at O HT hl6
      obtain ⟨a, k, rfl⟩ := O.out.form
      have hlt2 : Hid (∀ j, (Value.slice a ys.length k).ownBlock = some j → n + 1 ≤ j ∧ j < wr.heap.size) := O.out.lt
      have hsz1 : n < wr.heap.size := T.out.lt
      have ew1 : IntKind.i64.wrap (x : Int) = x := by rw [IntKind.wrap_i64]; omega
      have ew2 : wrap64 (x : Int) = x := by unfold wrap64; omega
      have i1 : (i : Int) < 5 := by omega
      have i2 : (0 : Int) ≤ (i : Int) := by omega
      go_wp2_with (at_builtin; refine wpList_append_own_at _ rfl _ _ 34 rfl (n + 1) 3 i0 (.int .i64 0) 1 8 Try.underlying34 hi hz0 hz1 hz2 rfl (by decide) _ _ _ rfl (O.out.alloc _) ⟨wr.heap.size, 0, none⟩ 1 1 [.int .i64 x] rfl rfl ?c1 ?c2 ?c3 ?c4 ?c5 ?_)
      case c1 => intro j u hj; exact cell_one_new wr (.int .i64 x) 3 j u hj
      case c2 => intro u hu; simp at hu; subst hu; rfl
      case c3 => have := hl6.out; unfold maxLen; omega
      case c4 => have := hl6.out; omega
      case c5 => simp; omega
      intro v' w1 hown hgrow _ hat
      have O1 : Hid (Own (n + 1) w1 v' ((lst c).take (i + 1))) := by
        rw [← HT.out]
        show w1.ownsRow (n + 1) _ 1 v' _ _
        simpa using hown
      have G0 := G.out.new (.cells #[.int .i64 x] 3)
      have G1 : Hid (Gd n w w1) := ⟨G0.1, G0.2.grown hgrow G0.2.size (fun k hk => by have h1 := (hlt2.out k hk).1; have h2 := G0.1; omega)⟩
      have T1 : Hid (Bo w1 n (wl c)) := (T.out.new (.cells #[.int .i64 x] 3)).keep (hgrow.block n (by simp; omega) (fun e => by have := (hlt2.out n e.symm).1; omega)) (Nat.lt_of_lt_of_le (by simp; omega) hgrow.size)
      clear hown hgrow hat G0 O T G HT hlt2
      go_wp2
      go_roundg (5 - (i + 1))
      case measure => omega
      case rel => exact ⟨i + 1, by omega, by omega, by go_num, O1, T1, G1⟩
    · have ei : i = 5 := by omega
      subst ei
      go_wp2
      go_ret
      have I : IsL (n + 1) wr u3 (lst c) := by have := O.out.isL; rw [LE.out] at this; exact this
      exact ⟨_, rfl, by rw [HSZ.out]; exact I.mono (by omega), G.out.2⟩
set_option maxHeartbeats 2000000 in
theorem list_6 (c : Nat → Nat) (h : c 0 = 6) (hv : ∀ i, 1 ≤ i → i ≤ 6 → c i ≤ 4294967295) (w : World) : Calls Try.prog 47 #[.agg (wl c).toArray] w fun e w' => ∃ v, e = .returned v ∧ IsL w.heap.size w' v (lst c) ∧ Below w.heap.size w w' := by
  obtain ⟨i0, hi, hz0, hz1, hz2⟩ := info_parts info_int
  have G : Hid (Gd w.heap.size w (w.alloc (.cells (wl c).toArray 28))) := (Gd.refl w).new _
  have T : Hid (Bo (w.alloc (.cells (wl c).toArray 28)) w.heap.size (wl c)) := Bo.born w (wl c) _ rfl
  have g0 : (w.alloc (.cells (wl c).toArray 28)).cell? ⟨w.heap.size, 0, none⟩ = some (.int .u64 6) := by have := T.out.word (show 0 < 17 by decide); rw [h] at this; exact this
  have LT : Hid (∀ i, i < 6 → (lst c).take i ++ [((c (1 + i) : Nat) : Int)] = (lst c).take (i + 1)) := fun i hi => lst_take c (by omega)
  have LL : Hid (∀ i, i ≤ 6 → ((lst c).take i).length = i) := fun i hi => by rw [List.length_take, lst_length, h]; omega
  have LE : Hid ((lst c).take 6 = lst c) := List.take_of_length_le (by rw [lst_length, h]; omega)
  have HV : Hid _ := hv
  clear h hv
  go_enter Try.func47, Try.ntmps47
  go_wp2_with fail
  generalize w.alloc (.cells (wl c).toArray 28) = W at T G g0 ⊢
  generalize hsz : w.heap.size = n at T G g0 ⊢
  have HSZ : Hid (w.heap.size = n) := hsz
  clear hsz g0
  go_loopg [11, 3] 6 (fun gg s11 s3 wt => ∃ i : Nat, i ≤ 6 ∧ 6 - i ≤ gg ∧ s11 = .int .i64 i ∧ Hid (Own (n + 1) wt s3 ((lst c).take i)) ∧ Hid (Bo wt n (wl c)) ∧ Hid (Gd n w wt))
  case atStart => exact ⟨0, by omega, by omega, rfl, own_nil _ _, T, G⟩
  case round =>
    clear T G
    obtain ⟨i, hi1, hgg, rfl, O, T, G⟩ := hrel
    by_cases hlt : i < 6
    · have g0 := T.out.word (show 1 + i < 17 by omega)
      have hx := HV.out (1 + i) (by omega) (by omega)
      have HT : Hid _ := LT.out i hlt
      have hl6 : Hid (((lst c).take i).length ≤ 6) := by have := LL.out i (by omega); show _ ≤ 6; omega
      generalize c (1 + i) = x at g0 hx HT
      generalize (lst c).take i = ys at O HT hl6
      obtain ⟨a, k, rfl⟩ := O.out.form
      have hlt2 : Hid (∀ j, (Value.slice a ys.length k).ownBlock = some j → n + 1 ≤ j ∧ j < wr.heap.size) := O.out.lt
      have hsz1 : n < wr.heap.size := T.out.lt
      have ew1 : IntKind.i64.wrap (x : Int) = x := by rw [IntKind.wrap_i64]; omega
      have ew2 : wrap64 (x : Int) = x := by unfold wrap64; omega
      have i1 : (i : Int) < 6 := by omega
      have i2 : (0 : Int) ≤ (i : Int) := by omega
      go_wp2_with (at_builtin; refine wpList_append_own_at _ rfl _ _ 34 rfl (n + 1) 3 i0 (.int .i64 0) 1 8 Try.underlying34 hi hz0 hz1 hz2 rfl (by decide) _ _ _ rfl (O.out.alloc _) ⟨wr.heap.size, 0, none⟩ 1 1 [.int .i64 x] rfl rfl ?c1 ?c2 ?c3 ?c4 ?c5 ?_)
      case c1 => intro j u hj; exact cell_one_new wr (.int .i64 x) 3 j u hj
      case c2 => intro u hu; simp at hu; subst hu; rfl
      case c3 => have := hl6.out; unfold maxLen; omega
      case c4 => have := hl6.out; omega
      case c5 => simp; omega
      intro v' w1 hown hgrow _ hat
      have O1 : Hid (Own (n + 1) w1 v' ((lst c).take (i + 1))) := by
        rw [← HT.out]
        show w1.ownsRow (n + 1) _ 1 v' _ _
        simpa using hown
      have G0 := G.out.new (.cells #[.int .i64 x] 3)
      have G1 : Hid (Gd n w w1) := ⟨G0.1, G0.2.grown hgrow G0.2.size (fun k hk => by have h1 := (hlt2.out k hk).1; have h2 := G0.1; omega)⟩
      have T1 : Hid (Bo w1 n (wl c)) := (T.out.new (.cells #[.int .i64 x] 3)).keep (hgrow.block n (by simp; omega) (fun e => by have := (hlt2.out n e.symm).1; omega)) (Nat.lt_of_lt_of_le (by simp; omega) hgrow.size)
      clear hown hgrow hat G0 O T G HT hlt2
      go_wp2
      go_roundg (6 - (i + 1))
      case measure => omega
      case rel => exact ⟨i + 1, by omega, by omega, by go_num, O1, T1, G1⟩
    · have ei : i = 6 := by omega
      subst ei
      go_wp2
      go_ret
      have I : IsL (n + 1) wr u3 (lst c) := by have := O.out.isL; rw [LE.out] at this; exact this
      exact ⟨_, rfl, by rw [HSZ.out]; exact I.mono (by omega), G.out.2⟩
theorem list_is {c : Nat → Nat} (hw : WList c) (w : World) : Calls Try.prog 47 #[.agg (wl c).toArray] w fun e w' => ∃ v, e = .returned v ∧ IsL w.heap.size w' v (lst c) ∧ Below w.heap.size w w' := by
  have h := hw.len
  have hh : c 0 = 0 ∨ c 0 = 1 ∨ c 0 = 2 ∨ c 0 = 3 ∨ c 0 = 4 ∨ c 0 = 5 ∨ c 0 = 6 := by omega
  rcases hh with e | e | e | e | e | e | e
  · exact list_0 c e (fun i h1 h2 => hw.val i h1 (by omega)) w
  · exact list_1 c e (fun i h1 h2 => hw.val i h1 (by omega)) w
  · exact list_2 c e (fun i h1 h2 => hw.val i h1 (by omega)) w
  · exact list_3 c e (fun i h1 h2 => hw.val i h1 (by omega)) w
  · exact list_4 c e (fun i h1 h2 => hw.val i h1 (by omega)) w
  · exact list_5 c e (fun i h1 h2 => hw.val i h1 (by omega)) w
  · exact list_6 c e (fun i h1 h2 => hw.val i h1 (by omega)) w
end Go.Proofs.Ytgkgkiheoadbfaa.Tab
namespace Go.Proofs.Ytgkgkiheoadbfaa.Tab
set_option maxRecDepth 20000
open Go.RowKit

def tblp (c : Nat → Nat) (i : Nat) : Tb := ⟨fun p => if p < i then (c (2 * p) : Nat) else 0, fun p => if p < i then (c (2 * p + 1) : Nat) else 0⟩
theorem tblp_zero (c : Nat → Nat) : tblp c 0 = Tb.zero := by
  unfold tblp Tb.zero; congr 1 <;> (funext p; simp)
theorem tblp_next (c : Nat → Nat) (i : Nat) : (tblp c i).set i (c (2 * i) : Nat) (c (2 * i + 1) : Nat) = tblp c (i + 1) := by
  unfold tblp Tb.set; congr 1 <;>
  · funext p
    by_cases e : p = i
    · subst e; simp
    · by_cases h : p < i
      · simp [e, h, show p < i + 1 by omega]
      · simp [e, h, show ¬ p < i + 1 by omega]
theorem tblp_all (c : Nat → Nat) : (tblp c 8).all = (tbl c).all := by
  unfold Tb.all
  refine List.map_congr_left fun j hj => ?_
  have : j / 2 < 8 := by have : j < 16 := by simpa using hj
                         omega
  simp [Tb.at, tblp, tbl, this]

set_option maxHeartbeats 4000000 in
theorem slots_is (c : Nat → Nat) (hv : ∀ j, j < 16 → c j ≤ 4294967295) (w : World) : Calls Try.prog 60 #[.agg (wl c).toArray] w fun e w' => e = .returned (.agg (tbl c).all.toArray) ∧ Below w.heap.size w w' := by
  obtain ⟨na, ea, hd⟩ := slots_array
  have HD : Hid _ := hd
  clear hd
  have HS : Hid (∀ t : Tb, (Try.prog.info? 109).map (·.size) = some t.all.length) := slots_size
  have HZ : Hid (∀ t : Tb, (Try.prog.info? 109).map (·.size) = some t.all.toArray.size) := slots_size2
  have HV : Hid _ := hv
  clear hv
  have G : Hid (Gd w.heap.size w (((w.alloc (.cells (wl c).toArray 28)).alloc (.cells #[.int .i64 0, .int .i64 0, .int .i64 0, .int .i64 0, .int .i64 0, .int .i64 0, .int .i64 0, .int .i64 0, .int .i64 0, .int .i64 0, .int .i64 0, .int .i64 0, .int .i64 0, .int .i64 0, .int .i64 0, .int .i64 0] 109)).alloc (.cells #[.int .i64 0, .int .i64 0, .int .i64 0, .int .i64 0, .int .i64 0, .int .i64 0, .int .i64 0, .int .i64 0, .int .i64 0, .int .i64 0, .int .i64 0, .int .i64 0, .int .i64 0, .int .i64 0, .int .i64 0, .int .i64 0] 109))) := (((Gd.refl w).new _).new _).new _
  have T : Hid (Bo (((w.alloc (.cells (wl c).toArray 28)).alloc (.cells #[.int .i64 0, .int .i64 0, .int .i64 0, .int .i64 0, .int .i64 0, .int .i64 0, .int .i64 0, .int .i64 0, .int .i64 0, .int .i64 0, .int .i64 0, .int .i64 0, .int .i64 0, .int .i64 0, .int .i64 0, .int .i64 0] 109)).alloc (.cells #[.int .i64 0, .int .i64 0, .int .i64 0, .int .i64 0, .int .i64 0, .int .i64 0, .int .i64 0, .int .i64 0, .int .i64 0, .int .i64 0, .int .i64 0, .int .i64 0, .int .i64 0, .int .i64 0, .int .i64 0, .int .i64 0] 109)) w.heap.size (wl c)) := ((Bo.born w (wl c) _ rfl).new _).new _
  have R : Hid (TAt (((w.alloc (.cells (wl c).toArray 28)).alloc (.cells #[.int .i64 0, .int .i64 0, .int .i64 0, .int .i64 0, .int .i64 0, .int .i64 0, .int .i64 0, .int .i64 0, .int .i64 0, .int .i64 0, .int .i64 0, .int .i64 0, .int .i64 0, .int .i64 0, .int .i64 0, .int .i64 0] 109)).alloc (.cells #[.int .i64 0, .int .i64 0, .int .i64 0, .int .i64 0, .int .i64 0, .int .i64 0, .int .i64 0, .int .i64 0, .int .i64 0, .int .i64 0, .int .i64 0, .int .i64 0, .int .i64 0, .int .i64 0, .int .i64 0, .int .i64 0] 109)) (w.heap.size + 1) Tb.zero) := (TAt.bornZero _ _ (by simp)).new _
  have L : Hid (TAt (((w.alloc (.cells (wl c).toArray 28)).alloc (.cells #[.int .i64 0, .int .i64 0, .int .i64 0, .int .i64 0, .int .i64 0, .int .i64 0, .int .i64 0, .int .i64 0, .int .i64 0, .int .i64 0, .int .i64 0, .int .i64 0, .int .i64 0, .int .i64 0, .int .i64 0, .int .i64 0] 109)).alloc (.cells #[.int .i64 0, .int .i64 0, .int .i64 0, .int .i64 0, .int .i64 0, .int .i64 0, .int .i64 0, .int .i64 0, .int .i64 0, .int .i64 0, .int .i64 0, .int .i64 0, .int .i64 0, .int .i64 0, .int .i64 0, .int .i64 0] 109)) (w.heap.size + 2) (tblp c 0)) := by rw [tblp_zero]; exact TAt.bornZero _ _ (by simp)
  go_enter Try.func60, Try.ntmps60
  go_wp2_with fail
  generalize World.alloc _ _ = W at G T R L ⊢
  generalize hsz : w.heap.size = n at G T R L ⊢
  have HSZ : Hid (w.heap.size = n) := hsz
  clear hsz
  go_loopg [5] 8 (fun gg s5 wt => ∃ i : Nat, i ≤ 8 ∧ 8 - i ≤ gg ∧ s5 = .int .i64 i ∧ Hid (Bo wt n (wl c)) ∧ Hid (TAt wt (n + 1) Tb.zero) ∧ Hid (TAt wt (n + 2) (tblp c i)) ∧ Hid (Gd n w wt))
  case atStart => exact ⟨0, by omega, by omega, rfl, T, R, L, G⟩
  case round =>
    clear T R L G
    obtain ⟨i, hi, hgg, rfl, T, R, L, G⟩ := hrel
    by_cases hlt : i < 8
    · have g0 := T.out.word (show 2 * i < 17 by omega)
      have g1 := T.out.word (show 2 * i + 1 < 17 by omega)
      have x1 := HV.out (2 * i) (by omega)
      have y1 := HV.out (2 * i + 1) (by omega)
      have l0 := L.out.key hlt
      have l1 := L.out.val hlt
      have f0 := L.out.froz (i * 2)
      have f1 := L.out.froz (i * 2 + 1)
      have NX : Hid _ := tblp_next c i
      have T1 : Hid (Bo wr.drew n (wl c)) := T.out.drew
      have R1 : Hid (TAt wr.drew (n + 1) Tb.zero) := R.out.drew
      have L1 : Hid (TAt wr.drew (n + 2) (tblp c i)) := L.out.drew
      have G1 : Hid (Gd n w wr.drew) := G.out.drew
      clear T R L G
      generalize c (2 * i) = x at g0 x1 NX
      generalize c (2 * i + 1) = y at g1 y1 NX
      generalize (tblp c i).k i = z0 at l0
      generalize (tblp c i).v i = z1 at l1
      have ex1 : IntKind.i64.wrap (x : Int) = x := by rw [IntKind.wrap_i64]; omega
      have ex2 : wrap64 (x : Int) = x := by unfold wrap64; omega
      have ey1 : IntKind.i64.wrap (y : Int) = y := by rw [IntKind.wrap_i64]; omega
      have ey2 : wrap64 (y : Int) = y := by unfold wrap64; omega
      have i1 : (i : Int) < 8 := by omega
      have i0 : (0 : Int) ≤ (i : Int) := by omega
      have i2 : 2 * (i : Int) < 17 := by omega
      have i3 : 2 * (i : Int) + 1 < 17 := by omega
      have i4 : (0 : Int) ≤ 2 * (i : Int) := by omega
      have i5 : (0 : Int) ≤ 2 * (i : Int) + 1 := by omega
      clear x1 y1
      go_wp2_with fail
      go_region
      all_goals go_wp2
      all_goals go_roundg (8 - (i + 1))
      case measure => omega
      case rel => exact ⟨i + 1, by omega, by omega, by go_num, (T1.out.aside (show n ≠ n + 2 by omega) _).aside (show n ≠ n + 2 by omega) _, (R1.out.aside (show n + 1 ≠ n + 2 by omega) _).aside (show n + 1 ≠ n + 2 by omega) _, by rw [← NX.out]; exact L1.out.setSlot hlt x y, (G1.out.aside (show n ≤ n + 2 by omega) _).aside (show n ≤ n + 2 by omega) _⟩
    · have ei : i = 8 := by omega
      subst ei
      have e8 := tblp_all c
      generalize tblp c 8 = t at L e8
      clear hlt T
      go_wp2_with (first
        | (refine wpList_load_mid rfl 109 _ rfl (n + 2) _ rfl t.all _ L.out.range HD.out rfl (HS.out t) ?_)
        | (refine wpList_store_mid rfl 109 _ _ rfl (n + 1) _ t.all.toArray rfl rfl (R.out.thereOf t) (HZ.out t) (t.all_all) ?_
           have R1 : Hid (TAt (wr.setCells (n + 1) 0 t.all) (n + 1) t) := R.out.setAll t
           have G1 : Hid (Gd n w (wr.setCells (n + 1) 0 t.all)) := G.out.asideAll (by omega) t
           clear R G L
           generalize wr.setCells (n + 1) 0 t.all = V at R1 G1 ⊢))
      exact bodyPost_ret (results_row Try.results60 _ _ (n + 1) t.all _ rfl R1.out.range HD.out rfl (HS.out t)) rfl ⟨by rw [e8], G1.out.2⟩
end Go.Proofs.Ytgkgkiheoadbfaa.Tab
namespace Go.Proofs.Ytgkgkiheoadbfaa.Tab
set_option maxRecDepth 20000
open Go.RowKit

theorem upC_all {c : Nat → Nat} {off n : Nat} {m : Int} (h : upC c off n m = true) {j : Nat} (h1 : off ≤ j) (h2 : j < off + n) : ((c j : Nat) : Int) ≤ m := by
  have := upC_iff.1 h (j - off) (by omega)
  rwa [show off + (j - off) = j by omega] at this
theorem isLb_w {c : Nat → Nat} (h : isLb c = true) : WList c := by
  unfold isLb at h
  simp only [Bool.and_eq_true, decide_eq_true_eq] at h
  refine ⟨h.1, fun i h1 h2 => ?_, fun i h1 h2 => ?_⟩
  · have := upC_all h.2.1 (j := i) (by omega) (by omega); omega
  · have := upC_all h.2.2 (j := i) (by omega) (by omega); omega
theorem isLb_of {c : Nat → Nat} (h : WList c) : isLb c = true := by
  unfold isLb
  simp only [Bool.and_eq_true, decide_eq_true_eq]
  refine ⟨h.len, upC_iff.2 fun j hj => ?_, upC_iff.2 fun j hj => ?_⟩
  · have := h.val (1 + j) (by omega) (by omega); omega
  · have := h.rest (1 + c 0 + j) (by omega) (by have := h.len; omega); omega
def WTab (c : Nat → Nat) : Prop := upC c 0 16 4294967295 = true ∧ upC c 16 1 0 = true ∧ RT (tbl c)
def isTb (c : Nat → Nat) : Bool := upC c 0 1 4294967295 && upC c 1 16 0
/-- What an object of a kind is, as words: 11.1. -/
def isOb (kind : Int) (c : Nat → Nat) : Prop :=
  ((kind = 1 ∨ kind = 2 ∨ kind = 3) ∧ isLb c = true) ∨ (kind = 4 ∧ isLb c = true ∧ Hp (lst c)) ∨ (kind = 5 ∧ WTab c) ∨ (kind = 6 ∧ isTb c = true)

set_option maxHeartbeats 1000000 in
theorem isTable_is (c : Nat → Nat) (v : Bool) (hv : v = true ↔ WTab c) (w : World) : Calls Try.prog 48 #[.agg (wl c).toArray] w fun e w' => e = .returned (.bool v) ∧ Below w.heap.size w w' := by
  obtain ⟨nb, eb, hd⟩ := cells_array
  have HC : Hid _ := hd
  clear hd
  have HCS : Hid _ := cells_size
  have G : Hid (Gd w.heap.size w (w.alloc (.cells (wl c).toArray 28))) := (Gd.refl w).new _
  have T : Hid (Bo (w.alloc (.cells (wl c).toArray 28)) w.heap.size (wl c)) := Bo.born w (wl c) _ rfl
  rcases h1 : upC c 0 16 4294967295 with _ | _
  · have e : v = false := by
      cases v
      · rfl
      · have := (hv.1 rfl).1; rw [h1] at this; exact absurd this (by decide)
    subst e
    clear hv
    go_enter Try.func48, Try.ntmps48
    go_wp2_with fail
    refine (upTo_is T.out (by decide) h1).mono ?_
    rintro e w1 ⟨rfl, rfl⟩
    go_wp2
    go_ret
    exact ⟨rfl, G.out.2⟩
  · rcases h2 : upC c 16 1 0 with _ | _
    · have e : v = false := by
        cases v
        · rfl
        · have := (hv.1 rfl).2.1; rw [h2] at this; exact absurd this (by decide)
      subst e
      clear hv
      go_enter Try.func48, Try.ntmps48
      go_wp2_with fail
      refine (upTo_is T.out (by decide) h1).mono ?_
      rintro e w1 ⟨rfl, rfl⟩
      go_wp2_with fail
      refine (upTo_is T.out (by decide) h2).mono ?_
      rintro e w1 ⟨rfl, rfl⟩
      go_wp2
      go_ret
      exact ⟨rfl, G.out.2⟩
    · have hb : Hid (v = true ↔ RT (tbl c)) := ⟨fun h => (hv.1 h).2.2, fun h => hv.2 ⟨h1, h2, h⟩⟩
      have hs : Hid (∀ j, j < 16 → c j ≤ 4294967295) := fun j hj => by have := upC_all h1 (j := j) (by omega) (by omega); omega
      have H1 : Hid _ := h1
      have H2 : Hid _ := h2
      clear hv h1 h2
      go_enter Try.func48, Try.ntmps48
      go_wp2_with fail
      refine (upTo_is T.out (by decide) H1.out).mono ?_
      rintro e w1 ⟨rfl, rfl⟩
      go_wp2_with fail
      refine (upTo_is T.out (by decide) H2.out).mono ?_
      rintro e w1 ⟨rfl, rfl⟩
      go_wp2_with (first | (refine wpList_load_wanted (by rfl) 28 _ rfl w.heap.size _ rfl (wl c) _ T.out.range HC.out rfl (HCS.out c) ?_))
      refine (slots_is c hs.out _).mono ?_
      rintro e w1 ⟨rfl, hc⟩
      have G1 : Hid (Gd w.heap.size w w1) := G.out.later hc
      clear hc G T
      go_wp2_with fail
      refine (Right_is (tbl c) v hb.out _).mono ?_
      rintro e w2 ⟨rfl, hc⟩
      have G2 : Hid (Gd w.heap.size w w2) := G1.out.later hc
      clear hc G1
      go_wp2
      go_ret
      exact ⟨rfl, G2.out.2⟩

set_option maxHeartbeats 1000000 in
theorem obRight_1 (c : Nat → Nat) (w : World) : Calls Try.prog 27 #[.int .i64 1, .agg (wl c).toArray] w fun e w' => e = .returned (.bool (isLb c)) ∧ Below w.heap.size w w' := by
  obtain ⟨nb, eb, hd⟩ := cells_array
  have HC : Hid _ := hd
  clear hd
  have HCS : Hid _ := cells_size
  have G : Hid (Gd w.heap.size w (w.alloc (.cells (wl c).toArray 28))) := (Gd.refl w).new _
  have T : Hid (Bo (w.alloc (.cells (wl c).toArray 28)) w.heap.size (wl c)) := Bo.born w (wl c) _ rfl
  go_enter Try.func27, Try.ntmps27
  go_wp2_with (first | (refine wpList_load_mid rfl 28 _ rfl w.heap.size _ rfl (wl c) _ T.out.range HC.out rfl (HCS.out c) ?_))
  refine (isList_is c _).mono ?_
  rintro e w1 ⟨rfl, hb⟩
  have G1 : Hid (Gd w.heap.size w w1) := G.out.later hb
  clear hb G T
  go_wp2
  go_ret
  exact ⟨rfl, G1.out.2⟩
set_option maxHeartbeats 1000000 in
theorem obRight_2 (c : Nat → Nat) (w : World) : Calls Try.prog 27 #[.int .i64 2, .agg (wl c).toArray] w fun e w' => e = .returned (.bool (isLb c)) ∧ Below w.heap.size w w' := by
  obtain ⟨nb, eb, hd⟩ := cells_array
  have HC : Hid _ := hd
  clear hd
  have HCS : Hid _ := cells_size
  have G : Hid (Gd w.heap.size w (w.alloc (.cells (wl c).toArray 28))) := (Gd.refl w).new _
  have T : Hid (Bo (w.alloc (.cells (wl c).toArray 28)) w.heap.size (wl c)) := Bo.born w (wl c) _ rfl
  go_enter Try.func27, Try.ntmps27
  go_wp2_with (first | (refine wpList_load_mid rfl 28 _ rfl w.heap.size _ rfl (wl c) _ T.out.range HC.out rfl (HCS.out c) ?_))
  refine (isList_is c _).mono ?_
  rintro e w1 ⟨rfl, hb⟩
  have G1 : Hid (Gd w.heap.size w w1) := G.out.later hb
  clear hb G T
  go_wp2
  go_ret
  exact ⟨rfl, G1.out.2⟩
set_option maxHeartbeats 1000000 in
theorem obRight_3 (c : Nat → Nat) (w : World) : Calls Try.prog 27 #[.int .i64 3, .agg (wl c).toArray] w fun e w' => e = .returned (.bool (isLb c)) ∧ Below w.heap.size w w' := by
  obtain ⟨nb, eb, hd⟩ := cells_array
  have HC : Hid _ := hd
  clear hd
  have HCS : Hid _ := cells_size
  have G : Hid (Gd w.heap.size w (w.alloc (.cells (wl c).toArray 28))) := (Gd.refl w).new _
  have T : Hid (Bo (w.alloc (.cells (wl c).toArray 28)) w.heap.size (wl c)) := Bo.born w (wl c) _ rfl
  go_enter Try.func27, Try.ntmps27
  go_wp2_with (first | (refine wpList_load_mid rfl 28 _ rfl w.heap.size _ rfl (wl c) _ T.out.range HC.out rfl (HCS.out c) ?_))
  refine (isList_is c _).mono ?_
  rintro e w1 ⟨rfl, hb⟩
  have G1 : Hid (Gd w.heap.size w w1) := G.out.later hb
  clear hb G T
  go_wp2
  go_ret
  exact ⟨rfl, G1.out.2⟩
set_option maxHeartbeats 1000000 in
theorem obRight_4 (c : Nat → Nat) (v : Bool) (hv : v = true ↔ isLb c = true ∧ Hp (lst c)) (w : World) : Calls Try.prog 27 #[.int .i64 4, .agg (wl c).toArray] w fun e w' => e = .returned (.bool v) ∧ Below w.heap.size w w' := by
  obtain ⟨nb, eb, hd⟩ := cells_array
  have HC : Hid _ := hd
  clear hd
  have HCS : Hid _ := cells_size
  have G : Hid (Gd w.heap.size w (w.alloc (.cells (wl c).toArray 28))) := (Gd.refl w).new _
  have T : Hid (Bo (w.alloc (.cells (wl c).toArray 28)) w.heap.size (wl c)) := Bo.born w (wl c) _ rfl
  have IL : Hid _ := isList_is c
  rcases hl : isLb c with _ | _
  · have e : v = false := by
      cases v
      · rfl
      · have := (hv.1 rfl).1; rw [hl] at this; exact absurd this (by decide)
    subst e
    rw [hl] at IL
    clear hv hl
    go_enter Try.func27, Try.ntmps27
    go_wp2_with (first | (refine wpList_load_mid rfl 28 _ rfl w.heap.size _ rfl (wl c) _ T.out.range HC.out rfl (HCS.out c) ?_))
    refine (IL.out _).mono ?_
    rintro e w1 ⟨rfl, hb⟩
    have G1 : Hid (Gd w.heap.size w w1) := G.out.later hb
    clear hb G T
    go_wp2
    go_ret
    exact ⟨rfl, G1.out.2⟩
  · have HW : Hid (WList c) := isLb_w hl
    have hr : Hid (∀ B W u, IsL B W u (lst c) → Calls Try.prog 46 #[u] W fun e w' => e = .returned (.bool v) ∧ Below W.heap.size W w') := fun B W u hi => by
      have h6 : (lst c).length ≤ 6 := by rw [lst_length]; exact HW.out.len
      cases v
      · exact hRight_isnt hi (fun h => by have := hv.2 ⟨hl, h.2⟩; exact absurd this (by decide))
      · exact hRight_yes hi h6 (hv.1 rfl).2
    rw [hl] at IL
    clear hv hl
    go_enter Try.func27, Try.ntmps27
    go_wp2_with (first | (refine wpList_load_mid rfl 28 _ rfl w.heap.size _ rfl (wl c) _ T.out.range HC.out rfl (HCS.out c) ?_))
    refine (IL.out _).mono ?_
    rintro e w1 ⟨rfl, hb⟩
    have G1 : Hid (Gd w.heap.size w w1) := G.out.later hb
    have T1 : Hid (Bo w1 w.heap.size (wl c)) := T.out.later hb
    clear hb G T
    go_wp2_with (first | (refine wpList_load_wanted (by rfl) 28 _ rfl w.heap.size _ rfl (wl c) _ T1.out.range HC.out rfl (HCS.out c) ?_))
    refine (list_is HW.out _).mono ?_
    rintro e w2 ⟨u, rfl, hi, hb⟩
    have G2 : Hid (Gd w.heap.size w w2) := G1.out.later hb
    have I : Hid _ := hi
    clear hb hi G1 T1
    go_wp2_with fail
    refine (hr.out _ _ _ I.out).mono ?_
    rintro e w3 ⟨rfl, hb⟩
    have G3 : Hid (Gd w.heap.size w w3) := G2.out.later hb
    clear hb
    go_wp2
    go_ret
    exact ⟨rfl, G3.out.2⟩
set_option maxHeartbeats 1000000 in
theorem obRight_5 (c : Nat → Nat) (v : Bool) (hv : v = true ↔ WTab c) (w : World) : Calls Try.prog 27 #[.int .i64 5, .agg (wl c).toArray] w fun e w' => e = .returned (.bool v) ∧ Below w.heap.size w w' := by
  obtain ⟨nb, eb, hd⟩ := cells_array
  have HC : Hid _ := hd
  clear hd
  have HCS : Hid _ := cells_size
  have G : Hid (Gd w.heap.size w (w.alloc (.cells (wl c).toArray 28))) := (Gd.refl w).new _
  have T : Hid (Bo (w.alloc (.cells (wl c).toArray 28)) w.heap.size (wl c)) := Bo.born w (wl c) _ rfl
  have HV : Hid _ := hv
  clear hv
  go_enter Try.func27, Try.ntmps27
  go_wp2_with (first | (refine wpList_load_mid rfl 28 _ rfl w.heap.size _ rfl (wl c) _ T.out.range HC.out rfl (HCS.out c) ?_))
  refine (isTable_is c v HV.out _).mono ?_
  rintro e w1 ⟨rfl, hb⟩
  have G1 : Hid (Gd w.heap.size w w1) := G.out.later hb
  clear hb G T
  go_wp2
  go_ret
  exact ⟨rfl, G1.out.2⟩
set_option maxHeartbeats 1000000 in
theorem obRight_6 (c : Nat → Nat) (w : World) : Calls Try.prog 27 #[.int .i64 6, .agg (wl c).toArray] w fun e w' => e = .returned (.bool (isTb c)) ∧ Below w.heap.size w w' := by
  obtain ⟨nb, eb, hd⟩ := cells_array
  have HC : Hid _ := hd
  clear hd
  have HCS : Hid _ := cells_size
  have G : Hid (Gd w.heap.size w (w.alloc (.cells (wl c).toArray 28))) := (Gd.refl w).new _
  have T : Hid (Bo (w.alloc (.cells (wl c).toArray 28)) w.heap.size (wl c)) := Bo.born w (wl c) _ rfl
  have IT : Hid (∀ w, Calls Try.prog 49 #[.agg (wl c).toArray] w fun e w' => e = .returned (.bool (isTb c)) ∧ Below w.heap.size w w') := isTally_is c
  go_enter Try.func27, Try.ntmps27
  go_wp2_with (first | (refine wpList_load_mid rfl 28 _ rfl w.heap.size _ rfl (wl c) _ T.out.range HC.out rfl (HCS.out c) ?_))
  refine (IT.out _).mono ?_
  rintro e w1 ⟨rfl, hb⟩
  have G1 : Hid (Gd w.heap.size w w1) := G.out.later hb
  clear hb G T
  go_wp2
  go_ret
  exact ⟨rfl, G1.out.2⟩
set_option maxHeartbeats 1000000 in
theorem obRight_none (c : Nat → Nat) {kind : Int} (h : ¬ (1 ≤ kind ∧ kind ≤ 6)) (w : World) : Calls Try.prog 27 #[.int .i64 kind, .agg (wl c).toArray] w fun e w' => e = .returned (.bool false) ∧ Below w.heap.size w w' := by
  have G : Hid (Gd w.heap.size w (w.alloc (.cells (wl c).toArray 28))) := (Gd.refl w).new _
  have m1 : (kind == 1) = false := by simp; omega
  have m2 : (kind == 2) = false := by simp; omega
  have m3 : (kind == 3) = false := by simp; omega
  have m4 : (kind == 4) = false := by simp; omega
  have m5 : (kind == 5) = false := by simp; omega
  have m6 : (kind == 6) = false := by simp; omega
  clear h
  go_enter Try.func27, Try.ntmps27
  go_wp2
  go_ret
  exact ⟨rfl, G.out.2⟩
theorem obRight_is {kind : Int} {c : Nat → Nat} {v : Bool} (hv : v = true ↔ isOb kind c) (w : World) : Calls Try.prog 27 #[.int .i64 kind, .agg (wl c).toArray] w fun e w' => e = .returned (.bool v) ∧ Below w.heap.size w w' := by
  unfold isOb at hv
  by_cases hk : 1 ≤ kind ∧ kind ≤ 6
  · have : kind = 1 ∨ kind = 2 ∨ kind = 3 ∨ kind = 4 ∨ kind = 5 ∨ kind = 6 := by omega
    rcases this with rfl | rfl | rfl | rfl | rfl | rfl
    · have e : isLb c = v := by cases v <;> cases h : isLb c <;> simp [h] at hv ⊢
      rw [← e]; exact obRight_1 c w
    · have e : isLb c = v := by cases v <;> cases h : isLb c <;> simp [h] at hv ⊢
      rw [← e]; exact obRight_2 c w
    · have e : isLb c = v := by cases v <;> cases h : isLb c <;> simp [h] at hv ⊢
      rw [← e]; exact obRight_3 c w
    · exact obRight_4 c v (by simpa using hv) w
    · exact obRight_5 c v (by simpa using hv) w
    · have e : isTb c = v := by cases v <;> cases h : isTb c <;> simp [h] at hv ⊢
      rw [← e]; exact obRight_6 c w
  · have e : v = false := by
      cases v
      · rfl
      · rcases hv.1 rfl with ⟨h | h | h, _⟩ | ⟨h, _⟩ | ⟨h, _⟩ | ⟨h, _⟩ <;> exact absurd ⟨by omega, by omega⟩ hk
    rw [e]; exact obRight_none c hk w
end Go.Proofs.Ytgkgkiheoadbfaa.Tab
namespace Go.Proofs.Ytgkgkiheoadbfaa.Tab
set_option maxRecDepth 20000
open Go.RowKit
theorem isLb_iff {c : Nat → Nat} : isLb c = true ↔ WList c := ⟨isLb_w, isLb_of⟩
theorem WTab_iff {c : Nat → Nat} : WTab c ↔ WT c := by
  unfold WTab WT
  constructor
  · intro ⟨h1, h2, h3⟩
    exact ⟨fun j hj => by have := upC_all h1 (j := j) (by omega) (by omega); omega, by have := upC_all h2 (j := 16) (by omega) (by omega); omega, h3⟩
  · intro ⟨h1, h2, h3⟩
    exact ⟨upC_iff.2 fun j hj => by have := h1 (0 + j) (by omega); omega, upC_iff.2 fun j hj => by rw [show 16 + j = 16 by omega, h2]; decide, h3⟩
theorem isTb_iff {c : Nat → Nat} : isTb c = true ↔ WN c := by
  unfold isTb WN
  rw [Bool.and_eq_true]
  constructor
  · intro ⟨h1, h2⟩
    exact ⟨by have := upC_all h1 (j := 0) (by omega) (by omega); omega, fun j h3 h4 => by have := upC_all h2 (j := j) (by omega) (by omega); omega⟩
  · intro ⟨h1, h2⟩
    exact ⟨upC_iff.2 fun j hj => by rw [show 0 + j = 0 by omega]; omega, upC_iff.2 fun j hj => by rw [h2 (1 + j) (by omega) (by omega)]; decide⟩
theorem isTh_ob {k : Int} {c : Nat → Nat} : isTh k c ↔ isOb k c := by
  unfold isTh isOb
  rw [isLb_iff, WTab_iff, isTb_iff]
end Go.Proofs.Ytgkgkiheoadbfaa.Tab
namespace Go.Proofs.Ytgkgkiheoadbfaa.Tab
set_option maxRecDepth 20000
open Go.RowKit
set_option linter.unusedVariables false

theorem tg_same {k : Int} {v : Value} {t u : Tb} {n : Int} (h : t.all = u.all) : tg k v t n = tg k v u n := by unfold tg; rw [h]
/-- A thing's list, of whatever kind it is. -/
def tl (kind : Int) (c : Nat → Nat) : List Int := if kind ≤ 4 then lst c else []
/-- What a thing is beside its list. -/
structure Tq (kind : Int) (c : Nat → Nat) (v : Value) (t : Tb) (x : Int) : Prop where
  list : kind ≤ 4 → t = Tb.zero ∧ x = 0
  table : kind = 5 → v = .slice none 0 0 ∧ t.all = (tbl c).all ∧ x = 0
  tally : kind = 6 → v = .slice none 0 0 ∧ t = Tb.zero ∧ x = (c 0 : Nat)
theorem Th.isl {B : Nat} {w : World} {kind : Int} {c : Nat → Nat} {v : Value} {t : Tb} {x : Int} (h : Th B w kind c v t x) (hk : kind ≤ 6) : IsL B w v (tl kind c) := by
  unfold tl
  by_cases h4 : kind ≤ 4
  · rw [if_pos h4]; exact (h.list h4).1
  · rw [if_neg h4]
    by_cases h5 : kind = 5
    · rw [(h.table h5).1]; exact IsL.nil _ _ _ _
    · rw [(h.tally (by omega)).1]; exact IsL.nil _ _ _ _
theorem Th.tq {B : Nat} {w : World} {kind : Int} {c : Nat → Nat} {v : Value} {t : Tb} {x : Int} (h : Th B w kind c v t x) : Tq kind c v t x := ⟨fun hk => (h.list hk).2, h.table, h.tally⟩
theorem Tq.th {B : Nat} {w : World} {kind : Int} {c : Nat → Nat} {v : Value} {t : Tb} {x : Int} (h : Tq kind c v t x) (hl : IsL B w v (tl kind c)) : Th B w kind c v t x :=
  ⟨fun hk => ⟨by have := hl; unfold tl at this; rwa [if_pos hk] at this, h.list hk⟩, h.table, h.tally⟩
theorem Th.later {B : Nat} {w w' : World} {kind : Int} {c : Nat → Nat} {v : Value} {t : Tb} {n : Int} (h : Th B w kind c v t n) (hb : Below w.heap.size w w') : Th B w' kind c v t n :=
  ⟨fun hk => ⟨(h.list hk).1.later hb, (h.list hk).2⟩, h.table, h.tally⟩
theorem Th.any {B : Nat} {w : World} {kind : Int} {c : Nat → Nat} {v : Value} {t : Tb} {n : Int} (h : Th B w kind c v t n) : Th 0 w kind c v t n :=
  ⟨fun hk => ⟨(h.list hk).1.mono (Nat.zero_le _), (h.list hk).2⟩, h.table, h.tally⟩
theorem Th.one {B : Nat} {w : World} {kind : Int} {c : Nat → Nat} {v : Value} {t : Tb} {n : Int} (h : Th B w kind c v t n) (hk : kind ≤ 6) : v.oneCell' = true := by
  by_cases h4 : kind ≤ 4
  · obtain ⟨a, k, rfl⟩ := (h.list h4).1.form; rfl
  · by_cases h5 : kind = 5
    · rw [(h.table h5).1]; rfl
    · rw [(h.tally (by omega)).1]; rfl

/-- The words of a thing that words are. -/
theorem TCells_is {B : Nat} {kind : Int} {c : Nat → Nat} (hO : isTh kind c) {v : Value} {t : Tb} {n : Int} {w : World} (h : Th B w kind c v t n) :
    Calls Try.prog 41 #[.agg (tg kind v t n).toArray] w fun e w' => Wd w.heap.size e w' c ∧ Below w.heap.size w w' := by
  have cg : ∀ {d : Nat → Nat}, (∀ j, j < 17 → d j = c j) → ∀ e w', Wd w.heap.size e w' d ∧ Below w.heap.size w w' → Wd w.heap.size e w' c ∧ Below w.heap.size w w' := fun hd e w' ⟨⟨b, h1, h2, h3⟩, h4⟩ => ⟨⟨b, h1, h2, wl_congr hd ▸ h3⟩, h4⟩
  rcases hO with ⟨hk, hw⟩ | ⟨hk, hw, _⟩ | ⟨hk, hw⟩ | ⟨hk, hw⟩
  · exact (Cells_list (by omega) (by omega) t n (h.list (by omega)).1 (by rw [lst_length]; exact hw.len) (lst_val hw)).mono (cg (lw_lst hw))
  · exact (Cells_list (by omega) (by omega) t n (h.list (by omega)).1 (by rw [lst_length]; exact hw.len) (lst_val hw)).mono (cg (lw_lst hw))
  · subst hk
    rw [tg_same (h.table rfl).2.1]
    refine (Cells_5 v (tbl c) n (fun i hi => ?_) (fun i hi => ?_) w).mono (cg (tw_iff.2 hw.2.1))
    · have := hw.1 (2 * i) (by omega); simp only [tbl]; omega
    · have := hw.1 (2 * i + 1) (by omega); simp only [tbl]; omega
  · subst hk
    rw [(h.tally rfl).2.2]
    exact (Cells_6 v t (c 0) hw.1 w).mono (cg (tyw_iff.2 hw.2))
end Go.Proofs.Ytgkgkiheoadbfaa.Tab
namespace Go.Proofs.Ytgkgkiheoadbfaa
set_option maxRecDepth 20000
open Go.RowKit

/-- What an operation makes of a stack, and its answer: 6.1. -/
def sdo (xs : List Int) (what value : Int) : List Int × Int × Int :=
  if what = 2 ∧ xs ≠ [] then (xs.dropLast, 1, xs.getLastD 0) else if what = 5 ∧ xs ≠ [] then (xs, 1, xs.getLastD 0) else qdo xs what value
theorem sdo_take (r : List Int) (z x : Int) : sdo (r ++ [z]) 2 x = (r, 1, z) := by simp [sdo]
theorem sdo_peek (r : List Int) (z x : Int) : sdo (r ++ [z]) 5 x = (r ++ [z], 1, z) := by simp [sdo]
theorem sdo_nil (o x : Int) : sdo [] o x = qdo [] o x := by simp [sdo]
theorem sdo_other (xs : List Int) (o x : Int) (h2 : o ≠ 2) (h5 : o ≠ 5) : sdo xs o x = qdo xs o x := by simp [sdo, h2, h5]
theorem sdo_full {ys : List Int} (x : Int) (h : 6 ≤ ys.length) : sdo ys 1 x = (ys, 3, 0) := by simp [sdo, qdo, h]
theorem sdo_put {ys : List Int} (x : Int) (h : ys.length < 6) : sdo ys 1 x = (ys ++ [x], 1, 0) := by simp [sdo, qdo, show ¬ 6 ≤ ys.length by omega]
theorem sdo_count (ys : List Int) (x : Int) : sdo ys 6 x = (ys, 1, (ys.length : Int)) := by simp [sdo, qdo]
theorem sdo_looks (ys : List Int) : ∃ r c y, sdo ys 5 0 = (ys, c, y) ∧ sdo ys 2 0 = (r, c, y) := by
  rcases List.eq_nil_or_concat ys with rfl | ⟨r, z, rfl⟩
  · exact ⟨[], 2, 0, rfl, rfl⟩
  · exact ⟨r, 1, z, by rw [List.concat_eq_append]; exact sdo_peek r z 0, by rw [List.concat_eq_append]; exact sdo_take r z 0⟩

set_option maxHeartbeats 1000000 in
theorem sDo_else {B : Nat} {v : Value} {xs ys : List Int} {w : World} {o x c y : Int} (k : Int) (h : IsL B w v xs) (hx : xs.length ≤ 1000000) (ho : xs.length = 0 ∨ (o ≠ 2 ∧ o ≠ 5)) (hq : qdo xs o x = (ys, c, y)) :
    Calls Try.prog 63 #[v, .agg #[.int .i64 o, .int .i64 k, .int .i64 x]] w (Made w ys c y) := by
  have F0 : Hid (Fr w (two w o k x) o k x) := Fr.start w o k x
  obtain ⟨a, cp, rfl⟩ := h.form
  have X : Hid (IsL B (two w o k x) (.slice a xs.length cp) xs) := h.later F0.out.gr
  have Q : Hid (qdo xs o x = (ys, c, y)) := hq
  clear h hq
  rcases ho with h0 | ⟨n2, n5⟩
  · have H0 : Hid (xs.length ≤ 1000000) := hx
    rw [h0] at X ⊢
    clear h0 hx
    go_enter Try.func63, Try.ntmps63
    go_wp2_with fail
    refine (qDo_eq (w := two w o k x) k X.out H0.out Q.out).mono ?_
    rintro e w1 ⟨v1, rfl, hi, hb⟩
    rw [two_size] at hi hb
    have F1 : Hid (Fr w w1 o k x) := F0.out.later hb
    have I1 : Hid (IsL (w.heap.size + 2) w1 v1 ys) := hi
    clear hi hb F0 X Q
    have r0 := F1.out.r0
    have r1 := F1.out.r1
    have f0 := F1.out.f0
    have f1 := F1.out.f1
    go_wp2
    refine bodyPost_ret (v := .tuple #[v1, .agg #[.int .i64 c, .int .i64 y]]) ?_ rfl (F1.out.made c y I1.out)
    have E := F1.out.ends c y
    unfold wr at E
    simp [results, Try.results63, go_sem, E.1, E.2.1]
  · have m2 : (o != 2) = true := by simp [n2]
    have m5 : (o != 5) = true := by simp [n5]
    have hp : 0 ≤ (xs.length : Int) := by omega
    go_enter Try.func63, Try.ntmps63
    go_wp2_with fail
    all_goals
      refine (qDo_eq (w := two w o k x) k X.out hx Q.out).mono ?_
      rintro e w1 ⟨v1, rfl, hi, hb⟩
      rw [two_size] at hi hb
      have F1 : Hid (Fr w w1 o k x) := F0.out.later hb
      have I1 : Hid (IsL (w.heap.size + 2) w1 v1 ys) := hi
      clear hi hb F0 X Q
      have r0 := F1.out.r0
      have r1 := F1.out.r1
      have f0 := F1.out.f0
      have f1 := F1.out.f1
      go_wp2
      refine bodyPost_ret (v := .tuple #[v1, .agg #[.int .i64 c, .int .i64 y]]) ?_ rfl (F1.out.made c y I1.out)
      have E := F1.out.ends c y
      unfold wr at E
      simp [results, Try.results63, go_sem, E.1, E.2.1]

theorem Fr.made3 {w W : World} {o k x : Int} {v : Value} {ys : List Int} (h : Fr w W o k x) (c y : Int) (I : IsL (w.heap.size + 2) W v ys) : Made w ys c y (.returned (.tuple #[v, .agg #[.int .i64 c, .int .i64 y]])) (wr w W c y).drew :=
  ⟨v, rfl, (I.wr c y).later (Below.refl _ _).drew, (h.ends c y).2.2.drew⟩

set_option maxHeartbeats 1000000 in
theorem sDo_take {B : Nat} {v : Value} {r : List Int} {z : Int} {w : World} (k x : Int) (h : IsL B w v (r ++ [z])) (hx : (r ++ [z]).length ≤ 1000000) :
    Calls Try.prog 63 #[v, .agg #[.int .i64 2, .int .i64 k, .int .i64 x]] w (Made w r 1 z) := by
  have F0 : Hid (Fr w (two w 2 k x) 2 k x) := Fr.start w 2 k x
  have X : Hid (IsL B (two w 2 k x) v (r ++ [z])) := h.later F0.out.gr
  have HX : Hid ((r ++ [z]).length ≤ 1000000) := hx
  rcases h with ⟨h, _⟩ | ⟨b, off, c, rfl, hB, h0, hc, hcell, _⟩
  · simp at h
  have hz : w.cell? ⟨b, off + r.length, none⟩ = some (.int .i64 z) := by
    rw [hcell r.length (by simp)]
    simp [List.getD]
  have Z : Hid (w.cell? ⟨b, off + r.length, none⟩ = some (.int .i64 z)) := hz
  have hbl : b < w.heap.size := World.block_lt_of_cell? _ _ hz
  clear hz hcell
  have en : (r ++ [z]).length = r.length + 1 := by simp
  rw [en] at h0 hc hx X ⊢
  clear en
  obtain ⟨m, hm⟩ : ∃ m, m = r.length := ⟨_, rfl⟩
  have M : Hid (r.length = m) := hm.symm
  rw [← hm] at h0 hc hx X Z ⊢
  clear hm
  go_enter Try.func63, Try.ntmps63
  go_wp2_with fail
  refine (Clone_is (w := two w 2 k x) X.out HX.out).mono ?_
  rintro e w1 ⟨v1, rfl, hown, hb⟩
  rw [two_size] at hown hb
  have F1 : Hid (Fr w w1 2 k x) := F0.out.later hb
  obtain ⟨g, off1, c1, rfl, hc1, hcut⟩ := hown.isL.cut (by simp)
  have I0 : Hid (IsL (w.heap.size + 2) w1 (.slice (some ⟨g, off1, none⟩) (r.length + [z].length) c1) (r ++ [z])) := hown.isL
  have I1 : Hid (IsL (w.heap.size + 2) w1 (.slice (some ⟨g, off1, none⟩) r.length c1) r) := hcut
  have hz1 : w1.cell? ⟨b, off + m, none⟩ = some (.int .i64 z) := by
    have h1 : (two w 2 k x).cell? ⟨b, off + m, none⟩ = some (.int .i64 z) := by rw [F0.out.gr.cell (p := ⟨b, off + m, none⟩) hbl]; exact Z.out
    rw [hb.cell (p := ⟨b, off + m, none⟩) (show b < w.heap.size + 2 by omega)]
    exact h1
  have el : r.length + [z].length = m + 1 := by rw [M.out]; rfl
  rw [el] at hc1 I0 ⊢
  rw [M.out] at I1
  clear hown hcut hb F0 X Z el
  have hcm : (m : Int) ≤ (c1 : Int) := by omega
  have o0 := F1.out.o0
  have r0 := F1.out.r0
  have r1 := F1.out.r1
  have f0 := F1.out.f0
  have f1 := F1.out.f1
  go_wp2_with fail
  go_region
  all_goals go_wp2
  refine bodyPost_ret (v := .tuple #[.slice (some ⟨g, off1, none⟩) m c1, .agg #[.int .i64 1, .int .i64 z]]) ?_ rfl (F1.out.made3 1 z I1.out)
  have E := F1.out.ends 1 z
  unfold wr at E
  simp [results, Try.results63, go_sem, E.1, E.2.1]

set_option maxHeartbeats 1000000 in
theorem sDo_peek {B : Nat} {v : Value} {r : List Int} {z : Int} {w : World} (k x : Int) (h : IsL B w v (r ++ [z])) (hx : (r ++ [z]).length ≤ 1000000) :
    Calls Try.prog 63 #[v, .agg #[.int .i64 5, .int .i64 k, .int .i64 x]] w (Made w (r ++ [z]) 1 z) := by
  have F0 : Hid (Fr w (two w 5 k x) 5 k x) := Fr.start w 5 k x
  have X : Hid (IsL B (two w 5 k x) v (r ++ [z])) := h.later F0.out.gr
  have HX : Hid ((r ++ [z]).length ≤ 1000000) := hx
  rcases h with ⟨h, _⟩ | ⟨b, off, c, rfl, hB, h0, hc, hcell, _⟩
  · simp at h
  have hz : w.cell? ⟨b, off + r.length, none⟩ = some (.int .i64 z) := by
    rw [hcell r.length (by simp)]
    simp [List.getD]
  have Z : Hid (w.cell? ⟨b, off + r.length, none⟩ = some (.int .i64 z)) := hz
  have hbl : b < w.heap.size := World.block_lt_of_cell? _ _ hz
  clear hz hcell
  have en : (r ++ [z]).length = r.length + 1 := by simp
  rw [en] at h0 hc hx X ⊢
  clear en
  obtain ⟨m, hm⟩ : ∃ m, m = r.length := ⟨_, rfl⟩
  have M : Hid (r.length = m) := hm.symm
  rw [← hm] at h0 hc hx X Z ⊢
  clear hm
  go_enter Try.func63, Try.ntmps63
  go_wp2_with fail
  refine (Clone_is (w := two w 5 k x) X.out HX.out).mono ?_
  rintro e w1 ⟨v1, rfl, hown, hb⟩
  rw [two_size] at hown hb
  have F1 : Hid (Fr w w1 5 k x) := F0.out.later hb
  obtain ⟨g, off1, c1, rfl, hc1, hcut⟩ := hown.isL.cut (by simp)
  have I0 : Hid (IsL (w.heap.size + 2) w1 (.slice (some ⟨g, off1, none⟩) (r.length + [z].length) c1) (r ++ [z])) := hown.isL
  have I1 : Hid (IsL (w.heap.size + 2) w1 (.slice (some ⟨g, off1, none⟩) r.length c1) r) := hcut
  have hz1 : w1.cell? ⟨b, off + m, none⟩ = some (.int .i64 z) := by
    have h1 : (two w 5 k x).cell? ⟨b, off + m, none⟩ = some (.int .i64 z) := by rw [F0.out.gr.cell (p := ⟨b, off + m, none⟩) hbl]; exact Z.out
    rw [hb.cell (p := ⟨b, off + m, none⟩) (show b < w.heap.size + 2 by omega)]
    exact h1
  have el : r.length + [z].length = m + 1 := by rw [M.out]; rfl
  rw [el] at hc1 I0 ⊢
  rw [M.out] at I1
  clear hown hcut hb F0 X Z el
  have hcm : (m : Int) ≤ (c1 : Int) := by omega
  have o0 := F1.out.o0
  have r0 := F1.out.r0
  have r1 := F1.out.r1
  have f0 := F1.out.f0
  have f1 := F1.out.f1
  go_wp2_with fail
  go_region
  all_goals go_wp2
  refine bodyPost_ret (v := .tuple #[.slice (some ⟨g, off1, none⟩) (m + 1) c1, .agg #[.int .i64 1, .int .i64 z]]) ?_ rfl (F1.out.made3 1 z I0.out)
  have E := F1.out.ends 1 z
  unfold wr at E
  simp [results, Try.results63, go_sem, E.1, E.2.1]

theorem sDo_eq {B : Nat} {v : Value} {xs ys : List Int} {w : World} {o x c y : Int} (k : Int) (h : IsL B w v xs) (hx : xs.length ≤ 1000000) (hq : sdo xs o x = (ys, c, y)) :
    Calls Try.prog 63 #[v, .agg #[.int .i64 o, .int .i64 k, .int .i64 x]] w (Made w ys c y) := by
  rcases List.eq_nil_or_concat xs with rfl | ⟨r, z, rfl⟩
  · rw [sdo_nil] at hq
    exact sDo_else k h hx (Or.inl rfl) hq
  · rw [List.concat_eq_append] at h hx hq
    by_cases n2 : o = 2
    · subst n2
      rw [sdo_take] at hq
      simp only [Prod.mk.injEq] at hq
      obtain ⟨rfl, rfl, rfl⟩ := hq
      exact sDo_take k x h hx
    by_cases n5 : o = 5
    · subst n5
      rw [sdo_peek] at hq
      simp only [Prod.mk.injEq] at hq
      obtain ⟨rfl, rfl, rfl⟩ := hq
      exact sDo_peek k x h hx
    · rw [sdo_other _ _ _ n2 n5] at hq
      exact sDo_else k h hx (Or.inr ⟨n2, n5⟩) hq
end Go.Proofs.Ytgkgkiheoadbfaa
