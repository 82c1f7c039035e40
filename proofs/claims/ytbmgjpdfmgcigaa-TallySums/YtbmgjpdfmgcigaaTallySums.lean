/- TallySums is proved: for every list of numbers the call returns true (numbers below a thousand that are added to a tally in any order come to the same; lists of more than sixty are let be, by the law's own words). -/
import Derived.Test.YtbmgjpdfmgcigaaRows
import Derived.Test.YtbmgjpdfmgcigaaKta
import Derived.Test.YtbmgjpdfmgcigaaTal
import Derived.Test.YtbmgjpdfmgcigaaArgL
import Derived.ChangeAlike
import Derived.Deep.LoopGhost

namespace Go.Proofs.Ytbmgjpdfmgcigaa.Tab.tallySums
open Go.ChangeShapes Go.WideShapes Go.ChangeAt Go.RowKit
set_option linter.unusedVariables false

theorem own : ownKnob Try.prog.godebug = none := by kernel_rfl

theorem isl_at {B : Nat} {w : World} {xs : List Int} {b off c i : Nat} (h : IsL B w (.slice (some ⟨b, off, none⟩) xs.length c) xs) (hi : i < xs.length) : w.cell? ⟨b, off + i, none⟩ = some (.int .i64 (xs.getD i 0)) := by
  rcases h with ⟨rfl, _⟩ | ⟨b', off', c', h1, _, _, _, h4, _⟩
  · simp at hi
  · injection h1 with h1 _ _
    injection h1 with h1
    injection h1 with e1 e2 _
    subst e1 e2
    exact h4 i hi
noncomputable def pk (xs : List Int) (i : Nat) : Nat := Classical.choose (pick_1000 (xs.getD i 0))
theorem pk_lt (xs : List Int) (i : Nat) : pk xs i ≤ 1000 := Nat.le_of_lt (Classical.choose_spec (pick_1000 (xs.getD i 0))).1
theorem pk_is (xs : List Int) (i : Nat) (w : World) : Calls Try.prog 11 #[.int .i64 (xs.getD i 0), .int .i64 1000] w fun e w' => e = .returned (.int .i64 (pk xs i : Nat)) ∧ w' = w :=
  (Classical.choose_spec (pick_1000 (xs.getD i 0))).2 w
theorem add_is (f : Nat → Nat) (i : Nat) (hi : i < 60) (h : ∀ i, f i ≤ 1000) (w : World) :
    Calls Try.prog 9 #[.int .i64 (sumN f i : Nat), .agg #[.int .i64 1, .int .i64 0, .int .i64 (f i : Nat)]] w
      fun e w' => e = .returned (.tuple #[.int .i64 (sumN f (i + 1) : Nat), .agg #[.int .i64 1, .int .i64 (sumN f i : Nat)]]) ∧ Below w.heap.size w w' := by
  have h1 := sumN_le f 1000 h i
  have h2 := h i
  have h3 : sumN f i ≤ 60000 := by omega
  have e : ado ((sumN f i : Nat) : Int) 1 ((f i : Nat) : Int) = (((sumN f (i + 1) : Nat) : Int), 1, ((sumN f i : Nat) : Int)) := by
    rw [ado_few (n := ((sumN f i : Nat) : Int)) (x := ((f i : Nat) : Int)) (by omega)]; simp only [sumN]; rw [Int.natCast_add]
  exact aDo_eq (by omega) (by omega) (by omega) (by omega) e w
set_option maxHeartbeats 2000000 in
theorem walk (v : Value) (xs : List Int) (w : World) (D : Go.Proofs.Ytbmgjpdfmgcigaa.In w v xs) :
    Calls Try.prog 5 #[v] w fun e w' => e = .returned (.bool true) ∧ Below w.heap.size w w' := by
  have h1 : Hid (IsL 0 w v xs) := D.1
  clear D
  by_cases hbig : 60 < xs.length
  · obtain ⟨a, c, rfl⟩ := h1.out.form
    clear h1
    generalize xs.length = N at *
    have hb : (60 : Int) < (N : Int) := by omega
    go_enter Try.func5, Try.ntmps5
    go_wp2_with fail
    refine (tallied_is _).mono ?_
    rintro e m1 ⟨rfl, hb⟩
    have g1 : Hid _ := hb
    clear hb
    go_wp2
    go_ret
    exact ⟨rfl, g1.out⟩
  by_cases h0 : xs.length = 0
  · have hnil : xs = [] := List.eq_nil_of_length_eq_zero h0
    subst hnil
    obtain ⟨a, c, rfl⟩ := h1.out.form
    clear h1
    go_enter Try.func5, Try.ntmps5
    go_wp2_with fail
    refine (tallied_is _).mono ?_
    rintro e m1 ⟨rfl, hb⟩
    have g1 : Hid _ := hb
    clear hb
    go_wp2_with fail
    go_loopg [13, 3, 4] 0 (fun _ s13 s3 s4 wt => s13 = .int .i64 0 ∧ s3 = .int .i64 0 ∧ s4 = .int .i64 0 ∧ wt = m1)
    case atStart => exact ⟨rfl, rfl, rfl, rfl⟩
    case round =>
      obtain ⟨rfl, rfl, rfl, rfl⟩ := hrel
      go_wp2
      go_ret
      exact ⟨rfl, g1.out⟩
  · have hpos : 0 < xs.length := by omega
    obtain ⟨b, off, c, rfl⟩ : ∃ b off c, v = .slice (some ⟨b, off, none⟩) xs.length c := by
      rcases h1.out with ⟨h, _⟩ | ⟨b, off, c, h, _⟩
      · subst h; simp at hpos
      · exact ⟨b, off, c, h⟩
    have hb : ¬ (60 : Int) < (xs.length : Int) := by omega
    have hsm : xs.length ≤ 60 := by omega
    clear h0 hbig
    have P : Hid (∀ i w, Calls Try.prog 11 #[.int .i64 (xs.getD i 0), .int .i64 1000] w fun e w' => e = .returned (.int .i64 (pk xs i : Nat)) ∧ w' = w) := pk_is xs
    obtain ⟨f, hf⟩ : ∃ f, f = pk xs := ⟨_, rfl⟩
    have FL : Hid (∀ i, f i ≤ 1000) := by rw [hf]; exact pk_lt xs
    rw [← hf] at P
    clear hf
    obtain ⟨r, hr⟩ : ∃ r : Nat → Nat, r = fun i => f (xs.length - 1 - i) := ⟨_, rfl⟩
    have RL : Hid (∀ i, r i ≤ 1000) := by rw [hr]; exact fun i => FL.out _
    have ER : Hid (∀ i, f (xs.length - 1 - i) = r i) := by rw [hr]; exact fun _ => rfl
    have ES : Hid (sumN r xs.length = sumN f xs.length) := by rw [hr]; exact sumN_rev f _
    clear hr
    go_enter Try.func5, Try.ntmps5
    go_wp2_with fail
    refine (tallied_is _).mono ?_
    rintro e m1 ⟨rfl, hb⟩
    have g1 : Hid (Gd w.heap.size w m1) := (Gd.refl w).later hb
    have h2 : Hid (IsL 0 m1 (.slice (some ⟨b, off, none⟩) xs.length c) xs) := h1.out.later hb
    clear hb h1
    go_wp2_with fail
    go_loopg [13, 3, 4] xs.length (fun gg s13 s3 s4 wr => ∃ i : Nat, i ≤ xs.length ∧ xs.length - i ≤ gg ∧ s13 = .int .i64 i ∧ s3 = .int .i64 (sumN f i : Nat) ∧ s4 = .int .i64 (sumN r i : Nat) ∧ Hid (IsL 0 wr (.slice (some ⟨b, off, none⟩) xs.length c) xs) ∧ Hid (Gd w.heap.size w wr))
    case atStart => exact ⟨0, Nat.zero_le _, by omega, rfl, rfl, rfl, h2, g1⟩
    case round =>
      clear h2 g1
      obtain ⟨i, hi, hgg, rfl, rfl, rfl, I, G⟩ := hrel
      by_cases hlt : i < xs.length
      · have hi1 : (i : Int) < (xs.length : Int) := by omega
        have c1 := isl_at I.out hlt
        have hbl : b < wr.heap.size := World.block_lt_of_cell? _ _ c1
        have A1 : Hid (∀ w, _) := fun w => add_is f i (by omega) FL.out w
        have A2 : Hid (∀ w, _) := fun w => add_is r i (by omega) RL.out w
        have e1 : IntKind.i64.wrap ((xs.length : Int) - 1) = ((xs.length - 1 : Nat) : Int) := by rw [IntKind.wrap_i64]; omega
        have e2 : IntKind.i64.wrap (((xs.length - 1 : Nat) : Int) - i) = ((xs.length - 1 - i : Nat) : Int) := by rw [IntKind.wrap_i64]; omega
        have e3 : ((xs.length - 1 - i : Nat) : Int) < (xs.length : Int) := by omega
        have P1 : Hid (∀ w, _) := P.out i
        have P2 : Hid (∀ w, _) := P.out (xs.length - 1 - i)
        rw [ER.out] at P2
        generalize xs.getD i 0 = x at c1 P1
        go_wp2_with fail
        refine (P1.out _).mono ?_
        rintro e m2 ⟨rfl, hw⟩
        rw [hw]; clear hw m2
        go_wp2_with fail
        refine (put_is _ _).mono ?_
        rintro e m3 ⟨rfl, hb⟩
        have G1 : Hid (Gd w.heap.size w m3) := G.out.later hb
        have I1 : Hid (IsL 0 m3 (.slice (some ⟨b, off, none⟩) xs.length c) xs) := I.out.later hb
        clear hb G I
        go_wp2_with fail
        refine (A1.out _).mono ?_
        rintro e m4 ⟨rfl, hb⟩
        have G2 : Hid (Gd w.heap.size w m4) := G1.out.later hb
        have I2 : Hid (IsL 0 m4 (.slice (some ⟨b, off, none⟩) xs.length c) xs) := I1.out.later hb
        clear hb G1 I1 A1 P1
        have c2 := isl_at I2.out (show xs.length - 1 - i < xs.length by omega)
        generalize xs.getD (xs.length - 1 - i) 0 = y at c2 P2
        go_wp2_with fail
        refine (P2.out _).mono ?_
        rintro e m2 ⟨rfl, hw⟩
        rw [hw]; clear hw m2
        go_wp2_with fail
        refine (put_is _ _).mono ?_
        rintro e m5 ⟨rfl, hb⟩
        have G3 : Hid (Gd w.heap.size w m5) := G2.out.later hb
        have I3 : Hid (IsL 0 m5 (.slice (some ⟨b, off, none⟩) xs.length c) xs) := I2.out.later hb
        clear hb G2 I2
        go_wp2_with fail
        refine (A2.out _).mono ?_
        rintro e m6 ⟨rfl, hb⟩
        have G4 : Hid (Gd w.heap.size w m6) := G3.out.later hb
        have I4 : Hid (IsL 0 m6 (.slice (some ⟨b, off, none⟩) xs.length c) xs) := I3.out.later hb
        clear hb G3 I3 A2 P2
        go_wp2
        go_roundg (xs.length - (i + 1))
        case measure => omega
        case rel => exact ⟨i + 1, by omega, by omega, by go_num, rfl, rfl, I4, G4⟩
      · have ei : i = xs.length := by omega
        subst ei
        have e : (((sumN f xs.length : Nat) : Int) == ((sumN r xs.length : Nat) : Int)) = true := by rw [ES.out]; simp
        go_wp2
        go_ret
        exact ⟨rfl, by first | exact G.out.low | exact G.out.2⟩


set_option maxRecDepth 100000 in
theorem lifted (os : Os) (started : os.Started) (H : Type) (enc : TypeId × Value → H) :
    ReturnsInHanded {} Try.checked os 5 .any (Rows.tallySumsSpec.pre6 enc Try.prog Try.f5 Rows.tallySumsRow.domain false) (Rows.tallySumsSpec.post enc Try.prog Try.f5 false true false false) := by
  refine returnsInHanded_of_change (C := Try.checked) own started (by kernel_rfl) Try.func5
    (ChangeSpec.witness6 (enc := enc) (C := Try.checked) false ⟨#[], #[.slice none 0 0], []⟩ 8 (by kernel_rfl) (by kernel_rfl) (by kernel_rfl) (by kernel_rfl)) ?_
  intro W base args ds gs before hval0 hW hcnd _
  have hval : ∀ (j : Nat) t v, Try.f5.params[j]? = some t → args[j]? = some v → Value.okWide Try.prog W .any base t v := hval0
  have hW' := hW
  obtain ⟨p, q, hA0, hV, rfl, hfz, hnd⟩ := hW
  have hA : DataW.TrodAll enc Try.prog W 0 (fun _ => true) true Try.f5.params.toList args.toList ds p := hA0
  rw [Try.params5] at hA hval
  obtain ⟨v0, vs0, d0, ds0, p0, q0, hargs, rfl, rfl, h0, r0⟩ := trodAll_cons hA
  obtain ⟨rfl, rfl, rfl⟩ := trodAll_nil r0
  obtain rfl : args = #[v0] := by cases args; simp_all
  obtain ⟨rfl, rfl⟩ := trodVars_none hV
  obtain ⟨n0, D0⟩ := ints_of_trod (hval 0 33 v0 rfl rfl) h0
  have hlt := hW'.lt
  clear hA0 hval0
  refine (walk v0 n0  W  D0).mono fun e W' ⟨he, hg⟩ => ?_
  subst he
  exact ⟨_, rfl, post_below (pv := []) hW' (fun _ _ _ => (trodAll_cons_mk (shut_bool Try.underlying4 _) trodAll_mk0)) (fun sp hsp => (trodAll_cons_mk (ints_stay h0 hg (fun x hx => hlt x (by simp [hx])) (fun x hx => hsp x (by simp [hx]))) trodAll_mk0)) (fun _ _ => rfl) (by simp) (hg.frame _)⟩

theorem over : Rows.tallySumsRow.holds Try.pinned (OpenSpec.ofChange Rows.tallySumsSpec) :=
  OpenClaim.holds_of_wide 5 Try.f5 rfl rfl rfl rfl rfl rfl rfl ⟨rfl, rfl, rfl, rfl, rfl⟩ rfl rfl rfl rfl rfl (by kernel_rfl) Try.func5 (by kernel_rfl)
    (of_decide_eq_true (by kernel_rfl)) (by unfold Func.isWrapper; first | (rw [if_pos (by decide +kernel)]; kernel_rfl) | (rw [if_neg (by decide +kernel)]; exact ⟨rfl, rfl⟩))
    (fun os started H enc _ => lifted os started H enc)

theorem proved : Rows.TallySumsSaid :=
  over
#print axioms proved
end Go.Proofs.Ytbmgjpdfmgcigaa.Tab.tallySums
