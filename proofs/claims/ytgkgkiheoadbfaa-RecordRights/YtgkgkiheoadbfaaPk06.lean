/- Texts laid together: Package record: Right, by its contract; The reference RecOf, by its contract; Arguments that are arrays of words, as it lies in the call; An argument that is a record, as it lies in the call. -/
import Derived.Test.YtgkgkiheoadbfaaPk05
import Derived.Test.YtgkgkiheoadbfaaPk04
import Derived.Deep.DeepCutAuto
import Derived.Deep.RegionHeld3
import Derived.Test.YtgkgkiheoadbfaaPk00
import Derived.Test.YtgkgkiheoadbfaaPk02
import Derived.Test.YtgkgkiheoadbfaaPk01
import Derived.Test.YtgkgkiheoadbfaaRows
import Derived.Carry
namespace Go.Proofs.Ytgkgkiheoadbfaa.Tab
set_option maxRecDepth 20000
open Go.RowKit
set_option linter.unusedVariables false

theorem bool_of (p : Prop) : ∃ b : Bool, b = true ↔ p := by
  by_cases h : p
  · exact ⟨true, by simp [h]⟩
  · exact ⟨false, by simp [h]⟩
set_option maxHeartbeats 8000000 in
theorem recRight_is {r : Nat → Nat} (U : ∀ j, j < 32 → r j < 18446744073709551616) {v : Bool} (hv : v = true ↔ isRec r) (w : World) :
    Calls Try.prog 12 #[.agg (rl r).toArray] w (fun e w' => e = .returned (.bool v) ∧ Below w.heap.size w w') := by
  obtain ⟨q, hq⟩ : ∃ q, q = min (r 0) 4294967296 := ⟨_, rfl⟩
  have eo : isOb (q : Int) (ob r) ↔ isOb (r 0 : Nat) (ob r) := by
    by_cases e : r 0 ≤ 4294967296
    · rw [show q = r 0 by omega]
    · constructor
      · intro h; have := (isOb_kind h).2; omega
      · intro h; have := (isOb_kind h).2; omega
  obtain ⟨bo, hbo⟩ := bool_of (isOb (q : Int) (ob r))
  obtain ⟨ba, hba⟩ := bool_of (aR r)
  obtain ⟨bn, hbn⟩ := bool_of (nR r)
  obtain ⟨bz, hbz⟩ := bool_of (zR r ∧ tR r)
  have KI : Hid (∀ w : World, _) := recKind_is r hq
  have OB : Hid (∀ w : World, _) := recObject_is r
  have RI : Hid (∀ w : World, _) := obRight_is hbo
  have AI : Hid (∀ w : World, _) := answersRight_is U hba
  have NI : Hid (∀ w : World, _) := numbersRight_is hbn
  have ZI : Hid (∀ w : World, _) := restRight_is hbz
  have HV : Hid (v = (bo && (ba && (bn && bz)))) := by
    have h1 : v = true ↔ (bo && (ba && (bn && bz))) = true := by
      rw [hv]; unfold isRec
      simp only [Bool.and_eq_true]
      rw [hbo, hba, hbn, hbz, eo]
    show v = _
    exact Bool.eq_iff_iff.2 h1
  clear hq eo hbo hba hbn hbz hv U
  rcases bo with _ | _
  · have hM : Hid _ := ((Ms.nil w).born (rl r) 24 (b := w.heap.size) rfl)
    go_enter Try.func12, Try.ntmps12
    go_wp2_with fail
    generalize World.alloc _ _ = W at hM ⊢
    generalize hsz : w.heap.size = n at hM ⊢
    clear hsz
    replace hM := hid (hM.out.drew)
    refine wp_region_held_drew (S := fun w' => Bo w' n (rl r)) (by kernel_rfl) (hM.out.at 0 rfl) (fun hH => ?_)
    generalize World.drew _ = W at hM hH  ⊢
    refine tkR 0 rfl hH (fun _ h => h) (rwR r) ?_
    simp only [Act.put, p1, p2, p3]
    refine tkR 2 rfl hH (fun _ h => h) (rwR r) ?_
    simp only [Act.put, p1, p2, p3]
    refine rd1 1 rfl (fun K hK => ?_)
    go_simp
    refine (KI.out _).mono ?_
    rintro e W ⟨rfl, hb⟩
    replace hM := hid (hM.out.later hb)
    clear hb
    go_wp2_with fail
    refine hK.out _ _ (hM.out.at 0 rfl) (fun hH => ?_)
    clear hK K
    try simp only [Act.put, p1, p2, p3]
    refine rd1 3 rfl (fun K hK => ?_)
    go_simp
    refine (OB.out _).mono ?_
    rintro e W ⟨rfl, hb⟩
    replace hM := hid (hM.out.later hb)
    clear hb
    go_wp2_with fail
    refine hK.out _ _ (hM.out.at 0 rfl) (fun hH => ?_)
    clear hK K
    try simp only [Act.put, p1, p2, p3]
    refine rd1 4 rfl (fun K hK => ?_)
    go_simp
    refine (RI.out _).mono ?_
    rintro e W ⟨rfl, hb⟩
    replace hM := hid (hM.out.later hb)
    clear hb
    go_wp2_with fail
    refine hK.out _ _ (hM.out.at 0 rfl) (fun hH => ?_)
    clear hK K
    try simp only [Act.put, p1, p2, p3]
    refine tk 5 rfl hH ?_
    simp only [Act.put, p1, p2, p3]
    refine tkN 6 rfl hH ?_
    simp only [Act.put, p1, p2, p3]
    refine tkN 7 rfl hH ?_
    simp only [Act.put, p1, p2, p3]
    refine tk 8 rfl hH ?_
    simp only [Act.put, p1, p2, p3]
    refine tk 9 rfl hH ?_
    simp only [Act.put, p1, p2, p3]
    refine tkN 10 rfl hH ?_
    simp only [Act.put, p1, p2, p3]
    refine tkN 11 rfl hH ?_
    simp only [Act.put, p1, p2, p3]
    refine tk 12 rfl hH ?_
    simp only [Act.put, p1, p2, p3]
    refine tk 13 rfl hH ?_
    simp only [Act.put, p1, p2, p3]
    refine tkN 14 rfl hH ?_
    simp only [Act.put, p1, p2, p3]
    refine tkN 15 rfl hH ?_
    simp only [Act.put, p1, p2, p3]
    refine tk 16 rfl hH ?_
    simp only [Act.put, p1, p2, p3]
    refine tk 17 rfl hH ?_
    simp only [Act.put, p1, p2, p3]
    refine wpAnyH_done (by kernel_rfl) ?_ _
    go_wp2
    go_ret
    exact ⟨ret_bool HV.out.symm, hM.out.below⟩
  · rcases ba with _ | _
    · have hM : Hid _ := ((Ms.nil w).born (rl r) 24 (b := w.heap.size) rfl)
      go_enter Try.func12, Try.ntmps12
      go_wp2_with fail
      generalize World.alloc _ _ = W at hM ⊢
      generalize hsz : w.heap.size = n at hM ⊢
      clear hsz
      replace hM := hid (hM.out.drew)
      refine wp_region_held_drew (S := fun w' => Bo w' n (rl r)) (by kernel_rfl) (hM.out.at 0 rfl) (fun hH => ?_)
      generalize World.drew _ = W at hM hH  ⊢
      refine tkR 0 rfl hH (fun _ h => h) (rwR r) ?_
      simp only [Act.put, p1, p2, p3]
      refine tkR 2 rfl hH (fun _ h => h) (rwR r) ?_
      simp only [Act.put, p1, p2, p3]
      refine rd1 1 rfl (fun K hK => ?_)
      go_simp
      refine (KI.out _).mono ?_
      rintro e W ⟨rfl, hb⟩
      replace hM := hid (hM.out.later hb)
      clear hb
      go_wp2_with fail
      refine hK.out _ _ (hM.out.at 0 rfl) (fun hH => ?_)
      clear hK K
      try simp only [Act.put, p1, p2, p3]
      refine rd1 3 rfl (fun K hK => ?_)
      go_simp
      refine (OB.out _).mono ?_
      rintro e W ⟨rfl, hb⟩
      replace hM := hid (hM.out.later hb)
      clear hb
      go_wp2_with fail
      refine hK.out _ _ (hM.out.at 0 rfl) (fun hH => ?_)
      clear hK K
      try simp only [Act.put, p1, p2, p3]
      refine rd1 4 rfl (fun K hK => ?_)
      go_simp
      refine (RI.out _).mono ?_
      rintro e W ⟨rfl, hb⟩
      replace hM := hid (hM.out.later hb)
      clear hb
      go_wp2_with fail
      refine hK.out _ _ (hM.out.at 0 rfl) (fun hH => ?_)
      clear hK K
      try simp only [Act.put, p1, p2, p3]
      refine tk 5 rfl hH ?_
      simp only [Act.put, p1, p2, p3]
      refine tkR 6 rfl hH (fun _ h => h) (rwR r) ?_
      simp only [Act.put, p1, p2, p3]
      refine rd1 7 rfl (fun K hK => ?_)
      go_simp
      refine (AI.out _).mono ?_
      rintro e W ⟨rfl, hb⟩
      replace hM := hid (hM.out.later hb)
      clear hb
      go_wp2_with fail
      refine hK.out _ _ (hM.out.at 0 rfl) (fun hH => ?_)
      clear hK K
      try simp only [Act.put, p1, p2, p3]
      refine tk 8 rfl hH ?_
      simp only [Act.put, p1, p2, p3]
      refine tk 9 rfl hH ?_
      simp only [Act.put, p1, p2, p3]
      refine tkN 10 rfl hH ?_
      simp only [Act.put, p1, p2, p3]
      refine tkN 11 rfl hH ?_
      simp only [Act.put, p1, p2, p3]
      refine tk 12 rfl hH ?_
      simp only [Act.put, p1, p2, p3]
      refine tk 13 rfl hH ?_
      simp only [Act.put, p1, p2, p3]
      refine tkN 14 rfl hH ?_
      simp only [Act.put, p1, p2, p3]
      refine tkN 15 rfl hH ?_
      simp only [Act.put, p1, p2, p3]
      refine tk 16 rfl hH ?_
      simp only [Act.put, p1, p2, p3]
      refine tk 17 rfl hH ?_
      simp only [Act.put, p1, p2, p3]
      refine wpAnyH_done (by kernel_rfl) ?_ _
      go_wp2
      go_ret
      exact ⟨ret_bool HV.out.symm, hM.out.below⟩
    · rcases bn with _ | _
      · have hM : Hid _ := ((Ms.nil w).born (rl r) 24 (b := w.heap.size) rfl)
        go_enter Try.func12, Try.ntmps12
        go_wp2_with fail
        generalize World.alloc _ _ = W at hM ⊢
        generalize hsz : w.heap.size = n at hM ⊢
        clear hsz
        replace hM := hid (hM.out.drew)
        refine wp_region_held_drew (S := fun w' => Bo w' n (rl r)) (by kernel_rfl) (hM.out.at 0 rfl) (fun hH => ?_)
        generalize World.drew _ = W at hM hH  ⊢
        refine tkR 0 rfl hH (fun _ h => h) (rwR r) ?_
        simp only [Act.put, p1, p2, p3]
        refine tkR 2 rfl hH (fun _ h => h) (rwR r) ?_
        simp only [Act.put, p1, p2, p3]
        refine rd1 1 rfl (fun K hK => ?_)
        go_simp
        refine (KI.out _).mono ?_
        rintro e W ⟨rfl, hb⟩
        replace hM := hid (hM.out.later hb)
        clear hb
        go_wp2_with fail
        refine hK.out _ _ (hM.out.at 0 rfl) (fun hH => ?_)
        clear hK K
        try simp only [Act.put, p1, p2, p3]
        refine rd1 3 rfl (fun K hK => ?_)
        go_simp
        refine (OB.out _).mono ?_
        rintro e W ⟨rfl, hb⟩
        replace hM := hid (hM.out.later hb)
        clear hb
        go_wp2_with fail
        refine hK.out _ _ (hM.out.at 0 rfl) (fun hH => ?_)
        clear hK K
        try simp only [Act.put, p1, p2, p3]
        refine rd1 4 rfl (fun K hK => ?_)
        go_simp
        refine (RI.out _).mono ?_
        rintro e W ⟨rfl, hb⟩
        replace hM := hid (hM.out.later hb)
        clear hb
        go_wp2_with fail
        refine hK.out _ _ (hM.out.at 0 rfl) (fun hH => ?_)
        clear hK K
        try simp only [Act.put, p1, p2, p3]
        refine tk 5 rfl hH ?_
        simp only [Act.put, p1, p2, p3]
        refine tkR 6 rfl hH (fun _ h => h) (rwR r) ?_
        simp only [Act.put, p1, p2, p3]
        refine rd1 7 rfl (fun K hK => ?_)
        go_simp
        refine (AI.out _).mono ?_
        rintro e W ⟨rfl, hb⟩
        replace hM := hid (hM.out.later hb)
        clear hb
        go_wp2_with fail
        refine hK.out _ _ (hM.out.at 0 rfl) (fun hH => ?_)
        clear hK K
        try simp only [Act.put, p1, p2, p3]
        refine tk 8 rfl hH ?_
        simp only [Act.put, p1, p2, p3]
        refine tk 9 rfl hH ?_
        simp only [Act.put, p1, p2, p3]
        refine tkR 10 rfl hH (fun _ h => h) (rwR r) ?_
        simp only [Act.put, p1, p2, p3]
        refine rd1 11 rfl (fun K hK => ?_)
        go_simp
        refine (NI.out _).mono ?_
        rintro e W ⟨rfl, hb⟩
        replace hM := hid (hM.out.later hb)
        clear hb
        go_wp2_with fail
        refine hK.out _ _ (hM.out.at 0 rfl) (fun hH => ?_)
        clear hK K
        try simp only [Act.put, p1, p2, p3]
        refine tk 12 rfl hH ?_
        simp only [Act.put, p1, p2, p3]
        refine tk 13 rfl hH ?_
        simp only [Act.put, p1, p2, p3]
        refine tkN 14 rfl hH ?_
        simp only [Act.put, p1, p2, p3]
        refine tkN 15 rfl hH ?_
        simp only [Act.put, p1, p2, p3]
        refine tk 16 rfl hH ?_
        simp only [Act.put, p1, p2, p3]
        refine tk 17 rfl hH ?_
        simp only [Act.put, p1, p2, p3]
        refine wpAnyH_done (by kernel_rfl) ?_ _
        go_wp2
        go_ret
        exact ⟨ret_bool HV.out.symm, hM.out.below⟩
      · have hM : Hid _ := ((Ms.nil w).born (rl r) 24 (b := w.heap.size) rfl)
        go_enter Try.func12, Try.ntmps12
        go_wp2_with fail
        generalize World.alloc _ _ = W at hM ⊢
        generalize hsz : w.heap.size = n at hM ⊢
        clear hsz
        replace hM := hid (hM.out.drew)
        refine wp_region_held_drew (S := fun w' => Bo w' n (rl r)) (by kernel_rfl) (hM.out.at 0 rfl) (fun hH => ?_)
        generalize World.drew _ = W at hM hH  ⊢
        refine tkR 0 rfl hH (fun _ h => h) (rwR r) ?_
        simp only [Act.put, p1, p2, p3]
        refine tkR 2 rfl hH (fun _ h => h) (rwR r) ?_
        simp only [Act.put, p1, p2, p3]
        refine rd1 1 rfl (fun K hK => ?_)
        go_simp
        refine (KI.out _).mono ?_
        rintro e W ⟨rfl, hb⟩
        replace hM := hid (hM.out.later hb)
        clear hb
        go_wp2_with fail
        refine hK.out _ _ (hM.out.at 0 rfl) (fun hH => ?_)
        clear hK K
        try simp only [Act.put, p1, p2, p3]
        refine rd1 3 rfl (fun K hK => ?_)
        go_simp
        refine (OB.out _).mono ?_
        rintro e W ⟨rfl, hb⟩
        replace hM := hid (hM.out.later hb)
        clear hb
        go_wp2_with fail
        refine hK.out _ _ (hM.out.at 0 rfl) (fun hH => ?_)
        clear hK K
        try simp only [Act.put, p1, p2, p3]
        refine rd1 4 rfl (fun K hK => ?_)
        go_simp
        refine (RI.out _).mono ?_
        rintro e W ⟨rfl, hb⟩
        replace hM := hid (hM.out.later hb)
        clear hb
        go_wp2_with fail
        refine hK.out _ _ (hM.out.at 0 rfl) (fun hH => ?_)
        clear hK K
        try simp only [Act.put, p1, p2, p3]
        refine tk 5 rfl hH ?_
        simp only [Act.put, p1, p2, p3]
        refine tkR 6 rfl hH (fun _ h => h) (rwR r) ?_
        simp only [Act.put, p1, p2, p3]
        refine rd1 7 rfl (fun K hK => ?_)
        go_simp
        refine (AI.out _).mono ?_
        rintro e W ⟨rfl, hb⟩
        replace hM := hid (hM.out.later hb)
        clear hb
        go_wp2_with fail
        refine hK.out _ _ (hM.out.at 0 rfl) (fun hH => ?_)
        clear hK K
        try simp only [Act.put, p1, p2, p3]
        refine tk 8 rfl hH ?_
        simp only [Act.put, p1, p2, p3]
        refine tk 9 rfl hH ?_
        simp only [Act.put, p1, p2, p3]
        refine tkR 10 rfl hH (fun _ h => h) (rwR r) ?_
        simp only [Act.put, p1, p2, p3]
        refine rd1 11 rfl (fun K hK => ?_)
        go_simp
        refine (NI.out _).mono ?_
        rintro e W ⟨rfl, hb⟩
        replace hM := hid (hM.out.later hb)
        clear hb
        go_wp2_with fail
        refine hK.out _ _ (hM.out.at 0 rfl) (fun hH => ?_)
        clear hK K
        try simp only [Act.put, p1, p2, p3]
        refine tk 12 rfl hH ?_
        simp only [Act.put, p1, p2, p3]
        refine tk 13 rfl hH ?_
        simp only [Act.put, p1, p2, p3]
        refine tkR 14 rfl hH (fun _ h => h) (rwR r) ?_
        simp only [Act.put, p1, p2, p3]
        refine rd1 15 rfl (fun K hK => ?_)
        go_simp
        refine (ZI.out _).mono ?_
        rintro e W ⟨rfl, hb⟩
        replace hM := hid (hM.out.later hb)
        clear hb
        go_wp2_with fail
        refine hK.out _ _ (hM.out.at 0 rfl) (fun hH => ?_)
        clear hK K
        try simp only [Act.put, p1, p2, p3]
        refine tk 16 rfl hH ?_
        simp only [Act.put, p1, p2, p3]
        refine tk 17 rfl hH ?_
        simp only [Act.put, p1, p2, p3]
        refine wpAnyH_done (by kernel_rfl) ?_ _
        go_wp2
        go_ret
        exact ⟨ret_bool HV.out.symm, hM.out.below⟩
end Go.Proofs.Ytgkgkiheoadbfaa.Tab
namespace Go.Proofs.Ytgkgkiheoadbfaa.Tab
set_option maxRecDepth 20000
open Go.RowKit
set_option linter.unusedVariables false

/-- What a thread of a record must meet, and what all of them must: 12.2. -/
def CR (ρ : Nat → Nat) (t : Nat) : Prop := (ρ (18 + t) = 0 ∧ ρ (22 + t) = 0) ∨ (Aw (ρ (18 + t)) ∧ ρ (22 + t) ≠ 0 ∧ ρ (22 + t) ≤ ρ 28 ∧ ∀ s, s < t → ρ (22 + s) ≠ ρ (22 + t))
theorem cr_iff {ρ : Nat → Nat} : (∀ t, t < 4 → CR ρ t) ↔ aR ρ ∧ nR ρ := by
  constructor
  · intro h
    refine ⟨fun t ht => ?_, fun t ht => ?_⟩
    · rcases h t ht with ⟨h1, h2⟩ | ⟨h1, h2, _, _⟩
      · exact ⟨by rw [h1, h2], Or.inl h1⟩
      · exact ⟨⟨fun e => absurd (e ▸ h1) aw_zero, fun e => absurd e h2⟩, Or.inr h1⟩
    · rcases h t ht with ⟨h1, h2⟩ | ⟨h1, h2, h3, h4⟩
      · exact ⟨by rw [h2]; exact Nat.zero_le _, fun o _ => Or.inl h2⟩
      · exact ⟨h3, fun o ho => Or.inr (fun e => h4 o ho e.symm)⟩
  · rintro ⟨ha, hn⟩ t ht
    obtain ⟨a1, a2⟩ := ha t ht
    obtain ⟨n1, n2⟩ := hn t ht
    by_cases e : ρ (18 + t) = 0
    · exact Or.inl ⟨e, a1.1 e⟩
    · have hy : ρ (22 + t) ≠ 0 := fun h => e (a1.2 h)
      exact Or.inr ⟨a2.resolve_left e, hy, n1, fun s hs h => by
        rcases n2 s hs with h2 | h2
        · exact hy h2
        · exact h2 h.symm⟩
theorem cr_ans {ρ : Nat → Nat} {t : Nat} (h : CR ρ t) : ρ (18 + t) = 0 ∨ Aw (ρ (18 + t)) := by
  rcases h with ⟨h, _⟩ | ⟨h, _⟩
  · exact Or.inl h
  · exact Or.inr h
theorem nw_iff {ρ : Nat → Nat} : (∀ j, j < 32 → nw ρ j = ρ j) ↔ ρ 26 < 16 ∧ zR ρ := by
  constructor
  · intro h
    refine ⟨?_, fun j hj => ?_⟩
    · have := h 26 (by decide)
      unfold nw at this
      rw [if_pos rfl] at this
      omega
    · have := h (29 + j) (by omega)
      unfold nw at this
      rw [if_neg (by omega), if_neg (by omega)] at this
      exact this.symm
  · rintro ⟨h1, h2⟩ j hj
    unfold nw
    by_cases e : j = 26
    · subst e; rw [if_pos rfl]; omega
    · rw [if_neg e]
      by_cases e2 : j < 29
      · rw [if_pos e2]
      · rw [if_neg e2]
        have := h2 (j - 29) (by omega)
        rw [show 29 + (j - 29) = j by omega] at this
        exact this.symm
theorem isRec_iff {ρ : Nat → Nat} : isRec ρ ↔ isTh (ρ 0 : Nat) (ob ρ) ∧ (ρ 27 ≤ 1099511627776 ∧ ρ 28 ≤ 1099511627776) ∧ (∀ t, t < 4 → CR ρ t) ∧ (∀ j, j < 32 → nw ρ j = ρ j) := by
  rw [cr_iff, nw_iff, isTh_ob]
  unfold isRec
  constructor
  · rintro ⟨h1, h2, h3, h4, h5, h6, h7⟩
    exact ⟨h1, ⟨h6, h7⟩, ⟨h2, h3⟩, h5, h4⟩
  · rintro ⟨h1, ⟨h6, h7⟩, ⟨h2, h3⟩, h5, h4⟩
    exact ⟨h1, h2, h3, h4, h5, h6, h7⟩
theorem Th.low {B C : Nat} {w : World} {kind : Int} {c : Nat → Nat} {v : Value} {t : Tb} {n : Int} (h : Th B w kind c v t n) : Th B w kind c v t n := h
set_option maxRecDepth 20000 in
set_option maxHeartbeats 16000000 in
theorem RecOf_is {ρ : Nat → Nat} (U : ∀ j, j < 32 → ρ j < 18446744073709551616) {b : Bool} (hb : b = true ↔ isRec ρ) {bc : Nat} (w : World) (hC : Bo w bc (rl ρ)) :
    Calls Try.prog 11 #[.slice (some ⟨bc, 0, none⟩) 32 32] w (fun e w' => ∃ f, (∀ j, j < 37 → (f j).oneCell' = true) ∧ e = .returned (.tuple #[.agg (rv f).toArray, .bool b]) ∧ (b = true → ∃ B v t x, w.heap.size ≤ B ∧ v.oneCell' = true ∧ rv f = rv (rf (tg (ρ 0 : Nat) v t x) ρ 4) ∧ Th B w' (ρ 0 : Nat) (ob ρ) v t x) ∧ Below w.heap.size w w') := by
  have HC : Hid _ := hC
  have HBR : Hid (b = true ↔ isTh (ρ 0 : Nat) (ob ρ) ∧ (ρ 27 ≤ 1099511627776 ∧ ρ 28 ≤ 1099511627776) ∧ (∀ t, t < 4 → CR ρ t) ∧ (∀ j, j < 32 → nw ρ j = ρ j)) := hb.trans isRec_iff
  have U64 : Hid _ := U
  clear hC hb
  obtain ⟨k, hk⟩ : ∃ k, ρ 0 = k := ⟨_, rfl⟩
  have HK : Hid _ := hk
  by_cases h6 : k ≤ 6
  · have g6 : ¬ (6 : Int) < (k : Int) := by omega
    have gd : decide ((6 : Int) < (k : Int)) = false := by simp; omega
    have ek : IntKind.i64.wrap (k : Int) = k := by rw [IntKind.wrap_i64]; omega
    have K6 : ((k : Nat) : Int) ≤ 6 := by omega
    by_cases hO : isTh (ρ 0 : Nat) (ob ρ)
    · have TO : Hid (∀ {bc oc kc : Nat} {w : World} (hc : Wf w bc oc (ob ρ)), _) := fun {bc oc kc w} hc => ThingOf_is (kind := (ρ 0 : Nat)) (b := true) (bc := bc) (oc := oc) (kc := kc) ⟨fun _ => hO, fun _ => rfl⟩ hc
      rw [hk] at TO
      have HO : Hid (isTh (k : Nat) (ob ρ)) := hk ▸ hO
      clear hO hk
      have hM : Hid _ := (((Ms.nil w).bornR zf_all.symm 47 (b := w.heap.size) rfl).bornR zf_all.symm 47 (b := w.heap.size + 1) (by simp))
      have x1 := (HC.out.later hM.out.below).rwordx (show 0 < 32 by decide) HK.out
      go_enter Try.func11, Try.ntmps11
      go_wp2_with fail
      clear x1
      generalize World.alloc _ _ = W at hM ⊢
      generalize hsz : w.heap.size = n at hM ⊢
      clear hsz
      obtain ⟨y27, h27⟩ : ∃ y, ρ 27 = y := ⟨_, rfl⟩
      obtain ⟨y28, h28⟩ : ∃ y, ρ 28 = y := ⟨_, rfl⟩
      have H27 : Hid _ := h27
      have H28 : Hid _ := h28
      clear h27 h28
      replace hM := hid (hM.out.drew)
      refine wp_region_held_drew (S := fun w' => Bo w' bc (rl ρ)) (by kernel_rfl) (HC.out.later hM.out.below) (fun hH => ?_)
      generalize World.drew _ = W at hM hH  ⊢
      refine tk 0 rfl hH ?_
      simp only [Act.put, p1, p2, p3]
      refine tk 1 rfl hH ?_
      simp only [Act.put, p1, p2, p3]
      refine tk 2 rfl hH ?_ (by intro w h; have c0 := h.rwordx (show 0 < 32 by decide) HK.out; clear h; go_simp; try with_reducible rfl)
      simp only [Act.put, p1, p2, p3]
      refine tk 3 rfl hH ?_
      simp only [Act.put, p1, p2, p3]
      refine tk 4 rfl hH ?_
      simp only [Act.put, p1, p2, p3]
      refine tk 5 rfl hH ?_
      simp only [Act.put, p1, p2, p3]
      refine rd1 6 rfl (fun K hK => ?_)
      go_simp
      obtain ⟨B0, hB0⟩ : ∃ q, q = W.heap.size := ⟨_, rfl⟩
      have HB0 : Hid (n ≤ B0) := by rw [hB0]; exact hM.out.le
      refine (TO.out ⟨fun j hj => (HC.out.later hM.out.below).rword (show 1 + j < 32 by omega)⟩).mono ?_
      rintro e W ⟨v, t, x, hv, rfl, hth, hb⟩
      replace hM := hid (hM.out.laterL hb ((hth (by first | rfl | trivial)).isl K6) (Nat.le_refl _))
      clear hb
      have HV : Hid _ := hv
      have F0 : Hid (∀ j, j < 37 → (upl zf 0 (tg (k : Nat) v t x) j).oneCell' = true) := upl_one zf_one (tg_one _ hv t x)
      have TQ : Hid _ := (hth (by first | rfl | trivial)).tq
      rw [← hB0] at hM
      clear hB0
      clear hv hth
      go_wp2_with fail
      refine hK.out _ _ (HC.out.later hM.out.below) (fun hH => ?_)
      clear hK K
      try simp only [Act.put, p1, p2, p3]
      refine tk 7 rfl hH ?_
      simp only [Act.put, p1, p2, p3]
      refine tk 8 rfl hH ?_
      simp only [Act.put, p1, p2, p3]
      refine tk 9 rfl hH ?_
      simp only [Act.put, p1, p2, p3]
      refine tk 10 rfl hH ?_
      simp only [Act.put, p1, p2, p3]
      refine rd1 11 rfl (fun K hK => ?_)
      refine stO rfl ((hM.out.at 0 rfl).thereAt (o := 0) (n := (tg (k : Nat) v t x).length) (by rw [tg_length, rv_length]; decide)) (rwTh (k : Nat) HV.out t x) ?_
      replace hM := hid (hM.out.putAt 0 0 rfl (tg (k : Nat) v t x) (rv (upl zf 0 (tg (k : Nat) v t x))) ((hM.out.at 0 rfl).upl (by rw [tg_length]; decide)))
      refine hK.out _ _ (HC.out.later hM.out.below) (fun hH => ?_)
      clear hK K
      generalize World.setCells _ _ _ _ = W at hM hH ⊢
      try simp only [Act.put]
      refine tk 12 rfl hH ?_
      simp only [Act.put, p1, p2, p3]
      refine wpAnyH_done (by kernel_rfl) ?_ _
      go_wp2_with fail
      replace hM := hid (hM.out.drew)
      refine wp_region_held_drew (S := fun w' => Bo w' bc (rl ρ)) (by kernel_rfl) (HC.out.later hM.out.below) (fun hH => ?_)
      generalize World.drew _ = W at hM hH  ⊢
      refine tk 0 rfl hH ?_
      simp only [Act.put, p1, p2, p3]
      refine tk 1 rfl hH ?_
      simp only [Act.put, p1, p2, p3]
      refine tk 2 rfl hH ?_ (by intro w h; have c0 := h.rwordx (show 27 < 32 by decide) H27.out; clear h; go_simp; try with_reducible rfl)
      simp only [Act.put, p1, p2, p3]
      refine tk 3 rfl hH ?_
      simp only [Act.put, p1, p2, p3]
      refine tk 4 rfl hH ?_
      simp only [Act.put, p1, p2, p3]
      refine tk 5 rfl hH ?_ (by intro w h; have c0 := h.rwordx (show 28 < 32 by decide) H28.out; clear h; go_simp; try with_reducible rfl)
      simp only [Act.put, p1, p2, p3]
      refine tk 6 rfl hH ?_
      simp only [Act.put, p1, p2, p3]
      refine rd1 7 rfl (fun K hK => ?_)
      refine st1o rfl (hM.out.at 0 rfl) 35 (.int .u64 (y27 : Nat)) rfl sz_u (by rw [rv_length]; decide) ?_
      replace hM := hid (hM.out.put1 0 35 rfl (.int .u64 (y27 : Nat)) (rv (upv (upl zf 0 (tg (k : Nat) v t x)) 35 (.int .u64 (y27 : Nat)))) (by rw [rv_length]; decide) (rv_set _ _ (by decide)))
      refine hK.out _ _ (HC.out.later hM.out.below) (fun hH => ?_)
      clear hK K
      generalize World.setCell _ _ _ = W at hM hH ⊢
      try simp only [Act.put]
      refine tk 8 rfl hH ?_
      simp only [Act.put, p1, p2, p3]
      refine rd1 9 rfl (fun K hK => ?_)
      refine st1o rfl (hM.out.at 0 rfl) 36 (.int .u64 (y28 : Nat)) rfl sz_u (by rw [rv_length]; decide) ?_
      replace hM := hid (hM.out.put1 0 36 rfl (.int .u64 (y28 : Nat)) (rv (upv (upv (upl zf 0 (tg (k : Nat) v t x)) 35 (.int .u64 (y27 : Nat))) 36 (.int .u64 (y28 : Nat)))) (by rw [rv_length]; decide) (rv_set _ _ (by decide)))
      refine hK.out _ _ (HC.out.later hM.out.below) (fun hH => ?_)
      clear hK K
      generalize World.setCell _ _ _ = W at hM hH ⊢
      try simp only [Act.put]
      refine wpAnyH_done (by kernel_rfl) ?_ _
      have RZ0 : Hid (rv (upv (upv (upl zf 0 (tg (k : Nat) v t x)) 35 (.int .u64 (y27 : Nat))) 36 (.int .u64 (y28 : Nat))) = rv (rf (tg (k : Nat) v t x) ρ 0)) := by have h := rf_zero (tg_length (k : Nat) v t x) ρ; rw [H27.out, H28.out] at h; exact h
      rw [RZ0.out] at hM
      have FO : Hid (∀ i, ∀ j, j < 37 → (rf (tg (k : Nat) v t x) ρ i j).oneCell' = true) := fun i => rf_one (tg_one _ HV.out t x) (tg_length _ _ _ _)
      clear RZ0
      have x2 := (hM.out.at 0 rfl).rcell (j := 35) (by decide) (rf_ver.trans (by rw [H27.out]))
      have x3 := (hM.out.at 0 rfl).rcell (j := 36) (by decide) (rf_cnt.trans (by rw [H28.out]))
      by_cases g27 : y27 ≤ 1099511627776
      · have d27 : ¬ (1099511627776 : Int) < (y27 : Int) := by omega
        by_cases g28 : y28 ≤ 1099511627776
        · have d28 : ¬ (1099511627776 : Int) < (y28 : Int) := by omega
          have Y2 : Hid (y27 ≤ 1099511627776 ∧ y28 ≤ 1099511627776) := ⟨g27, g28⟩
          clear g27 g28
          obtain ⟨m, hm⟩ : ∃ q, q = W.heap.size := ⟨_, rfl⟩
          have hS : Hid (Sn (W.alloc (.map #[] 0)) m ρ 0) := by rw [hm]; exact Sn.made W ρ
          have hmm := @run_makeMap Try.prog
          replace hM := hid (hM.out.bornM hm)
          have HMM : Hid _ := hm
          clear hm
          go_wp2_with fail
          clear hmm
          clear x2 x3
          clear d27 d28
          rw [← HMM.out]
          generalize World.alloc _ _ = W at hM hS ⊢
          go_loopg [53] 4 (fun gg s53 wt => ∃ i : Nat, i ≤ 4 ∧ 4 - i ≤ gg ∧ s53 = .int .i64 i ∧ Hid (Sn wt m ρ i) ∧ Hid (∀ t, t < i → CR ρ t) ∧ Hid (Ms n w wt [(m, []), ((n + 1), rv (rf (tg (k : Nat) v t x) ρ i)), (n, rv zf)] [(B0, v, tl (k : Nat) (ob ρ))]))
          case atStart => exact ⟨0, by omega, by omega, rfl, hS, fun t ht => absurd ht (by omega), hM.out.pick [0, 1, 2]⟩
          case round =>
            clear hM hS
            obtain ⟨i, hi, hgg, rfl, hS, A, hM⟩ := hrel
            obtain ⟨W, rfl⟩ : ∃ q, q = wr := ⟨_, rfl⟩
            by_cases hlt : i < 4
            · obtain ⟨x1, hx⟩ : ∃ x, ρ (18 + i) = x := ⟨_, rfl⟩
              obtain ⟨y1, hy⟩ : ∃ y, ρ (22 + i) = y := ⟨_, rfl⟩
              have HX : Hid _ := hx
              have HY : Hid _ := hy
              have x64 : x1 < 18446744073709551616 := hx ▸ U64.out _ (by omega)
              have y64 : y1 < 18446744073709551616 := hy ▸ U64.out _ (by omega)
              have hi1 : (i : Int) < 4 := by omega
              have hi0 : (0 : Int) ≤ (i : Int) := by omega
              have fa0 : (0 : Int) ≤ 18 + (i : Int) := by omega
              have fa1 : 18 + (i : Int) < 32 := by omega
              have fan : Hid (18 + (i : Int) = ((18 + i : Nat) : Int)) := (by omega : 18 + (i : Int) = ((18 + i : Nat) : Int))
              have fax : 18 + i < 32 := by omega
              have fb0 : (0 : Int) ≤ 22 + (i : Int) := by omega
              have fb1 : 22 + (i : Int) < 32 := by omega
              have fbn : Hid (22 + (i : Int) = ((22 + i : Nat) : Int)) := (by omega : 22 + (i : Int) = ((22 + i : Nat) : Int))
              have fbx : 22 + i < 32 := by omega
              clear hx hy
              by_cases hx0 : x1 = 0
              · subst hx0
                by_cases hy0 : y1 = 0
                · subst hy0
                  have A1 : Hid (CR ρ i) := Or.inl ⟨HX.out, HY.out⟩
                  have gc0 : decide ((y28 : Int) < 0) = false := by simp
                  have gc1 : ¬ (y28 : Int) < 0 := by omega
                  have FB : Hid (∀ w, _) := fun w => refBit_yes (ρ 26) i w (U64.out 26 (by decide)) (by omega)
                  obtain ⟨z26, h26⟩ : ∃ z, ρ 26 = z := ⟨_, rfl⟩
                  have H26 : Hid _ := h26
                  have RN : Hid _ := rf_next (th := tg (k : Nat) v t x) (ρ := ρ) hlt
                  rw [h26] at FB RN
                  clear h26
                  rw [HX.out, HY.out] at RN
                  have RN : Hid (rv (upv (upv (upl (rf (tg (k : Nat) v t x) ρ i) (19 + i * 2) [.int .i64 0, .int .i64 0]) (27 + i) (.int .u64 (0 : Nat))) (31 + i) (.int .i64 ((z26.testBit i).toNat : Nat))) = rv (rf (tg (k : Nat) v t x) ρ (i + 1))) := RN.out
                  obtain ⟨bt, hbt⟩ : ∃ q, z26.testBit i = q := ⟨_, rfl⟩
                  rw [hbt] at FB RN
                  clear hbt
                  have fcx : 19 + i * 2 + 2 ≤ 37 := by omega
                  have fdx : 27 + i < 37 := by omega
                  have fex : 31 + i < 37 := by omega
                  have TG0 : Hid ((upv (upl (rf (tg (k : Nat) v t x) ρ i) (19 + i * 2) [.int .i64 0, .int .i64 0]) (27 + i) (.int .u64 (0 : Nat))) (31 + i) = .int .i64 0) := by show _ = _; unfold upv upl; rw [if_neg (by omega), if_neg (by simp only [List.length_cons, List.length_nil]; omega)]; exact rf_tog_old hlt
                  have fa2 : IntKind.i64.wrap (18 + (i : Int)) = 18 + (i : Int) := (ixw fa0 (Int.lt_of_lt_of_le fa1 (by decide))).1
                  have fb2 : IntKind.i64.wrap (22 + (i : Int)) = 22 + (i : Int) := (ixw fb0 (Int.lt_of_lt_of_le fb1 (by decide))).1
                  have x4 := (HC.out.later hM.out.below).rwordx fax HX.out
                  have x5 := (HC.out.later hM.out.below).rwordx fbx HY.out
                  go_wp2_with fail
                  clear x4 x5
                  refine (rtold_no (x := 0) (by decide) aw_zero _).mono ?_
                  rintro e W ⟨rfl, hb⟩
                  replace hM := hid (hM.out.later hb)
                  replace hS := hid (Sn.later hS.out hb)
                  clear hb
                  obtain ⟨bx6, hbx6⟩ : ∃ q, q = W.heap.size := ⟨_, rfl⟩
                  replace hM := hid (hM.out.born [.int .i64 0, .int .i64 0] 42 (b := bx6) hbx6)
                  have Hbx6 : Hid _ := hbx6
                  clear hbx6
                  replace hS := hid (hS.out.new (.cells [.int .i64 0, .int .i64 0].toArray 42))
                  go_wp2_with (first
                    | (rw [← Hbx6.out]; refine sR rfl (hM.out.at 0 rfl) rfl ((rwA 0 0).len (rwA _ _)) (rwA _ _) ?_
                       replace hS := hid (hS.out.asideL (hM.out.ne 1 0 rfl rfl (by decide)) 0 [.int .i64 0, .int .i64 0])
                       replace hM := hid (hM.out.put 0 rfl [.int .i64 0, .int .i64 0] ((rwA 0 0).len (rwA _ _)))
                       generalize World.setCells _ _ _ _ = W at hM hS ⊢
                       have x7 := (HC.out.later hM.out.below).rwordx fax HX.out
                       have x8 := (HC.out.later hM.out.below).rwordx fbx HY.out
                       have c9 := hM.out.cell 0 0 rfl rfl
                       have c10 := hM.out.cell 0 1 rfl rfl)
                    | (refine sR rfl (hM.out.at 0 rfl) rfl ((rwA _ _).len (rwA 0 0)) (rwA 0 0) ?_
                       replace hS := hid (hS.out.asideL (hM.out.ne 1 0 rfl rfl (by decide)) 0 [.int .i64 0, .int .i64 0])
                       replace hM := hid (hM.out.put 0 rfl [.int .i64 0, .int .i64 0] ((rwA _ _).len (rwA 0 0)))
                       generalize World.setCells _ _ _ _ = W at hM hS ⊢
                       clear x7 x8 c9 c10
                       have x11 := (HC.out.later hM.out.below).rwordx fax HX.out
                       have x12 := (HC.out.later hM.out.below).rwordx fbx HY.out
                       have c13 := hM.out.cell 0 0 rfl rfl
                       have c14 := hM.out.cell 0 1 rfl rfl
                       have x15 := (hM.out.at 2 rfl).rcell (j := 36) (by decide) (rf_cnt.trans (by rw [H28.out]))
                       obtain ⟨W2, mu, hS2, hgr⟩ := hS.out.add hi (U64.out _ (by omega))
                       rw [HY.out] at mu
                       replace mu : (Instr.mapUpdate 68 (.map (some m)) (.int .u64 0) (.bool true)).run Try.prog W = .ok () W2 := mu
                       have hM2 := hid (hM.out.turned 1 rfl hgr hS2.froz)
                       have HS2 : Hid (Sn W2 m ρ (i + 1)) := hS2
                       clear hS2 hgr
                       have cq0 := hM2.out.cell 0 0 rfl rfl
                       have cq1 := hM2.out.cell 0 1 rfl rfl)
                    | (refine sO rfl ((hM2.out.at 2 rfl).thereAt (o := 19 + i * 2) (n := ([.int .i64 0, .int .i64 0] : List Value).length) (by rw [rv_length]; exact fcx)) rfl (rwA 0 0) ?_
                       replace hS := hid (HS2.out.asideL (hM2.out.ne 1 2 rfl rfl (by decide)) (19 + i * 2) [.int .i64 0, .int .i64 0])
                       replace hM := hid (hM2.out.putAt 2 (19 + i * 2) rfl [.int .i64 0, .int .i64 0] (rv (upl (rf (tg (k : Nat) v t x) ρ i) (19 + i * 2) [.int .i64 0, .int .i64 0])) ((hM2.out.at 2 rfl).upl fcx))
                       generalize World.setCells _ _ _ _ = W at hM hS ⊢
                       clear hM2 HS2 mu cq0 cq1)
                    | (refine s1 rfl (hM.out.at 2 rfl) (27 + i) rfl (.int .u64 (0 : Nat)) rfl sz_u ?_ (by rw [rv_length]; exact fdx)
                       replace hS := hid (hS.out.aside1 (j := (27 + i)) (hM.out.ne 1 2 rfl rfl (by decide)) (.int .u64 (0 : Nat)))
                       replace hM := hid (hM.out.put1 2 (27 + i) rfl (.int .u64 (0 : Nat)) (rv (upv (upl (rf (tg (k : Nat) v t x) ρ i) (19 + i * 2) [.int .i64 0, .int .i64 0]) (27 + i) (.int .u64 (0 : Nat)))) (by rw [rv_length]; exact fdx) (rv_set _ _ fdx))
                       generalize World.setCell _ _ _ = W at hM hS ⊢
                       have x16 := (HC.out.later hM.out.below).rwordx (show 26 < 32 by decide) H26.out))
                  refine (FB.out _).mono ?_
                  rintro e W ⟨rfl, hg⟩
                  have hb := hg.below
                  clear hg
                  replace hS := hid (hS.out.later hb)
                  replace hM := hid (hM.out.later hb)
                  clear hb
                  clear x11 x12 c13 c14 x15 x16
                  rcases bt with _ | _
                  · have R2 := RN.out
                    rw [show (((false).toNat : Nat) : Int) = 0 from rfl, rf_tog0 hlt _ TG0.out] at R2
                    rw [R2] at hM
                    clear R2 RN TG0
                    go_wp2
                    replace hS : Hid (Sn _ m ρ (i + 1)) := hS
                    go_roundg (4 - (i + 1))
                    case measure => omega
                    case rel => exact ⟨i + 1, by omega, by omega, by go_num, hS, fun q hq => by by_cases e : q = i; (subst e; exact A1.out); exact A.out q (by omega), hM.out.pick [1, 2, 3]⟩
                  · go_wp2_with (first
                      | (refine s1 rfl (hM.out.at 2 rfl) (31 + i) rfl (.int .i64 1) rfl sz_i ?_ (by rw [rv_length]; exact fex)
                         replace hS := hid (hS.out.aside1 (j := (31 + i)) (hM.out.ne 1 2 rfl rfl (by decide)) (.int .i64 1))
                         replace hM := hid (hM.out.put1 2 (31 + i) rfl (.int .i64 1) (rv (upv (upv (upl (rf (tg (k : Nat) v t x) ρ i) (19 + i * 2) [.int .i64 0, .int .i64 0]) (27 + i) (.int .u64 (0 : Nat))) (31 + i) (.int .i64 1))) (by rw [rv_length]; exact fex) (rv_set _ _ fex))
                         generalize World.setCell _ _ _ = W at hM hS ⊢))
                    have R2 := RN.out
                    rw [show (((true).toNat : Nat) : Int) = 1 from rfl] at R2
                    rw [R2] at hM
                    clear R2 RN TG0
                    go_roundg (4 - (i + 1))
                    case measure => omega
                    case rel => exact ⟨i + 1, by omega, by omega, by go_num, hS, fun q hq => by by_cases e : q = i; (subst e; exact A1.out); exact A.out q (by omega), hM.out.pick [1, 2, 3]⟩
                · have fy : ((y1 : Nat) : Int) ≠ 0 := by omega
                  have gy : (((y1 : Nat) : Int) == 0) = false := by simpa using hy0
                  have eb : b = false := by cases b with | false => rfl | true => exact absurd (HBR.out.1 rfl) (fun h => by rcases h.2.2.1 i hlt with ⟨_, e⟩ | ⟨e, _⟩; exact hy0 (HY.out.symm.trans e); rw [HX.out] at e; exact aw_zero e)
                  subst eb
                  have fa2 : IntKind.i64.wrap (18 + (i : Int)) = 18 + (i : Int) := (ixw fa0 (Int.lt_of_lt_of_le fa1 (by decide))).1
                  have fb2 : IntKind.i64.wrap (22 + (i : Int)) = 22 + (i : Int) := (ixw fb0 (Int.lt_of_lt_of_le fb1 (by decide))).1
                  have x4 := (HC.out.later hM.out.below).rwordx fax HX.out
                  have x5 := (HC.out.later hM.out.below).rwordx fbx HY.out
                  go_wp2_with fail
                  clear x4 x5
                  refine (rtold_no (x := 0) (by decide) aw_zero _).mono ?_
                  rintro e W ⟨rfl, hb⟩
                  replace hM := hid (hM.out.later hb)
                  replace hS := hid (Sn.later hS.out hb)
                  clear hb
                  obtain ⟨bx6, hbx6⟩ : ∃ q, q = W.heap.size := ⟨_, rfl⟩
                  replace hM := hid (hM.out.born [.int .i64 0, .int .i64 0] 42 (b := bx6) hbx6)
                  have Hbx6 : Hid _ := hbx6
                  clear hbx6
                  replace hS := hid (hS.out.new (.cells [.int .i64 0, .int .i64 0].toArray 42))
                  go_wp2_with (first
                    | (rw [← Hbx6.out]; refine sR rfl (hM.out.at 0 rfl) rfl ((rwA 0 0).len (rwA 0 0)) (rwA 0 0) ?_
                       replace hS := hid (hS.out.asideL (hM.out.ne 1 0 rfl rfl (by decide)) 0 [.int .i64 0, .int .i64 0])
                       replace hM := hid (hM.out.put 0 rfl [.int .i64 0, .int .i64 0] ((rwA 0 0).len (rwA 0 0)))
                       generalize World.setCells _ _ _ _ = W at hM hS ⊢
                       have x7 := (HC.out.later hM.out.below).rwordx fax HX.out
                       have x8 := (HC.out.later hM.out.below).rwordx fbx HY.out
                       have c9 := hM.out.cell 0 0 rfl rfl
                       have c10 := hM.out.cell 0 1 rfl rfl)
                    | (refine sR rfl (hM.out.at 0 rfl) rfl ((rwA 0 0).len (rwA 0 0)) (rwA 0 0) ?_
                       replace hS := hid (hS.out.asideL (hM.out.ne 1 0 rfl rfl (by decide)) 0 [.int .i64 0, .int .i64 0])
                       replace hM := hid (hM.out.put 0 rfl [.int .i64 0, .int .i64 0] ((rwA 0 0).len (rwA 0 0)))
                       generalize World.setCells _ _ _ _ = W at hM hS ⊢
                       clear x7 x8 c9 c10
                       have x11 := (HC.out.later hM.out.below).rwordx fax HX.out
                       have x12 := (HC.out.later hM.out.below).rwordx fbx HY.out
                       have c13 := hM.out.cell 0 0 rfl rfl
                       have c14 := hM.out.cell 0 1 rfl rfl)
                    | (refine lR rfl (hM.out.at 2 rfl) rfl (rwV (FO.out i)) ?_)
                    | (refine sR rfl (hM.out.at 3 rfl) rfl ((rwV zf_one).len (rwV (FO.out i))) (rwV (FO.out i)) ?_
                       replace hS := hid (hS.out.asideL (hM.out.ne 1 3 rfl rfl (by decide)) 0 (rv (rf (tg (k : Nat) v t x) ρ i)))
                       replace hM := hid (hM.out.put 3 rfl (rv (rf (tg (k : Nat) v t x) ρ i)) ((rwV zf_one).len (rwV (FO.out i))))
                       generalize World.setCells _ _ _ _ = W at hM hS ⊢))
                  first | exact bodyPost_ret (res1s Try.results11 (hM.out.at 3 rfl) (rwV (FO.out i)) (.bool false)) rfl ⟨_, (FO.out i), rfl, hM.out.below⟩ | exact bodyPost_ret (res1s Try.results11 (hM.out.at 3 rfl) (rwV (FO.out i)) (.bool false)) rfl ⟨_, (FO.out i), rfl, fun h => (by cases h), hM.out.below⟩
              · have fx : ((x1 : Nat) : Int) ≠ 0 := by omega
                have gx : (((x1 : Nat) : Int) == 0) = false := by simpa using hx0
                by_cases ha : Aw x1
                · have RT : Hid (∀ w : World, _) := fun w => rtold_yes x64 ha w
                  have xa1 : ((x1 / 4294967296 : Nat) : Int) ≠ 0 := by have := ha.1; omega
                  have xa2 : (((x1 / 4294967296 : Nat) : Int) == 0) = false := by simpa using xa1
                  by_cases hy0 : y1 = 0
                  · have eb : b = false := by cases b with | false => rfl | true => exact absurd (HBR.out.1 rfl) (fun h => by rcases h.2.2.1 i hlt with ⟨e, _⟩ | ⟨_, e, _⟩; exact hx0 (HX.out.symm.trans e); exact e (HY.out.trans hy0))
                    subst eb
                    obtain ⟨xa, hxa⟩ : ∃ q, x1 / 4294967296 = q := ⟨_, rfl⟩
                    obtain ⟨xb, hxb⟩ : ∃ q, x1 % 4294967296 = q := ⟨_, rfl⟩
                    have HXA : Hid (ρ (18 + i) / 4294967296 = xa ∧ ρ (18 + i) % 4294967296 = xb) := by show _ ∧ _; rw [HX.out]; exact ⟨hxa, hxb⟩
                    rw [hxa, hxb] at RT
                    rw [hxa] at xa1 xa2
                    clear hxa hxb ha hx0
                    subst hy0
                    have fa2 : IntKind.i64.wrap (18 + (i : Int)) = 18 + (i : Int) := (ixw fa0 (Int.lt_of_lt_of_le fa1 (by decide))).1
                    have fb2 : IntKind.i64.wrap (22 + (i : Int)) = 22 + (i : Int) := (ixw fb0 (Int.lt_of_lt_of_le fb1 (by decide))).1
                    have x4 := (HC.out.later hM.out.below).rwordx fax HX.out
                    have x5 := (HC.out.later hM.out.below).rwordx fbx HY.out
                    go_wp2_with fail
                    clear x4 x5
                    refine (RT.out _).mono ?_
                    rintro e W ⟨rfl, hb⟩
                    replace hM := hid (hM.out.later hb)
                    replace hS := hid (Sn.later hS.out hb)
                    clear hb
                    obtain ⟨bx6, hbx6⟩ : ∃ q, q = W.heap.size := ⟨_, rfl⟩
                    replace hM := hid (hM.out.born [.int .i64 0, .int .i64 0] 42 (b := bx6) hbx6)
                    have Hbx6 : Hid _ := hbx6
                    clear hbx6
                    replace hS := hid (hS.out.new (.cells [.int .i64 0, .int .i64 0].toArray 42))
                    go_wp2_with (first
                      | (rw [← Hbx6.out]; refine sR rfl (hM.out.at 0 rfl) rfl ((rwA 0 0).len (rwA _ _)) (rwA _ _) ?_
                         replace hS := hid (hS.out.asideL (hM.out.ne 1 0 rfl rfl (by decide)) 0 [.int .i64 (xa : Nat), .int .i64 (xb : Nat)])
                         replace hM := hid (hM.out.put 0 rfl [.int .i64 (xa : Nat), .int .i64 (xb : Nat)] ((rwA 0 0).len (rwA _ _)))
                         generalize World.setCells _ _ _ _ = W at hM hS ⊢
                         have x7 := (HC.out.later hM.out.below).rwordx fax HX.out
                         have x8 := (HC.out.later hM.out.below).rwordx fbx HY.out
                         have c9 := hM.out.cell 0 0 rfl rfl
                         have c10 := hM.out.cell 0 1 rfl rfl
                         have x11 := (hM.out.at 2 rfl).rcell (j := 36) (by decide) (rf_cnt.trans (by rw [H28.out])))
                      | (refine lR rfl (hM.out.at 2 rfl) rfl (rwV (FO.out i)) ?_)
                      | (refine sR rfl (hM.out.at 3 rfl) rfl ((rwV zf_one).len (rwV (FO.out i))) (rwV (FO.out i)) ?_
                         replace hS := hid (hS.out.asideL (hM.out.ne 1 3 rfl rfl (by decide)) 0 (rv (rf (tg (k : Nat) v t x) ρ i)))
                         replace hM := hid (hM.out.put 3 rfl (rv (rf (tg (k : Nat) v t x) ρ i)) ((rwV zf_one).len (rwV (FO.out i))))
                         generalize World.setCells _ _ _ _ = W at hM hS ⊢))
                    first | exact bodyPost_ret (res1s Try.results11 (hM.out.at 3 rfl) (rwV (FO.out i)) (.bool false)) rfl ⟨_, (FO.out i), rfl, hM.out.below⟩ | exact bodyPost_ret (res1s Try.results11 (hM.out.at 3 rfl) (rwV (FO.out i)) (.bool false)) rfl ⟨_, (FO.out i), rfl, fun h => (by cases h), hM.out.below⟩
                  · by_cases hyc : y1 ≤ y28
                    · rcases hs : seenB ρ i y1 with _ | _
                      · have HSB : Hid _ := hs
                        have A1 : Hid (CR ρ i) := Or.inr ⟨by rw [HX.out]; exact ha, by rw [HY.out]; exact hy0, by rw [HY.out, H28.out]; exact hyc, fun q hq e => by
                          have : seenB ρ i y1 = true := seenB_iff.2 ⟨q, hq, e.trans HY.out⟩
                          rw [HSB.out] at this; exact absurd this (by decide)⟩
                        obtain ⟨xa, hxa⟩ : ∃ q, x1 / 4294967296 = q := ⟨_, rfl⟩
                        obtain ⟨xb, hxb⟩ : ∃ q, x1 % 4294967296 = q := ⟨_, rfl⟩
                        have HXA : Hid (ρ (18 + i) / 4294967296 = xa ∧ ρ (18 + i) % 4294967296 = xb) := by show _ ∧ _; rw [HX.out]; exact ⟨hxa, hxb⟩
                        rw [hxa, hxb] at RT
                        rw [hxa] at xa1 xa2
                        clear hxa hxb ha hx0
                        have fy : ((y1 : Nat) : Int) ≠ 0 := by omega
                        have gy : (((y1 : Nat) : Int) == 0) = false := by simpa using hy0
                        have gc : ¬ (y28 : Int) < (y1 : Int) := by omega
                        have gc2 : decide ((y28 : Int) < (y1 : Int)) = false := by simp; omega
                        have g0 : (0 : Int) < (y1 : Int) := by omega
                        clear hyc hy0
                        clear hs
                        have FB : Hid (∀ w, _) := fun w => refBit_yes (ρ 26) i w (U64.out 26 (by decide)) (by omega)
                        obtain ⟨z26, h26⟩ : ∃ z, ρ 26 = z := ⟨_, rfl⟩
                        have H26 : Hid _ := h26
                        have RN : Hid _ := rf_next (th := tg (k : Nat) v t x) (ρ := ρ) hlt
                        rw [h26] at FB RN
                        clear h26
                        rw [HXA.out.1, HXA.out.2, HY.out] at RN
                        obtain ⟨bt, hbt⟩ : ∃ q, z26.testBit i = q := ⟨_, rfl⟩
                        rw [hbt] at FB RN
                        clear hbt
                        have fcx : 19 + i * 2 + 2 ≤ 37 := by omega
                        have fdx : 27 + i < 37 := by omega
                        have fex : 31 + i < 37 := by omega
                        have TG0 : Hid ((upv (upl (rf (tg (k : Nat) v t x) ρ i) (19 + i * 2) [.int .i64 (xa : Nat), .int .i64 (xb : Nat)]) (27 + i) (.int .u64 (y1 : Nat))) (31 + i) = .int .i64 0) := by show _ = _; unfold upv upl; rw [if_neg (by omega), if_neg (by simp only [List.length_cons, List.length_nil]; omega)]; exact rf_tog_old hlt
                        have fa2 : IntKind.i64.wrap (18 + (i : Int)) = 18 + (i : Int) := (ixw fa0 (Int.lt_of_lt_of_le fa1 (by decide))).1
                        have fb2 : IntKind.i64.wrap (22 + (i : Int)) = 22 + (i : Int) := (ixw fb0 (Int.lt_of_lt_of_le fb1 (by decide))).1
                        have x4 := (HC.out.later hM.out.below).rwordx fax HX.out
                        have x5 := (HC.out.later hM.out.below).rwordx fbx HY.out
                        go_wp2_with fail
                        clear x4 x5
                        refine (RT.out _).mono ?_
                        rintro e W ⟨rfl, hb⟩
                        replace hM := hid (hM.out.later hb)
                        replace hS := hid (Sn.later hS.out hb)
                        clear hb
                        obtain ⟨bx6, hbx6⟩ : ∃ q, q = W.heap.size := ⟨_, rfl⟩
                        replace hM := hid (hM.out.born [.int .i64 0, .int .i64 0] 42 (b := bx6) hbx6)
                        have Hbx6 : Hid _ := hbx6
                        clear hbx6
                        replace hS := hid (hS.out.new (.cells [.int .i64 0, .int .i64 0].toArray 42))
                        go_wp2_with (first
                          | (rw [← Hbx6.out]; refine sR rfl (hM.out.at 0 rfl) rfl ((rwA 0 0).len (rwA _ _)) (rwA _ _) ?_
                             replace hS := hid (hS.out.asideL (hM.out.ne 1 0 rfl rfl (by decide)) 0 [.int .i64 (xa : Nat), .int .i64 (xb : Nat)])
                             replace hM := hid (hM.out.put 0 rfl [.int .i64 (xa : Nat), .int .i64 (xb : Nat)] ((rwA 0 0).len (rwA _ _)))
                             generalize World.setCells _ _ _ _ = W at hM hS ⊢
                             have x7 := (HC.out.later hM.out.below).rwordx fax HX.out
                             have x8 := (HC.out.later hM.out.below).rwordx fbx HY.out
                             have c9 := hM.out.cell 0 0 rfl rfl
                             have c10 := hM.out.cell 0 1 rfl rfl
                             have x11 := (hM.out.at 2 rfl).rcell (j := 36) (by decide) (rf_cnt.trans (by rw [H28.out]))
                             have lk := hS.out.look y64 HSB.out
                             obtain ⟨W2, mu, hS2, hgr⟩ := hS.out.add hi (U64.out _ (by omega))
                             rw [HY.out] at mu
                             have hM2 := hid (hM.out.turned 1 rfl hgr hS2.froz)
                             have HS2 : Hid (Sn W2 m ρ (i + 1)) := hS2
                             clear hS2 hgr
                             have cq0 := hM2.out.cell 0 0 rfl rfl
                             have cq1 := hM2.out.cell 0 1 rfl rfl)
                          | (refine sO rfl ((hM2.out.at 2 rfl).thereAt (o := 19 + i * 2) (n := ([.int .i64 (xa : Nat), .int .i64 (xb : Nat)] : List Value).length) (by rw [rv_length]; exact fcx)) rfl (rwA (xa : Nat) (xb : Nat)) ?_
                             replace hS := hid (HS2.out.asideL (hM2.out.ne 1 2 rfl rfl (by decide)) (19 + i * 2) [.int .i64 (xa : Nat), .int .i64 (xb : Nat)])
                             replace hM := hid (hM2.out.putAt 2 (19 + i * 2) rfl [.int .i64 (xa : Nat), .int .i64 (xb : Nat)] (rv (upl (rf (tg (k : Nat) v t x) ρ i) (19 + i * 2) [.int .i64 (xa : Nat), .int .i64 (xb : Nat)])) ((hM2.out.at 2 rfl).upl fcx))
                             generalize World.setCells _ _ _ _ = W at hM hS ⊢
                             clear hM2 HS2 mu cq0 cq1 lk)
                          | (refine s1 rfl (hM.out.at 2 rfl) (27 + i) rfl (.int .u64 (y1 : Nat)) rfl sz_u ?_ (by rw [rv_length]; exact fdx)
                             replace hS := hid (hS.out.aside1 (j := (27 + i)) (hM.out.ne 1 2 rfl rfl (by decide)) (.int .u64 (y1 : Nat)))
                             replace hM := hid (hM.out.put1 2 (27 + i) rfl (.int .u64 (y1 : Nat)) (rv (upv (upl (rf (tg (k : Nat) v t x) ρ i) (19 + i * 2) [.int .i64 (xa : Nat), .int .i64 (xb : Nat)]) (27 + i) (.int .u64 (y1 : Nat)))) (by rw [rv_length]; exact fdx) (rv_set _ _ fdx))
                             generalize World.setCell _ _ _ = W at hM hS ⊢
                             have x12 := (HC.out.later hM.out.below).rwordx (show 26 < 32 by decide) H26.out))
                        refine (FB.out _).mono ?_
                        rintro e W ⟨rfl, hg⟩
                        have hb := hg.below
                        clear hg
                        replace hS := hid (hS.out.later hb)
                        replace hM := hid (hM.out.later hb)
                        clear hb
                        clear x7 x8 c9 c10 x11 x12
                        rcases bt with _ | _
                        · have R2 := RN.out
                          rw [show (((false).toNat : Nat) : Int) = 0 from rfl, rf_tog0 hlt _ TG0.out] at R2
                          rw [R2] at hM
                          clear R2 RN TG0
                          go_wp2
                          replace hS : Hid (Sn _ m ρ (i + 1)) := hS
                          go_roundg (4 - (i + 1))
                          case measure => omega
                          case rel => exact ⟨i + 1, by omega, by omega, by go_num, hS, fun q hq => by by_cases e : q = i; (subst e; exact A1.out); exact A.out q (by omega), hM.out.pick [1, 2, 3]⟩
                        · go_wp2_with (first
                            | (refine s1 rfl (hM.out.at 2 rfl) (31 + i) rfl (.int .i64 1) rfl sz_i ?_ (by rw [rv_length]; exact fex)
                               replace hS := hid (hS.out.aside1 (j := (31 + i)) (hM.out.ne 1 2 rfl rfl (by decide)) (.int .i64 1))
                               replace hM := hid (hM.out.put1 2 (31 + i) rfl (.int .i64 1) (rv (upv (upv (upl (rf (tg (k : Nat) v t x) ρ i) (19 + i * 2) [.int .i64 (xa : Nat), .int .i64 (xb : Nat)]) (27 + i) (.int .u64 (y1 : Nat))) (31 + i) (.int .i64 1))) (by rw [rv_length]; exact fex) (rv_set _ _ fex))
                               generalize World.setCell _ _ _ = W at hM hS ⊢))
                          have R2 := RN.out
                          rw [show (((true).toNat : Nat) : Int) = 1 from rfl] at R2
                          rw [R2] at hM
                          clear R2 RN TG0
                          go_roundg (4 - (i + 1))
                          case measure => omega
                          case rel => exact ⟨i + 1, by omega, by omega, by go_num, hS, fun q hq => by by_cases e : q = i; (subst e; exact A1.out); exact A.out q (by omega), hM.out.pick [1, 2, 3]⟩
                      · have HSB : Hid _ := hs
                        have eb : b = false := by cases b with | false => rfl | true => exact absurd (HBR.out.1 rfl) (fun h => by rcases h.2.2.1 i hlt with ⟨e, _⟩ | ⟨_, _, _, e⟩; exact hx0 (HX.out.symm.trans e); obtain ⟨q, hq, h2⟩ := seenB_iff.1 HSB.out; exact e q hq (h2.trans HY.out.symm))
                        subst eb
                        obtain ⟨xa, hxa⟩ : ∃ q, x1 / 4294967296 = q := ⟨_, rfl⟩
                        obtain ⟨xb, hxb⟩ : ∃ q, x1 % 4294967296 = q := ⟨_, rfl⟩
                        have HXA : Hid (ρ (18 + i) / 4294967296 = xa ∧ ρ (18 + i) % 4294967296 = xb) := by show _ ∧ _; rw [HX.out]; exact ⟨hxa, hxb⟩
                        rw [hxa, hxb] at RT
                        rw [hxa] at xa1 xa2
                        clear hxa hxb ha hx0
                        have fy : ((y1 : Nat) : Int) ≠ 0 := by omega
                        have gy : (((y1 : Nat) : Int) == 0) = false := by simpa using hy0
                        have gc : ¬ (y28 : Int) < (y1 : Int) := by omega
                        have gc2 : decide ((y28 : Int) < (y1 : Int)) = false := by simp; omega
                        have g0 : (0 : Int) < (y1 : Int) := by omega
                        clear hyc hy0
                        clear hs
                        have fa2 : IntKind.i64.wrap (18 + (i : Int)) = 18 + (i : Int) := (ixw fa0 (Int.lt_of_lt_of_le fa1 (by decide))).1
                        have fb2 : IntKind.i64.wrap (22 + (i : Int)) = 22 + (i : Int) := (ixw fb0 (Int.lt_of_lt_of_le fb1 (by decide))).1
                        have x4 := (HC.out.later hM.out.below).rwordx fax HX.out
                        have x5 := (HC.out.later hM.out.below).rwordx fbx HY.out
                        go_wp2_with fail
                        clear x4 x5
                        refine (RT.out _).mono ?_
                        rintro e W ⟨rfl, hb⟩
                        replace hM := hid (hM.out.later hb)
                        replace hS := hid (Sn.later hS.out hb)
                        clear hb
                        obtain ⟨bx6, hbx6⟩ : ∃ q, q = W.heap.size := ⟨_, rfl⟩
                        replace hM := hid (hM.out.born [.int .i64 0, .int .i64 0] 42 (b := bx6) hbx6)
                        have Hbx6 : Hid _ := hbx6
                        clear hbx6
                        replace hS := hid (hS.out.new (.cells [.int .i64 0, .int .i64 0].toArray 42))
                        go_wp2_with (first
                          | (rw [← Hbx6.out]; refine sR rfl (hM.out.at 0 rfl) rfl ((rwA 0 0).len (rwA _ _)) (rwA _ _) ?_
                             replace hS := hid (hS.out.asideL (hM.out.ne 1 0 rfl rfl (by decide)) 0 [.int .i64 (xa : Nat), .int .i64 (xb : Nat)])
                             replace hM := hid (hM.out.put 0 rfl [.int .i64 (xa : Nat), .int .i64 (xb : Nat)] ((rwA 0 0).len (rwA _ _)))
                             generalize World.setCells _ _ _ _ = W at hM hS ⊢
                             have x7 := (HC.out.later hM.out.below).rwordx fax HX.out
                             have x8 := (HC.out.later hM.out.below).rwordx fbx HY.out
                             have c9 := hM.out.cell 0 0 rfl rfl
                             have c10 := hM.out.cell 0 1 rfl rfl
                             have x11 := (hM.out.at 2 rfl).rcell (j := 36) (by decide) (rf_cnt.trans (by rw [H28.out]))
                             have lk := hS.out.look y64 HSB.out)
                          | (refine lR rfl (hM.out.at 2 rfl) rfl (rwV (FO.out i)) ?_)
                          | (refine sR rfl (hM.out.at 3 rfl) rfl ((rwV zf_one).len (rwV (FO.out i))) (rwV (FO.out i)) ?_
                             replace hS := hid (hS.out.asideL (hM.out.ne 1 3 rfl rfl (by decide)) 0 (rv (rf (tg (k : Nat) v t x) ρ i)))
                             replace hM := hid (hM.out.put 3 rfl (rv (rf (tg (k : Nat) v t x) ρ i)) ((rwV zf_one).len (rwV (FO.out i))))
                             generalize World.setCells _ _ _ _ = W at hM hS ⊢))
                        first | exact bodyPost_ret (res1s Try.results11 (hM.out.at 3 rfl) (rwV (FO.out i)) (.bool false)) rfl ⟨_, (FO.out i), rfl, hM.out.below⟩ | exact bodyPost_ret (res1s Try.results11 (hM.out.at 3 rfl) (rwV (FO.out i)) (.bool false)) rfl ⟨_, (FO.out i), rfl, fun h => (by cases h), hM.out.below⟩
                    · have eb : b = false := by cases b with | false => rfl | true => exact absurd (HBR.out.1 rfl) (fun h => by rcases h.2.2.1 i hlt with ⟨e, _⟩ | ⟨_, _, e, _⟩; exact hx0 (HX.out.symm.trans e); rw [HY.out, H28.out] at e; exact hyc e)
                      subst eb
                      obtain ⟨xa, hxa⟩ : ∃ q, x1 / 4294967296 = q := ⟨_, rfl⟩
                      obtain ⟨xb, hxb⟩ : ∃ q, x1 % 4294967296 = q := ⟨_, rfl⟩
                      have HXA : Hid (ρ (18 + i) / 4294967296 = xa ∧ ρ (18 + i) % 4294967296 = xb) := by show _ ∧ _; rw [HX.out]; exact ⟨hxa, hxb⟩
                      rw [hxa, hxb] at RT
                      rw [hxa] at xa1 xa2
                      clear hxa hxb ha hx0
                      have fy : ((y1 : Nat) : Int) ≠ 0 := by omega
                      have gy : (((y1 : Nat) : Int) == 0) = false := by simpa using hy0
                      have gc : (y28 : Int) < (y1 : Int) := by omega
                      clear hyc hy0
                      have fa2 : IntKind.i64.wrap (18 + (i : Int)) = 18 + (i : Int) := (ixw fa0 (Int.lt_of_lt_of_le fa1 (by decide))).1
                      have fb2 : IntKind.i64.wrap (22 + (i : Int)) = 22 + (i : Int) := (ixw fb0 (Int.lt_of_lt_of_le fb1 (by decide))).1
                      have x4 := (HC.out.later hM.out.below).rwordx fax HX.out
                      have x5 := (HC.out.later hM.out.below).rwordx fbx HY.out
                      go_wp2_with fail
                      clear x4 x5
                      refine (RT.out _).mono ?_
                      rintro e W ⟨rfl, hb⟩
                      replace hM := hid (hM.out.later hb)
                      replace hS := hid (Sn.later hS.out hb)
                      clear hb
                      obtain ⟨bx6, hbx6⟩ : ∃ q, q = W.heap.size := ⟨_, rfl⟩
                      replace hM := hid (hM.out.born [.int .i64 0, .int .i64 0] 42 (b := bx6) hbx6)
                      have Hbx6 : Hid _ := hbx6
                      clear hbx6
                      replace hS := hid (hS.out.new (.cells [.int .i64 0, .int .i64 0].toArray 42))
                      go_wp2_with (first
                        | (rw [← Hbx6.out]; refine sR rfl (hM.out.at 0 rfl) rfl ((rwA 0 0).len (rwA _ _)) (rwA _ _) ?_
                           replace hS := hid (hS.out.asideL (hM.out.ne 1 0 rfl rfl (by decide)) 0 [.int .i64 (xa : Nat), .int .i64 (xb : Nat)])
                           replace hM := hid (hM.out.put 0 rfl [.int .i64 (xa : Nat), .int .i64 (xb : Nat)] ((rwA 0 0).len (rwA _ _)))
                           generalize World.setCells _ _ _ _ = W at hM hS ⊢
                           have x7 := (HC.out.later hM.out.below).rwordx fax HX.out
                           have x8 := (HC.out.later hM.out.below).rwordx fbx HY.out
                           have c9 := hM.out.cell 0 0 rfl rfl
                           have c10 := hM.out.cell 0 1 rfl rfl
                           have x11 := (hM.out.at 2 rfl).rcell (j := 36) (by decide) (rf_cnt.trans (by rw [H28.out])))
                        | (refine lR rfl (hM.out.at 2 rfl) rfl (rwV (FO.out i)) ?_)
                        | (refine sR rfl (hM.out.at 3 rfl) rfl ((rwV zf_one).len (rwV (FO.out i))) (rwV (FO.out i)) ?_
                           replace hS := hid (hS.out.asideL (hM.out.ne 1 3 rfl rfl (by decide)) 0 (rv (rf (tg (k : Nat) v t x) ρ i)))
                           replace hM := hid (hM.out.put 3 rfl (rv (rf (tg (k : Nat) v t x) ρ i)) ((rwV zf_one).len (rwV (FO.out i))))
                           generalize World.setCells _ _ _ _ = W at hM hS ⊢))
                      first | exact bodyPost_ret (res1s Try.results11 (hM.out.at 3 rfl) (rwV (FO.out i)) (.bool false)) rfl ⟨_, (FO.out i), rfl, hM.out.below⟩ | exact bodyPost_ret (res1s Try.results11 (hM.out.at 3 rfl) (rwV (FO.out i)) (.bool false)) rfl ⟨_, (FO.out i), rfl, fun h => (by cases h), hM.out.below⟩
                · have eb : b = false := by cases b with | false => rfl | true => exact absurd (HBR.out.1 rfl) (fun h => by rcases cr_ans (h.2.2.1 i hlt) with e | e <;> rw [HX.out] at e; exact hx0 e; exact ha e)
                  subst eb
                  have RT : Hid (∀ w : World, _) := fun w => rtold_no x64 ha w
                  clear ha hx0
                  have fa2 : IntKind.i64.wrap (18 + (i : Int)) = 18 + (i : Int) := (ixw fa0 (Int.lt_of_lt_of_le fa1 (by decide))).1
                  have fb2 : IntKind.i64.wrap (22 + (i : Int)) = 22 + (i : Int) := (ixw fb0 (Int.lt_of_lt_of_le fb1 (by decide))).1
                  have x4 := (HC.out.later hM.out.below).rwordx fax HX.out
                  have x5 := (HC.out.later hM.out.below).rwordx fbx HY.out
                  go_wp2_with fail
                  clear x4 x5
                  refine (RT.out _).mono ?_
                  rintro e W ⟨rfl, hb⟩
                  replace hM := hid (hM.out.later hb)
                  replace hS := hid (Sn.later hS.out hb)
                  clear hb
                  obtain ⟨bx6, hbx6⟩ : ∃ q, q = W.heap.size := ⟨_, rfl⟩
                  replace hM := hid (hM.out.born [.int .i64 0, .int .i64 0] 42 (b := bx6) hbx6)
                  have Hbx6 : Hid _ := hbx6
                  clear hbx6
                  replace hS := hid (hS.out.new (.cells [.int .i64 0, .int .i64 0].toArray 42))
                  go_wp2_with (first
                    | (rw [← Hbx6.out]; refine sR rfl (hM.out.at 0 rfl) rfl ((rwA 0 0).len (rwA 0 0)) (rwA 0 0) ?_
                       replace hS := hid (hS.out.asideL (hM.out.ne 1 0 rfl rfl (by decide)) 0 [.int .i64 0, .int .i64 0])
                       replace hM := hid (hM.out.put 0 rfl [.int .i64 0, .int .i64 0] ((rwA 0 0).len (rwA 0 0)))
                       generalize World.setCells _ _ _ _ = W at hM hS ⊢
                       have x7 := (HC.out.later hM.out.below).rwordx fax HX.out
                       have x8 := (HC.out.later hM.out.below).rwordx fbx HY.out
                       have c9 := hM.out.cell 0 0 rfl rfl
                       have c10 := hM.out.cell 0 1 rfl rfl)
                    | (refine lR rfl (hM.out.at 2 rfl) rfl (rwV (FO.out i)) ?_)
                    | (refine sR rfl (hM.out.at 3 rfl) rfl ((rwV zf_one).len (rwV (FO.out i))) (rwV (FO.out i)) ?_
                       replace hS := hid (hS.out.asideL (hM.out.ne 1 3 rfl rfl (by decide)) 0 (rv (rf (tg (k : Nat) v t x) ρ i)))
                       replace hM := hid (hM.out.put 3 rfl (rv (rf (tg (k : Nat) v t x) ρ i)) ((rwV zf_one).len (rwV (FO.out i))))
                       generalize World.setCells _ _ _ _ = W at hM hS ⊢))
                  first | exact bodyPost_ret (res1s Try.results11 (hM.out.at 3 rfl) (rwV (FO.out i)) (.bool false)) rfl ⟨_, (FO.out i), rfl, hM.out.below⟩ | exact bodyPost_ret (res1s Try.results11 (hM.out.at 3 rfl) (rwV (FO.out i)) (.bool false)) rfl ⟨_, (FO.out i), rfl, fun h => (by cases h), hM.out.below⟩
            · obtain rfl : i = 4 := by omega
              clear hS
              obtain rfl := HK.out
              obtain ⟨sb, hsb⟩ := bool_of (∀ j, j < 32 → nw ρ j = ρ j)
              have EB : Hid (b = sb) := Bool.eq_iff_iff.2 (HBR.out.trans ⟨fun h => hsb.2 h.2.2.2, fun h => ⟨HO.out, by rw [H27.out, H28.out]; exact Y2.out, A.out, hsb.1 h⟩⟩)
              have SM : Hid _ := hsb
              clear hsb
              have WDS : Hid (∀ W, IsL B0 W v (tl (ρ 0 : Nat) (ob ρ)) → _) := fun W hl => Words_is (ρ := ρ) (c := ob ρ) (th := tg (ρ 0 : Nat) v t x) (tg_length _ _ _ _) (tg_one _ HV.out t x) (rwTh _ HV.out t x) rfl h6 (fun _ _ => rfl) U64.out (fun t ht => cr_ans (A.out t ht)) W (fun W2 hb => TCells_is HO.out (TQ.out.th (hl.later hb)))
              go_wp2_with fail
              replace hM := hid (hM.out.drew)
              refine wp_region_held_drew (S := fun w' => Bo w' (n + 1) (rv (rf (tg (ρ 0 : Nat) v t x) ρ 4)) ∧ Bo w' bc (rl ρ)) (by kernel_rfl) ⟨hM.out.at 1 rfl, HC.out.later hM.out.below⟩ (fun hH => ?_)
              generalize World.drew _ = W at hM hH  ⊢
              refine tkR 0 rfl hH (fun _ h => h.1) (rwV (FO.out 4)) ?_
              simp only [Act.put, p1, p2, p3]
              refine tkR 1 rfl hH (fun _ h => h.1) (rwV (FO.out 4)) ?_
              simp only [Act.put, p1, p2, p3]
              refine tk 3 rfl hH ?_
              simp only [Act.put, p1, p2, p3]
              refine rd1 2 rfl (fun K hK => ?_)
              go_simp
              refine (WDS.out _ (hM.out.isL 0 rfl)).mono ?_
              rintro e W ⟨⟨bq, rfl, hq, hWq⟩, hb⟩
              replace hM := hid (hM.out.laterB hb hq hWq)
              clear hb
              go_wp2_with fail
              refine hK.out _ _ ⟨hM.out.at 2 rfl, HC.out.later hM.out.below⟩ (fun hH => ?_)
              clear hK K
              try simp only [Act.put, p1, p2, p3]
              refine rd1 4 rfl (fun K hK => ?_)
              go_simp
              refine (same_is SM.out _ (hM.out.at 0 rfl) (HC.out.later hM.out.below)).mono ?_
              rintro e W ⟨rfl, hb⟩
              replace hM := hid (hM.out.later hb)
              clear hb
              go_wp2_with fail
              refine hK.out _ _ ⟨hM.out.at 2 rfl, HC.out.later hM.out.below⟩ (fun hH => ?_)
              clear hK K
              try simp only [Act.put, p1, p2, p3]
              refine rd1 5 rfl (fun K hK => ?_)
              refine stR rfl (hM.out.at 3 rfl) ((rwV zf_one).len (rwV (FO.out 4))) (rwV (FO.out 4)) ?_
              simp only [Act.put]
              replace hM := hid (hM.out.put 3 rfl (rv (rf (tg (ρ 0 : Nat) v t x) ρ 4)) ((rwV zf_one).len (rwV (FO.out 4))))
              refine hK.out _ _ ⟨hM.out.at 2 rfl, HC.out.later hM.out.below⟩ (fun hH => ?_)
              clear hK K
              generalize World.setCells _ _ _ _ = W at hM hH ⊢
              try simp only [Act.put, p1, p2, p3]
              refine tk 6 rfl hH ?_
              simp only [Act.put, p1, p2, p3]
              refine wpAnyH_done (by kernel_rfl) ?_ _
              go_wp2
              exact bodyPost_ret (res1s Try.results11 (hM.out.at 3 rfl) (rwV (FO.out 4)) (.bool sb)) rfl ⟨_, FO.out 4, by rw [EB.out], fun _ => ⟨B0, v, t, x, by rw [hM.out.size]; exact HB0.out, HV.out, rfl, TQ.out.th (hM.out.isL 0 rfl)⟩, hM.out.below⟩
        · have d28 : (1099511627776 : Int) < (y28 : Int) := by omega
          have eb : b = false := by cases b with | false => rfl | true => exact absurd (HBR.out.1 rfl) (fun h => g28 (by have := h.2.1.2; rw [H28.out] at this; exact this))
          subst eb
          clear g28
          go_wp2_with (first
            | (refine lR rfl (hM.out.at 0 rfl) rfl (rwV (FO.out 0)) ?_)
            | (refine sR rfl (hM.out.at 1 rfl) rfl ((rwV zf_one).len (rwV (FO.out 0))) (rwV (FO.out 0)) ?_
               replace hM := hid (hM.out.put 1 rfl (rv (rf (tg (k : Nat) v t x) ρ 0)) ((rwV zf_one).len (rwV (FO.out 0))))
               generalize World.setCells _ _ _ _ = W at hM ⊢))
          first | exact bodyPost_ret (res1s Try.results11 (hM.out.at 1 rfl) (rwV (FO.out 0)) (.bool false)) rfl ⟨_, (FO.out 0), rfl, hM.out.below⟩ | exact bodyPost_ret (res1s Try.results11 (hM.out.at 1 rfl) (rwV (FO.out 0)) (.bool false)) rfl ⟨_, (FO.out 0), rfl, fun h => (by cases h), hM.out.below⟩
      · have d27 : (1099511627776 : Int) < (y27 : Int) := by omega
        have eb : b = false := by cases b with | false => rfl | true => exact absurd (HBR.out.1 rfl) (fun h => g27 (by have := h.2.1.1; rw [H27.out] at this; exact this))
        subst eb
        clear g27
        go_wp2_with (first
          | (refine lR rfl (hM.out.at 0 rfl) rfl (rwV (FO.out 0)) ?_)
          | (refine sR rfl (hM.out.at 1 rfl) rfl ((rwV zf_one).len (rwV (FO.out 0))) (rwV (FO.out 0)) ?_
             replace hM := hid (hM.out.put 1 rfl (rv (rf (tg (k : Nat) v t x) ρ 0)) ((rwV zf_one).len (rwV (FO.out 0))))
             generalize World.setCells _ _ _ _ = W at hM ⊢))
        first | exact bodyPost_ret (res1s Try.results11 (hM.out.at 1 rfl) (rwV (FO.out 0)) (.bool false)) rfl ⟨_, (FO.out 0), rfl, hM.out.below⟩ | exact bodyPost_ret (res1s Try.results11 (hM.out.at 1 rfl) (rwV (FO.out 0)) (.bool false)) rfl ⟨_, (FO.out 0), rfl, fun h => (by cases h), hM.out.below⟩
    · have TO : Hid (∀ {bc oc kc : Nat} {w : World} (hc : Wf w bc oc (ob ρ)), _) := fun {bc oc kc w} hc => ThingOf_is (kind := (ρ 0 : Nat)) (b := false) (bc := bc) (oc := oc) (kc := kc) ⟨fun h => (by cases h), fun h => absurd h hO⟩ hc
      rw [hk] at TO
      have eb : b = false := by cases b with | false => rfl | true => exact absurd (HBR.out.1 rfl) (fun h => hO h.1)
      subst eb
      clear hO hk h6
      have hM : Hid _ := (((Ms.nil w).bornR zf_all.symm 47 (b := w.heap.size) rfl).bornR zf_all.symm 47 (b := w.heap.size + 1) (by simp))
      have x1 := (HC.out.later hM.out.below).rwordx (show 0 < 32 by decide) HK.out
      go_enter Try.func11, Try.ntmps11
      go_wp2_with fail
      clear x1
      generalize World.alloc _ _ = W at hM ⊢
      generalize hsz : w.heap.size = n at hM ⊢
      clear hsz
      replace hM := hid (hM.out.drew)
      refine wp_region_held_drew (S := fun w' => Bo w' bc (rl ρ)) (by kernel_rfl) (HC.out.later hM.out.below) (fun hH => ?_)
      generalize World.drew _ = W at hM hH  ⊢
      refine tk 0 rfl hH ?_
      simp only [Act.put, p1, p2, p3]
      refine tk 1 rfl hH ?_
      simp only [Act.put, p1, p2, p3]
      refine tk 2 rfl hH ?_ (by intro w h; have c0 := h.rwordx (show 0 < 32 by decide) HK.out; clear h; go_simp; try with_reducible rfl)
      simp only [Act.put, p1, p2, p3]
      refine tk 3 rfl hH ?_
      simp only [Act.put, p1, p2, p3]
      refine tk 4 rfl hH ?_
      simp only [Act.put, p1, p2, p3]
      refine tk 5 rfl hH ?_
      simp only [Act.put, p1, p2, p3]
      refine rd1 6 rfl (fun K hK => ?_)
      go_simp
      refine (TO.out ⟨fun j hj => (HC.out.later hM.out.below).rword (show 1 + j < 32 by omega)⟩).mono ?_
      rintro e W ⟨v, t, x, hv, rfl, hth, hb⟩
      replace hM := hid (hM.out.later hb)
      clear hb
      have HV : Hid _ := hv
      have F0 : Hid (∀ j, j < 37 → (upl zf 0 (tg (k : Nat) v t x) j).oneCell' = true) := upl_one zf_one (tg_one _ hv t x)
      clear hv hth
      go_wp2_with fail
      refine hK.out _ _ (HC.out.later hM.out.below) (fun hH => ?_)
      clear hK K
      try simp only [Act.put, p1, p2, p3]
      refine tk 7 rfl hH ?_
      simp only [Act.put, p1, p2, p3]
      refine tk 8 rfl hH ?_
      simp only [Act.put, p1, p2, p3]
      refine tk 9 rfl hH ?_
      simp only [Act.put, p1, p2, p3]
      refine tk 10 rfl hH ?_
      simp only [Act.put, p1, p2, p3]
      refine rd1 11 rfl (fun K hK => ?_)
      refine stO rfl ((hM.out.at 0 rfl).thereAt (o := 0) (n := (tg (k : Nat) v t x).length) (by rw [tg_length, rv_length]; decide)) (rwTh (k : Nat) HV.out t x) ?_
      replace hM := hid (hM.out.putAt 0 0 rfl (tg (k : Nat) v t x) (rv (upl zf 0 (tg (k : Nat) v t x))) ((hM.out.at 0 rfl).upl (by rw [tg_length]; decide)))
      refine hK.out _ _ (HC.out.later hM.out.below) (fun hH => ?_)
      clear hK K
      generalize World.setCells _ _ _ _ = W at hM hH ⊢
      try simp only [Act.put]
      refine tk 12 rfl hH ?_
      simp only [Act.put, p1, p2, p3]
      refine wpAnyH_done (by kernel_rfl) ?_ _
      go_wp2_with (first
        | (refine lR rfl (hM.out.at 0 rfl) rfl (rwV F0.out) ?_)
        | (refine sR rfl (hM.out.at 1 rfl) rfl ((rwV zf_one).len (rwV F0.out)) (rwV F0.out) ?_
           replace hM := hid (hM.out.put 1 rfl (rv (upl zf 0 (tg (k : Nat) v t x))) ((rwV zf_one).len (rwV F0.out)))
           generalize World.setCells _ _ _ _ = W at hM ⊢))
      first | exact bodyPost_ret (res1s Try.results11 (hM.out.at 1 rfl) (rwV F0.out) (.bool false)) rfl ⟨_, F0.out, rfl, hM.out.below⟩ | exact bodyPost_ret (res1s Try.results11 (hM.out.at 1 rfl) (rwV F0.out) (.bool false)) rfl ⟨_, F0.out, rfl, fun h => (by cases h), hM.out.below⟩
  · have g6 : (6 : Int) < (k : Int) := by omega
    clear hk
    have eb : b = false := by cases b with | false => rfl | true => exact absurd (HBR.out.1 rfl) (fun h => by have := h.1.kind.2; rw [HK.out] at this; omega)
    subst eb
    clear h6
    have hM : Hid _ := (((Ms.nil w).bornR zf_all.symm 47 (b := w.heap.size) rfl).bornR zf_all.symm 47 (b := w.heap.size + 1) (by simp))
    have x1 := (HC.out.later hM.out.below).rwordx (show 0 < 32 by decide) HK.out
    go_enter Try.func11, Try.ntmps11
    go_wp2_with (first
      | (refine lR rfl (hM.out.at 0 rfl) rfl (rwV zf_one) ?_)
      | (refine sR rfl (hM.out.at 1 rfl) rfl ((rwV zf_one).len (rwV zf_one)) (rwV zf_one) ?_
         replace hM := hid (hM.out.put 1 rfl (rv zf) ((rwV zf_one).len (rwV zf_one)))
         generalize World.setCells _ _ _ _ = W at hM ⊢))
    first | exact bodyPost_ret (res1s Try.results11 (hM.out.at 1 rfl) (rwV zf_one) (.bool false)) rfl ⟨_, zf_one, rfl, hM.out.below⟩ | exact bodyPost_ret (res1s Try.results11 (hM.out.at 1 rfl) (rwV zf_one) (.bool false)) rfl ⟨_, zf_one, rfl, fun h => (by cases h), hM.out.below⟩
end Go.Proofs.Ytgkgkiheoadbfaa.Tab
namespace Go.Proofs.Ytgkgkiheoadbfaa
set_option maxRecDepth 20000
open Go.ChangeShapes Go.WideShapes Go.ChangeAt Go.RowKit

theorem okWide_arr {P : Program} {w : World} {r : Reach} {base : Nat} {t e : TypeId} {n : Nat} {v : Value} (ht : P.underlying t = some (.array n e)) (h : Value.okWide P w r base t v) : ∃ cs, v = .agg cs ∧ cs.size = P.cellsOf t := by
  simp only [Value.okWide, ht] at h
  obtain ⟨cs, h1, h2, _⟩ := h
  exact ⟨cs, h1, h2⟩
theorem wf_u64 {x : Int} (h : (Lit.int .u64 x).wf = true) : 0 ≤ x ∧ x < 18446744073709551616 := by
  simp [Lit.wf, IntKind.min, IntKind.max] at h
  exact ⟨of_decide_eq_true h.1, by have := of_decide_eq_true h.2; simp [IntKind.signed, IntKind.bits] at this; omega⟩

theorem warr_of_trod {H : Type} {enc : TypeId × Value → H} {W : World} {r : Reach} {b0 n : Nat} {T : TypeId} {v : Value} {d : DataW H} {p : List MemPlace} (hu : Try.prog.underlying T = some (.array n 22)) (cn : Try.prog.cellsOf T = n) (hval : Value.okWide Try.prog W r b0 T v)
    (h : DataW.Trod enc Try.prog W 0 (fun _ => true) true T v d p) : ∃ c : Nat → Nat, v = .agg ((List.range n).map fun j => Value.int .u64 (c j : Nat)).toArray ∧ ∀ j, j < n → c j < 18446744073709551616 := by
  have ci : Try.prog.cellsOf 22 = 1 := by kernel_rfl
  obtain ⟨cs, rfl, hsz⟩ := okWide_arr hu hval
  rw [cn] at hsz
  obtain ⟨fuel, hf⟩ := h
  obtain ⟨xs, m, _, _, _, hxl, hx⟩ := DataW.trod_array hu hf
  rw [ci] at hx
  have key : ∀ i, i < n → ∃ k : Nat, cs[i]? = some (.int .u64 (k : Nat)) ∧ k < 18446744073709551616 := by
    intro i hi
    have h2 := hx i hi
    rw [List.getElem?_eq_getElem (by omega)] at h2
    obtain ⟨n0, e0, _, hw⟩ := DataW.trod_int Try.underlying22 h2
    obtain ⟨b1, b2⟩ := wf_u64 hw
    refine ⟨n0.toNat, ?_, by omega⟩
    have g : (Value.agg cs).cells.toList = cs.toList := rfl
    rw [g] at e0
    have := congrArg (·[0]?) e0
    simp [List.getElem?_drop] at this
    rw [this]; congr 2; omega
  obtain ⟨c, hc⟩ : ∃ c : Nat → Nat, ∀ i, i < n → cs[i]? = some (.int .u64 (c i : Nat)) ∧ c i < 18446744073709551616 := by
    refine ⟨fun i => if h : i < n then Classical.choose (key i h) else 0, fun i hi => ?_⟩
    simp only [hi, dif_pos]
    exact Classical.choose_spec (key i hi)
  refine ⟨c, ?_, fun j hj => (hc j hj).2⟩
  congr 1
  apply Array.ext'
  apply List.ext_getElem?
  intro j
  by_cases hj : j < n
  · have := (hc j hj).1
    simp [hj]
    simpa using this
  · rw [List.getElem?_eq_none (by simpa using (by omega : cs.size ≤ j)), List.getElem?_eq_none (by simpa using hj)]
theorem laid_outc : laidOutB Try.prog = true := by kernel_rfl
end Go.Proofs.Ytgkgkiheoadbfaa
namespace Go.Proofs.Ytgkgkiheoadbfaa
set_option maxRecDepth 20000
open Go.ChangeShapes Go.WideShapes Go.ChangeAt Go.RowKit

theorem record_of_trod {H : Type} {enc : TypeId × Value → H} {W : World} {r : Reach} {b0 : Nat} {v : Value} {d : DataW H} {p : List MemPlace} (hval : Value.okWide Try.prog W r b0 24 v)
    (h : DataW.Trod enc Try.prog W 0 (fun _ => true) true 24 v d p) : ∃ c : Nat → Nat, v = .agg (Tab.rl c).toArray ∧ ∀ j, j < 32 → c j < 18446744073709551616 :=
  warr_of_trod (n := 32) (by kernel_rfl) (by kernel_rfl) hval h
theorem record_stay {H : Type} {enc : TypeId × Value → H} {W W' : World} {sp : Nat → Bool} {v : Value} {d : DataW H} {p : List MemPlace}
    (h : DataW.Trod enc Try.prog W 0 (fun _ => true) true 24 v d p) (hb : Below W.heap.size W W') (hlt : ∀ x ∈ p, x.block < W.heap.size) (hs : ∀ x ∈ p, sp x.block = true) :
    DataW.Trod enc Try.prog W' 0 sp true 24 v d p :=
  WideElems.Trod_stays laid_outc (by kernel_rfl) (of_decide_eq_true (by kernel_rfl)) h (fun x hx => hb.same (hlt x hx)) hs
end Go.Proofs.Ytgkgkiheoadbfaa
