/- Texts laid together: Package record: Right, by its contract; The reference RecOf, by its contract; The reference Rec.Done, by its contract; The law's recordOf, by its contract; Records are held against each other; Package record: isThread, by its contract; Package object: Do, where it refuses; Package object: what is done, by kinds: a map of functions; What is done, by kinds, from world to world. -/
import Derived.Test.YtgkgkiheoadbfaaGreatDoorPk07
import Derived.Test.YtgkgkiheoadbfaaGreatDoorPk02
import Derived.Deep.DeepCutAuto
import Derived.Deep.RegionHeld3
import Derived.Test.YtgkgkiheoadbfaaGreatDoorPk03
import Derived.Test.YtgkgkiheoadbfaaGreatDoorPk04
import Derived.Test.YtgkgkiheoadbfaaGreatDoorPk05
import Derived.ChangeKeysEq
import Derived.Test.YtgkgkiheoadbfaaGreatDoorPk01
import Derived.Maps.Own
namespace Go.Proofs.YtgkgkiheoadbfaaGreatDoor.Tab
set_option maxRecDepth 20000
open Go.RowKit
set_option linter.unusedVariables false

theorem bool_of (p : Prop) : ∃ b : Bool, b = true ↔ p := by
  by_cases h : p
  · exact ⟨true, by simp [h]⟩
  · exact ⟨false, by simp [h]⟩
set_option maxHeartbeats 8000000 in
theorem recRight_is {r : Nat → Nat} (U : ∀ j, j < 32 → r j < 18446744073709551616) {v : Bool} (hv : v = true ↔ isRec r) (w : World) :
    Calls Tryz.prog 16 #[.agg (rl r).toArray] w (fun e w' => e = .returned (.bool v) ∧ Below w.heap.size w w') := by
  obtain ⟨q, hq⟩ : ∃ q, q = min (r 0) 4294967296 := ⟨_, rfl⟩
  have eo : isOb (q : Int) (ob r) ↔ isOb (r 0 : Nat) (ob r) := by
    by_cases e : r 0 ≤ 4294967296
    · rw [show q = r 0 by omega]
    · constructor
      · intro h; have := (isOb_kind h).2; omega
      · intro h; have := (isOb_kind h).2; omega
  obtain ⟨bo, hbo⟩ := bool_of (isOb (q : Int) (ob r))
  obtain ⟨ba, hba⟩ := bool_of (aR r)
  obtain ⟨bn, hbn⟩ := bool_of (nR r)
  obtain ⟨bz, hbz⟩ := bool_of (zR r ∧ tR r)
  have KI : Hid (∀ w : World, _) := recKind_is r hq
  have OB : Hid (∀ w : World, _) := recObject_is r
  have RI : Hid (∀ w : World, _) := obRight_is hbo
  have AI : Hid (∀ w : World, _) := answersRight_is U hba
  have NI : Hid (∀ w : World, _) := numbersRight_is hbn
  have ZI : Hid (∀ w : World, _) := restRight_is hbz
  have HV : Hid (v = (bo && (ba && (bn && bz)))) := by
    have h1 : v = true ↔ (bo && (ba && (bn && bz))) = true := by
      rw [hv]; unfold isRec
      simp only [Bool.and_eq_true]
      rw [hbo, hba, hbn, hbz, eo]
    show v = _
    exact Bool.eq_iff_iff.2 h1
  clear hq eo hbo hba hbn hbz hv U
  rcases bo with _ | _
  · have hM : Hid _ := ((Ms.nil w).born (rl r) 24 (b := w.heap.size) rfl)
    go_enter Tryz.func16, Tryz.ntmps16
    go_wp2_with fail
    generalize World.alloc _ _ = W at hM ⊢
    generalize hsz : w.heap.size = n at hM ⊢
    clear hsz
    replace hM := hid (hM.out.drew)
    refine wp_region_held_drew (S := fun w' => Bo w' n (rl r)) (by kernel_rfl) (hM.out.at 0 rfl) (fun hH => ?_)
    generalize World.drew _ = W at hM hH  ⊢
    refine tkR 0 rfl hH (fun _ h => h) (rwR r) ?_
    simp only [Act.put, p1, p2, p3]
    refine tkR 2 rfl hH (fun _ h => h) (rwR r) ?_
    simp only [Act.put, p1, p2, p3]
    refine rd1 1 rfl (fun K hK => ?_)
    go_simp
    refine (KI.out _).mono ?_
    rintro e W ⟨rfl, hb⟩
    replace hM := hid (hM.out.later hb)
    clear hb
    go_wp2_with fail
    refine hK.out _ _ (hM.out.at 0 rfl) (fun hH => ?_)
    clear hK K
    try simp only [Act.put, p1, p2, p3]
    refine rd1 3 rfl (fun K hK => ?_)
    go_simp
    refine (OB.out _).mono ?_
    rintro e W ⟨rfl, hb⟩
    replace hM := hid (hM.out.later hb)
    clear hb
    go_wp2_with fail
    refine hK.out _ _ (hM.out.at 0 rfl) (fun hH => ?_)
    clear hK K
    try simp only [Act.put, p1, p2, p3]
    refine rd1 4 rfl (fun K hK => ?_)
    go_simp
    refine (RI.out _).mono ?_
    rintro e W ⟨rfl, hb⟩
    replace hM := hid (hM.out.later hb)
    clear hb
    go_wp2_with fail
    refine hK.out _ _ (hM.out.at 0 rfl) (fun hH => ?_)
    clear hK K
    try simp only [Act.put, p1, p2, p3]
    refine tk 5 rfl hH ?_
    simp only [Act.put, p1, p2, p3]
    refine tkN 6 rfl hH ?_
    simp only [Act.put, p1, p2, p3]
    refine tkN 7 rfl hH ?_
    simp only [Act.put, p1, p2, p3]
    refine tk 8 rfl hH ?_
    simp only [Act.put, p1, p2, p3]
    refine tk 9 rfl hH ?_
    simp only [Act.put, p1, p2, p3]
    refine tkN 10 rfl hH ?_
    simp only [Act.put, p1, p2, p3]
    refine tkN 11 rfl hH ?_
    simp only [Act.put, p1, p2, p3]
    refine tk 12 rfl hH ?_
    simp only [Act.put, p1, p2, p3]
    refine tk 13 rfl hH ?_
    simp only [Act.put, p1, p2, p3]
    refine tkN 14 rfl hH ?_
    simp only [Act.put, p1, p2, p3]
    refine tkN 15 rfl hH ?_
    simp only [Act.put, p1, p2, p3]
    refine tk 16 rfl hH ?_
    simp only [Act.put, p1, p2, p3]
    refine tk 17 rfl hH ?_
    simp only [Act.put, p1, p2, p3]
    refine wpAnyH_done (by kernel_rfl) ?_ _
    go_wp2
    go_ret
    exact ⟨ret_bool HV.out.symm, hM.out.below⟩
  · rcases ba with _ | _
    · have hM : Hid _ := ((Ms.nil w).born (rl r) 24 (b := w.heap.size) rfl)
      go_enter Tryz.func16, Tryz.ntmps16
      go_wp2_with fail
      generalize World.alloc _ _ = W at hM ⊢
      generalize hsz : w.heap.size = n at hM ⊢
      clear hsz
      replace hM := hid (hM.out.drew)
      refine wp_region_held_drew (S := fun w' => Bo w' n (rl r)) (by kernel_rfl) (hM.out.at 0 rfl) (fun hH => ?_)
      generalize World.drew _ = W at hM hH  ⊢
      refine tkR 0 rfl hH (fun _ h => h) (rwR r) ?_
      simp only [Act.put, p1, p2, p3]
      refine tkR 2 rfl hH (fun _ h => h) (rwR r) ?_
      simp only [Act.put, p1, p2, p3]
      refine rd1 1 rfl (fun K hK => ?_)
      go_simp
      refine (KI.out _).mono ?_
      rintro e W ⟨rfl, hb⟩
      replace hM := hid (hM.out.later hb)
      clear hb
      go_wp2_with fail
      refine hK.out _ _ (hM.out.at 0 rfl) (fun hH => ?_)
      clear hK K
      try simp only [Act.put, p1, p2, p3]
      refine rd1 3 rfl (fun K hK => ?_)
      go_simp
      refine (OB.out _).mono ?_
      rintro e W ⟨rfl, hb⟩
      replace hM := hid (hM.out.later hb)
      clear hb
      go_wp2_with fail
      refine hK.out _ _ (hM.out.at 0 rfl) (fun hH => ?_)
      clear hK K
      try simp only [Act.put, p1, p2, p3]
      refine rd1 4 rfl (fun K hK => ?_)
      go_simp
      refine (RI.out _).mono ?_
      rintro e W ⟨rfl, hb⟩
      replace hM := hid (hM.out.later hb)
      clear hb
      go_wp2_with fail
      refine hK.out _ _ (hM.out.at 0 rfl) (fun hH => ?_)
      clear hK K
      try simp only [Act.put, p1, p2, p3]
      refine tk 5 rfl hH ?_
      simp only [Act.put, p1, p2, p3]
      refine tkR 6 rfl hH (fun _ h => h) (rwR r) ?_
      simp only [Act.put, p1, p2, p3]
      refine rd1 7 rfl (fun K hK => ?_)
      go_simp
      refine (AI.out _).mono ?_
      rintro e W ⟨rfl, hb⟩
      replace hM := hid (hM.out.later hb)
      clear hb
      go_wp2_with fail
      refine hK.out _ _ (hM.out.at 0 rfl) (fun hH => ?_)
      clear hK K
      try simp only [Act.put, p1, p2, p3]
      refine tk 8 rfl hH ?_
      simp only [Act.put, p1, p2, p3]
      refine tk 9 rfl hH ?_
      simp only [Act.put, p1, p2, p3]
      refine tkN 10 rfl hH ?_
      simp only [Act.put, p1, p2, p3]
      refine tkN 11 rfl hH ?_
      simp only [Act.put, p1, p2, p3]
      refine tk 12 rfl hH ?_
      simp only [Act.put, p1, p2, p3]
      refine tk 13 rfl hH ?_
      simp only [Act.put, p1, p2, p3]
      refine tkN 14 rfl hH ?_
      simp only [Act.put, p1, p2, p3]
      refine tkN 15 rfl hH ?_
      simp only [Act.put, p1, p2, p3]
      refine tk 16 rfl hH ?_
      simp only [Act.put, p1, p2, p3]
      refine tk 17 rfl hH ?_
      simp only [Act.put, p1, p2, p3]
      refine wpAnyH_done (by kernel_rfl) ?_ _
      go_wp2
      go_ret
      exact ⟨ret_bool HV.out.symm, hM.out.below⟩
    · rcases bn with _ | _
      · have hM : Hid _ := ((Ms.nil w).born (rl r) 24 (b := w.heap.size) rfl)
        go_enter Tryz.func16, Tryz.ntmps16
        go_wp2_with fail
        generalize World.alloc _ _ = W at hM ⊢
        generalize hsz : w.heap.size = n at hM ⊢
        clear hsz
        replace hM := hid (hM.out.drew)
        refine wp_region_held_drew (S := fun w' => Bo w' n (rl r)) (by kernel_rfl) (hM.out.at 0 rfl) (fun hH => ?_)
        generalize World.drew _ = W at hM hH  ⊢
        refine tkR 0 rfl hH (fun _ h => h) (rwR r) ?_
        simp only [Act.put, p1, p2, p3]
        refine tkR 2 rfl hH (fun _ h => h) (rwR r) ?_
        simp only [Act.put, p1, p2, p3]
        refine rd1 1 rfl (fun K hK => ?_)
        go_simp
        refine (KI.out _).mono ?_
        rintro e W ⟨rfl, hb⟩
        replace hM := hid (hM.out.later hb)
        clear hb
        go_wp2_with fail
        refine hK.out _ _ (hM.out.at 0 rfl) (fun hH => ?_)
        clear hK K
        try simp only [Act.put, p1, p2, p3]
        refine rd1 3 rfl (fun K hK => ?_)
        go_simp
        refine (OB.out _).mono ?_
        rintro e W ⟨rfl, hb⟩
        replace hM := hid (hM.out.later hb)
        clear hb
        go_wp2_with fail
        refine hK.out _ _ (hM.out.at 0 rfl) (fun hH => ?_)
        clear hK K
        try simp only [Act.put, p1, p2, p3]
        refine rd1 4 rfl (fun K hK => ?_)
        go_simp
        refine (RI.out _).mono ?_
        rintro e W ⟨rfl, hb⟩
        replace hM := hid (hM.out.later hb)
        clear hb
        go_wp2_with fail
        refine hK.out _ _ (hM.out.at 0 rfl) (fun hH => ?_)
        clear hK K
        try simp only [Act.put, p1, p2, p3]
        refine tk 5 rfl hH ?_
        simp only [Act.put, p1, p2, p3]
        refine tkR 6 rfl hH (fun _ h => h) (rwR r) ?_
        simp only [Act.put, p1, p2, p3]
        refine rd1 7 rfl (fun K hK => ?_)
        go_simp
        refine (AI.out _).mono ?_
        rintro e W ⟨rfl, hb⟩
        replace hM := hid (hM.out.later hb)
        clear hb
        go_wp2_with fail
        refine hK.out _ _ (hM.out.at 0 rfl) (fun hH => ?_)
        clear hK K
        try simp only [Act.put, p1, p2, p3]
        refine tk 8 rfl hH ?_
        simp only [Act.put, p1, p2, p3]
        refine tk 9 rfl hH ?_
        simp only [Act.put, p1, p2, p3]
        refine tkR 10 rfl hH (fun _ h => h) (rwR r) ?_
        simp only [Act.put, p1, p2, p3]
        refine rd1 11 rfl (fun K hK => ?_)
        go_simp
        refine (NI.out _).mono ?_
        rintro e W ⟨rfl, hb⟩
        replace hM := hid (hM.out.later hb)
        clear hb
        go_wp2_with fail
        refine hK.out _ _ (hM.out.at 0 rfl) (fun hH => ?_)
        clear hK K
        try simp only [Act.put, p1, p2, p3]
        refine tk 12 rfl hH ?_
        simp only [Act.put, p1, p2, p3]
        refine tk 13 rfl hH ?_
        simp only [Act.put, p1, p2, p3]
        refine tkN 14 rfl hH ?_
        simp only [Act.put, p1, p2, p3]
        refine tkN 15 rfl hH ?_
        simp only [Act.put, p1, p2, p3]
        refine tk 16 rfl hH ?_
        simp only [Act.put, p1, p2, p3]
        refine tk 17 rfl hH ?_
        simp only [Act.put, p1, p2, p3]
        refine wpAnyH_done (by kernel_rfl) ?_ _
        go_wp2
        go_ret
        exact ⟨ret_bool HV.out.symm, hM.out.below⟩
      · have hM : Hid _ := ((Ms.nil w).born (rl r) 24 (b := w.heap.size) rfl)
        go_enter Tryz.func16, Tryz.ntmps16
        go_wp2_with fail
        generalize World.alloc _ _ = W at hM ⊢
        generalize hsz : w.heap.size = n at hM ⊢
        clear hsz
        replace hM := hid (hM.out.drew)
        refine wp_region_held_drew (S := fun w' => Bo w' n (rl r)) (by kernel_rfl) (hM.out.at 0 rfl) (fun hH => ?_)
        generalize World.drew _ = W at hM hH  ⊢
        refine tkR 0 rfl hH (fun _ h => h) (rwR r) ?_
        simp only [Act.put, p1, p2, p3]
        refine tkR 2 rfl hH (fun _ h => h) (rwR r) ?_
        simp only [Act.put, p1, p2, p3]
        refine rd1 1 rfl (fun K hK => ?_)
        go_simp
        refine (KI.out _).mono ?_
        rintro e W ⟨rfl, hb⟩
        replace hM := hid (hM.out.later hb)
        clear hb
        go_wp2_with fail
        refine hK.out _ _ (hM.out.at 0 rfl) (fun hH => ?_)
        clear hK K
        try simp only [Act.put, p1, p2, p3]
        refine rd1 3 rfl (fun K hK => ?_)
        go_simp
        refine (OB.out _).mono ?_
        rintro e W ⟨rfl, hb⟩
        replace hM := hid (hM.out.later hb)
        clear hb
        go_wp2_with fail
        refine hK.out _ _ (hM.out.at 0 rfl) (fun hH => ?_)
        clear hK K
        try simp only [Act.put, p1, p2, p3]
        refine rd1 4 rfl (fun K hK => ?_)
        go_simp
        refine (RI.out _).mono ?_
        rintro e W ⟨rfl, hb⟩
        replace hM := hid (hM.out.later hb)
        clear hb
        go_wp2_with fail
        refine hK.out _ _ (hM.out.at 0 rfl) (fun hH => ?_)
        clear hK K
        try simp only [Act.put, p1, p2, p3]
        refine tk 5 rfl hH ?_
        simp only [Act.put, p1, p2, p3]
        refine tkR 6 rfl hH (fun _ h => h) (rwR r) ?_
        simp only [Act.put, p1, p2, p3]
        refine rd1 7 rfl (fun K hK => ?_)
        go_simp
        refine (AI.out _).mono ?_
        rintro e W ⟨rfl, hb⟩
        replace hM := hid (hM.out.later hb)
        clear hb
        go_wp2_with fail
        refine hK.out _ _ (hM.out.at 0 rfl) (fun hH => ?_)
        clear hK K
        try simp only [Act.put, p1, p2, p3]
        refine tk 8 rfl hH ?_
        simp only [Act.put, p1, p2, p3]
        refine tk 9 rfl hH ?_
        simp only [Act.put, p1, p2, p3]
        refine tkR 10 rfl hH (fun _ h => h) (rwR r) ?_
        simp only [Act.put, p1, p2, p3]
        refine rd1 11 rfl (fun K hK => ?_)
        go_simp
        refine (NI.out _).mono ?_
        rintro e W ⟨rfl, hb⟩
        replace hM := hid (hM.out.later hb)
        clear hb
        go_wp2_with fail
        refine hK.out _ _ (hM.out.at 0 rfl) (fun hH => ?_)
        clear hK K
        try simp only [Act.put, p1, p2, p3]
        refine tk 12 rfl hH ?_
        simp only [Act.put, p1, p2, p3]
        refine tk 13 rfl hH ?_
        simp only [Act.put, p1, p2, p3]
        refine tkR 14 rfl hH (fun _ h => h) (rwR r) ?_
        simp only [Act.put, p1, p2, p3]
        refine rd1 15 rfl (fun K hK => ?_)
        go_simp
        refine (ZI.out _).mono ?_
        rintro e W ⟨rfl, hb⟩
        replace hM := hid (hM.out.later hb)
        clear hb
        go_wp2_with fail
        refine hK.out _ _ (hM.out.at 0 rfl) (fun hH => ?_)
        clear hK K
        try simp only [Act.put, p1, p2, p3]
        refine tk 16 rfl hH ?_
        simp only [Act.put, p1, p2, p3]
        refine tk 17 rfl hH ?_
        simp only [Act.put, p1, p2, p3]
        refine wpAnyH_done (by kernel_rfl) ?_ _
        go_wp2
        go_ret
        exact ⟨ret_bool HV.out.symm, hM.out.below⟩
end Go.Proofs.YtgkgkiheoadbfaaGreatDoor.Tab
namespace Go.Proofs.YtgkgkiheoadbfaaGreatDoor.Tab
set_option maxRecDepth 20000
open Go.RowKit
set_option linter.unusedVariables false

/-- What a thread of a record must meet, and what all of them must: 12.2. -/
def CR (ρ : Nat → Nat) (t : Nat) : Prop := (ρ (18 + t) = 0 ∧ ρ (22 + t) = 0) ∨ (Aw (ρ (18 + t)) ∧ ρ (22 + t) ≠ 0 ∧ ρ (22 + t) ≤ ρ 28 ∧ ∀ s, s < t → ρ (22 + s) ≠ ρ (22 + t))
theorem cr_iff {ρ : Nat → Nat} : (∀ t, t < 4 → CR ρ t) ↔ aR ρ ∧ nR ρ := by
  constructor
  · intro h
    refine ⟨fun t ht => ?_, fun t ht => ?_⟩
    · rcases h t ht with ⟨h1, h2⟩ | ⟨h1, h2, _, _⟩
      · exact ⟨by rw [h1, h2], Or.inl h1⟩
      · exact ⟨⟨fun e => absurd (e ▸ h1) aw_zero, fun e => absurd e h2⟩, Or.inr h1⟩
    · rcases h t ht with ⟨h1, h2⟩ | ⟨h1, h2, h3, h4⟩
      · exact ⟨by rw [h2]; exact Nat.zero_le _, fun o _ => Or.inl h2⟩
      · exact ⟨h3, fun o ho => Or.inr (fun e => h4 o ho e.symm)⟩
  · rintro ⟨ha, hn⟩ t ht
    obtain ⟨a1, a2⟩ := ha t ht
    obtain ⟨n1, n2⟩ := hn t ht
    by_cases e : ρ (18 + t) = 0
    · exact Or.inl ⟨e, a1.1 e⟩
    · have hy : ρ (22 + t) ≠ 0 := fun h => e (a1.2 h)
      exact Or.inr ⟨a2.resolve_left e, hy, n1, fun s hs h => by
        rcases n2 s hs with h2 | h2
        · exact hy h2
        · exact h2 h.symm⟩
theorem cr_ans {ρ : Nat → Nat} {t : Nat} (h : CR ρ t) : ρ (18 + t) = 0 ∨ Aw (ρ (18 + t)) := by
  rcases h with ⟨h, _⟩ | ⟨h, _⟩
  · exact Or.inl h
  · exact Or.inr h
theorem nw_iff {ρ : Nat → Nat} : (∀ j, j < 32 → nw ρ j = ρ j) ↔ ρ 26 < 16 ∧ zR ρ := by
  constructor
  · intro h
    refine ⟨?_, fun j hj => ?_⟩
    · have := h 26 (by decide)
      unfold nw at this
      rw [if_pos rfl] at this
      omega
    · have := h (29 + j) (by omega)
      unfold nw at this
      rw [if_neg (by omega), if_neg (by omega)] at this
      exact this.symm
  · rintro ⟨h1, h2⟩ j hj
    unfold nw
    by_cases e : j = 26
    · subst e; rw [if_pos rfl]; omega
    · rw [if_neg e]
      by_cases e2 : j < 29
      · rw [if_pos e2]
      · rw [if_neg e2]
        have := h2 (j - 29) (by omega)
        rw [show 29 + (j - 29) = j by omega] at this
        exact this.symm
theorem isRec_iff {ρ : Nat → Nat} : isRec ρ ↔ isTh (ρ 0 : Nat) (ob ρ) ∧ (ρ 27 ≤ 1099511627776 ∧ ρ 28 ≤ 1099511627776) ∧ (∀ t, t < 4 → CR ρ t) ∧ (∀ j, j < 32 → nw ρ j = ρ j) := by
  rw [cr_iff, nw_iff, isTh_ob]
  unfold isRec
  constructor
  · rintro ⟨h1, h2, h3, h4, h5, h6, h7⟩
    exact ⟨h1, ⟨h6, h7⟩, ⟨h2, h3⟩, h5, h4⟩
  · rintro ⟨h1, ⟨h6, h7⟩, ⟨h2, h3⟩, h5, h4⟩
    exact ⟨h1, h2, h3, h4, h5, h6, h7⟩
theorem Th.low {B C : Nat} {w : World} {kind : Int} {c : Nat → Nat} {v : Value} {t : Tb} {n : Int} (h : Th B w kind c v t n) : Th B w kind c v t n := h
set_option maxRecDepth 20000 in
set_option maxHeartbeats 16000000 in
theorem RecOf_is {ρ : Nat → Nat} (U : ∀ j, j < 32 → ρ j < 18446744073709551616) {b : Bool} (hb : b = true ↔ isRec ρ) {bc : Nat} (w : World) (hC : Bo w bc (rl ρ)) :
    Calls Tryz.prog 4 #[.slice (some ⟨bc, 0, none⟩) 32 32] w (fun e w' => ∃ f, (∀ j, j < 37 → (f j).oneCell' = true) ∧ e = .returned (.tuple #[.agg (rv f).toArray, .bool b]) ∧ (b = true → ∃ B v t x, w.heap.size ≤ B ∧ v.oneCell' = true ∧ rv f = rv (rf (tg (ρ 0 : Nat) v t x) ρ 4) ∧ Th B w' (ρ 0 : Nat) (ob ρ) v t x) ∧ Below w.heap.size w w') := by
  have HC : Hid _ := hC
  have HBR : Hid (b = true ↔ isTh (ρ 0 : Nat) (ob ρ) ∧ (ρ 27 ≤ 1099511627776 ∧ ρ 28 ≤ 1099511627776) ∧ (∀ t, t < 4 → CR ρ t) ∧ (∀ j, j < 32 → nw ρ j = ρ j)) := hb.trans isRec_iff
  have U64 : Hid _ := U
  clear hC hb
  obtain ⟨k, hk⟩ : ∃ k, ρ 0 = k := ⟨_, rfl⟩
  have HK : Hid _ := hk
  by_cases h6 : k ≤ 6
  · have g6 : ¬ (6 : Int) < (k : Int) := by omega
    have gd : decide ((6 : Int) < (k : Int)) = false := by simp; omega
    have ek : IntKind.i64.wrap (k : Int) = k := by rw [IntKind.wrap_i64]; omega
    have K6 : ((k : Nat) : Int) ≤ 6 := by omega
    by_cases hO : isTh (ρ 0 : Nat) (ob ρ)
    · have TO : Hid (∀ {bc oc kc : Nat} {w : World} (hc : Wf w bc oc (ob ρ)), _) := fun {bc oc kc w} hc => ThingOf_is (kind := (ρ 0 : Nat)) (b := true) (bc := bc) (oc := oc) (kc := kc) ⟨fun _ => hO, fun _ => rfl⟩ hc
      rw [hk] at TO
      have HO : Hid (isTh (k : Nat) (ob ρ)) := hk ▸ hO
      clear hO hk
      have hM : Hid _ := (((Ms.nil w).bornR zf_all.symm 40 (b := w.heap.size) rfl).bornR zf_all.symm 40 (b := w.heap.size + 1) (by simp))
      have x1 := (HC.out.later hM.out.below).rwordx (show 0 < 32 by decide) HK.out
      go_enter Tryz.func4, Tryz.ntmps4
      go_wp2_with fail
      clear x1
      generalize World.alloc _ _ = W at hM ⊢
      generalize hsz : w.heap.size = n at hM ⊢
      clear hsz
      obtain ⟨y27, h27⟩ : ∃ y, ρ 27 = y := ⟨_, rfl⟩
      obtain ⟨y28, h28⟩ : ∃ y, ρ 28 = y := ⟨_, rfl⟩
      have H27 : Hid _ := h27
      have H28 : Hid _ := h28
      clear h27 h28
      replace hM := hid (hM.out.drew)
      refine wp_region_held_drew (S := fun w' => Bo w' bc (rl ρ)) (by kernel_rfl) (HC.out.later hM.out.below) (fun hH => ?_)
      generalize World.drew _ = W at hM hH  ⊢
      refine tk 0 rfl hH ?_
      simp only [Act.put, p1, p2, p3]
      refine tk 1 rfl hH ?_
      simp only [Act.put, p1, p2, p3]
      refine tk 2 rfl hH ?_ (by intro w h; have c0 := h.rwordx (show 0 < 32 by decide) HK.out; clear h; go_simp; try with_reducible rfl)
      simp only [Act.put, p1, p2, p3]
      refine tk 3 rfl hH ?_
      simp only [Act.put, p1, p2, p3]
      refine tk 4 rfl hH ?_
      simp only [Act.put, p1, p2, p3]
      refine tk 5 rfl hH ?_
      simp only [Act.put, p1, p2, p3]
      refine rd1 6 rfl (fun K hK => ?_)
      go_simp
      obtain ⟨B0, hB0⟩ : ∃ q, q = W.heap.size := ⟨_, rfl⟩
      have HB0 : Hid (n ≤ B0) := by rw [hB0]; exact hM.out.le
      refine (TO.out ⟨fun j hj => (HC.out.later hM.out.below).rword (show 1 + j < 32 by omega)⟩).mono ?_
      rintro e W ⟨v, t, x, hv, rfl, hth, hb⟩
      replace hM := hid (hM.out.laterL hb ((hth (by first | rfl | trivial)).isl K6) (Nat.le_refl _))
      clear hb
      have HV : Hid _ := hv
      have F0 : Hid (∀ j, j < 37 → (upl zf 0 (tg (k : Nat) v t x) j).oneCell' = true) := upl_one zf_one (tg_one _ hv t x)
      have TQ : Hid _ := (hth (by first | rfl | trivial)).tq
      rw [← hB0] at hM
      clear hB0
      clear hv hth
      go_wp2_with fail
      refine hK.out _ _ (HC.out.later hM.out.below) (fun hH => ?_)
      clear hK K
      try simp only [Act.put, p1, p2, p3]
      refine tk 7 rfl hH ?_
      simp only [Act.put, p1, p2, p3]
      refine tk 8 rfl hH ?_
      simp only [Act.put, p1, p2, p3]
      refine tk 9 rfl hH ?_
      simp only [Act.put, p1, p2, p3]
      refine tk 10 rfl hH ?_
      simp only [Act.put, p1, p2, p3]
      refine rd1 11 rfl (fun K hK => ?_)
      refine stO rfl ((hM.out.at 0 rfl).thereAt (o := 0) (n := (tg (k : Nat) v t x).length) (by rw [tg_length, rv_length]; decide)) (rwTh (k : Nat) HV.out t x) ?_
      replace hM := hid (hM.out.putAt 0 0 rfl (tg (k : Nat) v t x) (rv (upl zf 0 (tg (k : Nat) v t x))) ((hM.out.at 0 rfl).upl (by rw [tg_length]; decide)))
      refine hK.out _ _ (HC.out.later hM.out.below) (fun hH => ?_)
      clear hK K
      generalize World.setCells _ _ _ _ = W at hM hH ⊢
      try simp only [Act.put]
      refine tk 12 rfl hH ?_
      simp only [Act.put, p1, p2, p3]
      refine wpAnyH_done (by kernel_rfl) ?_ _
      go_wp2_with fail
      replace hM := hid (hM.out.drew)
      refine wp_region_held_drew (S := fun w' => Bo w' bc (rl ρ)) (by kernel_rfl) (HC.out.later hM.out.below) (fun hH => ?_)
      generalize World.drew _ = W at hM hH  ⊢
      refine tk 0 rfl hH ?_
      simp only [Act.put, p1, p2, p3]
      refine tk 1 rfl hH ?_
      simp only [Act.put, p1, p2, p3]
      refine tk 2 rfl hH ?_ (by intro w h; have c0 := h.rwordx (show 27 < 32 by decide) H27.out; clear h; go_simp; try with_reducible rfl)
      simp only [Act.put, p1, p2, p3]
      refine tk 3 rfl hH ?_
      simp only [Act.put, p1, p2, p3]
      refine tk 4 rfl hH ?_
      simp only [Act.put, p1, p2, p3]
      refine tk 5 rfl hH ?_ (by intro w h; have c0 := h.rwordx (show 28 < 32 by decide) H28.out; clear h; go_simp; try with_reducible rfl)
      simp only [Act.put, p1, p2, p3]
      refine tk 6 rfl hH ?_
      simp only [Act.put, p1, p2, p3]
      refine rd1 7 rfl (fun K hK => ?_)
      refine st1o rfl (hM.out.at 0 rfl) 35 (.int .u64 (y27 : Nat)) rfl sz_u (by rw [rv_length]; decide) ?_
      replace hM := hid (hM.out.put1 0 35 rfl (.int .u64 (y27 : Nat)) (rv (upv (upl zf 0 (tg (k : Nat) v t x)) 35 (.int .u64 (y27 : Nat)))) (by rw [rv_length]; decide) (rv_set _ _ (by decide)))
      refine hK.out _ _ (HC.out.later hM.out.below) (fun hH => ?_)
      clear hK K
      generalize World.setCell _ _ _ = W at hM hH ⊢
      try simp only [Act.put]
      refine tk 8 rfl hH ?_
      simp only [Act.put, p1, p2, p3]
      refine rd1 9 rfl (fun K hK => ?_)
      refine st1o rfl (hM.out.at 0 rfl) 36 (.int .u64 (y28 : Nat)) rfl sz_u (by rw [rv_length]; decide) ?_
      replace hM := hid (hM.out.put1 0 36 rfl (.int .u64 (y28 : Nat)) (rv (upv (upv (upl zf 0 (tg (k : Nat) v t x)) 35 (.int .u64 (y27 : Nat))) 36 (.int .u64 (y28 : Nat)))) (by rw [rv_length]; decide) (rv_set _ _ (by decide)))
      refine hK.out _ _ (HC.out.later hM.out.below) (fun hH => ?_)
      clear hK K
      generalize World.setCell _ _ _ = W at hM hH ⊢
      try simp only [Act.put]
      refine wpAnyH_done (by kernel_rfl) ?_ _
      have RZ0 : Hid (rv (upv (upv (upl zf 0 (tg (k : Nat) v t x)) 35 (.int .u64 (y27 : Nat))) 36 (.int .u64 (y28 : Nat))) = rv (rf (tg (k : Nat) v t x) ρ 0)) := by have h := rf_zero (tg_length (k : Nat) v t x) ρ; rw [H27.out, H28.out] at h; exact h
      rw [RZ0.out] at hM
      have FO : Hid (∀ i, ∀ j, j < 37 → (rf (tg (k : Nat) v t x) ρ i j).oneCell' = true) := fun i => rf_one (tg_one _ HV.out t x) (tg_length _ _ _ _)
      clear RZ0
      have x2 := (hM.out.at 0 rfl).rcell (j := 35) (by decide) (rf_ver.trans (by rw [H27.out]))
      have x3 := (hM.out.at 0 rfl).rcell (j := 36) (by decide) (rf_cnt.trans (by rw [H28.out]))
      by_cases g27 : y27 ≤ 1099511627776
      · have d27 : ¬ (1099511627776 : Int) < (y27 : Int) := by omega
        by_cases g28 : y28 ≤ 1099511627776
        · have d28 : ¬ (1099511627776 : Int) < (y28 : Int) := by omega
          have Y2 : Hid (y27 ≤ 1099511627776 ∧ y28 ≤ 1099511627776) := ⟨g27, g28⟩
          clear g27 g28
          obtain ⟨m, hm⟩ : ∃ q, q = W.heap.size := ⟨_, rfl⟩
          have hS : Hid (Sn (W.alloc (.map #[] 0)) m ρ 0) := by rw [hm]; exact Sn.made W ρ
          have hmm := @run_makeMap Tryz.prog
          replace hM := hid (hM.out.bornM hm)
          have HMM : Hid _ := hm
          clear hm
          go_wp2_with fail
          clear hmm
          clear x2 x3
          clear d27 d28
          rw [← HMM.out]
          generalize World.alloc _ _ = W at hM hS ⊢
          go_loopg [53] 4 (fun gg s53 wt => ∃ i : Nat, i ≤ 4 ∧ 4 - i ≤ gg ∧ s53 = .int .i64 i ∧ Hid (Sn wt m ρ i) ∧ Hid (∀ t, t < i → CR ρ t) ∧ Hid (Ms n w wt [(m, []), ((n + 1), rv (rf (tg (k : Nat) v t x) ρ i)), (n, rv zf)] [(B0, v, tl (k : Nat) (ob ρ))]))
          case atStart => exact ⟨0, by omega, by omega, rfl, hS, fun t ht => absurd ht (by omega), hM.out.pick [0, 1, 2]⟩
          case round =>
            clear hM hS
            obtain ⟨i, hi, hgg, rfl, hS, A, hM⟩ := hrel
            obtain ⟨W, rfl⟩ : ∃ q, q = wr := ⟨_, rfl⟩
            by_cases hlt : i < 4
            · obtain ⟨x1, hx⟩ : ∃ x, ρ (18 + i) = x := ⟨_, rfl⟩
              obtain ⟨y1, hy⟩ : ∃ y, ρ (22 + i) = y := ⟨_, rfl⟩
              have HX : Hid _ := hx
              have HY : Hid _ := hy
              have x64 : x1 < 18446744073709551616 := hx ▸ U64.out _ (by omega)
              have y64 : y1 < 18446744073709551616 := hy ▸ U64.out _ (by omega)
              have hi1 : (i : Int) < 4 := by omega
              have hi0 : (0 : Int) ≤ (i : Int) := by omega
              have fa0 : (0 : Int) ≤ 18 + (i : Int) := by omega
              have fa1 : 18 + (i : Int) < 32 := by omega
              have fan : Hid (18 + (i : Int) = ((18 + i : Nat) : Int)) := (by omega : 18 + (i : Int) = ((18 + i : Nat) : Int))
              have fax : 18 + i < 32 := by omega
              have fb0 : (0 : Int) ≤ 22 + (i : Int) := by omega
              have fb1 : 22 + (i : Int) < 32 := by omega
              have fbn : Hid (22 + (i : Int) = ((22 + i : Nat) : Int)) := (by omega : 22 + (i : Int) = ((22 + i : Nat) : Int))
              have fbx : 22 + i < 32 := by omega
              clear hx hy
              by_cases hx0 : x1 = 0
              · subst hx0
                by_cases hy0 : y1 = 0
                · subst hy0
                  have A1 : Hid (CR ρ i) := Or.inl ⟨HX.out, HY.out⟩
                  have gc0 : decide ((y28 : Int) < 0) = false := by simp
                  have gc1 : ¬ (y28 : Int) < 0 := by omega
                  have FB : Hid (∀ w, _) := fun w => refBit_yes (ρ 26) i w (U64.out 26 (by decide)) (by omega)
                  obtain ⟨z26, h26⟩ : ∃ z, ρ 26 = z := ⟨_, rfl⟩
                  have H26 : Hid _ := h26
                  have RN : Hid _ := rf_next (th := tg (k : Nat) v t x) (ρ := ρ) hlt
                  rw [h26] at FB RN
                  clear h26
                  rw [HX.out, HY.out] at RN
                  have RN : Hid (rv (upv (upv (upl (rf (tg (k : Nat) v t x) ρ i) (19 + i * 2) [.int .i64 0, .int .i64 0]) (27 + i) (.int .u64 (0 : Nat))) (31 + i) (.int .i64 ((z26.testBit i).toNat : Nat))) = rv (rf (tg (k : Nat) v t x) ρ (i + 1))) := RN.out
                  obtain ⟨bt, hbt⟩ : ∃ q, z26.testBit i = q := ⟨_, rfl⟩
                  rw [hbt] at FB RN
                  clear hbt
                  have fcx : 19 + i * 2 + 2 ≤ 37 := by omega
                  have fdx : 27 + i < 37 := by omega
                  have fex : 31 + i < 37 := by omega
                  have TG0 : Hid ((upv (upl (rf (tg (k : Nat) v t x) ρ i) (19 + i * 2) [.int .i64 0, .int .i64 0]) (27 + i) (.int .u64 (0 : Nat))) (31 + i) = .int .i64 0) := by show _ = _; unfold upv upl; rw [if_neg (by omega), if_neg (by simp only [List.length_cons, List.length_nil]; omega)]; exact rf_tog_old hlt
                  have fa2 : IntKind.i64.wrap (18 + (i : Int)) = 18 + (i : Int) := (ixw fa0 (Int.lt_of_lt_of_le fa1 (by decide))).1
                  have fb2 : IntKind.i64.wrap (22 + (i : Int)) = 22 + (i : Int) := (ixw fb0 (Int.lt_of_lt_of_le fb1 (by decide))).1
                  have x4 := (HC.out.later hM.out.below).rwordx fax HX.out
                  have x5 := (HC.out.later hM.out.below).rwordx fbx HY.out
                  go_wp2_with fail
                  clear x4 x5
                  refine (rtold_no (x := 0) (by decide) aw_zero _).mono ?_
                  rintro e W ⟨rfl, hb⟩
                  replace hM := hid (hM.out.later hb)
                  replace hS := hid (Sn.later hS.out hb)
                  clear hb
                  obtain ⟨bx6, hbx6⟩ : ∃ q, q = W.heap.size := ⟨_, rfl⟩
                  replace hM := hid (hM.out.born [.int .i64 0, .int .i64 0] 35 (b := bx6) hbx6)
                  have Hbx6 : Hid _ := hbx6
                  clear hbx6
                  replace hS := hid (hS.out.new (.cells [.int .i64 0, .int .i64 0].toArray 35))
                  go_wp2_with (first
                    | (rw [← Hbx6.out]; refine sR rfl (hM.out.at 0 rfl) rfl ((rwA 0 0).len (rwA _ _)) (rwA _ _) ?_
                       replace hS := hid (hS.out.asideL (hM.out.ne 1 0 rfl rfl (by decide)) 0 [.int .i64 0, .int .i64 0])
                       replace hM := hid (hM.out.put 0 rfl [.int .i64 0, .int .i64 0] ((rwA 0 0).len (rwA _ _)))
                       generalize World.setCells _ _ _ _ = W at hM hS ⊢
                       have x7 := (HC.out.later hM.out.below).rwordx fax HX.out
                       have x8 := (HC.out.later hM.out.below).rwordx fbx HY.out
                       have c9 := hM.out.cell 0 0 rfl rfl
                       have c10 := hM.out.cell 0 1 rfl rfl)
                    | (refine sR rfl (hM.out.at 0 rfl) rfl ((rwA _ _).len (rwA 0 0)) (rwA 0 0) ?_
                       replace hS := hid (hS.out.asideL (hM.out.ne 1 0 rfl rfl (by decide)) 0 [.int .i64 0, .int .i64 0])
                       replace hM := hid (hM.out.put 0 rfl [.int .i64 0, .int .i64 0] ((rwA _ _).len (rwA 0 0)))
                       generalize World.setCells _ _ _ _ = W at hM hS ⊢
                       clear x7 x8 c9 c10
                       have x11 := (HC.out.later hM.out.below).rwordx fax HX.out
                       have x12 := (HC.out.later hM.out.below).rwordx fbx HY.out
                       have c13 := hM.out.cell 0 0 rfl rfl
                       have c14 := hM.out.cell 0 1 rfl rfl
                       have x15 := (hM.out.at 2 rfl).rcell (j := 36) (by decide) (rf_cnt.trans (by rw [H28.out]))
                       obtain ⟨W2, mu, hS2, hgr⟩ := hS.out.add hi (U64.out _ (by omega))
                       rw [HY.out] at mu
                       replace mu : (Instr.mapUpdate 57 (.map (some m)) (.int .u64 0) (.bool true)).run Tryz.prog W = .ok () W2 := mu
                       have hM2 := hid (hM.out.turned 1 rfl hgr hS2.froz)
                       have HS2 : Hid (Sn W2 m ρ (i + 1)) := hS2
                       clear hS2 hgr
                       have cq0 := hM2.out.cell 0 0 rfl rfl
                       have cq1 := hM2.out.cell 0 1 rfl rfl)
                    | (refine sO rfl ((hM2.out.at 2 rfl).thereAt (o := 19 + i * 2) (n := ([.int .i64 0, .int .i64 0] : List Value).length) (by rw [rv_length]; exact fcx)) rfl (rwA 0 0) ?_
                       replace hS := hid (HS2.out.asideL (hM2.out.ne 1 2 rfl rfl (by decide)) (19 + i * 2) [.int .i64 0, .int .i64 0])
                       replace hM := hid (hM2.out.putAt 2 (19 + i * 2) rfl [.int .i64 0, .int .i64 0] (rv (upl (rf (tg (k : Nat) v t x) ρ i) (19 + i * 2) [.int .i64 0, .int .i64 0])) ((hM2.out.at 2 rfl).upl fcx))
                       generalize World.setCells _ _ _ _ = W at hM hS ⊢
                       clear hM2 HS2 mu cq0 cq1)
                    | (refine s1 rfl (hM.out.at 2 rfl) (27 + i) rfl (.int .u64 (0 : Nat)) rfl sz_u ?_ (by rw [rv_length]; exact fdx)
                       replace hS := hid (hS.out.aside1 (j := (27 + i)) (hM.out.ne 1 2 rfl rfl (by decide)) (.int .u64 (0 : Nat)))
                       replace hM := hid (hM.out.put1 2 (27 + i) rfl (.int .u64 (0 : Nat)) (rv (upv (upl (rf (tg (k : Nat) v t x) ρ i) (19 + i * 2) [.int .i64 0, .int .i64 0]) (27 + i) (.int .u64 (0 : Nat)))) (by rw [rv_length]; exact fdx) (rv_set _ _ fdx))
                       generalize World.setCell _ _ _ = W at hM hS ⊢
                       have x16 := (HC.out.later hM.out.below).rwordx (show 26 < 32 by decide) H26.out))
                  refine (FB.out _).mono ?_
                  rintro e W ⟨rfl, hg⟩
                  have hb := hg.below
                  clear hg
                  replace hS := hid (hS.out.later hb)
                  replace hM := hid (hM.out.later hb)
                  clear hb
                  clear x11 x12 c13 c14 x15 x16
                  rcases bt with _ | _
                  · have R2 := RN.out
                    rw [show (((false).toNat : Nat) : Int) = 0 from rfl, rf_tog0 hlt _ TG0.out] at R2
                    rw [R2] at hM
                    clear R2 RN TG0
                    go_wp2
                    replace hS : Hid (Sn _ m ρ (i + 1)) := hS
                    go_roundg (4 - (i + 1))
                    case measure => omega
                    case rel => exact ⟨i + 1, by omega, by omega, by go_num, hS, fun q hq => by by_cases e : q = i; (subst e; exact A1.out); exact A.out q (by omega), hM.out.pick [1, 2, 3]⟩
                  · go_wp2_with (first
                      | (refine s1 rfl (hM.out.at 2 rfl) (31 + i) rfl (.int .i64 1) rfl sz_i ?_ (by rw [rv_length]; exact fex)
                         replace hS := hid (hS.out.aside1 (j := (31 + i)) (hM.out.ne 1 2 rfl rfl (by decide)) (.int .i64 1))
                         replace hM := hid (hM.out.put1 2 (31 + i) rfl (.int .i64 1) (rv (upv (upv (upl (rf (tg (k : Nat) v t x) ρ i) (19 + i * 2) [.int .i64 0, .int .i64 0]) (27 + i) (.int .u64 (0 : Nat))) (31 + i) (.int .i64 1))) (by rw [rv_length]; exact fex) (rv_set _ _ fex))
                         generalize World.setCell _ _ _ = W at hM hS ⊢))
                    have R2 := RN.out
                    rw [show (((true).toNat : Nat) : Int) = 1 from rfl] at R2
                    rw [R2] at hM
                    clear R2 RN TG0
                    go_roundg (4 - (i + 1))
                    case measure => omega
                    case rel => exact ⟨i + 1, by omega, by omega, by go_num, hS, fun q hq => by by_cases e : q = i; (subst e; exact A1.out); exact A.out q (by omega), hM.out.pick [1, 2, 3]⟩
                · have fy : ((y1 : Nat) : Int) ≠ 0 := by omega
                  have gy : (((y1 : Nat) : Int) == 0) = false := by simpa using hy0
                  have eb : b = false := by cases b with | false => rfl | true => exact absurd (HBR.out.1 rfl) (fun h => by rcases h.2.2.1 i hlt with ⟨_, e⟩ | ⟨e, _⟩; exact hy0 (HY.out.symm.trans e); rw [HX.out] at e; exact aw_zero e)
                  subst eb
                  have fa2 : IntKind.i64.wrap (18 + (i : Int)) = 18 + (i : Int) := (ixw fa0 (Int.lt_of_lt_of_le fa1 (by decide))).1
                  have fb2 : IntKind.i64.wrap (22 + (i : Int)) = 22 + (i : Int) := (ixw fb0 (Int.lt_of_lt_of_le fb1 (by decide))).1
                  have x4 := (HC.out.later hM.out.below).rwordx fax HX.out
                  have x5 := (HC.out.later hM.out.below).rwordx fbx HY.out
                  go_wp2_with fail
                  clear x4 x5
                  refine (rtold_no (x := 0) (by decide) aw_zero _).mono ?_
                  rintro e W ⟨rfl, hb⟩
                  replace hM := hid (hM.out.later hb)
                  replace hS := hid (Sn.later hS.out hb)
                  clear hb
                  obtain ⟨bx6, hbx6⟩ : ∃ q, q = W.heap.size := ⟨_, rfl⟩
                  replace hM := hid (hM.out.born [.int .i64 0, .int .i64 0] 35 (b := bx6) hbx6)
                  have Hbx6 : Hid _ := hbx6
                  clear hbx6
                  replace hS := hid (hS.out.new (.cells [.int .i64 0, .int .i64 0].toArray 35))
                  go_wp2_with (first
                    | (rw [← Hbx6.out]; refine sR rfl (hM.out.at 0 rfl) rfl ((rwA 0 0).len (rwA 0 0)) (rwA 0 0) ?_
                       replace hS := hid (hS.out.asideL (hM.out.ne 1 0 rfl rfl (by decide)) 0 [.int .i64 0, .int .i64 0])
                       replace hM := hid (hM.out.put 0 rfl [.int .i64 0, .int .i64 0] ((rwA 0 0).len (rwA 0 0)))
                       generalize World.setCells _ _ _ _ = W at hM hS ⊢
                       have x7 := (HC.out.later hM.out.below).rwordx fax HX.out
                       have x8 := (HC.out.later hM.out.below).rwordx fbx HY.out
                       have c9 := hM.out.cell 0 0 rfl rfl
                       have c10 := hM.out.cell 0 1 rfl rfl)
                    | (refine sR rfl (hM.out.at 0 rfl) rfl ((rwA 0 0).len (rwA 0 0)) (rwA 0 0) ?_
                       replace hS := hid (hS.out.asideL (hM.out.ne 1 0 rfl rfl (by decide)) 0 [.int .i64 0, .int .i64 0])
                       replace hM := hid (hM.out.put 0 rfl [.int .i64 0, .int .i64 0] ((rwA 0 0).len (rwA 0 0)))
                       generalize World.setCells _ _ _ _ = W at hM hS ⊢
                       clear x7 x8 c9 c10
                       have x11 := (HC.out.later hM.out.below).rwordx fax HX.out
                       have x12 := (HC.out.later hM.out.below).rwordx fbx HY.out
                       have c13 := hM.out.cell 0 0 rfl rfl
                       have c14 := hM.out.cell 0 1 rfl rfl)
                    | (refine lR rfl (hM.out.at 2 rfl) rfl (rwV (FO.out i)) ?_)
                    | (refine sR rfl (hM.out.at 3 rfl) rfl ((rwV zf_one).len (rwV (FO.out i))) (rwV (FO.out i)) ?_
                       replace hS := hid (hS.out.asideL (hM.out.ne 1 3 rfl rfl (by decide)) 0 (rv (rf (tg (k : Nat) v t x) ρ i)))
                       replace hM := hid (hM.out.put 3 rfl (rv (rf (tg (k : Nat) v t x) ρ i)) ((rwV zf_one).len (rwV (FO.out i))))
                       generalize World.setCells _ _ _ _ = W at hM hS ⊢))
                  first | exact bodyPost_ret (res1s Tryz.results4 (hM.out.at 3 rfl) (rwV (FO.out i)) (.bool false)) rfl ⟨_, (FO.out i), rfl, hM.out.below⟩ | exact bodyPost_ret (res1s Tryz.results4 (hM.out.at 3 rfl) (rwV (FO.out i)) (.bool false)) rfl ⟨_, (FO.out i), rfl, fun h => (by cases h), hM.out.below⟩
              · have fx : ((x1 : Nat) : Int) ≠ 0 := by omega
                have gx : (((x1 : Nat) : Int) == 0) = false := by simpa using hx0
                by_cases ha : Aw x1
                · have RT : Hid (∀ w : World, _) := fun w => rtold_yes x64 ha w
                  have xa1 : ((x1 / 4294967296 : Nat) : Int) ≠ 0 := by have := ha.1; omega
                  have xa2 : (((x1 / 4294967296 : Nat) : Int) == 0) = false := by simpa using xa1
                  by_cases hy0 : y1 = 0
                  · have eb : b = false := by cases b with | false => rfl | true => exact absurd (HBR.out.1 rfl) (fun h => by rcases h.2.2.1 i hlt with ⟨e, _⟩ | ⟨_, e, _⟩; exact hx0 (HX.out.symm.trans e); exact e (HY.out.trans hy0))
                    subst eb
                    obtain ⟨xa, hxa⟩ : ∃ q, x1 / 4294967296 = q := ⟨_, rfl⟩
                    obtain ⟨xb, hxb⟩ : ∃ q, x1 % 4294967296 = q := ⟨_, rfl⟩
                    have HXA : Hid (ρ (18 + i) / 4294967296 = xa ∧ ρ (18 + i) % 4294967296 = xb) := by show _ ∧ _; rw [HX.out]; exact ⟨hxa, hxb⟩
                    rw [hxa, hxb] at RT
                    rw [hxa] at xa1 xa2
                    clear hxa hxb ha hx0
                    subst hy0
                    have fa2 : IntKind.i64.wrap (18 + (i : Int)) = 18 + (i : Int) := (ixw fa0 (Int.lt_of_lt_of_le fa1 (by decide))).1
                    have fb2 : IntKind.i64.wrap (22 + (i : Int)) = 22 + (i : Int) := (ixw fb0 (Int.lt_of_lt_of_le fb1 (by decide))).1
                    have x4 := (HC.out.later hM.out.below).rwordx fax HX.out
                    have x5 := (HC.out.later hM.out.below).rwordx fbx HY.out
                    go_wp2_with fail
                    clear x4 x5
                    refine (RT.out _).mono ?_
                    rintro e W ⟨rfl, hb⟩
                    replace hM := hid (hM.out.later hb)
                    replace hS := hid (Sn.later hS.out hb)
                    clear hb
                    obtain ⟨bx6, hbx6⟩ : ∃ q, q = W.heap.size := ⟨_, rfl⟩
                    replace hM := hid (hM.out.born [.int .i64 0, .int .i64 0] 35 (b := bx6) hbx6)
                    have Hbx6 : Hid _ := hbx6
                    clear hbx6
                    replace hS := hid (hS.out.new (.cells [.int .i64 0, .int .i64 0].toArray 35))
                    go_wp2_with (first
                      | (rw [← Hbx6.out]; refine sR rfl (hM.out.at 0 rfl) rfl ((rwA 0 0).len (rwA _ _)) (rwA _ _) ?_
                         replace hS := hid (hS.out.asideL (hM.out.ne 1 0 rfl rfl (by decide)) 0 [.int .i64 (xa : Nat), .int .i64 (xb : Nat)])
                         replace hM := hid (hM.out.put 0 rfl [.int .i64 (xa : Nat), .int .i64 (xb : Nat)] ((rwA 0 0).len (rwA _ _)))
                         generalize World.setCells _ _ _ _ = W at hM hS ⊢
                         have x7 := (HC.out.later hM.out.below).rwordx fax HX.out
                         have x8 := (HC.out.later hM.out.below).rwordx fbx HY.out
                         have c9 := hM.out.cell 0 0 rfl rfl
                         have c10 := hM.out.cell 0 1 rfl rfl
                         have x11 := (hM.out.at 2 rfl).rcell (j := 36) (by decide) (rf_cnt.trans (by rw [H28.out])))
                      | (refine lR rfl (hM.out.at 2 rfl) rfl (rwV (FO.out i)) ?_)
                      | (refine sR rfl (hM.out.at 3 rfl) rfl ((rwV zf_one).len (rwV (FO.out i))) (rwV (FO.out i)) ?_
                         replace hS := hid (hS.out.asideL (hM.out.ne 1 3 rfl rfl (by decide)) 0 (rv (rf (tg (k : Nat) v t x) ρ i)))
                         replace hM := hid (hM.out.put 3 rfl (rv (rf (tg (k : Nat) v t x) ρ i)) ((rwV zf_one).len (rwV (FO.out i))))
                         generalize World.setCells _ _ _ _ = W at hM hS ⊢))
                    first | exact bodyPost_ret (res1s Tryz.results4 (hM.out.at 3 rfl) (rwV (FO.out i)) (.bool false)) rfl ⟨_, (FO.out i), rfl, hM.out.below⟩ | exact bodyPost_ret (res1s Tryz.results4 (hM.out.at 3 rfl) (rwV (FO.out i)) (.bool false)) rfl ⟨_, (FO.out i), rfl, fun h => (by cases h), hM.out.below⟩
                  · by_cases hyc : y1 ≤ y28
                    · rcases hs : seenB ρ i y1 with _ | _
                      · have HSB : Hid _ := hs
                        have A1 : Hid (CR ρ i) := Or.inr ⟨by rw [HX.out]; exact ha, by rw [HY.out]; exact hy0, by rw [HY.out, H28.out]; exact hyc, fun q hq e => by
                          have : seenB ρ i y1 = true := seenB_iff.2 ⟨q, hq, e.trans HY.out⟩
                          rw [HSB.out] at this; exact absurd this (by decide)⟩
                        obtain ⟨xa, hxa⟩ : ∃ q, x1 / 4294967296 = q := ⟨_, rfl⟩
                        obtain ⟨xb, hxb⟩ : ∃ q, x1 % 4294967296 = q := ⟨_, rfl⟩
                        have HXA : Hid (ρ (18 + i) / 4294967296 = xa ∧ ρ (18 + i) % 4294967296 = xb) := by show _ ∧ _; rw [HX.out]; exact ⟨hxa, hxb⟩
                        rw [hxa, hxb] at RT
                        rw [hxa] at xa1 xa2
                        clear hxa hxb ha hx0
                        have fy : ((y1 : Nat) : Int) ≠ 0 := by omega
                        have gy : (((y1 : Nat) : Int) == 0) = false := by simpa using hy0
                        have gc : ¬ (y28 : Int) < (y1 : Int) := by omega
                        have gc2 : decide ((y28 : Int) < (y1 : Int)) = false := by simp; omega
                        have g0 : (0 : Int) < (y1 : Int) := by omega
                        clear hyc hy0
                        clear hs
                        have FB : Hid (∀ w, _) := fun w => refBit_yes (ρ 26) i w (U64.out 26 (by decide)) (by omega)
                        obtain ⟨z26, h26⟩ : ∃ z, ρ 26 = z := ⟨_, rfl⟩
                        have H26 : Hid _ := h26
                        have RN : Hid _ := rf_next (th := tg (k : Nat) v t x) (ρ := ρ) hlt
                        rw [h26] at FB RN
                        clear h26
                        rw [HXA.out.1, HXA.out.2, HY.out] at RN
                        obtain ⟨bt, hbt⟩ : ∃ q, z26.testBit i = q := ⟨_, rfl⟩
                        rw [hbt] at FB RN
                        clear hbt
                        have fcx : 19 + i * 2 + 2 ≤ 37 := by omega
                        have fdx : 27 + i < 37 := by omega
                        have fex : 31 + i < 37 := by omega
                        have TG0 : Hid ((upv (upl (rf (tg (k : Nat) v t x) ρ i) (19 + i * 2) [.int .i64 (xa : Nat), .int .i64 (xb : Nat)]) (27 + i) (.int .u64 (y1 : Nat))) (31 + i) = .int .i64 0) := by show _ = _; unfold upv upl; rw [if_neg (by omega), if_neg (by simp only [List.length_cons, List.length_nil]; omega)]; exact rf_tog_old hlt
                        have fa2 : IntKind.i64.wrap (18 + (i : Int)) = 18 + (i : Int) := (ixw fa0 (Int.lt_of_lt_of_le fa1 (by decide))).1
                        have fb2 : IntKind.i64.wrap (22 + (i : Int)) = 22 + (i : Int) := (ixw fb0 (Int.lt_of_lt_of_le fb1 (by decide))).1
                        have x4 := (HC.out.later hM.out.below).rwordx fax HX.out
                        have x5 := (HC.out.later hM.out.below).rwordx fbx HY.out
                        go_wp2_with fail
                        clear x4 x5
                        refine (RT.out _).mono ?_
                        rintro e W ⟨rfl, hb⟩
                        replace hM := hid (hM.out.later hb)
                        replace hS := hid (Sn.later hS.out hb)
                        clear hb
                        obtain ⟨bx6, hbx6⟩ : ∃ q, q = W.heap.size := ⟨_, rfl⟩
                        replace hM := hid (hM.out.born [.int .i64 0, .int .i64 0] 35 (b := bx6) hbx6)
                        have Hbx6 : Hid _ := hbx6
                        clear hbx6
                        replace hS := hid (hS.out.new (.cells [.int .i64 0, .int .i64 0].toArray 35))
                        go_wp2_with (first
                          | (rw [← Hbx6.out]; refine sR rfl (hM.out.at 0 rfl) rfl ((rwA 0 0).len (rwA _ _)) (rwA _ _) ?_
                             replace hS := hid (hS.out.asideL (hM.out.ne 1 0 rfl rfl (by decide)) 0 [.int .i64 (xa : Nat), .int .i64 (xb : Nat)])
                             replace hM := hid (hM.out.put 0 rfl [.int .i64 (xa : Nat), .int .i64 (xb : Nat)] ((rwA 0 0).len (rwA _ _)))
                             generalize World.setCells _ _ _ _ = W at hM hS ⊢
                             have x7 := (HC.out.later hM.out.below).rwordx fax HX.out
                             have x8 := (HC.out.later hM.out.below).rwordx fbx HY.out
                             have c9 := hM.out.cell 0 0 rfl rfl
                             have c10 := hM.out.cell 0 1 rfl rfl
                             have x11 := (hM.out.at 2 rfl).rcell (j := 36) (by decide) (rf_cnt.trans (by rw [H28.out]))
                             have lk := hS.out.look y64 HSB.out
                             obtain ⟨W2, mu, hS2, hgr⟩ := hS.out.add hi (U64.out _ (by omega))
                             rw [HY.out] at mu
                             have hM2 := hid (hM.out.turned 1 rfl hgr hS2.froz)
                             have HS2 : Hid (Sn W2 m ρ (i + 1)) := hS2
                             clear hS2 hgr
                             have cq0 := hM2.out.cell 0 0 rfl rfl
                             have cq1 := hM2.out.cell 0 1 rfl rfl)
                          | (refine sO rfl ((hM2.out.at 2 rfl).thereAt (o := 19 + i * 2) (n := ([.int .i64 (xa : Nat), .int .i64 (xb : Nat)] : List Value).length) (by rw [rv_length]; exact fcx)) rfl (rwA (xa : Nat) (xb : Nat)) ?_
                             replace hS := hid (HS2.out.asideL (hM2.out.ne 1 2 rfl rfl (by decide)) (19 + i * 2) [.int .i64 (xa : Nat), .int .i64 (xb : Nat)])
                             replace hM := hid (hM2.out.putAt 2 (19 + i * 2) rfl [.int .i64 (xa : Nat), .int .i64 (xb : Nat)] (rv (upl (rf (tg (k : Nat) v t x) ρ i) (19 + i * 2) [.int .i64 (xa : Nat), .int .i64 (xb : Nat)])) ((hM2.out.at 2 rfl).upl fcx))
                             generalize World.setCells _ _ _ _ = W at hM hS ⊢
                             clear hM2 HS2 mu cq0 cq1 lk)
                          | (refine s1 rfl (hM.out.at 2 rfl) (27 + i) rfl (.int .u64 (y1 : Nat)) rfl sz_u ?_ (by rw [rv_length]; exact fdx)
                             replace hS := hid (hS.out.aside1 (j := (27 + i)) (hM.out.ne 1 2 rfl rfl (by decide)) (.int .u64 (y1 : Nat)))
                             replace hM := hid (hM.out.put1 2 (27 + i) rfl (.int .u64 (y1 : Nat)) (rv (upv (upl (rf (tg (k : Nat) v t x) ρ i) (19 + i * 2) [.int .i64 (xa : Nat), .int .i64 (xb : Nat)]) (27 + i) (.int .u64 (y1 : Nat)))) (by rw [rv_length]; exact fdx) (rv_set _ _ fdx))
                             generalize World.setCell _ _ _ = W at hM hS ⊢
                             have x12 := (HC.out.later hM.out.below).rwordx (show 26 < 32 by decide) H26.out))
                        refine (FB.out _).mono ?_
                        rintro e W ⟨rfl, hg⟩
                        have hb := hg.below
                        clear hg
                        replace hS := hid (hS.out.later hb)
                        replace hM := hid (hM.out.later hb)
                        clear hb
                        clear x7 x8 c9 c10 x11 x12
                        rcases bt with _ | _
                        · have R2 := RN.out
                          rw [show (((false).toNat : Nat) : Int) = 0 from rfl, rf_tog0 hlt _ TG0.out] at R2
                          rw [R2] at hM
                          clear R2 RN TG0
                          go_wp2
                          replace hS : Hid (Sn _ m ρ (i + 1)) := hS
                          go_roundg (4 - (i + 1))
                          case measure => omega
                          case rel => exact ⟨i + 1, by omega, by omega, by go_num, hS, fun q hq => by by_cases e : q = i; (subst e; exact A1.out); exact A.out q (by omega), hM.out.pick [1, 2, 3]⟩
                        · go_wp2_with (first
                            | (refine s1 rfl (hM.out.at 2 rfl) (31 + i) rfl (.int .i64 1) rfl sz_i ?_ (by rw [rv_length]; exact fex)
                               replace hS := hid (hS.out.aside1 (j := (31 + i)) (hM.out.ne 1 2 rfl rfl (by decide)) (.int .i64 1))
                               replace hM := hid (hM.out.put1 2 (31 + i) rfl (.int .i64 1) (rv (upv (upv (upl (rf (tg (k : Nat) v t x) ρ i) (19 + i * 2) [.int .i64 (xa : Nat), .int .i64 (xb : Nat)]) (27 + i) (.int .u64 (y1 : Nat))) (31 + i) (.int .i64 1))) (by rw [rv_length]; exact fex) (rv_set _ _ fex))
                               generalize World.setCell _ _ _ = W at hM hS ⊢))
                          have R2 := RN.out
                          rw [show (((true).toNat : Nat) : Int) = 1 from rfl] at R2
                          rw [R2] at hM
                          clear R2 RN TG0
                          go_roundg (4 - (i + 1))
                          case measure => omega
                          case rel => exact ⟨i + 1, by omega, by omega, by go_num, hS, fun q hq => by by_cases e : q = i; (subst e; exact A1.out); exact A.out q (by omega), hM.out.pick [1, 2, 3]⟩
                      · have HSB : Hid _ := hs
                        have eb : b = false := by cases b with | false => rfl | true => exact absurd (HBR.out.1 rfl) (fun h => by rcases h.2.2.1 i hlt with ⟨e, _⟩ | ⟨_, _, _, e⟩; exact hx0 (HX.out.symm.trans e); obtain ⟨q, hq, h2⟩ := seenB_iff.1 HSB.out; exact e q hq (h2.trans HY.out.symm))
                        subst eb
                        obtain ⟨xa, hxa⟩ : ∃ q, x1 / 4294967296 = q := ⟨_, rfl⟩
                        obtain ⟨xb, hxb⟩ : ∃ q, x1 % 4294967296 = q := ⟨_, rfl⟩
                        have HXA : Hid (ρ (18 + i) / 4294967296 = xa ∧ ρ (18 + i) % 4294967296 = xb) := by show _ ∧ _; rw [HX.out]; exact ⟨hxa, hxb⟩
                        rw [hxa, hxb] at RT
                        rw [hxa] at xa1 xa2
                        clear hxa hxb ha hx0
                        have fy : ((y1 : Nat) : Int) ≠ 0 := by omega
                        have gy : (((y1 : Nat) : Int) == 0) = false := by simpa using hy0
                        have gc : ¬ (y28 : Int) < (y1 : Int) := by omega
                        have gc2 : decide ((y28 : Int) < (y1 : Int)) = false := by simp; omega
                        have g0 : (0 : Int) < (y1 : Int) := by omega
                        clear hyc hy0
                        clear hs
                        have fa2 : IntKind.i64.wrap (18 + (i : Int)) = 18 + (i : Int) := (ixw fa0 (Int.lt_of_lt_of_le fa1 (by decide))).1
                        have fb2 : IntKind.i64.wrap (22 + (i : Int)) = 22 + (i : Int) := (ixw fb0 (Int.lt_of_lt_of_le fb1 (by decide))).1
                        have x4 := (HC.out.later hM.out.below).rwordx fax HX.out
                        have x5 := (HC.out.later hM.out.below).rwordx fbx HY.out
                        go_wp2_with fail
                        clear x4 x5
                        refine (RT.out _).mono ?_
                        rintro e W ⟨rfl, hb⟩
                        replace hM := hid (hM.out.later hb)
                        replace hS := hid (Sn.later hS.out hb)
                        clear hb
                        obtain ⟨bx6, hbx6⟩ : ∃ q, q = W.heap.size := ⟨_, rfl⟩
                        replace hM := hid (hM.out.born [.int .i64 0, .int .i64 0] 35 (b := bx6) hbx6)
                        have Hbx6 : Hid _ := hbx6
                        clear hbx6
                        replace hS := hid (hS.out.new (.cells [.int .i64 0, .int .i64 0].toArray 35))
                        go_wp2_with (first
                          | (rw [← Hbx6.out]; refine sR rfl (hM.out.at 0 rfl) rfl ((rwA 0 0).len (rwA _ _)) (rwA _ _) ?_
                             replace hS := hid (hS.out.asideL (hM.out.ne 1 0 rfl rfl (by decide)) 0 [.int .i64 (xa : Nat), .int .i64 (xb : Nat)])
                             replace hM := hid (hM.out.put 0 rfl [.int .i64 (xa : Nat), .int .i64 (xb : Nat)] ((rwA 0 0).len (rwA _ _)))
                             generalize World.setCells _ _ _ _ = W at hM hS ⊢
                             have x7 := (HC.out.later hM.out.below).rwordx fax HX.out
                             have x8 := (HC.out.later hM.out.below).rwordx fbx HY.out
                             have c9 := hM.out.cell 0 0 rfl rfl
                             have c10 := hM.out.cell 0 1 rfl rfl
                             have x11 := (hM.out.at 2 rfl).rcell (j := 36) (by decide) (rf_cnt.trans (by rw [H28.out]))
                             have lk := hS.out.look y64 HSB.out)
                          | (refine lR rfl (hM.out.at 2 rfl) rfl (rwV (FO.out i)) ?_)
                          | (refine sR rfl (hM.out.at 3 rfl) rfl ((rwV zf_one).len (rwV (FO.out i))) (rwV (FO.out i)) ?_
                             replace hS := hid (hS.out.asideL (hM.out.ne 1 3 rfl rfl (by decide)) 0 (rv (rf (tg (k : Nat) v t x) ρ i)))
                             replace hM := hid (hM.out.put 3 rfl (rv (rf (tg (k : Nat) v t x) ρ i)) ((rwV zf_one).len (rwV (FO.out i))))
                             generalize World.setCells _ _ _ _ = W at hM hS ⊢))
                        first | exact bodyPost_ret (res1s Tryz.results4 (hM.out.at 3 rfl) (rwV (FO.out i)) (.bool false)) rfl ⟨_, (FO.out i), rfl, hM.out.below⟩ | exact bodyPost_ret (res1s Tryz.results4 (hM.out.at 3 rfl) (rwV (FO.out i)) (.bool false)) rfl ⟨_, (FO.out i), rfl, fun h => (by cases h), hM.out.below⟩
                    · have eb : b = false := by cases b with | false => rfl | true => exact absurd (HBR.out.1 rfl) (fun h => by rcases h.2.2.1 i hlt with ⟨e, _⟩ | ⟨_, _, e, _⟩; exact hx0 (HX.out.symm.trans e); rw [HY.out, H28.out] at e; exact hyc e)
                      subst eb
                      obtain ⟨xa, hxa⟩ : ∃ q, x1 / 4294967296 = q := ⟨_, rfl⟩
                      obtain ⟨xb, hxb⟩ : ∃ q, x1 % 4294967296 = q := ⟨_, rfl⟩
                      have HXA : Hid (ρ (18 + i) / 4294967296 = xa ∧ ρ (18 + i) % 4294967296 = xb) := by show _ ∧ _; rw [HX.out]; exact ⟨hxa, hxb⟩
                      rw [hxa, hxb] at RT
                      rw [hxa] at xa1 xa2
                      clear hxa hxb ha hx0
                      have fy : ((y1 : Nat) : Int) ≠ 0 := by omega
                      have gy : (((y1 : Nat) : Int) == 0) = false := by simpa using hy0
                      have gc : (y28 : Int) < (y1 : Int) := by omega
                      clear hyc hy0
                      have fa2 : IntKind.i64.wrap (18 + (i : Int)) = 18 + (i : Int) := (ixw fa0 (Int.lt_of_lt_of_le fa1 (by decide))).1
                      have fb2 : IntKind.i64.wrap (22 + (i : Int)) = 22 + (i : Int) := (ixw fb0 (Int.lt_of_lt_of_le fb1 (by decide))).1
                      have x4 := (HC.out.later hM.out.below).rwordx fax HX.out
                      have x5 := (HC.out.later hM.out.below).rwordx fbx HY.out
                      go_wp2_with fail
                      clear x4 x5
                      refine (RT.out _).mono ?_
                      rintro e W ⟨rfl, hb⟩
                      replace hM := hid (hM.out.later hb)
                      replace hS := hid (Sn.later hS.out hb)
                      clear hb
                      obtain ⟨bx6, hbx6⟩ : ∃ q, q = W.heap.size := ⟨_, rfl⟩
                      replace hM := hid (hM.out.born [.int .i64 0, .int .i64 0] 35 (b := bx6) hbx6)
                      have Hbx6 : Hid _ := hbx6
                      clear hbx6
                      replace hS := hid (hS.out.new (.cells [.int .i64 0, .int .i64 0].toArray 35))
                      go_wp2_with (first
                        | (rw [← Hbx6.out]; refine sR rfl (hM.out.at 0 rfl) rfl ((rwA 0 0).len (rwA _ _)) (rwA _ _) ?_
                           replace hS := hid (hS.out.asideL (hM.out.ne 1 0 rfl rfl (by decide)) 0 [.int .i64 (xa : Nat), .int .i64 (xb : Nat)])
                           replace hM := hid (hM.out.put 0 rfl [.int .i64 (xa : Nat), .int .i64 (xb : Nat)] ((rwA 0 0).len (rwA _ _)))
                           generalize World.setCells _ _ _ _ = W at hM hS ⊢
                           have x7 := (HC.out.later hM.out.below).rwordx fax HX.out
                           have x8 := (HC.out.later hM.out.below).rwordx fbx HY.out
                           have c9 := hM.out.cell 0 0 rfl rfl
                           have c10 := hM.out.cell 0 1 rfl rfl
                           have x11 := (hM.out.at 2 rfl).rcell (j := 36) (by decide) (rf_cnt.trans (by rw [H28.out])))
                        | (refine lR rfl (hM.out.at 2 rfl) rfl (rwV (FO.out i)) ?_)
                        | (refine sR rfl (hM.out.at 3 rfl) rfl ((rwV zf_one).len (rwV (FO.out i))) (rwV (FO.out i)) ?_
                           replace hS := hid (hS.out.asideL (hM.out.ne 1 3 rfl rfl (by decide)) 0 (rv (rf (tg (k : Nat) v t x) ρ i)))
                           replace hM := hid (hM.out.put 3 rfl (rv (rf (tg (k : Nat) v t x) ρ i)) ((rwV zf_one).len (rwV (FO.out i))))
                           generalize World.setCells _ _ _ _ = W at hM hS ⊢))
                      first | exact bodyPost_ret (res1s Tryz.results4 (hM.out.at 3 rfl) (rwV (FO.out i)) (.bool false)) rfl ⟨_, (FO.out i), rfl, hM.out.below⟩ | exact bodyPost_ret (res1s Tryz.results4 (hM.out.at 3 rfl) (rwV (FO.out i)) (.bool false)) rfl ⟨_, (FO.out i), rfl, fun h => (by cases h), hM.out.below⟩
                · have eb : b = false := by cases b with | false => rfl | true => exact absurd (HBR.out.1 rfl) (fun h => by rcases cr_ans (h.2.2.1 i hlt) with e | e <;> rw [HX.out] at e; exact hx0 e; exact ha e)
                  subst eb
                  have RT : Hid (∀ w : World, _) := fun w => rtold_no x64 ha w
                  clear ha hx0
                  have fa2 : IntKind.i64.wrap (18 + (i : Int)) = 18 + (i : Int) := (ixw fa0 (Int.lt_of_lt_of_le fa1 (by decide))).1
                  have fb2 : IntKind.i64.wrap (22 + (i : Int)) = 22 + (i : Int) := (ixw fb0 (Int.lt_of_lt_of_le fb1 (by decide))).1
                  have x4 := (HC.out.later hM.out.below).rwordx fax HX.out
                  have x5 := (HC.out.later hM.out.below).rwordx fbx HY.out
                  go_wp2_with fail
                  clear x4 x5
                  refine (RT.out _).mono ?_
                  rintro e W ⟨rfl, hb⟩
                  replace hM := hid (hM.out.later hb)
                  replace hS := hid (Sn.later hS.out hb)
                  clear hb
                  obtain ⟨bx6, hbx6⟩ : ∃ q, q = W.heap.size := ⟨_, rfl⟩
                  replace hM := hid (hM.out.born [.int .i64 0, .int .i64 0] 35 (b := bx6) hbx6)
                  have Hbx6 : Hid _ := hbx6
                  clear hbx6
                  replace hS := hid (hS.out.new (.cells [.int .i64 0, .int .i64 0].toArray 35))
                  go_wp2_with (first
                    | (rw [← Hbx6.out]; refine sR rfl (hM.out.at 0 rfl) rfl ((rwA 0 0).len (rwA 0 0)) (rwA 0 0) ?_
                       replace hS := hid (hS.out.asideL (hM.out.ne 1 0 rfl rfl (by decide)) 0 [.int .i64 0, .int .i64 0])
                       replace hM := hid (hM.out.put 0 rfl [.int .i64 0, .int .i64 0] ((rwA 0 0).len (rwA 0 0)))
                       generalize World.setCells _ _ _ _ = W at hM hS ⊢
                       have x7 := (HC.out.later hM.out.below).rwordx fax HX.out
                       have x8 := (HC.out.later hM.out.below).rwordx fbx HY.out
                       have c9 := hM.out.cell 0 0 rfl rfl
                       have c10 := hM.out.cell 0 1 rfl rfl)
                    | (refine lR rfl (hM.out.at 2 rfl) rfl (rwV (FO.out i)) ?_)
                    | (refine sR rfl (hM.out.at 3 rfl) rfl ((rwV zf_one).len (rwV (FO.out i))) (rwV (FO.out i)) ?_
                       replace hS := hid (hS.out.asideL (hM.out.ne 1 3 rfl rfl (by decide)) 0 (rv (rf (tg (k : Nat) v t x) ρ i)))
                       replace hM := hid (hM.out.put 3 rfl (rv (rf (tg (k : Nat) v t x) ρ i)) ((rwV zf_one).len (rwV (FO.out i))))
                       generalize World.setCells _ _ _ _ = W at hM hS ⊢))
                  first | exact bodyPost_ret (res1s Tryz.results4 (hM.out.at 3 rfl) (rwV (FO.out i)) (.bool false)) rfl ⟨_, (FO.out i), rfl, hM.out.below⟩ | exact bodyPost_ret (res1s Tryz.results4 (hM.out.at 3 rfl) (rwV (FO.out i)) (.bool false)) rfl ⟨_, (FO.out i), rfl, fun h => (by cases h), hM.out.below⟩
            · obtain rfl : i = 4 := by omega
              clear hS
              obtain rfl := HK.out
              obtain ⟨sb, hsb⟩ := bool_of (∀ j, j < 32 → nw ρ j = ρ j)
              have EB : Hid (b = sb) := Bool.eq_iff_iff.2 (HBR.out.trans ⟨fun h => hsb.2 h.2.2.2, fun h => ⟨HO.out, by rw [H27.out, H28.out]; exact Y2.out, A.out, hsb.1 h⟩⟩)
              have SM : Hid _ := hsb
              clear hsb
              have WDS : Hid (∀ W, IsL B0 W v (tl (ρ 0 : Nat) (ob ρ)) → _) := fun W hl => Words_is (ρ := ρ) (c := ob ρ) (th := tg (ρ 0 : Nat) v t x) (tg_length _ _ _ _) (tg_one _ HV.out t x) (rwTh _ HV.out t x) rfl h6 (fun _ _ => rfl) U64.out (fun t ht => cr_ans (A.out t ht)) W (fun W2 hb => TCells_is HO.out (TQ.out.th (hl.later hb)))
              go_wp2_with fail
              replace hM := hid (hM.out.drew)
              refine wp_region_held_drew (S := fun w' => Bo w' (n + 1) (rv (rf (tg (ρ 0 : Nat) v t x) ρ 4)) ∧ Bo w' bc (rl ρ)) (by kernel_rfl) ⟨hM.out.at 1 rfl, HC.out.later hM.out.below⟩ (fun hH => ?_)
              generalize World.drew _ = W at hM hH  ⊢
              refine tkR 0 rfl hH (fun _ h => h.1) (rwV (FO.out 4)) ?_
              simp only [Act.put, p1, p2, p3]
              refine tkR 1 rfl hH (fun _ h => h.1) (rwV (FO.out 4)) ?_
              simp only [Act.put, p1, p2, p3]
              refine tk 3 rfl hH ?_
              simp only [Act.put, p1, p2, p3]
              refine rd1 2 rfl (fun K hK => ?_)
              go_simp
              refine (WDS.out _ (hM.out.isL 0 rfl)).mono ?_
              rintro e W ⟨⟨bq, rfl, hq, hWq⟩, hb⟩
              replace hM := hid (hM.out.laterB hb hq hWq)
              clear hb
              go_wp2_with fail
              refine hK.out _ _ ⟨hM.out.at 2 rfl, HC.out.later hM.out.below⟩ (fun hH => ?_)
              clear hK K
              try simp only [Act.put, p1, p2, p3]
              refine rd1 4 rfl (fun K hK => ?_)
              go_simp
              refine (same_is SM.out _ (hM.out.at 0 rfl) (HC.out.later hM.out.below)).mono ?_
              rintro e W ⟨rfl, hb⟩
              replace hM := hid (hM.out.later hb)
              clear hb
              go_wp2_with fail
              refine hK.out _ _ ⟨hM.out.at 2 rfl, HC.out.later hM.out.below⟩ (fun hH => ?_)
              clear hK K
              try simp only [Act.put, p1, p2, p3]
              refine rd1 5 rfl (fun K hK => ?_)
              refine stR rfl (hM.out.at 3 rfl) ((rwV zf_one).len (rwV (FO.out 4))) (rwV (FO.out 4)) ?_
              simp only [Act.put]
              replace hM := hid (hM.out.put 3 rfl (rv (rf (tg (ρ 0 : Nat) v t x) ρ 4)) ((rwV zf_one).len (rwV (FO.out 4))))
              refine hK.out _ _ ⟨hM.out.at 2 rfl, HC.out.later hM.out.below⟩ (fun hH => ?_)
              clear hK K
              generalize World.setCells _ _ _ _ = W at hM hH ⊢
              try simp only [Act.put, p1, p2, p3]
              refine tk 6 rfl hH ?_
              simp only [Act.put, p1, p2, p3]
              refine wpAnyH_done (by kernel_rfl) ?_ _
              go_wp2
              exact bodyPost_ret (res1s Tryz.results4 (hM.out.at 3 rfl) (rwV (FO.out 4)) (.bool sb)) rfl ⟨_, FO.out 4, by rw [EB.out], fun _ => ⟨B0, v, t, x, by rw [hM.out.size]; exact HB0.out, HV.out, rfl, TQ.out.th (hM.out.isL 0 rfl)⟩, hM.out.below⟩
        · have d28 : (1099511627776 : Int) < (y28 : Int) := by omega
          have eb : b = false := by cases b with | false => rfl | true => exact absurd (HBR.out.1 rfl) (fun h => g28 (by have := h.2.1.2; rw [H28.out] at this; exact this))
          subst eb
          clear g28
          go_wp2_with (first
            | (refine lR rfl (hM.out.at 0 rfl) rfl (rwV (FO.out 0)) ?_)
            | (refine sR rfl (hM.out.at 1 rfl) rfl ((rwV zf_one).len (rwV (FO.out 0))) (rwV (FO.out 0)) ?_
               replace hM := hid (hM.out.put 1 rfl (rv (rf (tg (k : Nat) v t x) ρ 0)) ((rwV zf_one).len (rwV (FO.out 0))))
               generalize World.setCells _ _ _ _ = W at hM ⊢))
          first | exact bodyPost_ret (res1s Tryz.results4 (hM.out.at 1 rfl) (rwV (FO.out 0)) (.bool false)) rfl ⟨_, (FO.out 0), rfl, hM.out.below⟩ | exact bodyPost_ret (res1s Tryz.results4 (hM.out.at 1 rfl) (rwV (FO.out 0)) (.bool false)) rfl ⟨_, (FO.out 0), rfl, fun h => (by cases h), hM.out.below⟩
      · have d27 : (1099511627776 : Int) < (y27 : Int) := by omega
        have eb : b = false := by cases b with | false => rfl | true => exact absurd (HBR.out.1 rfl) (fun h => g27 (by have := h.2.1.1; rw [H27.out] at this; exact this))
        subst eb
        clear g27
        go_wp2_with (first
          | (refine lR rfl (hM.out.at 0 rfl) rfl (rwV (FO.out 0)) ?_)
          | (refine sR rfl (hM.out.at 1 rfl) rfl ((rwV zf_one).len (rwV (FO.out 0))) (rwV (FO.out 0)) ?_
             replace hM := hid (hM.out.put 1 rfl (rv (rf (tg (k : Nat) v t x) ρ 0)) ((rwV zf_one).len (rwV (FO.out 0))))
             generalize World.setCells _ _ _ _ = W at hM ⊢))
        first | exact bodyPost_ret (res1s Tryz.results4 (hM.out.at 1 rfl) (rwV (FO.out 0)) (.bool false)) rfl ⟨_, (FO.out 0), rfl, hM.out.below⟩ | exact bodyPost_ret (res1s Tryz.results4 (hM.out.at 1 rfl) (rwV (FO.out 0)) (.bool false)) rfl ⟨_, (FO.out 0), rfl, fun h => (by cases h), hM.out.below⟩
    · have TO : Hid (∀ {bc oc kc : Nat} {w : World} (hc : Wf w bc oc (ob ρ)), _) := fun {bc oc kc w} hc => ThingOf_is (kind := (ρ 0 : Nat)) (b := false) (bc := bc) (oc := oc) (kc := kc) ⟨fun h => (by cases h), fun h => absurd h hO⟩ hc
      rw [hk] at TO
      have eb : b = false := by cases b with | false => rfl | true => exact absurd (HBR.out.1 rfl) (fun h => hO h.1)
      subst eb
      clear hO hk h6
      have hM : Hid _ := (((Ms.nil w).bornR zf_all.symm 40 (b := w.heap.size) rfl).bornR zf_all.symm 40 (b := w.heap.size + 1) (by simp))
      have x1 := (HC.out.later hM.out.below).rwordx (show 0 < 32 by decide) HK.out
      go_enter Tryz.func4, Tryz.ntmps4
      go_wp2_with fail
      clear x1
      generalize World.alloc _ _ = W at hM ⊢
      generalize hsz : w.heap.size = n at hM ⊢
      clear hsz
      replace hM := hid (hM.out.drew)
      refine wp_region_held_drew (S := fun w' => Bo w' bc (rl ρ)) (by kernel_rfl) (HC.out.later hM.out.below) (fun hH => ?_)
      generalize World.drew _ = W at hM hH  ⊢
      refine tk 0 rfl hH ?_
      simp only [Act.put, p1, p2, p3]
      refine tk 1 rfl hH ?_
      simp only [Act.put, p1, p2, p3]
      refine tk 2 rfl hH ?_ (by intro w h; have c0 := h.rwordx (show 0 < 32 by decide) HK.out; clear h; go_simp; try with_reducible rfl)
      simp only [Act.put, p1, p2, p3]
      refine tk 3 rfl hH ?_
      simp only [Act.put, p1, p2, p3]
      refine tk 4 rfl hH ?_
      simp only [Act.put, p1, p2, p3]
      refine tk 5 rfl hH ?_
      simp only [Act.put, p1, p2, p3]
      refine rd1 6 rfl (fun K hK => ?_)
      go_simp
      refine (TO.out ⟨fun j hj => (HC.out.later hM.out.below).rword (show 1 + j < 32 by omega)⟩).mono ?_
      rintro e W ⟨v, t, x, hv, rfl, hth, hb⟩
      replace hM := hid (hM.out.later hb)
      clear hb
      have HV : Hid _ := hv
      have F0 : Hid (∀ j, j < 37 → (upl zf 0 (tg (k : Nat) v t x) j).oneCell' = true) := upl_one zf_one (tg_one _ hv t x)
      clear hv hth
      go_wp2_with fail
      refine hK.out _ _ (HC.out.later hM.out.below) (fun hH => ?_)
      clear hK K
      try simp only [Act.put, p1, p2, p3]
      refine tk 7 rfl hH ?_
      simp only [Act.put, p1, p2, p3]
      refine tk 8 rfl hH ?_
      simp only [Act.put, p1, p2, p3]
      refine tk 9 rfl hH ?_
      simp only [Act.put, p1, p2, p3]
      refine tk 10 rfl hH ?_
      simp only [Act.put, p1, p2, p3]
      refine rd1 11 rfl (fun K hK => ?_)
      refine stO rfl ((hM.out.at 0 rfl).thereAt (o := 0) (n := (tg (k : Nat) v t x).length) (by rw [tg_length, rv_length]; decide)) (rwTh (k : Nat) HV.out t x) ?_
      replace hM := hid (hM.out.putAt 0 0 rfl (tg (k : Nat) v t x) (rv (upl zf 0 (tg (k : Nat) v t x))) ((hM.out.at 0 rfl).upl (by rw [tg_length]; decide)))
      refine hK.out _ _ (HC.out.later hM.out.below) (fun hH => ?_)
      clear hK K
      generalize World.setCells _ _ _ _ = W at hM hH ⊢
      try simp only [Act.put]
      refine tk 12 rfl hH ?_
      simp only [Act.put, p1, p2, p3]
      refine wpAnyH_done (by kernel_rfl) ?_ _
      go_wp2_with (first
        | (refine lR rfl (hM.out.at 0 rfl) rfl (rwV F0.out) ?_)
        | (refine sR rfl (hM.out.at 1 rfl) rfl ((rwV zf_one).len (rwV F0.out)) (rwV F0.out) ?_
           replace hM := hid (hM.out.put 1 rfl (rv (upl zf 0 (tg (k : Nat) v t x))) ((rwV zf_one).len (rwV F0.out)))
           generalize World.setCells _ _ _ _ = W at hM ⊢))
      first | exact bodyPost_ret (res1s Tryz.results4 (hM.out.at 1 rfl) (rwV F0.out) (.bool false)) rfl ⟨_, F0.out, rfl, hM.out.below⟩ | exact bodyPost_ret (res1s Tryz.results4 (hM.out.at 1 rfl) (rwV F0.out) (.bool false)) rfl ⟨_, F0.out, rfl, fun h => (by cases h), hM.out.below⟩
  · have g6 : (6 : Int) < (k : Int) := by omega
    clear hk
    have eb : b = false := by cases b with | false => rfl | true => exact absurd (HBR.out.1 rfl) (fun h => by have := h.1.kind.2; rw [HK.out] at this; omega)
    subst eb
    clear h6
    have hM : Hid _ := (((Ms.nil w).bornR zf_all.symm 40 (b := w.heap.size) rfl).bornR zf_all.symm 40 (b := w.heap.size + 1) (by simp))
    have x1 := (HC.out.later hM.out.below).rwordx (show 0 < 32 by decide) HK.out
    go_enter Tryz.func4, Tryz.ntmps4
    go_wp2_with (first
      | (refine lR rfl (hM.out.at 0 rfl) rfl (rwV zf_one) ?_)
      | (refine sR rfl (hM.out.at 1 rfl) rfl ((rwV zf_one).len (rwV zf_one)) (rwV zf_one) ?_
         replace hM := hid (hM.out.put 1 rfl (rv zf) ((rwV zf_one).len (rwV zf_one)))
         generalize World.setCells _ _ _ _ = W at hM ⊢))
    first | exact bodyPost_ret (res1s Tryz.results4 (hM.out.at 1 rfl) (rwV zf_one) (.bool false)) rfl ⟨_, zf_one, rfl, hM.out.below⟩ | exact bodyPost_ret (res1s Tryz.results4 (hM.out.at 1 rfl) (rwV zf_one) (.bool false)) rfl ⟨_, zf_one, rfl, fun h => (by cases h), hM.out.below⟩
end Go.Proofs.YtgkgkiheoadbfaaGreatDoor.Tab
namespace Go.Proofs.YtgkgkiheoadbfaaGreatDoor.Tab
set_option maxRecDepth 20000
open Go.RowKit
set_option linter.unusedVariables false

set_option maxHeartbeats 8000000 in
theorem RDone_is {ρ : Nat → Nat} (hr : isRec ρ) {t : Nat} (ht : t < 4) {o k x : Int} (hR : Rt o k x) {B : Nat} {v : Value} {tt : Tb} {x0 : Int} (ho : v.oneCell' = true) (w : World) (hT : Th B w (ρ 0 : Nat) (ob ρ) v tt x0) :
    Calls Tryz.prog 9 #[.agg (rv (rf (tg (ρ 0 : Nat) v tt x0) ρ 4)).toArray, .int .i64 (t : Nat), .agg #[.int .i64 o, .int .i64 k, .int .i64 x]] w (fun e w' => ∃ C c' v' t' n', v'.oneCell' = true ∧ e = .returned (.agg (rv (rf (tg (ρ 0 : Nat) v' t' n') (rdo ρ t o k x) 4)).toArray) ∧ (isTh (ρ 0 : Nat) c' ∧ (∀ j, j < 17 → c' j = ob (rdo ρ t o k x) j) ∧ Th C w' (ρ 0 : Nat) c' v' t' n') ∧ Below w.heap.size w w') := by
  obtain ⟨⟨d, ci, yi⟩, hu⟩ : ∃ u, odo (ρ 0 : Nat) (ob ρ) o k x = u := ⟨_, rfl⟩
  have ft := odo_ft hr.1 hR
  have f := odo_facts hr.1 hR.w1 hR.w6 hR.k0 hR.k1 hR.v0 hR.v1
  have hO : isTh (ρ 0 : Nat) (ob ρ) := isTh_ob.2 hr.1
  have hk6 : ((ρ 0 : Nat) : Int) ≤ 6 := hO.kind.2
  have DO : Hid (∀ {v : Value} {t : Tb} {n : Int} {w : World} (h : Th B w (ρ 0 : Nat) (ob ρ) v t n), _) := fun {v t n w} h => TDo_is hO hR h
  unfold DoesTh at DO
  rw [hu] at f ft DO
  have ec : ci = ((ci.toNat : Nat) : Int) := by have := f.code.1; dsimp only at this; omega
  have ey : yi = ((yi.toNat : Nat) : Int) := by have := f.told.1; dsimp only at this; omega
  dsimp only at ft DO
  have hd : ∀ j, j < 17 → ob (rdo ρ t o k x) j = d j := fun j hj => by have := rdo_ob (r := ρ) (t := t) (o := o) (k := k) (x := x) ht j hj; rw [hu] at this; exact this
  generalize ci.toNat = cc at *
  generalize yi.toNat = y at *
  subst ec ey
  have RN : Hid (∀ {th th' : List Value} (hl : th'.length = 19), _) := fun {th th'} hl => rf_done (th := th) ht hu ft hl
  have hc28 := hr.2.2.2.2.2.2
  have HT : Hid _ := hT
  have TQ0 : Hid _ := hT.tq
  have HD : Hid (isTh (ρ 0 : Nat) d ∧ ∀ j, j < 17 → d j = ob (rdo ρ t o k x) j) := ⟨isTh_ob.2 f.ob, fun j hj => (hd j hj).symm⟩
  have F1 : Hid (∀ j, j < 37 → (rf (tg (ρ 0 : Nat) v tt x0) ρ 4 j).oneCell' = true) := rf_one (tg_one _ ho tt x0) (tg_length _ _ _ _)
  obtain ⟨c, hc⟩ : ∃ c, ρ 28 = c := ⟨_, rfl⟩
  obtain ⟨c1, hc1⟩ : ∃ c1, c + 1 = c1 := ⟨_, rfl⟩
  obtain ⟨b, hb⟩ : ∃ b, (ρ 26).testBit t = b := ⟨_, rfl⟩
  rw [hc] at hc28
  have w1 : IntKind.u64.wrap ((c : Int) + 1) = (c1 : Nat) := by rw [IntKind.wrap_u64]; omega
  have eb : (1 : Int) - (b.toNat : Nat) = ((!b).toNat : Nat) := by cases b <;> rfl
  have wb : IntKind.i64.wrap ((1 : Int) - (b.toNat : Nat)) = ((!b).toNat : Nat) := by cases b <;> rfl
  have C0 : Hid (rf (tg (ρ 0 : Nat) v tt x0) ρ 4 36 = .int .u64 (c : Nat)) := rf_cnt.trans (by rw [hc])
  have T0 : Hid (rf (tg (ρ 0 : Nat) v tt x0) ρ 4 (31 + t) = .int .i64 (b.toNat : Nat)) := (rf_tog ht ht).trans (by rw [hb])
  rw [hc, hc1, hb] at RN
  have KO : Hid (1 ≤ ((ρ 0 : Nat) : Int) ∧ ((ρ 0 : Nat) : Int) ≤ 6) := hO.kind
  clear hc hc1 hb hc28 hu f ft hd hO hr hT
  generalize (!b).toNat = nb at *
  generalize b.toNat = ob1 at *
  have hi1 : (t : Int) < 4 := by omega
  have hi0 : (0 : Int) ≤ (t : Int) := by omega
  have fc : 19 + t * 2 + 2 ≤ 37 := by omega
  have fd : 27 + t < 37 := by omega
  have fe : 31 + t < 37 := by omega
  have n1 : (36 : Nat) ≠ 27 + t := by omega
  have n2 : ¬ (19 + t * 2 ≤ 36 ∧ 36 < 19 + t * 2 + 2) := by omega
  have n3 : ¬ (19 + t * 2 ≤ 31 + t ∧ 31 + t < 19 + t * 2 + 2) := by omega
  have n4 : (31 + t) ≠ 27 + t := by omega
  have n5 : (31 + t) ≠ 36 := by omega
  have n6 : ¬ (31 + t < 19) := by omega
  have hM : Hid _ := (((((Ms.nil w).oldL (HT.out.isl hk6)).born (rv (rf (tg (ρ 0 : Nat) v tt x0) ρ 4)) 40 (b := w.heap.size) rfl).born [.int .i64 o, .int .i64 k, .int .i64 x] 26 (b := w.heap.size + 1) (by simp)).bornR zf_all.symm 40 (b := w.heap.size + 2) (by simp))
  have c1 := hM.out.cell 1 0 rfl rfl
  have c2 := hM.out.cell 1 1 rfl rfl
  have c3 := hM.out.cell 1 2 rfl rfl
  go_enter Tryz.func9, Tryz.ntmps9
  go_wp2_with (first
    | (refine lR rfl (Bo.thing (hM.out.at 2 rfl) (tg_length _ _ _ _) (fun j hj => rf_th hj)) rfl (rwTh _ ho tt x0) ?_))
  clear c1 c2 c3
  generalize World.alloc _ _ = W at hM ⊢
  generalize hsz : w.heap.size = n at hM ⊢
  clear hsz
  refine (DO.out (TQ0.out.th (hM.out.isL 0 rfl))).mono ?_
  rintro e W ⟨v2, t2, x2, rfl, hq2, ho2, hl2, hb⟩
  obtain ⟨B2, hB2, hM⟩ := hM.out.laterM hb hl2
  clear hb
  have HV2 : Hid _ := ho2
  have TQ2 : Hid _ := hq2
  clear hq2 hl2 hB2
  have C1 : Hid ((upl (upl (rf (tg (ρ 0 : Nat) v tt x0) ρ 4) 0 (tg (ρ 0 : Nat) v2 t2 x2)) (19 + t * 2) [.int .i64 (cc : Nat), .int .i64 (y : Nat)]) 36 = .int .u64 (c : Nat)) := by show _ = _; unfold upl; rw [if_neg (by simp only [List.length_cons, List.length_nil]; exact n2), if_neg (by rw [tg_length]; decide)]; exact C0.out
  have C2 : Hid ((upv (upl (upl (rf (tg (ρ 0 : Nat) v tt x0) ρ 4) 0 (tg (ρ 0 : Nat) v2 t2 x2)) (19 + t * 2) [.int .i64 (cc : Nat), .int .i64 (y : Nat)]) 36 (.int .u64 (c1 : Nat))) 36 = .int .u64 (c1 : Nat)) := by show _ = _; unfold upv; rw [if_pos rfl]
  have T1 : Hid ((upv (upv (upl (upl (rf (tg (ρ 0 : Nat) v tt x0) ρ 4) 0 (tg (ρ 0 : Nat) v2 t2 x2)) (19 + t * 2) [.int .i64 (cc : Nat), .int .i64 (y : Nat)]) 36 (.int .u64 (c1 : Nat))) (27 + t) (.int .u64 (c1 : Nat))) (31 + t) = .int .i64 (ob1 : Nat)) := by show _ = _; unfold upv; rw [if_neg n4, if_neg n5]; unfold upl; rw [if_neg (by simp only [List.length_cons, List.length_nil]; exact n3), if_neg (by rw [tg_length]; omega)]; exact T0.out
  have RE := RN.out (th := (tg (ρ 0 : Nat) v tt x0)) (tg_length (ρ 0 : Nat) v2 t2 x2)
  have REH : Hid _ := RE
  clear RE RN n1 n2 n3 n4 n5 n6 ho2 eb
  have F2 : Hid (∀ j, j < 37 → (rf (tg (ρ 0 : Nat) v2 t2 x2) (rdo ρ t o k x) 4 j).oneCell' = true) := rf_one (tg_one _ HV2.out t2 x2) (tg_length _ _ _ _)
  go_wp2_with (first
    | (refine sO rfl ((hM.out.at 2 rfl).thereAt (o := 0) (n := (tg (ρ 0 : Nat) v2 t2 x2).length) (by rw [tg_length, rv_length]; decide)) rfl (rwTh _ HV2.out t2 x2) ?_
       replace hM := hid (hM.out.putAt 2 0 rfl (tg (ρ 0 : Nat) v2 t2 x2) (rv (upl (rf (tg (ρ 0 : Nat) v tt x0) ρ 4) 0 (tg (ρ 0 : Nat) v2 t2 x2))) ((hM.out.at 2 rfl).upl (by rw [tg_length]; decide)))
       generalize World.setCells _ _ _ _ = W at hM ⊢)
    | (refine sO rfl ((hM.out.at 2 rfl).thereAt (o := 19 + t * 2) (n := ([.int .i64 (cc : Nat), .int .i64 (y : Nat)] : List Value).length) (by rw [rv_length]; exact fc)) rfl (rwA (cc : Nat) (y : Nat)) ?_
       replace hM := hid (hM.out.putAt 2 (19 + t * 2) rfl [.int .i64 (cc : Nat), .int .i64 (y : Nat)] (rv (upl (upl (rf (tg (ρ 0 : Nat) v tt x0) ρ 4) 0 (tg (ρ 0 : Nat) v2 t2 x2)) (19 + t * 2) [.int .i64 (cc : Nat), .int .i64 (y : Nat)])) ((hM.out.at 2 rfl).upl fc))
       generalize World.setCells _ _ _ _ = W at hM ⊢
       have x4 := (hM.out.at 2 rfl).rcell (j := 36) (by decide) C1.out)
    | (refine s1 rfl (hM.out.at 2 rfl) 36 rfl (.int .u64 (c1 : Nat)) rfl sz_u ?_ (by rw [rv_length]; decide)
       replace hM := hid (hM.out.put1 2 36 rfl (.int .u64 (c1 : Nat)) (rv (upv (upl (upl (rf (tg (ρ 0 : Nat) v tt x0) ρ 4) 0 (tg (ρ 0 : Nat) v2 t2 x2)) (19 + t * 2) [.int .i64 (cc : Nat), .int .i64 (y : Nat)]) 36 (.int .u64 (c1 : Nat)))) (by rw [rv_length]; decide) (rv_set _ _ (by decide)))
       generalize World.setCell _ _ _ = W at hM ⊢
       clear x4
       have x5 := (hM.out.at 2 rfl).rcell (j := 36) (by decide) C2.out)
    | (refine s1 rfl (hM.out.at 2 rfl) (27 + t) rfl (.int .u64 (c1 : Nat)) rfl sz_u ?_ (by rw [rv_length]; exact fd)
       replace hM := hid (hM.out.put1 2 (27 + t) rfl (.int .u64 (c1 : Nat)) (rv (upv (upv (upl (upl (rf (tg (ρ 0 : Nat) v tt x0) ρ 4) 0 (tg (ρ 0 : Nat) v2 t2 x2)) (19 + t * 2) [.int .i64 (cc : Nat), .int .i64 (y : Nat)]) 36 (.int .u64 (c1 : Nat))) (27 + t) (.int .u64 (c1 : Nat)))) (by rw [rv_length]; exact fd) (rv_set _ _ (by exact fd)))
       generalize World.setCell _ _ _ = W at hM ⊢
       clear x5
       have x6 := (hM.out.at 2 rfl).rcell (j := 31 + t) fe T1.out)
    | (refine s1 rfl (hM.out.at 2 rfl) (31 + t) rfl (.int .i64 (nb : Nat)) rfl sz_i ?_ (by rw [rv_length]; exact fe)
       replace hM := hid (hM.out.put1 2 (31 + t) rfl (.int .i64 (nb : Nat)) (rv (upv (upv (upv (upl (upl (rf (tg (ρ 0 : Nat) v tt x0) ρ 4) 0 (tg (ρ 0 : Nat) v2 t2 x2)) (19 + t * 2) [.int .i64 (cc : Nat), .int .i64 (y : Nat)]) 36 (.int .u64 (c1 : Nat))) (27 + t) (.int .u64 (c1 : Nat))) (31 + t) (.int .i64 (nb : Nat)))) (by rw [rv_length]; exact fe) (rv_set _ _ (by exact fe)))
       generalize World.setCell _ _ _ = W at hM ⊢
       clear x6
       rw [REH.out] at hM)
    | (refine lR rfl (hM.out.at 2 rfl) rfl (rwV F2.out) ?_)
    | (refine sR rfl (hM.out.at 0 rfl) rfl ((rwV zf_one).len (rwV F2.out)) (rwV F2.out) ?_
       replace hM := hid (hM.out.put 0 rfl (rv (rf (tg (ρ 0 : Nat) v2 t2 x2) (rdo ρ t o k x) 4)) ((rwV zf_one).len (rwV F2.out)))
       generalize World.setCells _ _ _ _ = W at hM ⊢))
  exact bodyPost_ret (res1 Tryz.results9 (hM.out.at 0 rfl) (rwV F2.out)) rfl ⟨_, d, v2, t2, x2, HV2.out, rfl, ⟨HD.out.1, HD.out.2, TQ2.out.th (hM.out.isL 0 rfl)⟩, hM.out.below⟩
end Go.Proofs.YtgkgkiheoadbfaaGreatDoor.Tab
namespace Go.Proofs.YtgkgkiheoadbfaaGreatDoor.Tab
set_option maxRecDepth 20000
open Go.RowKit
set_option linter.unusedVariables false

def rcq (d : Nat → Nat) (i : Nat) : Nat → Nat := fun j => if j < i then d j else 0
theorem rcq_zero (d : Nat → Nat) : rl (rcq d 0) = rl wz := rl_congr fun j _ => by simp [rcq, wz]
theorem rcq_all (d : Nat → Nat) : rl (rcq d 32) = rl d := rl_congr fun j hj => by unfold rcq; rw [if_pos hj]
theorem rcq_next (d : Nat → Nat) (i : Nat) : rl (upw (rcq d i) i (d i)) = rl (rcq d (i + 1)) := rl_congr fun j _ => by
  unfold upw rcq
  by_cases e : j = i
  · subst e; rw [if_pos rfl, if_pos (by omega)]
  · rw [if_neg e]
    by_cases h : j < i
    · rw [if_pos h, if_pos (by omega)]
    · rw [if_neg h, if_neg (by omega)]
set_option maxHeartbeats 4000000 in
theorem recordOf_is {ρ : Nat → Nat} {b k : Nat} (w : World) (hB : Bo w b (rl ρ)) :
    Calls Tryz.prog 8 #[.slice (some ⟨b, 0, none⟩) 32 k] w (fun e w' => e = .returned (.agg (rl ρ).toArray) ∧ Below w.heap.size w w') := by
  have HB : Hid _ := hB
  clear hB
  have NX : Hid (∀ i, _) := fun i => rcq_next ρ i
  have AL : Hid _ := rcq_all ρ
  have Z0 : Hid _ := rcq_zero ρ
  have hM : Hid _ := (((Ms.nil w).bornR rl_zero.symm 24 (b := w.heap.size) rfl).bornR rl_zero.symm 24 (b := w.heap.size + 1) (by simp))
  go_enter Tryz.func8, Tryz.ntmps8
  go_wp2_with fail
  generalize World.alloc _ _ = W at hM ⊢
  generalize hsz : w.heap.size = n at hM ⊢
  clear hsz
  go_loopg [4] 32 (fun gg s4 wt => ∃ i : Nat, i ≤ 32 ∧ 32 - i ≤ gg ∧ s4 = .int .i64 i ∧ Hid (Ms n w wt [(n + 1, rl (rcq ρ i)), (n, rl wz)] []))
  case atStart => exact ⟨0, by omega, by omega, rfl, by rw [Z0.out]; exact hM⟩
  case round =>
    clear hM
    obtain ⟨i, hi, hgg, rfl, hM⟩ := hrel
    obtain ⟨W, rfl⟩ : ∃ q, q = wr := ⟨_, rfl⟩
    by_cases hlt : i < 32
    · have i1 : (i : Int) < 32 := by omega
      have i0 : (0 : Int) ≤ (i : Int) := by omega
      obtain ⟨x, hx⟩ : ∃ x, ρ i = x := ⟨_, rfl⟩
      have NI : Hid _ := NX.out i
      rw [hx] at NI
      have HX : Hid _ := hx
      clear hx
      have x1 := (HB.out.later hM.out.below).rwordx hlt HX.out
      go_wp2_with (first
        | (refine s1 rfl (hM.out.at 0 rfl) i rfl (.int .u64 (x : Nat)) rfl sz_u ?_ (by rw [rl_length]; exact hlt)
           replace hM := hid (hM.out.put1 0 i rfl (.int .u64 (x : Nat)) (rl (upw (rcq ρ i) i x)) (by rw [rl_length]; exact hlt) (rl_set _ _ hlt))
           generalize World.setCell _ _ _ = W at hM ⊢
           clear x1
           rw [NI.out] at hM))
      go_roundg (32 - (i + 1))
      case measure => omega
      case rel => exact ⟨i + 1, by omega, by omega, by go_num, hM⟩
    · obtain rfl : i = 32 := by omega
      rw [AL.out] at hM
      go_wp2_with (first
        | (refine lR rfl (hM.out.at 0 rfl) rfl (rwR ρ) ?_)
        | (refine sR rfl (hM.out.at 1 rfl) rfl ((rwR wz).len (rwR ρ)) (rwR ρ) ?_
           replace hM := hid (hM.out.put 1 rfl (rl ρ) ((rwR wz).len (rwR ρ)))
           generalize World.setCells _ _ _ _ = W at hM ⊢))
      exact bodyPost_ret (res1 Tryz.results8 (hM.out.at 1 rfl) (rwR ρ)) rfl ⟨rfl, hM.out.below⟩
end Go.Proofs.YtgkgkiheoadbfaaGreatDoor.Tab
namespace Go.Proofs.YtgkgkiheoadbfaaGreatDoor.Tab
set_option maxRecDepth 20000
open Go.RowKit
set_option linter.unusedVariables false
theorem rec_desc : Tryz.prog.underlying 24 = some (.array 32 22) := by kernel_rfl
theorem rpart0 (c : Nat → Nat) (w : World) : (part 22 (rl c).toArray 0).run Tryz.prog w = .ok (.int .u64 (c 0 : Nat)) w := by kernel_rfl
theorem rpart1 (c : Nat → Nat) (w : World) : (part 22 (rl c).toArray 1).run Tryz.prog w = .ok (.int .u64 (c 1 : Nat)) w := by kernel_rfl
theorem rpart2 (c : Nat → Nat) (w : World) : (part 22 (rl c).toArray 2).run Tryz.prog w = .ok (.int .u64 (c 2 : Nat)) w := by kernel_rfl
theorem rpart3 (c : Nat → Nat) (w : World) : (part 22 (rl c).toArray 3).run Tryz.prog w = .ok (.int .u64 (c 3 : Nat)) w := by kernel_rfl
theorem rpart4 (c : Nat → Nat) (w : World) : (part 22 (rl c).toArray 4).run Tryz.prog w = .ok (.int .u64 (c 4 : Nat)) w := by kernel_rfl
theorem rpart5 (c : Nat → Nat) (w : World) : (part 22 (rl c).toArray 5).run Tryz.prog w = .ok (.int .u64 (c 5 : Nat)) w := by kernel_rfl
theorem rpart6 (c : Nat → Nat) (w : World) : (part 22 (rl c).toArray 6).run Tryz.prog w = .ok (.int .u64 (c 6 : Nat)) w := by kernel_rfl
theorem rpart7 (c : Nat → Nat) (w : World) : (part 22 (rl c).toArray 7).run Tryz.prog w = .ok (.int .u64 (c 7 : Nat)) w := by kernel_rfl
theorem rpart8 (c : Nat → Nat) (w : World) : (part 22 (rl c).toArray 8).run Tryz.prog w = .ok (.int .u64 (c 8 : Nat)) w := by kernel_rfl
theorem rpart9 (c : Nat → Nat) (w : World) : (part 22 (rl c).toArray 9).run Tryz.prog w = .ok (.int .u64 (c 9 : Nat)) w := by kernel_rfl
theorem rpart10 (c : Nat → Nat) (w : World) : (part 22 (rl c).toArray 10).run Tryz.prog w = .ok (.int .u64 (c 10 : Nat)) w := by kernel_rfl
theorem rpart11 (c : Nat → Nat) (w : World) : (part 22 (rl c).toArray 11).run Tryz.prog w = .ok (.int .u64 (c 11 : Nat)) w := by kernel_rfl
theorem rpart12 (c : Nat → Nat) (w : World) : (part 22 (rl c).toArray 12).run Tryz.prog w = .ok (.int .u64 (c 12 : Nat)) w := by kernel_rfl
theorem rpart13 (c : Nat → Nat) (w : World) : (part 22 (rl c).toArray 13).run Tryz.prog w = .ok (.int .u64 (c 13 : Nat)) w := by kernel_rfl
theorem rpart14 (c : Nat → Nat) (w : World) : (part 22 (rl c).toArray 14).run Tryz.prog w = .ok (.int .u64 (c 14 : Nat)) w := by kernel_rfl
theorem rpart15 (c : Nat → Nat) (w : World) : (part 22 (rl c).toArray 15).run Tryz.prog w = .ok (.int .u64 (c 15 : Nat)) w := by kernel_rfl
theorem rpart16 (c : Nat → Nat) (w : World) : (part 22 (rl c).toArray 16).run Tryz.prog w = .ok (.int .u64 (c 16 : Nat)) w := by kernel_rfl
theorem rpart17 (c : Nat → Nat) (w : World) : (part 22 (rl c).toArray 17).run Tryz.prog w = .ok (.int .u64 (c 17 : Nat)) w := by kernel_rfl
theorem rpart18 (c : Nat → Nat) (w : World) : (part 22 (rl c).toArray 18).run Tryz.prog w = .ok (.int .u64 (c 18 : Nat)) w := by kernel_rfl
theorem rpart19 (c : Nat → Nat) (w : World) : (part 22 (rl c).toArray 19).run Tryz.prog w = .ok (.int .u64 (c 19 : Nat)) w := by kernel_rfl
theorem rpart20 (c : Nat → Nat) (w : World) : (part 22 (rl c).toArray 20).run Tryz.prog w = .ok (.int .u64 (c 20 : Nat)) w := by kernel_rfl
theorem rpart21 (c : Nat → Nat) (w : World) : (part 22 (rl c).toArray 21).run Tryz.prog w = .ok (.int .u64 (c 21 : Nat)) w := by kernel_rfl
theorem rpart22 (c : Nat → Nat) (w : World) : (part 22 (rl c).toArray 22).run Tryz.prog w = .ok (.int .u64 (c 22 : Nat)) w := by kernel_rfl
theorem rpart23 (c : Nat → Nat) (w : World) : (part 22 (rl c).toArray 23).run Tryz.prog w = .ok (.int .u64 (c 23 : Nat)) w := by kernel_rfl
theorem rpart24 (c : Nat → Nat) (w : World) : (part 22 (rl c).toArray 24).run Tryz.prog w = .ok (.int .u64 (c 24 : Nat)) w := by kernel_rfl
theorem rpart25 (c : Nat → Nat) (w : World) : (part 22 (rl c).toArray 25).run Tryz.prog w = .ok (.int .u64 (c 25 : Nat)) w := by kernel_rfl
theorem rpart26 (c : Nat → Nat) (w : World) : (part 22 (rl c).toArray 26).run Tryz.prog w = .ok (.int .u64 (c 26 : Nat)) w := by kernel_rfl
theorem rpart27 (c : Nat → Nat) (w : World) : (part 22 (rl c).toArray 27).run Tryz.prog w = .ok (.int .u64 (c 27 : Nat)) w := by kernel_rfl
theorem rpart28 (c : Nat → Nat) (w : World) : (part 22 (rl c).toArray 28).run Tryz.prog w = .ok (.int .u64 (c 28 : Nat)) w := by kernel_rfl
theorem rpart29 (c : Nat → Nat) (w : World) : (part 22 (rl c).toArray 29).run Tryz.prog w = .ok (.int .u64 (c 29 : Nat)) w := by kernel_rfl
theorem rpart30 (c : Nat → Nat) (w : World) : (part 22 (rl c).toArray 30).run Tryz.prog w = .ok (.int .u64 (c 30 : Nat)) w := by kernel_rfl
theorem rpart31 (c : Nat → Nat) (w : World) : (part 22 (rl c).toArray 31).run Tryz.prog w = .ok (.int .u64 (c 31 : Nat)) w := by kernel_rfl
theorem rword_equal (x : Int) (w : World) : (Op.equalIn 9999 22 (.int .u64 x) (.int .u64 x)).run Tryz.prog w = .ok true w := by
  go_simp
theorem rec_equal (c : Nat → Nat) (w : World) : (Op.equalIn 10000 24 (.agg (rl c).toArray) (.agg (rl c).toArray)).run Tryz.prog w = .ok true w := by
  have hc : Tryz.prog.cellsOf 22 = 1 := by kernel_rfl
  cases hi : Tryz.prog.info? 22 with
  | none => simp [Program.cellsOf, hi] at hc
  | some i =>
    have h := run_equalIn_array (w := w) 9999 (rl c).toArray (rl c).toArray rec_desc hi
    rw [h, hc]
    have hr : List.range 32 = [0, 1, 2, 3, 4, 5, 6, 7, 8, 9, 10, 11, 12, 13, 14, 15, 16, 17, 18, 19, 20, 21, 22, 23, 24, 25, 26, 27, 28, 29, 30, 31] := by decide
    rw [hr]
    simp [Op.eqItems, rpart0 c w, rpart1 c w, rpart2 c w, rpart3 c w, rpart4 c w, rpart5 c w, rpart6 c w, rpart7 c w, rpart8 c w, rpart9 c w, rpart10 c w, rpart11 c w, rpart12 c w, rpart13 c w, rpart14 c w, rpart15 c w, rpart16 c w, rpart17 c w, rpart18 c w, rpart19 c w, rpart20 c w, rpart21 c w, rpart22 c w, rpart23 c w, rpart24 c w, rpart25 c w, rpart26 c w, rpart27 c w, rpart28 c w, rpart29 c w, rpart30 c w, rpart31 c w, rword_equal]
theorem rec_zero (w : World) : (Op.equalIn 10000 24 (.agg (rl wz).toArray) (.agg #[.int .u64 0, .int .u64 0, .int .u64 0, .int .u64 0, .int .u64 0, .int .u64 0, .int .u64 0, .int .u64 0, .int .u64 0, .int .u64 0, .int .u64 0, .int .u64 0, .int .u64 0, .int .u64 0, .int .u64 0, .int .u64 0, .int .u64 0, .int .u64 0, .int .u64 0, .int .u64 0, .int .u64 0, .int .u64 0, .int .u64 0, .int .u64 0, .int .u64 0, .int .u64 0, .int .u64 0, .int .u64 0, .int .u64 0, .int .u64 0, .int .u64 0, .int .u64 0])).run Tryz.prog w = .ok true w := rec_equal wz w
end Go.Proofs.YtgkgkiheoadbfaaGreatDoor.Tab
namespace Go.Proofs.YtgkgkiheoadbfaaGreatDoor.Tab
set_option maxRecDepth 20000
open Go.RowKit
set_option linter.unusedVariables false

theorem isThread_yes {t : Int} (h0 : 0 ≤ t) (h4 : t < 4) (w : World) : Calls Tryz.prog 15 #[.int .i64 t] w fun e w' => e = .returned (.bool true) ∧ w' = w := by
  go_enter Tryz.func15, Tryz.ntmps15
  go_wp2
  go_ret
  exact ⟨rfl, rfl⟩
theorem isThread_no {t : Int} (h : t < 0 ∨ 4 ≤ t) (w : World) : Calls Tryz.prog 15 #[.int .i64 t] w fun e w' => e = .returned (.bool false) ∧ w' = w := by
  by_cases h1 : 0 ≤ t
  · have h2 : ¬ t < 4 := by omega
    clear h
    go_enter Tryz.func15, Tryz.ntmps15
    go_wp2
    go_ret
    exact ⟨rfl, rfl⟩
  · clear h
    go_enter Tryz.func15, Tryz.ntmps15
    go_wp2
    go_ret
    exact ⟨rfl, rfl⟩
end Go.Proofs.YtgkgkiheoadbfaaGreatDoor.Tab
namespace Go.Proofs.YtgkgkiheoadbfaaGreatDoor.Tab
set_option maxRecDepth 20000
open Go.RowKit
set_option linter.unusedVariables false

/-- What Do hands back: an object, an answer, no error. -/
def DidD (w : World) (d : Nat → Nat) (cc y : Int) (e : Ending) (w' : World) : Prop := e = .returned (.tuple #[.agg (wl d).toArray, .agg #[.int .i64 cc, .int .i64 y], .nilIface]) ∧ Below w.heap.size w w'
def Refd (w : World) (e : Ending) (w' : World) : Prop := e = .returned (.tuple #[.agg (wl wz).toArray, .agg #[.int .i64 0, .int .i64 0], .iface 49 (.int .i64 1)]) ∧ Below w.heap.size w w'
theorem opR_yes {o k v : Int} (h : Rt o k v) (w : World) : Calls Tryz.prog 36 #[.agg #[.int .i64 o, .int .i64 k, .int .i64 v]] w fun e w' => e = .returned (.bool true) ∧ Below w.heap.size w w' :=
  (opRight_is h w).mono fun e w' ⟨he, hw⟩ => ⟨he, hw ▸ new_below w _⟩
theorem opR_no {o k v : Int} (h : ¬ Rt o k v) (w : World) : Calls Tryz.prog 36 #[.agg #[.int .i64 o, .int .i64 k, .int .i64 v]] w fun e w' => e = .returned (.bool false) ∧ Below w.heap.size w w' :=
  (opRight_isnt h w).mono fun e w' ⟨he, hw⟩ => ⟨he, hw ▸ new_below w _⟩
set_option maxHeartbeats 4000000 in
theorem obDo_wrong {kind o k x : Int} {c : Nat → Nat} (hR : ¬ Rt o k x) (w : World) :
    Calls Tryz.prog 17 #[.int .i64 kind, .agg (wl c).toArray, .agg #[.int .i64 o, .int .i64 k, .int .i64 x]] w (Refd w) := by
  have OR : Hid (∀ w : World, _) := fun w => opR_no hR w
  clear hR
  have hM : Hid _ := (((((Ms.nil w).born (wl c) 65 (b := w.heap.size) rfl).born [.int .i64 o, .int .i64 k, .int .i64 x] 26 (b := w.heap.size + 1) (by simp)).bornR wz_all.symm 65 (b := w.heap.size + 2) (by simp)).born [.int .i64 0, .int .i64 0] 35 (b := w.heap.size + 3) (by simp))
  have c1 := hM.out.cell 2 0 rfl rfl
  have c2 := hM.out.cell 2 1 rfl rfl
  have c3 := hM.out.cell 2 2 rfl rfl
  go_enter Tryz.func17, Tryz.ntmps17
  go_wp2_with fail
  clear c1 c2 c3
  generalize World.alloc _ _ = W at hM ⊢
  generalize hsz : w.heap.size = n at hM ⊢
  clear hsz
  refine (OR.out _).mono ?_
  rintro e W ⟨rfl, hb⟩
  replace hM := hid (hM.out.later hb)
  clear hb
  go_wp2_with (first
    | (refine sR rfl (hM.out.at 1 rfl) rfl ((rwC wz).len (rwC wz)) (rwC wz) ?_
       replace hM := hid (hM.out.put 1 rfl (wl wz) ((rwC wz).len (rwC wz)))
       generalize World.setCells _ _ _ _ = W at hM ⊢)
    | (refine sR rfl (hM.out.at 0 rfl) rfl ((rwA 0 0).len (rwA 0 0)) (rwA 0 0) ?_
       replace hM := hid (hM.out.put 0 rfl [.int .i64 0, .int .i64 0] ((rwA 0 0).len (rwA 0 0)))
       generalize World.setCells _ _ _ _ = W at hM ⊢))
  exact bodyPost_ret (res2s Tryz.results17 (hM.out.at 1 rfl) (rwC wz) (hM.out.at 0 rfl) (rwA 0 0) (.iface 49 (.int .i64 1))) rfl ⟨rfl, hM.out.below⟩
set_option maxHeartbeats 4000000 in
theorem obDo_isnt {kind o k x : Int} {c : Nat → Nat} (hR : Rt o k x) (hO : ¬ isOb kind c) (w : World) :
    Calls Tryz.prog 17 #[.int .i64 kind, .agg (wl c).toArray, .agg #[.int .i64 o, .int .i64 k, .int .i64 x]] w (Refd w) := by
  have OR : Hid (∀ w : World, _) := fun w => opR_yes hR w
  have RR : Hid (∀ w : World, _) := fun w => obRight_is (v := false) ⟨fun h => absurd h (by decide), fun h => absurd h hO⟩ w
  clear hR hO
  have hM : Hid _ := (((((Ms.nil w).born (wl c) 65 (b := w.heap.size) rfl).born [.int .i64 o, .int .i64 k, .int .i64 x] 26 (b := w.heap.size + 1) (by simp)).bornR wz_all.symm 65 (b := w.heap.size + 2) (by simp)).born [.int .i64 0, .int .i64 0] 35 (b := w.heap.size + 3) (by simp))
  have c1 := hM.out.cell 2 0 rfl rfl
  have c2 := hM.out.cell 2 1 rfl rfl
  have c3 := hM.out.cell 2 2 rfl rfl
  go_enter Tryz.func17, Tryz.ntmps17
  go_wp2_with fail
  clear c1 c2 c3
  generalize World.alloc _ _ = W at hM ⊢
  generalize hsz : w.heap.size = n at hM ⊢
  clear hsz
  refine (OR.out _).mono ?_
  rintro e W ⟨rfl, hb⟩
  replace hM := hid (hM.out.later hb)
  clear hb
  go_wp2_with (first
    | (refine lW rfl (hM.out.at 3 rfl) rfl (rwC c) ?_))
  refine (RR.out _).mono ?_
  rintro e W ⟨rfl, hb⟩
  replace hM := hid (hM.out.later hb)
  clear hb
  go_wp2_with (first
    | (refine sR rfl (hM.out.at 1 rfl) rfl ((rwC wz).len (rwC wz)) (rwC wz) ?_
       replace hM := hid (hM.out.put 1 rfl (wl wz) ((rwC wz).len (rwC wz)))
       generalize World.setCells _ _ _ _ = W at hM ⊢)
    | (refine sR rfl (hM.out.at 0 rfl) rfl ((rwA 0 0).len (rwA 0 0)) (rwA 0 0) ?_
       replace hM := hid (hM.out.put 0 rfl [.int .i64 0, .int .i64 0] ((rwA 0 0).len (rwA 0 0)))
       generalize World.setCells _ _ _ _ = W at hM ⊢))
  exact bodyPost_ret (res2s Tryz.results17 (hM.out.at 1 rfl) (rwC wz) (hM.out.at 0 rfl) (rwA 0 0) (.iface 49 (.int .i64 1))) rfl ⟨rfl, hM.out.below⟩
end Go.Proofs.YtgkgkiheoadbfaaGreatDoor.Tab
namespace Go.Proofs.YtgkgkiheoadbfaaGreatDoor.Tab
set_option maxRecDepth 20000
open Go.RowKit Go.Maps

def clos (b : Nat) : Value := .func (.func 72) #[] #[.pointer (some ⟨b, 0, none⟩)]
def fv (k : Nat) : Value := .func (.func k) #[] #[]
theorem withList_is (k : Nat) (w : World) : Calls Tryz.prog 57 #[fv k] w fun e w' => e = .returned (clos w.heap.size) ∧ Bo w' w.heap.size [fv k] ∧ Below w.heap.size w w' := by
  unfold fv clos
  go_enter Tryz.func57, Tryz.ntmps57
  go_wp2
  go_ret
  exact ⟨rfl, Bo.born w [.func (.func k) #[] #[]] _ rfl, new_below w _⟩

/-- The map in block m, its elements as they are. -/
def Rv (v : Value) : Option (DataW Value × List MemPlace) := some (.held v, [])
def Mp (w : World) (m n : Nat) (D : DataW Value) : Prop := w.ownsMap Tryz.prog 3 Rv m n D
theorem Mp.later {w w' : World} {m n : Nat} {D : DataW Value} (h : Mp w m n D) (hb : Below w.heap.size w w') : Mp w' m n D := by
  obtain ⟨es, clk, h1, h2⟩ := h
  exact ⟨es, clk, by rw [hb.block m (Array.getElem?_eq_some_iff.1 h1).1]; exact h1, h2⟩
theorem map_desc : Tryz.prog.underlying 88 = some (.map 3 87) := by kernel_rfl
theorem int_desc : Tryz.prog.underlying 3 = some (.int .i64) := by kernel_rfl
theorem zero_deed (w : World) : (zeroValue 87).run Tryz.prog w = .ok .nilFunc w := by kernel_rfl
theorem Mp.add {w : World} {m n : Nat} {D : DataW Value} (h : Mp w m n D) (hn : n ≤ 10) (k : Int) (h0 : 0 ≤ k) (hk : k ≤ 10) (v : Value) :
    ∃ w', (Instr.mapUpdate 88 (.map (some m)) (.int .i64 k) v).run Tryz.prog w = .ok () w' ∧ Mp w' m (n + 1) (D.put (.int .i64 k) (.held v)) ∧ w.grownBy w' (some m) :=
  World.ownsMap.update h (int_keyed int_desc) map_desc (by unfold maxLen; omega) (keyOf_int_mk int_desc (a := k) (WalkArith.wf_i64 (by omega))) rfl
theorem Mp.look {w : World} {m n : Nat} {D : DataW Value} (h : Mp w m n D) (k : Int) (h0 : 0 ≤ k) (hk : k ≤ 10) {v : Value} (hv : D.atKey (.int .i64 k) (.held .nilFunc) = .held v) :
    (Instr.lookup 88 (.map (some m)) (.int .i64 k) false).run Tryz.prog w = .ok v w := by
  obtain ⟨u, ps, h1, h2⟩ := World.ownsMap.lookup h (int_keyed int_desc) map_desc (zero_deed w) (zd := .held .nilFunc) (zp := []) rfl (keyOf_int_mk int_desc (a := k) (WalkArith.wf_i64 (by omega)))
  unfold Rv at h2
  rw [hv] at h2
  injection h2 with h2
  injection h2 with h2 _
  injection h2 with h2
  rw [h1, h2]
theorem Bo.grown {w w' : World} {b : Nat} {cs : List Value} {m : Nat} (h : Bo w b cs) (hg : w.grownBy w' (some m)) (hne : b ≠ m) : Bo w' b cs :=
  h.keep (hg.block b h.lt (fun e => hne (by injection e))) (Nat.lt_of_lt_of_le h.lt hg.size)
theorem Gd.grown {n : Nat} {w a b : World} {m : Nat} (h : Gd n w a) (hg : a.grownBy b (some m)) (hm : n ≤ m) : Gd n w b :=
  ⟨h.1, h.2.grown hg h.2.size (fun k hk => by injection hk with hk; have := h.1; omega)⟩

/-- All deeds, by kinds: each list's function lies in a block of its own. -/
def deedsD (b1 b2 b3 b4 : Nat) : DataW Value :=
  ((((((DataW.map []).put (.int .i64 1) (.held (clos b1))).put (.int .i64 2) (.held (clos b2))).put (.int .i64 3) (.held (clos b3))).put (.int .i64 4) (.held (clos b4))).put (.int .i64 5) (.held (fv 62))).put (.int .i64 6) (.held (fv 63))
theorem deeds_1 (b1 b2 b3 b4 : Nat) : (deedsD b1 b2 b3 b4).atKey (.int .i64 1) (.held .nilFunc) = .held (clos b1) := rfl
theorem deeds_2 (b1 b2 b3 b4 : Nat) : (deedsD b1 b2 b3 b4).atKey (.int .i64 2) (.held .nilFunc) = .held (clos b2) := rfl
theorem deeds_3 (b1 b2 b3 b4 : Nat) : (deedsD b1 b2 b3 b4).atKey (.int .i64 3) (.held .nilFunc) = .held (clos b3) := rfl
theorem deeds_4 (b1 b2 b3 b4 : Nat) : (deedsD b1 b2 b3 b4).atKey (.int .i64 4) (.held .nilFunc) = .held (clos b4) := rfl
theorem deeds_5 (b1 b2 b3 b4 : Nat) : (deedsD b1 b2 b3 b4).atKey (.int .i64 5) (.held .nilFunc) = .held (fv 62) := rfl
theorem deeds_6 (b1 b2 b3 b4 : Nat) : (deedsD b1 b2 b3 b4).atKey (.int .i64 6) (.held .nilFunc) = .held (fv 63) := rfl
structure Deeds (w : World) (m b1 b2 b3 b4 : Nat) : Prop where
  mp : Mp w m 6 (deedsD b1 b2 b3 b4)
  q : Bo w b1 [fv 58]
  s : Bo w b2 [fv 59]
  d : Bo w b3 [fv 60]
  h : Bo w b4 [fv 61]

set_option maxHeartbeats 2000000 in
theorem deeds_is (w : World) : Calls Tryz.prog 37 #[] w fun e w' => e = .returned (.map (some w.heap.size)) ∧ (∃ b1 b2 b3 b4, Deeds w' w.heap.size b1 b2 b3 b4) ∧ Below w.heap.size w w' := by
  have hmm := @run_makeMap Tryz.prog
  have M : Hid (Mp (w.alloc (.map #[] 0)) w.heap.size 0 (.map [])) := World.ownsMap_made _ _ _ _
  have G : Hid (Gd w.heap.size w (w.alloc (.map #[] 0))) := (Gd.refl w).new _
  have l0 : w.heap.size < (w.alloc (.map #[] 0)).heap.size := by simp
  go_enter Tryz.func37, Tryz.ntmps37
  go_wp2_with fail
  generalize w.alloc (.map #[] 0) = W at M G l0 ⊢
  generalize hsz : w.heap.size = n at M G l0 ⊢
  have HSZ : Hid (w.heap.size = n) := hsz
  clear hsz
  refine (withList_is 58 W).mono ?_
  rintro e w1 ⟨rfl, q1, hb⟩
  have q1 : Hid _ := q1
  have G1 : Hid (Gd n w w1) := G.out.later hb
  have l1 : n < w1.heap.size := Nat.lt_of_lt_of_le l0 hb.size
  generalize W.heap.size = b1 at q1 l0 ⊢
  obtain ⟨w2, r1, m2, g2⟩ := Mp.add (Mp.later M.out hb) (by decide) 1 (by decide) (by decide) (clos b1)
  have Q : Hid (Bo w2 b1 [fv 58]) := q1.out.grown g2 (by omega)
  have G2 : Hid (Gd n w w2) := G1.out.grown g2 (Nat.le_refl _)
  have M2 : Hid _ := m2
  have l2 : n < w2.heap.size := Nat.lt_of_lt_of_le l1 g2.size
  have e1 : b1 ≠ n := by omega
  clear hb g2 m2 M G G1 q1 l0 l1
  go_wp2_with fail
  clear r1
  refine (withList_is 59 w2).mono ?_
  rintro e w3 ⟨rfl, q1, hb⟩
  have q1 : Hid _ := q1
  have G1 : Hid (Gd n w w3) := G2.out.later hb
  have Q1 : Hid (Bo w3 b1 [fv 58]) := Q.out.later hb
  have l1 : n < w3.heap.size := Nat.lt_of_lt_of_le l2 hb.size
  have M1 : Hid _ := Mp.later M2.out hb
  generalize w2.heap.size = b2 at q1 l2 ⊢
  obtain ⟨w4, r1, m2, g2⟩ := Mp.add M1.out (by decide) 2 (by decide) (by decide) (clos b2)
  have e2 : b2 ≠ n := by omega
  have S : Hid (Bo w4 b2 [fv 59]) := q1.out.grown g2 e2
  have Q4 : Hid (Bo w4 b1 [fv 58]) := Q1.out.grown g2 e1
  have G4 : Hid (Gd n w w4) := G1.out.grown g2 (Nat.le_refl _)
  have M4 : Hid _ := m2
  have l4 : n < w4.heap.size := Nat.lt_of_lt_of_le l1 g2.size
  clear hb g2 m2 M2 M1 G1 G2 q1 Q Q1 l1 l2
  go_wp2_with fail
  clear r1
  refine (withList_is 60 w4).mono ?_
  rintro e w5 ⟨rfl, q1, hb⟩
  have q1 : Hid _ := q1
  have G1 : Hid (Gd n w w5) := G4.out.later hb
  have Q1 : Hid (Bo w5 b1 [fv 58]) := Q4.out.later hb
  have S1 : Hid (Bo w5 b2 [fv 59]) := S.out.later hb
  have l1 : n < w5.heap.size := Nat.lt_of_lt_of_le l4 hb.size
  have M1 : Hid _ := Mp.later M4.out hb
  generalize w4.heap.size = b3 at q1 l4 ⊢
  obtain ⟨w6, r1, m2, g2⟩ := Mp.add M1.out (by decide) 3 (by decide) (by decide) (clos b3)
  have e3 : b3 ≠ n := by omega
  have D : Hid (Bo w6 b3 [fv 60]) := q1.out.grown g2 e3
  have Q6 : Hid (Bo w6 b1 [fv 58]) := Q1.out.grown g2 e1
  have S6 : Hid (Bo w6 b2 [fv 59]) := S1.out.grown g2 e2
  have G6 : Hid (Gd n w w6) := G1.out.grown g2 (Nat.le_refl _)
  have M6 : Hid _ := m2
  have l6 : n < w6.heap.size := Nat.lt_of_lt_of_le l1 g2.size
  clear hb g2 m2 M4 M1 G1 G4 q1 Q4 Q1 S S1 l1 l4
  go_wp2_with fail
  clear r1
  refine (withList_is 61 w6).mono ?_
  rintro e w7 ⟨rfl, q1, hb⟩
  have q1 : Hid _ := q1
  have G1 : Hid (Gd n w w7) := G6.out.later hb
  have Q1 : Hid (Bo w7 b1 [fv 58]) := Q6.out.later hb
  have S1 : Hid (Bo w7 b2 [fv 59]) := S6.out.later hb
  have D1 : Hid (Bo w7 b3 [fv 60]) := D.out.later hb
  have M1 : Hid _ := Mp.later M6.out hb
  generalize w6.heap.size = b4 at q1 l6 ⊢
  obtain ⟨w8, r1, m2, g2⟩ := Mp.add M1.out (by decide) 4 (by decide) (by decide) (clos b4)
  have e4 : b4 ≠ n := by omega
  have H8 : Hid (Bo w8 b4 [fv 61]) := q1.out.grown g2 e4
  have D8 : Hid (Bo w8 b3 [fv 60]) := D1.out.grown g2 e3
  have Q8 : Hid (Bo w8 b1 [fv 58]) := Q1.out.grown g2 e1
  have S8 : Hid (Bo w8 b2 [fv 59]) := S1.out.grown g2 e2
  have G8 : Hid (Gd n w w8) := G1.out.grown g2 (Nat.le_refl _)
  have M8 : Hid _ := m2
  clear hb g2 m2 M6 M1 G1 G6 q1 Q6 Q1 S6 S1 D D1 l6
  obtain ⟨w9, r2, m9, g9⟩ := Mp.add M8.out (by decide) 5 (by decide) (by decide) (fv 62)
  obtain ⟨wx, r3, mx, gx⟩ := Mp.add m9 (by decide) 6 (by decide) (by decide) (fv 63)
  have FIN : Hid (Deeds wx n b1 b2 b3 b4 ∧ Gd n w wx) := ⟨⟨mx, (Q8.out.grown g9 e1).grown gx e1, (S8.out.grown g9 e2).grown gx e2, (D8.out.grown g9 e3).grown gx e3, (H8.out.grown g9 e4).grown gx e4⟩, (G8.out.grown g9 (Nat.le_refl _)).grown gx (Nat.le_refl _)⟩
  clear m9 g9 mx gx M8 G8 Q8 S8 D8 H8
  unfold fv at r2 r3
  go_wp2
  go_ret
  exact ⟨by rw [HSZ.out]; rfl, by rw [HSZ.out]; exact ⟨b1, b2, b3, b4, FIN.out.1⟩, FIN.out.2.2⟩
end Go.Proofs.YtgkgkiheoadbfaaGreatDoor.Tab
namespace Go.Proofs.YtgkgkiheoadbfaaGreatDoor.Tab
set_option maxRecDepth 20000
open Go.RowKit
theorem Deeds.later {w w' : World} {m b1 b2 b3 b4 : Nat} (h : Deeds w m b1 b2 b3 b4) (hb : Below w.heap.size w w') : Deeds w' m b1 b2 b3 b4 :=
  ⟨h.mp.later hb, h.q.later hb, h.s.later hb, h.d.later hb, h.h.later hb⟩
theorem Deeds.new {w : World} {m b1 b2 b3 b4 : Nat} (h : Deeds w m b1 b2 b3 b4) (o : Obj) : Deeds (w.alloc o) m b1 b2 b3 b4 := h.later (new_below w o)
end Go.Proofs.YtgkgkiheoadbfaaGreatDoor.Tab
