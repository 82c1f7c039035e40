/- The reference's store: Flush, Fence, Crash, Dirty, by their contracts. -/
import Derived.Test.YthgkmbimmelglaaDoorRf1
namespace Go.Proofs.YthgkmbimmelglaaDoor
open Go.RowKit

theorem refFlush_no (r : Nat) (t l : Int) (w : World) (h : (t < 0 ∨ 4 ≤ t) ∨ l < 0 ∨ 9 ≤ l) :
    Calls Tryd.prog 21 #[.pointer (some ⟨r, 0, none⟩), .int .i64 t, .int .i64 l] w fun e w' => e = .returned (.int .i64 2) ∧ w' = w := by
  by_cases h1 : t < 0 ∨ 4 ≤ t
  · clear h
    go_enter Tryd.func21, Tryd.ntmps21
    go_wp2_with fail
    refine (within_no _ _ _ _ (by omega)).mono ?_
    rintro e ux ⟨rfl, hw⟩
    rw [hw]; clear hw ux
    go_wp2
    go_ret
    exact ⟨rfl, rfl⟩
  · have h2 : l < 0 ∨ 9 ≤ l := h.resolve_left h1
    go_enter Tryd.func21, Tryd.ntmps21
    go_wp2_with fail
    refine (within_yes _ _ _ _ (by omega) (by omega)).mono ?_
    rintro e ux ⟨rfl, hw⟩
    rw [hw]; clear hw ux
    go_wp2_with fail
    refine (within_no _ _ _ _ (by omega)).mono ?_
    rintro e ux ⟨rfl, hw⟩
    rw [hw]; clear hw ux
    go_wp2
    go_ret
    exact ⟨rfl, rfl⟩

def St.flushed (s : St) : St := { s with fl := wrap64 (s.fl + 1) }
theorem St.flushed_at (s : St) (m j : Nat) (hj : j < 147) : s.flushed.rat m j = if j = 145 then .int .i64 (wrap64 (s.fl + 1)) else s.rat m j := by
  unfold St.rat St.flushed
  by_cases e : j = 145
  · subst e; simp
  · by_cases h1 : j < 72
    · simp [h1, e]
    · by_cases h2 : j < 144
      · simp [h1, h2, e]
      · by_cases h3 : j = 144
        · simp [h3]
        · have : j = 146 := by omega
          subst this; simp

theorem refFlush_yes (t l r m : Nat) (s : St) (w : World) (ht : t < 4) (hl : l < 9) (hs : RfAt w r m s) :
    Calls Tryd.prog 21 #[.pointer (some ⟨r, 0, none⟩), .int .i64 t, .int .i64 l] w fun e w' => e = .returned (.int .i64 0) ∧ RfAt w' r m (s.wish t l) ∧ Two r m w w' := by
  have h1 := hs.setCell 145 _ (by decide) _ (s.flushed_at m) rfl
  obtain ⟨o, ⟨es, c, rfl⟩, hup, hW⟩ := h1.wants.update t l ht hl
  have E : Hid (RfAt _ r m (s.wish t l)) := h1.setM _ _ hW
  have O : Hid (Two r m w (setM (w.setCell ⟨r, 145, none⟩ (.int .i64 (wrap64 (s.fl + 1)))) m (.map es c))) := by
    obtain ⟨es', c', _, hm, _⟩ := h1.wants
    exact (((Only.refl r w).setCell 145 _).two m).trans (Two.setM hm)
  have cf := hs.flc
  have ff := hs.froz 145
  have cm := hs.mapc
  clear h1 hW
  go_enter Tryd.func21, Tryd.ntmps21
  go_wp2_with fail
  refine (within_yes _ _ _ _ (by omega) (by omega)).mono ?_
  rintro e ux ⟨rfl, hw⟩
  rw [hw]; clear hw ux
  go_wp2_with fail
  refine (within_yes _ _ _ _ (by omega) (by omega)).mono ?_
  rintro e ux ⟨rfl, hw⟩
  rw [hw]; clear hw ux
  go_wp2
  go_ret
  exact ⟨rfl, E.out, O.out⟩

/-! Fence. -/
theorem refFence_no (r : Nat) (t : Int) (w : World) (h : t < 0 ∨ 4 ≤ t) :
    Calls Tryd.prog 23 #[.pointer (some ⟨r, 0, none⟩), .int .i64 t] w fun e w' => e = .returned (.int .i64 2) ∧ w' = w := by
  go_enter Tryd.func23, Tryd.ntmps23
  go_wp2_with fail
  refine (within_no _ _ _ _ (by omega)).mono ?_
  rintro e ux ⟨rfl, hw⟩
  rw [hw]; clear hw ux
  go_wp2
  go_ret
  exact ⟨rfl, rfl⟩

def St.fencing (s : St) (t k : Nat) : St :=
  { s with good := fun i => if i / 8 < k ∧ s.want (9 * t + i / 8) = true then s.now i else s.good i, want := fun i => if i / 9 = t ∧ i % 9 < k then false else s.want i, fe := wrap64 (s.fe + 1) }
theorem St.fencing_zero (s : St) (t m j : Nat) (hj : j < 147) : (s.fencing t 0).rat m j = if j = 146 then .int .i64 (wrap64 (s.fe + 1)) else s.rat m j := by
  unfold St.rat St.fencing
  by_cases e : j = 146
  · subst e; simp
  · by_cases h1 : j < 72
    · simp [h1, e]
    · by_cases h2 : j < 144
      · simp [h1, h2, e]
      · by_cases h3 : j = 144
        · simp [h3]
        · have : j = 145 := by omega
          subst this; simp
theorem St.fencing_want (s : St) (t k : Nat) (hk : k < 9) : (s.fencing t k).want (9 * t + k) = s.want (9 * t + k) := by
  simp [St.fencing, show (9 * t + k) / 9 = t by omega, show (9 * t + k) % 9 = k by omega]
theorem St.fencing_yes (s : St) (t k : Nat) (hk : k < 9) (h : s.want (9 * t + k) = true) :
    { (s.fencing t k).stay k with want := fun i => if i = 9 * t + k then false else ((s.fencing t k).stay k).want i } = s.fencing t (k + 1) := by
  simp only [St.fencing, St.stay, St.mk.injEq, true_and, and_true]
  constructor
  · funext i
    by_cases e : i / 8 = k
    · simp [e, h]
    · by_cases e2 : i / 8 < k
      · simp [e, e2, show i / 8 < k + 1 by omega]
      · simp [e, e2, show ¬ i / 8 < k + 1 by omega]
  · funext i
    by_cases e : i = 9 * t + k
    · subst e; simp [show (9 * t + k) / 9 = t by omega, show (9 * t + k) % 9 = k by omega]
    · by_cases e2 : i / 9 = t ∧ i % 9 < k
      · simp [e, e2, show i % 9 < k + 1 by omega]
      · have e3 : ¬ (i / 9 = t ∧ i % 9 < k + 1) := by omega
        simp [e, e2, e3]
theorem St.fencing_no (s : St) (t k : Nat) (h : s.want (9 * t + k) = false) : s.fencing t k = s.fencing t (k + 1) := by
  simp only [St.fencing, St.mk.injEq, true_and, and_true]
  constructor
  · funext i
    by_cases e : i / 8 = k
    · simp [e, h]
    · by_cases e2 : i / 8 < k
      · simp [e2, show i / 8 < k + 1 by omega]
      · simp [e2, show ¬ i / 8 < k + 1 by omega]
  · funext i
    by_cases e : i = 9 * t + k
    · subst e; simp [h]
    · by_cases e2 : i / 9 = t ∧ i % 9 < k
      · simp [e2, show i % 9 < k + 1 by omega]
      · have e3 : ¬ (i / 9 = t ∧ i % 9 < k + 1) := by omega
        simp [e2, e3]

set_option maxHeartbeats 1000000 in
set_option maxRecDepth 20000 in
theorem refFence_yes (t r m : Nat) (s : St) (w : World) (ht : t < 4) (hs : RfAt w r m s) :
    Calls Tryd.prog 23 #[.pointer (some ⟨r, 0, none⟩), .int .i64 t] w fun e w' => e = .returned (.int .i64 0) ∧ RfAt w' r m (s.fence t) ∧ Two r m w w' := by
  have W0 : Wants w m (s.fencing t 0).want := by
    have : (s.fencing t 0).want = s.want := by simp [St.fencing]
    rw [this]; exact hs.wants
  have h0 : Hid (RfAt (w.setCell ⟨r, 146, none⟩ (.int .i64 (wrap64 (s.fe + 1)))) r m (s.fencing t 0)) := hs.setCell 146 _ (by decide) _ (s.fencing_zero t m) (by simp [St.fencing])
  have o0 : Hid (Two r m w (w.setCell ⟨r, 146, none⟩ (.int .i64 (wrap64 (s.fe + 1))))) := ((Only.refl r w).setCell 146 _).two m
  have cf := hs.fec
  have ff := hs.froz 146
  clear W0
  go_enter Tryd.func23, Tryd.ntmps23
  go_wp2_with fail
  refine (within_yes _ _ _ _ (by omega) (by omega)).mono ?_
  rintro e ux ⟨rfl, hw⟩
  rw [hw]; clear hw ux
  go_wp2
  clear cf ff
  go_loopw [16] (fun i wr => ∃ k : Nat, k ≤ 9 ∧ i = .int .i64 k ∧ RfAt wr r m (s.fencing t k) ∧ Two r m w wr)
    (fun i _ => 9 - (intOf i).toNat)
  case atStart => exact ⟨0, by omega, rfl, h0.out, o0.out⟩
  case round =>
    clear h0 o0
    obtain ⟨k, hk, rfl, h1, o1⟩ := hrel
    by_cases hlt : k < 9
    · have cm := h1.mapc
      have hl := h1.wants.look t k ht hlt
      rw [s.fencing_want t k hlt] at hl
      cases hB : s.want (9 * t + k) with
      | true =>
        rw [hB] at hl
        have N : Hid _ := s.fencing_yes t k hlt hB
        clear hB
        go_wp2_with fail
        refine (Lands_any k r m _ _ h1).mono ?_
        rintro e w2 ⟨rfl, h2, o2⟩
        obtain ⟨o, ⟨es, c, rfl⟩, hdl, hW⟩ := h2.wants.del t k ht hlt
        have cm2 := h2.mapc
        have E : Hid _ := h2.setM _ _ hW
        have O : Hid (Two r m w (setM w2 m (.map es c))) := by
          obtain ⟨es', c', _, hm, _⟩ := h2.wants
          exact (o1.trans (o2.two m)).trans (Two.setM hm)
        clear hW h1 h2 o1 o2 hl cm
        go_wp2
        go_roundw
        case rel => exact ⟨k + 1, by omega, by go_num, by rw [← N.out]; exact E.out, O.out⟩
        case measure => simp [intOf]; omega
      | false =>
        rw [hB] at hl
        have N : Hid _ := s.fencing_no t k hB
        clear hB
        go_wp2
        go_roundw
        case rel => exact ⟨k + 1, by omega, by go_num, by rw [← N.out]; exact h1, o1⟩
        case measure => simp [intOf]; omega
    · obtain rfl : k = 9 := by omega
      go_wp2
      go_ret
      refine ⟨rfl, h1.congr (fun _ _ => rfl) (fun i hi => ?_) (fun i hi => ?_) rfl rfl, o1⟩
      · simp [St.fence, St.fencing, show i / 8 < 9 by omega]
      · simp [St.fence, St.fencing, show i % 9 < 9 by omega]
end Go.Proofs.YthgkmbimmelglaaDoor
