/- Texts laid together: The reference Legal, by its contracts; errors.As at an error at a place, by its contract; The library's handle, behind all that a call lays; An error taken apart, at a place; the law placed, by its contracts; Words of objects held against each other; The library's handle of the type error, off the row's condition. -/
import Derived.Test.YtaipanjigindbaaDoorPk03
import Derived.Test.YtaipanjigindbaaDoorPk07
import Derived.Deep.DeepCutAuto
import Derived.Deep.RegionHeld3
import Derived.Test.YtaipanjigindbaaDoorPk05
import Derived.Test.YtaipanjigindbaaDoorPk00
import Derived.Test.YtaipanjigindbaaDoorPk01
import Derived.ChangeKeysEq
import Derived.Test.YtaipanjigindbaaDoorTie
import Derived.ProofKit
import Derived.LaidMore
import Derived.LaidLaws
import Derived.LaidHandle
import Derived.OpenShut
import Derived.Stop.Joined
namespace Go.Proofs.YtaipanjigindbaaDoor.Tab
set_option maxRecDepth 20000
open Go.RowKit
set_option linter.unusedVariables false

/-- What the reference's Legal answers. -/
def LegalRY (w : World) (c : Nat → Nat) (e : Ending) (w' : World) : Prop := ∃ b, e = .returned (.tuple #[.slice (some ⟨b, 0, none⟩) 17 17, .agg #[.int .i64 0, .int .i64 (-1)]]) ∧ w.heap.size ≤ b ∧ Bo w' b (wl c) ∧ Below w.heap.size w w'
def LegalRN (w : World) (a p : Int) (e : Ending) (w' : World) : Prop := e = .returned (.tuple #[.slice none 0 0, .agg #[.int .i64 a, .int .i64 p]]) ∧ Below w.heap.size w w'
set_option maxHeartbeats 2000000 in
theorem legalR_no {kind : Int} (h : ¬ (1 ≤ kind ∧ kind ≤ 6)) (w : World) (v : Value) :
    Calls Tryd.prog 6 #[.int .i64 kind, v] w (LegalRN w 1 (-1)) := by
  have h2 : kind < 1 ∨ 6 < kind := by omega
  have IS : Hid (∀ w : World, _) := fun w => rwithin_no kind 1 6 w h2
  clear h h2
  have hM : Hid _ := ((Ms.nil w).born [.int .i64 0, .int .i64 0] 26 (b := w.heap.size) rfl)
  go_enter Tryd.func6, Tryd.ntmps6
  go_wp2_with fail
  refine (IS.out _).mono ?_
  rintro e ux ⟨rfl, hw⟩
  rw [hw]; clear hw ux
  generalize World.alloc _ _ = W at hM ⊢
  generalize hsz : w.heap.size = n at hM ⊢
  clear hsz
  go_wp2_with fail
  refine (bare_is 1 _).mono ?_
  rintro e W ⟨rfl, hb⟩
  replace hM := hid (hM.out.later hb)
  clear hb
  go_wp2_with (first
    | (refine sR rfl (hM.out.at 0 rfl) rfl ((rwF 0 0).len (rwF 1 (-1))) (rwF 1 (-1)) ?_
       replace hM := hid (hM.out.put 0 rfl [.int .i64 1, .int .i64 (-1)] ((rwF 0 0).len (rwF 1 (-1))))
       generalize World.setCells _ _ _ _ = W at hM ⊢))
  exact bodyPost_ret (ress1 Tryd.results6 (.slice none 0 0) (hM.out.at 0 rfl) (rwF 1 (-1))) rfl ⟨rfl, hM.out.below⟩
set_option maxHeartbeats 4000000 in
theorem legalR_nil {kind : Nat} (h1 : 1 ≤ kind) (h6 : kind ≤ 6) (w : World) :
    Calls Tryd.prog 6 #[.int .i64 (kind : Nat), .slice none 0 0] w (LegalRY w wz) := by
  have TC : Hid (∀ {B : Nat} {w : World} (h : Th B w (kind : Nat) wz (.slice none 0 0) Tb.zero 0), _) := fun {B w} h => TCells_is (isTh_ob.2 (isOb_zero (by omega) (by omega))) h
  have IS : Hid (∀ w : World, _) := fun w => rwithin_yes (kind : Nat) 1 6 w (by omega) (by omega)
  have hM : Hid _ := (((Ms.nil w).oldL ((Th.zero (kind := (kind : Nat)) (by omega) w).isl (by omega))).born [.int .i64 0, .int .i64 0] 26 (b := w.heap.size) rfl)
  have TQ0 : Hid _ := hid (Th.zero (kind := (kind : Nat)) (by omega) w).tq
  clear h1 h6
  go_enter Tryd.func6, Tryd.ntmps6
  go_wp2_with fail
  refine (IS.out _).mono ?_
  rintro e ux ⟨rfl, hw⟩
  rw [hw]; clear hw ux
  generalize World.alloc _ _ = W at hM ⊢
  generalize hsz : w.heap.size = n0 at hM ⊢
  have HSZ : Hid _ := hsz
  clear hsz
  obtain ⟨bx1, hbx1⟩ : ∃ q, q = W.heap.size := ⟨_, rfl⟩
  replace hM := hid (hM.out.bornR (tg_zero 0).symm 64 (b := bx1) hbx1)
  have Hbx1 : Hid _ := hbx1
  clear hbx1
  go_wp2_with (first
    | (rw [← Hbx1.out]; refine sR rfl (hM.out.at 0 rfl) rfl (rwN.len (rwK (kind : Nat))) (rwK (kind : Nat)) ?_
       replace hM := hid (hM.out.put 0 rfl [.int .i64 (kind : Nat), .slice none 0 0, .int .i64 0, .int .i64 0, .int .i64 0, .int .i64 0, .int .i64 0, .int .i64 0, .int .i64 0, .int .i64 0, .int .i64 0, .int .i64 0, .int .i64 0, .int .i64 0, .int .i64 0, .int .i64 0, .int .i64 0, .int .i64 0, .int .i64 0] (rwN.len (rwK (kind : Nat))))
       generalize World.setCells _ _ _ _ = W at hM ⊢))
  rw [← tg_nil] at hM
  go_loopg [19] 0 (fun gg s19 wt => wt = W ∧ s19 = .int .i64 0)
  case atStart => exact ⟨rfl, rfl⟩
  case round =>
    obtain ⟨hw, rfl⟩ := hrel
    rw [hw]; clear hw wr
    go_wp2_with (first
      | (refine lR rfl (hM.out.at 0 rfl) rfl (rwTh _ rfl _ _) ?_))
    refine (TC.out (TQ0.out.th (hM.out.isL 0 rfl))).mono ?_
    rintro e W ⟨⟨bq, rfl, hq2, hWq⟩, hb⟩
    replace hM := hid (hM.out.laterB hb hq2 hWq)
    clear hb
    go_wp2_with fail
    refine (good_is _).mono ?_
    rintro e W ⟨rfl, hb⟩
    replace hM := hid (hM.out.later hb)
    clear hb
    go_wp2_with (first
      | (refine sR rfl (hM.out.at 2 rfl) rfl ((rwF 0 0).len (rwF 0 (-1))) (rwF 0 (-1)) ?_
         replace hM := hid (hM.out.put 2 rfl [.int .i64 0, .int .i64 (-1)] ((rwF 0 0).len (rwF 0 (-1))))
         generalize World.setCells _ _ _ _ = W at hM ⊢))
    exact bodyPost_ret (ress1 Tryd.results6 (.slice (some ⟨bq, 0, none⟩) 17 17) (hM.out.at 2 rfl) (rwF 0 (-1))) rfl ⟨bq, rfl, by rw [HSZ.out]; exact hM.out.key 0 rfl, (hM.out.at 0 rfl), hM.out.below⟩
set_option maxHeartbeats 4000000 in
theorem legalR_none {kind : Nat} (h1 : 1 ≤ kind) (h6 : kind ≤ 6) (a : Addr) (c : Nat) (w : World) :
    Calls Tryd.prog 6 #[.int .i64 (kind : Nat), .slice (some a) 0 c] w (LegalRY w wz) := by
  have TC : Hid (∀ {B : Nat} {w : World} (h : Th B w (kind : Nat) wz (.slice none 0 0) Tb.zero 0), _) := fun {B w} h => TCells_is (isTh_ob.2 (isOb_zero (by omega) (by omega))) h
  have IS : Hid (∀ w : World, _) := fun w => rwithin_yes (kind : Nat) 1 6 w (by omega) (by omega)
  have hM : Hid _ := (((Ms.nil w).oldL ((Th.zero (kind := (kind : Nat)) (by omega) w).isl (by omega))).born [.int .i64 0, .int .i64 0] 26 (b := w.heap.size) rfl)
  have TQ0 : Hid _ := hid (Th.zero (kind := (kind : Nat)) (by omega) w).tq
  clear h1 h6
  go_enter Tryd.func6, Tryd.ntmps6
  go_wp2_with fail
  refine (IS.out _).mono ?_
  rintro e ux ⟨rfl, hw⟩
  rw [hw]; clear hw ux
  generalize World.alloc _ _ = W at hM ⊢
  generalize hsz : w.heap.size = n0 at hM ⊢
  have HSZ : Hid _ := hsz
  clear hsz
  obtain ⟨bx1, hbx1⟩ : ∃ q, q = W.heap.size := ⟨_, rfl⟩
  replace hM := hid (hM.out.bornR (tg_zero 0).symm 64 (b := bx1) hbx1)
  have Hbx1 : Hid _ := hbx1
  clear hbx1
  go_wp2_with (first
    | (rw [← Hbx1.out]; refine sR rfl (hM.out.at 0 rfl) rfl (rwN.len (rwK (kind : Nat))) (rwK (kind : Nat)) ?_
       replace hM := hid (hM.out.put 0 rfl [.int .i64 (kind : Nat), .slice none 0 0, .int .i64 0, .int .i64 0, .int .i64 0, .int .i64 0, .int .i64 0, .int .i64 0, .int .i64 0, .int .i64 0, .int .i64 0, .int .i64 0, .int .i64 0, .int .i64 0, .int .i64 0, .int .i64 0, .int .i64 0, .int .i64 0, .int .i64 0] (rwN.len (rwK (kind : Nat))))
       generalize World.setCells _ _ _ _ = W at hM ⊢))
  rw [← tg_nil] at hM
  go_loopg [19] 0 (fun gg s19 wt => wt = W ∧ s19 = .int .i64 0)
  case atStart => exact ⟨rfl, rfl⟩
  case round =>
    obtain ⟨hw, rfl⟩ := hrel
    rw [hw]; clear hw wr
    go_wp2_with (first
      | (refine lR rfl (hM.out.at 0 rfl) rfl (rwTh _ rfl _ _) ?_))
    refine (TC.out (TQ0.out.th (hM.out.isL 0 rfl))).mono ?_
    rintro e W ⟨⟨bq, rfl, hq2, hWq⟩, hb⟩
    replace hM := hid (hM.out.laterB hb hq2 hWq)
    clear hb
    go_wp2_with fail
    refine (good_is _).mono ?_
    rintro e W ⟨rfl, hb⟩
    replace hM := hid (hM.out.later hb)
    clear hb
    go_wp2_with (first
      | (refine sR rfl (hM.out.at 2 rfl) rfl ((rwF 0 0).len (rwF 0 (-1))) (rwF 0 (-1)) ?_
         replace hM := hid (hM.out.put 2 rfl [.int .i64 0, .int .i64 (-1)] ((rwF 0 0).len (rwF 0 (-1))))
         generalize World.setCells _ _ _ _ = W at hM ⊢))
    exact bodyPost_ret (ress1 Tryd.results6 (.slice (some ⟨bq, 0, none⟩) 17 17) (hM.out.at 2 rfl) (rwF 0 (-1))) rfl ⟨bq, rfl, by rw [HSZ.out]; exact hM.out.key 0 rfl, (hM.out.at 0 rfl), hM.out.below⟩
set_option maxHeartbeats 8000000 in
theorem legalR_some {kind : Nat} (h1 : 1 ≤ kind) (h6 : kind ≤ 6) {b off c n : Nat} {q : Nat → DD} (h0 : 0 < n) (hc : n ≤ c) (hn : n ≤ 9223372036854775807) (hO : ∀ j, j < n → Ok1 (kind : Nat) q j) (w : World) (D : Dq w (.slice (some ⟨b, off, none⟩) n c) n q) :
    Calls Tryd.prog 6 #[.int .i64 (kind : Nat), .slice (some ⟨b, off, none⟩) n c] w (LegalRY w (oi (kind : Nat) q n)) := by
  have HE : Hid _ := hid D.all
  clear D
  have OB : Hid (∀ i, i ≤ n → isTh (kind : Nat) (oi (kind : Nat) q i)) := fun i hi => isTh_ob.2 (oi_ob (by omega) (by omega) i fun j hj => hO j (by omega))
  have HO : Hid _ := hO
  clear hO
  have HC : Hid (n ≤ c ∧ n ≤ 9223372036854775807 ∧ kind ≤ 6) := ⟨hc, hn, h6⟩
  have IS : Hid (∀ w : World, _) := fun w => rwithin_yes (kind : Nat) 1 6 w (by omega) (by omega)
  have hM : Hid _ := (((Ms.nil w).oldL ((Th.zero (kind := (kind : Nat)) (by omega) w).isl (by omega))).born [.int .i64 0, .int .i64 0] 26 (b := w.heap.size) rfl)
  have TQ0 : Hid _ := hid (Th.zero (kind := (kind : Nat)) (by omega) w).tq
  clear hc hn h0 h1 h6
  go_enter Tryd.func6, Tryd.ntmps6
  go_wp2_with fail
  refine (IS.out _).mono ?_
  rintro e ux ⟨rfl, hw⟩
  rw [hw]; clear hw ux
  generalize World.alloc _ _ = W at hM ⊢
  generalize hsz : w.heap.size = n0 at hM ⊢
  have HSZ : Hid _ := hsz
  clear hsz
  obtain ⟨bx1, hbx1⟩ : ∃ q, q = W.heap.size := ⟨_, rfl⟩
  replace hM := hid (hM.out.bornR (tg_zero 0).symm 64 (b := bx1) hbx1)
  have Hbx1 : Hid _ := hbx1
  clear hbx1
  go_wp2_with (first
    | (rw [← Hbx1.out]; refine sR rfl (hM.out.at 0 rfl) rfl (rwN.len (rwK (kind : Nat))) (rwK (kind : Nat)) ?_
       replace hM := hid (hM.out.put 0 rfl [.int .i64 (kind : Nat), .slice none 0 0, .int .i64 0, .int .i64 0, .int .i64 0, .int .i64 0, .int .i64 0, .int .i64 0, .int .i64 0, .int .i64 0, .int .i64 0, .int .i64 0, .int .i64 0, .int .i64 0, .int .i64 0, .int .i64 0, .int .i64 0, .int .i64 0, .int .i64 0] (rwN.len (rwK (kind : Nat))))
       generalize World.setCells _ _ _ _ = W at hM ⊢))
  rw [← tg_nil] at hM
  go_loopg [19] n (fun gg s19 wt => ∃ i : Nat, i ≤ n ∧ n - i ≤ gg ∧ s19 = .int .i64 i ∧ ∃ (v : Value) (tt : Tb) (x0 : Int) (B : Nat), Hid (v.oneCell' = true) ∧ Hid (Tq (kind : Nat) (oi (kind : Nat) q i) v tt x0) ∧ Hid (Ms n0 w wt [(bx1, tg (kind : Nat) v tt x0), (n0, [.int .i64 0, .int .i64 0])] [(B, v, tl (kind : Nat) (oi (kind : Nat) q i))]))
  case atStart => exact ⟨0, by omega, by omega, rfl, _, _, _, _, hid rfl, TQ0, hM⟩
  case round =>
    clear hM TQ0
    obtain ⟨i, hi, hgg, rfl, v, tt, x0, B, HV, TQ, hM⟩ := hrel
    obtain ⟨W, rfl⟩ : ∃ q, q = wr := ⟨_, rfl⟩
    obtain ⟨ci, hci⟩ : ∃ c, c = oi (kind : Nat) q i := ⟨_, rfl⟩
    rw [← hci] at hM TQ
    by_cases hlt : i < n
    · have hi1 : (i : Int) < (n : Int) := by omega
      have hi0 : (0 : Int) ≤ (i : Int) := by omega
      obtain ⟨t, o, k, x, cc, y, hq, hr⟩ := HE.out W hM.out.below i (by omega)
      have RA : Hid _ := hr
      clear hr
      have OK := (Ok1.at hq).1 (HO.out i hlt)
      obtain ⟨cn, hcn⟩ : ∃ c, c = oi (kind : Nat) q (i + 1) := ⟨_, rfl⟩
      have HCN : Hid _ := hcn
      have OP : Hid (∀ w, _) := rfR_yes OK.1
      have hod : odo (kind : Nat) ci o k x = (cn, cc, y) := by
        rw [hci, hcn, oi_at hq]
        exact Prod.ext rfl (Prod.ext OK.2.1 OK.2.2)
      have DO : Hid (∀ {w : World} {B : Nat} (h : Th B w (kind : Nat) ci v tt x0), Calls Tryd.prog 20 #[.agg (tg (kind : Nat) v tt x0).toArray, .agg #[.int .i64 o, .int .i64 k, .int .i64 x]] w fun e w' => ∃ v' t' n', e = .returned (.tuple #[.agg (tg (kind : Nat) v' t' n').toArray, .agg #[.int .i64 cc, .int .i64 y]]) ∧ Tq (kind : Nat) cn v' t' n' ∧ v'.oneCell' = true ∧ ((v' = v ∧ tl (kind : Nat) cn = tl (kind : Nat) ci) ∨ IsL w.heap.size w' v' (tl (kind : Nat) cn)) ∧ Below w.heap.size w w') := fun {w B} h => by
        have hh := TDo_is (hci ▸ OB.out i (by omega)) OK.1 h
        rw [hod] at hh
        exact hh
      clear OK hcn hci hq hod
      obtain ⟨bd, hbd⟩ : ∃ q, q = W.heap.size := ⟨_, rfl⟩
      have HBD : Hid _ := hbd
      clear hbd
      go_wp2_with (first
        | (refine lO rfl RA.out rfl (rwD t o k x cc y) ?_)
        | (rw [← HBD.out]
           replace hM := hid (hM.out.born [.int .i64 0, .int .i64 0, .int .i64 0, .int .i64 0, .int .i64 0, .int .i64 0] 53 HBD.out)
           refine sR rfl (hM.out.at 0 rfl) rfl ((rwD 0 0 0 0 0 0).len (rwD t o k x cc y)) (rwD t o k x cc y) ?_
           replace hM := hid (hM.out.put 0 rfl (dl t o k x cc y) ((rwD 0 0 0 0 0 0).len (rwD t o k x cc y)))
           generalize World.setCells _ _ _ _ = W at hM ⊢
           have c2 := hM.out.cell 0 1 rfl rfl
           have c3 := hM.out.cell 0 2 rfl rfl
           have c4 := hM.out.cell 0 3 rfl rfl))
      refine (OP.out _).mono ?_
      rintro e W ⟨rfl, hb⟩
      replace hM := hid (hM.out.later hb)
      clear hb
      clear c2 c3 c4
      have c5 := hM.out.cell 0 1 rfl rfl
      have c6 := hM.out.cell 0 2 rfl rfl
      have c7 := hM.out.cell 0 3 rfl rfl
      go_wp2_with (first
        | (refine lR rfl (hM.out.at 1 rfl) rfl (rwTh _ HV.out tt x0) ?_))
      refine (DO.out (TQ.out.th (hM.out.isL 0 rfl))).mono ?_
      rintro e W ⟨v2, t2, x2, rfl, htq, hv2, hor, hb⟩
      obtain ⟨C, hC, hM⟩ := hM.out.laterM hb hor
      clear hb hor hC
      have HV2 : Hid _ := hv2
      have TQ2 : Hid (Tq (kind : Nat) cn v2 t2 x2) := htq
      clear hv2 htq
      clear c5 c6 c7
      obtain ⟨bx8, hbx8⟩ : ∃ q, q = W.heap.size := ⟨_, rfl⟩
      replace hM := hid ((hM.out.bornR (tg_zero 0).symm 64 (b := bx8) hbx8).born [.int .i64 0, .int .i64 0] 49 (b := (bx8 + 1)) (by simp [hbx8]))
      have Hbx8 : Hid _ := hbx8
      clear hbx8
      go_wp2_with (first
        | (rw [← Hbx8.out]; refine sR rfl (hM.out.at 1 rfl) rfl (rwN.len (rwTh _ HV2.out t2 x2)) (rwTh _ HV2.out t2 x2) ?_
           replace hM := hid (hM.out.put 1 rfl (tg (kind : Nat) v2 t2 x2) (rwN.len (rwTh _ HV2.out t2 x2)))
           generalize World.setCells _ _ _ _ = W at hM ⊢)
        | (refine sR rfl (hM.out.at 0 rfl) rfl ((rwA 0 0).len (rwA cc y)) (rwA cc y) ?_
           replace hM := hid (hM.out.put 0 rfl [.int .i64 cc, .int .i64 y] ((rwA 0 0).len (rwA cc y)))
           generalize World.setCells _ _ _ _ = W at hM ⊢
           have c9 := hM.out.cell 0 0 rfl rfl
           have c10 := hM.out.cell 0 1 rfl rfl
           have c11 := hM.out.cell 2 4 rfl rfl
           have c12 := hM.out.cell 2 5 rfl rfl)
        | (refine lR rfl (hM.out.at 1 rfl) rfl (rwTh _ HV2.out t2 x2) ?_)
        | (refine sR rfl (hM.out.at 3 rfl) rfl ((rwTh _ HV.out tt x0).len (rwTh _ HV2.out t2 x2)) (rwTh _ HV2.out t2 x2) ?_
           replace hM := hid (hM.out.put 3 rfl (tg (kind : Nat) v2 t2 x2) ((rwTh _ HV.out tt x0).len (rwTh _ HV2.out t2 x2)))
           generalize World.setCells _ _ _ _ = W at hM ⊢))
      clear c9 c10 c11 c12
      go_roundg (n - (i + 1))
      case measure => omega
      case rel => exact ⟨i + 1, by omega, by omega, by have := HC.out; have hw : wrap64 ((i : Int) + 1) = ((i + 1 : Nat) : Int) := (by unfold wrap64; omega); rw [hw], v2, t2, x2, C, HV2, by rw [← HCN.out]; exact TQ2, by rw [← HCN.out]; exact (hM.out.pick [3, 4]).pickL [0]⟩
    · have TC : Hid (∀ {B : Nat} {w : World} (h : Th B w (kind : Nat) ci v tt x0), _) := fun {B w} h => TCells_is (hci ▸ OB.out i (by omega)) h
      obtain rfl : i = n := by omega
      have hi1 : ¬ (i : Int) < (i : Int) := by omega
      go_wp2_with (first
        | (refine lR rfl (hM.out.at 0 rfl) rfl (rwTh _ HV.out tt x0) ?_))
      refine (TC.out (TQ.out.th (hM.out.isL 0 rfl))).mono ?_
      rintro e W ⟨⟨bq, rfl, hq2, hWq⟩, hb⟩
      replace hM := hid (hM.out.laterB hb hq2 hWq)
      clear hb
      go_wp2_with fail
      refine (good_is _).mono ?_
      rintro e W ⟨rfl, hb⟩
      replace hM := hid (hM.out.later hb)
      clear hb
      go_wp2_with (first
        | (refine sR rfl (hM.out.at 2 rfl) rfl ((rwF 0 0).len (rwF 0 (-1))) (rwF 0 (-1)) ?_
           replace hM := hid (hM.out.put 2 rfl [.int .i64 0, .int .i64 (-1)] ((rwF 0 0).len (rwF 0 (-1))))
           generalize World.setCells _ _ _ _ = W at hM ⊢))
      exact bodyPost_ret (ress1 Tryd.results6 (.slice (some ⟨bq, 0, none⟩) 17 17) (hM.out.at 2 rfl) (rwF 0 (-1))) rfl ⟨bq, rfl, by rw [HSZ.out]; exact hM.out.key 0 rfl, by rw [← hci]; exact (hM.out.at 0 rfl), hM.out.below⟩
set_option maxHeartbeats 8000000 in
theorem legalR_bad {kind : Nat} (h1 : 1 ≤ kind) (h6 : kind ≤ 6) {b off c n m : Nat} {q : Nat → DD} (h0 : 0 < n) (hc : n ≤ c) (hn : n ≤ 9223372036854775807) (hm : m < n) (hO : ∀ j, j < m → Ok1 (kind : Nat) q j) (hB : ¬ Ok1 (kind : Nat) q m) (w : World) (D : Dq w (.slice (some ⟨b, off, none⟩) n c) n q) :
    Calls Tryd.prog 6 #[.int .i64 (kind : Nat), .slice (some ⟨b, off, none⟩) n c] w (LegalRN w 13 (m : Nat)) := by
  have HE : Hid _ := hid D.all
  clear D
  have OB : Hid (∀ i, i ≤ m → isTh (kind : Nat) (oi (kind : Nat) q i)) := fun i hi => isTh_ob.2 (oi_ob (by omega) (by omega) i fun j hj => hO j (by omega))
  have HO : Hid _ := hO
  clear hO
  have HB : Hid _ := hB
  clear hB
  have HC : Hid (n ≤ c ∧ n ≤ 9223372036854775807 ∧ kind ≤ 6) := ⟨hc, hn, h6⟩
  have IS : Hid (∀ w : World, _) := fun w => rwithin_yes (kind : Nat) 1 6 w (by omega) (by omega)
  have hM : Hid _ := (((Ms.nil w).oldL ((Th.zero (kind := (kind : Nat)) (by omega) w).isl (by omega))).born [.int .i64 0, .int .i64 0] 26 (b := w.heap.size) rfl)
  have TQ0 : Hid _ := hid (Th.zero (kind := (kind : Nat)) (by omega) w).tq
  clear hc hn h0 h1 h6
  go_enter Tryd.func6, Tryd.ntmps6
  go_wp2_with fail
  refine (IS.out _).mono ?_
  rintro e ux ⟨rfl, hw⟩
  rw [hw]; clear hw ux
  generalize World.alloc _ _ = W at hM ⊢
  generalize hsz : w.heap.size = n0 at hM ⊢
  have HSZ : Hid _ := hsz
  clear hsz
  obtain ⟨bx1, hbx1⟩ : ∃ q, q = W.heap.size := ⟨_, rfl⟩
  replace hM := hid (hM.out.bornR (tg_zero 0).symm 64 (b := bx1) hbx1)
  have Hbx1 : Hid _ := hbx1
  clear hbx1
  go_wp2_with (first
    | (rw [← Hbx1.out]; refine sR rfl (hM.out.at 0 rfl) rfl (rwN.len (rwK (kind : Nat))) (rwK (kind : Nat)) ?_
       replace hM := hid (hM.out.put 0 rfl [.int .i64 (kind : Nat), .slice none 0 0, .int .i64 0, .int .i64 0, .int .i64 0, .int .i64 0, .int .i64 0, .int .i64 0, .int .i64 0, .int .i64 0, .int .i64 0, .int .i64 0, .int .i64 0, .int .i64 0, .int .i64 0, .int .i64 0, .int .i64 0, .int .i64 0, .int .i64 0] (rwN.len (rwK (kind : Nat))))
       generalize World.setCells _ _ _ _ = W at hM ⊢))
  rw [← tg_nil] at hM
  go_loopg [19] m (fun gg s19 wt => ∃ i : Nat, i ≤ m ∧ m - i ≤ gg ∧ s19 = .int .i64 i ∧ ∃ (v : Value) (tt : Tb) (x0 : Int) (B : Nat), Hid (v.oneCell' = true) ∧ Hid (Tq (kind : Nat) (oi (kind : Nat) q i) v tt x0) ∧ Hid (Ms n0 w wt [(bx1, tg (kind : Nat) v tt x0), (n0, [.int .i64 0, .int .i64 0])] [(B, v, tl (kind : Nat) (oi (kind : Nat) q i))]))
  case atStart => exact ⟨0, by omega, by omega, rfl, _, _, _, _, hid rfl, TQ0, hM⟩
  case round =>
    clear hM TQ0
    obtain ⟨i, hi, hgg, rfl, v, tt, x0, B, HV, TQ, hM⟩ := hrel
    obtain ⟨W, rfl⟩ : ∃ q, q = wr := ⟨_, rfl⟩
    obtain ⟨ci, hci⟩ : ∃ c, c = oi (kind : Nat) q i := ⟨_, rfl⟩
    rw [← hci] at hM TQ
    by_cases hlt : i < m
    · have hi1 : (i : Int) < (n : Int) := by omega
      have hi0 : (0 : Int) ≤ (i : Int) := by omega
      obtain ⟨t, o, k, x, cc, y, hq, hr⟩ := HE.out W hM.out.below i (by omega)
      have RA : Hid _ := hr
      clear hr
      have OK := (Ok1.at hq).1 (HO.out i hlt)
      obtain ⟨cn, hcn⟩ : ∃ c, c = oi (kind : Nat) q (i + 1) := ⟨_, rfl⟩
      have HCN : Hid _ := hcn
      have OP : Hid (∀ w, _) := rfR_yes OK.1
      have hod : odo (kind : Nat) ci o k x = (cn, cc, y) := by
        rw [hci, hcn, oi_at hq]
        exact Prod.ext rfl (Prod.ext OK.2.1 OK.2.2)
      have DO : Hid (∀ {w : World} {B : Nat} (h : Th B w (kind : Nat) ci v tt x0), Calls Tryd.prog 20 #[.agg (tg (kind : Nat) v tt x0).toArray, .agg #[.int .i64 o, .int .i64 k, .int .i64 x]] w fun e w' => ∃ v' t' n', e = .returned (.tuple #[.agg (tg (kind : Nat) v' t' n').toArray, .agg #[.int .i64 cc, .int .i64 y]]) ∧ Tq (kind : Nat) cn v' t' n' ∧ v'.oneCell' = true ∧ ((v' = v ∧ tl (kind : Nat) cn = tl (kind : Nat) ci) ∨ IsL w.heap.size w' v' (tl (kind : Nat) cn)) ∧ Below w.heap.size w w') := fun {w B} h => by
        have hh := TDo_is (hci ▸ OB.out i (by omega)) OK.1 h
        rw [hod] at hh
        exact hh
      clear OK hcn hci hq hod
      obtain ⟨bd, hbd⟩ : ∃ q, q = W.heap.size := ⟨_, rfl⟩
      have HBD : Hid _ := hbd
      clear hbd
      go_wp2_with (first
        | (refine lO rfl RA.out rfl (rwD t o k x cc y) ?_)
        | (rw [← HBD.out]
           replace hM := hid (hM.out.born [.int .i64 0, .int .i64 0, .int .i64 0, .int .i64 0, .int .i64 0, .int .i64 0] 53 HBD.out)
           refine sR rfl (hM.out.at 0 rfl) rfl ((rwD 0 0 0 0 0 0).len (rwD t o k x cc y)) (rwD t o k x cc y) ?_
           replace hM := hid (hM.out.put 0 rfl (dl t o k x cc y) ((rwD 0 0 0 0 0 0).len (rwD t o k x cc y)))
           generalize World.setCells _ _ _ _ = W at hM ⊢
           have c2 := hM.out.cell 0 1 rfl rfl
           have c3 := hM.out.cell 0 2 rfl rfl
           have c4 := hM.out.cell 0 3 rfl rfl))
      refine (OP.out _).mono ?_
      rintro e W ⟨rfl, hb⟩
      replace hM := hid (hM.out.later hb)
      clear hb
      clear c2 c3 c4
      have c5 := hM.out.cell 0 1 rfl rfl
      have c6 := hM.out.cell 0 2 rfl rfl
      have c7 := hM.out.cell 0 3 rfl rfl
      go_wp2_with (first
        | (refine lR rfl (hM.out.at 1 rfl) rfl (rwTh _ HV.out tt x0) ?_))
      refine (DO.out (TQ.out.th (hM.out.isL 0 rfl))).mono ?_
      rintro e W ⟨v2, t2, x2, rfl, htq, hv2, hor, hb⟩
      obtain ⟨C, hC, hM⟩ := hM.out.laterM hb hor
      clear hb hor hC
      have HV2 : Hid _ := hv2
      have TQ2 : Hid (Tq (kind : Nat) cn v2 t2 x2) := htq
      clear hv2 htq
      clear c5 c6 c7
      obtain ⟨bx8, hbx8⟩ : ∃ q, q = W.heap.size := ⟨_, rfl⟩
      replace hM := hid ((hM.out.bornR (tg_zero 0).symm 64 (b := bx8) hbx8).born [.int .i64 0, .int .i64 0] 49 (b := (bx8 + 1)) (by simp [hbx8]))
      have Hbx8 : Hid _ := hbx8
      clear hbx8
      go_wp2_with (first
        | (rw [← Hbx8.out]; refine sR rfl (hM.out.at 1 rfl) rfl (rwN.len (rwTh _ HV2.out t2 x2)) (rwTh _ HV2.out t2 x2) ?_
           replace hM := hid (hM.out.put 1 rfl (tg (kind : Nat) v2 t2 x2) (rwN.len (rwTh _ HV2.out t2 x2)))
           generalize World.setCells _ _ _ _ = W at hM ⊢)
        | (refine sR rfl (hM.out.at 0 rfl) rfl ((rwA 0 0).len (rwA cc y)) (rwA cc y) ?_
           replace hM := hid (hM.out.put 0 rfl [.int .i64 cc, .int .i64 y] ((rwA 0 0).len (rwA cc y)))
           generalize World.setCells _ _ _ _ = W at hM ⊢
           have c9 := hM.out.cell 0 0 rfl rfl
           have c10 := hM.out.cell 0 1 rfl rfl
           have c11 := hM.out.cell 2 4 rfl rfl
           have c12 := hM.out.cell 2 5 rfl rfl)
        | (refine lR rfl (hM.out.at 1 rfl) rfl (rwTh _ HV2.out t2 x2) ?_)
        | (refine sR rfl (hM.out.at 3 rfl) rfl ((rwTh _ HV.out tt x0).len (rwTh _ HV2.out t2 x2)) (rwTh _ HV2.out t2 x2) ?_
           replace hM := hid (hM.out.put 3 rfl (tg (kind : Nat) v2 t2 x2) ((rwTh _ HV.out tt x0).len (rwTh _ HV2.out t2 x2)))
           generalize World.setCells _ _ _ _ = W at hM ⊢))
      clear c9 c10 c11 c12
      go_roundg (m - (i + 1))
      case measure => omega
      case rel => exact ⟨i + 1, by omega, by omega, by have := HC.out; have hw : wrap64 ((i : Int) + 1) = ((i + 1 : Nat) : Int) := (by unfold wrap64; omega); rw [hw], v2, t2, x2, C, HV2, by rw [← HCN.out]; exact TQ2, by rw [← HCN.out]; exact (hM.out.pick [3, 4]).pickL [0]⟩
    · obtain rfl : i = m := by omega
      have hi1 : (i : Int) < (n : Int) := by omega
      have hi0 : (0 : Int) ≤ (i : Int) := by omega
      obtain ⟨t, o, k, x, cc, y, hq, hr⟩ := HE.out W hM.out.below i (by omega)
      have RA : Hid _ := hr
      clear hr
      have NO := fun h => HB.out ((Ok1.at hq).2 h)
      rw [← hci] at NO
      by_cases hR : Rt o k x
      · have O2 : Hid _ := OB.out i (by omega)
        rw [← hci] at O2
        obtain ⟨cn, c2, y2, hcn⟩ : ∃ d c2 y2, odo (kind : Nat) ci o k x = (d, c2, y2) := ⟨_, _, _, rfl⟩
        rw [hcn] at NO
        have OP : Hid (∀ w, _) := rfR_yes hR
        have DO : Hid (∀ {w : World} {B : Nat} (h : Th B w (kind : Nat) ci v tt x0), Calls Tryd.prog 20 #[.agg (tg (kind : Nat) v tt x0).toArray, .agg #[.int .i64 o, .int .i64 k, .int .i64 x]] w fun e w' => ∃ v' t' n', e = .returned (.tuple #[.agg (tg (kind : Nat) v' t' n').toArray, .agg #[.int .i64 c2, .int .i64 y2]]) ∧ Tq (kind : Nat) cn v' t' n' ∧ v'.oneCell' = true ∧ ((v' = v ∧ tl (kind : Nat) cn = tl (kind : Nat) ci) ∨ IsL w.heap.size w' v' (tl (kind : Nat) cn)) ∧ Below w.heap.size w w') := fun {w B} h => by
          have hh := TDo_is O2.out hR h
          rw [hcn] at hh
          exact hh
        clear hcn hci hq
        by_cases e1 : c2 = cc
        · subst c2
          have e2 : (y2 == y) = false := beq_eq_false_iff_ne.2 fun h => NO ⟨hR, rfl, h⟩
          clear NO hR
          obtain ⟨bd, hbd⟩ : ∃ q, q = W.heap.size := ⟨_, rfl⟩
          have HBD : Hid _ := hbd
          clear hbd
          go_wp2_with (first
            | (refine lO rfl RA.out rfl (rwD t o k x cc y) ?_)
            | (rw [← HBD.out]
               replace hM := hid (hM.out.born [.int .i64 0, .int .i64 0, .int .i64 0, .int .i64 0, .int .i64 0, .int .i64 0] 53 HBD.out)
               refine sR rfl (hM.out.at 0 rfl) rfl ((rwD 0 0 0 0 0 0).len (rwD t o k x cc y)) (rwD t o k x cc y) ?_
               replace hM := hid (hM.out.put 0 rfl (dl t o k x cc y) ((rwD 0 0 0 0 0 0).len (rwD t o k x cc y)))
               generalize World.setCells _ _ _ _ = W at hM ⊢
               have c2 := hM.out.cell 0 1 rfl rfl
               have c3 := hM.out.cell 0 2 rfl rfl
               have c4 := hM.out.cell 0 3 rfl rfl))
          refine (OP.out _).mono ?_
          rintro e W ⟨rfl, hb⟩
          replace hM := hid (hM.out.later hb)
          clear hb
          clear c2 c3 c4
          have c5 := hM.out.cell 0 1 rfl rfl
          have c6 := hM.out.cell 0 2 rfl rfl
          have c7 := hM.out.cell 0 3 rfl rfl
          go_wp2_with (first
            | (refine lR rfl (hM.out.at 1 rfl) rfl (rwTh _ HV.out tt x0) ?_))
          refine (DO.out (TQ.out.th (hM.out.isL 0 rfl))).mono ?_
          rintro e W ⟨v2, t2, x2, rfl, htq, hv2, hor, hb⟩
          obtain ⟨C, hC, hM⟩ := hM.out.laterM hb hor
          clear hb hor hC
          have HV2 : Hid _ := hv2
          have TQ2 : Hid (Tq (kind : Nat) cn v2 t2 x2) := htq
          clear hv2 htq
          clear c5 c6 c7
          obtain ⟨bx8, hbx8⟩ : ∃ q, q = W.heap.size := ⟨_, rfl⟩
          replace hM := hid ((hM.out.bornR (tg_zero 0).symm 64 (b := bx8) hbx8).born [.int .i64 0, .int .i64 0] 49 (b := (bx8 + 1)) (by simp [hbx8]))
          have Hbx8 : Hid _ := hbx8
          clear hbx8
          go_wp2_with (first
            | (rw [← Hbx8.out]; refine sR rfl (hM.out.at 1 rfl) rfl (rwN.len (rwTh _ HV2.out t2 x2)) (rwTh _ HV2.out t2 x2) ?_
               replace hM := hid (hM.out.put 1 rfl (tg (kind : Nat) v2 t2 x2) (rwN.len (rwTh _ HV2.out t2 x2)))
               generalize World.setCells _ _ _ _ = W at hM ⊢)
            | (refine sR rfl (hM.out.at 0 rfl) rfl ((rwA 0 0).len (rwA cc y2)) (rwA cc y2) ?_
               replace hM := hid (hM.out.put 0 rfl [.int .i64 cc, .int .i64 y2] ((rwA 0 0).len (rwA cc y2)))
               generalize World.setCells _ _ _ _ = W at hM ⊢
               have c9 := hM.out.cell 0 0 rfl rfl
               have c10 := hM.out.cell 0 1 rfl rfl
               have c11 := hM.out.cell 2 4 rfl rfl
               have c12 := hM.out.cell 2 5 rfl rfl)
            | (refine sR rfl (hM.out.at 4 rfl) rfl ((rwF 0 0).len (rwF 13 (i : Nat))) (rwF 13 (i : Nat)) ?_
               replace hM := hid (hM.out.put 4 rfl [.int .i64 13, .int .i64 (i : Nat)] ((rwF 0 0).len (rwF 13 (i : Nat))))
               generalize World.setCells _ _ _ _ = W at hM ⊢))
          clear c9 c10 c11 c12
          exact bodyPost_ret (ress1 Tryd.results6 (.slice none 0 0) (hM.out.at 4 rfl) (rwF 13 (i : Nat))) rfl ⟨rfl, hM.out.below⟩
        · have e2 : (c2 == cc) = false := beq_eq_false_iff_ne.2 e1
          clear NO hR e1
          obtain ⟨bd, hbd⟩ : ∃ q, q = W.heap.size := ⟨_, rfl⟩
          have HBD : Hid _ := hbd
          clear hbd
          go_wp2_with (first
            | (refine lO rfl RA.out rfl (rwD t o k x cc y) ?_)
            | (rw [← HBD.out]
               replace hM := hid (hM.out.born [.int .i64 0, .int .i64 0, .int .i64 0, .int .i64 0, .int .i64 0, .int .i64 0] 53 HBD.out)
               refine sR rfl (hM.out.at 0 rfl) rfl ((rwD 0 0 0 0 0 0).len (rwD t o k x cc y)) (rwD t o k x cc y) ?_
               replace hM := hid (hM.out.put 0 rfl (dl t o k x cc y) ((rwD 0 0 0 0 0 0).len (rwD t o k x cc y)))
               generalize World.setCells _ _ _ _ = W at hM ⊢
               have c2 := hM.out.cell 0 1 rfl rfl
               have c3 := hM.out.cell 0 2 rfl rfl
               have c4 := hM.out.cell 0 3 rfl rfl))
          refine (OP.out _).mono ?_
          rintro e W ⟨rfl, hb⟩
          replace hM := hid (hM.out.later hb)
          clear hb
          clear c2 c3 c4
          have c5 := hM.out.cell 0 1 rfl rfl
          have c6 := hM.out.cell 0 2 rfl rfl
          have c7 := hM.out.cell 0 3 rfl rfl
          go_wp2_with (first
            | (refine lR rfl (hM.out.at 1 rfl) rfl (rwTh _ HV.out tt x0) ?_))
          refine (DO.out (TQ.out.th (hM.out.isL 0 rfl))).mono ?_
          rintro e W ⟨v2, t2, x2, rfl, htq, hv2, hor, hb⟩
          obtain ⟨C, hC, hM⟩ := hM.out.laterM hb hor
          clear hb hor hC
          have HV2 : Hid _ := hv2
          have TQ2 : Hid (Tq (kind : Nat) cn v2 t2 x2) := htq
          clear hv2 htq
          clear c5 c6 c7
          obtain ⟨bx8, hbx8⟩ : ∃ q, q = W.heap.size := ⟨_, rfl⟩
          replace hM := hid ((hM.out.bornR (tg_zero 0).symm 64 (b := bx8) hbx8).born [.int .i64 0, .int .i64 0] 49 (b := (bx8 + 1)) (by simp [hbx8]))
          have Hbx8 : Hid _ := hbx8
          clear hbx8
          go_wp2_with (first
            | (rw [← Hbx8.out]; refine sR rfl (hM.out.at 1 rfl) rfl (rwN.len (rwTh _ HV2.out t2 x2)) (rwTh _ HV2.out t2 x2) ?_
               replace hM := hid (hM.out.put 1 rfl (tg (kind : Nat) v2 t2 x2) (rwN.len (rwTh _ HV2.out t2 x2)))
               generalize World.setCells _ _ _ _ = W at hM ⊢)
            | (refine sR rfl (hM.out.at 0 rfl) rfl ((rwA 0 0).len (rwA c2 y2)) (rwA c2 y2) ?_
               replace hM := hid (hM.out.put 0 rfl [.int .i64 c2, .int .i64 y2] ((rwA 0 0).len (rwA c2 y2)))
               generalize World.setCells _ _ _ _ = W at hM ⊢
               have c9 := hM.out.cell 0 0 rfl rfl
               have c10 := hM.out.cell 0 1 rfl rfl
               have c11 := hM.out.cell 2 4 rfl rfl
               have c12 := hM.out.cell 2 5 rfl rfl)
            | (refine sR rfl (hM.out.at 4 rfl) rfl ((rwF 0 0).len (rwF 13 (i : Nat))) (rwF 13 (i : Nat)) ?_
               replace hM := hid (hM.out.put 4 rfl [.int .i64 13, .int .i64 (i : Nat)] ((rwF 0 0).len (rwF 13 (i : Nat))))
               generalize World.setCells _ _ _ _ = W at hM ⊢))
          clear c9 c10 c11 c12
          exact bodyPost_ret (ress1 Tryd.results6 (.slice none 0 0) (hM.out.at 4 rfl) (rwF 13 (i : Nat))) rfl ⟨rfl, hM.out.below⟩
      · have OP : Hid (∀ w, _) := rfR_no hR
        clear NO hR hci hq
        obtain ⟨bd, hbd⟩ : ∃ q, q = W.heap.size := ⟨_, rfl⟩
        have HBD : Hid _ := hbd
        clear hbd
        go_wp2_with (first
          | (refine lO rfl RA.out rfl (rwD t o k x cc y) ?_)
          | (rw [← HBD.out]
             replace hM := hid (hM.out.born [.int .i64 0, .int .i64 0, .int .i64 0, .int .i64 0, .int .i64 0, .int .i64 0] 53 HBD.out)
             refine sR rfl (hM.out.at 0 rfl) rfl ((rwD 0 0 0 0 0 0).len (rwD t o k x cc y)) (rwD t o k x cc y) ?_
             replace hM := hid (hM.out.put 0 rfl (dl t o k x cc y) ((rwD 0 0 0 0 0 0).len (rwD t o k x cc y)))
             generalize World.setCells _ _ _ _ = W at hM ⊢
             have c2 := hM.out.cell 0 1 rfl rfl
             have c3 := hM.out.cell 0 2 rfl rfl
             have c4 := hM.out.cell 0 3 rfl rfl))
        refine (OP.out _).mono ?_
        rintro e W ⟨rfl, hb⟩
        replace hM := hid (hM.out.later hb)
        clear hb
        clear c2 c3 c4
        go_wp2_with (first
          | (refine sR rfl (hM.out.at 2 rfl) rfl ((rwF 0 0).len (rwF 13 (i : Nat))) (rwF 13 (i : Nat)) ?_
             replace hM := hid (hM.out.put 2 rfl [.int .i64 13, .int .i64 (i : Nat)] ((rwF 0 0).len (rwF 13 (i : Nat))))
             generalize World.setCells _ _ _ _ = W at hM ⊢))
        exact bodyPost_ret (ress1 Tryd.results6 (.slice none 0 0) (hM.out.at 2 rfl) (rwF 13 (i : Nat))) rfl ⟨rfl, hM.out.below⟩
theorem legalR_yes {kind : Nat} (h1 : 1 ≤ kind) (h6 : kind ≤ 6) {v : Value} {n : Nat} {q : Nat → DD} {w : World} (D : Dq w v n q) (hO : ∀ j, j < n → Ok1 (kind : Nat) q j) :
    Calls Tryd.prog 6 #[.int .i64 (kind : Nat), v] w (LegalRY w (oi (kind : Nat) q n)) := by
  rcases id D with ⟨h0, a, c, hv, ha⟩ | ⟨b, off, c, hv, h0, hc, hm, _⟩
  · subst hv h0
    cases a with
    | none => obtain rfl := ha rfl; exact legalR_nil h1 h6 w
    | some a => exact legalR_none h1 h6 a c w
  · subst hv; exact legalR_some h1 h6 h0 hc hm hO w D
theorem legalR_not {kind : Nat} (h1 : 1 ≤ kind) (h6 : kind ≤ 6) {v : Value} {n m : Nat} {q : Nat → DD} {w : World} (D : Dq w v n q) (hm : m < n) (hO : ∀ j, j < m → Ok1 (kind : Nat) q j) (hB : ¬ Ok1 (kind : Nat) q m) :
    Calls Tryd.prog 6 #[.int .i64 (kind : Nat), v] w (LegalRN w 13 (m : Nat)) := by
  rcases id D with ⟨h0, a, c, hv, ha⟩ | ⟨b, off, c, hv, h0, hc, hn, _⟩
  · omega
  · subst hv; exact legalR_bad h1 h6 h0 hc hn hm hO hB w D
end Go.Proofs.YtaipanjigindbaaDoor.Tab
namespace Go.Proofs.YtaipanjigindbaaDoor
set_option maxRecDepth 20000
open Go.RowKit Go.Extern.Stop Go.Stop Go.Extern

set_option maxHeartbeats 4000000 in
theorem as_at (n : Int) (b : Nat) (t : Addr) (old : Value) (w : World) (hg : w.cell? ⟨0, 0, none⟩ = some (.iface 159 (.agg #[.pointer (some ⟨1, 33, none⟩)]))) (ht0 : w.cell? t = some old) (hf0 : w.frozen? t = false) (hb0 : w.cell? ⟨b, 0, none⟩ = some (.int .i64 n)) :
    Calls Tryd.prog 44 #[atV b, .iface 122 (.pointer (some t))] w fun ev w' => ev = .returned (.bool true) ∧ w' = ((((w.alloc (.cells #[.pointer (some t)] 122)).alloc (.cells #[.pointer (some ⟨1, 122, none⟩), .pointer (some ⟨w.heap.size, 0, none⟩), .int .u64 150] 135)).alloc (.cells #[.pointer (some ⟨1, 122, none⟩), .pointer (some ⟨w.heap.size, 0, none⟩), .int .u64 150] 135)).alloc (.cells #[.int .i64 n] 24)).setCell t (.int .i64 n) := by
  have hF0 := @run_callFunc_extern Tryd.prog 63 _ (fun args => ReflectliteValue.unpack (args.getD 0 (.tuple #[]))) Tryd.func63 (by kernel_rfl) (by kernel_rfl) (by kernel_rfl) (by kernel_rfl)
  have hF1 := @run_callFunc_extern Tryd.prog 64 _ (ReflectliteValue.methodAny (ReflectliteValue.valueError "reflectlite.Value.Type" 0) (fun t _ _ _ => ReflectliteType.toType t)) Tryd.func64 (by kernel_rfl) (by kernel_rfl) (by kernel_rfl) (by kernel_rfl)
  have hF2 := @run_callFunc_extern Tryd.prog 65 _ (ReflectliteValue.method (ReflectliteValue.valueError "reflectlite.Value.IsNil" 0) ReflectliteValue.isNil) Tryd.func65 (by kernel_rfl) (by kernel_rfl) (by kernel_rfl) (by kernel_rfl)
  have hF3 := @run_callFunc_extern Tryd.prog 113 _ (ReflectliteType.abiMethod fun t => do pure (.int .u8 (← Rtype.kind t))) Tryd.func113 (by kernel_rfl) (by kernel_rfl) (by kernel_rfl) (by kernel_rfl)
  have hF4 := @run_callFunc_extern Tryd.prog 126 _ (ReflectliteType.method ReflectliteType.elem) Tryd.func126 (by kernel_rfl) (by kernel_rfl) (by kernel_rfl) (by kernel_rfl)
  have hF5 := @run_callFunc_extern Tryd.prog 127 _ (ReflectliteType.relation "Implements" ReflectliteType.implements_) Tryd.func127 (by kernel_rfl) (by kernel_rfl) (by kernel_rfl) (by kernel_rfl)
  have hF6 := @run_callFunc_extern Tryd.prog 83 _ ReflectliteType.typeOf Tryd.func83 (by kernel_rfl) (by kernel_rfl) (by kernel_rfl) (by kernel_rfl)
  have hF7 := @run_callFunc_extern Tryd.prog 124 _ (ReflectliteType.relation "AssignableTo" ReflectliteType.assignableTo) Tryd.func124 (by kernel_rfl) (by kernel_rfl) (by kernel_rfl) (by kernel_rfl)
  have hF8 := @run_callFunc_extern Tryd.prog 84 _ (ReflectliteValue.method (ReflectliteValue.valueError "reflectlite.Value.Elem" 0) ReflectliteValue.elem) Tryd.func84 (by kernel_rfl) (by kernel_rfl) (by kernel_rfl) (by kernel_rfl)
  have hF9 := @run_callFunc_extern Tryd.prog 85 _ ReflectliteValue.set Tryd.func85 (by kernel_rfl) (by kernel_rfl) (by kernel_rfl) (by kernel_rfl)
  have tO := As.typeOfE
  have tA := At.typeOf
  have aA := At.assignable
  have uA := At.unwraps
  have lA := At.lacksAs
  have mU := At.methodUnwrap
  have mA := As.methodAssignableTo
  have aE := As.assignableE
  have vE := As.valueOfE
  have vP := As.valueOfP
  have tP := As.typeP
  have mK := As.methodKind
  have mE := As.methodElem
  have mI := As.methodImplements
  have kP := As.kindP
  have kE := As.kindE
  have eP := As.elemP
  have iE := As.implementsE
  have n8 := As.isNilP ⟨w.heap.size, 0, none⟩ t ((w.alloc (.cells #[.pointer (some t)] 122)).alloc (.cells #[.pointer (some ⟨1, 122, none⟩), .pointer (some ⟨w.heap.size, 0, none⟩), .int .u64 150] 135)) (by simp)
  have hlt : 0 < w.heap.size := by
    rcases Nat.lt_or_ge 0 w.heap.size with h | h
    · exact h
    · simp [World.cell?, Array.getElem?_eq_none h] at hg
  have hg2 : ((w.alloc (.cells #[.pointer (some t)] 122)).alloc (.cells #[.pointer (some ⟨1, 122, none⟩), .pointer (some ⟨w.heap.size, 0, none⟩), .int .u64 150] 135)).cell? ⟨0, 0, none⟩ = some (.iface 159 (.agg #[.pointer (some ⟨1, 33, none⟩)])) := by
    rw [World.cell?_alloc_lt _ _ ⟨0, 0, none⟩ (by simp <;> omega), World.cell?_alloc_lt _ _ ⟨0, 0, none⟩ hlt]; exact hg
  have htl : t.block < w.heap.size := by
    rcases Nat.lt_or_ge t.block w.heap.size with h | h
    · exact h
    · simp [World.cell?, Array.getElem?_eq_none h] at ht0
  have el := As.elemVP ⟨w.heap.size, 0, none⟩ t (((w.alloc (.cells #[.pointer (some t)] 122)).alloc (.cells #[.pointer (some ⟨1, 122, none⟩), .pointer (some ⟨w.heap.size, 0, none⟩), .int .u64 150] 135)).alloc (.cells #[.pointer (some ⟨1, 122, none⟩), .pointer (some ⟨w.heap.size, 0, none⟩), .int .u64 150] 135)) (by rw [World.cell?_alloc_lt _ _ ⟨w.heap.size, 0, none⟩ (by simp; omega)]; simp)
  have st := As.setE t ⟨w.heap.size + 1 + 1 + 1, 0, none⟩ n old ((((w.alloc (.cells #[.pointer (some t)] 122)).alloc (.cells #[.pointer (some ⟨1, 122, none⟩), .pointer (some ⟨w.heap.size, 0, none⟩), .int .u64 150] 135)).alloc (.cells #[.pointer (some ⟨1, 122, none⟩), .pointer (some ⟨w.heap.size, 0, none⟩), .int .u64 150] 135)).alloc (.cells #[.int .i64 n] 24))
    (by rw [World.cell?_alloc_at _ _ _ _ (by simp)]; rfl)
    (by rw [World.cell?_alloc_lt _ _ t (by simp; omega), World.cell?_alloc_lt _ _ t (by simp; omega), World.cell?_alloc_lt _ _ t (by simp; omega), World.cell?_alloc_lt _ _ t htl]; exact ht0)
    (by rw [World.frozen?_alloc_old _ _ t (by simp; omega), World.frozen?_alloc_old _ _ t (by simp; omega), World.frozen?_alloc_old _ _ t (by simp; omega), World.frozen?_alloc_old _ _ t (Nat.ne_of_lt htl)]; exact hf0)
  have hbl : b < w.heap.size := by
    rcases Nat.lt_or_ge b w.heap.size with h | h
    · exact h
    · simp [World.cell?, Array.getElem?_eq_none h] at hb0
  have UW := At.unwrap n b (((w.alloc (.cells #[.pointer (some t)] 122)).alloc (.cells #[.pointer (some ⟨1, 122, none⟩), .pointer (some ⟨w.heap.size, 0, none⟩), .int .u64 150] 135)).alloc (.cells #[.pointer (some ⟨1, 122, none⟩), .pointer (some ⟨w.heap.size, 0, none⟩), .int .u64 150] 135))
    (by rw [World.cell?_alloc_lt _ _ ⟨b, 0, none⟩ (by simp; omega), World.cell?_alloc_lt _ _ ⟨b, 0, none⟩ (by simp; omega), World.cell?_alloc_lt _ _ ⟨b, 0, none⟩ hbl]; exact hb0)
  unfold atV
  go_enter Tryd.func44, Tryd.ntmps44
  go_wp2
  refine wp_loop_rounds 2 ?_
  rw [rounds_succ]
  go_wp2_with fail
  refine UW.mono ?_
  rintro e w' ⟨rfl, rfl⟩
  go_wp2_with fail
  rw [rounds_succ]
  go_wp2
  go_ret
  exact ⟨rfl, rfl⟩
end Go.Proofs.YtaipanjigindbaaDoor
namespace Go.Proofs.YtaipanjigindbaaDoor
set_option maxRecDepth 20000
open Go.RowKit
theorem HandleAt.below {w a : World} (h : HandleAt w) (g : Below w.heap.size w a) : HandleAt a := by
  have h' : w.cell? ⟨0, 0, none⟩ = _ := h
  exact (g.cell (p := ⟨0, 0, none⟩) (size_of_cell' h')).trans h'
end Go.Proofs.YtaipanjigindbaaDoor
namespace Go.Proofs.YtaipanjigindbaaDoor.Tab
set_option maxRecDepth 20000
open Go.RowKit
set_option linter.unusedVariables false

theorem as_at' (n : Int) (b : Nat) (t : Addr) (old : Value) (w : World) (hg : HandleAt w) (ht0 : w.cell? t = some old) (hf0 : w.frozen? t = false) (hb0 : w.cell? ⟨b, 0, none⟩ = some (.int .i64 n)) :
    Calls Tryd.prog 44 #[atV b, .iface 122 (.pointer (some t))] w fun e w' => e = .returned (.bool true) ∧ ∃ W, Gr w W ∧ w' = W.setCell t (.int .i64 n) :=
  (as_at n b t old w hg ht0 hf0 hb0).mono fun _ _ ⟨he, hw⟩ => ⟨he, _, ((((Gr.refl w).alloc _ _).alloc _ _).alloc _ _).alloc _ _, hw⟩

theorem tell_at (n : Int) (b : Nat) (w : World) (hH : HandleAt w) (hb0 : w.cell? ⟨b, 0, none⟩ = some (.int .i64 n)) :
    Calls Tryd.prog 32 #[atV b] w fun e w' => e = .returned (.int .i64 n) ∧ Gr w w' := by
  have H1 : Hid (HandleAt (w.alloc (.cells #[.int .i64 0] 24))) := hH.later ((Gr.refl w).alloc _ _)
  have C1 : Hid ((w.alloc (.cells #[.int .i64 0] 24)).cell? ⟨b, 0, none⟩ = some (.int .i64 n)) := by
    rw [World.cell?_alloc_lt _ _ ⟨b, 0, none⟩ (size_of_cell' hb0)]; exact hb0
  clear hH hb0
  unfold atV
  go_enter Tryd.func32, Tryd.ntmps32
  go_wp2_with fail
  refine (as_at' n b ⟨w.heap.size, 0, none⟩ (.int .i64 0) _ H1.out (by simp) ((frozen?_alloc_cells _ _ _ _).trans (frozen_past w (Nat.le_refl _))) C1.out).mono ?_
  rintro e w' ⟨rfl, W, hW, rfl⟩
  have hc : (W.setCell ⟨w.heap.size, 0, none⟩ (.int .i64 n)).cell? ⟨w.heap.size, 0, none⟩ = some (.int .i64 n) := by
    refine World.cell?_setCell_same _ _ _ (u := .int .i64 0) ?_
    rw [hW.cell (by simp)]
    simp
  have hG : Gr w (W.setCell ⟨w.heap.size, 0, none⟩ (.int .i64 n)) := (((Gr.refl w).alloc _ _).trans hW).setCell (Nat.le_refl _) _
  generalize W.setCell ⟨w.heap.size, 0, none⟩ (.int .i64 n) = W2 at hc hG
  clear hW H1 C1
  go_wp2
  go_ret
  exact ⟨rfl, hG⟩

set_option maxHeartbeats 2000000 in
theorem place_at (ev p : Int) (b : Nat) (w : World) (hH : HandleAt w) (hB : Bo w b [.int .i64 ev, .int .i64 p]) :
    Calls Tryd.prog 24 #[atV b] w (fun e w' => e = .returned (.tuple #[.int .i64 ev, .int .i64 p]) ∧ Below w.heap.size w w') := by
  have AT : Hid _ := hid hB
  have TL : Hid _ := hid (tell_at ev b w hH (hB.at 0 rfl))
  clear hB hH
  have tA := At.isAt
  unfold atV at *
  have hM : Hid _ := (Ms.nil w)
  go_enter Tryd.func24, Tryd.ntmps24
  go_wp2_with fail
  refine TL.out.mono ?_
  rintro e W ⟨rfl, hg⟩
  have hb := hg.below
  clear hg TL
  replace hM := hid (hM.out.later hb)
  clear hb
  generalize hsz : w.heap.size = n at hM ⊢
  clear hsz
  go_wp2_with fail
  refine wp_loop_rounds 1 ?_
  rw [rounds_succ]
  go_wp2_with fail
  replace hM := hid (hM.out.drew)
  refine wp_region_held_drew (S := fun w' => Bo w' b [.int .i64 ev, .int .i64 p]) (by kernel_rfl) (AT.out.later hM.out.below) (fun hH => ?_)
  generalize World.drew _ = W at hM hH  ⊢
  refine tk 0 rfl hH ?_
  simp only [Act.put, p1, p2, p3]
  refine tk 1 rfl hH ?_
  simp only [Act.put, p1, p2, p3]
  refine tk 2 rfl hH ?_
  simp only [Act.put, p1, p2, p3]
  refine tk 3 rfl hH ?_
  simp only [Act.put, p1, p2, p3]
  refine tk 4 rfl hH ?_ (by intro w h; have c0 := h.at 1 rfl; clear h; go_simp; try with_reducible rfl)
  simp only [Act.put, p1, p2, p3]
  refine tk 5 rfl hH ?_
  simp only [Act.put, p1, p2, p3]
  refine tk 6 rfl hH ?_
  simp only [Act.put, p1, p2, p3]
  refine wpAnyH_done (by kernel_rfl) ?_ _
  go_wp2
  go_ret2
  exact ⟨rfl, hM.out.below⟩
set_option maxHeartbeats 2000000 in
theorem placed_nil  (w : World) :
    Calls Tryd.prog 8 #[.nilIface, .agg #[.int .i64 0, .int .i64 (-1)]] w (fun e w' => e = .returned (.bool true) ∧ Below w.heap.size w w') := by
  have PL : Hid (∀ w : World, _) := place_nil
  have hM : Hid _ := ((Ms.nil w).born [.int .i64 0, .int .i64 (-1)] 26 (b := w.heap.size) rfl)
  go_enter Tryd.func8, Tryd.ntmps8
  go_wp2_with fail
  refine (PL.out _).mono ?_
  rintro e ux ⟨rfl, hw⟩
  rw [hw]; clear hw ux
  have c1 := hM.out.cell 0 0 rfl rfl
  have c2 := hM.out.cell 0 1 rfl rfl
  go_wp2
  go_ret
  exact ⟨rfl, hM.out.below⟩
set_option maxHeartbeats 2000000 in
theorem placed_errno  (ev : Int) (w : World) (hH : HandleAt w) :
    Calls Tryd.prog 8 #[.iface 24 (.int .i64 ev), .agg #[.int .i64 ev, .int .i64 (-1)]] w (fun e w' => e = .returned (.bool true) ∧ Below w.heap.size w w') := by
  have HH : Hid _ := hid hH
  clear hH
  have PL : Hid (∀ w : World, HandleAt w → _) := place_errno ev
  have hM : Hid _ := ((Ms.nil w).born [.int .i64 ev, .int .i64 (-1)] 26 (b := w.heap.size) rfl)
  go_enter Tryd.func8, Tryd.ntmps8
  go_wp2_with fail
  refine (PL.out _ (HH.out.below hM.out.below)).mono ?_
  rintro e W ⟨rfl, hg⟩
  have hb := hg.below
  clear hg
  replace hM := hid (hM.out.later hb)
  clear hb
  have c1 := hM.out.cell 0 0 rfl rfl
  have c2 := hM.out.cell 0 1 rfl rfl
  go_wp2
  go_ret
  exact ⟨rfl, hM.out.below⟩
set_option maxHeartbeats 2000000 in
theorem placed_at  (ev p : Int) (b : Nat) (w : World) (hH : HandleAt w) (hB : Bo w b [.int .i64 ev, .int .i64 p]) :
    Calls Tryd.prog 8 #[atV b, .agg #[.int .i64 ev, .int .i64 p]] w (fun e w' => e = .returned (.bool true) ∧ Below w.heap.size w w') := by
  have HH : Hid _ := hid hH
  clear hH
  have AT : Hid _ := hid hB
  clear hB
  have PL : Hid (∀ w : World, HandleAt w → _) := place_at ev p b
  have hM : Hid _ := ((Ms.nil w).born [.int .i64 ev, .int .i64 p] 26 (b := w.heap.size) rfl)
  go_enter Tryd.func8, Tryd.ntmps8
  go_wp2_with fail
  refine (PL.out _ (HH.out.below hM.out.below) (AT.out.later hM.out.below)).mono ?_
  rintro e W ⟨rfl, hb⟩
  replace hM := hid (hM.out.later hb)
  clear hb
  have c1 := hM.out.cell 0 0 rfl rfl
  have c2 := hM.out.cell 0 1 rfl rfl
  go_wp2
  go_ret
  exact ⟨rfl, hM.out.below⟩
end Go.Proofs.YtaipanjigindbaaDoor.Tab
namespace Go.Proofs.YtaipanjigindbaaDoor.Tab
set_option maxRecDepth 20000
open Go.RowKit
set_option linter.unusedVariables false

theorem cells_desc : Tryd.prog.underlying 31 = some (.array 17 29) := by kernel_rfl
theorem wpart0 (c : Nat → Nat) (w : World) : (part 29 (wl c).toArray 0).run Tryd.prog w = .ok (.int .u64 (c 0 : Nat)) w := by kernel_rfl
theorem wpart1 (c : Nat → Nat) (w : World) : (part 29 (wl c).toArray 1).run Tryd.prog w = .ok (.int .u64 (c 1 : Nat)) w := by kernel_rfl
theorem wpart2 (c : Nat → Nat) (w : World) : (part 29 (wl c).toArray 2).run Tryd.prog w = .ok (.int .u64 (c 2 : Nat)) w := by kernel_rfl
theorem wpart3 (c : Nat → Nat) (w : World) : (part 29 (wl c).toArray 3).run Tryd.prog w = .ok (.int .u64 (c 3 : Nat)) w := by kernel_rfl
theorem wpart4 (c : Nat → Nat) (w : World) : (part 29 (wl c).toArray 4).run Tryd.prog w = .ok (.int .u64 (c 4 : Nat)) w := by kernel_rfl
theorem wpart5 (c : Nat → Nat) (w : World) : (part 29 (wl c).toArray 5).run Tryd.prog w = .ok (.int .u64 (c 5 : Nat)) w := by kernel_rfl
theorem wpart6 (c : Nat → Nat) (w : World) : (part 29 (wl c).toArray 6).run Tryd.prog w = .ok (.int .u64 (c 6 : Nat)) w := by kernel_rfl
theorem wpart7 (c : Nat → Nat) (w : World) : (part 29 (wl c).toArray 7).run Tryd.prog w = .ok (.int .u64 (c 7 : Nat)) w := by kernel_rfl
theorem wpart8 (c : Nat → Nat) (w : World) : (part 29 (wl c).toArray 8).run Tryd.prog w = .ok (.int .u64 (c 8 : Nat)) w := by kernel_rfl
theorem wpart9 (c : Nat → Nat) (w : World) : (part 29 (wl c).toArray 9).run Tryd.prog w = .ok (.int .u64 (c 9 : Nat)) w := by kernel_rfl
theorem wpart10 (c : Nat → Nat) (w : World) : (part 29 (wl c).toArray 10).run Tryd.prog w = .ok (.int .u64 (c 10 : Nat)) w := by kernel_rfl
theorem wpart11 (c : Nat → Nat) (w : World) : (part 29 (wl c).toArray 11).run Tryd.prog w = .ok (.int .u64 (c 11 : Nat)) w := by kernel_rfl
theorem wpart12 (c : Nat → Nat) (w : World) : (part 29 (wl c).toArray 12).run Tryd.prog w = .ok (.int .u64 (c 12 : Nat)) w := by kernel_rfl
theorem wpart13 (c : Nat → Nat) (w : World) : (part 29 (wl c).toArray 13).run Tryd.prog w = .ok (.int .u64 (c 13 : Nat)) w := by kernel_rfl
theorem wpart14 (c : Nat → Nat) (w : World) : (part 29 (wl c).toArray 14).run Tryd.prog w = .ok (.int .u64 (c 14 : Nat)) w := by kernel_rfl
theorem wpart15 (c : Nat → Nat) (w : World) : (part 29 (wl c).toArray 15).run Tryd.prog w = .ok (.int .u64 (c 15 : Nat)) w := by kernel_rfl
theorem wpart16 (c : Nat → Nat) (w : World) : (part 29 (wl c).toArray 16).run Tryd.prog w = .ok (.int .u64 (c 16 : Nat)) w := by kernel_rfl
theorem word_equal (x : Int) (w : World) : (Op.equalIn 9999 29 (.int .u64 x) (.int .u64 x)).run Tryd.prog w = .ok true w := by
  go_simp
theorem cells_equal (c : Nat → Nat) (w : World) : (Op.equalIn 10000 31 (.agg (wl c).toArray) (.agg (wl c).toArray)).run Tryd.prog w = .ok true w := by
  have hc : Tryd.prog.cellsOf 29 = 1 := by kernel_rfl
  cases hi : Tryd.prog.info? 29 with
  | none => simp [Program.cellsOf, hi] at hc
  | some i =>
    have h := run_equalIn_array (w := w) 9999 (wl c).toArray (wl c).toArray cells_desc hi
    rw [h, hc]
    have hr : List.range 17 = [0, 1, 2, 3, 4, 5, 6, 7, 8, 9, 10, 11, 12, 13, 14, 15, 16] := by decide
    rw [hr]
    simp [Op.eqItems, wpart0 c w, wpart1 c w, wpart2 c w, wpart3 c w, wpart4 c w, wpart5 c w, wpart6 c w, wpart7 c w, wpart8 c w, wpart9 c w, wpart10 c w, wpart11 c w, wpart12 c w, wpart13 c w, wpart14 c w, wpart15 c w, wpart16 c w, word_equal]
theorem cells_zero (w : World) : (Op.equalIn 10000 31 (.agg (wl wz).toArray) (.agg #[.int .u64 0, .int .u64 0, .int .u64 0, .int .u64 0, .int .u64 0, .int .u64 0, .int .u64 0, .int .u64 0, .int .u64 0, .int .u64 0, .int .u64 0, .int .u64 0, .int .u64 0, .int .u64 0, .int .u64 0, .int .u64 0, .int .u64 0])).run Tryd.prog w = .ok true w := cells_equal wz w
theorem afield0 (c y : Int) (w : World) : (Instr.field 49 (.agg #[.int .i64 c, .int .i64 y]) 0).run Tryd.prog w = .ok (.int .i64 c) w := by kernel_rfl
theorem afield1 (c y : Int) (w : World) : (Instr.field 49 (.agg #[.int .i64 c, .int .i64 y]) 1).run Tryd.prog w = .ok (.int .i64 y) w := by kernel_rfl
end Go.Proofs.YtaipanjigindbaaDoor.Tab
namespace Go.Proofs.YtaipanjigindbaaDoor
set_option maxRecDepth 20000
open Go.ChangeShapes Go.WideShapes Go.ChangeAt Go.RowKit

theorem own : ownKnob Tryd.prog.godebug = none := by kernel_rfl
theorem gHandle : Tryd.prog.globalNamed "errors.errorType" = some 0 := by kernel_rfl
theorem rtHandle : (Tryd.prog.cutTypes.find? (·.1 == "internal/reflectlite.rtype")).map (·.2) = some 159 := by kernel_rfl
theorem oneRow : ((List.range 210).filter fun t => Tryd.prog.rowNamed t [101, 114, 114, 111, 114]) = [33] := by kernel_rfl
theorem typesSize : Tryd.prog.types.size = 210 := by kernel_rfl

abbrev laidHandle {H : Type} : List (String × DataW H) := [("errors.errorType", Rows.laid_errors_errorType)]

theorem door_handle (os : Os) (args : Array Value) : laidMetH Tryd.prog laidHandle ((World.doorLaid Tryd.prog 400 os).forCall (fun _ _ => 0) ⟨#[], args, []⟩).memory :=
  laidMetH_of_parts (laidMet_nil _ _) (by kernel_rfl)

theorem handle_of_laid {W : World} (h : laidMetH Tryd.prog laidHandle W) : HandleAt W := by
  have h' : laidMet Tryd.prog [] W ∧ handlesMet Tryd.prog laidHandle W := h
  obtain ⟨name, u, ty, e1, e2, e3, e4, e5⟩ := h'.2 _ (List.mem_singleton.2 rfl)
  have en : name = [101, 114, 114, 111, 114] := (Option.some.inj e1).symm
  subst en
  obtain rfl := Option.some.inj (rtHandle.symm.trans e2)
  have hm : ty ∈ (List.range 210).filter fun t => Tryd.prog.rowNamed t [101, 114, 114, 111, 114] := List.mem_filter.2 ⟨List.mem_range.2 (by rw [← typesSize]; exact e3), e4⟩
  rw [oneRow] at hm
  obtain rfl := List.mem_singleton.1 hm
  have hh : typeHandle Tryd.prog 33 = .pointer (some ⟨1, 33, none⟩) := by kernel_rfl
  rw [hh] at e5
  have := World.var?_cell gHandle e5 0
  rw [HandleAt, this]
  rfl
end Go.Proofs.YtaipanjigindbaaDoor
