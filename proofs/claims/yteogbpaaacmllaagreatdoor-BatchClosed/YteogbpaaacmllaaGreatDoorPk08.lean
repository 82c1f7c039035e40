/- Texts laid together: Package batch: Do, by its contracts; A row of asks of the call's own, as it lies; The keepers asksFor, by its contract; Deeds that lie below a block, carried over stores; asks and batches for the keepers' laws; Batches of records of few deeds; one ask after the other: facts of no program, and Do; The keepers batched, by its contract; The keepers recorded, by its contract. -/
import Derived.Test.YteogbpaaacmllaaGreatDoorPk07
import Derived.Test.YteogbpaaacmllaaGreatDoorPk04
import Derived.Deep.DeepCutAuto
import Derived.Deep.RegionHeld3
import Derived.Test.YteogbpaaacmllaaGreatDoorPk00
import Derived.Test.YteogbpaaacmllaaGreatDoorPk03
namespace Go.Proofs.YteogbpaaacmllaaGreatDoor.Tab
set_option maxRecDepth 20000
open Go.RowKit
set_option linter.unusedVariables false

/-- one, of an ask that is answered. -/
theorem one_ok {r : Nat → Nat} (U : ∀ j, j < 32 → r j < 18446744073709551616) {a : AK} (h : Oka r a) (w : World) :
    Calls Tryz.prog 37 #[.agg (rl r).toArray, .agg #[.int .i64 a.t, .int .i64 a.g, .int .i64 a.o, .int .i64 a.k, .int .i64 a.x]] w (fun e w' => ∃ u, e = .returned (.tuple #[.agg (rl (nx r a)).toArray, u, .nilIface]) ∧ Dn w' u (nd' r a) ∧ Below w.heap.size w w') := by
  obtain ⟨t, g, o, k, x⟩ := a
  obtain ⟨⟨⟨t0, t4⟩, hg⟩, h⟩ := h
  dsimp only at t0 t4 hg h ⊢
  obtain ⟨n, rfl⟩ : ∃ n : Nat, t = n := ⟨t.toNat, by omega⟩
  have hn : n < 4 := by omega
  rw [show ((n : Nat) : Int).toNat = n from rfl] at h
  by_cases hs : g = (bt r n : Nat)
  · rw [nx_shut (a := ⟨(n : Nat), g, o, k, x⟩) hs, nd_shut (a := ⟨(n : Nat), g, o, k, x⟩) hs]
    exact (one_shut U hn hg o k x hs w).mono fun e w' ⟨he, hb⟩ => ⟨_, he, Or.inl ⟨rfl, rfl⟩, hb⟩
  · rw [nx_open (a := ⟨(n : Nat), g, o, k, x⟩) hs, nd_open (a := ⟨(n : Nat), g, o, k, x⟩) hs]
    obtain ⟨hr, hR⟩ := h.resolve_left hs
    exact (one_yes U hn hg hs hr hR w).mono fun e w' ⟨b, he, _, hB, hb⟩ => ⟨_, he, Or.inr ⟨b, _, rfl, rfl, hB⟩, hb⟩
/-- one, of an ask that is not. -/
theorem one_err {r : Nat → Nat} (U : ∀ j, j < 32 → r j < 18446744073709551616) {a : AK} {ev : Int} (h : Bad r a ev) : ∃ s, ∀ w : World,
    Calls Tryz.prog 37 #[.agg (rl r).toArray, .agg #[.int .i64 a.t, .int .i64 a.g, .int .i64 a.o, .int .i64 a.k, .int .i64 a.x]] w (fun e w' => e = .returned (.tuple #[.agg (rl s).toArray, .slice none 0 0, .iface 28 (.int .i64 ev)]) ∧ Below w.heap.size w w') := by
  obtain ⟨t, g, o, k, x⟩ := a
  rcases h with ⟨ht, rfl⟩ | ⟨⟨t0, t4⟩, hg, rfl⟩ | ⟨⟨⟨t0, t4⟩, hg⟩, hs, hn, rfl⟩
  · exact ⟨r, fun w => one_bad (fun w => open_range r ht g o k x w) w⟩
  · exact ⟨r, fun w => one_bad (fun w => open_arg r t0 t4 hg o k x w) w⟩
  · dsimp only at t0 t4 hg hs hn ⊢
    obtain ⟨n, rfl⟩ : ∃ n : Nat, t = n := ⟨t.toNat, by omega⟩
    exact ⟨wz, fun w => one_not U (by omega) hg hs hn w⟩
theorem st_u64 {r : Nat → Nat} (hr : isRec r) {q : Nat → AK} : ∀ {i}, (∀ j, j < i → Oka (st r q j) (q j)) → ∀ j, j < 32 → st r q i j < 18446744073709551616
  | 0, _ => hr.u64
  | i + 1, h => by
    have ho := h i (Nat.lt_succ_self i)
    have ih := st_u64 hr (i := i) fun j hj => h j (Nat.lt_succ_of_lt hj)
    show ∀ j, j < 32 → nx (st r q i) (q i) j < 18446744073709551616
    by_cases hs : (q i).g = (bt (st r q i) (q i).t.toNat : Nat)
    · rw [nx_shut hs]; exact ih
    · rw [nx_open hs]
      obtain ⟨h1, h2⟩ := ho.2.resolve_left hs
      exact rdo_u h1 h2 (by have := ho.1.1; omega)
theorem st_27 {r : Nat → Nat} (hr : isRec r) {q : Nat → AK} : ∀ {i}, (∀ j, j < i → Oka (st r q j) (q j)) → st r q i 27 < 18446744073709551615
  | 0, _ => by have := hr.2.2.2.2.2.1; show r 27 < _; omega
  | i + 1, h => by
    have ho := h i (Nat.lt_succ_self i)
    have ih := st_27 hr (i := i) fun j hj => h j (Nat.lt_succ_of_lt hj)
    show nx (st r q i) (q i) 27 < 18446744073709551615
    by_cases hs : (q i).g = (bt (st r q i) (q i).t.toNat : Nat)
    · rw [nx_shut hs]; exact ih
    · rw [nx_open hs, rdo_27 (by have := ho.1.1; omega)]; exact ih
set_option maxHeartbeats 2000000 in
theorem do_not {r : Nat → Nat} (U : ∀ j, j < 32 → r j < 18446744073709551616) (h : ¬ isRec r) (a : Option Addr) (m c : Nat) (w : World) :
    Calls Tryz.prog 8 #[.agg (rl r).toArray, .slice a m c] w (fun e w' => e = .returned (.tuple #[.agg (rl wz).toArray, .slice none 0 0, .iface 28 (.int .i64 1)]) ∧ Below w.heap.size w w') := by
  have RI : Hid (∀ w : World, _) := recRight_is U (v := false) ⟨fun e => (by cases e), fun e => absurd e h⟩
  clear h U
  have hM : Hid _ := (((Ms.nil w).born (rl r) 24 (b := w.heap.size) rfl).bornR rl_zero.symm 24 (b := w.heap.size + 1) (by simp))
  go_enter Tryz.func8, Tryz.ntmps8
  go_wp2_with (first
    | (refine lR rfl (hM.out.at 1 rfl) rfl (rwR r) ?_))
  generalize World.alloc _ _ = W at hM ⊢
  generalize hsz : w.heap.size = n at hM ⊢
  clear hsz
  refine (RI.out _).mono ?_
  rintro e W ⟨rfl, hb⟩
  replace hM := hid (hM.out.later hb)
  clear hb
  go_wp2_with (first
    | (refine sR rfl (hM.out.at 0 rfl) rfl ((rwR wz).len (rwR wz)) (rwR wz) ?_
       replace hM := hid (hM.out.put 0 rfl (rl wz) ((rwR wz).len (rwR wz)))
       generalize World.setCells _ _ _ _ = W at hM ⊢))
  exact bodyPost_ret (res1ss Tryz.results8 (hM.out.at 0 rfl) (rwR wz) (.slice none 0 0) (.iface 28 (.int .i64 1))) rfl ⟨rfl, hM.out.below⟩
set_option maxHeartbeats 4000000 in
theorem do_nil {r : Nat → Nat} (hr : isRec r) (w : World) :
    Calls Tryz.prog 8 #[.agg (rl r).toArray, .slice none 0 0] w (fun e w' => e = .returned (.tuple #[.agg (rl (bump r)).toArray, .slice none 0 0, .nilIface]) ∧ Below w.heap.size w w') := by
  have V27 : Hid (r 27 < 18446744073709551615) := hid (by have := hr.2.2.2.2.2.1; omega)
  have RI : Hid (∀ w : World, _) := recRight_is hr.u64 (v := true) ⟨fun _ => hr, fun _ => rfl⟩
  have hM : Hid _ := (((Ms.nil w).born (rl r) 24 (b := w.heap.size) rfl).bornR rl_zero.symm 24 (b := w.heap.size + 1) (by simp))
  go_enter Tryz.func8, Tryz.ntmps8
  go_wp2_with (first
    | (refine lR rfl (hM.out.at 1 rfl) rfl (rwR r) ?_))
  generalize World.alloc _ _ = W at hM ⊢
  generalize hsz : w.heap.size = n0 at hM ⊢
  have HSZ : Hid _ := hsz
  clear hsz
  refine (RI.out _).mono ?_
  rintro e W ⟨rfl, hb⟩
  replace hM := hid (hM.out.later hb)
  clear hb
  go_wp2_with fail
  clear hr
  go_loopg [7, 20] 0 (fun gg s7 s20 wt => wt = W ∧ s7 = .slice none 0 0 ∧ s20 = .int .i64 0)
  case atStart => exact ⟨rfl, rfl, rfl⟩
  case round =>
    obtain ⟨hw, rfl, rfl⟩ := hrel
    rw [hw]; clear hw wr
    obtain ⟨vn, hvn⟩ : ∃ v, v = r 27 := ⟨_, rfl⟩
    have w27 : IntKind.u64.wrap ((vn : Int) + 1) = ((vn + 1 : Nat) : Int) := by rw [IntKind.wrap_u64]; have := V27.out; omega
    obtain ⟨v1, hv1⟩ : ∃ v, v = vn + 1 := ⟨_, rfl⟩
    rw [← hv1] at w27
    have HB : Hid (rl (upw r 27 v1) = rl (bump r)) := by rw [hv1, hvn]; rfl
    have x1 := (hM.out.at 1 rfl).rwordx (show 27 < 32 by decide) hvn.symm
    clear hvn hv1
    go_wp2_with (first
      | (refine s1 rfl (hM.out.at 1 rfl) 27 rfl (.int .u64 (v1 : Nat)) rfl sz_u ?_ (by rw [rl_length]; decide)
         replace hM := hid (hM.out.put1 1 27 rfl (.int .u64 (v1 : Nat)) (rl (upw r 27 v1)) (by rw [rl_length]; decide) (rl_set _ _ (by decide)))
         generalize World.setCell _ _ _ = W at hM ⊢
         clear x1)
      | (refine lR rfl (hM.out.at 1 rfl) rfl (rwR (upw r 27 v1)) ?_)
      | (refine sR rfl (hM.out.at 0 rfl) rfl ((rwR wz).len (rwR (upw r 27 v1))) (rwR (upw r 27 v1)) ?_
         replace hM := hid (hM.out.put 0 rfl (rl (upw r 27 v1)) ((rwR wz).len (rwR (upw r 27 v1))))
         generalize World.setCells _ _ _ _ = W at hM ⊢))
    exact bodyPost_ret (res1ss Tryz.results8 (hM.out.at 0 rfl) (rwR (upw r 27 v1)) (.slice none 0 0) (.nilIface)) rfl ⟨by rw [HB.out], hM.out.below⟩
set_option maxHeartbeats 4000000 in
theorem do_none {r : Nat → Nat} (hr : isRec r) (a : Addr) (c : Nat) (w : World) :
    Calls Tryz.prog 8 #[.agg (rl r).toArray, .slice (some a) 0 c] w (fun e w' => e = .returned (.tuple #[.agg (rl (bump r)).toArray, .slice none 0 0, .nilIface]) ∧ Below w.heap.size w w') := by
  have V27 : Hid (r 27 < 18446744073709551615) := hid (by have := hr.2.2.2.2.2.1; omega)
  have RI : Hid (∀ w : World, _) := recRight_is hr.u64 (v := true) ⟨fun _ => hr, fun _ => rfl⟩
  have hM : Hid _ := (((Ms.nil w).born (rl r) 24 (b := w.heap.size) rfl).bornR rl_zero.symm 24 (b := w.heap.size + 1) (by simp))
  go_enter Tryz.func8, Tryz.ntmps8
  go_wp2_with (first
    | (refine lR rfl (hM.out.at 1 rfl) rfl (rwR r) ?_))
  generalize World.alloc _ _ = W at hM ⊢
  generalize hsz : w.heap.size = n0 at hM ⊢
  have HSZ : Hid _ := hsz
  clear hsz
  refine (RI.out _).mono ?_
  rintro e W ⟨rfl, hb⟩
  replace hM := hid (hM.out.later hb)
  clear hb
  go_wp2_with fail
  clear hr
  go_loopg [7, 20] 0 (fun gg s7 s20 wt => wt = W ∧ s7 = .slice none 0 0 ∧ s20 = .int .i64 0)
  case atStart => exact ⟨rfl, rfl, rfl⟩
  case round =>
    obtain ⟨hw, rfl, rfl⟩ := hrel
    rw [hw]; clear hw wr
    obtain ⟨vn, hvn⟩ : ∃ v, v = r 27 := ⟨_, rfl⟩
    have w27 : IntKind.u64.wrap ((vn : Int) + 1) = ((vn + 1 : Nat) : Int) := by rw [IntKind.wrap_u64]; have := V27.out; omega
    obtain ⟨v1, hv1⟩ : ∃ v, v = vn + 1 := ⟨_, rfl⟩
    rw [← hv1] at w27
    have HB : Hid (rl (upw r 27 v1) = rl (bump r)) := by rw [hv1, hvn]; rfl
    have x1 := (hM.out.at 1 rfl).rwordx (show 27 < 32 by decide) hvn.symm
    clear hvn hv1
    go_wp2_with (first
      | (refine s1 rfl (hM.out.at 1 rfl) 27 rfl (.int .u64 (v1 : Nat)) rfl sz_u ?_ (by rw [rl_length]; decide)
         replace hM := hid (hM.out.put1 1 27 rfl (.int .u64 (v1 : Nat)) (rl (upw r 27 v1)) (by rw [rl_length]; decide) (rl_set _ _ (by decide)))
         generalize World.setCell _ _ _ = W at hM ⊢
         clear x1)
      | (refine lR rfl (hM.out.at 1 rfl) rfl (rwR (upw r 27 v1)) ?_)
      | (refine sR rfl (hM.out.at 0 rfl) rfl ((rwR wz).len (rwR (upw r 27 v1))) (rwR (upw r 27 v1)) ?_
         replace hM := hid (hM.out.put 0 rfl (rl (upw r 27 v1)) ((rwR wz).len (rwR (upw r 27 v1))))
         generalize World.setCells _ _ _ _ = W at hM ⊢))
    exact bodyPost_ret (res1ss Tryz.results8 (hM.out.at 0 rfl) (rwR (upw r 27 v1)) (.slice none 0 0) (.nilIface)) rfl ⟨by rw [HB.out], hM.out.below⟩
set_option maxHeartbeats 16000000 in
theorem do_some {r : Nat → Nat} (hr : isRec r) {b off c n m : Nat} {q : Nat → AK} (h0 : 0 < n) (hc : n ≤ c) (hn : n ≤ 1000000) (hm : m = n) (hO : ∀ j, j < m → Oka (st r q j) (q j)) (w : World) (D : Aq w (.slice (some ⟨b, off, none⟩) n c) n q) :
    Calls Tryz.prog 8 #[.agg (rl r).toArray, .slice (some ⟨b, off, none⟩) n c] w (fun e w' => ∃ B v', w.heap.size ≤ B ∧ e = .returned (.tuple #[.agg (rl (bump (st r q m))).toArray, v', .nilIface]) ∧ Odd B w' v' (dn r q m) ∧ Below w.heap.size w w') := by
  have HE : Hid _ := hid D.all
  clear D
  have HU : Hid (∀ i, i ≤ m → ∀ j, j < 32 → st r q i j < 18446744073709551616) := fun i hi => st_u64 hr fun j hj => hO j (by omega)
  have HO : Hid _ := hO
  have HC : Hid (n ≤ c ∧ n ≤ 1000000 ∧ m ≤ n) := ⟨hc, hn, by omega⟩
  have V27 : Hid (st r q m 27 < 18446744073709551615) := hid (st_27 hr hO)
  have HM : Hid (m = n) := hm
  clear hO
  have RI : Hid (∀ w : World, _) := recRight_is hr.u64 (v := true) ⟨fun _ => hr, fun _ => rfl⟩
  have hM : Hid _ := (((Ms.nil w).born (rl r) 24 (b := w.heap.size) rfl).bornR rl_zero.symm 24 (b := w.heap.size + 1) (by simp))
  go_enter Tryz.func8, Tryz.ntmps8
  go_wp2_with (first
    | (refine lR rfl (hM.out.at 1 rfl) rfl (rwR r) ?_))
  generalize World.alloc _ _ = W at hM ⊢
  generalize hsz : w.heap.size = n0 at hM ⊢
  have HSZ : Hid _ := hsz
  clear hsz
  refine (RI.out _).mono ?_
  rintro e W ⟨rfl, hb⟩
  replace hM := hid (hM.out.later hb)
  clear hb
  go_wp2_with fail
  clear hr hc h0 hn hm
  go_loopg [7, 20] m (fun gg s7 s20 wt => ∃ i : Nat, i ≤ m ∧ m - i ≤ gg ∧ s20 = .int .i64 i ∧ Hid (Odd (n0 + 2) wt s7 (dn r q i)) ∧ Hid (Ms n0 w wt [(n0, rl (st r q i)), (n0 + 1, rl wz)] []))
  case atStart => exact ⟨0, by omega, by omega, rfl, Odd.nil _ _, hM.out.pick [1, 0]⟩
  case round =>
    clear hM
    obtain ⟨i, hi, hgg, rfl, hO, hM⟩ := hrel
    obtain ⟨W, rfl⟩ : ∃ q, q = wr := ⟨_, rfl⟩
    by_cases hlt : i < m
    · have hi1 : (i : Int) < (n : Int) := by have := HC.out; omega
      have hi0 : (0 : Int) ≤ (i : Int) := by omega
      obtain ⟨t, g, o, k, x, hq, hr⟩ := HE.out W hM.out.below i (by have := HC.out; omega)
      have RA : Hid _ := hr
      clear hr
      have ONE := one_ok (HU.out i (by omega)) (HO.out i hlt)
      rw [hq] at ONE
      have e1 : st r q (i + 1) = nx (st r q i) ⟨t, g, o, k, x⟩ := by show nx (st r q i) (q i) = _; rw [hq]
      have e2 : dn r q (i + 1) = dn r q i ++ nd' (st r q i) ⟨t, g, o, k, x⟩ := by show dn r q i ++ nd' (st r q i) (q i) = _; rw [hq]
      have HL : Hid ((dn r q i).length ≤ 1000000) := hid (by have := dn_length r q i; have := HC.out; omega)
      obtain ⟨si, hsi⟩ : ∃ c, c = st r q i := ⟨_, rfl⟩
      obtain ⟨li, hli⟩ : ∃ c, c = dn r q i := ⟨_, rfl⟩
      obtain ⟨sn, hsn⟩ : ∃ c, c = st r q (i + 1) := ⟨_, rfl⟩
      obtain ⟨mi, hmi⟩ : ∃ c, c = nd' (st r q i) ⟨t, g, o, k, x⟩ := ⟨_, rfl⟩
      rw [← hsn] at e1
      rw [← hmi, ← hli] at e2
      rw [← e1, ← hmi, ← hsi] at ONE
      rw [← hsi] at hM
      rw [← hli] at hO HL
      have HSN : Hid _ := hsn
      have HE2 : Hid _ := e2
      have ON : Hid _ := ONE
      clear ONE e1 e2 hsi hli hsn hmi hq
      have hOl : Hid (∀ g, u7.ownBlock = some g → g < W.heap.size) := fun g hg => (hO.out.lt g hg).2
      replace hO := hid (hO.out.new (.cells #[.int .i64 0, .int .i64 0, .int .i64 0, .int .i64 0, .int .i64 0] 52))
      obtain ⟨ba, hba⟩ : ∃ q, q = W.heap.size := ⟨_, rfl⟩
      have HBA : Hid _ := hba
      clear hba
      go_wp2_with (first
        | (refine lO rfl RA.out rfl (rwAk t g o k x) ?_)
        | (rw [← HBA.out]
           replace hM := hid (hM.out.born [.int .i64 0, .int .i64 0, .int .i64 0, .int .i64 0, .int .i64 0] 52 HBA.out)
           refine sR rfl (hM.out.at 0 rfl) rfl ((rwAk 0 0 0 0 0).len (rwAk t g o k x)) (rwAk t g o k x) ?_
           replace hO := hid (hO.out.asideL (c := ba) (fun g hg => by have := hOl.out g hg; have := HBA.out; omega) 0 [.int .i64 t, .int .i64 g, .int .i64 o, .int .i64 k, .int .i64 x])
           replace hM := hid (hM.out.put 0 rfl [.int .i64 t, .int .i64 g, .int .i64 o, .int .i64 k, .int .i64 x] ((rwAk 0 0 0 0 0).len (rwAk t g o k x)))
           generalize World.setCells _ _ _ _ = W at hM hO ⊢)
        | (refine lR rfl (hM.out.at 1 rfl) rfl (rwR si) ?_)
        | (refine lR rfl (hM.out.at 0 rfl) rfl (rwAk t g o k x) ?_))
      refine (ON.out _).mono ?_
      rintro e W ⟨u, rfl, hD, hb⟩
      replace hO := hid (hO.out.later hb)
      replace hD := hid hD
      replace hM := hid (hM.out.later hb)
      clear hb
      have hOl : Hid (∀ g, u7.ownBlock = some g → g < W.heap.size) := fun g hg => (hO.out.lt g hg).2
      have hDl : Hid (∀ g, u.ownBlock = some g → g < W.heap.size) := fun g hg => hD.out.lt g hg
      replace hO := hid (hO.out.new (.cells #[.int .u64 0, .int .u64 0, .int .u64 0, .int .u64 0, .int .u64 0, .int .u64 0, .int .u64 0, .int .u64 0, .int .u64 0, .int .u64 0, .int .u64 0, .int .u64 0, .int .u64 0, .int .u64 0, .int .u64 0, .int .u64 0, .int .u64 0, .int .u64 0, .int .u64 0, .int .u64 0, .int .u64 0, .int .u64 0, .int .u64 0, .int .u64 0, .int .u64 0, .int .u64 0, .int .u64 0, .int .u64 0, .int .u64 0, .int .u64 0, .int .u64 0, .int .u64 0] 24))
      replace hD := hid (hD.out.new (.cells #[.int .u64 0, .int .u64 0, .int .u64 0, .int .u64 0, .int .u64 0, .int .u64 0, .int .u64 0, .int .u64 0, .int .u64 0, .int .u64 0, .int .u64 0, .int .u64 0, .int .u64 0, .int .u64 0, .int .u64 0, .int .u64 0, .int .u64 0, .int .u64 0, .int .u64 0, .int .u64 0, .int .u64 0, .int .u64 0, .int .u64 0, .int .u64 0, .int .u64 0, .int .u64 0, .int .u64 0, .int .u64 0, .int .u64 0, .int .u64 0, .int .u64 0, .int .u64 0] 24))
      obtain ⟨bx1, hbx1⟩ : ∃ q, q = W.heap.size := ⟨_, rfl⟩
      replace hM := hid (hM.out.bornR rl_zero.symm 24 (b := bx1) hbx1)
      have Hbx1 : Hid _ := hbx1
      clear hbx1
      go_wp2_with (first
        | (rw [← Hbx1.out]; refine sR rfl (hM.out.at 0 rfl) rfl ((rwR wz).len (rwR sn)) (rwR sn) ?_
           replace hO := hid (hO.out.asideL (c := bx1) (fun g hg => by have := hOl.out g hg; have := Hbx1.out; omega) 0 (rl sn))
           replace hD := hid (hD.out.asideL (c := bx1) (fun g hg => by have := hDl.out g hg; have := Hbx1.out; omega) 0 (rl sn))
           replace hM := hid (hM.out.put 0 rfl (rl sn) ((rwR wz).len (rwR sn)))
           generalize World.setCells _ _ _ _ = W at hM hO hD ⊢))
      have HXO : Hid (∀ g, u7.ownBlock = some g → g < bx1) := fun g hg => by have := hOl.out g hg; have := Hbx1.out; omega
      clear hOl hDl
      replace hM := hid (hM.out.drew)
      replace hO := hid (hO.out.drew)
      replace hD := hid (hD.out.drew)
      refine wp_region_held_drew (S := fun w' => Bo w' bx1 (rl sn)) (by kernel_rfl) (hM.out.at 0 rfl) (fun hH => ?_)
      generalize World.drew _ = W at hM hH hO hD ⊢
      refine tkR 0 rfl hH (fun _ h => h) (rwR sn) ?_
      simp only [Act.put, p1, p2, p3]
      refine tk 1 rfl hH ?_
      simp only [Act.put, p1, p2, p3]
      refine tk 2 rfl hH ?_
      simp only [Act.put, p1, p2, p3]
      refine rd1 3 rfl (fun K hK => ?_)
      obtain ⟨v9, w9, hr9, hO9, hg9⟩ := hO.out.app (Nat.le_trans (Nat.succ_le_of_lt (hM.out.len 3 rfl)) (Nat.le_refl _)) hD.out HL.out 27
      refine apK rfl hr9 ?_
      replace hM := hid ((hM.out.pick [0, 2, 3]).grown hg9 (fun g hg => ⟨Nat.le_trans (by omega) (hO.out.lt g hg).1, by have h1 := (hO.out.lt g hg).1; have h2 := HXO.out g hg; intro hmem; simp at hmem; rcases hmem with rfl | rfl | rfl <;> omega⟩))
      replace hO := hid hO9
      clear hr9 hO9 hg9 hD
      refine hK.out _ _ (hM.out.at 0 rfl) (fun hH => ?_)
      clear hK K
      generalize w9 = W at hM hH hO ⊢
      try simp only [Act.put, p1, p2, p3]
      refine rd1 4 rfl (fun K hK => ?_)
      refine stR rfl (hM.out.at 1 rfl) ((rwR si).len (rwR sn)) (rwR sn) ?_
      simp only [Act.put]
      replace hO := hid (hO.out.aside (show n0 < n0 + 2 by omega) 0 (rl sn))
      replace hM := hid (hM.out.put 1 rfl (rl sn) ((rwR si).len (rwR sn)))
      refine hK.out _ _ (hM.out.at 0 rfl) (fun hH => ?_)
      clear hK K
      generalize World.setCells _ _ _ _ = W at hM hH hO ⊢
      try simp only [Act.put, p1, p2, p3]
      refine tk 5 rfl hH ?_
      simp only [Act.put, p1, p2, p3]
      refine wpAnyH_done (by kernel_rfl) ?_ _
      go_wp2_with fail
      go_roundg (m - (i + 1))
      case measure => omega
      case rel => exact ⟨i + 1, by omega, by omega, by have := HC.out; have hw : wrap64 ((i : Int) + 1) = ((i + 1 : Nat) : Int) := (by unfold wrap64; omega); rw [hw], by rw [HE2.out]; exact hO, by rw [← HSN.out]; exact hM.out.pick [1, 2]⟩
    · obtain rfl : i = m := by omega
      have hi1 : ¬ (i : Int) < (n : Int) := by have := HM.out; omega
      obtain ⟨si, hsi⟩ : ∃ c, c = st r q i := ⟨_, rfl⟩
      rw [← hsi] at hM V27
      have HSI : Hid _ := hsi
      clear hsi
      obtain ⟨vn, hvn⟩ : ∃ v, v = si 27 := ⟨_, rfl⟩
      have w27 : IntKind.u64.wrap ((vn : Int) + 1) = ((vn + 1 : Nat) : Int) := by rw [IntKind.wrap_u64]; have := V27.out; omega
      obtain ⟨v1, hv1⟩ : ∃ v, v = vn + 1 := ⟨_, rfl⟩
      rw [← hv1] at w27
      have HB : Hid (rl (upw si 27 v1) = rl (bump si)) := by rw [hv1, hvn]; rfl
      have x1 := (hM.out.at 0 rfl).rwordx (show 27 < 32 by decide) hvn.symm
      clear hvn hv1
      go_wp2_with (first
        | (refine s1 rfl (hM.out.at 0 rfl) 27 rfl (.int .u64 (v1 : Nat)) rfl sz_u ?_ (by rw [rl_length]; decide)
           replace hM := hid (hM.out.put1 0 27 rfl (.int .u64 (v1 : Nat)) (rl (upw si 27 v1)) (by rw [rl_length]; decide) (rl_set _ _ (by decide)))
           replace hO := hid (hO.out.aside1 (show n0 < n0 + 2 by omega) 27 (.int .u64 (v1 : Nat)))
           generalize World.setCell _ _ _ = W at hM hO ⊢
           clear x1)
        | (refine lR rfl (hM.out.at 0 rfl) rfl (rwR (upw si 27 v1)) ?_)
        | (refine sR rfl (hM.out.at 1 rfl) rfl ((rwR wz).len (rwR (upw si 27 v1))) (rwR (upw si 27 v1)) ?_
           replace hM := hid (hM.out.put 1 rfl (rl (upw si 27 v1)) ((rwR wz).len (rwR (upw si 27 v1))))
           replace hO := hid (hO.out.aside (show n0 + 1 < n0 + 2 by omega) 0 (rl (upw si 27 v1)))
           generalize World.setCells _ _ _ _ = W at hM hO ⊢))
      exact bodyPost_ret (res1ss Tryz.results8 (hM.out.at 1 rfl) (rwR (upw si 27 v1)) u7 (.nilIface)) rfl ⟨n0 + 2, by rw [HSZ.out]; omega, u7, by rw [HB.out, HSI.out], hO.out, hM.out.below⟩
set_option maxHeartbeats 16000000 in
theorem do_bad {r : Nat → Nat} (hr : isRec r) {b off c n m : Nat} {q : Nat → AK} (h0 : 0 < n) (hc : n ≤ c) (hn : n ≤ 1000000) {ev : Int} (hm : m < n) (hO : ∀ j, j < m → Oka (st r q j) (q j)) (hB : Bad (st r q m) (q m) ev) (w : World) (D : Aq w (.slice (some ⟨b, off, none⟩) n c) n q) (hT : HandleAt w) :
    Calls Tryz.prog 8 #[.agg (rl r).toArray, .slice (some ⟨b, off, none⟩) n c] w (fun e w' => ∃ b, e = .returned (.tuple #[.agg (rl wz).toArray, .slice none 0 0, atV b]) ∧ w.heap.size ≤ b ∧ Bo w' b [.int .i64 ev, .int .i64 (m : Nat)] ∧ Below w.heap.size w w') := by
  have HE : Hid _ := hid D.all
  clear D
  have HU : Hid (∀ i, i ≤ m → ∀ j, j < 32 → st r q i j < 18446744073709551616) := fun i hi => st_u64 hr fun j hj => hO j (by omega)
  have HO : Hid _ := hO
  have HC : Hid (n ≤ c ∧ n ≤ 1000000 ∧ m ≤ n) := ⟨hc, hn, by omega⟩
  have HT : Hid (HandleAt w) := hT
  have HB : Hid _ := hB
  clear hT hB
  clear hO
  have RI : Hid (∀ w : World, _) := recRight_is hr.u64 (v := true) ⟨fun _ => hr, fun _ => rfl⟩
  have hM : Hid _ := (((Ms.nil w).born (rl r) 24 (b := w.heap.size) rfl).bornR rl_zero.symm 24 (b := w.heap.size + 1) (by simp))
  go_enter Tryz.func8, Tryz.ntmps8
  go_wp2_with (first
    | (refine lR rfl (hM.out.at 1 rfl) rfl (rwR r) ?_))
  generalize World.alloc _ _ = W at hM ⊢
  generalize hsz : w.heap.size = n0 at hM ⊢
  have HSZ : Hid _ := hsz
  clear hsz
  refine (RI.out _).mono ?_
  rintro e W ⟨rfl, hb⟩
  replace hM := hid (hM.out.later hb)
  clear hb
  go_wp2_with fail
  clear hr hc h0 hn
  go_loopg [7, 20] m (fun gg s7 s20 wt => ∃ i : Nat, i ≤ m ∧ m - i ≤ gg ∧ s20 = .int .i64 i ∧ Hid (Odd (n0 + 2) wt s7 (dn r q i)) ∧ Hid (Ms n0 w wt [(n0, rl (st r q i)), (n0 + 1, rl wz)] []))
  case atStart => exact ⟨0, by omega, by omega, rfl, Odd.nil _ _, hM.out.pick [1, 0]⟩
  case round =>
    clear hM
    obtain ⟨i, hi, hgg, rfl, hO, hM⟩ := hrel
    obtain ⟨W, rfl⟩ : ∃ q, q = wr := ⟨_, rfl⟩
    by_cases hlt : i < m
    · have hi1 : (i : Int) < (n : Int) := by have := HC.out; omega
      have hi0 : (0 : Int) ≤ (i : Int) := by omega
      obtain ⟨t, g, o, k, x, hq, hr⟩ := HE.out W hM.out.below i (by have := HC.out; omega)
      have RA : Hid _ := hr
      clear hr
      have ONE := one_ok (HU.out i (by omega)) (HO.out i hlt)
      rw [hq] at ONE
      have e1 : st r q (i + 1) = nx (st r q i) ⟨t, g, o, k, x⟩ := by show nx (st r q i) (q i) = _; rw [hq]
      have e2 : dn r q (i + 1) = dn r q i ++ nd' (st r q i) ⟨t, g, o, k, x⟩ := by show dn r q i ++ nd' (st r q i) (q i) = _; rw [hq]
      have HL : Hid ((dn r q i).length ≤ 1000000) := hid (by have := dn_length r q i; have := HC.out; omega)
      obtain ⟨si, hsi⟩ : ∃ c, c = st r q i := ⟨_, rfl⟩
      obtain ⟨li, hli⟩ : ∃ c, c = dn r q i := ⟨_, rfl⟩
      obtain ⟨sn, hsn⟩ : ∃ c, c = st r q (i + 1) := ⟨_, rfl⟩
      obtain ⟨mi, hmi⟩ : ∃ c, c = nd' (st r q i) ⟨t, g, o, k, x⟩ := ⟨_, rfl⟩
      rw [← hsn] at e1
      rw [← hmi, ← hli] at e2
      rw [← e1, ← hmi, ← hsi] at ONE
      rw [← hsi] at hM
      rw [← hli] at hO HL
      have HSN : Hid _ := hsn
      have HE2 : Hid _ := e2
      have ON : Hid _ := ONE
      clear ONE e1 e2 hsi hli hsn hmi hq
      have hOl : Hid (∀ g, u7.ownBlock = some g → g < W.heap.size) := fun g hg => (hO.out.lt g hg).2
      replace hO := hid (hO.out.new (.cells #[.int .i64 0, .int .i64 0, .int .i64 0, .int .i64 0, .int .i64 0] 52))
      obtain ⟨ba, hba⟩ : ∃ q, q = W.heap.size := ⟨_, rfl⟩
      have HBA : Hid _ := hba
      clear hba
      go_wp2_with (first
        | (refine lO rfl RA.out rfl (rwAk t g o k x) ?_)
        | (rw [← HBA.out]
           replace hM := hid (hM.out.born [.int .i64 0, .int .i64 0, .int .i64 0, .int .i64 0, .int .i64 0] 52 HBA.out)
           refine sR rfl (hM.out.at 0 rfl) rfl ((rwAk 0 0 0 0 0).len (rwAk t g o k x)) (rwAk t g o k x) ?_
           replace hO := hid (hO.out.asideL (c := ba) (fun g hg => by have := hOl.out g hg; have := HBA.out; omega) 0 [.int .i64 t, .int .i64 g, .int .i64 o, .int .i64 k, .int .i64 x])
           replace hM := hid (hM.out.put 0 rfl [.int .i64 t, .int .i64 g, .int .i64 o, .int .i64 k, .int .i64 x] ((rwAk 0 0 0 0 0).len (rwAk t g o k x)))
           generalize World.setCells _ _ _ _ = W at hM hO ⊢)
        | (refine lR rfl (hM.out.at 1 rfl) rfl (rwR si) ?_)
        | (refine lR rfl (hM.out.at 0 rfl) rfl (rwAk t g o k x) ?_))
      refine (ON.out _).mono ?_
      rintro e W ⟨u, rfl, hD, hb⟩
      replace hO := hid (hO.out.later hb)
      replace hD := hid hD
      replace hM := hid (hM.out.later hb)
      clear hb
      have hOl : Hid (∀ g, u7.ownBlock = some g → g < W.heap.size) := fun g hg => (hO.out.lt g hg).2
      have hDl : Hid (∀ g, u.ownBlock = some g → g < W.heap.size) := fun g hg => hD.out.lt g hg
      replace hO := hid (hO.out.new (.cells #[.int .u64 0, .int .u64 0, .int .u64 0, .int .u64 0, .int .u64 0, .int .u64 0, .int .u64 0, .int .u64 0, .int .u64 0, .int .u64 0, .int .u64 0, .int .u64 0, .int .u64 0, .int .u64 0, .int .u64 0, .int .u64 0, .int .u64 0, .int .u64 0, .int .u64 0, .int .u64 0, .int .u64 0, .int .u64 0, .int .u64 0, .int .u64 0, .int .u64 0, .int .u64 0, .int .u64 0, .int .u64 0, .int .u64 0, .int .u64 0, .int .u64 0, .int .u64 0] 24))
      replace hD := hid (hD.out.new (.cells #[.int .u64 0, .int .u64 0, .int .u64 0, .int .u64 0, .int .u64 0, .int .u64 0, .int .u64 0, .int .u64 0, .int .u64 0, .int .u64 0, .int .u64 0, .int .u64 0, .int .u64 0, .int .u64 0, .int .u64 0, .int .u64 0, .int .u64 0, .int .u64 0, .int .u64 0, .int .u64 0, .int .u64 0, .int .u64 0, .int .u64 0, .int .u64 0, .int .u64 0, .int .u64 0, .int .u64 0, .int .u64 0, .int .u64 0, .int .u64 0, .int .u64 0, .int .u64 0] 24))
      obtain ⟨bx1, hbx1⟩ : ∃ q, q = W.heap.size := ⟨_, rfl⟩
      replace hM := hid (hM.out.bornR rl_zero.symm 24 (b := bx1) hbx1)
      have Hbx1 : Hid _ := hbx1
      clear hbx1
      go_wp2_with (first
        | (rw [← Hbx1.out]; refine sR rfl (hM.out.at 0 rfl) rfl ((rwR wz).len (rwR sn)) (rwR sn) ?_
           replace hO := hid (hO.out.asideL (c := bx1) (fun g hg => by have := hOl.out g hg; have := Hbx1.out; omega) 0 (rl sn))
           replace hD := hid (hD.out.asideL (c := bx1) (fun g hg => by have := hDl.out g hg; have := Hbx1.out; omega) 0 (rl sn))
           replace hM := hid (hM.out.put 0 rfl (rl sn) ((rwR wz).len (rwR sn)))
           generalize World.setCells _ _ _ _ = W at hM hO hD ⊢))
      have HXO : Hid (∀ g, u7.ownBlock = some g → g < bx1) := fun g hg => by have := hOl.out g hg; have := Hbx1.out; omega
      clear hOl hDl
      replace hM := hid (hM.out.drew)
      replace hO := hid (hO.out.drew)
      replace hD := hid (hD.out.drew)
      refine wp_region_held_drew (S := fun w' => Bo w' bx1 (rl sn)) (by kernel_rfl) (hM.out.at 0 rfl) (fun hH => ?_)
      generalize World.drew _ = W at hM hH hO hD ⊢
      refine tkR 0 rfl hH (fun _ h => h) (rwR sn) ?_
      simp only [Act.put, p1, p2, p3]
      refine tk 1 rfl hH ?_
      simp only [Act.put, p1, p2, p3]
      refine tk 2 rfl hH ?_
      simp only [Act.put, p1, p2, p3]
      refine rd1 3 rfl (fun K hK => ?_)
      obtain ⟨v9, w9, hr9, hO9, hg9⟩ := hO.out.app (Nat.le_trans (Nat.succ_le_of_lt (hM.out.len 3 rfl)) (Nat.le_refl _)) hD.out HL.out 27
      refine apK rfl hr9 ?_
      replace hM := hid ((hM.out.pick [0, 2, 3]).grown hg9 (fun g hg => ⟨Nat.le_trans (by omega) (hO.out.lt g hg).1, by have h1 := (hO.out.lt g hg).1; have h2 := HXO.out g hg; intro hmem; simp at hmem; rcases hmem with rfl | rfl | rfl <;> omega⟩))
      replace hO := hid hO9
      clear hr9 hO9 hg9 hD
      refine hK.out _ _ (hM.out.at 0 rfl) (fun hH => ?_)
      clear hK K
      generalize w9 = W at hM hH hO ⊢
      try simp only [Act.put, p1, p2, p3]
      refine rd1 4 rfl (fun K hK => ?_)
      refine stR rfl (hM.out.at 1 rfl) ((rwR si).len (rwR sn)) (rwR sn) ?_
      simp only [Act.put]
      replace hO := hid (hO.out.aside (show n0 < n0 + 2 by omega) 0 (rl sn))
      replace hM := hid (hM.out.put 1 rfl (rl sn) ((rwR si).len (rwR sn)))
      refine hK.out _ _ (hM.out.at 0 rfl) (fun hH => ?_)
      clear hK K
      generalize World.setCells _ _ _ _ = W at hM hH hO ⊢
      try simp only [Act.put, p1, p2, p3]
      refine tk 5 rfl hH ?_
      simp only [Act.put, p1, p2, p3]
      refine wpAnyH_done (by kernel_rfl) ?_ _
      go_wp2_with fail
      go_roundg (m - (i + 1))
      case measure => omega
      case rel => exact ⟨i + 1, by omega, by omega, by have := HC.out; have hw : wrap64 ((i : Int) + 1) = ((i + 1 : Nat) : Int) := (by unfold wrap64; omega); rw [hw], by rw [HE2.out]; exact hO, by rw [← HSN.out]; exact hM.out.pick [1, 2]⟩
    · obtain rfl : i = m := by omega
      have hi1 : (i : Int) < (n : Int) := by omega
      have hi0 : (0 : Int) ≤ (i : Int) := by omega
      obtain ⟨t, g, o, k, x, hq, hr⟩ := HE.out W hM.out.below i (by omega)
      have RA : Hid _ := hr
      clear hr
      obtain ⟨se, ONE⟩ := one_err (HU.out i (by omega)) HB.out
      rw [hq] at ONE
      obtain ⟨si, hsi⟩ : ∃ c, c = st r q i := ⟨_, rfl⟩
      rw [← hsi] at hM ONE
      have ON : Hid _ := ONE
      clear ONE hsi hq
      have hOl : Hid (∀ g, u7.ownBlock = some g → g < W.heap.size) := fun g hg => (hO.out.lt g hg).2
      replace hO := hid (hO.out.new (.cells #[.int .i64 0, .int .i64 0, .int .i64 0, .int .i64 0, .int .i64 0] 52))
      obtain ⟨ba, hba⟩ : ∃ q, q = W.heap.size := ⟨_, rfl⟩
      have HBA : Hid _ := hba
      clear hba
      go_wp2_with (first
        | (refine lO rfl RA.out rfl (rwAk t g o k x) ?_)
        | (rw [← HBA.out]
           replace hM := hid (hM.out.born [.int .i64 0, .int .i64 0, .int .i64 0, .int .i64 0, .int .i64 0] 52 HBA.out)
           refine sR rfl (hM.out.at 0 rfl) rfl ((rwAk 0 0 0 0 0).len (rwAk t g o k x)) (rwAk t g o k x) ?_
           replace hO := hid (hO.out.asideL (c := ba) (fun g hg => by have := hOl.out g hg; have := HBA.out; omega) 0 [.int .i64 t, .int .i64 g, .int .i64 o, .int .i64 k, .int .i64 x])
           replace hM := hid (hM.out.put 0 rfl [.int .i64 t, .int .i64 g, .int .i64 o, .int .i64 k, .int .i64 x] ((rwAk 0 0 0 0 0).len (rwAk t g o k x)))
           generalize World.setCells _ _ _ _ = W at hM hO ⊢)
        | (refine lR rfl (hM.out.at 1 rfl) rfl (rwR si) ?_)
        | (refine lR rfl (hM.out.at 0 rfl) rfl (rwAk t g o k x) ?_))
      clear hO hOl
      refine (ON.out _).mono ?_
      rintro e W ⟨rfl, hb⟩
      replace hM := hid (hM.out.later hb)
      clear hb
      obtain ⟨bx1, hbx1⟩ : ∃ q, q = W.heap.size := ⟨_, rfl⟩
      replace hM := hid (hM.out.bornR rl_zero.symm 24 (b := bx1) hbx1)
      have Hbx1 : Hid _ := hbx1
      clear hbx1
      go_wp2_with (first
        | (rw [← Hbx1.out]; refine sR rfl (hM.out.at 0 rfl) rfl ((rwR wz).len (rwR se)) (rwR se) ?_
           replace hM := hid (hM.out.put 0 rfl (rl se) ((rwR wz).len (rwR se)))
           generalize World.setCells _ _ _ _ = W at hM ⊢))
      refine (tell_errno ev _ (HT.out.below hM.out.below)).mono ?_
      rintro e W ⟨rfl, hg⟩
      have hb := hg.below
      replace hM := hid (hM.out.later hb)
      clear hb hg
      obtain ⟨bt0, hbt⟩ : ∃ q, q = W.heap.size := ⟨_, rfl⟩
      have HBT : Hid _ := hbt
      clear hbt
      go_wp2_with (first
        | (rw [← HBT.out]
           replace hM := hid (hM.out.born [.int .i64 ev, .int .i64 (i : Nat)] 90 HBT.out)
           refine sR rfl (hM.out.at 4 rfl) rfl ((rwR wz).len (rwR wz)) (rwR wz) ?_
           replace hM := hid (hM.out.put 4 rfl (rl wz) ((rwR wz).len (rwR wz)))
           generalize World.setCells _ _ _ _ = W at hM ⊢))
      exact bodyPost_ret (res1ss Tryz.results8 (hM.out.at 4 rfl) (rwR wz) (.slice none 0 0) (atV bt0)) rfl ⟨bt0, rfl, by rw [HSZ.out]; exact hM.out.key 0 rfl, (hM.out.at 0 rfl), hM.out.below⟩
/-- Do, of a record, and asks that are all answered. -/
theorem do_yes {r : Nat → Nat} (hr : isRec r) {v : Value} {n : Nat} {q : Nat → AK} {w : World} (D : Aq w v n q) (hn : n ≤ 1000000) (hO : ∀ j, j < n → Oka (st r q j) (q j)) :
    Calls Tryz.prog 8 #[.agg (rl r).toArray, v] w (fun e w' => ∃ B v', w.heap.size ≤ B ∧ e = .returned (.tuple #[.agg (rl (bump (st r q n))).toArray, v', .nilIface]) ∧ Odd B w' v' (dn r q n) ∧ Below w.heap.size w w') := by
  rcases id D with ⟨h0, a, c, hv, ha⟩ | ⟨b, off, c, hv, h0, hc, hm, _⟩
  · subst hv h0
    cases a with
    | none => obtain rfl := ha rfl; exact (do_nil hr w).mono fun e w' ⟨he, hb⟩ => ⟨_, _, Nat.le_refl _, he, Odd.nil _ _, hb⟩
    | some a => exact (do_none hr a c w).mono fun e w' ⟨he, hb⟩ => ⟨_, _, Nat.le_refl _, he, Odd.nil _ _, hb⟩
  · subst hv; exact do_some hr h0 hc hn rfl hO w D
end Go.Proofs.YteogbpaaacmllaaGreatDoor.Tab
namespace Go.Proofs.YteogbpaaacmllaaGreatDoor.Tab
set_option maxRecDepth 20000
open Go.RowKit
set_option linter.unusedVariables false

def aks (l : List AK) : List Value := l.flatMap AK.row
def aof (l : List AK) (i : Nat) : AK := l.getD i ⟨0, 0, 0, 0, 0⟩
theorem aks_length (l : List AK) : (aks l).length = l.length * 5 := by
  induction l with
  | nil => rfl
  | cons c cs ih => show (c.row ++ aks cs).length = _; rw [List.length_append, ih]; simp [AK.row]; omega
theorem aks_get : ∀ (l : List AK) (i j : Nat) (v : Value), i < l.length → (aof l i).row[j]? = some v → (aks l)[i * 5 + j]? = some v
  | [], i, j, v, hi, h => by simp at hi
  | d :: l, 0, j, v, hi, h => by
    rw [Nat.zero_mul, Nat.zero_add]
    show (d.row ++ aks l)[j]? = _
    have hj : j < d.row.length := (List.getElem?_eq_some_iff.1 h).1
    rw [List.getElem?_append_left hj]; exact h
  | d :: l, i + 1, j, v, hi, h => by
    have := aks_get l i j v (by simpa using hi) h
    show (d.row ++ aks l)[(i + 1) * 5 + j]? = _
    have hl : d.row.length = 5 := rfl
    rw [List.getElem?_append_right (by rw [hl]; omega), hl, show (i + 1) * 5 + j - 5 = i * 5 + j by omega]
    exact this
theorem aks_app (l : List AK) (d : AK) : aks (l ++ [d]) = aks l ++ d.row := by simp [aks]
theorem aof_app (l : List AK) (d : AK) {i : Nat} (hi : i < l.length) : aof (l ++ [d]) i = aof l i := by
  unfold aof; rw [List.getD_eq_getElem?_getD, List.getD_eq_getElem?_getD, List.getElem?_append_left hi]
theorem aof_last (l : List AK) (d : AK) : aof (l ++ [d]) l.length = d := by unfold aof; simp
def Oak (B : Nat) (W : World) (v : Value) (l : List AK) : Prop := W.ownsRow B 52 5 v l.length (aks l)
section
variable {B : Nat} {W W' : World} {v : Value} {l : List AK}
theorem Oak.nil (B : Nat) (W : World) : Oak B W (.slice none 0 0) [] := World.ownsRow_nil _ _ _ _
theorem Oak.keep (h : Oak B W v l) (hb : ∀ g, v.ownBlock = some g → W'.heap[g]? = W.heap[g]?) : Oak B W' v l := by
  refine ⟨h.1, ?_⟩
  rcases h.2 with e | ⟨g, cap, cur, hv, h1, h2, h3⟩
  · exact .inl e
  · exact .inr ⟨g, cap, cur, hv, h1, by rw [hb g (by rw [hv]; rfl)]; exact h2, h3⟩
theorem Oak.lt (h : Oak B W v l) : ∀ g, v.ownBlock = some g → B ≤ g ∧ g < W.heap.size := World.ownsRow.lt h
theorem Oak.later (h : Oak B W v l) (hb : Below W.heap.size W W') : Oak B W' v l := h.keep fun g hg => hb.block g (h.lt g hg).2
theorem Oak.new (h : Oak B W v l) (o : Obj) : Oak B (W.alloc o) v l := h.later (new_below W o)
theorem Oak.asideL (h : Oak B W v l) {c : Nat} (hc : ∀ g, v.ownBlock = some g → g ≠ c) (o : Nat) (vs : List Value) : Oak B (W.setCells c o vs) v l := h.keep fun g hg => heap_setCells (hc g hg) _ _ _
theorem Oak.aside (h : Oak B W v l) {c : Nat} (hc : c < B) (o : Nat) (vs : List Value) : Oak B (W.setCells c o vs) v l := h.asideL (fun g hg => by have := (h.lt g hg).1; omega) o vs
theorem Oak.form (h : Oak B W v l) : (v = .slice none 0 0 ∧ l = []) ∨ ∃ g cap, v = .slice (some ⟨g, 0, none⟩) l.length cap ∧ B ≤ g ∧ l.length ≤ cap ∧ Bo W g (aks l) := by
  rcases h.2 with ⟨e, e2⟩ | ⟨g, cap, cur, hv, h1, h2, h3, h4, h5, h6⟩
  · exact .inl ⟨e, List.length_eq_zero_iff.1 e2⟩
  · have h' : W.ownsRow B 52 5 (.slice (some ⟨g, 0, none⟩) l.length cap) l.length (aks l) := hv ▸ h
    refine .inr ⟨g, cap, hv, h1, h3, ⟨fun j u hu => ?_, fun j => World.ownsRow.frozenAt h' j, (h.lt g (by rw [hv]; rfl)).2⟩⟩
    have hj : j < l.length * 5 := by rw [← aks_length]; exact (List.getElem?_eq_some_iff.1 hu).1
    rw [World.ownsRow.cellAt h' j hj]; exact hu
theorem infoAsk : (Tryz.prog.info? 52).map (fun i => (i.zero, i.size, i.bytes)) = some (some (.agg #[.int .i64 0, .int .i64 0, .int .i64 0, .int .i64 0, .int .i64 0]), 5, 40) := by kernel_rfl
theorem asks_desc : Tryz.prog.underlying 37 = some (.slice 52) := by kernel_rfl
theorem Oak.push (h : Oak B W v l) (hB : B ≤ W.heap.size) {nb : Nat} {d : AK} (hc : Bo W nb d.row) (hn : l.length ≤ 1000000) (ty : TypeId) :
    ∃ v' W', (Builtin.append_ #[37, 37] ty #[v, .slice (some ⟨nb, 0, none⟩) 1 1]).run Tryz.prog W = .ok v' W' ∧ Oak B W' v' (l ++ [d]) ∧ Below B W W' := by
  obtain ⟨i0, hi, hz0, hz1, hz2⟩ := info_parts infoAsk
  obtain ⟨v', w', hr, ho, hg, _⟩ := run_append_own (P := Tryz.prog) (w := W) B 37 ty 52 i0 (.agg #[.int .i64 0, .int .i64 0, .int .i64 0, .int .i64 0, .int .i64 0]) 5 40 asks_desc hi hz0 hz1 hz2 rfl (by decide) v l.length (aks l) h ⟨nb, 0, none⟩ 1 1 d.row rfl
    (fun j u hu => by rw [Addr.add_lit, Nat.zero_add]; exact hc.cell j u hu)
    (fun u hu => by simp [AK.row] at hu; rcases hu with rfl | rfl | rfl | rfl | rfl <;> rfl) (by unfold maxLen; omega) (by omega) hB
  refine ⟨v', w', hr, ?_, (Below.refl _ W).grown hg hB (fun j hj => (h.lt j hj).1)⟩
  unfold Oak
  rw [aks_app, List.length_append]
  exact ho
end
theorem Bo.asks {W : World} {g : Nat} {l : List AK} (h : Bo W g (aks l)) {i : Nat} (hi : i < l.length) : W.rangeAt g (i * 5) (aof l i).row := fun j v hv => h.cell _ v (aks_get l i j v hi hv)
theorem Bo.aq {W : World} {g : Nat} {l : List AK} (h : Bo W g (aks l)) {n cap : Nat} (hn : n ≤ l.length) (hc : n ≤ cap) (h30 : l.length ≤ 1000000) : Aq W (.slice (some ⟨g, 0, none⟩) n cap) n (aof l) := by
  by_cases h0 : n = 0
  · subst h0; exact Or.inl ⟨rfl, _, _, rfl, fun h => by cases h⟩
  · exact Or.inr ⟨g, 0, cap, rfl, by omega, hc, by omega, fun i hi => by rw [Nat.zero_add]; exact h.asks (by omega)⟩
theorem Oak.drew {B : Nat} {W : World} {v : Value} {l : List AK} (h : Oak B W v l) : Oak B W.drew v l := h.keep fun _ _ => rfl
theorem Oak.mono {A B : Nat} {W : World} {v : Value} {l : List AK} (h : Oak B W v l) (hA : A ≤ B) : Oak A W v l := by
  refine ⟨h.1, ?_⟩
  rcases h.2 with e | ⟨g, cap, cur, hv, h1, h3⟩
  · exact .inl e
  · exact .inr ⟨g, cap, cur, hv, Nat.le_trans hA h1, h3⟩
theorem Oak.app {B : Nat} {W : World} {v : Value} {l : List AK} (h : Oak B W v l) (hB : B ≤ W.heap.size) {g : Nat} {d : AK} (hG : Bo W g d.row) (hn : l.length ≤ 1000000) (ty : TypeId) :
    ∃ v' W', (Builtin.append_ #[37, 37] ty #[v, .slice (some ⟨g, 0, none⟩) 1 1]).run Tryz.prog W = .ok v' W' ∧ Oak B W' v' (l ++ [d]) ∧ W.grownBy W' v.ownBlock := by
  obtain ⟨i0, hi, hz0, hz1, hz2⟩ := info_parts infoAsk
  obtain ⟨v', w', hr, ho, hg, _⟩ := run_append_own (P := Tryz.prog) (w := W) B 37 ty 52 i0 (.agg #[.int .i64 0, .int .i64 0, .int .i64 0, .int .i64 0, .int .i64 0]) 5 40 asks_desc hi hz0 hz1 hz2 rfl (by decide) v l.length (aks l) h ⟨g, 0, none⟩ 1 1 d.row rfl
    (fun j u hu => by rw [Addr.add_lit, Nat.zero_add]; exact hG.cell j u hu)
    (fun u hu => by simp [AK.row] at hu; rcases hu with rfl | rfl | rfl | rfl | rfl <;> rfl) (by unfold maxLen; omega) (by omega) hB
  refine ⟨v', w', hr, ?_, hg⟩
  unfold Oak
  rw [aks_app, List.length_append]
  exact ho
theorem Oak.aq {B : Nat} {W : World} {v : Value} {l : List AK} (h : Oak B W v l) (hl : l.length ≤ 1000000) : Aq W v l.length (aof l) := by
  rcases h.form with ⟨rfl, rfl⟩ | ⟨g, cap, rfl, _, hc, hG⟩
  · exact Or.inl ⟨rfl, none, 0, rfl, fun _ => rfl⟩
  · exact hG.aq (Nat.le_refl _) hc hl
end Go.Proofs.YteogbpaaacmllaaGreatDoor.Tab
namespace Go.Proofs.YteogbpaaacmllaaGreatDoor.Tab
set_option maxRecDepth 20000
open Go.RowKit
set_option linter.unusedVariables false

theorem dlOp {w : World} {b : Nat} {t o k x c y : Int} (h : Bo w b (dl t o k x c y)) : w.rangeAt b 1 [.int .i64 o, .int .i64 k, .int .i64 x] := fun j v hv => by
  match j, hv with
  | 0, hv => exact h.cell 1 v hv
  | 1, hv => exact h.cell 2 v hv
  | 2, hv => exact h.cell 3 v hv
theorem pickb_md (a : Int) (n : Nat) (h0 : 0 < n) (h : n < 4611686018427387904) : ∃ r : Nat, r < n ∧ wrap64 ((IntKind.u64.wrap a).tmod (IntKind.u64.wrap n)) = (r : Nat) := by
  rw [IntKind.wrap_u64, IntKind.wrap_u64]
  have e : (n : Int) % 18446744073709551616 = n := by omega
  rw [e, Int.tmod_eq_emod_of_nonneg (by omega)]
  have h1 : 0 ≤ (a % 18446744073709551616) % (n : Int) := Int.emod_nonneg _ (by omega)
  have h2 : (a % 18446744073709551616) % (n : Int) < n := Int.emod_lt_of_pos _ (by omega)
  exact ⟨((a % 18446744073709551616) % (n : Int)).toNat, by omega, by unfold wrap64; omega⟩
theorem pickb (n : Nat) (h0 : 0 < n) (hn : n ≤ 1000000) (a : Int) (w : World) : Calls Tryz.prog 18 #[.int .i64 a, .int .i64 (n : Nat)] w fun e w' => ∃ r : Nat, r < n ∧ e = .returned (.int .i64 (r : Nat)) ∧ Below w.heap.size w w' := by
  obtain ⟨r, hr, he⟩ := pickb_md a n h0 (by omega)
  have HE : Hid _ := he
  have h : Calls Tryz.prog 18 #[.int .i64 a, .int .i64 (n : Nat)] w fun e w' => e = .returned (.int .i64 (r : Nat)) ∧ w' = w := by
    have hw : ¬ IntKind.u64.wrap (n : Int) = 0 := by rw [IntKind.wrap_u64]; omega
    clear he h0 hn hr
    go_enter Tryz.func18, Tryz.ntmps18
    go_wp2
    go_ret
    exact ⟨by rw [← HE.out]; rfl, rfl⟩
  exact h.mono fun _ _ ⟨he, hw⟩ => ⟨r, hr, he, hw ▸ Below.refl _ _⟩
set_option maxHeartbeats 8000000 in
theorem asksFor_nil  (w : World) :
    Calls Tryz.prog 20 #[.slice none 0 0] w (fun e w' => ∃ (B : Nat) (v' : Value) (l : List AK), w.heap.size ≤ B ∧ l.length ≤ 12 ∧ (∀ a, a ∈ l → Ak1 a ∧ Rt a.o a.k a.x) ∧ e = .returned v' ∧ Oak B w' v' l ∧ Below w.heap.size w w') := by
  have hM : Hid _ := (Ms.nil w)
  go_enter Tryz.func20, Tryz.ntmps20
  go_wp2_with fail
  generalize hsz : w.heap.size = n at hM ⊢
  have HSZ : Hid _ := hsz
  clear hsz
  go_loopg [3, 12] 0 (fun gg s3 s12 wt => wt = w ∧ s3 = .slice none 0 0 ∧ s12 = .int .i64 0)
  case atStart => exact ⟨rfl, rfl, rfl⟩
  case round =>
    obtain ⟨hw, rfl, rfl⟩ := hrel
    rw [hw]; clear hw wr
    go_wp2
    go_ret
    exact ⟨n, _, [], Nat.le_of_eq HSZ.out, by decide, (fun a h => by cases h), rfl, Oak.nil _ _, hM.out.below⟩
set_option maxHeartbeats 8000000 in
theorem asksFor_none (a : Addr) (c : Nat) (w : World) :
    Calls Tryz.prog 20 #[.slice (some a) 0 c] w (fun e w' => ∃ (B : Nat) (v' : Value) (l : List AK), w.heap.size ≤ B ∧ l.length ≤ 12 ∧ (∀ a, a ∈ l → Ak1 a ∧ Rt a.o a.k a.x) ∧ e = .returned v' ∧ Oak B w' v' l ∧ Below w.heap.size w w') := by
  have hM : Hid _ := (Ms.nil w)
  go_enter Tryz.func20, Tryz.ntmps20
  go_wp2_with fail
  generalize hsz : w.heap.size = n at hM ⊢
  have HSZ : Hid _ := hsz
  clear hsz
  go_loopg [3, 12] 0 (fun gg s3 s12 wt => wt = w ∧ s3 = .slice none 0 0 ∧ s12 = .int .i64 0)
  case atStart => exact ⟨rfl, rfl, rfl⟩
  case round =>
    obtain ⟨hw, rfl, rfl⟩ := hrel
    rw [hw]; clear hw wr
    go_wp2
    go_ret
    exact ⟨n, _, [], Nat.le_of_eq HSZ.out, by decide, (fun a h => by cases h), rfl, Oak.nil _ _, hM.out.below⟩
set_option maxHeartbeats 8000000 in
theorem asksFor_some {v : Value} {b off c m : Nat} (hv : v = .slice (some ⟨b, off, none⟩) m c) (h0 : 0 < m) (hc : m ≤ c) (hm : m ≤ 9223372036854775807) (w : World) (D : Dds w v m) :
    Calls Tryz.prog 20 #[v] w (fun e w' => ∃ (B : Nat) (v' : Value) (l : List AK), w.heap.size ≤ B ∧ l.length ≤ 12 ∧ (∀ a, a ∈ l → Ak1 a ∧ Rt a.o a.k a.x) ∧ e = .returned v' ∧ Oak B w' v' l ∧ Below w.heap.size w w') := by
  have HE : Hid (∀ w', Below w.heap.size w w' → ∀ i, i < m → ∃ t o k x cc y : Int, w'.rangeAt b (off + i * 6) (dl t o k x cc y)) := by
    intro w' hb i hi
    rcases D.later hb with ⟨h, _⟩ | ⟨b2, off2, c2, hv2, _, _, _, hh⟩
    · omega
    · rw [hv] at hv2
      injection hv2 with e1 _ _
      injection e1 with e1
      injection e1 with e1 e2
      subst e1 e2
      exact hh i hi
  clear D
  subst hv
  obtain ⟨q, hq⟩ : ∃ q, q = min m 12 := ⟨_, rfl⟩
  have eq : min (m : Int) 12 = (q : Int) := by omega
  have eq2 : (if (12 : Int) < (m : Int) then (12 : Int) else (m : Int)) = (q : Int) := by split <;> omega
  have hqc : (q : Int) ≤ (c : Int) := by omega
  have hq0 : (0 : Int) ≤ (q : Int) := by omega
  have HQ : Hid (q ≤ m ∧ q ≤ 12 ∧ 0 < m) := (by omega : q ≤ m ∧ q ≤ 12 ∧ 0 < m)
  clear hq h0 hc hm
  have hM : Hid _ := (Ms.nil w)
  go_enter Tryz.func20, Tryz.ntmps20
  go_wp2_with fail
  generalize hsz : w.heap.size = n at hM ⊢
  have HSZ : Hid _ := hsz
  clear hsz
  go_loopg [3, 12] q (fun gg s3 s12 wt => ∃ (i : Nat) (l : List AK), i ≤ q ∧ q - i ≤ gg ∧ s12 = .int .i64 i ∧ Hid (l.length ≤ i) ∧ Hid (∀ a, a ∈ l → Ak1 a ∧ Rt a.o a.k a.x) ∧ Hid (Oak n wt s3 l) ∧ Hid (Ms n w wt [] []))
  case atStart => exact ⟨0, [], by omega, by omega, rfl, hid (Nat.le_refl _), hid (fun a h => by cases h), Oak.nil _ _, hM⟩
  case round =>
    clear hM
    obtain ⟨i, l, hi, hgg, rfl, HL, HG, hO, hM⟩ := hrel
    obtain ⟨W, rfl⟩ : ∃ q, q = wr := ⟨_, rfl⟩
    by_cases hlt : i < q
    · have hi1 : (i : Int) < (q : Int) := by omega
      have hi0 : (0 : Int) ≤ (i : Int) := by omega
      obtain ⟨t, o, k, x, cc, y, hr⟩ := HE.out W hM.out.below i (by have := HQ.out; omega)
      have RA : Hid _ := hr
      clear hr
      have hOl : Hid (∀ g, u3.ownBlock = some g → g < W.heap.size) := fun g hg => (hO.out.lt g hg).2
      replace hO := hid (hO.out.new (.cells #[.int .i64 0, .int .i64 0, .int .i64 0, .int .i64 0, .int .i64 0, .int .i64 0] 60))
      obtain ⟨bd, hbd⟩ : ∃ q, q = W.heap.size := ⟨_, rfl⟩
      have HBD : Hid _ := hbd
      clear hbd
      go_wp2_with (first
        | (refine lO rfl RA.out rfl (rwD t o k x cc y) ?_)
        | (rw [← HBD.out]
           replace hM := hid (hM.out.born [.int .i64 0, .int .i64 0, .int .i64 0, .int .i64 0, .int .i64 0, .int .i64 0] 60 HBD.out)
           refine sR rfl (hM.out.at 0 rfl) rfl ((rwD 0 0 0 0 0 0).len (rwD t o k x cc y)) (rwD t o k x cc y) ?_
           replace hO := hid (hO.out.asideL (c := bd) (fun g hg => by have := hOl.out g hg; have := HBD.out; omega) 0 (dl t o k x cc y))
           replace hM := hid (hM.out.put 0 rfl (dl t o k x cc y) ((rwD 0 0 0 0 0 0).len (rwD t o k x cc y)))
           generalize World.setCells _ _ _ _ = W at hM hO ⊢)
        | (refine lO rfl (dlOp (hM.out.at 0 rfl)) rfl (rwO o k x) ?_))
      have HXO : Hid (∀ g, u3.ownBlock = some g → g < bd) := fun g hg => by have := hOl.out g hg; have := HBD.out; omega
      clear hOl
      by_cases hR : Rt o k x
      · have HR : Hid _ := hR
        have OR : Hid (∀ w : World, _) := opRight_yes hR
        clear hR
        refine (OR.out _).mono ?_
        rintro e W ⟨rfl, hg⟩
        have hb := hg.below
        clear hg
        replace hO := hid (hO.out.later hb)
        replace hM := hid (hM.out.later hb)
        clear hb
        go_wp2_with fail
        replace hM := hid (hM.out.drew)
        replace hO := hid (hO.out.drew)
        refine wp_region_held_drew (S := fun w' => Bo w' bd (dl t o k x cc y)) (by kernel_rfl) (hM.out.at 0 rfl) (fun hH => ?_)
        generalize World.drew _ = W at hM hH hO ⊢
        refine tk 0 rfl hH ?_
        simp only [Act.put, p1, p2, p3]
        refine tk 1 rfl hH ?_
        simp only [Act.put, p1, p2, p3]
        refine tk 2 rfl hH ?_ (by intro w h; have c0 := h.cell 0 _ rfl; clear h; go_simp; try with_reducible rfl)
        simp only [Act.put, p1, p2, p3]
        refine tk 4 rfl hH ?_
        simp only [Act.put, p1, p2, p3]
        refine tk 5 rfl hH ?_
        simp only [Act.put, p1, p2, p3]
        refine tk 6 rfl hH ?_
        simp only [Act.put, p1, p2, p3]
        refine tk 7 rfl hH ?_ (by intro w h; have c0 := h.cell 4 _ rfl; clear h; go_simp; try with_reducible rfl)
        simp only [Act.put, p1, p2, p3]
        refine tk 8 rfl hH ?_
        simp only [Act.put, p1, p2, p3]
        refine tk 9 rfl hH ?_
        simp only [Act.put, p1, p2, p3]
        refine tk 10 rfl hH ?_
        simp only [Act.put, p1, p2, p3]
        refine tk 12 rfl hH ?_
        simp only [Act.put, p1, p2, p3]
        refine tkO 13 rfl hH (fun _ h => dlOp (h)) (rwO o k x) ?_
        simp only [Act.put, p1, p2, p3]
        refine rd1 3 rfl (fun K hK => ?_)
        go_simp
        refine (pickb 4 (by decide) (by decide) t _).mono ?_
        rintro e W ⟨r1, hr1, rfl, hb⟩
        replace hM := hid (hM.out.later hb)
        replace hO := hid (hO.out.later hb)
        clear hb
        have HR1 : Hid _ := hr1
        clear hr1
        go_wp2_with fail
        refine hK.out _ _ (hM.out.at 0 rfl) (fun hH => ?_)
        clear hK K
        try simp only [Act.put, p1, p2, p3]
        refine rd1 11 rfl (fun K hK => ?_)
        go_simp
        refine (pickb 2 (by decide) (by decide) _ _).mono ?_
        rintro e W ⟨r2, hr2, rfl, hb⟩
        replace hM := hid (hM.out.later hb)
        replace hO := hid (hO.out.later hb)
        clear hb
        have HR2 : Hid _ := hr2
        clear hr2
        go_wp2_with fail
        refine hK.out _ _ (hM.out.at 0 rfl) (fun hH => ?_)
        clear hK K
        try simp only [Act.put, p1, p2, p3]
        refine tk 14 rfl hH ?_
        simp only [Act.put, p1, p2, p3]
        refine rd1 15 rfl (fun K hK => ?_)
        go_simp
        replace hM := hid (hM.out.born [.int .i64 (r1 : Nat), .int .i64 (r2 : Nat), .int .i64 o, .int .i64 k, .int .i64 x] 52 rfl)
        have hb := hM.out.step
        replace hO := hid (hO.out.later hb)
        clear hb
        refine hK.out _ _ (hM.out.at 1 rfl) (fun hH => ?_)
        clear hK K
        generalize W.heap.size = bq1 at hM hH ⊢
        generalize World.alloc _ _ = W at hM hH hO ⊢
        try simp only [Act.put, p1, p2, p3]
        refine rd1 16 rfl (fun K hK => ?_)
        have hrow : Bo W bq1 (AK.row ⟨(r1 : Nat), (r2 : Nat), o, k, x⟩) := (hM.out.at 0 rfl)
        obtain ⟨v9, w9, hr9, hO9, hg9⟩ := hO.out.app hM.out.le hrow (by have := HL.out; have := HQ.out; omega) 37
        refine apK rfl hr9 ?_
        replace hM := hid ((hM.out.pick [1]).grown hg9 (fun g hg => ⟨(hO.out.lt g hg).1, by have h2 := HXO.out g hg; intro hmem; simp at hmem; omega⟩))
        replace hO := hid hO9
        clear hr9 hO9 hg9 hrow
        refine hK.out _ _ (hM.out.at 0 rfl) (fun hH => ?_)
        clear hK K
        generalize w9 = W at hM hH hO ⊢
        try simp only [Act.put, p1, p2, p3]
        refine tk 17 rfl hH ?_
        simp only [Act.put, p1, p2, p3]
        refine wpAnyH_done (by kernel_rfl) ?_ _
        go_wp2_with fail
        go_roundg (q - (i + 1))
        case measure => omega
        case rel => exact ⟨i + 1, (l ++ [⟨(r1 : Nat), (r2 : Nat), o, k, x⟩]), by omega, by omega, by go_num, hid (by rw [List.length_append]; have := HL.out; simp; omega), hid (fun a h => by rcases List.mem_append.1 h with h | h; exact HG.out a h; rw [List.mem_singleton.1 h]; exact ⟨⟨by have := HR1.out; exact ⟨by show (0 : Int) ≤ (r1 : Nat); omega, by show ((r1 : Nat) : Int) < 4; omega⟩, by have := HR2.out; show ((r2 : Nat) : Int) = 0 ∨ ((r2 : Nat) : Int) = 1; omega⟩, HR.out⟩), hO, hM.out.pick []⟩
      · have OR : Hid (∀ w : World, _) := opRight_no hR
        clear hR
        refine (OR.out _).mono ?_
        rintro e W ⟨rfl, hg⟩
        have hb := hg.below
        clear hg
        replace hO := hid (hO.out.later hb)
        replace hM := hid (hM.out.later hb)
        clear hb
        go_wp2_with fail
        go_roundg (q - (i + 1))
        case measure => omega
        case rel => exact ⟨i + 1, l, by omega, by omega, by go_num, hid (Nat.le_succ_of_le HL.out), HG, hO, hM.out.pick []⟩
    · obtain rfl : i = q := by omega
      have hi1 : ¬ (i : Int) < (i : Int) := by omega
      go_wp2
      go_ret
      exact ⟨n, Nat.le_of_eq HSZ.out, u3, l, by have := HL.out; have := HQ.out; omega, HG.out, rfl, hO.out, hM.out.below⟩
theorem asksFor_is {v : Value} {m : Nat} {w : World} (D : Dds w v m) :
    Calls Tryz.prog 20 #[v] w (fun e w' => ∃ (B : Nat) (v' : Value) (l : List AK), w.heap.size ≤ B ∧ l.length ≤ 12 ∧ (∀ a, a ∈ l → Ak1 a ∧ Rt a.o a.k a.x) ∧ e = .returned v' ∧ Oak B w' v' l ∧ Below w.heap.size w w') := by
  rcases id D with ⟨h0, a, c, hv, ha⟩ | ⟨b, off, c, hv, h0, hc, hm, _⟩
  · subst hv h0
    cases a with
    | none => obtain rfl := ha rfl; exact asksFor_nil w
    | some a => exact asksFor_none a c w
  · exact asksFor_some hv h0 hc hm w D
end Go.Proofs.YteogbpaaacmllaaGreatDoor.Tab
namespace Go.Proofs.YteogbpaaacmllaaGreatDoor.Tab
set_option maxRecDepth 20000
open Go.RowKit
set_option linter.unusedVariables false

/-- A row of deeds that lies in the block o, if there are any. -/
def Lo (W : World) (o : Option Nat) (v : Value) (l : List DD) : Prop :=
  (o = none ∧ l = [] ∧ ∃ (a : Option Addr) (c : Nat), v = .slice a 0 c ∧ (a = none → c = 0)) ∨ ∃ g cap, o = some g ∧ v = .slice (some ⟨g, 0, none⟩) l.length cap ∧ l ≠ [] ∧ l.length ≤ cap ∧ Bo W g (dds l)
section
variable {W W' : World} {o : Option Nat} {v : Value} {l : List DD}
theorem Lo.lt (h : Lo W o v l) : ∀ g, o = some g → g < W.heap.size := fun g hg => by
  rcases h with ⟨h, _⟩ | ⟨g2, cap, h1, _, _, _, h5⟩
  · rw [h] at hg; cases hg
  · rw [h1] at hg; injection hg with hg; rw [← hg]; exact h5.lt
theorem Lo.keep (h : Lo W o v l) (hs : W.heap.size ≤ W'.heap.size) (hb : ∀ g, o = some g → W'.heap[g]? = W.heap[g]?) : Lo W' o v l := by
  rcases h with h | ⟨g, cap, h1, h2, h3, h4, h5⟩
  · exact Or.inl h
  · exact Or.inr ⟨g, cap, h1, h2, h3, h4, h5.keep (hb g h1) (Nat.lt_of_lt_of_le h5.lt hs)⟩
theorem Lo.later (h : Lo W o v l) (hb : Below W.heap.size W W') : Lo W' o v l := h.keep hb.size fun g hg => hb.block g (h.lt g hg)
theorem Lo.drew (h : Lo W o v l) : Lo W.drew o v l := h.keep (Nat.le_refl _) fun _ _ => rfl
theorem Lo.asideL (h : Lo W o v l) {c : Nat} (hc : o ≠ some c) (q : Nat) (vs : List Value) : Lo (W.setCells c q vs) o v l := h.keep (by rw [size_setCells]; exact Nat.le_refl _) fun g hg => heap_setCells (show g ≠ c from fun e => hc (by rw [hg, e])) _ _ _
theorem Lo.aside1 (h : Lo W o v l) {c : Nat} (hc : o ≠ some c) (j : Nat) (u : Value) : Lo (W.setCell ⟨c, j, none⟩ u) o v l := h.keep (by simp [World.setCell]) fun g hg => Below.heap_setCell _ _ _ _ (show g ≠ c from fun e => hc (by rw [hg, e]))
theorem Lo.at (h : Lo W o v l) : (l = [] ∧ ∃ (a : Option Addr) (c : Nat), v = .slice a 0 c ∧ (a = none → c = 0)) ∨ ∃ g cap, v = .slice (some ⟨g, 0, none⟩) l.length cap ∧ l ≠ [] ∧ l.length ≤ cap ∧ Bo W g (dds l) := by
  rcases h with ⟨_, h⟩ | ⟨g, cap, _, h⟩
  · exact Or.inl h
  · exact Or.inr ⟨g, cap, h⟩
end
theorem Odd.lo {B : Nat} {W : World} {v : Value} {l : List DD} (h : Odd B W v l) : ∃ o a c, v = .slice a l.length c ∧ (∀ g, o = some g → B ≤ g) ∧ Lo W o v l := by
  by_cases hl : l = []
  · subst hl
    rcases h.2 with ⟨e, _⟩ | ⟨g, cap, cur, e, _⟩
    · exact ⟨none, _, _, e, (fun g h => by cases h), Or.inl ⟨rfl, rfl, none, 0, e, fun _ => rfl⟩⟩
    · exact ⟨none, _, _, e, (fun g h => by cases h), Or.inl ⟨rfl, rfl, _, _, e, fun h => by cases h⟩⟩
  · rcases h.form with ⟨_, h⟩ | ⟨g, cap, h1, h2, h3, h4⟩
    · exact absurd h hl
    · exact ⟨some g, _, _, h1, fun g2 h => by injection h with h; omega, Or.inr ⟨g, cap, rfl, h1, hl, h3, h4⟩⟩
theorem aof_mem {l : List AK} {i : Nat} (hi : i < l.length) : aof l i ∈ l := by
  unfold aof
  rw [List.getD_eq_getElem?_getD, List.getElem?_eq_getElem hi]
  exact List.getElem_mem hi
/-- asksFor, as asks to hand on. -/
theorem asksFor_aq {v : Value} {m : Nat} {w : World} (D : Dds w v m) :
    Calls Tryz.prog 20 #[v] w (fun e w' => ∃ (a : Option Addr) (c n : Nat) (q : Nat → AK), n ≤ 12 ∧ (∀ i, i < n → Gk (q i)) ∧ e = .returned (.slice a n c) ∧ Aq w' (.slice a n c) n q ∧ Below w.heap.size w w') :=
  (asksFor_is D).mono fun e w' ⟨B, v', l, _, hl, hg, he, hO, hb⟩ => by
    have h := hO.aq (by omega)
    obtain ⟨a, c, rfl⟩ := h.form
    exact ⟨a, c, l.length, aof l, hl, fun i hi => hg _ (aof_mem hi), he, h, hb⟩
/-- Do, of a record that deeds have come to, and asks that may be. -/
theorem do_lg {kk : Nat} {s : Nat → Nat} {l : List DD} {b : Nat} (h : Lg kk s l b) {v : Value} {n : Nat} {q : Nat → AK} {w : World} (D : Aq w v n q) (hb : b + n < 1000) (hg : ∀ i, i < n → Gk (q i)) :
    Calls Tryz.prog 8 #[.agg (rl s).toArray, v] w (fun e w' => ∃ (o : Option Nat) (a : Option Addr) (c : Nat), e = .returned (.tuple #[.agg (rl (bump (st s q n))).toArray, .slice a (dn s q n).length c, .nilIface]) ∧ (∀ g, o = some g → w.heap.size ≤ g) ∧ Lo w' o (.slice a (dn s q n).length c) (dn s q n) ∧ Below w.heap.size w w') :=
  (do_yes h.isr D (by omega) (h.okas (by omega) hg)).mono fun e w' ⟨B, v', hB, he, hO, hw⟩ => by
    obtain ⟨o, a, c, rfl, ho, hl⟩ := hO.lo
    exact ⟨o, a, c, he, fun g h => Nat.le_trans hB (ho g h), hl, hw⟩
end Go.Proofs.YteogbpaaacmllaaGreatDoor.Tab
namespace Go.Proofs.YteogbpaaacmllaaGreatDoor.Tab
set_option maxRecDepth 20000
open Go.RowKit
set_option linter.unusedVariables false

/-- A record of at most b deeds and versions. -/
structure Sv (s : Nat → Nat) (b : Nat) : Prop where
  isr : isRec s
  cnt : s 28 ≤ b
  ver : s 27 ≤ b
theorem bump_ne {s : Nat → Nat} {j : Nat} (h : j ≠ 27) : bump s j = s j := by unfold bump upw; rw [if_neg h]
theorem bump_27 (s : Nat → Nat) : bump s 27 = s 27 + 1 := by unfold bump upw; rw [if_pos rfl]
theorem bump_ob (s : Nat → Nat) : ∀ j, j < 17 → ob (bump s) j = ob s j := fun j hj => by unfold ob; rw [bump_ne (by omega)]
theorem bt_bump (s : Nat → Nat) (t : Nat) : bt (bump s) t = bt s t := by unfold bt; rw [bump_ne (by decide)]
theorem bump_rec {s : Nat → Nat} (h : isRec s) (hv : s 27 < 1099511627776) : isRec (bump s) := by
  obtain ⟨hO, hA, hN, hZ, hT⟩ := h
  refine ⟨?_, fun t ht => ?_, fun t ht => ?_, fun j hj => ?_, ?_⟩
  · rw [bump_ne (by decide)]; exact isOb_congr (bump_ob s) hO
  · have := hA t ht; unfold aR1 at this ⊢; rw [bump_ne (by omega), bump_ne (by omega)]; exact this
  · have := hN t ht; unfold nR1 at this ⊢; rw [bump_ne (by omega), bump_ne (by decide)]; exact ⟨this.1, fun o ho => by rw [bump_ne (by omega)]; exact this.2 o ho⟩
  · rw [bump_ne (by omega)]; exact hZ j hj
  · exact ⟨by rw [bump_ne (by decide)]; exact hT.1, by rw [bump_27]; omega, by rw [bump_ne (by decide)]; exact hT.2.2⟩
theorem Sv.bump {s : Nat → Nat} {b : Nat} (h : Sv s b) (hb : b < 1000) : Sv (Tab.bump s) (b + 1) :=
  ⟨bump_rec h.isr (by have := h.ver; omega), by rw [bump_ne (by decide)]; have := h.cnt; omega, by rw [bump_27]; have := h.ver; omega⟩
theorem Sv.mono {s : Nat → Nat} {b c : Nat} (h : Sv s b) (hb : b ≤ c) : Sv s c := ⟨h.isr, Nat.le_trans h.cnt hb, Nat.le_trans h.ver hb⟩
theorem Sv.next {s : Nat → Nat} {b : Nat} (h : Sv s b) (hb : b < 1000) {a : AK} (hg : Gk a) : Sv (nx s a) (b + 1) := by
  by_cases hs : a.g = (bt s a.t.toNat : Nat)
  · rw [nx_shut hs]; exact h.mono (by omega)
  · rw [nx_open hs]
    have ht : a.t.toNat < 4 := by have := hg.1.1; omega
    have hc := h.cnt; have hv := h.ver
    exact ⟨rdo_rec h.isr hg.2 ht (by omega), by rw [rdo_28]; omega, by rw [rdo_27 ht]; omega⟩
theorem Sv.oka {s : Nat → Nat} {b : Nat} (h : Sv s b) {a : AK} (hg : Gk a) : Oka s a := ⟨hg.1, Or.inr ⟨h.isr, hg.2⟩⟩
theorem Sv.run {s : Nat → Nat} {b : Nat} (h : Sv s b) {q : Nat → AK} : ∀ {n}, b + n < 1000 → (∀ i, i < n → Gk (q i)) → Sv (st s q n) (b + n)
  | 0, _, _ => h
  | n + 1, hb, hg => (h.run (n := n) (by omega) fun i hi => hg i (by omega)).next (by omega) (hg n (Nat.lt_succ_self n))
theorem Sv.okas {s : Nat → Nat} {b : Nat} (h : Sv s b) {q : Nat → AK} {n : Nat} (hb : b + n < 1000) (hg : ∀ i, i < n → Gk (q i)) : ∀ i, i < n → Oka (st s q i) (q i) := fun i hi => (h.run (n := i) (by omega) fun j hj => hg j (by omega)).oka (hg i hi)
/-- Do, of a record of few deeds, and asks that may be. -/
theorem do_sv {s : Nat → Nat} {b : Nat} (h : Sv s b) {v : Value} {n : Nat} {q : Nat → AK} {w : World} (D : Aq w v n q) (hb : b + n < 1000) (hg : ∀ i, i < n → Gk (q i)) :
    Calls Tryz.prog 8 #[.agg (rl s).toArray, v] w (fun e w' => ∃ (o : Option Nat) (a : Option Addr) (c : Nat), e = .returned (.tuple #[.agg (rl (bump (st s q n))).toArray, .slice a (dn s q n).length c, .nilIface]) ∧ (∀ g, o = some g → w.heap.size ≤ g) ∧ Lo w' o (.slice a (dn s q n).length c) (dn s q n) ∧ Below w.heap.size w w') :=
  (do_yes h.isr D (by omega) (h.okas (by omega) hg)).mono fun e w' ⟨B, v', hB, he, hO, hw⟩ => by
    obtain ⟨o, a, c, rfl, ho, hl⟩ := hO.lo
    exact ⟨o, a, c, he, fun g h => Nat.le_trans hB (ho g h), hl, hw⟩
/-- Records that are the same but for the version. -/
def Sa (s u : Nat → Nat) : Prop := ∀ j, j < 32 → j ≠ 27 → u j = s j
theorem Sa.bump {s u : Nat → Nat} (h : Sa s u) : Sa s (Tab.bump u) := fun j hj hn => by rw [bump_ne hn]; exact h j hj hn
theorem Sa.bt {s u : Nat → Nat} (h : Sa s u) (t : Nat) : bt u t = bt s t := by unfold Tab.bt; rw [h 26 (by decide) (by decide)]
theorem Sa.next {s u : Nat → Nat} (h : Sa s u) (hr : isRec s) {a : AK} (ht : a.t.toNat < 4) : Sa (nx s a) (nx u a) ∧ nd' u a = nd' s a := by
  by_cases hs : a.g = (Tab.bt s a.t.toNat : Nat)
  · have hu : a.g = (Tab.bt u a.t.toNat : Nat) := by rw [h.bt]; exact hs
    rw [nx_shut hs, nx_shut hu, nd_shut hs, nd_shut hu]; exact ⟨h, rfl⟩
  · have hu : ¬ a.g = (Tab.bt u a.t.toNat : Nat) := by rw [h.bt]; exact hs
    rw [nx_open hs, nx_open hu, nd_open hs, nd_open hu]
    have hob : ∀ j, j < 17 → ob u j = ob s j := fun j hj => h (1 + j) (by omega) (by omega)
    have cg := odo_congr hr.1 hob a.o a.k a.x
    have h0 := h 0 (by decide) (by decide)
    refine ⟨fun j hj hn => ?_, by rw [h0, cg.1]⟩
    unfold rdo
    by_cases h26 : j = 26
    · rw [if_pos h26, if_pos h26, h 26 (by decide) (by decide)]
    rw [if_neg h26, if_neg h26]
    by_cases h28 : j = 28 ∨ j = 22 + a.t.toNat
    · rw [if_pos h28, if_pos h28, h 28 (by decide) (by decide)]
    rw [if_neg h28, if_neg h28]
    by_cases h18 : j = 18 + a.t.toNat
    · rw [if_pos h18, if_pos h18, h0, cg.1]
    rw [if_neg h18, if_neg h18]
    by_cases h1 : 1 ≤ j ∧ j < 18
    · rw [if_pos h1, if_pos h1, h0]; exact cg.2 (j - 1) (by omega)
    · rw [if_neg h1, if_neg h1]; exact h j hj hn
theorem st_27r {s : Nat → Nat} {q : Nat → AK} : ∀ {n}, (∀ i, i < n → Gk (q i)) → st s q n 27 = s 27
  | 0, _ => rfl
  | n + 1, h => by
    have ih := st_27r (s := s) (n := n) fun i hi => h i (by omega)
    have hg := h n (Nat.lt_succ_self n)
    show nx (st s q n) (q n) 27 = s 27
    by_cases hs : (q n).g = (bt (st s q n) (q n).t.toNat : Nat)
    · rw [nx_shut hs]; exact ih
    · rw [nx_open hs, rdo_27 (by have := hg.1.1; omega)]; exact ih
/-- A part of a row of asks. -/
theorem Aq.one {w : World} {b off c n : Nat} {q : Nat → AK} (D : Aq w (.slice (some ⟨b, off, none⟩) n c) n q) {i : Nat} (hi : i < n) : Aq w (.slice (some ⟨b, off + i * 5, none⟩) 1 (c - i)) 1 (fun _ => q i) := by
  rcases D with ⟨h, _⟩ | ⟨b2, off2, c2, hv, h0, hc, hm, hh⟩
  · omega
  · injection hv with e1 _ e3
    injection e1 with e1
    injection e1 with e1 e2
    subst e1 e2 e3
    exact Or.inr ⟨b, off + i * 5, c - i, rfl, by decide, by omega, by decide, fun j hj => by
      obtain rfl : j = 0 := by omega
      rw [Nat.zero_mul, Nat.add_zero]; exact hh i hi⟩
theorem Aq.lt {W : World} {b off n c : Nat} {q : Nat → AK} (h : Aq W (.slice (some ⟨b, off, none⟩) n c) n q) (h0 : 0 < n) : b < W.heap.size := by
  obtain ⟨t, g, o, k, x, _, hr⟩ := h.all W (Below.refl _ _) 0 h0
  exact World.block_lt_of_cell? W _ (hr 0 _ rfl)
theorem Aq.asideL {W : World} {b off n cc : Nat} {q : Nat → AK} (h : Aq W (.slice (some ⟨b, off, none⟩) n cc) n q) {c : Nat} (hc : b ≠ c) (o : Nat) (vs : List Value) : Aq (W.setCells c o vs) (.slice (some ⟨b, off, none⟩) n cc) n q := by
  rcases h with h | ⟨b2, off2, c2, hv, h2, h3, h4, h5⟩
  · exact Or.inl h
  · have e := hv
    injection e with e1 _ _
    injection e1 with e1
    injection e1 with e1 e2
    refine Or.inr ⟨b2, off2, c2, hv, h2, h3, h4, fun i hi j v hj => ?_⟩
    rw [World.cell?_of_block (w := W) (heap_setCells (show b2 ≠ c by omega) vs o W)]
    exact h5 i hi j v hj
theorem Lo.dq {W : World} {o : Option Nat} {v : Value} {l : List DD} (h : Lo W o v l) (hl : l.length ≤ 1000000) : Dq W v l.length (qof l) := by
  rcases h.at with ⟨h, a, c, e, hc⟩ | ⟨g, cap, h1, _, h3, h4⟩
  · exact Or.inl ⟨by rw [h]; rfl, a, c, e, hc⟩
  · rw [h1]; exact h4.dq (Nat.le_refl _) h3 hl
/-- One ask of many, behind the others, each in a batch of its own. -/
theorem fold_step {d u : Nat → Nat} {q : Nat → AK} {n i : Nat} (hi : i < n) (h30 : Sv d 30) (hn : n ≤ 12) (hg : ∀ i, i < n → Gk (q i)) (hs : Sa (st d q i) u) :
    Sa (st d q (i + 1)) (bump (st u (fun _ => q i) 1)) ∧ dn u (fun _ => q i) 1 = nd' (st d q i) (q i) := by
  have hr : isRec (st d q i) := (h30.run (n := i) (by omega) fun j hj => hg j (by omega)).isr
  have ht : (q i).t.toNat < 4 := by have := (hg i hi).1.1; omega
  obtain ⟨a, b⟩ := hs.next hr (a := q i) ht
  refine ⟨Sa.bump a, ?_⟩
  show ([] : List DD) ++ nd' u (q i) = _
  rw [List.nil_append]; exact b
theorem fold_end {d u : Nat → Nat} {q : Nat → AK} {n : Nat} (hg : ∀ i, i < n → Gk (q i)) (hs : Sa (st d q n) u) : rl (upw u 27 (d 27 + 1)) = rl (bump (st d q n)) := rl_congr fun j hj => by
  unfold bump upw
  by_cases e : j = 27
  · rw [if_pos e, if_pos e, st_27r hg]
  · rw [if_neg e, if_neg e]; exact hs j hj e
end Go.Proofs.YteogbpaaacmllaaGreatDoor.Tab
namespace Go.Proofs.YteogbpaaacmllaaGreatDoor.Tab
set_option maxRecDepth 20000
open Go.RowKit
set_option linter.unusedVariables false

/-- The three asks of batched, and what comes of them. -/
def qb : Nat → AK := fun j => if j = 2 then ⟨0, 0, 1, 0, 1⟩ else ⟨1, 1, 1, 0, 5⟩
def aj : List Value := [.int .i64 1, .int .i64 1, .int .i64 1, .int .i64 0, .int .i64 5, .int .i64 1, .int .i64 1, .int .i64 1, .int .i64 0, .int .i64 5, .int .i64 0, .int .i64 0, .int .i64 1, .int .i64 0, .int .i64 1]
theorem aq3 {w : World} {b : Nat} (h : Bo w b aj) : Aq w (.slice (some ⟨b, 0, none⟩) 3 3) 3 qb := Or.inr ⟨b, 0, 3, rfl, by decide, by decide, by decide, fun i hi j v hv => by
  have hj : j < 5 := by simpa [AK.row] using (List.getElem?_eq_some_iff.1 hv).1
  refine h.cell (0 + i * 5 + j) v ?_
  rw [← hv]
  have : (i = 0 ∨ i = 1 ∨ i = 2) ∧ (j = 0 ∨ j = 1 ∨ j = 2 ∨ j = 3 ∨ j = 4) := by omega
  rcases this with ⟨rfl | rfl | rfl, rfl | rfl | rfl | rfl | rfl⟩ <;> rfl⟩
def rB : Nat → Nat := rdo (newR 6) 1 1 0 5
theorem rB_odo : (odo ((newR 6 0 : Nat)) (ob (newR 6)) 1 0 5).2 = (1, 0) := by decide
theorem rB_odo1 : (odo ((newR 6 0 : Nat)) (ob (newR 6)) 1 0 5).1 0 = 5 := by decide
theorem rB_26 : rB 26 = 2 := rdo_26 (r := newR 6) (t := 1) (o := 1) (k := 0) (x := 5)
theorem rB_27 : rB 27 = 0 := rdo_27 (r := newR 6) (t := 1) (o := 1) (k := 0) (x := 5) (by decide)
theorem rB_1 : rB 1 = 5 := by
  have := rdo_ob (r := newR 6) (t := 1) (o := 1) (k := 0) (x := 5) (by decide) 0 (by decide)
  rw [rB_odo1] at this
  exact this
theorem rt5 : Rt 1 0 5 := ⟨by decide, by decide, by decide, by decide, by decide, by decide⟩
theorem nx_b0 : nx (newR 6) (qb 0) = rB := nx_open (show (1 : Int) ≠ (bt (newR 6) 1 : Nat) from by decide)
theorem nd_b0 : nd' (newR 6) (qb 0) = [⟨1, 1, 0, 5, 1, 0⟩] := by
  rw [nd_open (show (1 : Int) ≠ (bt (newR 6) 1 : Nat) from by decide)]
  show [(⟨1, 1, 0, 5, (odo ((newR 6 0 : Nat)) (ob (newR 6)) 1 0 5).2.1, (odo ((newR 6 0 : Nat)) (ob (newR 6)) 1 0 5).2.2⟩ : DD)] = _
  rw [rB_odo]
theorem sh_b1 : (1 : Int) = (bt rB 1 : Nat) := by unfold bt; rw [rB_26]; decide
theorem sh_b2 : (0 : Int) = (bt rB 0 : Nat) := by unfold bt; rw [rB_26]; decide
theorem st_b : st (newR 6) qb 3 = rB := by
  show nx (nx (nx (newR 6) (qb 0)) (qb 1)) (qb 2) = rB
  rw [nx_b0, nx_shut (r := rB) (a := qb 1) sh_b1, nx_shut (r := rB) (a := qb 2) sh_b2]
theorem dn_b : dn (newR 6) qb 3 = [⟨1, 1, 0, 5, 1, 0⟩] := by
  show ((([] : List DD) ++ nd' (newR 6) (qb 0)) ++ nd' (nx (newR 6) (qb 0)) (qb 1)) ++ nd' (nx (nx (newR 6) (qb 0)) (qb 1)) (qb 2) = _
  rw [nx_b0, nd_b0, nx_shut (r := rB) (a := qb 1) sh_b1, nd_shut (r := rB) (a := qb 1) sh_b1, nd_shut (r := rB) (a := qb 2) sh_b2]
  rfl
theorem ok_b : ∀ j, j < 3 → Oka (st (newR 6) qb j) (qb j)
  | 0, _ => ⟨⟨by decide, by decide⟩, Or.inr ⟨newR_rec (by decide) (by decide), rt5⟩⟩
  | 1, _ => ⟨⟨by decide, by decide⟩, Or.inl (by show (1 : Int) = (bt (nx (newR 6) (qb 0)) 1 : Nat); rw [nx_b0]; exact sh_b1)⟩
  | 2, _ => ⟨⟨by decide, by decide⟩, Or.inl (by show (0 : Int) = (bt (nx (nx (newR 6) (qb 0)) (qb 1)) 0 : Nat); rw [nx_b0, nx_shut (r := rB) (a := qb 1) sh_b1]; exact sh_b2)⟩
set_option maxHeartbeats 8000000 in
theorem batched_is  (w : World) :
    Calls Tryz.prog 13 #[] w (fun e w' => e = .returned (.bool true) ∧ Below w.heap.size w w') := by
  have HZ := newR_rec (k := 6) (by decide) (by decide)
  have NW : Hid (∀ w : World, Calls Tryz.prog 40 #[.int .i64 6] w fun e w' => e = .returned (.tuple #[.agg (rl (newR 6)).toArray, .nilIface]) ∧ Below w.heap.size w w') := fun w => recNew_yes (k := 6) (by decide) (by decide) w
  have DO : Hid (∀ {w : World} {b : Nat} (h : Bo w b aj), Calls Tryz.prog 8 #[.agg (rl (newR 6)).toArray, .slice (some ⟨b, 0, none⟩) 3 3] w fun e w' => ∃ g cap, e = .returned (.tuple #[.agg (rl (bump rB)).toArray, .slice (some ⟨g, 0, none⟩) 1 cap, .nilIface]) ∧ 1 ≤ cap ∧ w.heap.size ≤ g ∧ Bo w' g [.int .i64 1, .int .i64 1, .int .i64 0, .int .i64 5, .int .i64 1, .int .i64 0] ∧ Below w.heap.size w w') := fun {w b} h => by
    refine (do_yes HZ (aq3 h) (by decide) ok_b).mono ?_
    rintro e w' ⟨B, v, hB, he, hO, hb⟩
    rw [st_b] at he
    rw [dn_b] at hO
    rcases hO.form with ⟨_, h⟩ | ⟨g, cap, rfl, hg, hc, hG⟩
    · cases h
    · exact ⟨g, cap, he, hc, Nat.le_trans hB hg, hG, hb⟩
  have R27 : bump rB 27 = 1 := by unfold bump upw; rw [if_pos rfl, rB_27]
  have R1 : bump rB 1 = 5 := by unfold bump upw; rw [if_neg (by decide), rB_1]
  clear HZ
  generalize newR 6 = zr at *
  generalize bump rB = pr at *
  have H27 : Hid _ := R27
  have H1 : Hid _ := R1
  clear R27 R1
  have hM : Hid _ := (Ms.nil w)
  go_enter Tryz.func13, Tryz.ntmps13
  go_wp2_with fail
  refine (NW.out _).mono ?_
  rintro e W ⟨rfl, hb⟩
  replace hM := hid (hM.out.later hb)
  clear hb
  generalize hsz : w.heap.size = n at hM ⊢
  clear hsz
  obtain ⟨bx1, hbx1⟩ : ∃ q, q = W.heap.size := ⟨_, rfl⟩
  replace hM := hid (hM.out.bornR rl_zero.symm 24 (b := bx1) hbx1)
  have Hbx1 : Hid _ := hbx1
  clear hbx1
  go_wp2_with (first
    | (rw [← Hbx1.out]; refine sR rfl (hM.out.at 0 rfl) rfl ((rwR wz).len (rwR zr)) (rwR zr) ?_
       replace hM := hid (hM.out.put 0 rfl (rl zr) ((rwR wz).len (rwR zr)))
       generalize World.setCells _ _ _ _ = W at hM ⊢))
  replace hM := hid (hM.out.drew)
  refine wp_region_held_drew (S := fun w' => Bo w' bx1 (rl zr)) (by kernel_rfl) (hM.out.at 0 rfl) (fun hH => ?_)
  generalize World.drew _ = W at hM hH  ⊢
  refine tkR 0 rfl hH (fun _ h => h) (rwR zr) ?_
  simp only [Act.put, p1, p2, p3]
  refine rdn [1, 13] ?_
  refine rdc rfl (fun K hK => ?_) ?_
  · go_simp
    refine (put_is 5 _).mono ?_
    rintro e W ⟨rfl, hb⟩
    replace hM := hid (hM.out.later hb)
    clear hb
    go_wp2_with fail
    refine hK.out _ _ (hM.out.at 0 rfl) (fun hH => ?_)
    clear hK K
    try simp only [Act.put, p1, p2, p3]
    refine tk 2 rfl hH ?_
    simp only [Act.put, p1, p2, p3]
    refine rdn [3, 13] ?_
    refine rdc rfl (fun K hK => ?_) ?_
    · go_simp
      refine (put_is 5 _).mono ?_
      rintro e W ⟨rfl, hb⟩
      replace hM := hid (hM.out.later hb)
      clear hb
      go_wp2_with fail
      refine hK.out _ _ (hM.out.at 0 rfl) (fun hH => ?_)
      clear hK K
      try simp only [Act.put, p1, p2, p3]
      refine tk 4 rfl hH ?_
      simp only [Act.put, p1, p2, p3]
      refine rdn [5, 13] ?_
      refine rdc rfl (fun K hK => ?_) ?_
      · go_simp
        refine (put_is 1 _).mono ?_
        rintro e W ⟨rfl, hb⟩
        replace hM := hid (hM.out.later hb)
        clear hb
        go_wp2_with fail
        refine hK.out _ _ (hM.out.at 0 rfl) (fun hH => ?_)
        clear hK K
        try simp only [Act.put, p1, p2, p3]
        refine tk 6 rfl hH ?_
        simp only [Act.put, p1, p2, p3]
        refine rdn [7, 13] ?_
        refine rdc rfl (fun K hK => ?_) ?_
        · go_simp
          replace hM := hid (hM.out.born [.int .i64 1, .int .i64 1, .int .i64 1, .int .i64 0, .int .i64 5, .int .i64 1, .int .i64 1, .int .i64 1, .int .i64 0, .int .i64 5, .int .i64 0, .int .i64 0, .int .i64 1, .int .i64 0, .int .i64 1] 52 rfl)
          refine hK.out _ _ (hM.out.at 1 rfl) (fun hH => ?_)
          clear hK K
          generalize W.heap.size = bq2 at hM hH ⊢
          generalize World.alloc _ _ = W at hM hH  ⊢
          try simp only [Act.put, p1, p2, p3]
          refine rdn [8, 13] ?_
          refine rdc rfl (fun K hK => ?_) ?_
          · go_simp
            refine (DO.out (hM.out.at 0 rfl)).mono ?_
            rintro e W ⟨g, cap, rfl, hcap, hg, hG, hb⟩
            replace hM := hid (hM.out.laterB hb hg hG)
            clear hb
            have HCAP : Hid _ := hcap
            clear hcap hg hG
            go_wp2_with fail
            refine hK.out _ _ (hM.out.at 2 rfl) (fun hH => ?_)
            clear hK K
            try simp only [Act.put, p1, p2, p3]
            refine tk 9 rfl hH ?_
            simp only [Act.put, p1, p2, p3]
            refine tk 10 rfl hH ?_
            simp only [Act.put, p1, p2, p3]
            refine tk 11 rfl hH ?_
            simp only [Act.put, p1, p2, p3]
            refine tk 12 rfl hH ?_
            simp only [Act.put, p1, p2, p3]
            refine rd1 13 rfl (fun K hK => ?_)
            go_simp
            replace hM := hid (hM.out.bornR rl_zero.symm 24 rfl)
            refine hK.out _ _ (hM.out.at 3 rfl) (fun hH => ?_)
            clear hK K
            generalize W.heap.size = bq3 at hM hH ⊢
            generalize World.alloc _ _ = W at hM hH  ⊢
            try simp only [Act.put, p1, p2, p3]
            refine rd1 14 rfl (fun K hK => ?_)
            refine stR rfl (hM.out.at 0 rfl) ((rwR wz).len (rwR pr)) (rwR pr) ?_
            simp only [Act.put]
            replace hM := hid (hM.out.put 0 rfl (rl pr) ((rwR wz).len (rwR pr)))
            refine hK.out _ _ (hM.out.at 3 rfl) (fun hH => ?_)
            clear hK K
            generalize World.setCells _ _ _ _ = W at hM hH ⊢
            try simp only [Act.put, p1, p2, p3]
            refine tk 15 rfl hH ?_
            simp only [Act.put, p1, p2, p3]
            refine tk 16 rfl hH ?_
            simp only [Act.put, p1, p2, p3]
            refine wpAnyH_done (by kernel_rfl) ?_ _
            go_wp2_with fail
            replace hM := hid (hM.out.drew)
            refine wp_region_held_drew (S := fun w' => Bo w' g [.int .i64 1, .int .i64 1, .int .i64 0, .int .i64 5, .int .i64 1, .int .i64 0] ∧ Bo w' bq3 (rl pr)) (by kernel_rfl) ⟨hM.out.at 1 rfl, hM.out.at 0 rfl⟩ (fun hH => ?_)
            generalize World.drew _ = W at hM hH  ⊢
            refine tk 0 rfl hH ?_
            simp only [Act.put, p1, p2, p3]
            refine tk 1 rfl hH ?_
            simp only [Act.put, p1, p2, p3]
            refine tk 2 rfl hH ?_
            simp only [Act.put, p1, p2, p3]
            refine tk 3 rfl hH ?_
            simp only [Act.put, p1, p2, p3]
            refine tk 4 rfl hH ?_
            simp only [Act.put, p1, p2, p3]
            refine tk 5 rfl hH ?_
            simp only [Act.put, p1, p2, p3]
            refine tk 6 rfl hH ?_
            simp only [Act.put, p1, p2, p3]
            refine tk 7 rfl hH ?_
            simp only [Act.put, p1, p2, p3]
            refine tk 8 rfl hH ?_
            simp only [Act.put, p1, p2, p3]
            refine tk 9 rfl hH ?_
            simp only [Act.put, p1, p2, p3]
            refine tk 10 rfl hH ?_
            simp only [Act.put, p1, p2, p3]
            refine tk 11 rfl hH ?_
            simp only [Act.put, p1, p2, p3]
            refine tk 12 rfl hH ?_
            simp only [Act.put, p1, p2, p3]
            refine tk 13 rfl hH ?_
            simp only [Act.put, p1, p2, p3]
            refine tkR 14 rfl hH (fun _ h => h.1) (rwD 1 1 0 5 1 0) ?_
            simp only [Act.put, p1, p2, p3]
            refine tk 16 rfl hH ?_
            simp only [Act.put, p1, p2, p3]
            refine rd1 15 rfl (fun K hK => ?_)
            go_simp
            refine (put_is 5 _).mono ?_
            rintro e W ⟨rfl, hb⟩
            replace hM := hid (hM.out.later hb)
            clear hb
            go_wp2_with fail
            refine hK.out _ _ ⟨hM.out.at 1 rfl, hM.out.at 0 rfl⟩ (fun hH => ?_)
            clear hK K
            try simp only [Act.put, p1, p2, p3]
            refine tk 17 rfl hH ?_
            simp only [Act.put, p1, p2, p3]
            refine tk 18 rfl hH ?_
            simp only [Act.put, p1, p2, p3]
            refine tk 19 rfl hH ?_
            simp only [Act.put, p1, p2, p3]
            refine tk 20 rfl hH ?_
            simp only [Act.put, p1, p2, p3]
            refine tk 21 rfl hH ?_
            simp only [Act.put, p1, p2, p3]
            refine tk 22 rfl hH ?_ (by intro w h; have c0 := h.2.rwordx (show 27 < 32 by decide) H27.out; clear h; go_simp; try with_reducible rfl)
            simp only [Act.put, p1, p2, p3]
            refine tk 23 rfl hH ?_
            simp only [Act.put, p1, p2, p3]
            refine tk 24 rfl hH ?_
            simp only [Act.put, p1, p2, p3]
            refine tk 25 rfl hH ?_
            simp only [Act.put, p1, p2, p3]
            refine tk 26 rfl hH ?_
            simp only [Act.put, p1, p2, p3]
            refine tk 27 rfl hH ?_ (by intro w h; have c0 := h.2.rwordx (show 1 < 32 by decide) H1.out; clear h; go_simp; try with_reducible rfl)
            simp only [Act.put, p1, p2, p3]
            refine tk 28 rfl hH ?_
            simp only [Act.put, p1, p2, p3]
            refine tk 29 rfl hH ?_
            simp only [Act.put, p1, p2, p3]
            refine tk 30 rfl hH ?_
            simp only [Act.put, p1, p2]
            refine wpAnyH_done (by kernel_rfl) ?_ _
            go_wp2
            go_ret
            exact ⟨rfl, hM.out.below⟩
          refine rdc rfl (fun K hK => ?_) AllReadyH.nil
          go_simp
          replace hM := hid (hM.out.bornR rl_zero.symm 24 rfl)
          refine hK.out _ _ (hM.out.at 2 rfl) (fun hH => ?_)
          clear hK K
          generalize W.heap.size = bq3 at hM hH ⊢
          generalize World.alloc _ _ = W at hM hH  ⊢
          try simp only [Act.put, p1, p2, p3]
          refine rd1 8 rfl (fun K hK => ?_)
          go_simp
          refine (DO.out (hM.out.at 1 rfl)).mono ?_
          rintro e W ⟨g, cap, rfl, hcap, hg, hG, hb⟩
          replace hM := hid (hM.out.laterB hb hg hG)
          clear hb
          have HCAP : Hid _ := hcap
          clear hcap hg hG
          go_wp2_with fail
          refine hK.out _ _ (hM.out.at 3 rfl) (fun hH => ?_)
          clear hK K
          try simp only [Act.put, p1, p2, p3]
          refine tk 9 rfl hH ?_
          simp only [Act.put, p1, p2, p3]
          refine tk 10 rfl hH ?_
          simp only [Act.put, p1, p2, p3]
          refine tk 11 rfl hH ?_
          simp only [Act.put, p1, p2, p3]
          refine tk 12 rfl hH ?_
          simp only [Act.put, p1, p2, p3]
          refine rd1 14 rfl (fun K hK => ?_)
          refine stR rfl (hM.out.at 1 rfl) ((rwR wz).len (rwR pr)) (rwR pr) ?_
          simp only [Act.put]
          replace hM := hid (hM.out.put 1 rfl (rl pr) ((rwR wz).len (rwR pr)))
          refine hK.out _ _ (hM.out.at 3 rfl) (fun hH => ?_)
          clear hK K
          generalize World.setCells _ _ _ _ = W at hM hH ⊢
          try simp only [Act.put, p1, p2, p3]
          refine tk 15 rfl hH ?_
          simp only [Act.put, p1, p2, p3]
          refine tk 16 rfl hH ?_
          simp only [Act.put, p1, p2, p3]
          refine wpAnyH_done (by kernel_rfl) ?_ _
          go_wp2_with fail
          replace hM := hid (hM.out.drew)
          refine wp_region_held_drew (S := fun w' => Bo w' g [.int .i64 1, .int .i64 1, .int .i64 0, .int .i64 5, .int .i64 1, .int .i64 0] ∧ Bo w' bq3 (rl pr)) (by kernel_rfl) ⟨hM.out.at 0 rfl, hM.out.at 1 rfl⟩ (fun hH => ?_)
          generalize World.drew _ = W at hM hH  ⊢
          refine tk 0 rfl hH ?_
          simp only [Act.put, p1, p2, p3]
          refine tk 1 rfl hH ?_
          simp only [Act.put, p1, p2, p3]
          refine tk 2 rfl hH ?_
          simp only [Act.put, p1, p2, p3]
          refine tk 3 rfl hH ?_
          simp only [Act.put, p1, p2, p3]
          refine tk 4 rfl hH ?_
          simp only [Act.put, p1, p2, p3]
          refine tk 5 rfl hH ?_
          simp only [Act.put, p1, p2, p3]
          refine tk 6 rfl hH ?_
          simp only [Act.put, p1, p2, p3]
          refine tk 7 rfl hH ?_
          simp only [Act.put, p1, p2, p3]
          refine tk 8 rfl hH ?_
          simp only [Act.put, p1, p2, p3]
          refine tk 9 rfl hH ?_
          simp only [Act.put, p1, p2, p3]
          refine tk 10 rfl hH ?_
          simp only [Act.put, p1, p2, p3]
          refine tk 11 rfl hH ?_
          simp only [Act.put, p1, p2, p3]
          refine tk 12 rfl hH ?_
          simp only [Act.put, p1, p2, p3]
          refine tk 13 rfl hH ?_
          simp only [Act.put, p1, p2, p3]
          refine tkR 14 rfl hH (fun _ h => h.1) (rwD 1 1 0 5 1 0) ?_
          simp only [Act.put, p1, p2, p3]
          refine tk 16 rfl hH ?_
          simp only [Act.put, p1, p2, p3]
          refine rd1 15 rfl (fun K hK => ?_)
          go_simp
          refine (put_is 5 _).mono ?_
          rintro e W ⟨rfl, hb⟩
          replace hM := hid (hM.out.later hb)
          clear hb
          go_wp2_with fail
          refine hK.out _ _ ⟨hM.out.at 0 rfl, hM.out.at 1 rfl⟩ (fun hH => ?_)
          clear hK K
          try simp only [Act.put, p1, p2, p3]
          refine tk 17 rfl hH ?_
          simp only [Act.put, p1, p2, p3]
          refine tk 18 rfl hH ?_
          simp only [Act.put, p1, p2, p3]
          refine tk 19 rfl hH ?_
          simp only [Act.put, p1, p2, p3]
          refine tk 20 rfl hH ?_
          simp only [Act.put, p1, p2, p3]
          refine tk 21 rfl hH ?_
          simp only [Act.put, p1, p2, p3]
          refine tk 22 rfl hH ?_ (by intro w h; have c0 := h.2.rwordx (show 27 < 32 by decide) H27.out; clear h; go_simp; try with_reducible rfl)
          simp only [Act.put, p1, p2, p3]
          refine tk 23 rfl hH ?_
          simp only [Act.put, p1, p2, p3]
          refine tk 24 rfl hH ?_
          simp only [Act.put, p1, p2, p3]
          refine tk 25 rfl hH ?_
          simp only [Act.put, p1, p2, p3]
          refine tk 26 rfl hH ?_
          simp only [Act.put, p1, p2, p3]
          refine tk 27 rfl hH ?_ (by intro w h; have c0 := h.2.rwordx (show 1 < 32 by decide) H1.out; clear h; go_simp; try with_reducible rfl)
          simp only [Act.put, p1, p2, p3]
          refine tk 28 rfl hH ?_
          simp only [Act.put, p1, p2, p3]
          refine tk 29 rfl hH ?_
          simp only [Act.put, p1, p2, p3]
          refine tk 30 rfl hH ?_
          simp only [Act.put, p1, p2]
          refine wpAnyH_done (by kernel_rfl) ?_ _
          go_wp2
          go_ret
          exact ⟨rfl, hM.out.below⟩
        refine rdc rfl (fun K hK => ?_) AllReadyH.nil
        go_simp
        replace hM := hid (hM.out.bornR rl_zero.symm 24 rfl)
        refine hK.out _ _ (hM.out.at 1 rfl) (fun hH => ?_)
        clear hK K
        generalize W.heap.size = bq2 at hM hH ⊢
        generalize World.alloc _ _ = W at hM hH  ⊢
        try simp only [Act.put, p1, p2, p3]
        refine rd1 7 rfl (fun K hK => ?_)
        go_simp
        replace hM := hid (hM.out.born [.int .i64 1, .int .i64 1, .int .i64 1, .int .i64 0, .int .i64 5, .int .i64 1, .int .i64 1, .int .i64 1, .int .i64 0, .int .i64 5, .int .i64 0, .int .i64 0, .int .i64 1, .int .i64 0, .int .i64 1] 52 rfl)
        refine hK.out _ _ (hM.out.at 2 rfl) (fun hH => ?_)
        clear hK K
        generalize W.heap.size = bq3 at hM hH ⊢
        generalize World.alloc _ _ = W at hM hH  ⊢
        try simp only [Act.put, p1, p2, p3]
        refine rd1 8 rfl (fun K hK => ?_)
        go_simp
        refine (DO.out (hM.out.at 0 rfl)).mono ?_
        rintro e W ⟨g, cap, rfl, hcap, hg, hG, hb⟩
        replace hM := hid (hM.out.laterB hb hg hG)
        clear hb
        have HCAP : Hid _ := hcap
        clear hcap hg hG
        go_wp2_with fail
        refine hK.out _ _ (hM.out.at 3 rfl) (fun hH => ?_)
        clear hK K
        try simp only [Act.put, p1, p2, p3]
        refine tk 9 rfl hH ?_
        simp only [Act.put, p1, p2, p3]
        refine tk 10 rfl hH ?_
        simp only [Act.put, p1, p2, p3]
        refine tk 11 rfl hH ?_
        simp only [Act.put, p1, p2, p3]
        refine tk 12 rfl hH ?_
        simp only [Act.put, p1, p2, p3]
        refine rd1 14 rfl (fun K hK => ?_)
        refine stR rfl (hM.out.at 2 rfl) ((rwR wz).len (rwR pr)) (rwR pr) ?_
        simp only [Act.put]
        replace hM := hid (hM.out.put 2 rfl (rl pr) ((rwR wz).len (rwR pr)))
        refine hK.out _ _ (hM.out.at 3 rfl) (fun hH => ?_)
        clear hK K
        generalize World.setCells _ _ _ _ = W at hM hH ⊢
        try simp only [Act.put, p1, p2, p3]
        refine tk 15 rfl hH ?_
        simp only [Act.put, p1, p2, p3]
        refine tk 16 rfl hH ?_
        simp only [Act.put, p1, p2, p3]
        refine wpAnyH_done (by kernel_rfl) ?_ _
        go_wp2_with fail
        replace hM := hid (hM.out.drew)
        refine wp_region_held_drew (S := fun w' => Bo w' g [.int .i64 1, .int .i64 1, .int .i64 0, .int .i64 5, .int .i64 1, .int .i64 0] ∧ Bo w' bq2 (rl pr)) (by kernel_rfl) ⟨hM.out.at 0 rfl, hM.out.at 2 rfl⟩ (fun hH => ?_)
        generalize World.drew _ = W at hM hH  ⊢
        refine tk 0 rfl hH ?_
        simp only [Act.put, p1, p2, p3]
        refine tk 1 rfl hH ?_
        simp only [Act.put, p1, p2, p3]
        refine tk 2 rfl hH ?_
        simp only [Act.put, p1, p2, p3]
        refine tk 3 rfl hH ?_
        simp only [Act.put, p1, p2, p3]
        refine tk 4 rfl hH ?_
        simp only [Act.put, p1, p2, p3]
        refine tk 5 rfl hH ?_
        simp only [Act.put, p1, p2, p3]
        refine tk 6 rfl hH ?_
        simp only [Act.put, p1, p2, p3]
        refine tk 7 rfl hH ?_
        simp only [Act.put, p1, p2, p3]
        refine tk 8 rfl hH ?_
        simp only [Act.put, p1, p2, p3]
        refine tk 9 rfl hH ?_
        simp only [Act.put, p1, p2, p3]
        refine tk 10 rfl hH ?_
        simp only [Act.put, p1, p2, p3]
        refine tk 11 rfl hH ?_
        simp only [Act.put, p1, p2, p3]
        refine tk 12 rfl hH ?_
        simp only [Act.put, p1, p2, p3]
        refine tk 13 rfl hH ?_
        simp only [Act.put, p1, p2, p3]
        refine tkR 14 rfl hH (fun _ h => h.1) (rwD 1 1 0 5 1 0) ?_
        simp only [Act.put, p1, p2, p3]
        refine tk 16 rfl hH ?_
        simp only [Act.put, p1, p2, p3]
        refine rd1 15 rfl (fun K hK => ?_)
        go_simp
        refine (put_is 5 _).mono ?_
        rintro e W ⟨rfl, hb⟩
        replace hM := hid (hM.out.later hb)
        clear hb
        go_wp2_with fail
        refine hK.out _ _ ⟨hM.out.at 0 rfl, hM.out.at 2 rfl⟩ (fun hH => ?_)
        clear hK K
        try simp only [Act.put, p1, p2, p3]
        refine tk 17 rfl hH ?_
        simp only [Act.put, p1, p2, p3]
        refine tk 18 rfl hH ?_
        simp only [Act.put, p1, p2, p3]
        refine tk 19 rfl hH ?_
        simp only [Act.put, p1, p2, p3]
        refine tk 20 rfl hH ?_
        simp only [Act.put, p1, p2, p3]
        refine tk 21 rfl hH ?_
        simp only [Act.put, p1, p2, p3]
        refine tk 22 rfl hH ?_ (by intro w h; have c0 := h.2.rwordx (show 27 < 32 by decide) H27.out; clear h; go_simp; try with_reducible rfl)
        simp only [Act.put, p1, p2, p3]
        refine tk 23 rfl hH ?_
        simp only [Act.put, p1, p2, p3]
        refine tk 24 rfl hH ?_
        simp only [Act.put, p1, p2, p3]
        refine tk 25 rfl hH ?_
        simp only [Act.put, p1, p2, p3]
        refine tk 26 rfl hH ?_
        simp only [Act.put, p1, p2, p3]
        refine tk 27 rfl hH ?_ (by intro w h; have c0 := h.2.rwordx (show 1 < 32 by decide) H1.out; clear h; go_simp; try with_reducible rfl)
        simp only [Act.put, p1, p2, p3]
        refine tk 28 rfl hH ?_
        simp only [Act.put, p1, p2, p3]
        refine tk 29 rfl hH ?_
        simp only [Act.put, p1, p2, p3]
        refine tk 30 rfl hH ?_
        simp only [Act.put, p1, p2]
        refine wpAnyH_done (by kernel_rfl) ?_ _
        go_wp2
        go_ret
        exact ⟨rfl, hM.out.below⟩
      refine rdc rfl (fun K hK => ?_) AllReadyH.nil
      go_simp
      replace hM := hid (hM.out.bornR rl_zero.symm 24 rfl)
      refine hK.out _ _ (hM.out.at 1 rfl) (fun hH => ?_)
      clear hK K
      generalize W.heap.size = bq2 at hM hH ⊢
      generalize World.alloc _ _ = W at hM hH  ⊢
      try simp only [Act.put, p1, p2, p3]
      refine rd1 5 rfl (fun K hK => ?_)
      go_simp
      refine (put_is 1 _).mono ?_
      rintro e W ⟨rfl, hb⟩
      replace hM := hid (hM.out.later hb)
      clear hb
      go_wp2_with fail
      refine hK.out _ _ (hM.out.at 1 rfl) (fun hH => ?_)
      clear hK K
      try simp only [Act.put, p1, p2, p3]
      refine tk 6 rfl hH ?_
      simp only [Act.put, p1, p2, p3]
      refine rd1 7 rfl (fun K hK => ?_)
      go_simp
      replace hM := hid (hM.out.born [.int .i64 1, .int .i64 1, .int .i64 1, .int .i64 0, .int .i64 5, .int .i64 1, .int .i64 1, .int .i64 1, .int .i64 0, .int .i64 5, .int .i64 0, .int .i64 0, .int .i64 1, .int .i64 0, .int .i64 1] 52 rfl)
      refine hK.out _ _ (hM.out.at 2 rfl) (fun hH => ?_)
      clear hK K
      generalize W.heap.size = bq3 at hM hH ⊢
      generalize World.alloc _ _ = W at hM hH  ⊢
      try simp only [Act.put, p1, p2, p3]
      refine rd1 8 rfl (fun K hK => ?_)
      go_simp
      refine (DO.out (hM.out.at 0 rfl)).mono ?_
      rintro e W ⟨g, cap, rfl, hcap, hg, hG, hb⟩
      replace hM := hid (hM.out.laterB hb hg hG)
      clear hb
      have HCAP : Hid _ := hcap
      clear hcap hg hG
      go_wp2_with fail
      refine hK.out _ _ (hM.out.at 3 rfl) (fun hH => ?_)
      clear hK K
      try simp only [Act.put, p1, p2, p3]
      refine tk 9 rfl hH ?_
      simp only [Act.put, p1, p2, p3]
      refine tk 10 rfl hH ?_
      simp only [Act.put, p1, p2, p3]
      refine tk 11 rfl hH ?_
      simp only [Act.put, p1, p2, p3]
      refine tk 12 rfl hH ?_
      simp only [Act.put, p1, p2, p3]
      refine rd1 14 rfl (fun K hK => ?_)
      refine stR rfl (hM.out.at 2 rfl) ((rwR wz).len (rwR pr)) (rwR pr) ?_
      simp only [Act.put]
      replace hM := hid (hM.out.put 2 rfl (rl pr) ((rwR wz).len (rwR pr)))
      refine hK.out _ _ (hM.out.at 3 rfl) (fun hH => ?_)
      clear hK K
      generalize World.setCells _ _ _ _ = W at hM hH ⊢
      try simp only [Act.put, p1, p2, p3]
      refine tk 15 rfl hH ?_
      simp only [Act.put, p1, p2, p3]
      refine tk 16 rfl hH ?_
      simp only [Act.put, p1, p2, p3]
      refine wpAnyH_done (by kernel_rfl) ?_ _
      go_wp2_with fail
      replace hM := hid (hM.out.drew)
      refine wp_region_held_drew (S := fun w' => Bo w' g [.int .i64 1, .int .i64 1, .int .i64 0, .int .i64 5, .int .i64 1, .int .i64 0] ∧ Bo w' bq2 (rl pr)) (by kernel_rfl) ⟨hM.out.at 0 rfl, hM.out.at 2 rfl⟩ (fun hH => ?_)
      generalize World.drew _ = W at hM hH  ⊢
      refine tk 0 rfl hH ?_
      simp only [Act.put, p1, p2, p3]
      refine tk 1 rfl hH ?_
      simp only [Act.put, p1, p2, p3]
      refine tk 2 rfl hH ?_
      simp only [Act.put, p1, p2, p3]
      refine tk 3 rfl hH ?_
      simp only [Act.put, p1, p2, p3]
      refine tk 4 rfl hH ?_
      simp only [Act.put, p1, p2, p3]
      refine tk 5 rfl hH ?_
      simp only [Act.put, p1, p2, p3]
      refine tk 6 rfl hH ?_
      simp only [Act.put, p1, p2, p3]
      refine tk 7 rfl hH ?_
      simp only [Act.put, p1, p2, p3]
      refine tk 8 rfl hH ?_
      simp only [Act.put, p1, p2, p3]
      refine tk 9 rfl hH ?_
      simp only [Act.put, p1, p2, p3]
      refine tk 10 rfl hH ?_
      simp only [Act.put, p1, p2, p3]
      refine tk 11 rfl hH ?_
      simp only [Act.put, p1, p2, p3]
      refine tk 12 rfl hH ?_
      simp only [Act.put, p1, p2, p3]
      refine tk 13 rfl hH ?_
      simp only [Act.put, p1, p2, p3]
      refine tkR 14 rfl hH (fun _ h => h.1) (rwD 1 1 0 5 1 0) ?_
      simp only [Act.put, p1, p2, p3]
      refine tk 16 rfl hH ?_
      simp only [Act.put, p1, p2, p3]
      refine rd1 15 rfl (fun K hK => ?_)
      go_simp
      refine (put_is 5 _).mono ?_
      rintro e W ⟨rfl, hb⟩
      replace hM := hid (hM.out.later hb)
      clear hb
      go_wp2_with fail
      refine hK.out _ _ ⟨hM.out.at 0 rfl, hM.out.at 2 rfl⟩ (fun hH => ?_)
      clear hK K
      try simp only [Act.put, p1, p2, p3]
      refine tk 17 rfl hH ?_
      simp only [Act.put, p1, p2, p3]
      refine tk 18 rfl hH ?_
      simp only [Act.put, p1, p2, p3]
      refine tk 19 rfl hH ?_
      simp only [Act.put, p1, p2, p3]
      refine tk 20 rfl hH ?_
      simp only [Act.put, p1, p2, p3]
      refine tk 21 rfl hH ?_
      simp only [Act.put, p1, p2, p3]
      refine tk 22 rfl hH ?_ (by intro w h; have c0 := h.2.rwordx (show 27 < 32 by decide) H27.out; clear h; go_simp; try with_reducible rfl)
      simp only [Act.put, p1, p2, p3]
      refine tk 23 rfl hH ?_
      simp only [Act.put, p1, p2, p3]
      refine tk 24 rfl hH ?_
      simp only [Act.put, p1, p2, p3]
      refine tk 25 rfl hH ?_
      simp only [Act.put, p1, p2, p3]
      refine tk 26 rfl hH ?_
      simp only [Act.put, p1, p2, p3]
      refine tk 27 rfl hH ?_ (by intro w h; have c0 := h.2.rwordx (show 1 < 32 by decide) H1.out; clear h; go_simp; try with_reducible rfl)
      simp only [Act.put, p1, p2, p3]
      refine tk 28 rfl hH ?_
      simp only [Act.put, p1, p2, p3]
      refine tk 29 rfl hH ?_
      simp only [Act.put, p1, p2, p3]
      refine tk 30 rfl hH ?_
      simp only [Act.put, p1, p2]
      refine wpAnyH_done (by kernel_rfl) ?_ _
      go_wp2
      go_ret
      exact ⟨rfl, hM.out.below⟩
    refine rdc rfl (fun K hK => ?_) AllReadyH.nil
    go_simp
    replace hM := hid (hM.out.bornR rl_zero.symm 24 rfl)
    refine hK.out _ _ (hM.out.at 1 rfl) (fun hH => ?_)
    clear hK K
    generalize W.heap.size = bq2 at hM hH ⊢
    generalize World.alloc _ _ = W at hM hH  ⊢
    try simp only [Act.put, p1, p2, p3]
    refine rd1 3 rfl (fun K hK => ?_)
    go_simp
    refine (put_is 5 _).mono ?_
    rintro e W ⟨rfl, hb⟩
    replace hM := hid (hM.out.later hb)
    clear hb
    go_wp2_with fail
    refine hK.out _ _ (hM.out.at 1 rfl) (fun hH => ?_)
    clear hK K
    try simp only [Act.put, p1, p2, p3]
    refine tk 4 rfl hH ?_
    simp only [Act.put, p1, p2, p3]
    refine rd1 5 rfl (fun K hK => ?_)
    go_simp
    refine (put_is 1 _).mono ?_
    rintro e W ⟨rfl, hb⟩
    replace hM := hid (hM.out.later hb)
    clear hb
    go_wp2_with fail
    refine hK.out _ _ (hM.out.at 1 rfl) (fun hH => ?_)
    clear hK K
    try simp only [Act.put, p1, p2, p3]
    refine tk 6 rfl hH ?_
    simp only [Act.put, p1, p2, p3]
    refine rd1 7 rfl (fun K hK => ?_)
    go_simp
    replace hM := hid (hM.out.born [.int .i64 1, .int .i64 1, .int .i64 1, .int .i64 0, .int .i64 5, .int .i64 1, .int .i64 1, .int .i64 1, .int .i64 0, .int .i64 5, .int .i64 0, .int .i64 0, .int .i64 1, .int .i64 0, .int .i64 1] 52 rfl)
    refine hK.out _ _ (hM.out.at 2 rfl) (fun hH => ?_)
    clear hK K
    generalize W.heap.size = bq3 at hM hH ⊢
    generalize World.alloc _ _ = W at hM hH  ⊢
    try simp only [Act.put, p1, p2, p3]
    refine rd1 8 rfl (fun K hK => ?_)
    go_simp
    refine (DO.out (hM.out.at 0 rfl)).mono ?_
    rintro e W ⟨g, cap, rfl, hcap, hg, hG, hb⟩
    replace hM := hid (hM.out.laterB hb hg hG)
    clear hb
    have HCAP : Hid _ := hcap
    clear hcap hg hG
    go_wp2_with fail
    refine hK.out _ _ (hM.out.at 3 rfl) (fun hH => ?_)
    clear hK K
    try simp only [Act.put, p1, p2, p3]
    refine tk 9 rfl hH ?_
    simp only [Act.put, p1, p2, p3]
    refine tk 10 rfl hH ?_
    simp only [Act.put, p1, p2, p3]
    refine tk 11 rfl hH ?_
    simp only [Act.put, p1, p2, p3]
    refine tk 12 rfl hH ?_
    simp only [Act.put, p1, p2, p3]
    refine rd1 14 rfl (fun K hK => ?_)
    refine stR rfl (hM.out.at 2 rfl) ((rwR wz).len (rwR pr)) (rwR pr) ?_
    simp only [Act.put]
    replace hM := hid (hM.out.put 2 rfl (rl pr) ((rwR wz).len (rwR pr)))
    refine hK.out _ _ (hM.out.at 3 rfl) (fun hH => ?_)
    clear hK K
    generalize World.setCells _ _ _ _ = W at hM hH ⊢
    try simp only [Act.put, p1, p2, p3]
    refine tk 15 rfl hH ?_
    simp only [Act.put, p1, p2, p3]
    refine tk 16 rfl hH ?_
    simp only [Act.put, p1, p2, p3]
    refine wpAnyH_done (by kernel_rfl) ?_ _
    go_wp2_with fail
    replace hM := hid (hM.out.drew)
    refine wp_region_held_drew (S := fun w' => Bo w' g [.int .i64 1, .int .i64 1, .int .i64 0, .int .i64 5, .int .i64 1, .int .i64 0] ∧ Bo w' bq2 (rl pr)) (by kernel_rfl) ⟨hM.out.at 0 rfl, hM.out.at 2 rfl⟩ (fun hH => ?_)
    generalize World.drew _ = W at hM hH  ⊢
    refine tk 0 rfl hH ?_
    simp only [Act.put, p1, p2, p3]
    refine tk 1 rfl hH ?_
    simp only [Act.put, p1, p2, p3]
    refine tk 2 rfl hH ?_
    simp only [Act.put, p1, p2, p3]
    refine tk 3 rfl hH ?_
    simp only [Act.put, p1, p2, p3]
    refine tk 4 rfl hH ?_
    simp only [Act.put, p1, p2, p3]
    refine tk 5 rfl hH ?_
    simp only [Act.put, p1, p2, p3]
    refine tk 6 rfl hH ?_
    simp only [Act.put, p1, p2, p3]
    refine tk 7 rfl hH ?_
    simp only [Act.put, p1, p2, p3]
    refine tk 8 rfl hH ?_
    simp only [Act.put, p1, p2, p3]
    refine tk 9 rfl hH ?_
    simp only [Act.put, p1, p2, p3]
    refine tk 10 rfl hH ?_
    simp only [Act.put, p1, p2, p3]
    refine tk 11 rfl hH ?_
    simp only [Act.put, p1, p2, p3]
    refine tk 12 rfl hH ?_
    simp only [Act.put, p1, p2, p3]
    refine tk 13 rfl hH ?_
    simp only [Act.put, p1, p2, p3]
    refine tkR 14 rfl hH (fun _ h => h.1) (rwD 1 1 0 5 1 0) ?_
    simp only [Act.put, p1, p2, p3]
    refine tk 16 rfl hH ?_
    simp only [Act.put, p1, p2, p3]
    refine rd1 15 rfl (fun K hK => ?_)
    go_simp
    refine (put_is 5 _).mono ?_
    rintro e W ⟨rfl, hb⟩
    replace hM := hid (hM.out.later hb)
    clear hb
    go_wp2_with fail
    refine hK.out _ _ ⟨hM.out.at 0 rfl, hM.out.at 2 rfl⟩ (fun hH => ?_)
    clear hK K
    try simp only [Act.put, p1, p2, p3]
    refine tk 17 rfl hH ?_
    simp only [Act.put, p1, p2, p3]
    refine tk 18 rfl hH ?_
    simp only [Act.put, p1, p2, p3]
    refine tk 19 rfl hH ?_
    simp only [Act.put, p1, p2, p3]
    refine tk 20 rfl hH ?_
    simp only [Act.put, p1, p2, p3]
    refine tk 21 rfl hH ?_
    simp only [Act.put, p1, p2, p3]
    refine tk 22 rfl hH ?_ (by intro w h; have c0 := h.2.rwordx (show 27 < 32 by decide) H27.out; clear h; go_simp; try with_reducible rfl)
    simp only [Act.put, p1, p2, p3]
    refine tk 23 rfl hH ?_
    simp only [Act.put, p1, p2, p3]
    refine tk 24 rfl hH ?_
    simp only [Act.put, p1, p2, p3]
    refine tk 25 rfl hH ?_
    simp only [Act.put, p1, p2, p3]
    refine tk 26 rfl hH ?_
    simp only [Act.put, p1, p2, p3]
    refine tk 27 rfl hH ?_ (by intro w h; have c0 := h.2.rwordx (show 1 < 32 by decide) H1.out; clear h; go_simp; try with_reducible rfl)
    simp only [Act.put, p1, p2, p3]
    refine tk 28 rfl hH ?_
    simp only [Act.put, p1, p2, p3]
    refine tk 29 rfl hH ?_
    simp only [Act.put, p1, p2, p3]
    refine tk 30 rfl hH ?_
    simp only [Act.put, p1, p2]
    refine wpAnyH_done (by kernel_rfl) ?_ _
    go_wp2
    go_ret
    exact ⟨rfl, hM.out.below⟩
  refine rdc rfl (fun K hK => ?_) AllReadyH.nil
  go_simp
  replace hM := hid (hM.out.bornR rl_zero.symm 24 rfl)
  refine hK.out _ _ (hM.out.at 1 rfl) (fun hH => ?_)
  clear hK K
  generalize W.heap.size = bq2 at hM hH ⊢
  generalize World.alloc _ _ = W at hM hH  ⊢
  try simp only [Act.put, p1, p2, p3]
  refine rd1 1 rfl (fun K hK => ?_)
  go_simp
  refine (put_is 5 _).mono ?_
  rintro e W ⟨rfl, hb⟩
  replace hM := hid (hM.out.later hb)
  clear hb
  go_wp2_with fail
  refine hK.out _ _ (hM.out.at 1 rfl) (fun hH => ?_)
  clear hK K
  try simp only [Act.put, p1, p2, p3]
  refine tk 2 rfl hH ?_
  simp only [Act.put, p1, p2, p3]
  refine rd1 3 rfl (fun K hK => ?_)
  go_simp
  refine (put_is 5 _).mono ?_
  rintro e W ⟨rfl, hb⟩
  replace hM := hid (hM.out.later hb)
  clear hb
  go_wp2_with fail
  refine hK.out _ _ (hM.out.at 1 rfl) (fun hH => ?_)
  clear hK K
  try simp only [Act.put, p1, p2, p3]
  refine tk 4 rfl hH ?_
  simp only [Act.put, p1, p2, p3]
  refine rd1 5 rfl (fun K hK => ?_)
  go_simp
  refine (put_is 1 _).mono ?_
  rintro e W ⟨rfl, hb⟩
  replace hM := hid (hM.out.later hb)
  clear hb
  go_wp2_with fail
  refine hK.out _ _ (hM.out.at 1 rfl) (fun hH => ?_)
  clear hK K
  try simp only [Act.put, p1, p2, p3]
  refine tk 6 rfl hH ?_
  simp only [Act.put, p1, p2, p3]
  refine rd1 7 rfl (fun K hK => ?_)
  go_simp
  replace hM := hid (hM.out.born [.int .i64 1, .int .i64 1, .int .i64 1, .int .i64 0, .int .i64 5, .int .i64 1, .int .i64 1, .int .i64 1, .int .i64 0, .int .i64 5, .int .i64 0, .int .i64 0, .int .i64 1, .int .i64 0, .int .i64 1] 52 rfl)
  refine hK.out _ _ (hM.out.at 2 rfl) (fun hH => ?_)
  clear hK K
  generalize W.heap.size = bq3 at hM hH ⊢
  generalize World.alloc _ _ = W at hM hH  ⊢
  try simp only [Act.put, p1, p2, p3]
  refine rd1 8 rfl (fun K hK => ?_)
  go_simp
  refine (DO.out (hM.out.at 0 rfl)).mono ?_
  rintro e W ⟨g, cap, rfl, hcap, hg, hG, hb⟩
  replace hM := hid (hM.out.laterB hb hg hG)
  clear hb
  have HCAP : Hid _ := hcap
  clear hcap hg hG
  go_wp2_with fail
  refine hK.out _ _ (hM.out.at 3 rfl) (fun hH => ?_)
  clear hK K
  try simp only [Act.put, p1, p2, p3]
  refine tk 9 rfl hH ?_
  simp only [Act.put, p1, p2, p3]
  refine tk 10 rfl hH ?_
  simp only [Act.put, p1, p2, p3]
  refine tk 11 rfl hH ?_
  simp only [Act.put, p1, p2, p3]
  refine tk 12 rfl hH ?_
  simp only [Act.put, p1, p2, p3]
  refine rd1 14 rfl (fun K hK => ?_)
  refine stR rfl (hM.out.at 2 rfl) ((rwR wz).len (rwR pr)) (rwR pr) ?_
  simp only [Act.put]
  replace hM := hid (hM.out.put 2 rfl (rl pr) ((rwR wz).len (rwR pr)))
  refine hK.out _ _ (hM.out.at 3 rfl) (fun hH => ?_)
  clear hK K
  generalize World.setCells _ _ _ _ = W at hM hH ⊢
  try simp only [Act.put, p1, p2, p3]
  refine tk 15 rfl hH ?_
  simp only [Act.put, p1, p2, p3]
  refine tk 16 rfl hH ?_
  simp only [Act.put, p1, p2, p3]
  refine wpAnyH_done (by kernel_rfl) ?_ _
  go_wp2_with fail
  replace hM := hid (hM.out.drew)
  refine wp_region_held_drew (S := fun w' => Bo w' g [.int .i64 1, .int .i64 1, .int .i64 0, .int .i64 5, .int .i64 1, .int .i64 0] ∧ Bo w' bq2 (rl pr)) (by kernel_rfl) ⟨hM.out.at 0 rfl, hM.out.at 2 rfl⟩ (fun hH => ?_)
  generalize World.drew _ = W at hM hH  ⊢
  refine tk 0 rfl hH ?_
  simp only [Act.put, p1, p2, p3]
  refine tk 1 rfl hH ?_
  simp only [Act.put, p1, p2, p3]
  refine tk 2 rfl hH ?_
  simp only [Act.put, p1, p2, p3]
  refine tk 3 rfl hH ?_
  simp only [Act.put, p1, p2, p3]
  refine tk 4 rfl hH ?_
  simp only [Act.put, p1, p2, p3]
  refine tk 5 rfl hH ?_
  simp only [Act.put, p1, p2, p3]
  refine tk 6 rfl hH ?_
  simp only [Act.put, p1, p2, p3]
  refine tk 7 rfl hH ?_
  simp only [Act.put, p1, p2, p3]
  refine tk 8 rfl hH ?_
  simp only [Act.put, p1, p2, p3]
  refine tk 9 rfl hH ?_
  simp only [Act.put, p1, p2, p3]
  refine tk 10 rfl hH ?_
  simp only [Act.put, p1, p2, p3]
  refine tk 11 rfl hH ?_
  simp only [Act.put, p1, p2, p3]
  refine tk 12 rfl hH ?_
  simp only [Act.put, p1, p2, p3]
  refine tk 13 rfl hH ?_
  simp only [Act.put, p1, p2, p3]
  refine tkR 14 rfl hH (fun _ h => h.1) (rwD 1 1 0 5 1 0) ?_
  simp only [Act.put, p1, p2, p3]
  refine tk 16 rfl hH ?_
  simp only [Act.put, p1, p2, p3]
  refine rd1 15 rfl (fun K hK => ?_)
  go_simp
  refine (put_is 5 _).mono ?_
  rintro e W ⟨rfl, hb⟩
  replace hM := hid (hM.out.later hb)
  clear hb
  go_wp2_with fail
  refine hK.out _ _ ⟨hM.out.at 0 rfl, hM.out.at 2 rfl⟩ (fun hH => ?_)
  clear hK K
  try simp only [Act.put, p1, p2, p3]
  refine tk 17 rfl hH ?_
  simp only [Act.put, p1, p2, p3]
  refine tk 18 rfl hH ?_
  simp only [Act.put, p1, p2, p3]
  refine tk 19 rfl hH ?_
  simp only [Act.put, p1, p2, p3]
  refine tk 20 rfl hH ?_
  simp only [Act.put, p1, p2, p3]
  refine tk 21 rfl hH ?_
  simp only [Act.put, p1, p2, p3]
  refine tk 22 rfl hH ?_ (by intro w h; have c0 := h.2.rwordx (show 27 < 32 by decide) H27.out; clear h; go_simp; try with_reducible rfl)
  simp only [Act.put, p1, p2, p3]
  refine tk 23 rfl hH ?_
  simp only [Act.put, p1, p2, p3]
  refine tk 24 rfl hH ?_
  simp only [Act.put, p1, p2, p3]
  refine tk 25 rfl hH ?_
  simp only [Act.put, p1, p2, p3]
  refine tk 26 rfl hH ?_
  simp only [Act.put, p1, p2, p3]
  refine tk 27 rfl hH ?_ (by intro w h; have c0 := h.2.rwordx (show 1 < 32 by decide) H1.out; clear h; go_simp; try with_reducible rfl)
  simp only [Act.put, p1, p2, p3]
  refine tk 28 rfl hH ?_
  simp only [Act.put, p1, p2, p3]
  refine tk 29 rfl hH ?_
  simp only [Act.put, p1, p2, p3]
  refine tk 30 rfl hH ?_
  simp only [Act.put, p1, p2]
  refine wpAnyH_done (by kernel_rfl) ?_ _
  go_wp2
  go_ret
  exact ⟨rfl, hM.out.below⟩
end Go.Proofs.YteogbpaaacmllaaGreatDoor.Tab
namespace Go.Proofs.YteogbpaaacmllaaGreatDoor.Tab
set_option maxRecDepth 20000
open Go.RowKit
set_option linter.unusedVariables false

theorem put9_odo : (odo ((newR 1 0 : Nat)) (ob (newR 1)) 1 0 9).2 = (1, 0) := by decide
def recP : Nat → Nat := rdo (newR 1) 2 1 0 9
theorem recP_rec : isRec recP := rdo_rec (newR_rec (by decide) (by decide)) ⟨by decide, by decide, by decide, by decide, by decide, by decide⟩ (by decide) (by decide)
theorem recP_20 : recP 20 = 4294967296 := by
  have := rdo_a (r := newR 1) (t := 2) (o := 1) (k := 0) (x := 9) (by decide)
  rw [put9_odo] at this
  exact this
theorem recP_24 : recP 24 = 1 := rdo_w (r := newR 1) (t := 2) (o := 1) (k := 0) (x := 9) (by decide)
theorem recP_26 : recP 26 = 4 := rdo_26 (r := newR 1) (t := 2) (o := 1) (k := 0) (x := 9)
set_option maxHeartbeats 8000000 in
theorem recorded_is  (w : World) :
    Calls Tryz.prog 14 #[] w (fun e w' => e = .returned (.bool true) ∧ Below w.heap.size w w') := by
  have HZ := newR_rec (k := 1) (by decide) (by decide)
  have NW : Hid (∀ w : World, Calls Tryz.prog 40 #[.int .i64 1] w fun e w' => e = .returned (.tuple #[.agg (rl (newR 1)).toArray, .nilIface]) ∧ Below w.heap.size w w') := fun w => recNew_yes (k := 1) (by decide) (by decide) w
  have DO : Hid (∀ w : World, Calls Tryz.prog 42 #[.agg (rl (newR 1)).toArray, .int .i64 2, .agg #[.int .i64 1, .int .i64 0, .int .i64 9]] w fun e w' => e = .returned (.tuple #[.agg (rl recP).toArray, .nilIface]) ∧ Below w.heap.size w w') := fun w => recDone_yes (t := 2) HZ.u64 (by decide) HZ ⟨by decide, by decide, by decide, by decide, by decide, by decide⟩ w
  have AN : Hid (∀ w : World, Calls Tryz.prog 43 #[.agg (rl recP).toArray, .int .i64 2] w fun e w' => e = .returned (.tuple #[.agg #[.int .i64 1, .int .i64 0], .int .i64 1, .nilIface]) ∧ Below w.heap.size w w') := fun w => by
    have h := recAnswer_yes (r := recP) recP_rec.u64 (i := 2) (by decide) (by show Aw (recP 20); rw [recP_20]; decide) w
    rw [show recP (18 + 2) = 4294967296 from recP_20, show recP (22 + 2) = 1 from recP_24] at h
    exact h
  have TG : Hid (∀ w : World, Calls Tryz.prog 24 #[.agg (rl recP).toArray, .int .i64 2] w fun e w' => e = .returned (.int .i64 1) ∧ Below w.heap.size w w') := fun w => by
    have h := toggle_yes recP (t := 2) (by decide) (recP_rec.u64 26 (by decide)) w
    rw [recP_26] at h
    exact h
  have TZ : Hid (∀ w : World, Calls Tryz.prog 24 #[.agg (rl (newR 1)).toArray, .int .i64 2] w fun e w' => e = .returned (.int .i64 0) ∧ Below w.heap.size w w') := fun w => toggle_yes (newR 1) (t := 2) (by decide) (HZ.u64 26 (by decide)) w
  have RZ : Hid (∀ w : World, _) := recRight_is HZ.u64 (v := true) ⟨fun _ => HZ, fun _ => rfl⟩
  have RP : Hid (∀ w : World, _) := recRight_is recP_rec.u64 (v := true) ⟨fun _ => recP_rec, fun _ => rfl⟩
  clear HZ
  generalize newR 1 = zr at *
  generalize recP = pr at *
  have hM : Hid _ := (Ms.nil w)
  go_enter Tryz.func14, Tryz.ntmps14
  go_wp2_with fail
  refine (NW.out _).mono ?_
  rintro e W ⟨rfl, hb⟩
  replace hM := hid (hM.out.later hb)
  clear hb
  generalize hsz : w.heap.size = n at hM ⊢
  clear hsz
  obtain ⟨bx1, hbx1⟩ : ∃ q, q = W.heap.size := ⟨_, rfl⟩
  replace hM := hid (hM.out.bornR rl_zero.symm 24 (b := bx1) hbx1)
  have Hbx1 : Hid _ := hbx1
  clear hbx1
  go_wp2_with (first
    | (rw [← Hbx1.out]; refine sR rfl (hM.out.at 0 rfl) rfl ((rwR wz).len (rwR zr)) (rwR zr) ?_
       replace hM := hid (hM.out.put 0 rfl (rl zr) ((rwR wz).len (rwR zr)))
       generalize World.setCells _ _ _ _ = W at hM ⊢))
  go_cut [3, 4] (fun s3 s4 wx => ∃ bz3 : Nat, s3 = .pointer (some ⟨bz3, 0, none⟩) ∧ s4 = .nilIface ∧ Hid (Ms n w wx [(bx1, (rl zr)), (bz3, (rl pr))] []))
  case first =>
    replace hM := hid (hM.out.drew)
    refine wp_region_held_drew (S := fun w' => Bo w' bx1 (rl zr)) (by kernel_rfl) (hM.out.at 0 rfl) (fun hH => ?_)
    generalize World.drew _ = W at hM hH  ⊢
    refine tkR 0 rfl hH (fun _ h => h) (rwR zr) ?_
    simp only [Act.put, p1, p2, p3]
    refine rdn [1, 6] ?_
    refine rdc rfl (fun K hK => ?_) ?_
    · go_simp
      refine (put_is 9 _).mono ?_
      rintro e W ⟨rfl, hb⟩
      replace hM := hid (hM.out.later hb)
      clear hb
      go_wp2_with fail
      refine hK.out _ _ (hM.out.at 0 rfl) (fun hH => ?_)
      clear hK K
      try simp only [Act.put, p1, p2, p3]
      refine rdn [2, 6] ?_
      refine rdc rfl (fun K hK => ?_) ?_
      · go_simp
        refine (DO.out _).mono ?_
        rintro e W ⟨rfl, hb⟩
        replace hM := hid (hM.out.later hb)
        clear hb
        go_wp2_with fail
        refine hK.out _ _ (hM.out.at 0 rfl) (fun hH => ?_)
        clear hK K
        try simp only [Act.put, p1, p2, p3]
        refine tk 3 rfl hH ?_
        simp only [Act.put, p1, p2, p3]
        refine tk 4 rfl hH ?_
        simp only [Act.put, p1, p2, p3]
        refine tk 5 rfl hH ?_
        simp only [Act.put, p1, p2, p3]
        refine rd1 6 rfl (fun K hK => ?_)
        go_simp
        replace hM := hid (hM.out.bornR rl_zero.symm 24 rfl)
        refine hK.out _ _ (hM.out.at 1 rfl) (fun hH => ?_)
        clear hK K
        generalize W.heap.size = bq2 at hM hH ⊢
        generalize World.alloc _ _ = W at hM hH  ⊢
        try simp only [Act.put, p1, p2, p3]
        refine rd1 7 rfl (fun K hK => ?_)
        refine stR rfl (hM.out.at 0 rfl) ((rwR wz).len (rwR pr)) (rwR pr) ?_
        simp only [Act.put]
        replace hM := hid (hM.out.put 0 rfl (rl pr) ((rwR wz).len (rwR pr)))
        refine hK.out _ _ (hM.out.at 1 rfl) (fun hH => ?_)
        clear hK K
        generalize World.setCells _ _ _ _ = W at hM hH ⊢
        try simp only [Act.put, p1, p2, p3]
        refine tk 8 rfl hH ?_
        simp only [Act.put, p1, p2, p3]
        refine wpAnyH_done (by kernel_rfl) ?_ _
        go_wp2_with fail
        go_meet
        case rel => exact ⟨bq2, rfl, rfl, (hM.out.pick [1, 0]).pickL []⟩
      refine rdc rfl (fun K hK => ?_) AllReadyH.nil
      go_simp
      replace hM := hid (hM.out.bornR rl_zero.symm 24 rfl)
      refine hK.out _ _ (hM.out.at 1 rfl) (fun hH => ?_)
      clear hK K
      generalize W.heap.size = bq2 at hM hH ⊢
      generalize World.alloc _ _ = W at hM hH  ⊢
      try simp only [Act.put, p1, p2, p3]
      refine rd1 2 rfl (fun K hK => ?_)
      go_simp
      refine (DO.out _).mono ?_
      rintro e W ⟨rfl, hb⟩
      replace hM := hid (hM.out.later hb)
      clear hb
      go_wp2_with fail
      refine hK.out _ _ (hM.out.at 1 rfl) (fun hH => ?_)
      clear hK K
      try simp only [Act.put, p1, p2, p3]
      refine tk 3 rfl hH ?_
      simp only [Act.put, p1, p2, p3]
      refine tk 4 rfl hH ?_
      simp only [Act.put, p1, p2, p3]
      refine tk 5 rfl hH ?_
      simp only [Act.put, p1, p2, p3]
      refine rd1 7 rfl (fun K hK => ?_)
      refine stR rfl (hM.out.at 0 rfl) ((rwR wz).len (rwR pr)) (rwR pr) ?_
      simp only [Act.put]
      replace hM := hid (hM.out.put 0 rfl (rl pr) ((rwR wz).len (rwR pr)))
      refine hK.out _ _ (hM.out.at 1 rfl) (fun hH => ?_)
      clear hK K
      generalize World.setCells _ _ _ _ = W at hM hH ⊢
      try simp only [Act.put, p1, p2, p3]
      refine tk 8 rfl hH ?_
      simp only [Act.put, p1, p2, p3]
      refine wpAnyH_done (by kernel_rfl) ?_ _
      go_wp2_with fail
      go_meet
      case rel => exact ⟨bq2, rfl, rfl, (hM.out.pick [1, 0]).pickL []⟩
    refine rdc rfl (fun K hK => ?_) AllReadyH.nil
    go_simp
    replace hM := hid (hM.out.bornR rl_zero.symm 24 rfl)
    refine hK.out _ _ (hM.out.at 1 rfl) (fun hH => ?_)
    clear hK K
    generalize W.heap.size = bq2 at hM hH ⊢
    generalize World.alloc _ _ = W at hM hH  ⊢
    try simp only [Act.put, p1, p2, p3]
    refine rd1 1 rfl (fun K hK => ?_)
    go_simp
    refine (put_is 9 _).mono ?_
    rintro e W ⟨rfl, hb⟩
    replace hM := hid (hM.out.later hb)
    clear hb
    go_wp2_with fail
    refine hK.out _ _ (hM.out.at 1 rfl) (fun hH => ?_)
    clear hK K
    try simp only [Act.put, p1, p2, p3]
    refine rd1 2 rfl (fun K hK => ?_)
    go_simp
    refine (DO.out _).mono ?_
    rintro e W ⟨rfl, hb⟩
    replace hM := hid (hM.out.later hb)
    clear hb
    go_wp2_with fail
    refine hK.out _ _ (hM.out.at 1 rfl) (fun hH => ?_)
    clear hK K
    try simp only [Act.put, p1, p2, p3]
    refine tk 3 rfl hH ?_
    simp only [Act.put, p1, p2, p3]
    refine tk 4 rfl hH ?_
    simp only [Act.put, p1, p2, p3]
    refine tk 5 rfl hH ?_
    simp only [Act.put, p1, p2, p3]
    refine rd1 7 rfl (fun K hK => ?_)
    refine stR rfl (hM.out.at 0 rfl) ((rwR wz).len (rwR pr)) (rwR pr) ?_
    simp only [Act.put]
    replace hM := hid (hM.out.put 0 rfl (rl pr) ((rwR wz).len (rwR pr)))
    refine hK.out _ _ (hM.out.at 1 rfl) (fun hH => ?_)
    clear hK K
    generalize World.setCells _ _ _ _ = W at hM hH ⊢
    try simp only [Act.put, p1, p2, p3]
    refine tk 8 rfl hH ?_
    simp only [Act.put, p1, p2, p3]
    refine wpAnyH_done (by kernel_rfl) ?_ _
    go_wp2_with fail
    go_meet
    case rel => exact ⟨bq2, rfl, rfl, (hM.out.pick [1, 0]).pickL []⟩
  case rest =>
    obtain ⟨bz3, rfl, rfl, hM⟩ := hcut
    generalize wc = W at hM ⊢
    go_wp2_with (first
      | (refine lR rfl (hM.out.at 1 rfl) rfl (rwR pr) ?_))
    refine (AN.out _).mono ?_
    rintro e W ⟨rfl, hb⟩
    replace hM := hid (hM.out.later hb)
    clear hb
    obtain ⟨bx2, hbx2⟩ : ∃ q, q = W.heap.size := ⟨_, rfl⟩
    replace hM := hid (hM.out.born [.int .i64 0, .int .i64 0] 58 (b := bx2) hbx2)
    have Hbx2 : Hid _ := hbx2
    clear hbx2
    go_wp2_with (first
      | (rw [← Hbx2.out]; refine sR rfl (hM.out.at 0 rfl) rfl ((rwA 0 0).len (rwA 1 0)) (rwA 1 0) ?_
         replace hM := hid (hM.out.put 0 rfl [.int .i64 1, .int .i64 0] ((rwA 0 0).len (rwA 1 0)))
         generalize World.setCells _ _ _ _ = W at hM ⊢
         have c3 := hM.out.cell 0 0 rfl rfl
         have c4 := hM.out.cell 0 1 rfl rfl)
      | (refine lW rfl (hM.out.at 1 rfl) rfl (rwR zr) ?_))
    refine (RZ.out _).mono ?_
    rintro e W ⟨rfl, hb⟩
    replace hM := hid (hM.out.later hb)
    clear hb
    clear c3 c4
    go_wp2_with (first
      | (refine lW rfl (hM.out.at 2 rfl) rfl (rwR pr) ?_))
    refine (RP.out _).mono ?_
    rintro e W ⟨rfl, hb⟩
    replace hM := hid (hM.out.later hb)
    clear hb
    have c5 := hM.out.cell 0 0 rfl rfl
    have c6 := hM.out.cell 0 1 rfl rfl
    go_wp2_with (first
      | (refine lW rfl (hM.out.at 2 rfl) rfl (rwR pr) ?_))
    refine (TG.out _).mono ?_
    rintro e W ⟨rfl, hb⟩
    replace hM := hid (hM.out.later hb)
    clear hb
    clear c5 c6
    go_wp2_with (first
      | (refine lW rfl (hM.out.at 1 rfl) rfl (rwR zr) ?_))
    refine (TZ.out _).mono ?_
    rintro e W ⟨rfl, hb⟩
    replace hM := hid (hM.out.later hb)
    clear hb
    go_wp2
    go_ret
    exact ⟨rfl, hM.out.below⟩
end Go.Proofs.YteogbpaaacmllaaGreatDoor.Tab
