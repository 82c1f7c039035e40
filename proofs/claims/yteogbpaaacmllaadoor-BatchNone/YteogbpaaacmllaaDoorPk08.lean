/- Texts laid together: An error at a place (api.At), taken apart: errors.As at a target of type Errno, api.Tell, plain.Place, by their contracts; The library's handle, behind all that a call lays; Package batch: Do, by its contracts; The keepers batched, by its contract; The keepers recorded, by its contract; The keepers written, by its contract; Records are held against each other. -/
import Derived.Test.YteogbpaaacmllaaDoorPk07
import Derived.Test.YteogbpaaacmllaaDoorPk00
import Derived.Test.YteogbpaaacmllaaDoorPk04
import Derived.Deep.DeepCutAuto
import Derived.Deep.RegionHeld3
import Derived.Test.YteogbpaaacmllaaDoorPk03
import Derived.ChangeKeysEq
namespace Go.Proofs.YteogbpaaacmllaaDoor
set_option maxRecDepth 20000
open Go.RowKit Go.Extern.Stop Go.Stop Go.Extern

/-- An error at a place. -/
def atV (b : Nat) : Value := .iface 65 (.pointer (some ⟨b, 0, none⟩))
theorem At.typeOf (v : Value) (w : World) : (ReflectliteType.typeOf #[.iface 65 v]).run Tryd.prog w = .ok (.iface 123 (.agg #[.pointer (some ⟨1, 65, none⟩)])) w := by kernel_rfl
theorem At.assignable (w : World) : (ReflectliteType.relation "AssignableTo" ReflectliteType.assignableTo #[.agg #[.pointer (some ⟨1, 65, none⟩)], .iface 123 (.agg #[.pointer (some ⟨1, 38, none⟩)])]).run Tryd.prog w = .ok (.bool false) w := by kernel_rfl
theorem At.unwraps (v : Value) (w : World) : (Instr.typeAssert (.iface 65 v) 30 71 true).run Tryd.prog w = .ok (.tuple #[.iface 65 v, .bool true]) w :=
  run_typeAssert_hasB Tryd.underlying71 (by kernel_rfl) v _ w
theorem At.lacksAs (v : Value) (w : World) : (Instr.typeAssert (.iface 65 v) 30 128 true).run Tryd.prog w = .ok (.tuple #[.nilIface, .bool false]) w :=
  run_typeAssert_lacksB Tryd.underlying128 (by kernel_rfl) (by kernel_rfl) _ _ w
theorem At.methodUnwrap (h : Value) (w : World) : (Go.method 284 65 h "Unwrap").run Tryd.prog w = .ok (111, h) w := by kernel_rfl
theorem At.isAt (v : Value) (w : World) : (Instr.typeAssert (.iface 65 v) 30 65 true).run Tryd.prog w = .ok (.tuple #[v, .bool true]) w := by kernel_rfl
theorem At.unwrap (n : Int) (b : Nat) (w : World) (hc : w.cell? ⟨b, 0, none⟩ = some (.int .i64 n)) :
    Calls Tryd.prog 111 #[.pointer (some ⟨b, 0, none⟩)] w fun e w' => e = .returned (.iface 38 (.int .i64 n)) ∧ w' = w := by
  go_enter Tryd.func111, Tryd.ntmps111
  go_wp2
  go_ret
  exact ⟨rfl, rfl⟩
end Go.Proofs.YteogbpaaacmllaaDoor
namespace Go.Proofs.YteogbpaaacmllaaDoor
set_option maxRecDepth 20000
open Go.RowKit
theorem HandleAt.below {w a : World} (h : HandleAt w) (g : Below w.heap.size w a) : HandleAt a := by
  have h' : w.cell? ⟨0, 0, none⟩ = _ := h
  exact (g.cell (p := ⟨0, 0, none⟩) (size_of_cell' h')).trans h'
end Go.Proofs.YteogbpaaacmllaaDoor
namespace Go.Proofs.YteogbpaaacmllaaDoor.Tab
set_option maxRecDepth 20000
open Go.RowKit
set_option linter.unusedVariables false

/-- one, of an ask that is answered. -/
theorem one_ok {r : Nat → Nat} (U : ∀ j, j < 32 → r j < 18446744073709551616) {a : AK} (h : Oka r a) (w : World) :
    Calls Tryd.prog 24 #[.agg (rl r).toArray, .agg #[.int .i64 a.t, .int .i64 a.g, .int .i64 a.o, .int .i64 a.k, .int .i64 a.x]] w (fun e w' => ∃ u, e = .returned (.tuple #[.agg (rl (nx r a)).toArray, u, .nilIface]) ∧ Dn w' u (nd' r a) ∧ Below w.heap.size w w') := by
  obtain ⟨t, g, o, k, x⟩ := a
  obtain ⟨⟨⟨t0, t4⟩, hg⟩, h⟩ := h
  dsimp only at t0 t4 hg h ⊢
  obtain ⟨n, rfl⟩ : ∃ n : Nat, t = n := ⟨t.toNat, by omega⟩
  have hn : n < 4 := by omega
  rw [show ((n : Nat) : Int).toNat = n from rfl] at h
  by_cases hs : g = (bt r n : Nat)
  · rw [nx_shut (a := ⟨(n : Nat), g, o, k, x⟩) hs, nd_shut (a := ⟨(n : Nat), g, o, k, x⟩) hs]
    exact (one_shut U hn hg o k x hs w).mono fun e w' ⟨he, hb⟩ => ⟨_, he, Or.inl ⟨rfl, rfl⟩, hb⟩
  · rw [nx_open (a := ⟨(n : Nat), g, o, k, x⟩) hs, nd_open (a := ⟨(n : Nat), g, o, k, x⟩) hs]
    obtain ⟨hr, hR⟩ := h.resolve_left hs
    exact (one_yes U hn hg hs hr hR w).mono fun e w' ⟨b, he, _, hB, hb⟩ => ⟨_, he, Or.inr ⟨b, _, rfl, rfl, hB⟩, hb⟩
/-- one, of an ask that is not. -/
theorem one_err {r : Nat → Nat} (U : ∀ j, j < 32 → r j < 18446744073709551616) {a : AK} {ev : Int} (h : Bad r a ev) : ∃ s, ∀ w : World,
    Calls Tryd.prog 24 #[.agg (rl r).toArray, .agg #[.int .i64 a.t, .int .i64 a.g, .int .i64 a.o, .int .i64 a.k, .int .i64 a.x]] w (fun e w' => e = .returned (.tuple #[.agg (rl s).toArray, .slice none 0 0, .iface 38 (.int .i64 ev)]) ∧ Below w.heap.size w w') := by
  obtain ⟨t, g, o, k, x⟩ := a
  rcases h with ⟨ht, rfl⟩ | ⟨⟨t0, t4⟩, hg, rfl⟩ | ⟨⟨⟨t0, t4⟩, hg⟩, hs, hn, rfl⟩
  · exact ⟨r, fun w => one_bad (fun w => open_range r ht g o k x w) w⟩
  · exact ⟨r, fun w => one_bad (fun w => open_arg r t0 t4 hg o k x w) w⟩
  · dsimp only at t0 t4 hg hs hn ⊢
    obtain ⟨n, rfl⟩ : ∃ n : Nat, t = n := ⟨t.toNat, by omega⟩
    exact ⟨wz, fun w => one_not U (by omega) hg hs hn w⟩
theorem st_u64 {r : Nat → Nat} (hr : isRec r) {q : Nat → AK} : ∀ {i}, (∀ j, j < i → Oka (st r q j) (q j)) → ∀ j, j < 32 → st r q i j < 18446744073709551616
  | 0, _ => hr.u64
  | i + 1, h => by
    have ho := h i (Nat.lt_succ_self i)
    have ih := st_u64 hr (i := i) fun j hj => h j (Nat.lt_succ_of_lt hj)
    show ∀ j, j < 32 → nx (st r q i) (q i) j < 18446744073709551616
    by_cases hs : (q i).g = (bt (st r q i) (q i).t.toNat : Nat)
    · rw [nx_shut hs]; exact ih
    · rw [nx_open hs]
      obtain ⟨h1, h2⟩ := ho.2.resolve_left hs
      exact rdo_u h1 h2 (by have := ho.1.1; omega)
theorem st_27 {r : Nat → Nat} (hr : isRec r) {q : Nat → AK} : ∀ {i}, (∀ j, j < i → Oka (st r q j) (q j)) → st r q i 27 < 18446744073709551615
  | 0, _ => by have := hr.2.2.2.2.2.1; show r 27 < _; omega
  | i + 1, h => by
    have ho := h i (Nat.lt_succ_self i)
    have ih := st_27 hr (i := i) fun j hj => h j (Nat.lt_succ_of_lt hj)
    show nx (st r q i) (q i) 27 < 18446744073709551615
    by_cases hs : (q i).g = (bt (st r q i) (q i).t.toNat : Nat)
    · rw [nx_shut hs]; exact ih
    · rw [nx_open hs, rdo_27 (by have := ho.1.1; omega)]; exact ih
set_option maxHeartbeats 2000000 in
theorem do_not {r : Nat → Nat} (U : ∀ j, j < 32 → r j < 18446744073709551616) (h : ¬ isRec r) (a : Option Addr) (m c : Nat) (w : World) :
    Calls Tryd.prog 13 #[.agg (rl r).toArray, .slice a m c] w (fun e w' => e = .returned (.tuple #[.agg (rl wz).toArray, .slice none 0 0, .iface 38 (.int .i64 1)]) ∧ Below w.heap.size w w') := by
  have RI : Hid (∀ w : World, _) := recRight_is U (v := false) ⟨fun e => (by cases e), fun e => absurd e h⟩
  clear h U
  have hM : Hid _ := (((Ms.nil w).born (rl r) 24 (b := w.heap.size) rfl).bornR rl_zero.symm 24 (b := w.heap.size + 1) (by simp))
  go_enter Tryd.func13, Tryd.ntmps13
  go_wp2_with (first
    | (refine lR rfl (hM.out.at 1 rfl) rfl (rwR r) ?_))
  generalize World.alloc _ _ = W at hM ⊢
  generalize hsz : w.heap.size = n at hM ⊢
  clear hsz
  refine (RI.out _).mono ?_
  rintro e W ⟨rfl, hb⟩
  replace hM := hid (hM.out.later hb)
  clear hb
  go_wp2_with (first
    | (refine sR rfl (hM.out.at 0 rfl) rfl ((rwR wz).len (rwR wz)) (rwR wz) ?_
       replace hM := hid (hM.out.put 0 rfl (rl wz) ((rwR wz).len (rwR wz)))
       generalize World.setCells _ _ _ _ = W at hM ⊢))
  exact bodyPost_ret (res1ss Tryd.results13 (hM.out.at 0 rfl) (rwR wz) (.slice none 0 0) (.iface 38 (.int .i64 1))) rfl ⟨rfl, hM.out.below⟩
set_option maxHeartbeats 4000000 in
theorem do_nil {r : Nat → Nat} (hr : isRec r) (w : World) :
    Calls Tryd.prog 13 #[.agg (rl r).toArray, .slice none 0 0] w (fun e w' => e = .returned (.tuple #[.agg (rl (bump r)).toArray, .slice none 0 0, .nilIface]) ∧ Below w.heap.size w w') := by
  have V27 : Hid (r 27 < 18446744073709551615) := hid (by have := hr.2.2.2.2.2.1; omega)
  have RI : Hid (∀ w : World, _) := recRight_is hr.u64 (v := true) ⟨fun _ => hr, fun _ => rfl⟩
  have hM : Hid _ := (((Ms.nil w).born (rl r) 24 (b := w.heap.size) rfl).bornR rl_zero.symm 24 (b := w.heap.size + 1) (by simp))
  go_enter Tryd.func13, Tryd.ntmps13
  go_wp2_with (first
    | (refine lR rfl (hM.out.at 1 rfl) rfl (rwR r) ?_))
  generalize World.alloc _ _ = W at hM ⊢
  generalize hsz : w.heap.size = n0 at hM ⊢
  have HSZ : Hid _ := hsz
  clear hsz
  refine (RI.out _).mono ?_
  rintro e W ⟨rfl, hb⟩
  replace hM := hid (hM.out.later hb)
  clear hb
  go_wp2_with fail
  clear hr
  go_loopg [7, 20] 0 (fun gg s7 s20 wt => wt = W ∧ s7 = .slice none 0 0 ∧ s20 = .int .i64 0)
  case atStart => exact ⟨rfl, rfl, rfl⟩
  case round =>
    obtain ⟨hw, rfl, rfl⟩ := hrel
    rw [hw]; clear hw wr
    obtain ⟨vn, hvn⟩ : ∃ v, v = r 27 := ⟨_, rfl⟩
    have w27 : IntKind.u64.wrap ((vn : Int) + 1) = ((vn + 1 : Nat) : Int) := by rw [IntKind.wrap_u64]; have := V27.out; omega
    obtain ⟨v1, hv1⟩ : ∃ v, v = vn + 1 := ⟨_, rfl⟩
    rw [← hv1] at w27
    have HB : Hid (rl (upw r 27 v1) = rl (bump r)) := by rw [hv1, hvn]; rfl
    have x1 := (hM.out.at 1 rfl).rwordx (show 27 < 32 by decide) hvn.symm
    clear hvn hv1
    go_wp2_with (first
      | (refine s1 rfl (hM.out.at 1 rfl) 27 rfl (.int .u64 (v1 : Nat)) rfl sz_u ?_ (by rw [rl_length]; decide)
         replace hM := hid (hM.out.put1 1 27 rfl (.int .u64 (v1 : Nat)) (rl (upw r 27 v1)) (by rw [rl_length]; decide) (rl_set _ _ (by decide)))
         generalize World.setCell _ _ _ = W at hM ⊢
         clear x1)
      | (refine lR rfl (hM.out.at 1 rfl) rfl (rwR (upw r 27 v1)) ?_)
      | (refine sR rfl (hM.out.at 0 rfl) rfl ((rwR wz).len (rwR (upw r 27 v1))) (rwR (upw r 27 v1)) ?_
         replace hM := hid (hM.out.put 0 rfl (rl (upw r 27 v1)) ((rwR wz).len (rwR (upw r 27 v1))))
         generalize World.setCells _ _ _ _ = W at hM ⊢))
    exact bodyPost_ret (res1ss Tryd.results13 (hM.out.at 0 rfl) (rwR (upw r 27 v1)) (.slice none 0 0) (.nilIface)) rfl ⟨by rw [HB.out], hM.out.below⟩
set_option maxHeartbeats 4000000 in
theorem do_none {r : Nat → Nat} (hr : isRec r) (a : Addr) (c : Nat) (w : World) :
    Calls Tryd.prog 13 #[.agg (rl r).toArray, .slice (some a) 0 c] w (fun e w' => e = .returned (.tuple #[.agg (rl (bump r)).toArray, .slice none 0 0, .nilIface]) ∧ Below w.heap.size w w') := by
  have V27 : Hid (r 27 < 18446744073709551615) := hid (by have := hr.2.2.2.2.2.1; omega)
  have RI : Hid (∀ w : World, _) := recRight_is hr.u64 (v := true) ⟨fun _ => hr, fun _ => rfl⟩
  have hM : Hid _ := (((Ms.nil w).born (rl r) 24 (b := w.heap.size) rfl).bornR rl_zero.symm 24 (b := w.heap.size + 1) (by simp))
  go_enter Tryd.func13, Tryd.ntmps13
  go_wp2_with (first
    | (refine lR rfl (hM.out.at 1 rfl) rfl (rwR r) ?_))
  generalize World.alloc _ _ = W at hM ⊢
  generalize hsz : w.heap.size = n0 at hM ⊢
  have HSZ : Hid _ := hsz
  clear hsz
  refine (RI.out _).mono ?_
  rintro e W ⟨rfl, hb⟩
  replace hM := hid (hM.out.later hb)
  clear hb
  go_wp2_with fail
  clear hr
  go_loopg [7, 20] 0 (fun gg s7 s20 wt => wt = W ∧ s7 = .slice none 0 0 ∧ s20 = .int .i64 0)
  case atStart => exact ⟨rfl, rfl, rfl⟩
  case round =>
    obtain ⟨hw, rfl, rfl⟩ := hrel
    rw [hw]; clear hw wr
    obtain ⟨vn, hvn⟩ : ∃ v, v = r 27 := ⟨_, rfl⟩
    have w27 : IntKind.u64.wrap ((vn : Int) + 1) = ((vn + 1 : Nat) : Int) := by rw [IntKind.wrap_u64]; have := V27.out; omega
    obtain ⟨v1, hv1⟩ : ∃ v, v = vn + 1 := ⟨_, rfl⟩
    rw [← hv1] at w27
    have HB : Hid (rl (upw r 27 v1) = rl (bump r)) := by rw [hv1, hvn]; rfl
    have x1 := (hM.out.at 1 rfl).rwordx (show 27 < 32 by decide) hvn.symm
    clear hvn hv1
    go_wp2_with (first
      | (refine s1 rfl (hM.out.at 1 rfl) 27 rfl (.int .u64 (v1 : Nat)) rfl sz_u ?_ (by rw [rl_length]; decide)
         replace hM := hid (hM.out.put1 1 27 rfl (.int .u64 (v1 : Nat)) (rl (upw r 27 v1)) (by rw [rl_length]; decide) (rl_set _ _ (by decide)))
         generalize World.setCell _ _ _ = W at hM ⊢
         clear x1)
      | (refine lR rfl (hM.out.at 1 rfl) rfl (rwR (upw r 27 v1)) ?_)
      | (refine sR rfl (hM.out.at 0 rfl) rfl ((rwR wz).len (rwR (upw r 27 v1))) (rwR (upw r 27 v1)) ?_
         replace hM := hid (hM.out.put 0 rfl (rl (upw r 27 v1)) ((rwR wz).len (rwR (upw r 27 v1))))
         generalize World.setCells _ _ _ _ = W at hM ⊢))
    exact bodyPost_ret (res1ss Tryd.results13 (hM.out.at 0 rfl) (rwR (upw r 27 v1)) (.slice none 0 0) (.nilIface)) rfl ⟨by rw [HB.out], hM.out.below⟩
set_option maxHeartbeats 16000000 in
theorem do_some {r : Nat → Nat} (hr : isRec r) {b off c n m : Nat} {q : Nat → AK} (h0 : 0 < n) (hc : n ≤ c) (hn : n ≤ 1000000) (hm : m = n) (hO : ∀ j, j < m → Oka (st r q j) (q j)) (w : World) (D : Aq w (.slice (some ⟨b, off, none⟩) n c) n q) :
    Calls Tryd.prog 13 #[.agg (rl r).toArray, .slice (some ⟨b, off, none⟩) n c] w (fun e w' => ∃ B v', w.heap.size ≤ B ∧ e = .returned (.tuple #[.agg (rl (bump (st r q m))).toArray, v', .nilIface]) ∧ Odd B w' v' (dn r q m) ∧ Below w.heap.size w w') := by
  have HE : Hid _ := hid D.all
  clear D
  have HU : Hid (∀ i, i ≤ m → ∀ j, j < 32 → st r q i j < 18446744073709551616) := fun i hi => st_u64 hr fun j hj => hO j (by omega)
  have HO : Hid _ := hO
  have HC : Hid (n ≤ c ∧ n ≤ 1000000 ∧ m ≤ n) := ⟨hc, hn, by omega⟩
  have V27 : Hid (st r q m 27 < 18446744073709551615) := hid (st_27 hr hO)
  have HM : Hid (m = n) := hm
  clear hO
  have RI : Hid (∀ w : World, _) := recRight_is hr.u64 (v := true) ⟨fun _ => hr, fun _ => rfl⟩
  have hM : Hid _ := (((Ms.nil w).born (rl r) 24 (b := w.heap.size) rfl).bornR rl_zero.symm 24 (b := w.heap.size + 1) (by simp))
  go_enter Tryd.func13, Tryd.ntmps13
  go_wp2_with (first
    | (refine lR rfl (hM.out.at 1 rfl) rfl (rwR r) ?_))
  generalize World.alloc _ _ = W at hM ⊢
  generalize hsz : w.heap.size = n0 at hM ⊢
  have HSZ : Hid _ := hsz
  clear hsz
  refine (RI.out _).mono ?_
  rintro e W ⟨rfl, hb⟩
  replace hM := hid (hM.out.later hb)
  clear hb
  go_wp2_with fail
  clear hr hc h0 hn hm
  go_loopg [7, 20] m (fun gg s7 s20 wt => ∃ i : Nat, i ≤ m ∧ m - i ≤ gg ∧ s20 = .int .i64 i ∧ Hid (Odd (n0 + 2) wt s7 (dn r q i)) ∧ Hid (Ms n0 w wt [(n0, rl (st r q i)), (n0 + 1, rl wz)] []))
  case atStart => exact ⟨0, by omega, by omega, rfl, Odd.nil _ _, hM.out.pick [1, 0]⟩
  case round =>
    clear hM
    obtain ⟨i, hi, hgg, rfl, hO, hM⟩ := hrel
    obtain ⟨W, rfl⟩ : ∃ q, q = wr := ⟨_, rfl⟩
    by_cases hlt : i < m
    · have hi1 : (i : Int) < (n : Int) := by have := HC.out; omega
      have hi0 : (0 : Int) ≤ (i : Int) := by omega
      obtain ⟨t, g, o, k, x, hq, hr⟩ := HE.out W hM.out.below i (by have := HC.out; omega)
      have RA : Hid _ := hr
      clear hr
      have ONE := one_ok (HU.out i (by omega)) (HO.out i hlt)
      rw [hq] at ONE
      have e1 : st r q (i + 1) = nx (st r q i) ⟨t, g, o, k, x⟩ := by show nx (st r q i) (q i) = _; rw [hq]
      have e2 : dn r q (i + 1) = dn r q i ++ nd' (st r q i) ⟨t, g, o, k, x⟩ := by show dn r q i ++ nd' (st r q i) (q i) = _; rw [hq]
      have HL : Hid ((dn r q i).length ≤ 1000000) := hid (by have := dn_length r q i; have := HC.out; omega)
      obtain ⟨si, hsi⟩ : ∃ c, c = st r q i := ⟨_, rfl⟩
      obtain ⟨li, hli⟩ : ∃ c, c = dn r q i := ⟨_, rfl⟩
      obtain ⟨sn, hsn⟩ : ∃ c, c = st r q (i + 1) := ⟨_, rfl⟩
      obtain ⟨mi, hmi⟩ : ∃ c, c = nd' (st r q i) ⟨t, g, o, k, x⟩ := ⟨_, rfl⟩
      rw [← hsn] at e1
      rw [← hmi, ← hli] at e2
      rw [← e1, ← hmi, ← hsi] at ONE
      rw [← hsi] at hM
      rw [← hli] at hO HL
      have HSN : Hid _ := hsn
      have HE2 : Hid _ := e2
      have ON : Hid _ := ONE
      clear ONE e1 e2 hsi hli hsn hmi hq
      have hOl : Hid (∀ g, u7.ownBlock = some g → g < W.heap.size) := fun g hg => (hO.out.lt g hg).2
      replace hO := hid (hO.out.new (.cells #[.int .i64 0, .int .i64 0, .int .i64 0, .int .i64 0, .int .i64 0] 33))
      obtain ⟨ba, hba⟩ : ∃ q, q = W.heap.size := ⟨_, rfl⟩
      have HBA : Hid _ := hba
      clear hba
      go_wp2_with (first
        | (refine lO rfl RA.out rfl (rwAk t g o k x) ?_)
        | (rw [← HBA.out]
           replace hM := hid (hM.out.born [.int .i64 0, .int .i64 0, .int .i64 0, .int .i64 0, .int .i64 0] 33 HBA.out)
           refine sR rfl (hM.out.at 0 rfl) rfl ((rwAk 0 0 0 0 0).len (rwAk t g o k x)) (rwAk t g o k x) ?_
           replace hO := hid (hO.out.asideL (c := ba) (fun g hg => by have := hOl.out g hg; have := HBA.out; omega) 0 [.int .i64 t, .int .i64 g, .int .i64 o, .int .i64 k, .int .i64 x])
           replace hM := hid (hM.out.put 0 rfl [.int .i64 t, .int .i64 g, .int .i64 o, .int .i64 k, .int .i64 x] ((rwAk 0 0 0 0 0).len (rwAk t g o k x)))
           generalize World.setCells _ _ _ _ = W at hM hO ⊢)
        | (refine lR rfl (hM.out.at 1 rfl) rfl (rwR si) ?_)
        | (refine lR rfl (hM.out.at 0 rfl) rfl (rwAk t g o k x) ?_))
      refine (ON.out _).mono ?_
      rintro e W ⟨u, rfl, hD, hb⟩
      replace hO := hid (hO.out.later hb)
      replace hD := hid hD
      replace hM := hid (hM.out.later hb)
      clear hb
      have hOl : Hid (∀ g, u7.ownBlock = some g → g < W.heap.size) := fun g hg => (hO.out.lt g hg).2
      have hDl : Hid (∀ g, u.ownBlock = some g → g < W.heap.size) := fun g hg => hD.out.lt g hg
      replace hO := hid (hO.out.new (.cells #[.int .u64 0, .int .u64 0, .int .u64 0, .int .u64 0, .int .u64 0, .int .u64 0, .int .u64 0, .int .u64 0, .int .u64 0, .int .u64 0, .int .u64 0, .int .u64 0, .int .u64 0, .int .u64 0, .int .u64 0, .int .u64 0, .int .u64 0, .int .u64 0, .int .u64 0, .int .u64 0, .int .u64 0, .int .u64 0, .int .u64 0, .int .u64 0, .int .u64 0, .int .u64 0, .int .u64 0, .int .u64 0, .int .u64 0, .int .u64 0, .int .u64 0, .int .u64 0] 24))
      replace hD := hid (hD.out.new (.cells #[.int .u64 0, .int .u64 0, .int .u64 0, .int .u64 0, .int .u64 0, .int .u64 0, .int .u64 0, .int .u64 0, .int .u64 0, .int .u64 0, .int .u64 0, .int .u64 0, .int .u64 0, .int .u64 0, .int .u64 0, .int .u64 0, .int .u64 0, .int .u64 0, .int .u64 0, .int .u64 0, .int .u64 0, .int .u64 0, .int .u64 0, .int .u64 0, .int .u64 0, .int .u64 0, .int .u64 0, .int .u64 0, .int .u64 0, .int .u64 0, .int .u64 0, .int .u64 0] 24))
      obtain ⟨bx1, hbx1⟩ : ∃ q, q = W.heap.size := ⟨_, rfl⟩
      replace hM := hid (hM.out.bornR rl_zero.symm 24 (b := bx1) hbx1)
      have Hbx1 : Hid _ := hbx1
      clear hbx1
      go_wp2_with (first
        | (rw [← Hbx1.out]; refine sR rfl (hM.out.at 0 rfl) rfl ((rwR wz).len (rwR sn)) (rwR sn) ?_
           replace hO := hid (hO.out.asideL (c := bx1) (fun g hg => by have := hOl.out g hg; have := Hbx1.out; omega) 0 (rl sn))
           replace hD := hid (hD.out.asideL (c := bx1) (fun g hg => by have := hDl.out g hg; have := Hbx1.out; omega) 0 (rl sn))
           replace hM := hid (hM.out.put 0 rfl (rl sn) ((rwR wz).len (rwR sn)))
           generalize World.setCells _ _ _ _ = W at hM hO hD ⊢))
      have HXO : Hid (∀ g, u7.ownBlock = some g → g < bx1) := fun g hg => by have := hOl.out g hg; have := Hbx1.out; omega
      clear hOl hDl
      replace hM := hid (hM.out.drew)
      replace hO := hid (hO.out.drew)
      replace hD := hid (hD.out.drew)
      refine wp_region_held_drew (S := fun w' => Bo w' bx1 (rl sn)) (by kernel_rfl) (hM.out.at 0 rfl) (fun hH => ?_)
      generalize World.drew _ = W at hM hH hO hD ⊢
      refine tkR 0 rfl hH (fun _ h => h) (rwR sn) ?_
      simp only [Act.put, p1, p2, p3]
      refine tk 1 rfl hH ?_
      simp only [Act.put, p1, p2, p3]
      refine tk 2 rfl hH ?_
      simp only [Act.put, p1, p2, p3]
      refine rd1 3 rfl (fun K hK => ?_)
      obtain ⟨v9, w9, hr9, hO9, hg9⟩ := hO.out.app (Nat.le_trans (Nat.succ_le_of_lt (hM.out.len 3 rfl)) (Nat.le_refl _)) hD.out HL.out 41
      refine apK rfl hr9 ?_
      replace hM := hid ((hM.out.pick [0, 2, 3]).grown hg9 (fun g hg => ⟨Nat.le_trans (by omega) (hO.out.lt g hg).1, by have h1 := (hO.out.lt g hg).1; have h2 := HXO.out g hg; intro hmem; simp at hmem; rcases hmem with rfl | rfl | rfl <;> omega⟩))
      replace hO := hid hO9
      clear hr9 hO9 hg9 hD
      refine hK.out _ _ (hM.out.at 0 rfl) (fun hH => ?_)
      clear hK K
      generalize w9 = W at hM hH hO ⊢
      try simp only [Act.put, p1, p2, p3]
      refine rd1 4 rfl (fun K hK => ?_)
      refine stR rfl (hM.out.at 1 rfl) ((rwR si).len (rwR sn)) (rwR sn) ?_
      simp only [Act.put]
      replace hO := hid (hO.out.aside (show n0 < n0 + 2 by omega) 0 (rl sn))
      replace hM := hid (hM.out.put 1 rfl (rl sn) ((rwR si).len (rwR sn)))
      refine hK.out _ _ (hM.out.at 0 rfl) (fun hH => ?_)
      clear hK K
      generalize World.setCells _ _ _ _ = W at hM hH hO ⊢
      try simp only [Act.put, p1, p2, p3]
      refine tk 5 rfl hH ?_
      simp only [Act.put, p1, p2, p3]
      refine wpAnyH_done (by kernel_rfl) ?_ _
      go_wp2_with fail
      go_roundg (m - (i + 1))
      case measure => omega
      case rel => exact ⟨i + 1, by omega, by omega, by have := HC.out; have hw : wrap64 ((i : Int) + 1) = ((i + 1 : Nat) : Int) := (by unfold wrap64; omega); rw [hw], by rw [HE2.out]; exact hO, by rw [← HSN.out]; exact hM.out.pick [1, 2]⟩
    · obtain rfl : i = m := by omega
      have hi1 : ¬ (i : Int) < (n : Int) := by have := HM.out; omega
      obtain ⟨si, hsi⟩ : ∃ c, c = st r q i := ⟨_, rfl⟩
      rw [← hsi] at hM V27
      have HSI : Hid _ := hsi
      clear hsi
      obtain ⟨vn, hvn⟩ : ∃ v, v = si 27 := ⟨_, rfl⟩
      have w27 : IntKind.u64.wrap ((vn : Int) + 1) = ((vn + 1 : Nat) : Int) := by rw [IntKind.wrap_u64]; have := V27.out; omega
      obtain ⟨v1, hv1⟩ : ∃ v, v = vn + 1 := ⟨_, rfl⟩
      rw [← hv1] at w27
      have HB : Hid (rl (upw si 27 v1) = rl (bump si)) := by rw [hv1, hvn]; rfl
      have x1 := (hM.out.at 0 rfl).rwordx (show 27 < 32 by decide) hvn.symm
      clear hvn hv1
      go_wp2_with (first
        | (refine s1 rfl (hM.out.at 0 rfl) 27 rfl (.int .u64 (v1 : Nat)) rfl sz_u ?_ (by rw [rl_length]; decide)
           replace hM := hid (hM.out.put1 0 27 rfl (.int .u64 (v1 : Nat)) (rl (upw si 27 v1)) (by rw [rl_length]; decide) (rl_set _ _ (by decide)))
           replace hO := hid (hO.out.aside1 (show n0 < n0 + 2 by omega) 27 (.int .u64 (v1 : Nat)))
           generalize World.setCell _ _ _ = W at hM hO ⊢
           clear x1)
        | (refine lR rfl (hM.out.at 0 rfl) rfl (rwR (upw si 27 v1)) ?_)
        | (refine sR rfl (hM.out.at 1 rfl) rfl ((rwR wz).len (rwR (upw si 27 v1))) (rwR (upw si 27 v1)) ?_
           replace hM := hid (hM.out.put 1 rfl (rl (upw si 27 v1)) ((rwR wz).len (rwR (upw si 27 v1))))
           replace hO := hid (hO.out.aside (show n0 + 1 < n0 + 2 by omega) 0 (rl (upw si 27 v1)))
           generalize World.setCells _ _ _ _ = W at hM hO ⊢))
      exact bodyPost_ret (res1ss Tryd.results13 (hM.out.at 1 rfl) (rwR (upw si 27 v1)) u7 (.nilIface)) rfl ⟨n0 + 2, by rw [HSZ.out]; omega, u7, by rw [HB.out, HSI.out], hO.out, hM.out.below⟩
set_option maxHeartbeats 16000000 in
theorem do_bad {r : Nat → Nat} (hr : isRec r) {b off c n m : Nat} {q : Nat → AK} (h0 : 0 < n) (hc : n ≤ c) (hn : n ≤ 1000000) {ev : Int} (hm : m < n) (hO : ∀ j, j < m → Oka (st r q j) (q j)) (hB : Bad (st r q m) (q m) ev) (w : World) (D : Aq w (.slice (some ⟨b, off, none⟩) n c) n q) (hT : HandleAt w) :
    Calls Tryd.prog 13 #[.agg (rl r).toArray, .slice (some ⟨b, off, none⟩) n c] w (fun e w' => ∃ b, e = .returned (.tuple #[.agg (rl wz).toArray, .slice none 0 0, atV b]) ∧ w.heap.size ≤ b ∧ Bo w' b [.int .i64 ev, .int .i64 (m : Nat)] ∧ Below w.heap.size w w') := by
  have HE : Hid _ := hid D.all
  clear D
  have HU : Hid (∀ i, i ≤ m → ∀ j, j < 32 → st r q i j < 18446744073709551616) := fun i hi => st_u64 hr fun j hj => hO j (by omega)
  have HO : Hid _ := hO
  have HC : Hid (n ≤ c ∧ n ≤ 1000000 ∧ m ≤ n) := ⟨hc, hn, by omega⟩
  have HT : Hid (HandleAt w) := hT
  have HB : Hid _ := hB
  clear hT hB
  clear hO
  have RI : Hid (∀ w : World, _) := recRight_is hr.u64 (v := true) ⟨fun _ => hr, fun _ => rfl⟩
  have hM : Hid _ := (((Ms.nil w).born (rl r) 24 (b := w.heap.size) rfl).bornR rl_zero.symm 24 (b := w.heap.size + 1) (by simp))
  go_enter Tryd.func13, Tryd.ntmps13
  go_wp2_with (first
    | (refine lR rfl (hM.out.at 1 rfl) rfl (rwR r) ?_))
  generalize World.alloc _ _ = W at hM ⊢
  generalize hsz : w.heap.size = n0 at hM ⊢
  have HSZ : Hid _ := hsz
  clear hsz
  refine (RI.out _).mono ?_
  rintro e W ⟨rfl, hb⟩
  replace hM := hid (hM.out.later hb)
  clear hb
  go_wp2_with fail
  clear hr hc h0 hn
  go_loopg [7, 20] m (fun gg s7 s20 wt => ∃ i : Nat, i ≤ m ∧ m - i ≤ gg ∧ s20 = .int .i64 i ∧ Hid (Odd (n0 + 2) wt s7 (dn r q i)) ∧ Hid (Ms n0 w wt [(n0, rl (st r q i)), (n0 + 1, rl wz)] []))
  case atStart => exact ⟨0, by omega, by omega, rfl, Odd.nil _ _, hM.out.pick [1, 0]⟩
  case round =>
    clear hM
    obtain ⟨i, hi, hgg, rfl, hO, hM⟩ := hrel
    obtain ⟨W, rfl⟩ : ∃ q, q = wr := ⟨_, rfl⟩
    by_cases hlt : i < m
    · have hi1 : (i : Int) < (n : Int) := by have := HC.out; omega
      have hi0 : (0 : Int) ≤ (i : Int) := by omega
      obtain ⟨t, g, o, k, x, hq, hr⟩ := HE.out W hM.out.below i (by have := HC.out; omega)
      have RA : Hid _ := hr
      clear hr
      have ONE := one_ok (HU.out i (by omega)) (HO.out i hlt)
      rw [hq] at ONE
      have e1 : st r q (i + 1) = nx (st r q i) ⟨t, g, o, k, x⟩ := by show nx (st r q i) (q i) = _; rw [hq]
      have e2 : dn r q (i + 1) = dn r q i ++ nd' (st r q i) ⟨t, g, o, k, x⟩ := by show dn r q i ++ nd' (st r q i) (q i) = _; rw [hq]
      have HL : Hid ((dn r q i).length ≤ 1000000) := hid (by have := dn_length r q i; have := HC.out; omega)
      obtain ⟨si, hsi⟩ : ∃ c, c = st r q i := ⟨_, rfl⟩
      obtain ⟨li, hli⟩ : ∃ c, c = dn r q i := ⟨_, rfl⟩
      obtain ⟨sn, hsn⟩ : ∃ c, c = st r q (i + 1) := ⟨_, rfl⟩
      obtain ⟨mi, hmi⟩ : ∃ c, c = nd' (st r q i) ⟨t, g, o, k, x⟩ := ⟨_, rfl⟩
      rw [← hsn] at e1
      rw [← hmi, ← hli] at e2
      rw [← e1, ← hmi, ← hsi] at ONE
      rw [← hsi] at hM
      rw [← hli] at hO HL
      have HSN : Hid _ := hsn
      have HE2 : Hid _ := e2
      have ON : Hid _ := ONE
      clear ONE e1 e2 hsi hli hsn hmi hq
      have hOl : Hid (∀ g, u7.ownBlock = some g → g < W.heap.size) := fun g hg => (hO.out.lt g hg).2
      replace hO := hid (hO.out.new (.cells #[.int .i64 0, .int .i64 0, .int .i64 0, .int .i64 0, .int .i64 0] 33))
      obtain ⟨ba, hba⟩ : ∃ q, q = W.heap.size := ⟨_, rfl⟩
      have HBA : Hid _ := hba
      clear hba
      go_wp2_with (first
        | (refine lO rfl RA.out rfl (rwAk t g o k x) ?_)
        | (rw [← HBA.out]
           replace hM := hid (hM.out.born [.int .i64 0, .int .i64 0, .int .i64 0, .int .i64 0, .int .i64 0] 33 HBA.out)
           refine sR rfl (hM.out.at 0 rfl) rfl ((rwAk 0 0 0 0 0).len (rwAk t g o k x)) (rwAk t g o k x) ?_
           replace hO := hid (hO.out.asideL (c := ba) (fun g hg => by have := hOl.out g hg; have := HBA.out; omega) 0 [.int .i64 t, .int .i64 g, .int .i64 o, .int .i64 k, .int .i64 x])
           replace hM := hid (hM.out.put 0 rfl [.int .i64 t, .int .i64 g, .int .i64 o, .int .i64 k, .int .i64 x] ((rwAk 0 0 0 0 0).len (rwAk t g o k x)))
           generalize World.setCells _ _ _ _ = W at hM hO ⊢)
        | (refine lR rfl (hM.out.at 1 rfl) rfl (rwR si) ?_)
        | (refine lR rfl (hM.out.at 0 rfl) rfl (rwAk t g o k x) ?_))
      refine (ON.out _).mono ?_
      rintro e W ⟨u, rfl, hD, hb⟩
      replace hO := hid (hO.out.later hb)
      replace hD := hid hD
      replace hM := hid (hM.out.later hb)
      clear hb
      have hOl : Hid (∀ g, u7.ownBlock = some g → g < W.heap.size) := fun g hg => (hO.out.lt g hg).2
      have hDl : Hid (∀ g, u.ownBlock = some g → g < W.heap.size) := fun g hg => hD.out.lt g hg
      replace hO := hid (hO.out.new (.cells #[.int .u64 0, .int .u64 0, .int .u64 0, .int .u64 0, .int .u64 0, .int .u64 0, .int .u64 0, .int .u64 0, .int .u64 0, .int .u64 0, .int .u64 0, .int .u64 0, .int .u64 0, .int .u64 0, .int .u64 0, .int .u64 0, .int .u64 0, .int .u64 0, .int .u64 0, .int .u64 0, .int .u64 0, .int .u64 0, .int .u64 0, .int .u64 0, .int .u64 0, .int .u64 0, .int .u64 0, .int .u64 0, .int .u64 0, .int .u64 0, .int .u64 0, .int .u64 0] 24))
      replace hD := hid (hD.out.new (.cells #[.int .u64 0, .int .u64 0, .int .u64 0, .int .u64 0, .int .u64 0, .int .u64 0, .int .u64 0, .int .u64 0, .int .u64 0, .int .u64 0, .int .u64 0, .int .u64 0, .int .u64 0, .int .u64 0, .int .u64 0, .int .u64 0, .int .u64 0, .int .u64 0, .int .u64 0, .int .u64 0, .int .u64 0, .int .u64 0, .int .u64 0, .int .u64 0, .int .u64 0, .int .u64 0, .int .u64 0, .int .u64 0, .int .u64 0, .int .u64 0, .int .u64 0, .int .u64 0] 24))
      obtain ⟨bx1, hbx1⟩ : ∃ q, q = W.heap.size := ⟨_, rfl⟩
      replace hM := hid (hM.out.bornR rl_zero.symm 24 (b := bx1) hbx1)
      have Hbx1 : Hid _ := hbx1
      clear hbx1
      go_wp2_with (first
        | (rw [← Hbx1.out]; refine sR rfl (hM.out.at 0 rfl) rfl ((rwR wz).len (rwR sn)) (rwR sn) ?_
           replace hO := hid (hO.out.asideL (c := bx1) (fun g hg => by have := hOl.out g hg; have := Hbx1.out; omega) 0 (rl sn))
           replace hD := hid (hD.out.asideL (c := bx1) (fun g hg => by have := hDl.out g hg; have := Hbx1.out; omega) 0 (rl sn))
           replace hM := hid (hM.out.put 0 rfl (rl sn) ((rwR wz).len (rwR sn)))
           generalize World.setCells _ _ _ _ = W at hM hO hD ⊢))
      have HXO : Hid (∀ g, u7.ownBlock = some g → g < bx1) := fun g hg => by have := hOl.out g hg; have := Hbx1.out; omega
      clear hOl hDl
      replace hM := hid (hM.out.drew)
      replace hO := hid (hO.out.drew)
      replace hD := hid (hD.out.drew)
      refine wp_region_held_drew (S := fun w' => Bo w' bx1 (rl sn)) (by kernel_rfl) (hM.out.at 0 rfl) (fun hH => ?_)
      generalize World.drew _ = W at hM hH hO hD ⊢
      refine tkR 0 rfl hH (fun _ h => h) (rwR sn) ?_
      simp only [Act.put, p1, p2, p3]
      refine tk 1 rfl hH ?_
      simp only [Act.put, p1, p2, p3]
      refine tk 2 rfl hH ?_
      simp only [Act.put, p1, p2, p3]
      refine rd1 3 rfl (fun K hK => ?_)
      obtain ⟨v9, w9, hr9, hO9, hg9⟩ := hO.out.app (Nat.le_trans (Nat.succ_le_of_lt (hM.out.len 3 rfl)) (Nat.le_refl _)) hD.out HL.out 41
      refine apK rfl hr9 ?_
      replace hM := hid ((hM.out.pick [0, 2, 3]).grown hg9 (fun g hg => ⟨Nat.le_trans (by omega) (hO.out.lt g hg).1, by have h1 := (hO.out.lt g hg).1; have h2 := HXO.out g hg; intro hmem; simp at hmem; rcases hmem with rfl | rfl | rfl <;> omega⟩))
      replace hO := hid hO9
      clear hr9 hO9 hg9 hD
      refine hK.out _ _ (hM.out.at 0 rfl) (fun hH => ?_)
      clear hK K
      generalize w9 = W at hM hH hO ⊢
      try simp only [Act.put, p1, p2, p3]
      refine rd1 4 rfl (fun K hK => ?_)
      refine stR rfl (hM.out.at 1 rfl) ((rwR si).len (rwR sn)) (rwR sn) ?_
      simp only [Act.put]
      replace hO := hid (hO.out.aside (show n0 < n0 + 2 by omega) 0 (rl sn))
      replace hM := hid (hM.out.put 1 rfl (rl sn) ((rwR si).len (rwR sn)))
      refine hK.out _ _ (hM.out.at 0 rfl) (fun hH => ?_)
      clear hK K
      generalize World.setCells _ _ _ _ = W at hM hH hO ⊢
      try simp only [Act.put, p1, p2, p3]
      refine tk 5 rfl hH ?_
      simp only [Act.put, p1, p2, p3]
      refine wpAnyH_done (by kernel_rfl) ?_ _
      go_wp2_with fail
      go_roundg (m - (i + 1))
      case measure => omega
      case rel => exact ⟨i + 1, by omega, by omega, by have := HC.out; have hw : wrap64 ((i : Int) + 1) = ((i + 1 : Nat) : Int) := (by unfold wrap64; omega); rw [hw], by rw [HE2.out]; exact hO, by rw [← HSN.out]; exact hM.out.pick [1, 2]⟩
    · obtain rfl : i = m := by omega
      have hi1 : (i : Int) < (n : Int) := by omega
      have hi0 : (0 : Int) ≤ (i : Int) := by omega
      obtain ⟨t, g, o, k, x, hq, hr⟩ := HE.out W hM.out.below i (by omega)
      have RA : Hid _ := hr
      clear hr
      obtain ⟨se, ONE⟩ := one_err (HU.out i (by omega)) HB.out
      rw [hq] at ONE
      obtain ⟨si, hsi⟩ : ∃ c, c = st r q i := ⟨_, rfl⟩
      rw [← hsi] at hM ONE
      have ON : Hid _ := ONE
      clear ONE hsi hq
      have hOl : Hid (∀ g, u7.ownBlock = some g → g < W.heap.size) := fun g hg => (hO.out.lt g hg).2
      replace hO := hid (hO.out.new (.cells #[.int .i64 0, .int .i64 0, .int .i64 0, .int .i64 0, .int .i64 0] 33))
      obtain ⟨ba, hba⟩ : ∃ q, q = W.heap.size := ⟨_, rfl⟩
      have HBA : Hid _ := hba
      clear hba
      go_wp2_with (first
        | (refine lO rfl RA.out rfl (rwAk t g o k x) ?_)
        | (rw [← HBA.out]
           replace hM := hid (hM.out.born [.int .i64 0, .int .i64 0, .int .i64 0, .int .i64 0, .int .i64 0] 33 HBA.out)
           refine sR rfl (hM.out.at 0 rfl) rfl ((rwAk 0 0 0 0 0).len (rwAk t g o k x)) (rwAk t g o k x) ?_
           replace hO := hid (hO.out.asideL (c := ba) (fun g hg => by have := hOl.out g hg; have := HBA.out; omega) 0 [.int .i64 t, .int .i64 g, .int .i64 o, .int .i64 k, .int .i64 x])
           replace hM := hid (hM.out.put 0 rfl [.int .i64 t, .int .i64 g, .int .i64 o, .int .i64 k, .int .i64 x] ((rwAk 0 0 0 0 0).len (rwAk t g o k x)))
           generalize World.setCells _ _ _ _ = W at hM hO ⊢)
        | (refine lR rfl (hM.out.at 1 rfl) rfl (rwR si) ?_)
        | (refine lR rfl (hM.out.at 0 rfl) rfl (rwAk t g o k x) ?_))
      clear hO hOl
      refine (ON.out _).mono ?_
      rintro e W ⟨rfl, hb⟩
      replace hM := hid (hM.out.later hb)
      clear hb
      obtain ⟨bx1, hbx1⟩ : ∃ q, q = W.heap.size := ⟨_, rfl⟩
      replace hM := hid (hM.out.bornR rl_zero.symm 24 (b := bx1) hbx1)
      have Hbx1 : Hid _ := hbx1
      clear hbx1
      go_wp2_with (first
        | (rw [← Hbx1.out]; refine sR rfl (hM.out.at 0 rfl) rfl ((rwR wz).len (rwR se)) (rwR se) ?_
           replace hM := hid (hM.out.put 0 rfl (rl se) ((rwR wz).len (rwR se)))
           generalize World.setCells _ _ _ _ = W at hM ⊢))
      refine (tell_errno ev _ (HT.out.below hM.out.below)).mono ?_
      rintro e W ⟨rfl, hg⟩
      have hb := hg.below
      replace hM := hid (hM.out.later hb)
      clear hb hg
      obtain ⟨bt0, hbt⟩ : ∃ q, q = W.heap.size := ⟨_, rfl⟩
      have HBT : Hid _ := hbt
      clear hbt
      go_wp2_with (first
        | (rw [← HBT.out]
           replace hM := hid (hM.out.born [.int .i64 ev, .int .i64 (i : Nat)] 68 HBT.out)
           refine sR rfl (hM.out.at 4 rfl) rfl ((rwR wz).len (rwR wz)) (rwR wz) ?_
           replace hM := hid (hM.out.put 4 rfl (rl wz) ((rwR wz).len (rwR wz)))
           generalize World.setCells _ _ _ _ = W at hM ⊢))
      exact bodyPost_ret (res1ss Tryd.results13 (hM.out.at 4 rfl) (rwR wz) (.slice none 0 0) (atV bt0)) rfl ⟨bt0, rfl, by rw [HSZ.out]; exact hM.out.key 0 rfl, (hM.out.at 0 rfl), hM.out.below⟩
/-- Do, of a record, and asks that are all answered. -/
theorem do_yes {r : Nat → Nat} (hr : isRec r) {v : Value} {n : Nat} {q : Nat → AK} {w : World} (D : Aq w v n q) (hn : n ≤ 1000000) (hO : ∀ j, j < n → Oka (st r q j) (q j)) :
    Calls Tryd.prog 13 #[.agg (rl r).toArray, v] w (fun e w' => ∃ B v', w.heap.size ≤ B ∧ e = .returned (.tuple #[.agg (rl (bump (st r q n))).toArray, v', .nilIface]) ∧ Odd B w' v' (dn r q n) ∧ Below w.heap.size w w') := by
  rcases id D with ⟨h0, a, c, hv, ha⟩ | ⟨b, off, c, hv, h0, hc, hm, _⟩
  · subst hv h0
    cases a with
    | none => obtain rfl := ha rfl; exact (do_nil hr w).mono fun e w' ⟨he, hb⟩ => ⟨_, _, Nat.le_refl _, he, Odd.nil _ _, hb⟩
    | some a => exact (do_none hr a c w).mono fun e w' ⟨he, hb⟩ => ⟨_, _, Nat.le_refl _, he, Odd.nil _ _, hb⟩
  · subst hv; exact do_some hr h0 hc hn rfl hO w D
end Go.Proofs.YteogbpaaacmllaaDoor.Tab
namespace Go.Proofs.YteogbpaaacmllaaDoor.Tab
set_option maxRecDepth 20000
open Go.RowKit
set_option linter.unusedVariables false

/-- The three asks of batched, and what comes of them. -/
def qb : Nat → AK := fun j => if j = 2 then ⟨0, 0, 1, 0, 1⟩ else ⟨1, 1, 1, 0, 5⟩
def aj : List Value := [.int .i64 1, .int .i64 1, .int .i64 1, .int .i64 0, .int .i64 5, .int .i64 1, .int .i64 1, .int .i64 1, .int .i64 0, .int .i64 5, .int .i64 0, .int .i64 0, .int .i64 1, .int .i64 0, .int .i64 1]
theorem aq3 {w : World} {b : Nat} (h : Bo w b aj) : Aq w (.slice (some ⟨b, 0, none⟩) 3 3) 3 qb := Or.inr ⟨b, 0, 3, rfl, by decide, by decide, by decide, fun i hi j v hv => by
  have hj : j < 5 := by simpa [AK.row] using (List.getElem?_eq_some_iff.1 hv).1
  refine h.cell (0 + i * 5 + j) v ?_
  rw [← hv]
  have : (i = 0 ∨ i = 1 ∨ i = 2) ∧ (j = 0 ∨ j = 1 ∨ j = 2 ∨ j = 3 ∨ j = 4) := by omega
  rcases this with ⟨rfl | rfl | rfl, rfl | rfl | rfl | rfl | rfl⟩ <;> rfl⟩
def rB : Nat → Nat := rdo (newR 6) 1 1 0 5
theorem rB_odo : (odo ((newR 6 0 : Nat)) (ob (newR 6)) 1 0 5).2 = (1, 0) := by decide
theorem rB_odo1 : (odo ((newR 6 0 : Nat)) (ob (newR 6)) 1 0 5).1 0 = 5 := by decide
theorem rB_26 : rB 26 = 2 := rdo_26 (r := newR 6) (t := 1) (o := 1) (k := 0) (x := 5)
theorem rB_27 : rB 27 = 0 := rdo_27 (r := newR 6) (t := 1) (o := 1) (k := 0) (x := 5) (by decide)
theorem rB_1 : rB 1 = 5 := by
  have := rdo_ob (r := newR 6) (t := 1) (o := 1) (k := 0) (x := 5) (by decide) 0 (by decide)
  rw [rB_odo1] at this
  exact this
theorem rt5 : Rt 1 0 5 := ⟨by decide, by decide, by decide, by decide, by decide, by decide⟩
theorem nx_b0 : nx (newR 6) (qb 0) = rB := nx_open (show (1 : Int) ≠ (bt (newR 6) 1 : Nat) from by decide)
theorem nd_b0 : nd' (newR 6) (qb 0) = [⟨1, 1, 0, 5, 1, 0⟩] := by
  rw [nd_open (show (1 : Int) ≠ (bt (newR 6) 1 : Nat) from by decide)]
  show [(⟨1, 1, 0, 5, (odo ((newR 6 0 : Nat)) (ob (newR 6)) 1 0 5).2.1, (odo ((newR 6 0 : Nat)) (ob (newR 6)) 1 0 5).2.2⟩ : DD)] = _
  rw [rB_odo]
theorem sh_b1 : (1 : Int) = (bt rB 1 : Nat) := by unfold bt; rw [rB_26]; decide
theorem sh_b2 : (0 : Int) = (bt rB 0 : Nat) := by unfold bt; rw [rB_26]; decide
theorem st_b : st (newR 6) qb 3 = rB := by
  show nx (nx (nx (newR 6) (qb 0)) (qb 1)) (qb 2) = rB
  rw [nx_b0, nx_shut (r := rB) (a := qb 1) sh_b1, nx_shut (r := rB) (a := qb 2) sh_b2]
theorem dn_b : dn (newR 6) qb 3 = [⟨1, 1, 0, 5, 1, 0⟩] := by
  show ((([] : List DD) ++ nd' (newR 6) (qb 0)) ++ nd' (nx (newR 6) (qb 0)) (qb 1)) ++ nd' (nx (nx (newR 6) (qb 0)) (qb 1)) (qb 2) = _
  rw [nx_b0, nd_b0, nx_shut (r := rB) (a := qb 1) sh_b1, nd_shut (r := rB) (a := qb 1) sh_b1, nd_shut (r := rB) (a := qb 2) sh_b2]
  rfl
theorem ok_b : ∀ j, j < 3 → Oka (st (newR 6) qb j) (qb j)
  | 0, _ => ⟨⟨by decide, by decide⟩, Or.inr ⟨newR_rec (by decide) (by decide), rt5⟩⟩
  | 1, _ => ⟨⟨by decide, by decide⟩, Or.inl (by show (1 : Int) = (bt (nx (newR 6) (qb 0)) 1 : Nat); rw [nx_b0]; exact sh_b1)⟩
  | 2, _ => ⟨⟨by decide, by decide⟩, Or.inl (by show (0 : Int) = (bt (nx (nx (newR 6) (qb 0)) (qb 1)) 0 : Nat); rw [nx_b0, nx_shut (r := rB) (a := qb 1) sh_b1]; exact sh_b2)⟩
set_option maxHeartbeats 8000000 in
theorem batched_is  (w : World) :
    Calls Tryd.prog 9 #[] w (fun e w' => e = .returned (.bool true) ∧ Below w.heap.size w w') := by
  have HZ := newR_rec (k := 6) (by decide) (by decide)
  have NW : Hid (∀ w : World, Calls Tryd.prog 18 #[.int .i64 6] w fun e w' => e = .returned (.tuple #[.agg (rl (newR 6)).toArray, .nilIface]) ∧ Below w.heap.size w w') := fun w => recNew_yes (k := 6) (by decide) (by decide) w
  have DO : Hid (∀ {w : World} {b : Nat} (h : Bo w b aj), Calls Tryd.prog 13 #[.agg (rl (newR 6)).toArray, .slice (some ⟨b, 0, none⟩) 3 3] w fun e w' => ∃ g cap, e = .returned (.tuple #[.agg (rl (bump rB)).toArray, .slice (some ⟨g, 0, none⟩) 1 cap, .nilIface]) ∧ 1 ≤ cap ∧ w.heap.size ≤ g ∧ Bo w' g [.int .i64 1, .int .i64 1, .int .i64 0, .int .i64 5, .int .i64 1, .int .i64 0] ∧ Below w.heap.size w w') := fun {w b} h => by
    refine (do_yes HZ (aq3 h) (by decide) ok_b).mono ?_
    rintro e w' ⟨B, v, hB, he, hO, hb⟩
    rw [st_b] at he
    rw [dn_b] at hO
    rcases hO.form with ⟨_, h⟩ | ⟨g, cap, rfl, hg, hc, hG⟩
    · cases h
    · exact ⟨g, cap, he, hc, Nat.le_trans hB hg, hG, hb⟩
  have R27 : bump rB 27 = 1 := by unfold bump upw; rw [if_pos rfl, rB_27]
  have R1 : bump rB 1 = 5 := by unfold bump upw; rw [if_neg (by decide), rB_1]
  clear HZ
  generalize newR 6 = zr at *
  generalize bump rB = pr at *
  have H27 : Hid _ := R27
  have H1 : Hid _ := R1
  clear R27 R1
  have hM : Hid _ := (Ms.nil w)
  go_enter Tryd.func9, Tryd.ntmps9
  go_wp2_with fail
  refine (NW.out _).mono ?_
  rintro e W ⟨rfl, hb⟩
  replace hM := hid (hM.out.later hb)
  clear hb
  generalize hsz : w.heap.size = n at hM ⊢
  clear hsz
  obtain ⟨bx1, hbx1⟩ : ∃ q, q = W.heap.size := ⟨_, rfl⟩
  replace hM := hid (hM.out.bornR rl_zero.symm 24 (b := bx1) hbx1)
  have Hbx1 : Hid _ := hbx1
  clear hbx1
  go_wp2_with (first
    | (rw [← Hbx1.out]; refine sR rfl (hM.out.at 0 rfl) rfl ((rwR wz).len (rwR zr)) (rwR zr) ?_
       replace hM := hid (hM.out.put 0 rfl (rl zr) ((rwR wz).len (rwR zr)))
       generalize World.setCells _ _ _ _ = W at hM ⊢))
  replace hM := hid (hM.out.drew)
  refine wp_region_held_drew (S := fun w' => Bo w' bx1 (rl zr)) (by kernel_rfl) (hM.out.at 0 rfl) (fun hH => ?_)
  generalize World.drew _ = W at hM hH  ⊢
  refine tkR 0 rfl hH (fun _ h => h) (rwR zr) ?_
  simp only [Act.put, p1, p2, p3]
  refine rdn [1, 13] ?_
  refine rdc rfl (fun K hK => ?_) ?_
  · go_simp
    refine (put_is 5 _).mono ?_
    rintro e W ⟨rfl, hb⟩
    replace hM := hid (hM.out.later hb)
    clear hb
    go_wp2_with fail
    refine hK.out _ _ (hM.out.at 0 rfl) (fun hH => ?_)
    clear hK K
    try simp only [Act.put, p1, p2, p3]
    refine tk 2 rfl hH ?_
    simp only [Act.put, p1, p2, p3]
    refine rdn [3, 13] ?_
    refine rdc rfl (fun K hK => ?_) ?_
    · go_simp
      refine (put_is 5 _).mono ?_
      rintro e W ⟨rfl, hb⟩
      replace hM := hid (hM.out.later hb)
      clear hb
      go_wp2_with fail
      refine hK.out _ _ (hM.out.at 0 rfl) (fun hH => ?_)
      clear hK K
      try simp only [Act.put, p1, p2, p3]
      refine tk 4 rfl hH ?_
      simp only [Act.put, p1, p2, p3]
      refine rdn [5, 13] ?_
      refine rdc rfl (fun K hK => ?_) ?_
      · go_simp
        refine (put_is 1 _).mono ?_
        rintro e W ⟨rfl, hb⟩
        replace hM := hid (hM.out.later hb)
        clear hb
        go_wp2_with fail
        refine hK.out _ _ (hM.out.at 0 rfl) (fun hH => ?_)
        clear hK K
        try simp only [Act.put, p1, p2, p3]
        refine tk 6 rfl hH ?_
        simp only [Act.put, p1, p2, p3]
        refine rdn [7, 13] ?_
        refine rdc rfl (fun K hK => ?_) ?_
        · go_simp
          replace hM := hid (hM.out.born [.int .i64 1, .int .i64 1, .int .i64 1, .int .i64 0, .int .i64 5, .int .i64 1, .int .i64 1, .int .i64 1, .int .i64 0, .int .i64 5, .int .i64 0, .int .i64 0, .int .i64 1, .int .i64 0, .int .i64 1] 33 rfl)
          refine hK.out _ _ (hM.out.at 1 rfl) (fun hH => ?_)
          clear hK K
          generalize W.heap.size = bq2 at hM hH ⊢
          generalize World.alloc _ _ = W at hM hH  ⊢
          try simp only [Act.put, p1, p2, p3]
          refine rdn [8, 13] ?_
          refine rdc rfl (fun K hK => ?_) ?_
          · go_simp
            refine (DO.out (hM.out.at 0 rfl)).mono ?_
            rintro e W ⟨g, cap, rfl, hcap, hg, hG, hb⟩
            replace hM := hid (hM.out.laterB hb hg hG)
            clear hb
            have HCAP : Hid _ := hcap
            clear hcap hg hG
            go_wp2_with fail
            refine hK.out _ _ (hM.out.at 2 rfl) (fun hH => ?_)
            clear hK K
            try simp only [Act.put, p1, p2, p3]
            refine tk 9 rfl hH ?_
            simp only [Act.put, p1, p2, p3]
            refine tk 10 rfl hH ?_
            simp only [Act.put, p1, p2, p3]
            refine tk 11 rfl hH ?_
            simp only [Act.put, p1, p2, p3]
            refine tk 12 rfl hH ?_
            simp only [Act.put, p1, p2, p3]
            refine rd1 13 rfl (fun K hK => ?_)
            go_simp
            replace hM := hid (hM.out.bornR rl_zero.symm 24 rfl)
            refine hK.out _ _ (hM.out.at 3 rfl) (fun hH => ?_)
            clear hK K
            generalize W.heap.size = bq3 at hM hH ⊢
            generalize World.alloc _ _ = W at hM hH  ⊢
            try simp only [Act.put, p1, p2, p3]
            refine rd1 14 rfl (fun K hK => ?_)
            refine stR rfl (hM.out.at 0 rfl) ((rwR wz).len (rwR pr)) (rwR pr) ?_
            simp only [Act.put]
            replace hM := hid (hM.out.put 0 rfl (rl pr) ((rwR wz).len (rwR pr)))
            refine hK.out _ _ (hM.out.at 3 rfl) (fun hH => ?_)
            clear hK K
            generalize World.setCells _ _ _ _ = W at hM hH ⊢
            try simp only [Act.put, p1, p2, p3]
            refine tk 15 rfl hH ?_
            simp only [Act.put, p1, p2, p3]
            refine tk 16 rfl hH ?_
            simp only [Act.put, p1, p2, p3]
            refine wpAnyH_done (by kernel_rfl) ?_ _
            go_wp2_with fail
            replace hM := hid (hM.out.drew)
            refine wp_region_held_drew (S := fun w' => Bo w' g [.int .i64 1, .int .i64 1, .int .i64 0, .int .i64 5, .int .i64 1, .int .i64 0] ∧ Bo w' bq3 (rl pr)) (by kernel_rfl) ⟨hM.out.at 1 rfl, hM.out.at 0 rfl⟩ (fun hH => ?_)
            generalize World.drew _ = W at hM hH  ⊢
            refine tk 0 rfl hH ?_
            simp only [Act.put, p1, p2, p3]
            refine tk 1 rfl hH ?_
            simp only [Act.put, p1, p2, p3]
            refine tk 2 rfl hH ?_
            simp only [Act.put, p1, p2, p3]
            refine tk 3 rfl hH ?_
            simp only [Act.put, p1, p2, p3]
            refine tk 4 rfl hH ?_
            simp only [Act.put, p1, p2, p3]
            refine tk 5 rfl hH ?_
            simp only [Act.put, p1, p2, p3]
            refine tk 6 rfl hH ?_
            simp only [Act.put, p1, p2, p3]
            refine tk 7 rfl hH ?_
            simp only [Act.put, p1, p2, p3]
            refine tk 8 rfl hH ?_
            simp only [Act.put, p1, p2, p3]
            refine tk 9 rfl hH ?_
            simp only [Act.put, p1, p2, p3]
            refine tk 10 rfl hH ?_
            simp only [Act.put, p1, p2, p3]
            refine tk 11 rfl hH ?_
            simp only [Act.put, p1, p2, p3]
            refine tk 12 rfl hH ?_
            simp only [Act.put, p1, p2, p3]
            refine tk 13 rfl hH ?_
            simp only [Act.put, p1, p2, p3]
            refine tkR 14 rfl hH (fun _ h => h.1) (rwD 1 1 0 5 1 0) ?_
            simp only [Act.put, p1, p2, p3]
            refine tk 16 rfl hH ?_
            simp only [Act.put, p1, p2, p3]
            refine rd1 15 rfl (fun K hK => ?_)
            go_simp
            refine (put_is 5 _).mono ?_
            rintro e W ⟨rfl, hb⟩
            replace hM := hid (hM.out.later hb)
            clear hb
            go_wp2_with fail
            refine hK.out _ _ ⟨hM.out.at 1 rfl, hM.out.at 0 rfl⟩ (fun hH => ?_)
            clear hK K
            try simp only [Act.put, p1, p2, p3]
            refine tk 17 rfl hH ?_
            simp only [Act.put, p1, p2, p3]
            refine tk 18 rfl hH ?_
            simp only [Act.put, p1, p2, p3]
            refine tk 19 rfl hH ?_
            simp only [Act.put, p1, p2, p3]
            refine tk 20 rfl hH ?_
            simp only [Act.put, p1, p2, p3]
            refine tk 21 rfl hH ?_
            simp only [Act.put, p1, p2, p3]
            refine tk 22 rfl hH ?_ (by intro w h; have c0 := h.2.rwordx (show 27 < 32 by decide) H27.out; clear h; go_simp; try with_reducible rfl)
            simp only [Act.put, p1, p2, p3]
            refine tk 23 rfl hH ?_
            simp only [Act.put, p1, p2, p3]
            refine tk 24 rfl hH ?_
            simp only [Act.put, p1, p2, p3]
            refine tk 25 rfl hH ?_
            simp only [Act.put, p1, p2, p3]
            refine tk 26 rfl hH ?_
            simp only [Act.put, p1, p2, p3]
            refine tk 27 rfl hH ?_ (by intro w h; have c0 := h.2.rwordx (show 1 < 32 by decide) H1.out; clear h; go_simp; try with_reducible rfl)
            simp only [Act.put, p1, p2, p3]
            refine tk 28 rfl hH ?_
            simp only [Act.put, p1, p2, p3]
            refine tk 29 rfl hH ?_
            simp only [Act.put, p1, p2, p3]
            refine tk 30 rfl hH ?_
            simp only [Act.put, p1, p2]
            refine wpAnyH_done (by kernel_rfl) ?_ _
            go_wp2
            go_ret
            exact ⟨rfl, hM.out.below⟩
          refine rdc rfl (fun K hK => ?_) AllReadyH.nil
          go_simp
          replace hM := hid (hM.out.bornR rl_zero.symm 24 rfl)
          refine hK.out _ _ (hM.out.at 2 rfl) (fun hH => ?_)
          clear hK K
          generalize W.heap.size = bq3 at hM hH ⊢
          generalize World.alloc _ _ = W at hM hH  ⊢
          try simp only [Act.put, p1, p2, p3]
          refine rd1 8 rfl (fun K hK => ?_)
          go_simp
          refine (DO.out (hM.out.at 1 rfl)).mono ?_
          rintro e W ⟨g, cap, rfl, hcap, hg, hG, hb⟩
          replace hM := hid (hM.out.laterB hb hg hG)
          clear hb
          have HCAP : Hid _ := hcap
          clear hcap hg hG
          go_wp2_with fail
          refine hK.out _ _ (hM.out.at 3 rfl) (fun hH => ?_)
          clear hK K
          try simp only [Act.put, p1, p2, p3]
          refine tk 9 rfl hH ?_
          simp only [Act.put, p1, p2, p3]
          refine tk 10 rfl hH ?_
          simp only [Act.put, p1, p2, p3]
          refine tk 11 rfl hH ?_
          simp only [Act.put, p1, p2, p3]
          refine tk 12 rfl hH ?_
          simp only [Act.put, p1, p2, p3]
          refine rd1 14 rfl (fun K hK => ?_)
          refine stR rfl (hM.out.at 1 rfl) ((rwR wz).len (rwR pr)) (rwR pr) ?_
          simp only [Act.put]
          replace hM := hid (hM.out.put 1 rfl (rl pr) ((rwR wz).len (rwR pr)))
          refine hK.out _ _ (hM.out.at 3 rfl) (fun hH => ?_)
          clear hK K
          generalize World.setCells _ _ _ _ = W at hM hH ⊢
          try simp only [Act.put, p1, p2, p3]
          refine tk 15 rfl hH ?_
          simp only [Act.put, p1, p2, p3]
          refine tk 16 rfl hH ?_
          simp only [Act.put, p1, p2, p3]
          refine wpAnyH_done (by kernel_rfl) ?_ _
          go_wp2_with fail
          replace hM := hid (hM.out.drew)
          refine wp_region_held_drew (S := fun w' => Bo w' g [.int .i64 1, .int .i64 1, .int .i64 0, .int .i64 5, .int .i64 1, .int .i64 0] ∧ Bo w' bq3 (rl pr)) (by kernel_rfl) ⟨hM.out.at 0 rfl, hM.out.at 1 rfl⟩ (fun hH => ?_)
          generalize World.drew _ = W at hM hH  ⊢
          refine tk 0 rfl hH ?_
          simp only [Act.put, p1, p2, p3]
          refine tk 1 rfl hH ?_
          simp only [Act.put, p1, p2, p3]
          refine tk 2 rfl hH ?_
          simp only [Act.put, p1, p2, p3]
          refine tk 3 rfl hH ?_
          simp only [Act.put, p1, p2, p3]
          refine tk 4 rfl hH ?_
          simp only [Act.put, p1, p2, p3]
          refine tk 5 rfl hH ?_
          simp only [Act.put, p1, p2, p3]
          refine tk 6 rfl hH ?_
          simp only [Act.put, p1, p2, p3]
          refine tk 7 rfl hH ?_
          simp only [Act.put, p1, p2, p3]
          refine tk 8 rfl hH ?_
          simp only [Act.put, p1, p2, p3]
          refine tk 9 rfl hH ?_
          simp only [Act.put, p1, p2, p3]
          refine tk 10 rfl hH ?_
          simp only [Act.put, p1, p2, p3]
          refine tk 11 rfl hH ?_
          simp only [Act.put, p1, p2, p3]
          refine tk 12 rfl hH ?_
          simp only [Act.put, p1, p2, p3]
          refine tk 13 rfl hH ?_
          simp only [Act.put, p1, p2, p3]
          refine tkR 14 rfl hH (fun _ h => h.1) (rwD 1 1 0 5 1 0) ?_
          simp only [Act.put, p1, p2, p3]
          refine tk 16 rfl hH ?_
          simp only [Act.put, p1, p2, p3]
          refine rd1 15 rfl (fun K hK => ?_)
          go_simp
          refine (put_is 5 _).mono ?_
          rintro e W ⟨rfl, hb⟩
          replace hM := hid (hM.out.later hb)
          clear hb
          go_wp2_with fail
          refine hK.out _ _ ⟨hM.out.at 0 rfl, hM.out.at 1 rfl⟩ (fun hH => ?_)
          clear hK K
          try simp only [Act.put, p1, p2, p3]
          refine tk 17 rfl hH ?_
          simp only [Act.put, p1, p2, p3]
          refine tk 18 rfl hH ?_
          simp only [Act.put, p1, p2, p3]
          refine tk 19 rfl hH ?_
          simp only [Act.put, p1, p2, p3]
          refine tk 20 rfl hH ?_
          simp only [Act.put, p1, p2, p3]
          refine tk 21 rfl hH ?_
          simp only [Act.put, p1, p2, p3]
          refine tk 22 rfl hH ?_ (by intro w h; have c0 := h.2.rwordx (show 27 < 32 by decide) H27.out; clear h; go_simp; try with_reducible rfl)
          simp only [Act.put, p1, p2, p3]
          refine tk 23 rfl hH ?_
          simp only [Act.put, p1, p2, p3]
          refine tk 24 rfl hH ?_
          simp only [Act.put, p1, p2, p3]
          refine tk 25 rfl hH ?_
          simp only [Act.put, p1, p2, p3]
          refine tk 26 rfl hH ?_
          simp only [Act.put, p1, p2, p3]
          refine tk 27 rfl hH ?_ (by intro w h; have c0 := h.2.rwordx (show 1 < 32 by decide) H1.out; clear h; go_simp; try with_reducible rfl)
          simp only [Act.put, p1, p2, p3]
          refine tk 28 rfl hH ?_
          simp only [Act.put, p1, p2, p3]
          refine tk 29 rfl hH ?_
          simp only [Act.put, p1, p2, p3]
          refine tk 30 rfl hH ?_
          simp only [Act.put, p1, p2]
          refine wpAnyH_done (by kernel_rfl) ?_ _
          go_wp2
          go_ret
          exact ⟨rfl, hM.out.below⟩
        refine rdc rfl (fun K hK => ?_) AllReadyH.nil
        go_simp
        replace hM := hid (hM.out.bornR rl_zero.symm 24 rfl)
        refine hK.out _ _ (hM.out.at 1 rfl) (fun hH => ?_)
        clear hK K
        generalize W.heap.size = bq2 at hM hH ⊢
        generalize World.alloc _ _ = W at hM hH  ⊢
        try simp only [Act.put, p1, p2, p3]
        refine rd1 7 rfl (fun K hK => ?_)
        go_simp
        replace hM := hid (hM.out.born [.int .i64 1, .int .i64 1, .int .i64 1, .int .i64 0, .int .i64 5, .int .i64 1, .int .i64 1, .int .i64 1, .int .i64 0, .int .i64 5, .int .i64 0, .int .i64 0, .int .i64 1, .int .i64 0, .int .i64 1] 33 rfl)
        refine hK.out _ _ (hM.out.at 2 rfl) (fun hH => ?_)
        clear hK K
        generalize W.heap.size = bq3 at hM hH ⊢
        generalize World.alloc _ _ = W at hM hH  ⊢
        try simp only [Act.put, p1, p2, p3]
        refine rd1 8 rfl (fun K hK => ?_)
        go_simp
        refine (DO.out (hM.out.at 0 rfl)).mono ?_
        rintro e W ⟨g, cap, rfl, hcap, hg, hG, hb⟩
        replace hM := hid (hM.out.laterB hb hg hG)
        clear hb
        have HCAP : Hid _ := hcap
        clear hcap hg hG
        go_wp2_with fail
        refine hK.out _ _ (hM.out.at 3 rfl) (fun hH => ?_)
        clear hK K
        try simp only [Act.put, p1, p2, p3]
        refine tk 9 rfl hH ?_
        simp only [Act.put, p1, p2, p3]
        refine tk 10 rfl hH ?_
        simp only [Act.put, p1, p2, p3]
        refine tk 11 rfl hH ?_
        simp only [Act.put, p1, p2, p3]
        refine tk 12 rfl hH ?_
        simp only [Act.put, p1, p2, p3]
        refine rd1 14 rfl (fun K hK => ?_)
        refine stR rfl (hM.out.at 2 rfl) ((rwR wz).len (rwR pr)) (rwR pr) ?_
        simp only [Act.put]
        replace hM := hid (hM.out.put 2 rfl (rl pr) ((rwR wz).len (rwR pr)))
        refine hK.out _ _ (hM.out.at 3 rfl) (fun hH => ?_)
        clear hK K
        generalize World.setCells _ _ _ _ = W at hM hH ⊢
        try simp only [Act.put, p1, p2, p3]
        refine tk 15 rfl hH ?_
        simp only [Act.put, p1, p2, p3]
        refine tk 16 rfl hH ?_
        simp only [Act.put, p1, p2, p3]
        refine wpAnyH_done (by kernel_rfl) ?_ _
        go_wp2_with fail
        replace hM := hid (hM.out.drew)
        refine wp_region_held_drew (S := fun w' => Bo w' g [.int .i64 1, .int .i64 1, .int .i64 0, .int .i64 5, .int .i64 1, .int .i64 0] ∧ Bo w' bq2 (rl pr)) (by kernel_rfl) ⟨hM.out.at 0 rfl, hM.out.at 2 rfl⟩ (fun hH => ?_)
        generalize World.drew _ = W at hM hH  ⊢
        refine tk 0 rfl hH ?_
        simp only [Act.put, p1, p2, p3]
        refine tk 1 rfl hH ?_
        simp only [Act.put, p1, p2, p3]
        refine tk 2 rfl hH ?_
        simp only [Act.put, p1, p2, p3]
        refine tk 3 rfl hH ?_
        simp only [Act.put, p1, p2, p3]
        refine tk 4 rfl hH ?_
        simp only [Act.put, p1, p2, p3]
        refine tk 5 rfl hH ?_
        simp only [Act.put, p1, p2, p3]
        refine tk 6 rfl hH ?_
        simp only [Act.put, p1, p2, p3]
        refine tk 7 rfl hH ?_
        simp only [Act.put, p1, p2, p3]
        refine tk 8 rfl hH ?_
        simp only [Act.put, p1, p2, p3]
        refine tk 9 rfl hH ?_
        simp only [Act.put, p1, p2, p3]
        refine tk 10 rfl hH ?_
        simp only [Act.put, p1, p2, p3]
        refine tk 11 rfl hH ?_
        simp only [Act.put, p1, p2, p3]
        refine tk 12 rfl hH ?_
        simp only [Act.put, p1, p2, p3]
        refine tk 13 rfl hH ?_
        simp only [Act.put, p1, p2, p3]
        refine tkR 14 rfl hH (fun _ h => h.1) (rwD 1 1 0 5 1 0) ?_
        simp only [Act.put, p1, p2, p3]
        refine tk 16 rfl hH ?_
        simp only [Act.put, p1, p2, p3]
        refine rd1 15 rfl (fun K hK => ?_)
        go_simp
        refine (put_is 5 _).mono ?_
        rintro e W ⟨rfl, hb⟩
        replace hM := hid (hM.out.later hb)
        clear hb
        go_wp2_with fail
        refine hK.out _ _ ⟨hM.out.at 0 rfl, hM.out.at 2 rfl⟩ (fun hH => ?_)
        clear hK K
        try simp only [Act.put, p1, p2, p3]
        refine tk 17 rfl hH ?_
        simp only [Act.put, p1, p2, p3]
        refine tk 18 rfl hH ?_
        simp only [Act.put, p1, p2, p3]
        refine tk 19 rfl hH ?_
        simp only [Act.put, p1, p2, p3]
        refine tk 20 rfl hH ?_
        simp only [Act.put, p1, p2, p3]
        refine tk 21 rfl hH ?_
        simp only [Act.put, p1, p2, p3]
        refine tk 22 rfl hH ?_ (by intro w h; have c0 := h.2.rwordx (show 27 < 32 by decide) H27.out; clear h; go_simp; try with_reducible rfl)
        simp only [Act.put, p1, p2, p3]
        refine tk 23 rfl hH ?_
        simp only [Act.put, p1, p2, p3]
        refine tk 24 rfl hH ?_
        simp only [Act.put, p1, p2, p3]
        refine tk 25 rfl hH ?_
        simp only [Act.put, p1, p2, p3]
        refine tk 26 rfl hH ?_
        simp only [Act.put, p1, p2, p3]
        refine tk 27 rfl hH ?_ (by intro w h; have c0 := h.2.rwordx (show 1 < 32 by decide) H1.out; clear h; go_simp; try with_reducible rfl)
        simp only [Act.put, p1, p2, p3]
        refine tk 28 rfl hH ?_
        simp only [Act.put, p1, p2, p3]
        refine tk 29 rfl hH ?_
        simp only [Act.put, p1, p2, p3]
        refine tk 30 rfl hH ?_
        simp only [Act.put, p1, p2]
        refine wpAnyH_done (by kernel_rfl) ?_ _
        go_wp2
        go_ret
        exact ⟨rfl, hM.out.below⟩
      refine rdc rfl (fun K hK => ?_) AllReadyH.nil
      go_simp
      replace hM := hid (hM.out.bornR rl_zero.symm 24 rfl)
      refine hK.out _ _ (hM.out.at 1 rfl) (fun hH => ?_)
      clear hK K
      generalize W.heap.size = bq2 at hM hH ⊢
      generalize World.alloc _ _ = W at hM hH  ⊢
      try simp only [Act.put, p1, p2, p3]
      refine rd1 5 rfl (fun K hK => ?_)
      go_simp
      refine (put_is 1 _).mono ?_
      rintro e W ⟨rfl, hb⟩
      replace hM := hid (hM.out.later hb)
      clear hb
      go_wp2_with fail
      refine hK.out _ _ (hM.out.at 1 rfl) (fun hH => ?_)
      clear hK K
      try simp only [Act.put, p1, p2, p3]
      refine tk 6 rfl hH ?_
      simp only [Act.put, p1, p2, p3]
      refine rd1 7 rfl (fun K hK => ?_)
      go_simp
      replace hM := hid (hM.out.born [.int .i64 1, .int .i64 1, .int .i64 1, .int .i64 0, .int .i64 5, .int .i64 1, .int .i64 1, .int .i64 1, .int .i64 0, .int .i64 5, .int .i64 0, .int .i64 0, .int .i64 1, .int .i64 0, .int .i64 1] 33 rfl)
      refine hK.out _ _ (hM.out.at 2 rfl) (fun hH => ?_)
      clear hK K
      generalize W.heap.size = bq3 at hM hH ⊢
      generalize World.alloc _ _ = W at hM hH  ⊢
      try simp only [Act.put, p1, p2, p3]
      refine rd1 8 rfl (fun K hK => ?_)
      go_simp
      refine (DO.out (hM.out.at 0 rfl)).mono ?_
      rintro e W ⟨g, cap, rfl, hcap, hg, hG, hb⟩
      replace hM := hid (hM.out.laterB hb hg hG)
      clear hb
      have HCAP : Hid _ := hcap
      clear hcap hg hG
      go_wp2_with fail
      refine hK.out _ _ (hM.out.at 3 rfl) (fun hH => ?_)
      clear hK K
      try simp only [Act.put, p1, p2, p3]
      refine tk 9 rfl hH ?_
      simp only [Act.put, p1, p2, p3]
      refine tk 10 rfl hH ?_
      simp only [Act.put, p1, p2, p3]
      refine tk 11 rfl hH ?_
      simp only [Act.put, p1, p2, p3]
      refine tk 12 rfl hH ?_
      simp only [Act.put, p1, p2, p3]
      refine rd1 14 rfl (fun K hK => ?_)
      refine stR rfl (hM.out.at 2 rfl) ((rwR wz).len (rwR pr)) (rwR pr) ?_
      simp only [Act.put]
      replace hM := hid (hM.out.put 2 rfl (rl pr) ((rwR wz).len (rwR pr)))
      refine hK.out _ _ (hM.out.at 3 rfl) (fun hH => ?_)
      clear hK K
      generalize World.setCells _ _ _ _ = W at hM hH ⊢
      try simp only [Act.put, p1, p2, p3]
      refine tk 15 rfl hH ?_
      simp only [Act.put, p1, p2, p3]
      refine tk 16 rfl hH ?_
      simp only [Act.put, p1, p2, p3]
      refine wpAnyH_done (by kernel_rfl) ?_ _
      go_wp2_with fail
      replace hM := hid (hM.out.drew)
      refine wp_region_held_drew (S := fun w' => Bo w' g [.int .i64 1, .int .i64 1, .int .i64 0, .int .i64 5, .int .i64 1, .int .i64 0] ∧ Bo w' bq2 (rl pr)) (by kernel_rfl) ⟨hM.out.at 0 rfl, hM.out.at 2 rfl⟩ (fun hH => ?_)
      generalize World.drew _ = W at hM hH  ⊢
      refine tk 0 rfl hH ?_
      simp only [Act.put, p1, p2, p3]
      refine tk 1 rfl hH ?_
      simp only [Act.put, p1, p2, p3]
      refine tk 2 rfl hH ?_
      simp only [Act.put, p1, p2, p3]
      refine tk 3 rfl hH ?_
      simp only [Act.put, p1, p2, p3]
      refine tk 4 rfl hH ?_
      simp only [Act.put, p1, p2, p3]
      refine tk 5 rfl hH ?_
      simp only [Act.put, p1, p2, p3]
      refine tk 6 rfl hH ?_
      simp only [Act.put, p1, p2, p3]
      refine tk 7 rfl hH ?_
      simp only [Act.put, p1, p2, p3]
      refine tk 8 rfl hH ?_
      simp only [Act.put, p1, p2, p3]
      refine tk 9 rfl hH ?_
      simp only [Act.put, p1, p2, p3]
      refine tk 10 rfl hH ?_
      simp only [Act.put, p1, p2, p3]
      refine tk 11 rfl hH ?_
      simp only [Act.put, p1, p2, p3]
      refine tk 12 rfl hH ?_
      simp only [Act.put, p1, p2, p3]
      refine tk 13 rfl hH ?_
      simp only [Act.put, p1, p2, p3]
      refine tkR 14 rfl hH (fun _ h => h.1) (rwD 1 1 0 5 1 0) ?_
      simp only [Act.put, p1, p2, p3]
      refine tk 16 rfl hH ?_
      simp only [Act.put, p1, p2, p3]
      refine rd1 15 rfl (fun K hK => ?_)
      go_simp
      refine (put_is 5 _).mono ?_
      rintro e W ⟨rfl, hb⟩
      replace hM := hid (hM.out.later hb)
      clear hb
      go_wp2_with fail
      refine hK.out _ _ ⟨hM.out.at 0 rfl, hM.out.at 2 rfl⟩ (fun hH => ?_)
      clear hK K
      try simp only [Act.put, p1, p2, p3]
      refine tk 17 rfl hH ?_
      simp only [Act.put, p1, p2, p3]
      refine tk 18 rfl hH ?_
      simp only [Act.put, p1, p2, p3]
      refine tk 19 rfl hH ?_
      simp only [Act.put, p1, p2, p3]
      refine tk 20 rfl hH ?_
      simp only [Act.put, p1, p2, p3]
      refine tk 21 rfl hH ?_
      simp only [Act.put, p1, p2, p3]
      refine tk 22 rfl hH ?_ (by intro w h; have c0 := h.2.rwordx (show 27 < 32 by decide) H27.out; clear h; go_simp; try with_reducible rfl)
      simp only [Act.put, p1, p2, p3]
      refine tk 23 rfl hH ?_
      simp only [Act.put, p1, p2, p3]
      refine tk 24 rfl hH ?_
      simp only [Act.put, p1, p2, p3]
      refine tk 25 rfl hH ?_
      simp only [Act.put, p1, p2, p3]
      refine tk 26 rfl hH ?_
      simp only [Act.put, p1, p2, p3]
      refine tk 27 rfl hH ?_ (by intro w h; have c0 := h.2.rwordx (show 1 < 32 by decide) H1.out; clear h; go_simp; try with_reducible rfl)
      simp only [Act.put, p1, p2, p3]
      refine tk 28 rfl hH ?_
      simp only [Act.put, p1, p2, p3]
      refine tk 29 rfl hH ?_
      simp only [Act.put, p1, p2, p3]
      refine tk 30 rfl hH ?_
      simp only [Act.put, p1, p2]
      refine wpAnyH_done (by kernel_rfl) ?_ _
      go_wp2
      go_ret
      exact ⟨rfl, hM.out.below⟩
    refine rdc rfl (fun K hK => ?_) AllReadyH.nil
    go_simp
    replace hM := hid (hM.out.bornR rl_zero.symm 24 rfl)
    refine hK.out _ _ (hM.out.at 1 rfl) (fun hH => ?_)
    clear hK K
    generalize W.heap.size = bq2 at hM hH ⊢
    generalize World.alloc _ _ = W at hM hH  ⊢
    try simp only [Act.put, p1, p2, p3]
    refine rd1 3 rfl (fun K hK => ?_)
    go_simp
    refine (put_is 5 _).mono ?_
    rintro e W ⟨rfl, hb⟩
    replace hM := hid (hM.out.later hb)
    clear hb
    go_wp2_with fail
    refine hK.out _ _ (hM.out.at 1 rfl) (fun hH => ?_)
    clear hK K
    try simp only [Act.put, p1, p2, p3]
    refine tk 4 rfl hH ?_
    simp only [Act.put, p1, p2, p3]
    refine rd1 5 rfl (fun K hK => ?_)
    go_simp
    refine (put_is 1 _).mono ?_
    rintro e W ⟨rfl, hb⟩
    replace hM := hid (hM.out.later hb)
    clear hb
    go_wp2_with fail
    refine hK.out _ _ (hM.out.at 1 rfl) (fun hH => ?_)
    clear hK K
    try simp only [Act.put, p1, p2, p3]
    refine tk 6 rfl hH ?_
    simp only [Act.put, p1, p2, p3]
    refine rd1 7 rfl (fun K hK => ?_)
    go_simp
    replace hM := hid (hM.out.born [.int .i64 1, .int .i64 1, .int .i64 1, .int .i64 0, .int .i64 5, .int .i64 1, .int .i64 1, .int .i64 1, .int .i64 0, .int .i64 5, .int .i64 0, .int .i64 0, .int .i64 1, .int .i64 0, .int .i64 1] 33 rfl)
    refine hK.out _ _ (hM.out.at 2 rfl) (fun hH => ?_)
    clear hK K
    generalize W.heap.size = bq3 at hM hH ⊢
    generalize World.alloc _ _ = W at hM hH  ⊢
    try simp only [Act.put, p1, p2, p3]
    refine rd1 8 rfl (fun K hK => ?_)
    go_simp
    refine (DO.out (hM.out.at 0 rfl)).mono ?_
    rintro e W ⟨g, cap, rfl, hcap, hg, hG, hb⟩
    replace hM := hid (hM.out.laterB hb hg hG)
    clear hb
    have HCAP : Hid _ := hcap
    clear hcap hg hG
    go_wp2_with fail
    refine hK.out _ _ (hM.out.at 3 rfl) (fun hH => ?_)
    clear hK K
    try simp only [Act.put, p1, p2, p3]
    refine tk 9 rfl hH ?_
    simp only [Act.put, p1, p2, p3]
    refine tk 10 rfl hH ?_
    simp only [Act.put, p1, p2, p3]
    refine tk 11 rfl hH ?_
    simp only [Act.put, p1, p2, p3]
    refine tk 12 rfl hH ?_
    simp only [Act.put, p1, p2, p3]
    refine rd1 14 rfl (fun K hK => ?_)
    refine stR rfl (hM.out.at 2 rfl) ((rwR wz).len (rwR pr)) (rwR pr) ?_
    simp only [Act.put]
    replace hM := hid (hM.out.put 2 rfl (rl pr) ((rwR wz).len (rwR pr)))
    refine hK.out _ _ (hM.out.at 3 rfl) (fun hH => ?_)
    clear hK K
    generalize World.setCells _ _ _ _ = W at hM hH ⊢
    try simp only [Act.put, p1, p2, p3]
    refine tk 15 rfl hH ?_
    simp only [Act.put, p1, p2, p3]
    refine tk 16 rfl hH ?_
    simp only [Act.put, p1, p2, p3]
    refine wpAnyH_done (by kernel_rfl) ?_ _
    go_wp2_with fail
    replace hM := hid (hM.out.drew)
    refine wp_region_held_drew (S := fun w' => Bo w' g [.int .i64 1, .int .i64 1, .int .i64 0, .int .i64 5, .int .i64 1, .int .i64 0] ∧ Bo w' bq2 (rl pr)) (by kernel_rfl) ⟨hM.out.at 0 rfl, hM.out.at 2 rfl⟩ (fun hH => ?_)
    generalize World.drew _ = W at hM hH  ⊢
    refine tk 0 rfl hH ?_
    simp only [Act.put, p1, p2, p3]
    refine tk 1 rfl hH ?_
    simp only [Act.put, p1, p2, p3]
    refine tk 2 rfl hH ?_
    simp only [Act.put, p1, p2, p3]
    refine tk 3 rfl hH ?_
    simp only [Act.put, p1, p2, p3]
    refine tk 4 rfl hH ?_
    simp only [Act.put, p1, p2, p3]
    refine tk 5 rfl hH ?_
    simp only [Act.put, p1, p2, p3]
    refine tk 6 rfl hH ?_
    simp only [Act.put, p1, p2, p3]
    refine tk 7 rfl hH ?_
    simp only [Act.put, p1, p2, p3]
    refine tk 8 rfl hH ?_
    simp only [Act.put, p1, p2, p3]
    refine tk 9 rfl hH ?_
    simp only [Act.put, p1, p2, p3]
    refine tk 10 rfl hH ?_
    simp only [Act.put, p1, p2, p3]
    refine tk 11 rfl hH ?_
    simp only [Act.put, p1, p2, p3]
    refine tk 12 rfl hH ?_
    simp only [Act.put, p1, p2, p3]
    refine tk 13 rfl hH ?_
    simp only [Act.put, p1, p2, p3]
    refine tkR 14 rfl hH (fun _ h => h.1) (rwD 1 1 0 5 1 0) ?_
    simp only [Act.put, p1, p2, p3]
    refine tk 16 rfl hH ?_
    simp only [Act.put, p1, p2, p3]
    refine rd1 15 rfl (fun K hK => ?_)
    go_simp
    refine (put_is 5 _).mono ?_
    rintro e W ⟨rfl, hb⟩
    replace hM := hid (hM.out.later hb)
    clear hb
    go_wp2_with fail
    refine hK.out _ _ ⟨hM.out.at 0 rfl, hM.out.at 2 rfl⟩ (fun hH => ?_)
    clear hK K
    try simp only [Act.put, p1, p2, p3]
    refine tk 17 rfl hH ?_
    simp only [Act.put, p1, p2, p3]
    refine tk 18 rfl hH ?_
    simp only [Act.put, p1, p2, p3]
    refine tk 19 rfl hH ?_
    simp only [Act.put, p1, p2, p3]
    refine tk 20 rfl hH ?_
    simp only [Act.put, p1, p2, p3]
    refine tk 21 rfl hH ?_
    simp only [Act.put, p1, p2, p3]
    refine tk 22 rfl hH ?_ (by intro w h; have c0 := h.2.rwordx (show 27 < 32 by decide) H27.out; clear h; go_simp; try with_reducible rfl)
    simp only [Act.put, p1, p2, p3]
    refine tk 23 rfl hH ?_
    simp only [Act.put, p1, p2, p3]
    refine tk 24 rfl hH ?_
    simp only [Act.put, p1, p2, p3]
    refine tk 25 rfl hH ?_
    simp only [Act.put, p1, p2, p3]
    refine tk 26 rfl hH ?_
    simp only [Act.put, p1, p2, p3]
    refine tk 27 rfl hH ?_ (by intro w h; have c0 := h.2.rwordx (show 1 < 32 by decide) H1.out; clear h; go_simp; try with_reducible rfl)
    simp only [Act.put, p1, p2, p3]
    refine tk 28 rfl hH ?_
    simp only [Act.put, p1, p2, p3]
    refine tk 29 rfl hH ?_
    simp only [Act.put, p1, p2, p3]
    refine tk 30 rfl hH ?_
    simp only [Act.put, p1, p2]
    refine wpAnyH_done (by kernel_rfl) ?_ _
    go_wp2
    go_ret
    exact ⟨rfl, hM.out.below⟩
  refine rdc rfl (fun K hK => ?_) AllReadyH.nil
  go_simp
  replace hM := hid (hM.out.bornR rl_zero.symm 24 rfl)
  refine hK.out _ _ (hM.out.at 1 rfl) (fun hH => ?_)
  clear hK K
  generalize W.heap.size = bq2 at hM hH ⊢
  generalize World.alloc _ _ = W at hM hH  ⊢
  try simp only [Act.put, p1, p2, p3]
  refine rd1 1 rfl (fun K hK => ?_)
  go_simp
  refine (put_is 5 _).mono ?_
  rintro e W ⟨rfl, hb⟩
  replace hM := hid (hM.out.later hb)
  clear hb
  go_wp2_with fail
  refine hK.out _ _ (hM.out.at 1 rfl) (fun hH => ?_)
  clear hK K
  try simp only [Act.put, p1, p2, p3]
  refine tk 2 rfl hH ?_
  simp only [Act.put, p1, p2, p3]
  refine rd1 3 rfl (fun K hK => ?_)
  go_simp
  refine (put_is 5 _).mono ?_
  rintro e W ⟨rfl, hb⟩
  replace hM := hid (hM.out.later hb)
  clear hb
  go_wp2_with fail
  refine hK.out _ _ (hM.out.at 1 rfl) (fun hH => ?_)
  clear hK K
  try simp only [Act.put, p1, p2, p3]
  refine tk 4 rfl hH ?_
  simp only [Act.put, p1, p2, p3]
  refine rd1 5 rfl (fun K hK => ?_)
  go_simp
  refine (put_is 1 _).mono ?_
  rintro e W ⟨rfl, hb⟩
  replace hM := hid (hM.out.later hb)
  clear hb
  go_wp2_with fail
  refine hK.out _ _ (hM.out.at 1 rfl) (fun hH => ?_)
  clear hK K
  try simp only [Act.put, p1, p2, p3]
  refine tk 6 rfl hH ?_
  simp only [Act.put, p1, p2, p3]
  refine rd1 7 rfl (fun K hK => ?_)
  go_simp
  replace hM := hid (hM.out.born [.int .i64 1, .int .i64 1, .int .i64 1, .int .i64 0, .int .i64 5, .int .i64 1, .int .i64 1, .int .i64 1, .int .i64 0, .int .i64 5, .int .i64 0, .int .i64 0, .int .i64 1, .int .i64 0, .int .i64 1] 33 rfl)
  refine hK.out _ _ (hM.out.at 2 rfl) (fun hH => ?_)
  clear hK K
  generalize W.heap.size = bq3 at hM hH ⊢
  generalize World.alloc _ _ = W at hM hH  ⊢
  try simp only [Act.put, p1, p2, p3]
  refine rd1 8 rfl (fun K hK => ?_)
  go_simp
  refine (DO.out (hM.out.at 0 rfl)).mono ?_
  rintro e W ⟨g, cap, rfl, hcap, hg, hG, hb⟩
  replace hM := hid (hM.out.laterB hb hg hG)
  clear hb
  have HCAP : Hid _ := hcap
  clear hcap hg hG
  go_wp2_with fail
  refine hK.out _ _ (hM.out.at 3 rfl) (fun hH => ?_)
  clear hK K
  try simp only [Act.put, p1, p2, p3]
  refine tk 9 rfl hH ?_
  simp only [Act.put, p1, p2, p3]
  refine tk 10 rfl hH ?_
  simp only [Act.put, p1, p2, p3]
  refine tk 11 rfl hH ?_
  simp only [Act.put, p1, p2, p3]
  refine tk 12 rfl hH ?_
  simp only [Act.put, p1, p2, p3]
  refine rd1 14 rfl (fun K hK => ?_)
  refine stR rfl (hM.out.at 2 rfl) ((rwR wz).len (rwR pr)) (rwR pr) ?_
  simp only [Act.put]
  replace hM := hid (hM.out.put 2 rfl (rl pr) ((rwR wz).len (rwR pr)))
  refine hK.out _ _ (hM.out.at 3 rfl) (fun hH => ?_)
  clear hK K
  generalize World.setCells _ _ _ _ = W at hM hH ⊢
  try simp only [Act.put, p1, p2, p3]
  refine tk 15 rfl hH ?_
  simp only [Act.put, p1, p2, p3]
  refine tk 16 rfl hH ?_
  simp only [Act.put, p1, p2, p3]
  refine wpAnyH_done (by kernel_rfl) ?_ _
  go_wp2_with fail
  replace hM := hid (hM.out.drew)
  refine wp_region_held_drew (S := fun w' => Bo w' g [.int .i64 1, .int .i64 1, .int .i64 0, .int .i64 5, .int .i64 1, .int .i64 0] ∧ Bo w' bq2 (rl pr)) (by kernel_rfl) ⟨hM.out.at 0 rfl, hM.out.at 2 rfl⟩ (fun hH => ?_)
  generalize World.drew _ = W at hM hH  ⊢
  refine tk 0 rfl hH ?_
  simp only [Act.put, p1, p2, p3]
  refine tk 1 rfl hH ?_
  simp only [Act.put, p1, p2, p3]
  refine tk 2 rfl hH ?_
  simp only [Act.put, p1, p2, p3]
  refine tk 3 rfl hH ?_
  simp only [Act.put, p1, p2, p3]
  refine tk 4 rfl hH ?_
  simp only [Act.put, p1, p2, p3]
  refine tk 5 rfl hH ?_
  simp only [Act.put, p1, p2, p3]
  refine tk 6 rfl hH ?_
  simp only [Act.put, p1, p2, p3]
  refine tk 7 rfl hH ?_
  simp only [Act.put, p1, p2, p3]
  refine tk 8 rfl hH ?_
  simp only [Act.put, p1, p2, p3]
  refine tk 9 rfl hH ?_
  simp only [Act.put, p1, p2, p3]
  refine tk 10 rfl hH ?_
  simp only [Act.put, p1, p2, p3]
  refine tk 11 rfl hH ?_
  simp only [Act.put, p1, p2, p3]
  refine tk 12 rfl hH ?_
  simp only [Act.put, p1, p2, p3]
  refine tk 13 rfl hH ?_
  simp only [Act.put, p1, p2, p3]
  refine tkR 14 rfl hH (fun _ h => h.1) (rwD 1 1 0 5 1 0) ?_
  simp only [Act.put, p1, p2, p3]
  refine tk 16 rfl hH ?_
  simp only [Act.put, p1, p2, p3]
  refine rd1 15 rfl (fun K hK => ?_)
  go_simp
  refine (put_is 5 _).mono ?_
  rintro e W ⟨rfl, hb⟩
  replace hM := hid (hM.out.later hb)
  clear hb
  go_wp2_with fail
  refine hK.out _ _ ⟨hM.out.at 0 rfl, hM.out.at 2 rfl⟩ (fun hH => ?_)
  clear hK K
  try simp only [Act.put, p1, p2, p3]
  refine tk 17 rfl hH ?_
  simp only [Act.put, p1, p2, p3]
  refine tk 18 rfl hH ?_
  simp only [Act.put, p1, p2, p3]
  refine tk 19 rfl hH ?_
  simp only [Act.put, p1, p2, p3]
  refine tk 20 rfl hH ?_
  simp only [Act.put, p1, p2, p3]
  refine tk 21 rfl hH ?_
  simp only [Act.put, p1, p2, p3]
  refine tk 22 rfl hH ?_ (by intro w h; have c0 := h.2.rwordx (show 27 < 32 by decide) H27.out; clear h; go_simp; try with_reducible rfl)
  simp only [Act.put, p1, p2, p3]
  refine tk 23 rfl hH ?_
  simp only [Act.put, p1, p2, p3]
  refine tk 24 rfl hH ?_
  simp only [Act.put, p1, p2, p3]
  refine tk 25 rfl hH ?_
  simp only [Act.put, p1, p2, p3]
  refine tk 26 rfl hH ?_
  simp only [Act.put, p1, p2, p3]
  refine tk 27 rfl hH ?_ (by intro w h; have c0 := h.2.rwordx (show 1 < 32 by decide) H1.out; clear h; go_simp; try with_reducible rfl)
  simp only [Act.put, p1, p2, p3]
  refine tk 28 rfl hH ?_
  simp only [Act.put, p1, p2, p3]
  refine tk 29 rfl hH ?_
  simp only [Act.put, p1, p2, p3]
  refine tk 30 rfl hH ?_
  simp only [Act.put, p1, p2]
  refine wpAnyH_done (by kernel_rfl) ?_ _
  go_wp2
  go_ret
  exact ⟨rfl, hM.out.below⟩
end Go.Proofs.YteogbpaaacmllaaDoor.Tab
namespace Go.Proofs.YteogbpaaacmllaaDoor.Tab
set_option maxRecDepth 20000
open Go.RowKit
set_option linter.unusedVariables false

theorem put9_odo : (odo ((newR 1 0 : Nat)) (ob (newR 1)) 1 0 9).2 = (1, 0) := by decide
def recP : Nat → Nat := rdo (newR 1) 2 1 0 9
theorem recP_rec : isRec recP := rdo_rec (newR_rec (by decide) (by decide)) ⟨by decide, by decide, by decide, by decide, by decide, by decide⟩ (by decide) (by decide)
theorem recP_20 : recP 20 = 4294967296 := by
  have := rdo_a (r := newR 1) (t := 2) (o := 1) (k := 0) (x := 9) (by decide)
  rw [put9_odo] at this
  exact this
theorem recP_24 : recP 24 = 1 := rdo_w (r := newR 1) (t := 2) (o := 1) (k := 0) (x := 9) (by decide)
theorem recP_26 : recP 26 = 4 := rdo_26 (r := newR 1) (t := 2) (o := 1) (k := 0) (x := 9)
set_option maxHeartbeats 8000000 in
theorem recorded_is  (w : World) :
    Calls Tryd.prog 10 #[] w (fun e w' => e = .returned (.bool true) ∧ Below w.heap.size w w') := by
  have HZ := newR_rec (k := 1) (by decide) (by decide)
  have NW : Hid (∀ w : World, Calls Tryd.prog 18 #[.int .i64 1] w fun e w' => e = .returned (.tuple #[.agg (rl (newR 1)).toArray, .nilIface]) ∧ Below w.heap.size w w') := fun w => recNew_yes (k := 1) (by decide) (by decide) w
  have DO : Hid (∀ w : World, Calls Tryd.prog 20 #[.agg (rl (newR 1)).toArray, .int .i64 2, .agg #[.int .i64 1, .int .i64 0, .int .i64 9]] w fun e w' => e = .returned (.tuple #[.agg (rl recP).toArray, .nilIface]) ∧ Below w.heap.size w w') := fun w => recDone_yes (t := 2) HZ.u64 (by decide) HZ ⟨by decide, by decide, by decide, by decide, by decide, by decide⟩ w
  have AN : Hid (∀ w : World, Calls Tryd.prog 21 #[.agg (rl recP).toArray, .int .i64 2] w fun e w' => e = .returned (.tuple #[.agg #[.int .i64 1, .int .i64 0], .int .i64 1, .nilIface]) ∧ Below w.heap.size w w') := fun w => by
    have h := recAnswer_yes (r := recP) recP_rec.u64 (i := 2) (by decide) (by show Aw (recP 20); rw [recP_20]; decide) w
    rw [show recP (18 + 2) = 4294967296 from recP_20, show recP (22 + 2) = 1 from recP_24] at h
    exact h
  have TG : Hid (∀ w : World, Calls Tryd.prog 14 #[.agg (rl recP).toArray, .int .i64 2] w fun e w' => e = .returned (.int .i64 1) ∧ Below w.heap.size w w') := fun w => by
    have h := toggle_yes recP (t := 2) (by decide) (recP_rec.u64 26 (by decide)) w
    rw [recP_26] at h
    exact h
  have TZ : Hid (∀ w : World, Calls Tryd.prog 14 #[.agg (rl (newR 1)).toArray, .int .i64 2] w fun e w' => e = .returned (.int .i64 0) ∧ Below w.heap.size w w') := fun w => toggle_yes (newR 1) (t := 2) (by decide) (HZ.u64 26 (by decide)) w
  have RZ : Hid (∀ w : World, _) := recRight_is HZ.u64 (v := true) ⟨fun _ => HZ, fun _ => rfl⟩
  have RP : Hid (∀ w : World, _) := recRight_is recP_rec.u64 (v := true) ⟨fun _ => recP_rec, fun _ => rfl⟩
  clear HZ
  generalize newR 1 = zr at *
  generalize recP = pr at *
  have hM : Hid _ := (Ms.nil w)
  go_enter Tryd.func10, Tryd.ntmps10
  go_wp2_with fail
  refine (NW.out _).mono ?_
  rintro e W ⟨rfl, hb⟩
  replace hM := hid (hM.out.later hb)
  clear hb
  generalize hsz : w.heap.size = n at hM ⊢
  clear hsz
  obtain ⟨bx1, hbx1⟩ : ∃ q, q = W.heap.size := ⟨_, rfl⟩
  replace hM := hid (hM.out.bornR rl_zero.symm 24 (b := bx1) hbx1)
  have Hbx1 : Hid _ := hbx1
  clear hbx1
  go_wp2_with (first
    | (rw [← Hbx1.out]; refine sR rfl (hM.out.at 0 rfl) rfl ((rwR wz).len (rwR zr)) (rwR zr) ?_
       replace hM := hid (hM.out.put 0 rfl (rl zr) ((rwR wz).len (rwR zr)))
       generalize World.setCells _ _ _ _ = W at hM ⊢))
  go_cut [3, 4] (fun s3 s4 wx => ∃ bz3 : Nat, s3 = .pointer (some ⟨bz3, 0, none⟩) ∧ s4 = .nilIface ∧ Hid (Ms n w wx [(bx1, (rl zr)), (bz3, (rl pr))] []))
  case first =>
    replace hM := hid (hM.out.drew)
    refine wp_region_held_drew (S := fun w' => Bo w' bx1 (rl zr)) (by kernel_rfl) (hM.out.at 0 rfl) (fun hH => ?_)
    generalize World.drew _ = W at hM hH  ⊢
    refine tkR 0 rfl hH (fun _ h => h) (rwR zr) ?_
    simp only [Act.put, p1, p2, p3]
    refine rdn [1, 6] ?_
    refine rdc rfl (fun K hK => ?_) ?_
    · go_simp
      refine (put_is 9 _).mono ?_
      rintro e W ⟨rfl, hb⟩
      replace hM := hid (hM.out.later hb)
      clear hb
      go_wp2_with fail
      refine hK.out _ _ (hM.out.at 0 rfl) (fun hH => ?_)
      clear hK K
      try simp only [Act.put, p1, p2, p3]
      refine rdn [2, 6] ?_
      refine rdc rfl (fun K hK => ?_) ?_
      · go_simp
        refine (DO.out _).mono ?_
        rintro e W ⟨rfl, hb⟩
        replace hM := hid (hM.out.later hb)
        clear hb
        go_wp2_with fail
        refine hK.out _ _ (hM.out.at 0 rfl) (fun hH => ?_)
        clear hK K
        try simp only [Act.put, p1, p2, p3]
        refine tk 3 rfl hH ?_
        simp only [Act.put, p1, p2, p3]
        refine tk 4 rfl hH ?_
        simp only [Act.put, p1, p2, p3]
        refine tk 5 rfl hH ?_
        simp only [Act.put, p1, p2, p3]
        refine rd1 6 rfl (fun K hK => ?_)
        go_simp
        replace hM := hid (hM.out.bornR rl_zero.symm 24 rfl)
        refine hK.out _ _ (hM.out.at 1 rfl) (fun hH => ?_)
        clear hK K
        generalize W.heap.size = bq2 at hM hH ⊢
        generalize World.alloc _ _ = W at hM hH  ⊢
        try simp only [Act.put, p1, p2, p3]
        refine rd1 7 rfl (fun K hK => ?_)
        refine stR rfl (hM.out.at 0 rfl) ((rwR wz).len (rwR pr)) (rwR pr) ?_
        simp only [Act.put]
        replace hM := hid (hM.out.put 0 rfl (rl pr) ((rwR wz).len (rwR pr)))
        refine hK.out _ _ (hM.out.at 1 rfl) (fun hH => ?_)
        clear hK K
        generalize World.setCells _ _ _ _ = W at hM hH ⊢
        try simp only [Act.put, p1, p2, p3]
        refine tk 8 rfl hH ?_
        simp only [Act.put, p1, p2, p3]
        refine wpAnyH_done (by kernel_rfl) ?_ _
        go_wp2_with fail
        go_meet
        case rel => exact ⟨bq2, rfl, rfl, (hM.out.pick [1, 0]).pickL []⟩
      refine rdc rfl (fun K hK => ?_) AllReadyH.nil
      go_simp
      replace hM := hid (hM.out.bornR rl_zero.symm 24 rfl)
      refine hK.out _ _ (hM.out.at 1 rfl) (fun hH => ?_)
      clear hK K
      generalize W.heap.size = bq2 at hM hH ⊢
      generalize World.alloc _ _ = W at hM hH  ⊢
      try simp only [Act.put, p1, p2, p3]
      refine rd1 2 rfl (fun K hK => ?_)
      go_simp
      refine (DO.out _).mono ?_
      rintro e W ⟨rfl, hb⟩
      replace hM := hid (hM.out.later hb)
      clear hb
      go_wp2_with fail
      refine hK.out _ _ (hM.out.at 1 rfl) (fun hH => ?_)
      clear hK K
      try simp only [Act.put, p1, p2, p3]
      refine tk 3 rfl hH ?_
      simp only [Act.put, p1, p2, p3]
      refine tk 4 rfl hH ?_
      simp only [Act.put, p1, p2, p3]
      refine tk 5 rfl hH ?_
      simp only [Act.put, p1, p2, p3]
      refine rd1 7 rfl (fun K hK => ?_)
      refine stR rfl (hM.out.at 0 rfl) ((rwR wz).len (rwR pr)) (rwR pr) ?_
      simp only [Act.put]
      replace hM := hid (hM.out.put 0 rfl (rl pr) ((rwR wz).len (rwR pr)))
      refine hK.out _ _ (hM.out.at 1 rfl) (fun hH => ?_)
      clear hK K
      generalize World.setCells _ _ _ _ = W at hM hH ⊢
      try simp only [Act.put, p1, p2, p3]
      refine tk 8 rfl hH ?_
      simp only [Act.put, p1, p2, p3]
      refine wpAnyH_done (by kernel_rfl) ?_ _
      go_wp2_with fail
      go_meet
      case rel => exact ⟨bq2, rfl, rfl, (hM.out.pick [1, 0]).pickL []⟩
    refine rdc rfl (fun K hK => ?_) AllReadyH.nil
    go_simp
    replace hM := hid (hM.out.bornR rl_zero.symm 24 rfl)
    refine hK.out _ _ (hM.out.at 1 rfl) (fun hH => ?_)
    clear hK K
    generalize W.heap.size = bq2 at hM hH ⊢
    generalize World.alloc _ _ = W at hM hH  ⊢
    try simp only [Act.put, p1, p2, p3]
    refine rd1 1 rfl (fun K hK => ?_)
    go_simp
    refine (put_is 9 _).mono ?_
    rintro e W ⟨rfl, hb⟩
    replace hM := hid (hM.out.later hb)
    clear hb
    go_wp2_with fail
    refine hK.out _ _ (hM.out.at 1 rfl) (fun hH => ?_)
    clear hK K
    try simp only [Act.put, p1, p2, p3]
    refine rd1 2 rfl (fun K hK => ?_)
    go_simp
    refine (DO.out _).mono ?_
    rintro e W ⟨rfl, hb⟩
    replace hM := hid (hM.out.later hb)
    clear hb
    go_wp2_with fail
    refine hK.out _ _ (hM.out.at 1 rfl) (fun hH => ?_)
    clear hK K
    try simp only [Act.put, p1, p2, p3]
    refine tk 3 rfl hH ?_
    simp only [Act.put, p1, p2, p3]
    refine tk 4 rfl hH ?_
    simp only [Act.put, p1, p2, p3]
    refine tk 5 rfl hH ?_
    simp only [Act.put, p1, p2, p3]
    refine rd1 7 rfl (fun K hK => ?_)
    refine stR rfl (hM.out.at 0 rfl) ((rwR wz).len (rwR pr)) (rwR pr) ?_
    simp only [Act.put]
    replace hM := hid (hM.out.put 0 rfl (rl pr) ((rwR wz).len (rwR pr)))
    refine hK.out _ _ (hM.out.at 1 rfl) (fun hH => ?_)
    clear hK K
    generalize World.setCells _ _ _ _ = W at hM hH ⊢
    try simp only [Act.put, p1, p2, p3]
    refine tk 8 rfl hH ?_
    simp only [Act.put, p1, p2, p3]
    refine wpAnyH_done (by kernel_rfl) ?_ _
    go_wp2_with fail
    go_meet
    case rel => exact ⟨bq2, rfl, rfl, (hM.out.pick [1, 0]).pickL []⟩
  case rest =>
    obtain ⟨bz3, rfl, rfl, hM⟩ := hcut
    generalize wc = W at hM ⊢
    go_wp2_with (first
      | (refine lR rfl (hM.out.at 1 rfl) rfl (rwR pr) ?_))
    refine (AN.out _).mono ?_
    rintro e W ⟨rfl, hb⟩
    replace hM := hid (hM.out.later hb)
    clear hb
    obtain ⟨bx2, hbx2⟩ : ∃ q, q = W.heap.size := ⟨_, rfl⟩
    replace hM := hid (hM.out.born [.int .i64 0, .int .i64 0] 57 (b := bx2) hbx2)
    have Hbx2 : Hid _ := hbx2
    clear hbx2
    go_wp2_with (first
      | (rw [← Hbx2.out]; refine sR rfl (hM.out.at 0 rfl) rfl ((rwA 0 0).len (rwA 1 0)) (rwA 1 0) ?_
         replace hM := hid (hM.out.put 0 rfl [.int .i64 1, .int .i64 0] ((rwA 0 0).len (rwA 1 0)))
         generalize World.setCells _ _ _ _ = W at hM ⊢
         have c3 := hM.out.cell 0 0 rfl rfl
         have c4 := hM.out.cell 0 1 rfl rfl)
      | (refine lW rfl (hM.out.at 1 rfl) rfl (rwR zr) ?_))
    refine (RZ.out _).mono ?_
    rintro e W ⟨rfl, hb⟩
    replace hM := hid (hM.out.later hb)
    clear hb
    clear c3 c4
    go_wp2_with (first
      | (refine lW rfl (hM.out.at 2 rfl) rfl (rwR pr) ?_))
    refine (RP.out _).mono ?_
    rintro e W ⟨rfl, hb⟩
    replace hM := hid (hM.out.later hb)
    clear hb
    have c5 := hM.out.cell 0 0 rfl rfl
    have c6 := hM.out.cell 0 1 rfl rfl
    go_wp2_with (first
      | (refine lW rfl (hM.out.at 2 rfl) rfl (rwR pr) ?_))
    refine (TG.out _).mono ?_
    rintro e W ⟨rfl, hb⟩
    replace hM := hid (hM.out.later hb)
    clear hb
    clear c5 c6
    go_wp2_with (first
      | (refine lW rfl (hM.out.at 1 rfl) rfl (rwR zr) ?_))
    refine (TZ.out _).mono ?_
    rintro e W ⟨rfl, hb⟩
    replace hM := hid (hM.out.later hb)
    clear hb
    go_wp2
    go_ret
    exact ⟨rfl, hM.out.below⟩
end Go.Proofs.YteogbpaaacmllaaDoor.Tab
namespace Go.Proofs.YteogbpaaacmllaaDoor.Tab
set_option maxRecDepth 20000
open Go.RowKit
set_option linter.unusedVariables false

set_option maxHeartbeats 8000000 in
theorem written_nil {kind m : Nat} (h1 : 1 ≤ kind) (h6 : kind ≤ 6) (w : World) :
    Calls Tryd.prog 11 #[.int .i64 (kind : Nat), .slice none 0 0] w (fun e w' => ∃ r, isRec r ∧ r 0 = kind ∧ r 28 ≤ 30 ∧ (m = 0 → rl r = rl (newR kind)) ∧ e = .returned (.agg (rl r).toArray) ∧ Below w.heap.size w w') := by
  have NW : Hid (∀ w : World, _) := recNew_yes h1 h6
  have NR : Hid (isRec (newR kind)) := newR_rec h1 h6
  clear h1 h6
  have hM : Hid _ := ((Ms.nil w).bornR rl_zero.symm 24 (b := w.heap.size) rfl)
  go_enter Tryd.func11, Tryd.ntmps11
  go_wp2_with fail
  generalize World.alloc _ _ = W at hM ⊢
  generalize hsz : w.heap.size = n at hM ⊢
  clear hsz
  refine (NW.out _).mono ?_
  rintro e W ⟨rfl, hb⟩
  replace hM := hid (hM.out.later hb)
  clear hb
  obtain ⟨bx1, hbx1⟩ : ∃ q, q = W.heap.size := ⟨_, rfl⟩
  replace hM := hid (hM.out.bornR rl_zero.symm 24 (b := bx1) hbx1)
  have Hbx1 : Hid _ := hbx1
  clear hbx1
  go_wp2_with (first
    | (rw [← Hbx1.out]; refine sR rfl (hM.out.at 0 rfl) rfl ((rwR wz).len (rwR (newR kind))) (rwR (newR kind)) ?_
       replace hM := hid (hM.out.put 0 rfl (rl (newR kind)) ((rwR wz).len (rwR (newR kind))))
       generalize World.setCells _ _ _ _ = W at hM ⊢))
  go_loopg [22] 0 (fun gg s22 wt => wt = W ∧ s22 = .int .i64 0)
  case atStart => exact ⟨rfl, rfl⟩
  case round =>
    obtain ⟨hw, rfl⟩ := hrel
    rw [hw]; clear hw wr
    go_wp2_with (first
      | (refine lR rfl (hM.out.at 0 rfl) rfl (rwR (newR kind)) ?_)
      | (refine sR rfl (hM.out.at 1 rfl) rfl ((rwR wz).len (rwR (newR kind))) (rwR (newR kind)) ?_
         replace hM := hid (hM.out.put 1 rfl (rl (newR kind)) ((rwR wz).len (rwR (newR kind))))
         generalize World.setCells _ _ _ _ = W at hM ⊢))
    exact bodyPost_ret (res1 Tryd.results11 (hM.out.at 1 rfl) (rwR (newR kind))) rfl ⟨newR kind, NR.out, by unfold newR; rw [if_pos rfl], by unfold newR; rw [if_neg (by decide)]; omega, fun _ => rfl, rfl, hM.out.below⟩
set_option maxHeartbeats 8000000 in
theorem written_none {kind m : Nat} (h1 : 1 ≤ kind) (h6 : kind ≤ 6) (a : Addr) (c : Nat) (w : World) :
    Calls Tryd.prog 11 #[.int .i64 (kind : Nat), .slice (some a) 0 c] w (fun e w' => ∃ r, isRec r ∧ r 0 = kind ∧ r 28 ≤ 30 ∧ (m = 0 → rl r = rl (newR kind)) ∧ e = .returned (.agg (rl r).toArray) ∧ Below w.heap.size w w') := by
  have NW : Hid (∀ w : World, _) := recNew_yes h1 h6
  have NR : Hid (isRec (newR kind)) := newR_rec h1 h6
  clear h1 h6
  have hM : Hid _ := ((Ms.nil w).bornR rl_zero.symm 24 (b := w.heap.size) rfl)
  go_enter Tryd.func11, Tryd.ntmps11
  go_wp2_with fail
  generalize World.alloc _ _ = W at hM ⊢
  generalize hsz : w.heap.size = n at hM ⊢
  clear hsz
  refine (NW.out _).mono ?_
  rintro e W ⟨rfl, hb⟩
  replace hM := hid (hM.out.later hb)
  clear hb
  obtain ⟨bx1, hbx1⟩ : ∃ q, q = W.heap.size := ⟨_, rfl⟩
  replace hM := hid (hM.out.bornR rl_zero.symm 24 (b := bx1) hbx1)
  have Hbx1 : Hid _ := hbx1
  clear hbx1
  go_wp2_with (first
    | (rw [← Hbx1.out]; refine sR rfl (hM.out.at 0 rfl) rfl ((rwR wz).len (rwR (newR kind))) (rwR (newR kind)) ?_
       replace hM := hid (hM.out.put 0 rfl (rl (newR kind)) ((rwR wz).len (rwR (newR kind))))
       generalize World.setCells _ _ _ _ = W at hM ⊢))
  go_loopg [22] 0 (fun gg s22 wt => wt = W ∧ s22 = .int .i64 0)
  case atStart => exact ⟨rfl, rfl⟩
  case round =>
    obtain ⟨hw, rfl⟩ := hrel
    rw [hw]; clear hw wr
    go_wp2_with (first
      | (refine lR rfl (hM.out.at 0 rfl) rfl (rwR (newR kind)) ?_)
      | (refine sR rfl (hM.out.at 1 rfl) rfl ((rwR wz).len (rwR (newR kind))) (rwR (newR kind)) ?_
         replace hM := hid (hM.out.put 1 rfl (rl (newR kind)) ((rwR wz).len (rwR (newR kind))))
         generalize World.setCells _ _ _ _ = W at hM ⊢))
    exact bodyPost_ret (res1 Tryd.results11 (hM.out.at 1 rfl) (rwR (newR kind))) rfl ⟨newR kind, NR.out, by unfold newR; rw [if_pos rfl], by unfold newR; rw [if_neg (by decide)]; omega, fun _ => rfl, rfl, hM.out.below⟩
set_option maxHeartbeats 8000000 in
theorem written_some {kind : Nat} (h1 : 1 ≤ kind) (h6 : kind ≤ 6) {v : Value} {b off c m : Nat} (hv : v = .slice (some ⟨b, off, none⟩) m c) (h0 : 0 < m) (hc : m ≤ c) (hm : m ≤ 9223372036854775807) (w : World) (D : Dds w v m) :
    Calls Tryd.prog 11 #[.int .i64 (kind : Nat), v] w (fun e w' => ∃ r, isRec r ∧ r 0 = kind ∧ r 28 ≤ 30 ∧ (m = 0 → rl r = rl (newR kind)) ∧ e = .returned (.agg (rl r).toArray) ∧ Below w.heap.size w w') := by
  have NW : Hid (∀ w : World, _) := recNew_yes h1 h6
  have NR : Hid (isRec (newR kind)) := newR_rec h1 h6
  have HE : Hid (∀ w', Below w.heap.size w w' → ∀ i, i < m → ∃ t o k x cc y : Int, w'.rangeAt b (off + i * 6) (dl t o k x cc y)) := by
    intro w' hb i hi
    rcases D.later hb with ⟨h, _⟩ | ⟨b2, off2, c2, hv2, _, _, _, hh⟩
    · omega
    · rw [hv] at hv2
      injection hv2 with e1 _ _
      injection e1 with e1
      injection e1 with e1 e2
      subst e1 e2
      exact hh i hi
  clear D
  subst hv
  obtain ⟨q, hq⟩ : ∃ q, q = min m 30 := ⟨_, rfl⟩
  have eq : min (m : Int) 30 = (q : Int) := by omega
  have eq2 : (if (30 : Int) < (m : Int) then (30 : Int) else (m : Int)) = (q : Int) := by split <;> omega
  have hqc : (q : Int) ≤ (c : Int) := by omega
  have hq0 : (0 : Int) ≤ (q : Int) := by omega
  have HQ : Hid (q ≤ m ∧ q ≤ 30 ∧ 0 < m) := (by omega : q ≤ m ∧ q ≤ 30 ∧ 0 < m)
  clear hq h0 hc hm h1 h6
  have hM : Hid _ := ((Ms.nil w).bornR rl_zero.symm 24 (b := w.heap.size) rfl)
  go_enter Tryd.func11, Tryd.ntmps11
  go_wp2_with fail
  generalize World.alloc _ _ = W at hM ⊢
  generalize hsz : w.heap.size = n at hM ⊢
  clear hsz
  refine (NW.out _).mono ?_
  rintro e W ⟨rfl, hb⟩
  replace hM := hid (hM.out.later hb)
  clear hb
  obtain ⟨bx1, hbx1⟩ : ∃ q, q = W.heap.size := ⟨_, rfl⟩
  replace hM := hid (hM.out.bornR rl_zero.symm 24 (b := bx1) hbx1)
  have Hbx1 : Hid _ := hbx1
  clear hbx1
  go_wp2_with (first
    | (rw [← Hbx1.out]; refine sR rfl (hM.out.at 0 rfl) rfl ((rwR wz).len (rwR (newR kind))) (rwR (newR kind)) ?_
       replace hM := hid (hM.out.put 0 rfl (rl (newR kind)) ((rwR wz).len (rwR (newR kind))))
       generalize World.setCells _ _ _ _ = W at hM ⊢))
  go_loopg [22] q (fun gg s22 wt => ∃ i : Nat, i ≤ q ∧ q - i ≤ gg ∧ s22 = .int .i64 i ∧ ∃ d, Hid (isRec d ∧ d 0 = kind ∧ d 28 ≤ i) ∧ Hid (Ms n w wt [(bx1, rl d), (n, rl wz)] []))
  case atStart => exact ⟨0, by omega, by omega, rfl, newR kind, ⟨NR.out, by unfold newR; rw [if_pos rfl], by unfold newR; rw [if_neg (by decide)]; omega⟩, hM⟩
  case round =>
    clear hM
    obtain ⟨i, hi, hgg, rfl, d, I, hM⟩ := hrel
    obtain ⟨W, rfl⟩ : ∃ q, q = wr := ⟨_, rfl⟩
    by_cases hlt : i < q
    · have hi1 : (i : Int) < (q : Int) := by omega
      have hi0 : (0 : Int) ≤ (i : Int) := by omega
      obtain ⟨t, o, k, x, cc, y, hr⟩ := HE.out W hM.out.below i (by have := HQ.out; omega)
      have RA : Hid _ := hr
      clear hr
      obtain ⟨tt, ht4, PT⟩ := pick4_is t
      have PK : Hid _ := PT
      clear PT
      by_cases hR : Rt o k x
      · have DO : Hid (∀ w : World, _) := recDone_yes I.out.1.u64 ht4 I.out.1 hR
        have I2 : Hid (isRec (rdo d tt o k x) ∧ (rdo d tt o k x) 0 = kind ∧ (rdo d tt o k x) 28 ≤ i + 1) := ⟨rdo_rec I.out.1 hR ht4 (by have := I.out.2.2; have := HQ.out; omega), by rw [rdo_0 ht4]; exact I.out.2.1, by rw [rdo_28]; have := I.out.2.2; omega⟩
        generalize rdo d tt o k x = d2 at *
        clear hR ht4
        obtain ⟨bd, hbd⟩ : ∃ q, q = W.heap.size := ⟨_, rfl⟩
        have HBD : Hid _ := hbd
        clear hbd
        go_wp2_with (first
          | (refine lO rfl RA.out rfl (rwD t o k x cc y) ?_)
          | (rw [← HBD.out]
             replace hM := hid (hM.out.born [.int .i64 0, .int .i64 0, .int .i64 0, .int .i64 0, .int .i64 0, .int .i64 0] 59 HBD.out)
             refine sR rfl (hM.out.at 0 rfl) rfl ((rwD 0 0 0 0 0 0).len (rwD t o k x cc y)) (rwD t o k x cc y) ?_
             replace hM := hid (hM.out.put 0 rfl (dl t o k x cc y) ((rwD 0 0 0 0 0 0).len (rwD t o k x cc y)))
             generalize World.setCells _ _ _ _ = W at hM ⊢))
        replace hM := hid (hM.out.drew)
        refine wp_region_held_drew (S := fun w' => Bo w' bx1 (rl d) ∧ Bo w' bd (dl t o k x cc y)) (by kernel_rfl) ⟨hM.out.at 1 rfl, hM.out.at 0 rfl⟩ (fun hH => ?_)
        generalize World.drew _ = W at hM hH  ⊢
        refine tkR 0 rfl hH (fun _ h => h.1) (rwR d) ?_
        simp only [Act.put, p1, p2, p3]
        refine tk 1 rfl hH ?_
        simp only [Act.put, p1, p2, p3]
        refine tk 2 rfl hH ?_ (by intro w h; have c0 := h.2.at 0 rfl; clear h; go_simp; try with_reducible rfl)
        simp only [Act.put, p1, p2, p3]
        refine tk 4 rfl hH ?_
        simp only [Act.put, p1, p2, p3]
        refine tk 5 rfl hH ?_ (by intro w h; have c0 := h.2.at 1 rfl; have c1 := h.2.at 2 rfl; have c2 := h.2.at 3 rfl; clear h; go_simp; try with_reducible rfl)
        simp only [Act.put, p1, p2, p3]
        refine rdn [3, 10] ?_
        refine rdc rfl (fun K hK => ?_) ?_
        · go_simp
          refine (PK.out _).mono ?_
          rintro e W ⟨rfl, hb⟩
          replace hM := hid (hM.out.later hb)
          clear hb
          go_wp2_with fail
          refine hK.out _ _ ⟨hM.out.at 1 rfl, hM.out.at 0 rfl⟩ (fun hH => ?_)
          clear hK K
          try simp only [Act.put, p1, p2, p3]
          refine rdn [6, 10] ?_
          refine rdc rfl (fun K hK => ?_) ?_
          · go_simp
            refine (DO.out _).mono ?_
            rintro e W ⟨rfl, hb⟩
            replace hM := hid (hM.out.later hb)
            clear hb
            go_wp2_with fail
            refine hK.out _ _ ⟨hM.out.at 1 rfl, hM.out.at 0 rfl⟩ (fun hH => ?_)
            clear hK K
            try simp only [Act.put, p1, p2, p3]
            refine tk 7 rfl hH ?_
            simp only [Act.put, p1, p2, p3]
            refine tk 8 rfl hH ?_
            simp only [Act.put, p1, p2, p3]
            refine tk 9 rfl hH ?_
            simp only [Act.put, p1, p2, p3]
            refine rd1 10 rfl (fun K hK => ?_)
            go_simp
            replace hM := hid (hM.out.bornR rl_zero.symm 24 rfl)
            refine hK.out _ _ ⟨hM.out.at 2 rfl, hM.out.at 1 rfl⟩ (fun hH => ?_)
            clear hK K
            generalize W.heap.size = bq2 at hM hH ⊢
            generalize World.alloc _ _ = W at hM hH  ⊢
            try simp only [Act.put, p1, p2, p3]
            refine rd1 11 rfl (fun K hK => ?_)
            refine stR rfl (hM.out.at 0 rfl) ((rwR wz).len (rwR d2)) (rwR d2) ?_
            simp only [Act.put]
            replace hM := hid (hM.out.put 0 rfl (rl d2) ((rwR wz).len (rwR d2)))
            refine hK.out _ _ ⟨hM.out.at 2 rfl, hM.out.at 1 rfl⟩ (fun hH => ?_)
            clear hK K
            generalize World.setCells _ _ _ _ = W at hM hH ⊢
            try simp only [Act.put, p1, p2, p3]
            refine tk 12 rfl hH ?_
            simp only [Act.put, p1, p2, p3]
            refine wpAnyH_done (by kernel_rfl) ?_ _
            go_wp2_with (first
              | (refine lR rfl (hM.out.at 0 rfl) rfl (rwR d2) ?_)
              | (refine sR rfl (hM.out.at 2 rfl) rfl ((rwR d).len (rwR d2)) (rwR d2) ?_
                 replace hM := hid (hM.out.put 2 rfl (rl d2) ((rwR d).len (rwR d2)))
                 generalize World.setCells _ _ _ _ = W at hM ⊢))
            go_roundg (q - (i + 1))
            case measure => omega
            case rel => exact ⟨i + 1, by omega, by omega, by go_num, d2, I2, hM.out.pick [2, 3]⟩
          refine rdc rfl (fun K hK => ?_) AllReadyH.nil
          go_simp
          replace hM := hid (hM.out.bornR rl_zero.symm 24 rfl)
          refine hK.out _ _ ⟨hM.out.at 2 rfl, hM.out.at 1 rfl⟩ (fun hH => ?_)
          clear hK K
          generalize W.heap.size = bq2 at hM hH ⊢
          generalize World.alloc _ _ = W at hM hH  ⊢
          try simp only [Act.put, p1, p2, p3]
          refine rd1 6 rfl (fun K hK => ?_)
          go_simp
          refine (DO.out _).mono ?_
          rintro e W ⟨rfl, hb⟩
          replace hM := hid (hM.out.later hb)
          clear hb
          go_wp2_with fail
          refine hK.out _ _ ⟨hM.out.at 2 rfl, hM.out.at 1 rfl⟩ (fun hH => ?_)
          clear hK K
          try simp only [Act.put, p1, p2, p3]
          refine tk 7 rfl hH ?_
          simp only [Act.put, p1, p2, p3]
          refine tk 8 rfl hH ?_
          simp only [Act.put, p1, p2, p3]
          refine tk 9 rfl hH ?_
          simp only [Act.put, p1, p2, p3]
          refine rd1 11 rfl (fun K hK => ?_)
          refine stR rfl (hM.out.at 0 rfl) ((rwR wz).len (rwR d2)) (rwR d2) ?_
          simp only [Act.put]
          replace hM := hid (hM.out.put 0 rfl (rl d2) ((rwR wz).len (rwR d2)))
          refine hK.out _ _ ⟨hM.out.at 2 rfl, hM.out.at 1 rfl⟩ (fun hH => ?_)
          clear hK K
          generalize World.setCells _ _ _ _ = W at hM hH ⊢
          try simp only [Act.put, p1, p2, p3]
          refine tk 12 rfl hH ?_
          simp only [Act.put, p1, p2, p3]
          refine wpAnyH_done (by kernel_rfl) ?_ _
          go_wp2_with (first
            | (refine lR rfl (hM.out.at 0 rfl) rfl (rwR d2) ?_)
            | (refine sR rfl (hM.out.at 2 rfl) rfl ((rwR d).len (rwR d2)) (rwR d2) ?_
               replace hM := hid (hM.out.put 2 rfl (rl d2) ((rwR d).len (rwR d2)))
               generalize World.setCells _ _ _ _ = W at hM ⊢))
          go_roundg (q - (i + 1))
          case measure => omega
          case rel => exact ⟨i + 1, by omega, by omega, by go_num, d2, I2, hM.out.pick [2, 3]⟩
        refine rdc rfl (fun K hK => ?_) AllReadyH.nil
        go_simp
        replace hM := hid (hM.out.bornR rl_zero.symm 24 rfl)
        refine hK.out _ _ ⟨hM.out.at 2 rfl, hM.out.at 1 rfl⟩ (fun hH => ?_)
        clear hK K
        generalize W.heap.size = bq2 at hM hH ⊢
        generalize World.alloc _ _ = W at hM hH  ⊢
        try simp only [Act.put, p1, p2, p3]
        refine rd1 3 rfl (fun K hK => ?_)
        go_simp
        refine (PK.out _).mono ?_
        rintro e W ⟨rfl, hb⟩
        replace hM := hid (hM.out.later hb)
        clear hb
        go_wp2_with fail
        refine hK.out _ _ ⟨hM.out.at 2 rfl, hM.out.at 1 rfl⟩ (fun hH => ?_)
        clear hK K
        try simp only [Act.put, p1, p2, p3]
        refine rd1 6 rfl (fun K hK => ?_)
        go_simp
        refine (DO.out _).mono ?_
        rintro e W ⟨rfl, hb⟩
        replace hM := hid (hM.out.later hb)
        clear hb
        go_wp2_with fail
        refine hK.out _ _ ⟨hM.out.at 2 rfl, hM.out.at 1 rfl⟩ (fun hH => ?_)
        clear hK K
        try simp only [Act.put, p1, p2, p3]
        refine tk 7 rfl hH ?_
        simp only [Act.put, p1, p2, p3]
        refine tk 8 rfl hH ?_
        simp only [Act.put, p1, p2, p3]
        refine tk 9 rfl hH ?_
        simp only [Act.put, p1, p2, p3]
        refine rd1 11 rfl (fun K hK => ?_)
        refine stR rfl (hM.out.at 0 rfl) ((rwR wz).len (rwR d2)) (rwR d2) ?_
        simp only [Act.put]
        replace hM := hid (hM.out.put 0 rfl (rl d2) ((rwR wz).len (rwR d2)))
        refine hK.out _ _ ⟨hM.out.at 2 rfl, hM.out.at 1 rfl⟩ (fun hH => ?_)
        clear hK K
        generalize World.setCells _ _ _ _ = W at hM hH ⊢
        try simp only [Act.put, p1, p2, p3]
        refine tk 12 rfl hH ?_
        simp only [Act.put, p1, p2, p3]
        refine wpAnyH_done (by kernel_rfl) ?_ _
        go_wp2_with (first
          | (refine lR rfl (hM.out.at 0 rfl) rfl (rwR d2) ?_)
          | (refine sR rfl (hM.out.at 2 rfl) rfl ((rwR d).len (rwR d2)) (rwR d2) ?_
             replace hM := hid (hM.out.put 2 rfl (rl d2) ((rwR d).len (rwR d2)))
             generalize World.setCells _ _ _ _ = W at hM ⊢))
        go_roundg (q - (i + 1))
        case measure => omega
        case rel => exact ⟨i + 1, by omega, by omega, by go_num, d2, I2, hM.out.pick [2, 3]⟩
      · have DO : Hid (∀ w : World, _) := recDone_wrong I.out.1.u64 ht4 I.out.1 hR
        clear hR ht4
        obtain ⟨bd, hbd⟩ : ∃ q, q = W.heap.size := ⟨_, rfl⟩
        have HBD : Hid _ := hbd
        clear hbd
        go_wp2_with (first
          | (refine lO rfl RA.out rfl (rwD t o k x cc y) ?_)
          | (rw [← HBD.out]
             replace hM := hid (hM.out.born [.int .i64 0, .int .i64 0, .int .i64 0, .int .i64 0, .int .i64 0, .int .i64 0] 59 HBD.out)
             refine sR rfl (hM.out.at 0 rfl) rfl ((rwD 0 0 0 0 0 0).len (rwD t o k x cc y)) (rwD t o k x cc y) ?_
             replace hM := hid (hM.out.put 0 rfl (dl t o k x cc y) ((rwD 0 0 0 0 0 0).len (rwD t o k x cc y)))
             generalize World.setCells _ _ _ _ = W at hM ⊢))
        replace hM := hid (hM.out.drew)
        refine wp_region_held_drew (S := fun w' => Bo w' bx1 (rl d) ∧ Bo w' bd (dl t o k x cc y)) (by kernel_rfl) ⟨hM.out.at 1 rfl, hM.out.at 0 rfl⟩ (fun hH => ?_)
        generalize World.drew _ = W at hM hH  ⊢
        refine tkR 0 rfl hH (fun _ h => h.1) (rwR d) ?_
        simp only [Act.put, p1, p2, p3]
        refine tk 1 rfl hH ?_
        simp only [Act.put, p1, p2, p3]
        refine tk 2 rfl hH ?_ (by intro w h; have c0 := h.2.at 0 rfl; clear h; go_simp; try with_reducible rfl)
        simp only [Act.put, p1, p2, p3]
        refine tk 4 rfl hH ?_
        simp only [Act.put, p1, p2, p3]
        refine tk 5 rfl hH ?_ (by intro w h; have c0 := h.2.at 1 rfl; have c1 := h.2.at 2 rfl; have c2 := h.2.at 3 rfl; clear h; go_simp; try with_reducible rfl)
        simp only [Act.put, p1, p2, p3]
        refine rdn [3, 10] ?_
        refine rdc rfl (fun K hK => ?_) ?_
        · go_simp
          refine (PK.out _).mono ?_
          rintro e W ⟨rfl, hb⟩
          replace hM := hid (hM.out.later hb)
          clear hb
          go_wp2_with fail
          refine hK.out _ _ ⟨hM.out.at 1 rfl, hM.out.at 0 rfl⟩ (fun hH => ?_)
          clear hK K
          try simp only [Act.put, p1, p2, p3]
          refine rdn [6, 10] ?_
          refine rdc rfl (fun K hK => ?_) ?_
          · go_simp
            refine (DO.out _).mono ?_
            rintro e W ⟨rfl, hb⟩
            replace hM := hid (hM.out.later hb)
            clear hb
            go_wp2_with fail
            refine hK.out _ _ ⟨hM.out.at 1 rfl, hM.out.at 0 rfl⟩ (fun hH => ?_)
            clear hK K
            try simp only [Act.put, p1, p2, p3]
            refine tk 7 rfl hH ?_
            simp only [Act.put, p1, p2, p3]
            refine tk 8 rfl hH ?_
            simp only [Act.put, p1, p2, p3]
            refine tk 9 rfl hH ?_
            simp only [Act.put, p1, p2, p3]
            refine rd1 10 rfl (fun K hK => ?_)
            go_simp
            replace hM := hid (hM.out.bornR rl_zero.symm 24 rfl)
            refine hK.out _ _ ⟨hM.out.at 2 rfl, hM.out.at 1 rfl⟩ (fun hH => ?_)
            clear hK K
            generalize W.heap.size = bq2 at hM hH ⊢
            generalize World.alloc _ _ = W at hM hH  ⊢
            try simp only [Act.put, p1, p2, p3]
            refine rd1 11 rfl (fun K hK => ?_)
            refine stR rfl (hM.out.at 0 rfl) ((rwR wz).len (rwR wz)) (rwR wz) ?_
            simp only [Act.put]
            replace hM := hid (hM.out.put 0 rfl (rl wz) ((rwR wz).len (rwR wz)))
            refine hK.out _ _ ⟨hM.out.at 2 rfl, hM.out.at 1 rfl⟩ (fun hH => ?_)
            clear hK K
            generalize World.setCells _ _ _ _ = W at hM hH ⊢
            try simp only [Act.put, p1, p2, p3]
            refine tk 12 rfl hH ?_
            simp only [Act.put, p1, p2, p3]
            refine wpAnyH_done (by kernel_rfl) ?_ _
            go_wp2
            go_roundg (q - (i + 1))
            case measure => omega
            case rel => exact ⟨i + 1, by omega, by omega, by go_num, d, ⟨I.out.1, I.out.2.1, Nat.le_succ_of_le I.out.2.2⟩, hM.out.pick [2, 3]⟩
          refine rdc rfl (fun K hK => ?_) AllReadyH.nil
          go_simp
          replace hM := hid (hM.out.bornR rl_zero.symm 24 rfl)
          refine hK.out _ _ ⟨hM.out.at 2 rfl, hM.out.at 1 rfl⟩ (fun hH => ?_)
          clear hK K
          generalize W.heap.size = bq2 at hM hH ⊢
          generalize World.alloc _ _ = W at hM hH  ⊢
          try simp only [Act.put, p1, p2, p3]
          refine rd1 6 rfl (fun K hK => ?_)
          go_simp
          refine (DO.out _).mono ?_
          rintro e W ⟨rfl, hb⟩
          replace hM := hid (hM.out.later hb)
          clear hb
          go_wp2_with fail
          refine hK.out _ _ ⟨hM.out.at 2 rfl, hM.out.at 1 rfl⟩ (fun hH => ?_)
          clear hK K
          try simp only [Act.put, p1, p2, p3]
          refine tk 7 rfl hH ?_
          simp only [Act.put, p1, p2, p3]
          refine tk 8 rfl hH ?_
          simp only [Act.put, p1, p2, p3]
          refine tk 9 rfl hH ?_
          simp only [Act.put, p1, p2, p3]
          refine rd1 11 rfl (fun K hK => ?_)
          refine stR rfl (hM.out.at 0 rfl) ((rwR wz).len (rwR wz)) (rwR wz) ?_
          simp only [Act.put]
          replace hM := hid (hM.out.put 0 rfl (rl wz) ((rwR wz).len (rwR wz)))
          refine hK.out _ _ ⟨hM.out.at 2 rfl, hM.out.at 1 rfl⟩ (fun hH => ?_)
          clear hK K
          generalize World.setCells _ _ _ _ = W at hM hH ⊢
          try simp only [Act.put, p1, p2, p3]
          refine tk 12 rfl hH ?_
          simp only [Act.put, p1, p2, p3]
          refine wpAnyH_done (by kernel_rfl) ?_ _
          go_wp2
          go_roundg (q - (i + 1))
          case measure => omega
          case rel => exact ⟨i + 1, by omega, by omega, by go_num, d, ⟨I.out.1, I.out.2.1, Nat.le_succ_of_le I.out.2.2⟩, hM.out.pick [2, 3]⟩
        refine rdc rfl (fun K hK => ?_) AllReadyH.nil
        go_simp
        replace hM := hid (hM.out.bornR rl_zero.symm 24 rfl)
        refine hK.out _ _ ⟨hM.out.at 2 rfl, hM.out.at 1 rfl⟩ (fun hH => ?_)
        clear hK K
        generalize W.heap.size = bq2 at hM hH ⊢
        generalize World.alloc _ _ = W at hM hH  ⊢
        try simp only [Act.put, p1, p2, p3]
        refine rd1 3 rfl (fun K hK => ?_)
        go_simp
        refine (PK.out _).mono ?_
        rintro e W ⟨rfl, hb⟩
        replace hM := hid (hM.out.later hb)
        clear hb
        go_wp2_with fail
        refine hK.out _ _ ⟨hM.out.at 2 rfl, hM.out.at 1 rfl⟩ (fun hH => ?_)
        clear hK K
        try simp only [Act.put, p1, p2, p3]
        refine rd1 6 rfl (fun K hK => ?_)
        go_simp
        refine (DO.out _).mono ?_
        rintro e W ⟨rfl, hb⟩
        replace hM := hid (hM.out.later hb)
        clear hb
        go_wp2_with fail
        refine hK.out _ _ ⟨hM.out.at 2 rfl, hM.out.at 1 rfl⟩ (fun hH => ?_)
        clear hK K
        try simp only [Act.put, p1, p2, p3]
        refine tk 7 rfl hH ?_
        simp only [Act.put, p1, p2, p3]
        refine tk 8 rfl hH ?_
        simp only [Act.put, p1, p2, p3]
        refine tk 9 rfl hH ?_
        simp only [Act.put, p1, p2, p3]
        refine rd1 11 rfl (fun K hK => ?_)
        refine stR rfl (hM.out.at 0 rfl) ((rwR wz).len (rwR wz)) (rwR wz) ?_
        simp only [Act.put]
        replace hM := hid (hM.out.put 0 rfl (rl wz) ((rwR wz).len (rwR wz)))
        refine hK.out _ _ ⟨hM.out.at 2 rfl, hM.out.at 1 rfl⟩ (fun hH => ?_)
        clear hK K
        generalize World.setCells _ _ _ _ = W at hM hH ⊢
        try simp only [Act.put, p1, p2, p3]
        refine tk 12 rfl hH ?_
        simp only [Act.put, p1, p2, p3]
        refine wpAnyH_done (by kernel_rfl) ?_ _
        go_wp2
        go_roundg (q - (i + 1))
        case measure => omega
        case rel => exact ⟨i + 1, by omega, by omega, by go_num, d, ⟨I.out.1, I.out.2.1, Nat.le_succ_of_le I.out.2.2⟩, hM.out.pick [2, 3]⟩
    · have hi1 : ¬ (i : Int) < (q : Int) := by omega
      go_wp2_with (first
        | (refine lR rfl (hM.out.at 0 rfl) rfl (rwR d) ?_)
        | (refine sR rfl (hM.out.at 1 rfl) rfl ((rwR wz).len (rwR d)) (rwR d) ?_
           replace hM := hid (hM.out.put 1 rfl (rl d) ((rwR wz).len (rwR d)))
           generalize World.setCells _ _ _ _ = W at hM ⊢))
      exact bodyPost_ret (res1 Tryd.results11 (hM.out.at 1 rfl) (rwR d)) rfl ⟨d, I.out.1, I.out.2.1, by have := I.out.2.2; have := HQ.out; omega, fun h => absurd h (by have := HQ.out; omega), rfl, hM.out.below⟩
theorem written_is {kind : Nat} (h1 : 1 ≤ kind) (h6 : kind ≤ 6) {v : Value} {m : Nat} {w : World} (D : Dds w v m) :
    Calls Tryd.prog 11 #[.int .i64 (kind : Nat), v] w (fun e w' => ∃ r, isRec r ∧ r 0 = kind ∧ r 28 ≤ 30 ∧ (m = 0 → rl r = rl (newR kind)) ∧ e = .returned (.agg (rl r).toArray) ∧ Below w.heap.size w w') := by
  rcases id D with ⟨h0, a, c, hv, ha⟩ | ⟨b, off, c, hv, h0, hc, hm, _⟩
  · subst hv
    cases a with
    | none => obtain rfl := ha rfl; exact written_nil h1 h6 w
    | some a => exact written_none h1 h6 a c w
  · exact written_some h1 h6 hv h0 hc hm w D
end Go.Proofs.YteogbpaaacmllaaDoor.Tab
namespace Go.Proofs.YteogbpaaacmllaaDoor.Tab
set_option maxRecDepth 20000
open Go.RowKit
set_option linter.unusedVariables false
theorem rec_desc : Tryd.prog.underlying 24 = some (.array 32 22) := by kernel_rfl
theorem rpart0 (c : Nat → Nat) (w : World) : (part 22 (rl c).toArray 0).run Tryd.prog w = .ok (.int .u64 (c 0 : Nat)) w := by kernel_rfl
theorem rpart1 (c : Nat → Nat) (w : World) : (part 22 (rl c).toArray 1).run Tryd.prog w = .ok (.int .u64 (c 1 : Nat)) w := by kernel_rfl
theorem rpart2 (c : Nat → Nat) (w : World) : (part 22 (rl c).toArray 2).run Tryd.prog w = .ok (.int .u64 (c 2 : Nat)) w := by kernel_rfl
theorem rpart3 (c : Nat → Nat) (w : World) : (part 22 (rl c).toArray 3).run Tryd.prog w = .ok (.int .u64 (c 3 : Nat)) w := by kernel_rfl
theorem rpart4 (c : Nat → Nat) (w : World) : (part 22 (rl c).toArray 4).run Tryd.prog w = .ok (.int .u64 (c 4 : Nat)) w := by kernel_rfl
theorem rpart5 (c : Nat → Nat) (w : World) : (part 22 (rl c).toArray 5).run Tryd.prog w = .ok (.int .u64 (c 5 : Nat)) w := by kernel_rfl
theorem rpart6 (c : Nat → Nat) (w : World) : (part 22 (rl c).toArray 6).run Tryd.prog w = .ok (.int .u64 (c 6 : Nat)) w := by kernel_rfl
theorem rpart7 (c : Nat → Nat) (w : World) : (part 22 (rl c).toArray 7).run Tryd.prog w = .ok (.int .u64 (c 7 : Nat)) w := by kernel_rfl
theorem rpart8 (c : Nat → Nat) (w : World) : (part 22 (rl c).toArray 8).run Tryd.prog w = .ok (.int .u64 (c 8 : Nat)) w := by kernel_rfl
theorem rpart9 (c : Nat → Nat) (w : World) : (part 22 (rl c).toArray 9).run Tryd.prog w = .ok (.int .u64 (c 9 : Nat)) w := by kernel_rfl
theorem rpart10 (c : Nat → Nat) (w : World) : (part 22 (rl c).toArray 10).run Tryd.prog w = .ok (.int .u64 (c 10 : Nat)) w := by kernel_rfl
theorem rpart11 (c : Nat → Nat) (w : World) : (part 22 (rl c).toArray 11).run Tryd.prog w = .ok (.int .u64 (c 11 : Nat)) w := by kernel_rfl
theorem rpart12 (c : Nat → Nat) (w : World) : (part 22 (rl c).toArray 12).run Tryd.prog w = .ok (.int .u64 (c 12 : Nat)) w := by kernel_rfl
theorem rpart13 (c : Nat → Nat) (w : World) : (part 22 (rl c).toArray 13).run Tryd.prog w = .ok (.int .u64 (c 13 : Nat)) w := by kernel_rfl
theorem rpart14 (c : Nat → Nat) (w : World) : (part 22 (rl c).toArray 14).run Tryd.prog w = .ok (.int .u64 (c 14 : Nat)) w := by kernel_rfl
theorem rpart15 (c : Nat → Nat) (w : World) : (part 22 (rl c).toArray 15).run Tryd.prog w = .ok (.int .u64 (c 15 : Nat)) w := by kernel_rfl
theorem rpart16 (c : Nat → Nat) (w : World) : (part 22 (rl c).toArray 16).run Tryd.prog w = .ok (.int .u64 (c 16 : Nat)) w := by kernel_rfl
theorem rpart17 (c : Nat → Nat) (w : World) : (part 22 (rl c).toArray 17).run Tryd.prog w = .ok (.int .u64 (c 17 : Nat)) w := by kernel_rfl
theorem rpart18 (c : Nat → Nat) (w : World) : (part 22 (rl c).toArray 18).run Tryd.prog w = .ok (.int .u64 (c 18 : Nat)) w := by kernel_rfl
theorem rpart19 (c : Nat → Nat) (w : World) : (part 22 (rl c).toArray 19).run Tryd.prog w = .ok (.int .u64 (c 19 : Nat)) w := by kernel_rfl
theorem rpart20 (c : Nat → Nat) (w : World) : (part 22 (rl c).toArray 20).run Tryd.prog w = .ok (.int .u64 (c 20 : Nat)) w := by kernel_rfl
theorem rpart21 (c : Nat → Nat) (w : World) : (part 22 (rl c).toArray 21).run Tryd.prog w = .ok (.int .u64 (c 21 : Nat)) w := by kernel_rfl
theorem rpart22 (c : Nat → Nat) (w : World) : (part 22 (rl c).toArray 22).run Tryd.prog w = .ok (.int .u64 (c 22 : Nat)) w := by kernel_rfl
theorem rpart23 (c : Nat → Nat) (w : World) : (part 22 (rl c).toArray 23).run Tryd.prog w = .ok (.int .u64 (c 23 : Nat)) w := by kernel_rfl
theorem rpart24 (c : Nat → Nat) (w : World) : (part 22 (rl c).toArray 24).run Tryd.prog w = .ok (.int .u64 (c 24 : Nat)) w := by kernel_rfl
theorem rpart25 (c : Nat → Nat) (w : World) : (part 22 (rl c).toArray 25).run Tryd.prog w = .ok (.int .u64 (c 25 : Nat)) w := by kernel_rfl
theorem rpart26 (c : Nat → Nat) (w : World) : (part 22 (rl c).toArray 26).run Tryd.prog w = .ok (.int .u64 (c 26 : Nat)) w := by kernel_rfl
theorem rpart27 (c : Nat → Nat) (w : World) : (part 22 (rl c).toArray 27).run Tryd.prog w = .ok (.int .u64 (c 27 : Nat)) w := by kernel_rfl
theorem rpart28 (c : Nat → Nat) (w : World) : (part 22 (rl c).toArray 28).run Tryd.prog w = .ok (.int .u64 (c 28 : Nat)) w := by kernel_rfl
theorem rpart29 (c : Nat → Nat) (w : World) : (part 22 (rl c).toArray 29).run Tryd.prog w = .ok (.int .u64 (c 29 : Nat)) w := by kernel_rfl
theorem rpart30 (c : Nat → Nat) (w : World) : (part 22 (rl c).toArray 30).run Tryd.prog w = .ok (.int .u64 (c 30 : Nat)) w := by kernel_rfl
theorem rpart31 (c : Nat → Nat) (w : World) : (part 22 (rl c).toArray 31).run Tryd.prog w = .ok (.int .u64 (c 31 : Nat)) w := by kernel_rfl
theorem rword_equal (x : Int) (w : World) : (Op.equalIn 9999 22 (.int .u64 x) (.int .u64 x)).run Tryd.prog w = .ok true w := by
  go_simp
theorem rec_equal (c : Nat → Nat) (w : World) : (Op.equalIn 10000 24 (.agg (rl c).toArray) (.agg (rl c).toArray)).run Tryd.prog w = .ok true w := by
  have hc : Tryd.prog.cellsOf 22 = 1 := by kernel_rfl
  cases hi : Tryd.prog.info? 22 with
  | none => simp [Program.cellsOf, hi] at hc
  | some i =>
    have h := run_equalIn_array (w := w) 9999 (rl c).toArray (rl c).toArray rec_desc hi
    rw [h, hc]
    have hr : List.range 32 = [0, 1, 2, 3, 4, 5, 6, 7, 8, 9, 10, 11, 12, 13, 14, 15, 16, 17, 18, 19, 20, 21, 22, 23, 24, 25, 26, 27, 28, 29, 30, 31] := by decide
    rw [hr]
    simp [Op.eqItems, rpart0 c w, rpart1 c w, rpart2 c w, rpart3 c w, rpart4 c w, rpart5 c w, rpart6 c w, rpart7 c w, rpart8 c w, rpart9 c w, rpart10 c w, rpart11 c w, rpart12 c w, rpart13 c w, rpart14 c w, rpart15 c w, rpart16 c w, rpart17 c w, rpart18 c w, rpart19 c w, rpart20 c w, rpart21 c w, rpart22 c w, rpart23 c w, rpart24 c w, rpart25 c w, rpart26 c w, rpart27 c w, rpart28 c w, rpart29 c w, rpart30 c w, rpart31 c w, rword_equal]
theorem rec_zero (w : World) : (Op.equalIn 10000 24 (.agg (rl wz).toArray) (.agg #[.int .u64 0, .int .u64 0, .int .u64 0, .int .u64 0, .int .u64 0, .int .u64 0, .int .u64 0, .int .u64 0, .int .u64 0, .int .u64 0, .int .u64 0, .int .u64 0, .int .u64 0, .int .u64 0, .int .u64 0, .int .u64 0, .int .u64 0, .int .u64 0, .int .u64 0, .int .u64 0, .int .u64 0, .int .u64 0, .int .u64 0, .int .u64 0, .int .u64 0, .int .u64 0, .int .u64 0, .int .u64 0, .int .u64 0, .int .u64 0, .int .u64 0, .int .u64 0])).run Tryd.prog w = .ok true w := rec_equal wz w
end Go.Proofs.YteogbpaaacmllaaDoor.Tab
